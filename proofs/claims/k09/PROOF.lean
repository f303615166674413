import PyProof.Rows.All
import Wide.All
import OpenK.AllK
import Wide.FinOn
import HandS.ForMost
import HandS.ForExc
import HandS.IsInst
import HandS.Style
import HandS.Small
import HandS.Zip
import HandS.TryMany
import HandS.Codes
import HandS.More
import KE.GoesEnumKw
import HandS.ExcInit
import HandS.ExcField
import HandS.OwnEq
import HandS.TupAny
import HandS.TupMul
import KE.KMinKey
import HandS.SortKw
import HandS.Walk
import PyProof.StrOps2
import PySem.Challenge.RW_knownquiet_k09_refusals_of_links
set_option Elab.async false
set_option maxRecDepth 100000
set_option maxHeartbeats 4000000
/-! B0: what all our texts share: a def and its promise in one word, data as a whole, the drawing hand. -/
namespace KQ
open PySem PySem.Spec PyProof.Rows L2

/-! ### a def behind the top, a def that keeps a promise -/
def FunAt (K : PySem.W.Frag) (mg : Str → Option Value) (x : Str) (st : Stmt) : Prop := ∃ f fd, Fun K x x st f fd ∧ mg x = some (.ref f)
def Has (P : Program) (w : World) (K : PySem.W.Frag) (mg : Str → Option Value) (base : Heap) (k : Nat) (x : Str) (ps : List Str) (sp : Sp) : Prop :=
  ∃ f fd, FnOk P w K mg base CX0 k f fd ps sp ∧ mg x = some (.ref f) ∧ PySem.W.keepIn K (.ref f) = true ∧ Binds K fd ps []
/-- .. one that may raise -/
def HasX (P : Program) (w : World) (K : PySem.W.Frag) (mg : Str → Option Value) (base : Heap) (k : Nat) (x : Str) (ps : List Str) (sp : Sp) : Prop :=
  ∃ f fd, FnOk P w K mg base (L2.CX P w) k f fd ps sp ∧ mg x = some (.ref f) ∧ PySem.W.keepIn K (.ref f) = true ∧ Binds K fd ps []
abbrev BindsTo? (st : Stmt) (x : Str) (ps : List Str) : Prop :=
  ∀ (kV doc pm : Value) (an : Option Addr) (cdv ct : Value) (us : List Value), us.length = ps.length → bindArgs (PySem.W.fnOf x x (defArgs st) (defBody st) (defScope st) .none kV doc pm an cdv ct) ⟨us, []⟩ = pure (ps.zip us)
section
variable {P : Program} {w : World} {K : PySem.W.Frag} {mg : Str → Option Value} {base : Heap}
theorem mk_has {x : Str} {st : Stmt} {N ps : List Str} {k : Nat} {sp : Sp} (F : FunAt K mg x st) (S : FnScope N ps (defScope st)) (hb : BindsTo? st x ps) (len : ∀ vs H Q E, sp vs H Q E → vs.length = ps.length)
    (body : ∀ (f : Addr) (cdv : Value) (A : Around) (outer : List Env) (s : Shared) (H : Hp) (vs : List V) (Q : VK) (E : XK), Room k (A.deeper (envOfC x (defScope st) s.heap.objs.size f cdv)) → sp vs H Q E →
      ∃ t, PSs (cxOf CX0 P w K mg base N x (defScope st) f cdv A outer s H E).nox (defBody st) t ∧ t { nx := fun _ H' => Q .non H', rt := Q } (start N vs) H) : Has P w K mg base (k + 1) x ps sp := by
  obtain ⟨f, fd, F, m⟩ := F
  exact ⟨f, fd, F.ok S len (fun cdv A outer s H vs Q E => body f cdv A outer s H vs Q E), m, F.kp, F.binds hb⟩
theorem mk_hasX {x : Str} {st : Stmt} {N ps : List Str} {k : Nat} {sp : Sp} (F : FunAt K mg x st) (S : FnScope N ps (defScope st)) (hb : BindsTo? st x ps) (len : ∀ vs H Q E, sp vs H Q E → vs.length = ps.length)
    (body : ∀ (f : Addr) (cdv : Value) (A : Around) (outer : List Env) (s : Shared) (H : Hp) (vs : List V) (Q : VK) (E : XK), Room k (A.deeper (envOfC x (defScope st) s.heap.objs.size f cdv)) → sp vs H Q E →
      ∃ t, PSs (cxOf (L2.CX P w) P w K mg base N x (defScope st) f cdv A outer s H E) (defBody st) t ∧ t { nx := fun _ H' => Q .non H', rt := Q } (start N vs) H) : HasX P w K mg base (k + 1) x ps sp := by
  obtain ⟨f, fd, F, m⟩ := F
  exact ⟨f, fd, F.okX S len (fun cdv A outer s H vs Q E => body f cdv A outer s H vs Q E), m, F.kp, F.binds hb⟩
theorem Has.mono {x : Str} {ps : List Str} {j k : Nat} {sp : Sp} (D : Has P w K mg base j x ps sp) (h : j ≤ k) : Has P w K mg base k x ps sp := by
  obtain ⟨f, fd, G, r⟩ := D
  exact ⟨f, fd, G.mono h, r⟩
theorem Has.imp {x : Str} {ps : List Str} {k : Nat} {sp sp' : Sp} (D : Has P w K mg base k x ps sp) (h : ∀ vs H Q E, sp' vs H Q E → sp vs H Q E) : Has P w K mg base k x ps sp' := by
  obtain ⟨f, fd, G, r⟩ := D
  exact ⟨f, fd, G.imp h, r⟩
end
section
variable {X : Cx} {k : Nat} {x : Str} {ps : List Str} {sp : Sp} {e : Expr} {es : List Expr} {p pos : Pos} {t : TA}
/-- f(e, ..), f by its promise -/
theorem pe_h (D : Has X.prog X.w X.K X.mg X.base k x ps sp) (hr : Room k X.A) (hg : Gl X x) (ha : PA X (e :: es) t) (hdb : (x == ("__debug__" : Str)) = false := by decide)
    (he : starEach (e :: es) X.env = (false, eval e X.env) :: starEach es X.env := by rfl) (hpl : (backTo pos (starEach es X.env)).any (·.1) = false := by rfl) :
    PE X (.Call (.Name x p) (e :: es) [] pos) (tCall sp [] E0 t) := by
  obtain ⟨f, fd, G, m, kp, b⟩ := D
  exact pe_call G hr hg m kp b .nil pass0 ha hdb he hpl
/-- .. one that may raise, in a try's body -/
theorem pe_hX {W : WX} (tk : Takes X W) (D : HasX X.prog X.w X.K X.mg X.base k x ps sp) (hr : Room k X.A) (hg : Gl X x) (ha : PA X (e :: es) t) (hdb : (x == ("__debug__" : Str)) = false := by decide)
    (he : starEach (e :: es) X.env = (false, eval e X.env) :: starEach es X.env := by rfl) (hpl : (backTo pos (starEach es X.env)).any (·.1) = false := by rfl) :
    PE X (.Call (.Name x p) (e :: es) [] pos) (tCallS sp (WE W) t) := by
  obtain ⟨f, fd, G, m, kp, b⟩ := D
  exact pe_callS G hr hg m kp b (passAt tk) ha hdb he hpl
end

/-! ### x is True, x is False, for any x -/
def rIsAny : R2 := fun x y H Q => ∃ b : Bool, y = .bl b ∧ Q (.bl (decide (x = .bl b))) H
theorem op_isB {X : Cx} : OpR X (compareOp .Is) rIsAny := by
  intro pins s σ H x y v u Q I rx ry h
  obtain ⟨b, rfl, q⟩ := h
  cases (show u = Value.bool b from ry)
  have fin : ∀ c : Bool, decide (x = V.bl b) = c → EP X pins σ Q (Value.bool c) s := fun c e => ⟨.bl c, H, I, rfl, by rw [← e]; exact q⟩
  cases x with
  | bl a =>
    cases (show v = Value.bool a from rx)
    by_cases e : a = b
    · subst e
      exact wpAny_is_self rfl (fin true (by simp))
    · exact wpAny_is_other rfl (fun z => e (Value.bool.inj z)) (fin false (by simp [e]))
  | non => cases (show v = Value.none from rx); exact wpAny_is_other rfl (by intro z; cases z) (fin false (by simp))
  | int i => obtain ⟨t, rfl⟩ := (show ∃ t, v = Value.int i t from rx); exact wpAny_is_other rfl (by intro z; cases z) (fin false (by simp))
  | str i => obtain ⟨t, rfl⟩ := (show ∃ t, v = Value.str i t from rx); exact wpAny_is_other rfl (by intro z; cases z) (fin false (by simp))
  | byt i => obtain ⟨t, rfl⟩ := (show ∃ t, v = Value.bytes i t from rx); exact wpAny_is_other rfl (by intro z; cases z) (fin false (by simp))
  | flt i => obtain ⟨t, rfl⟩ := (show ∃ t, v = Value.float i t from rx); exact wpAny_is_other rfl (by intro z; cases z) (fin false (by simp))
  | ref a => cases (show v = Value.ref a from rx); exact wpAny_is_other rfl (by intro z; cases z) (fin false (by simp))
  | ty n => cases (show v = Value.type n from rx); exact wpAny_is_other rfl (by intro z; cases z) (fin false (by simp))
end KQ
set_option Elab.async false
set_option maxRecDepth 100000
set_option maxHeartbeats 4000000
namespace KQ
open PySem PySem.Spec PyProof.Rows L2

/-! ### data as a whole, away from the places N that are written -/
mutual
inductive Rp (N : Addr → Prop) (H : Hp) : V → PyData → Prop
  | non : Rp N H .non .none
  | bl (b : Bool) : Rp N H (.bl b) (.bool b)
  | int (i : Int) : Rp N H (.int i) (.int i)
  | str (x : Str) : Rp N H (.str x) (.str x)
  | lst {a : Addr} {xs : List V} {ds : List PyData} : H a = some (.lst xs) → ¬ N a → RpAll N H xs ds → Rp N H (.ref a) (.list ds)
  | tup {a : Addr} {xs : List V} {ds : List PyData} : H a = some (.tup xs) → ¬ N a → RpAll N H xs ds → Rp N H (.ref a) (.tuple ds)
  | emp {a : Addr} : H a = some (.dK []) → ¬ N a → Rp N H (.ref a) (.dict [])
inductive RpAll (N : Addr → Prop) (H : Hp) : List V → List PyData → Prop
  | nil : RpAll N H [] []
  | cons {v : V} {vs : List V} {d : PyData} {ds : List PyData} : Rp N H v d → RpAll N H vs ds → RpAll N H (v :: vs) (d :: ds)
end
/-- all but what stands at N is kept -/
def Kp (N : Addr → Prop) (H H' : Hp) : Prop := ∀ a o, H a = some o → ¬ N a → H' a = some o
theorem Kp.refl {N : Addr → Prop} {H : Hp} : Kp N H H := fun _ _ e _ => e
theorem Kp.trans {N : Addr → Prop} {H H1 H2 : Hp} (a : Kp N H H1) (b : Kp N H1 H2) : Kp N H H2 := fun c o e n => b c o (a c o e n) n
theorem Kp.new {N : Addr → Prop} {H : Hp} {p : Addr} {o : HO} (h : H p = none) : Kp N H (upd H p o) := fun a u e _ => by rw [upd_ne (ne_of_none e h)]; exact e
theorem Kp.new' {N : Addr → Prop} {H0 H : Hp} {p : Addr} {o : HO} (k : Kp N H0 H) (h : H p = none) : Kp N H0 (upd H p o) := k.trans (Kp.new h)
theorem Kp.put {N : Addr → Prop} {H : Hp} {p : Addr} {o : HO} (h : N p) : Kp N H (upd H p o) := fun a u e n => by rw [upd_ne (fun z => n (by rw [z]; exact h))]; exact e
theorem Kp.put' {N : Addr → Prop} {H0 H : Hp} {p : Addr} {o : HO} (k : Kp N H0 H) (h : N p) : Kp N H0 (upd H p o) := k.trans (Kp.put h)
theorem Kp.of_same {N : Addr → Prop} {H H' : Hp} (h : Same H H') : Kp N H H' := fun a o e _ => h a o e
theorem Kp.wide {N N' : Addr → Prop} {H H' : Hp} (k : Kp N H H') (h : ∀ a, N a → N' a) : Kp N' H H' := fun a o e n => k a o e fun z => n (h a z)
/-- what is free behind was free ahead, if what is at N stays in being -/
theorem Kp.free {N : Addr → Prop} {H H' : Hp} (k : Kp N H H') (hn : ∀ a, N a → H' a ≠ none) {p : Addr} (h : H' p = none) : H p = none := by
  cases e : H p with
  | none => rfl
  | some o =>
    by_cases n : N p
    · exact absurd h (hn p n)
    · rw [k p o e n] at h; cases h
mutual
theorem Rp.kp {N N' : Addr → Prop} {H H' : Hp} (k : Kp N H H') (hN : ∀ a o, H a = some o → ¬ N a → ¬ N' a) : ∀ {v : V} {d : PyData}, Rp N H v d → Rp N' H' v d
  | _, _, .non => .non
  | _, _, .bl b => .bl b
  | _, _, .int i => .int i
  | _, _, .str x => .str x
  | _, _, .lst e n r => .lst (k _ _ e n) (hN _ _ e n) (r.kp k hN)
  | _, _, .tup e n r => .tup (k _ _ e n) (hN _ _ e n) (r.kp k hN)
  | _, _, .emp e n => .emp (k _ _ e n) (hN _ _ e n)
theorem RpAll.kp {N N' : Addr → Prop} {H H' : Hp} (k : Kp N H H') (hN : ∀ a o, H a = some o → ¬ N a → ¬ N' a) : ∀ {vs : List V} {ds : List PyData}, RpAll N H vs ds → RpAll N' H' vs ds
  | _, _, .nil => .nil
  | _, _, .cons r t => .cons (r.kp k hN) (t.kp k hN)
end
theorem Rp.to {N : Addr → Prop} {H H' : Hp} {v : V} {d : PyData} (r : Rp N H v d) (k : Kp N H H') : Rp N H' v d := r.kp k fun _ _ _ n => n
theorem RpAll.to {N : Addr → Prop} {H H' : Hp} {v : List V} {d : List PyData} (r : RpAll N H v d) (k : Kp N H H') : RpAll N H' v d := r.kp k fun _ _ _ n => n
/-- further places to be written, all new -/
theorem Rp.more {N N' : Addr → Prop} {H : Hp} {v : V} {d : PyData} (r : Rp N H v d) (h : ∀ a, N' a → N a ∨ H a = none) : Rp N' H v d :=
  r.kp Kp.refl fun a o e n z => (h a z).elim n fun q => by rw [q] at e; cases e
theorem RpAll.length {N : Addr → Prop} {H : Hp} : ∀ {vs : List V} {ds : List PyData}, RpAll N H vs ds → vs.length = ds.length
  | _, _, .nil => rfl
  | _, _, .cons _ t => congrArg (· + 1) t.length
theorem RpAll.get {N : Addr → Prop} {H : Hp} : ∀ {vs : List V} {ds : List PyData} {i : Nat} {v : V}, RpAll N H vs ds → vs[i]? = some v → ∃ d, ds[i]? = some d ∧ Rp N H v d
  | _, _, _, _, .nil, e => by simp at e
  | _, _, 0, _, .cons r _, e => by simp at e; subst e; exact ⟨_, rfl, r⟩
  | _, _, i + 1, _, .cons _ t, e => by simpa using t.get (i := i) (by simpa using e)
theorem RpAll.app {N : Addr → Prop} {H : Hp} : ∀ {vs ws : List V} {ds es : List PyData}, RpAll N H vs ds → RpAll N H ws es → RpAll N H (vs ++ ws) (ds ++ es)
  | _, _, _, _, .nil, s => s
  | _, _, _, _, .cons r t, s => .cons r (t.app s)
theorem RpAll.drop {N : Addr → Prop} {H : Hp} : ∀ {vs : List V} {ds : List PyData} (n : Nat), RpAll N H vs ds → RpAll N H (vs.drop n) (ds.drop n)
  | _, _, 0, r => r
  | _, _, _ + 1, .nil => .nil
  | _, _, n + 1, .cons _ t => RpAll.drop n t
theorem RpAll.take {N : Addr → Prop} {H : Hp} : ∀ {vs : List V} {ds : List PyData} (n : Nat), RpAll N H vs ds → RpAll N H (vs.take n) (ds.take n)
  | _, _, 0, _ => .nil
  | _, _, _ + 1, .nil => .nil
  | _, _, n + 1, .cons r t => .cons r (RpAll.take n t)
/-- the name of its type -/
def tyN : PyData → String
  | .none => "NoneType" | .bool _ => "bool" | .int _ => "int" | .str _ => "str" | .list _ => "list" | .tuple _ => "tuple" | .dict _ => "dict"
theorem Rp.ty {K : PySem.W.Frag} {N : Addr → Prop} {H : Hp} {v : V} {d : PyData} (r : Rp N H v d) : TyX K H v (.type (tyN d)) := by
  cases r with
  | non => exact .base .non
  | bl b => exact .base (.bl b)
  | int i => exact .base (.int i)
  | str x => exact .base (.str x)
  | lst e _ _ => exact .base (.lst e)
  | tup e _ _ => exact .base (.tup e)
  | emp e _ => exact .base (.dK e)
/-- is it of this kind (a flag is an int too) -/
def isT (T : String) (d : PyData) : Bool := tyN d == T || (T == "int" && tyN d == "bool")
def tyNs : List String := ["NoneType", "bool", "int", "str", "list", "tuple", "dict"]
theorem tyN_in (d : PyData) : tyN d ∈ tyNs := by cases d <;> simp [tyN, tyNs]
theorem kit_T {K : PySem.W.Frag} {T : String} (h : ∀ s ∈ tyNs, kitB s T = some (s == T || (T == "int" && s == "bool"))) (d : PyData) : PySem.W.kitOne K (.type (tyN d)) (.type T) = some (isT T d) := kit_ty (h _ (tyN_in d))
theorem kit_int {K : PySem.W.Frag} (d : PyData) : PySem.W.kitOne K (.type (tyN d)) (.type "int") = some (isT "int" d) := kit_T (by decide +kernel) d
theorem kit_bool {K : PySem.W.Frag} (d : PyData) : PySem.W.kitOne K (.type (tyN d)) (.type "bool") = some (isT "bool" d) := kit_T (by decide +kernel) d
theorem kit_str {K : PySem.W.Frag} (d : PyData) : PySem.W.kitOne K (.type (tyN d)) (.type "str") = some (isT "str" d) := kit_T (by decide +kernel) d
theorem kit_tuple {K : PySem.W.Frag} (d : PyData) : PySem.W.kitOne K (.type (tyN d)) (.type "tuple") = some (isT "tuple" d) := kit_T (by decide +kernel) d
theorem kit_list {K : PySem.W.Frag} (d : PyData) : PySem.W.kitOne K (.type (tyN d)) (.type "list") = some (isT "list" d) := kit_T (by decide +kernel) d
/-- isinstance(x, T) of a datum -/
theorem isi {K : PySem.W.Frag} {N : Addr → Prop} {H : Hp} {v : V} {d : PyData} {T : String} {Q : VK} (r : Rp N H v d) (k : PySem.W.kitOne K (.type (tyN d)) (.type T) = some (isT T d)) (q : Q (.bl (isT T d)) H) : rIsi K [v, .ty T] H Q :=
  ⟨v, .ty T, _, .type T, _, rfl, .ty T, r.ty, k, q⟩
/-- an integer, as the judges mean it -/
def intOf : PyData → Option Int
  | .int i => some i
  | _ => none
end KQ
set_option Elab.async false
set_option maxRecDepth 100000
set_option maxHeartbeats 4000000
namespace KQ
open PySem PySem.Spec PyProof.Rows L2

/-! ### an own error class without __init__: raised without arguments, caught by its name -/
section
variable {X : Cx} {C : Addr} {bmB : List Value} {B newId initId : String}
theorem pmk_bare {x : Str} {p pos : Pos} (F : ExcBaseFacts B newId initId bmB) (q : PySem.W.excIn X.K C bmB newId = true) (gC : X.mg x = some (.ref C)) (kC : PySem.W.keepIn X.K (.ref C) = true) (r : Raises X (.ref C)) (hg : Gl X x)
    (hdb : (x == ("__debug__" : Str)) = false := by decide) : PMk X (.Call (.Name x p) [] [] pos) (fun _ H Q => Q (.ref C) none H) := by
  intro pins s σ H Q I h
  refine wpAny_Call_Name_kw (ld_glob I hg gC ?_ hdb)
  refine PySem.W.callWith_K0 I.kIn kC ?_
  obtain ⟨bm, N, nm, qn, bs, hdct, sn, sub, ab, col, dd, k0, k1, k2, k3, k5, mN, hC, hN, hni, T⟩ := exc_obj I.kIn q
  obtain ⟨hp, g, d, t, os⟩ := s
  exact wpAny_call_exc_subT F T hC hN hni (rest := []) (fun h' e hm => mk_of I hm r h (I.hok.gone hm.new)) (Nat.zero_le _)
end
/-- what the written part says of such a class -/
structure ExcAt (K : PySem.W.Frag) (mg : Str → Option Value) (x : Str) (C : Addr) : Prop where
  g : mg x = some (.ref C)
  kp : PySem.W.keepIn K (.ref C) = true
  ex : PySem.W.excIn K C [.type "ValueError", .type "Exception", .type "BaseException", .type "object"] "ValueError.__new__" = true
  sub : PySem.W.subIn K (.ref C) (.type "BaseException") = some true
  ty : PySem.W.typeIn K (.ref C) = some (.type "type")
  own : PySem.W.subIn K (.ref C) (.ref C) = some true
  isC : PySem.W.isClsIn K C = true
theorem ExcAt.raises {X : Cx} {x : Str} {C : Addr} (T : ExcAt X.K X.mg x C) : Raises X (.ref C) := raises_own T.sub T.ty
theorem ExcAt.exm {K : PySem.W.Frag} {mg : Str → Option Value} {x : Str} {C : Addr} (T : ExcAt K mg x C) : PySem.W.exmOne K (.ref C) (.ref C) = some true := by
  unfold PySem.W.exmOne
  have e1 : (PySem.W.clsIn K C).isSome = true := T.isC
  simp [T.sub, PySem.W.kitCls, T.own, T.ty, e1]
theorem pmk_x {X : Cx} {x : Str} {C : Addr} {p pos : Pos} (T : ExcAt X.K X.mg x C) (hg : Gl X x) (hdb : (x == ("__debug__" : Str)) = false := by decide) : PMk X (.Call (.Name x p) [] [] pos) (fun _ H Q => Q (.ref C) none H) :=
  pmk_bare PySem.F.excBase_ValueError T.ex T.g T.kp T.raises hg hdb
/-- raise X() in a def that may raise it -/
def tRz (E : XK) (C : Addr) : TS := fun _ _ H => E (.ref C) none H
theorem ps_rz {X : Cx} {x : Str} {C : Addr} {W : WX} {p pos pos2 : Pos} (hc : X.calm = true) (tk : Takes X W) (T : ExcAt X.K X.mg x C) (hg : Gl X x) (hdb : (x == ("__debug__" : Str)) = false := by decide) :
    PS X (.Raise (some (.Call (.Name x p) [] [] pos)) none pos2) (fun _ σ H => W (.ref C) none σ H) := ps_raise hc tk (pmk_x T hg hdb)
end KQ
set_option Elab.async false
set_option maxRecDepth 100000
set_option maxHeartbeats 4000000
namespace KQ
open PySem PySem.Spec PyProof.Rows L2
/-! ### methods by their promises -/
/-- a method of the class at C as the top has left it -/
def MethAt (K : PySem.W.Frag) (C : Addr) (m qual : Str) (st : Stmt) : Prop := ∃ f fd, Fun K m qual st f fd ∧ Meth K C m f
def HasM (P : Program) (w : World) (K : PySem.W.Frag) (mg : Str → Option Value) (base : Heap) (k : Nat) (C : Addr) (m : Str) (ps : List Str) (sp : Sp) : Prop :=
  ∃ f fd, FnOk P w K mg base CX0 k f fd ps sp ∧ Meth K C m f ∧ Binds K fd ps []
def HasMX (P : Program) (w : World) (K : PySem.W.Frag) (mg : Str → Option Value) (base : Heap) (k : Nat) (C : Addr) (m : Str) (ps : List Str) (sp : Sp) : Prop :=
  ∃ f fd, FnOk P w K mg base (L2.CX P w) k f fd ps sp ∧ Meth K C m f ∧ Binds K fd ps []
/-- a class that is made by its own __init__ -/
def HasC (P : Program) (w : World) (K : PySem.W.Frag) (mg : Str → Option Value) (base : Heap) (k : Nat) (x : Str) (C : Addr) (ps : List Str) (sp : Sp) : Prop :=
  ∃ f fd, FnOk P w K mg base CX0 k f fd ps sp ∧ Mk K C f ∧ mg x = some (.ref C) ∧ Binds K fd ps []
def HasCX (P : Program) (w : World) (K : PySem.W.Frag) (mg : Str → Option Value) (base : Heap) (k : Nat) (x : Str) (C : Addr) (ps : List Str) (sp : Sp) : Prop :=
  ∃ f fd, FnOk P w K mg base (L2.CX P w) k f fd ps sp ∧ Mk K C f ∧ mg x = some (.ref C) ∧ Binds K fd ps []
abbrev BindsQ (st : Stmt) (x qual : Str) (ps : List Str) : Prop :=
  ∀ (kV doc pm : Value) (an : Option Addr) (cdv ct : Value) (us : List Value), us.length = ps.length → bindArgs (PySem.W.fnOf x qual (defArgs st) (defBody st) (defScope st) .none kV doc pm an cdv ct) ⟨us, []⟩ = pure (ps.zip us)
section
variable {P : Program} {w : World} {K : PySem.W.Frag} {mg : Str → Option Value} {base : Heap}
theorem mk_hasM {C : Addr} {x qual : Str} {st : Stmt} {N ps : List Str} {k : Nat} {sp : Sp} (F : MethAt K C x qual st) (S : FnScope N ps (defScope st)) (hb : BindsQ st x qual ps) (len : ∀ vs H Q E, sp vs H Q E → vs.length = ps.length)
    (body : ∀ (f : Addr) (cdv : Value) (A : Around) (outer : List Env) (s : Shared) (H : Hp) (vs : List V) (Q : VK) (E : XK), Room k (A.deeper (envOfC qual (defScope st) s.heap.objs.size f cdv)) → sp vs H Q E →
      ∃ t, PSs (cxOf CX0 P w K mg base N qual (defScope st) f cdv A outer s H E).nox (defBody st) t ∧ t { nx := fun _ H' => Q .non H', rt := Q } (start N vs) H) : HasM P w K mg base (k + 1) C x ps sp := by
  obtain ⟨f, fd, F, m⟩ := F
  exact ⟨f, fd, F.ok S len (fun cdv A outer s H vs Q E => body f cdv A outer s H vs Q E), m, F.binds hb⟩
theorem mk_hasMX {C : Addr} {x qual : Str} {st : Stmt} {N ps : List Str} {k : Nat} {sp : Sp} (F : MethAt K C x qual st) (S : FnScope N ps (defScope st)) (hb : BindsQ st x qual ps) (len : ∀ vs H Q E, sp vs H Q E → vs.length = ps.length)
    (body : ∀ (f : Addr) (cdv : Value) (A : Around) (outer : List Env) (s : Shared) (H : Hp) (vs : List V) (Q : VK) (E : XK), Room k (A.deeper (envOfC qual (defScope st) s.heap.objs.size f cdv)) → sp vs H Q E →
      ∃ t, PSs (cxOf (L2.CX P w) P w K mg base N qual (defScope st) f cdv A outer s H E) (defBody st) t ∧ t { nx := fun _ H' => Q .non H', rt := Q } (start N vs) H) : HasMX P w K mg base (k + 1) C x ps sp := by
  obtain ⟨f, fd, F, m⟩ := F
  exact ⟨f, fd, F.okX S len (fun cdv A outer s H vs Q E => body f cdv A outer s H vs Q E), m, F.binds hb⟩
/-- a class's __init__ -/
def InitAt (K : PySem.W.Frag) (mg : Str → Option Value) (x : Str) (C : Addr) (qual : Str) (st : Stmt) : Prop := ∃ f fd, Fun K "__init__" qual st f fd ∧ Mk K C f ∧ mg x = some (.ref C)
theorem mk_hasC {C : Addr} {x qual : Str} {st : Stmt} {N ps : List Str} {k : Nat} {sp : Sp} (F : InitAt K mg x C qual st) (S : FnScope N ps (defScope st)) (hb : BindsQ st "__init__" qual ps) (len : ∀ vs H Q E, sp vs H Q E → vs.length = ps.length)
    (body : ∀ (f : Addr) (cdv : Value) (A : Around) (outer : List Env) (s : Shared) (H : Hp) (vs : List V) (Q : VK) (E : XK), Room k (A.deeper (envOfC qual (defScope st) s.heap.objs.size f cdv)) → sp vs H Q E →
      ∃ t, PSs (cxOf CX0 P w K mg base N qual (defScope st) f cdv A outer s H E).nox (defBody st) t ∧ t { nx := fun _ H' => Q .non H', rt := Q } (start N vs) H) : HasC P w K mg base (k + 1) x C ps sp := by
  obtain ⟨f, fd, F, m, g⟩ := F
  exact ⟨f, fd, F.ok S len (fun cdv A outer s H vs Q E => body f cdv A outer s H vs Q E), m, g, F.binds hb⟩
theorem mk_hasCX {C : Addr} {x qual : Str} {st : Stmt} {N ps : List Str} {k : Nat} {sp : Sp} (F : InitAt K mg x C qual st) (S : FnScope N ps (defScope st)) (hb : BindsQ st "__init__" qual ps) (len : ∀ vs H Q E, sp vs H Q E → vs.length = ps.length)
    (body : ∀ (f : Addr) (cdv : Value) (A : Around) (outer : List Env) (s : Shared) (H : Hp) (vs : List V) (Q : VK) (E : XK), Room k (A.deeper (envOfC qual (defScope st) s.heap.objs.size f cdv)) → sp vs H Q E →
      ∃ t, PSs (cxOf (L2.CX P w) P w K mg base N qual (defScope st) f cdv A outer s H E) (defBody st) t ∧ t { nx := fun _ H' => Q .non H', rt := Q } (start N vs) H) : HasCX P w K mg base (k + 1) x C ps sp := by
  obtain ⟨f, fd, F, m, g⟩ := F
  exact ⟨f, fd, F.okX S len (fun cdv A outer s H vs Q E => body f cdv A outer s H vs Q E), m, g, F.binds hb⟩
end
section
variable {X : Cx} {k : Nat} {C : Addr} {x m : Str} {ps : List Str} {sp : Sp} {e o : Expr} {es : List Expr} {p pos apos : Pos} {ta : TE} {t : TA} {pl : Sem Bool}
theorem pe_m (D : HasM X.prog X.w X.K X.mg X.base k C m ps sp) (c : Cls X.K C) (hr : Room k X.A) (ho : PE X o ta) (ha : PA X (e :: es) t)
    (hst : starEach (e :: es) X.env = (false, eval e X.env) :: starEach es X.env := by rfl) (hpl : (backTo pos (starEach es X.env)).any (·.1) = false := by rfl)
    (ht : eval (.Call (.Attribute o m apos) (e :: es) [] pos) X.env = (do
      let ov ← eval o X.env
      standAt apos.atName
      let (f, first) ← holding [ov] (getMethod ov m pl)
      callWith pos f first (backTo pos (starEach (e :: es) X.env)) (backToKw pos (keywordEach [] X.env))) := by rfl) :
    PE X (.Call (.Attribute o m apos) (e :: es) [] pos) (tMeth C m sp [] E0 ta t) := by
  obtain ⟨f, fd, G, M, b⟩ := D
  exact pe_meth ho c M G hr b .nil pass0 ha hst hpl ht
theorem pe_m0 (D : HasM X.prog X.w X.K X.mg X.base k C m ps sp) (c : Cls X.K C) (hr : Room k X.A) (ho : PE X o ta)
    (ht : eval (.Call (.Attribute o m apos) [] [] pos) X.env = (do
      let ov ← eval o X.env
      standAt apos.atName
      let (f, first) ← holding [ov] (getMethod ov m pl)
      callWith pos f first (backTo pos (starEach [] X.env)) (backToKw pos (keywordEach [] X.env))) := by rfl) :
    PE X (.Call (.Attribute o m apos) [] [] pos) (tMeth C m sp [] E0 ta tNil) := by
  obtain ⟨f, fd, G, M, b⟩ := D
  exact pe_meth0 ho c M G hr b .nil pass0 ht
/-- a method that may raise, called where that is wished for (W) -/
def tMethW (C : Addr) (m : Str) (sp : Sp) (W : WX) (ta : TE) (t : TA) : TE := fun σ H Q => ta σ H fun x H1 => ∃ a dx fs, x = .ref a ∧ H1 a = some (.ins C dx fs) ∧ fs.lookup m = none ∧ t σ H1 fun vs H2 => sp (x :: vs) H2 Q (WE W σ)
theorem pe_mX {W : WX} (tk : Takes X W) (D : HasMX X.prog X.w X.K X.mg X.base k C m ps sp) (c : Cls X.K C) (hr : Room k X.A) (ho : PE X o ta) (ha : PA X (e :: es) t)
    (hst : starEach (e :: es) X.env = (false, eval e X.env) :: starEach es X.env := by rfl) (hpl : (backTo pos (starEach es X.env)).any (·.1) = false := by rfl)
    (ht : eval (.Call (.Attribute o m apos) (e :: es) [] pos) X.env = (do
      let ov ← eval o X.env
      standAt apos.atName
      let (f, first) ← holding [ov] (getMethod ov m pl)
      callWith pos f first (backTo pos (starEach (e :: es) X.env)) (backToKw pos (keywordEach [] X.env))) := by rfl) :
    PE X (.Call (.Attribute o m apos) (e :: es) [] pos) (tMethW C m sp W ta t) := by
  obtain ⟨f, fd, G, M, b⟩ := D
  constructor
  intro pins s σ H Q I h
  refine PySem.W.methodCall_KW (pl := pl) (thn (ho.run pins s σ H _ I h) ?_) ht
  rintro u s1 ⟨x, H1, I1, rx, a, dx, fs, rfl, ea, l, q⟩
  obtain rfl : u = Value.ref a := rx
  refine getmeth_ok I1 ea c M l (PySem.W.callWith_K (first := [.ref a]) (h₀ := X.base) I.ok.mod.kin M.kp (thn (ha.run pos pins s1 σ H1 _ I1 q) ?_) hst hpl)
  rintro us s2 ⟨vs, H2, I2, r, q2⟩
  exact ⟨I2.kIn, run_fnS (us := .ref a :: us) (vs := .ref a :: vs) G hr b (passAt tk σ) I2 (.cons rfl r) q2⟩
theorem pe_c (D : HasC X.prog X.w X.K X.mg X.base k x C ps sp) (hr : Room (k + 1) X.A) (hg : Gl X x) (ha : PA X (e :: es) t) (hdb : (x == ("__debug__" : Str)) = false := by decide)
    (he : starEach (e :: es) X.env = (false, eval e X.env) :: starEach es X.env := by rfl) (hpl : (backTo pos (starEach es X.env)).any (·.1) = false := by rfl) :
    PE X (.Call (.Name x p) (e :: es) [] pos) (tMake C sp [] E0 t) := by
  obtain ⟨f, fd, G, M, g, b⟩ := D
  exact pe_make M G hr hg g b .nil pass0 ha hdb he hpl
theorem pe_c0 (D : HasC X.prog X.w X.K X.mg X.base k x C ps sp) (hr : Room (k + 1) X.A) (hg : Gl X x) (hdb : (x == ("__debug__" : Str)) = false := by decide) :
    PE X (.Call (.Name x p) [] [] pos) (tMake C sp [] E0 tNil) := by
  obtain ⟨f, fd, G, M, g, b⟩ := D
  exact pe_make0 M G hr hg g b .nil pass0 hdb
end
end KQ
set_option Elab.async false
set_option maxRecDepth 100000
set_option maxHeartbeats 4000000
/-! B4: from the facts that the head finds to defs, methods, classes; the law's own end. -/
namespace KQ
open PySem PySem.Spec PyProof.Rows L2
section
variable {K : PySem.W.Frag} {h : Heap} {mg : Str → Option Value} {x m qual : Str} {st : Stmt} {f C : Addr} {oc : Value} {od an : Option Addr} {kV doc pm cdv ct : Value} {sl : Array (Option Value)}
theorem funAt_of (X : K.In h) (G : h.Ns mainGlobals mg) (a : PySem.W.nsIn K mainGlobals x = some (some (.ref f))) (l : K.lookup f = some ⟨oc, od, .func (PySem.W.fnOf x x (defArgs st) (defBody st) (defScope st) .none kV doc pm an cdv ct), sl⟩)
    (c : PySem.W.codeIn K cdv x = true) (k : PySem.W.keepIn K (.ref f) = true) : FunAt K mg x st := ⟨f, _, fun_mk l c k, PySem.W.mg_of X G a⟩
theorem methAt_of (a : PySem.W.findIn K (.ref C) m = some (some (.ref f))) (i : PySem.W.isFn K (.ref f) = true) (l : K.lookup f = some ⟨oc, od, .func (PySem.W.fnOf m qual (defArgs st) (defBody st) (defScope st) .none kV doc pm an cdv ct), sl⟩)
    (c : PySem.W.codeIn K cdv qual = true) (k : PySem.W.keepIn K (.ref f) = true) : MethAt K C m qual st := ⟨f, _, fun_mk l c k, ⟨a, i, k⟩⟩
theorem initAt_of (X : K.In h) (G : h.Ns mainGlobals mg) (aC : PySem.W.nsIn K mainGlobals x = some (some (.ref C))) (mk : PySem.W.makesIn K C = true) (kC : PySem.W.keepIn K (.ref C) = true)
    (a : PySem.W.findIn K (.ref C) "__init__" = some (some (.ref f))) (i : PySem.W.isFn K (.ref f) = true) (l : K.lookup f = some ⟨oc, od, .func (PySem.W.fnOf "__init__" qual (defArgs st) (defBody st) (defScope st) .none kV doc pm an cdv ct), sl⟩)
    (c : PySem.W.codeIn K cdv qual = true) (k : PySem.W.keepIn K (.ref f) = true) : InitAt K mg x C qual st := ⟨f, _, fun_mk l c k, ⟨mk, a, i, kC⟩, PySem.W.mg_of X G aC⟩
/-- a built-in name that the text leaves alone -/
theorem free_of (X : K.In h) (G : h.Ns mainGlobals mg) (e : PySem.W.nsIn K mainGlobals x = some none) : mg x = none := PySem.W.mg_none_of X G e
theorem excAt_of (X : K.In h) (G : h.Ns mainGlobals mg) (a : PySem.W.nsIn K mainGlobals x = some (some (.ref C))) (kp : PySem.W.keepIn K (.ref C) = true)
    (ex : PySem.W.excIn K C [.type "ValueError", .type "Exception", .type "BaseException", .type "object"] "ValueError.__new__" = true) (sub : PySem.W.subIn K (.ref C) (.type "BaseException") = some true)
    (ty : PySem.W.typeIn K (.ref C) = some (.type "type")) (own : PySem.W.subIn K (.ref C) (.ref C) = some true) (isC : PySem.W.isClsIn K C = true) : ExcAt K mg x C := ⟨PySem.W.mg_of X G a, kp, ex, sub, ty, own, isC⟩
end
theorem walkX {l : PySem.W.OpenLaw} {k : Nat} {q : Program} {loose : List Str} {XP : (Str → Option Value) → Heap → Prop} {YP : World → Heap → Prop} {d : DefRec} {K : Params → PySem.W.Frag} {sp : PySem.W.Frag → Sp} (hn : l.most = some 63) (hdf : d.params.defaults = []) (hr : Room k callerA)
    (hY : ∀ (w : World) (h : Heap), YP w h → (K w.params).In h)
    (F : ∀ (w : World) (mg : Str → Option Value) (fa : Addr) (h : Heap), (K w.params).In h → h.Ns mainGlobals mg → XP mg h → mg d.name = some (.ref fa) →
      ∃ fd : FuncData, (∀ (s : Shared) (u : Value), BindsTo s fd ⟨[u], []⟩ [("script", u)]) ∧ ∀ base : Heap, FnOk l.prog w (K w.params) mg base CX0 k fa fd ["script"] (sp (K w.params)))
    (hsp : ∀ (K : PySem.W.Frag) (H : Hp) (a : Addr) (ns : List Int), ns.length ≤ 63 → SqL K H a (ns.map V.int) → sp K [.ref a] H (fun v _ => v = .bl true) fun _ _ _ => False) :
    PySem.W.WalkO q loose XP YP l.row.toRowW d [] (fun f vs => PySem.call f vs) :=
  Att.attach_call hn hdf fun w _ s₁ mg _ fa _ _ _ _ a _ ns G Y _ _ _ hmg hobj hints hlen hg =>
    let ⟨_, hb, hF⟩ := F w mg fa _ (hY w _ Y) G.T.g G.X hmg
    law_call (CX := CX0) (hY w _ Y) G.T.g G.T.b G.T.builtins G.T.nolimit hg hobj hints (Nat.le_trans hlen (by decide)) hr (fun base _ _ => hF base) hb (fun H _ hS => hsp _ H a ns hlen hS) fun _ _ _ z => z
end KQ
set_option Elab.async false
set_option maxRecDepth 100000
set_option maxHeartbeats 4000000
/-! B5: enumerate of a tuple, walked. -/
namespace KQ
open PySem PySem.Spec PyProof.Rows L2
set_option maxHeartbeats 4000000 in
theorem enum_new {v : Value} {o : Obj} {Z : Heap → Prop} (B : Begins v o Z) :
    Meets (Builtin.«enumerate.__new__» ⟨[.type "enumerate", v], []⟩) (fun _ R s => Z s.heap ∧
      R (.ok (.ret (.ref (s.heap.push o).objs.size))) { s with heap := (s.heap.push o).push { cls := .type "enumerate", data := .fields #[.none, .bool false, .ref s.heap.objs.size, rawInt 0, .none, .none] } }) := by
  refine .of_wp fun prog w A R s h => ?_
  obtain ⟨hp, g, d, tk, os⟩ := s
  obtain ⟨h1, h⟩ := h
  have hsub := sub_enumerate
  have it : ∀ {A' : Around} {E Q : Value → Shared → Prop}, Q (.ref hp.objs.size) ⟨hp.push o, g, d, tk, os⟩ → wpAny (model prog w) A' (pyIter v) Q E ⟨hp, g, d, tk, os⟩ := fun q => B.iter prog w _ _ ⟨hp, g, d, tk, os⟩ _ h1 q
  wp_walk using it
  refine wpAny_stack_any fun st => wpAny_pure ?_
  split
  · rename_i c _ _ _ _ _
    cases (c == Value.type "enumerate") <;> (wp_walk using it) <;> exact ⟨_, rfl, h⟩
  · wp_walk using it
    exact ⟨_, rfl, h⟩
theorem enum_call {prog : Program} {w : World} {A : Around} {E : Value → Shared → Prop} {s : Shared} {v : Value} {o : Obj} {Z : Heap → Prop} {Q : Value → Shared → Prop} (B : Begins v o Z) (h1 : Z s.heap)
    (h : ∀ h', IsEnum h' (s.heap.objs.size + 1) s.heap.objs.size 0 .none → h'.get? s.heap.objs.size = some o → (∀ b o, s.heap.get? b = some o → h'.get? b = some o) → Q (.ref (s.heap.objs.size + 1)) { s with heap := h' }) :
    wpAny (model prog w) A (call (.type "enumerate") [v]) Q E s := by
  refine callType_new F.called_enumerate (by decide) (F.typeCall_enumerate_1 _) (F.newCall_enumerate_1 _) (fun obj => F.args_object_init_2 obj _) F.entry_enumerate_new (enum_new B) ⟨h1, ?_⟩
  have hz : (s.heap.push o).objs.size = s.heap.objs.size + 1 := Heap.size_push ..
  have he : IsEnum ((s.heap.push o).push { cls := .type "enumerate", data := .fields #[.none, .bool false, .ref s.heap.objs.size, rawInt 0, .none, .none] }) (s.heap.objs.size + 1) s.heap.objs.size 0 .none := by
    have q := Heap.get?_push_size (s.heap.push o) (o := { cls := .type "enumerate", data := .fields #[.none, .bool false, .ref s.heap.objs.size, rawInt 0, .none, .none] }) rfl
    rwa [hz] at q
  show _ ∧ _
  rw [hz]
  exact ⟨⟨_, he, rfl⟩, h _ he (Heap.get?_push_of_some _ (Heap.get?_push_size _ B.free)) fun b u x => Heap.get?_push_of_some _ (Heap.get?_push_of_some _ x)⟩
/-- the tuple at a, each item in a new pair with its number -/
def Iet (K : PySem.W.Frag) (a : Addr) : It :=
  ⟨fun i H => ∃ (xs : List V) (x : V), SqT K H a xs ∧ xs[i]? = some x, fun i H v H' => ∃ T x, v = .ref T ∧ H T = none ∧ H' = upd H T (.tup [.int (i : Nat), x]) ∧ ∀ xs, SqT K H a xs → xs[i]? = some x, fun i H => ∃ xs : List V, SqT K H a xs ∧ xs.length = i⟩
theorem turn_et {P : Program} {w : World} {K : PySem.W.Frag} {elts : List Expr} {kk : Nat} {tpos : Pos} (a e it : Addr) :
    Turn P w K (.Tuple elts kk tpos) (Iet K a) [e, it] e (fun i h => (∃ old, IsEnum h e it ((i : Nat) : Int) old) ∧ h.IsTupleIter it a i ∧ e ≠ it) := by
  refine ⟨by simp, fun i h st b hb => ?_, fun i h h' st k => ?_, ?_, ?_, fun A i s Q E st h => let ⟨⟨_, he⟩, _⟩ := st; wpAny_pyIter_enum he h⟩
  · obtain ⟨⟨old, he⟩, ⟨o, ho, hc, hd⟩, _⟩ := st
    have eb : b = e ∨ b = it := by simpa using hb
    rcases eb with z | z
    · rw [z]
      exact ⟨_, he, fun v q => nomatch q⟩
    · rw [z]
      exact ⟨o, ho, fun v q => by rw [hd] at q; cases q⟩
  · obtain ⟨⟨old, he⟩, hi, hne⟩ := st
    exact ⟨⟨old, k e (by simp) _ he⟩, hi.at fun o q => k it (by simp) o q, hne⟩
  · intro X hP hw hK hc i pins s σ H E I hf st hg
    subst hP hw hK
    obtain ⟨⟨old, he⟩, hit, hne⟩ := st
    obtain ⟨xs, x, hq, hx⟩ := hg
    obtain ⟨its, rv, p, hz⟩ := I.tuple hq
    obtain ⟨u, hu, ru⟩ := rv.get hx
    have hel : e < s.heap.objs.size := Heap.lt_size he
    have hil : it < s.heap.objs.size := by obtain ⟨_, q, _⟩ := hit; exact Heap.lt_size q
    have hai : a ≠ it := by
      rintro rfl
      obtain ⟨o1, q1, _, d1⟩ := hit
      obtain ⟨o2, q2, _, _, d2⟩ := p
      rw [q1] at q2
      cases q2
      rw [d1] at d2
      cases d2
    have hea : e ≠ a := by
      rintro rfl
      obtain ⟨o2, q2, _, _, d2⟩ := p
      have he' : s.heap.get? e = some _ := he
      rw [he'] at q2
      cases q2
      cases d2
    refine wpAny_pyNext_enum_itemD (Draws.tuple (A := X.A.in1) (I.ok.hd hc) it a hai its.toArray) he ⟨hit, p⟩ (by have := (List.getElem?_eq_some_iff.mp hu).1; simpa using this) hne (by simp [hne, hea]) fun y h' tk hy ho hst hT hsz hk => ?_
    have ey : y = u := by
      have hy' : its.toArray[i]? = some y := hy
      rw [List.getElem?_toArray, hu] at hy'
      exact (Option.some.inj hy').symm
    subst ey
    refine ⟨_, rfl, wpAny_letOwnedTupleGo_enum (s := { s with heap := h', toks := tk + 1 }) ho fun h'' he' sb => ?_⟩
    have hT2 : h''.get? s.heap.objs.size = some { cls := .type "tuple", data := .seq #[.int i tk, y] } := (sb.2 _ (Nat.ne_of_gt hel)).trans hT
    have new : ObjOk X.prog X.w (upd H s.heap.objs.size (.tup [.int (i : Nat), x])) h'' s.heap.objs.size (.tup [.int (i : Nat), x]) :=
      ⟨by show 2 ≤ sizeLine; decide, [.int i tk, y], .cons ⟨_, rfl⟩ (.cons ru .nil), ⟨_, hT2, rfl, _, rfl⟩⟩
    have I1 : Inv X pins σ (upd H s.heap.objs.size (.tup [.int (i : Nat), x])) { s with heap := h'', toks := tk + 1 } :=
      I.turnedNew (ch := [e, it]) (fun b ob hb q => (sb.2 b (fun z => hb (by simp [z]))).trans (hk b ob (fun z => hb (by simp [z])) (fun z => hb (by simp [z])) q)) hf (Nat.le_refl _) new
    refine ⟨.ref s.heap.objs.size, _, I1, rfl, ⟨_, x, rfl, I.hok.fresh (Nat.le_refl _), rfl, fun ys hy => by rw [I.tuple_inj hy hq]; exact hx⟩, ⟨⟨y, ?_⟩, hst.1.at fun o q => (sb.2 it (Ne.symm hne)).trans q, hne⟩, fun b hb => ?_⟩
    · rw [show ((i + 1 : Nat) : Int) = (i : Int) + 1 by omega]
      exact he'
    · have eb : b = e ∨ b = it := by simpa using hb
      have hb' : b < s.heap.objs.size := by rcases eb with z | z <;> rw [z] <;> assumption
      rw [upd_ne (Nat.ne_of_lt hb')]
      exact (hf b hb).1
  · intro X hP hw hK hc i pins s σ H E I hf st hg
    subst hP hw hK
    obtain ⟨⟨old, he⟩, hit, hne⟩ := st
    obtain ⟨xs, hq, hx⟩ := hg
    obtain ⟨its, rv, p, hz⟩ := I.tuple hq
    obtain ⟨f0, f1, f2, f3, f4, f5⟩ := hf it (by simp)
    have hl := rv.length
    have hai : a ≠ it := by
      rintro rfl
      obtain ⟨o1, q1, _, d1⟩ := hit
      obtain ⟨o2, q2, _, _, d2⟩ := p
      rw [q1] at q2
      cases q2
      rw [d1] at d2
      cases d2
    exact wpAny_pyNext_enum_endD (Draws.tuple (A := X.A.in1) (I.ok.hd hc) it a hai its.toArray) he ⟨by rw [show its.toArray.size = i by simp; omega]; exact hit, p⟩ fun h' eb => ⟨rfl, I.turned (t' := s.toks) (fun b o hb q => eb b o hb q) f0 f1 f3 f4 f5⟩
def iEt (K : PySem.W.Frag) (ta : TA) : TI := fun σ H R => ta σ H fun vs H1 => ∃ a xs, vs = [.ref a] ∧ SqT K H1 a xs ∧ R (Iet K a) H1
theorem pi_enumT {X : Cx} {e : Expr} {ta : TA} {p pos tpos : Pos} {elts : List Expr} {kk : Nat} (hg : Gl X "enumerate") (hm : X.mg "enumerate" = none) (ha : PA X [e] ta) (hs : starEach [e] X.env = [(false, eval e X.env)] := by rfl) :
    PI X (.Tuple elts kk tpos) (.Call (.Name "enumerate" p) [e] [] pos) (iEt X.K ta) := by
  constructor
  intro pins s σ H R I h
  refine Call_ (ld_blt I hg hm boot_enumerate (PyProof.Rows.callWith_type1 (thn (ha.run pos pins s σ H _ I h) ?_) hs rfl))
  rintro us s1 ⟨vs, H1, I1, r1, a, xs, rfl, hq, q⟩
  cases r1 with
  | cons r rr =>
    cases rr
    cases r
    obtain ⟨its, rv, p', hz⟩ := I1.tuple hq
    refine enum_call (begins_tuple a its.toArray) p' fun h' he hit hk => wpAny_pyIter_enum he ?_
    have I2 : Inv X pins σ H1 { s1 with heap := h' } := I1.kept (t' := s1.toks) hk
    refine ⟨s1.heap.objs.size + 1, [s1.heap.objs.size + 1, s1.heap.objs.size], _, _, H1, rfl, I2, turn_et a (s1.heap.objs.size + 1) s1.heap.objs.size, ⟨⟨.none, he⟩, ⟨_, hit, rfl, rfl⟩, Nat.succ_ne_self _⟩, fun b hb => ?_, q⟩
    have eb : b = s1.heap.objs.size + 1 ∨ b = s1.heap.objs.size := by simpa using hb
    have hle : s1.heap.objs.size ≤ b := by
      rcases eb with z | z <;> rw [z]
      · exact Nat.le_add_right _ _
      · exact Nat.le_refl _
    exact I1.fpOk hle (I1.hok.fresh hle)
theorem for_et {K : PySem.W.Frag} {a : Addr} {xs : List V} {g : TG} {tb : TS} {D : Ends} {σ : L2.St} {H : Hp} (Pv : Nat → L2.St → Hp → Prop) (h0 : Pv 0 σ H) (hq : ∀ i σ H, Pv i σ H → SqT K H a xs)
    (hs : ∀ (i : Nat) (x : V) (T : Addr) (σ : L2.St) (H : Hp), xs[i]? = some x → Pv i σ H → H T = none → g (.ref T) σ (upd H T (.tup [.int (i : Nat), x])) fun σ2 H2 => tb { D with nx := Pv (i + 1), ct := Pv (i + 1), bk := D.nx } σ2 H2) (hd : ∀ σ H, Pv xs.length σ H → D.nx σ H) :
    ∃ W : Nat → Nat → L2.St → Hp → Prop, (∃ m, W 0 m σ H) ∧ ∀ i m σ H, W i m σ H →
      ((Iet K a).stop i H ∧ D.nx σ H) ∨ ((Iet K a).go i H ∧ ∃ N : L2.St → Hp → Prop, (∀ σ' H', N σ' H' → ∃ m', m' < m ∧ W (i + 1) m' σ' H') ∧ ∀ x H', (Iet K a).yld i H x H' → g x σ H' fun σ2 H2 => tb { D with nx := N, ct := N, bk := D.nx } σ2 H2) := by
  refine ⟨fun i m σ H => m = xs.length - i ∧ i ≤ xs.length ∧ Pv i σ H, ⟨_, rfl, Nat.zero_le _, h0⟩, ?_⟩
  rintro i m σ H ⟨rfl, hi, pv⟩
  have q := hq i σ H pv
  rcases Nat.lt_or_eq_of_le hi with hlt | he
  · refine .inr ⟨⟨xs, xs[i], q, by simp [hlt]⟩, Pv (i + 1), fun σ' H' p' => ⟨_, by omega, rfl, hlt, p'⟩, ?_⟩
    rintro x H' ⟨T, y, rfl, nT, rfl, hy⟩
    have ey : xs[i]? = some y := hy xs q
    exact hs i y T σ H ey pv nT
  · subst he
    exact .inl ⟨⟨xs, q, rfl⟩, hd σ H pv⟩
end KQ
set_option Elab.async false
set_option maxRecDepth 100000
set_option maxHeartbeats 4000000
/-! B6: errors with a field; a class whose making may raise. -/
namespace KQ
open PySem PySem.Spec PyProof.Rows L2
/-- __init__ of an error with one field: it is stored -/
def spErrInit (C : Addr) (fld : Str) : Sp := fun vs H Q _ => ∃ (a : Addr) (v : V), vs = [.ref a, v] ∧ H a = some (exo a C none) ∧ ∀ dx, H dx = none → dx ≠ a → Q .non (upd (upd H dx (exd dx [(fld, v)])) a (exo a C (some dx)))
structure ErrAt (P : Program) (w : World) (K : PySem.W.Frag) (mg : Str → Option Value) (base : Heap) (x : Str) (C : Addr) (fld : Str) : Prop where
  g : mg x = some (.ref C)
  oex : OexC K C
  xf : XfC K C
  no : PySem.W.findIn K (.ref C) fld = some none
  exm : PySem.W.exmOne K (.ref C) (.ref C) = some true
  ini : ∃ f fd, PySem.W.findIn K (.ref C) "__init__" = some (some (.ref f)) ∧ PySem.W.typeIn K (.ref f) = some (.type "function") ∧ FnOk P w K mg base CX0 1 f fd ["self", fld] (spErrInit C fld) ∧ Binds K fd ["self", fld] []
/-- what is left to show of X(v), v already told -/
theorem mk_err {C : Addr} {fld : Str} {v : V} {H1 : Hp} {Q : XK} (h : ∀ d, H1 d = none → Q (.ref C) (some d) (upd H1 d (.xd [(fld, v)]))) :
    [v].length ≤ 1000 ∧ ∀ a, H1 a = none → spErrInit C fld (.ref a :: ([v] ++ [])) (upd H1 a (exo a C none)) (fun u H2 => u = .non ∧ ∃ (d : Addr) (fs : List (Str × V)), H2 a = some (exo a C (some d)) ∧ H2 d = some (exd d fs) ∧ H1 d = none ∧ Q (.ref C) (some d) (upd (del H2 a) d (.xd fs))) (fun _ _ _ => False) := by
  refine ⟨by show 1 ≤ 1000; decide, fun a ha => ⟨a, v, rfl, upd_same, fun dx hd ne => ⟨rfl, dx, [(fld, v)], upd_same, by rw [upd_ne ne]; exact upd_same, ?_, ?_⟩⟩⟩
  · rw [upd_ne ne] at hd
    exact hd
  · have hd1 : H1 dx = none := by
      rw [upd_ne ne] at hd
      exact hd
    have e : upd (del (upd (upd (upd H1 a (exo a C none)) dx (exd dx [(fld, v)])) a (exo a C (some dx))) a) dx (.xd [(fld, v)]) = upd H1 dx (.xd [(fld, v)]) := by
      funext b
      by_cases h1 : b = dx
      · rw [h1, upd_same, upd_same]
      · rw [upd_ne h1, upd_ne h1]
        by_cases h2 : b = a
        · rw [h2, del_same]
          exact ha.symm
        · rw [del_ne h2, upd_ne h2, upd_ne h1, upd_ne h2]
    rw [e]
    exact h dx hd1
section
variable {X : Cx} {x fld : Str} {C : Addr} {e : Expr} {ta : TA} {p pos pos2 : Pos}
/-- raise X(e) -/
theorem ps_rx {W : WX} (hc : X.calm = true) (tk : Takes X W) (T : ErrAt X.prog X.w X.K X.mg X.base x C fld) (hr : Room 2 X.A) (ha : PA X [e] ta) (hg : Gl X x) (hdb : (x == ("__debug__" : Str)) = false := by decide)
    (he : starEach (e :: []) X.env = (false, eval e X.env) :: starEach [] X.env := by rfl) (hpl : (backTo pos (starEach [] X.env)).any (·.1) = false := by rfl) :
    PS X (.Raise (some (.Call (.Name x p) [e] [] pos)) none pos2) (fun _ σ H => tMkO C (spErrInit C fld) [] ta σ H fun cls d H' => W cls d σ H') := by
  obtain ⟨f, fd, iC, tI, G, b⟩ := T.ini
  exact ps_raise hc tk (pmk_oex T.oex iC tI G hr b .nil pass0 hg T.g ha hdb he hpl)
/-- err.field in an except suite -/
theorem pe_ef {a : Addr} {oe : Obj} {cls : Value} {d : Option Addr} {pn : List (Addr × Obj)} {o : Expr} {te : TE} (T : ErrAt X.prog X.w X.K X.mg X.base x C fld) (hz : Zc cls d oe) (hf : ∃ vs, oe.data = .fields vs) (he : PE (X.suite a ((a, oe) :: pn)) o te)
    (hb : attributeBase o fld X.env (eval o X.env) = eval o X.env := by rfl) : PE (X.suite a ((a, oe) :: pn)) (.Attribute o fld pos) (tXf a cls d C fld te) := pe_xf T.xf T.no hz hf he hb
end
/-! ### C(e, ..) where __init__ may raise -/
section
variable {X : Cx} {k : Nat} {x : Str} {C : Addr} {ps : List Str} {sp : Sp} {e : Expr} {es : List Expr} {p pos : Pos} {t : TA}
def tMakeW (C : Addr) (sp : Sp) (W : WX) (t : TA) : TE := fun σ H Q => t σ H fun vs H1 => ∀ x dx, H1 x = none → H1 dx = none → dx ≠ x → sp (.ref x :: vs) (upd (upd H1 dx (.own x)) x (.ins C dx [])) (fun v H2 => v = .non ∧ Q (.ref x) H2) (WE W σ)
theorem pe_cX {W : WX} (tk : Takes X W) (D : HasCX X.prog X.w X.K X.mg X.base k x C ps sp) (hr : Room (k + 1) X.A) (hg : Gl X x) (ha : PA X (e :: es) t) (hdb : (x == ("__debug__" : Str)) = false := by decide)
    (he : starEach (e :: es) X.env = (false, eval e X.env) :: starEach es X.env := by rfl) (hpl : (backTo pos (starEach es X.env)).any (·.1) = false := by rfl) :
    PE X (.Call (.Name x p) (e :: es) [] pos) (tMakeW C sp W t) := by
  obtain ⟨f, fd, F, M, hm, hb⟩ := D
  constructor
  intro pins s0 σ H0 Q I0 h0
  refine wpAny_Call_Name_kw (ld_glob I0 hg hm (PySem.W.callWith_K (h₀ := X.base) I0.ok.mod.kin M.kp (thn (ha.run pos pins s0 σ H0 _ I0 h0) ?_) he hpl) hdb)
  rintro us s ⟨vs, H, I, r, h⟩
  refine ⟨I.kIn, ?_⟩
  have hq := h (s.heap.objs.size + 1) s.heap.objs.size (I.hok.fresh (Nat.le_succ _)) (I.hok.fresh (Nat.le_refl _)) (Nat.ne_of_lt (Nat.lt_succ_self _))
  have J := Inv.made (C := C) I
  have r2 : Vals (V.ref (s.heap.objs.size + 1) :: vs) (Value.ref (s.heap.objs.size + 1) :: us) := .cons rfl r
  have b := hb _ (Value.ref (s.heap.objs.size + 1) :: us) J.kIn (by
    rw [List.append_nil, ← r2.length]
    exact F.len _ _ _ _ hq)
  rw [List.append_nil] at b
  refine wpAny_call (make_map (f := f) I.kIn M.makes M.init (beq_iff_eq.mp M.fn) (codeAny_mono (F.run _ X.stack _ _ ⟨Value.ref (s.heap.objs.size + 1) :: us, []⟩ (Value.ref (s.heap.objs.size + 1) :: us) _ _ (WE W σ) (hr.make C us [])
    (J.env0.make C us []) b r2 hq) ?_))
  intro z s' hz
  match z, hz with
  | .error e, hz => exact passAt tk σ pins _ _ e s' J hz
  | .ok (.ret u), hz =>
    obtain ⟨v, H', I3, rv, rfl, q3⟩ := J.after hz
    exact ⟨rv, V.ref (s.heap.objs.size + 1), H', I3, rfl, q3⟩
  | .ok .next, hz => exact False.elim hz
  | .ok .brk, hz => exact False.elim hz
  | .ok .cont, hz => exact False.elim hz
/-- where it is known not to raise -/
theorem pe_cX0 (D : HasCX X.prog X.w X.K X.mg X.base k x C ps sp) (hr : Room (k + 1) X.A) (hg : Gl X x) (ha : PA X (e :: es) t) (hdb : (x == ("__debug__" : Str)) = false := by decide)
    (he : starEach (e :: es) X.env = (false, eval e X.env) :: starEach es X.env := by rfl) (hpl : (backTo pos (starEach es X.env)).any (·.1) = false := by rfl) :
    PE X (.Call (.Name x p) (e :: es) [] pos) (tMake C sp [] E0 t) := by
  obtain ⟨f, fd, F, M, hm, hb⟩ := D
  exact pe_make M F hr hg hm hb .nil passL ha hdb he hpl
theorem pe_hX0 (D : HasX X.prog X.w X.K X.mg X.base k x ps sp) (hr : Room k X.A) (hg : Gl X x) (ha : PA X (e :: es) t) (hdb : (x == ("__debug__" : Str)) = false := by decide)
    (he : starEach (e :: es) X.env = (false, eval e X.env) :: starEach es X.env := by rfl) (hpl : (backTo pos (starEach es X.env)).any (·.1) = false := by rfl) :
    PE X (.Call (.Name x p) (e :: es) [] pos) (tCall sp [] E0 t) := by
  obtain ⟨f, fd, G, m, kp, b⟩ := D
  exact pe_call G hr hg m kp b .nil passL ha hdb he hpl
end
end KQ
set_option Elab.async false
set_option maxRecDepth 100000
set_option maxHeartbeats 4000000
/-! B7: a == b by a's own __eq__, whatever it answers. -/
namespace KQ
open PySem PySem.Spec PyProof.Rows L2
/-- x == y, x of the class at C with the text's own ==, y another of it or a tuple -/
def rOwn (K : PySem.W.Frag) (C : Addr) (sp : Sp) : R2 := fun x y H Q => ∃ a dx fs b, x = .ref a ∧ y = .ref b ∧ H a = some (.ins C dx fs) ∧
  ((∃ dy gs, H b = some (.ins C dy gs)) ∨ ((∃ xs, SqT K H b xs) ∧ PySem.W.notFirst K C (.type "tuple") = true)) ∧ sp [.ref a, .ref b] H (fun v H' => ∃ c, v = .bl c ∧ Q v H') (fun _ _ _ => False)
theorem op_own {X : Cx} {n : Nat} {C : Addr} {sp : Sp} {ps : List Str} (D : HasM X.prog X.w X.K X.mg X.base n C "__eq__" ps sp) (hr : Room n X.A) : OpR X (compareOp .Eq) (rOwn X.K C sp) := by
  obtain ⟨f, fd, F, M, hb⟩ := D
  intro pins s σ H x y v u Q I rx ry h
  obtain ⟨a, dx, fs, b, rfl, rfl, ha, hy, hsp⟩ := h
  cases rx
  cases ry
  obtain ⟨mA, J, _⟩ := ins_get I.hok ha
  obtain ⟨od, J, _⟩ := J.look
  obtain ⟨m, hF⟩ := I.fr
  have hlook : ∃ tb, PySem.W.Looks (model X.prog X.w) s.heap (typeOf (.ref b)) tb ∧ PySem.W.notFirst X.K C tb = true := by
    rcases hy with ⟨dy, gs, hb'⟩ | ⟨⟨xs, hq⟩, nf⟩
    · obtain ⟨mB, J', _⟩ := ins_get I.hok hb'
      obtain ⟨od', J', _⟩ := J'.look
      exact ⟨.ref C, J'.type, by simp [PySem.W.notFirst]⟩
    · obtain ⟨its, r, ⟨o, ho, hc, n, hd⟩, hz⟩ := I.tuple hq
      refine ⟨.type "tuple", ?_, nf⟩
      exact hc ▸ (PySem.W.Looks.ld ho).andThen .now
  obtain ⟨tb, hl, nf⟩ := hlook
  show wpAny (model X.prog X.w) X.A (richCompare .Eq (.ref a) (.ref b)) (EP X pins σ Q) X.xe s
  refine PySem.W.cmp_K (op := .Eq) (tb := tb) hr.units0 hF I.ok.mod.kin J hl nf M.at_ M.fn ?_
  have e0 : Env0 X.prog X.w X.K X.mg X.base X.A X.stack s H := I.env0
  have hl := F.len _ _ _ _ hsp
  have r2 : Vals [V.ref a, V.ref b] [Value.ref a, Value.ref b] := .cons rfl (.cons rfl .nil)
  refine wpAny_call (codeAny_mono (F.run X.A X.stack s H ⟨[.ref a, .ref b], []⟩ [.ref a, .ref b] [.ref a, .ref b] _ _ hr e0 (by
    have := hb s [.ref a, .ref b] I.kIn (by simpa using hl)
    simpa using this) r2 hsp) fun r s' hq => ?_)
  cases r with
  | error e => exact hq.elim
  | ok fl =>
    cases fl with
    | ret w =>
      obtain ⟨z, H', I', rz, c, ez, q⟩ := I.after hq
      subst ez
      cases rz
      exact ⟨.bl c, H', I', rfl, q⟩
    | next => exact False.elim hq
    | brk => exact False.elim hq
    | cont => exact False.elim hq
end KQ
set_option Elab.async false
set_option maxRecDepth 100000
set_option maxHeartbeats 4000000
/-! B8: tuple * int, once and not at all too. -/
namespace KQ
open PySem PySem.Spec PyProof.Rows L2
theorem mul_one (l : Addr) (items : Array Value) (n : Nat) (dd : Option Addr) (sl : Array (Option Value)) (x : Int) (u : Tok) (c0 : (decide (x < -(2 ^ 63)) || decide (x ≥ 2 ^ 63)) = false) (c1 : (items.isEmpty || x == 1) = true) :
    Meets (Builtin.«tuple.__mul__» ⟨[.ref l, .int x u], []⟩) (fun _ R s => s.heap.get? l = some { cls := .type "tuple", dict := dd, data := .seq items n, slots := sl } ∧ R (.ok (.ret (Value.ref l))) { s with heap := s.heap, toks := s.toks }) :=
  .of_wp fun prog w A R s h => by
    obtain ⟨hp, g, d, tk, os⟩ := s
    obtain ⟨hl, h⟩ := h
    have f1 := AutoSeq1.idx_int
    wp_walk using wpAny_loadPart' hl
    repeat (first
      | (refine wpAny_ite_false (decide_eq_false (by rw [c0]; exact Bool.false_ne_true)) ?_; wp_walk using wpAny_loadPart' hl)
      | (refine wpAny_ite_true (decide_eq_true c1) ?_; wp_walk using wpAny_loadPart' hl))
    exact ⟨_, rfl, h⟩
theorem mul_none (l : Addr) (items : Array Value) (n : Nat) (dd : Option Addr) (sl : Array (Option Value)) (x : Int) (u : Tok) (c0 : (decide (x < -(2 ^ 63)) || decide (x ≥ 2 ^ 63)) = false) (c1 : (items.isEmpty || x == 1) = false) (c2 : (decide (x ≤ 0) || items.isEmpty) = true) :
    Meets (Builtin.«tuple.__mul__» ⟨[.ref l, .int x u], []⟩) (fun _ R s => s.heap.get? l = some { cls := .type "tuple", dict := dd, data := .seq items n, slots := sl } ∧
      R (.ok (.ret (Value.ref s.heap.objs.size))) { s with heap := s.heap.push { cls := Value.type "tuple", data := Data.seq #[] }, toks := s.toks }) :=
  .of_wp fun prog w A R s h => by
    obtain ⟨hp, g, d, tk, os⟩ := s
    obtain ⟨hl, h⟩ := h
    have f1 := AutoSeq1.idx_int
    wp_walk using wpAny_loadPart' hl
    repeat (first
      | (refine wpAny_ite_false (decide_eq_false (by rw [c0]; exact Bool.false_ne_true)) ?_; wp_walk using wpAny_loadPart' hl)
      | (refine wpAny_ite_false (decide_eq_false (by rw [c1]; exact Bool.false_ne_true)) ?_; wp_walk using wpAny_loadPart' hl)
      | (refine wpAny_ite_true (decide_eq_true c2) ?_; wp_walk using wpAny_loadPart' hl))
    exact ⟨_, rfl, h⟩
def rRepA (K : PySem.W.Frag) : R2 := fun x y H Q => ∃ l k xs, x = .ref l ∧ y = .int k ∧ SqT K H l xs ∧ xs ≠ [] ∧ 0 ≤ k ∧ k ≤ 1000 ∧ xs.length ≤ 1000 ∧ (k = 1 → Q (.ref l) H) ∧ (k ≠ 1 → ∀ p, H p = none → Q (.ref p) (upd H p (.tup (List.replicate k.toNat xs).flatten)))
theorem op_repA {X : Cx} : OpR X (binaryOp .Mult) (rRepA X.K) := by
  intro pins s σ H x y v u Q I rx ry h
  obtain ⟨l, k, xs, rfl, rfl, hT, hne, h1, h2, hz, q1, q2⟩ := h
  by_cases h3 : 2 ≤ k
  · exact op_repT pins s σ H _ _ v u Q I rx ry ⟨l, k, xs, rfl, rfl, hT, hne, h3, h2, hz, q2 (by omega)⟩
  cases rx
  obtain ⟨t, rfl⟩ := ry
  obtain ⟨its, r, ⟨⟨cls, dd, data, sl⟩, ho, hc, n, hd⟩, hs⟩ := I.tuple hT
  simp only at hc hd
  subst hc hd
  have hle : its.length = xs.length := r.length.symm
  have hi : its.toArray.isEmpty = false := by
    cases its with
    | nil => exact absurd (List.eq_nil_of_length_eq_zero hle.symm) hne
    | cons a b => rfl
  have c0 : (decide (k < -(2 ^ 63)) || decide (k ≥ 2 ^ 63)) = false := by
    rw [decide_eq_false (by omega), decide_eq_false (by omega)] <;> rfl
  by_cases k1 : k = 1
  · exact wpAny_binaryOp_repeat_ref (T := "tuple") (U := "int") (by decide) ⟨_, ho, rfl⟩ (fun s' => typeIs_int s' k t) noFill_tuple_mul F.fills_int_mul F.slot_int_rmul repeat_tuple F.slot_int_index.lookup
      (call_meets F.slot_int_rmul (typeIs_int s k t) F.entry_int_rmul (F.args_int_rmul_2 _ _) (int_rmul_tuple k t l its.toArray n dd sl)
        ⟨ho, rfl, ⟨_, ho, rfl⟩, call_meets F.slot_tuple_mul ⟨_, ho, rfl⟩ F.entry_tuple_mul (F.args_tuple_mul_2 _ _) (mul_one l its.toArray n dd sl k t c0 (by rw [hi, Bool.false_or]; exact beq_iff_eq.mpr k1)) ⟨ho, ⟨.ref l, H, I, rfl, q1 k1⟩⟩⟩)
  · have k0 : k = 0 := by omega
    subst k0
    refine wpAny_binaryOp_repeat_ref (T := "tuple") (U := "int") (by decide) ⟨_, ho, rfl⟩ (fun s' => typeIs_int s' 0 t) noFill_tuple_mul F.fills_int_mul F.slot_int_rmul repeat_tuple F.slot_int_index.lookup
      (call_meets F.slot_int_rmul (typeIs_int s 0 t) F.entry_int_rmul (F.args_int_rmul_2 _ _) (int_rmul_tuple 0 t l its.toArray n dd sl)
        ⟨ho, rfl, ⟨_, ho, rfl⟩, call_meets F.slot_tuple_mul ⟨_, ho, rfl⟩ F.entry_tuple_mul (F.args_tuple_mul_2 _ _) (mul_none l its.toArray n dd sl 0 t c0 (by rw [hi]; rfl) (by rfl)) ⟨ho, ?_⟩⟩)
    refine ⟨.ref s.heap.objs.size, _, I.laid (t' := s.toks) (o := .tup []) (fun b ob q => Heap.get?_push_of_some _ q) (Nat.le_refl _) ?_, rfl, q2 k1 _ (I.hok.fresh (Nat.le_refl _))⟩
    exact ⟨Nat.zero_le _, _, .nil, IsTup.new _ _⟩
end KQ
set_option Elab.async false
set_option maxRecDepth 100000
set_option maxHeartbeats 4000000
/-! B9: max(a list of numbers, default=0). -/
namespace KQ
open PySem
section
variable {prog : Program} {w : World} {A : Around} {R : Result → Shared → Prop} {I S : Addr} {fp wr : List Addr} {n : Nat} {P : Nat → Value → Prop} {St : Nat → Heap → Prop} {d : Value}
abbrev dkw (d : Value) : List (Str × Value) := [(Str.ofString "default", d)]
abbrev bestAt (c : Nat) (items : Array Value) : Obj := { cls := .type "list", dict := none, data := .seq items c, slots := #[] }
theorem mxd_loop (W : Walks prog w A.in1 I fp wr n P St) (bt : Nat → Nat → Bool) (hc : CmpOf prog w A.in1 .Gt P bt) (hf : S ∉ fp) : ∀ (k j : Nat) (s : Shared) (items : Array Value) (c : Nat), n - j = k → j ≤ n → St j s.heap →
    ((j = 0 ∧ items = #[]) ∨ ∃ vb, 0 < j ∧ items = #[vb, vb] ∧ P (argBest bt (j - 1)) vb) → s.heap.get? S = some (bestAt c items) →
    (∀ v h' tk, ((n = 0 ∧ v = d) ∨ (0 < n ∧ P (argBest bt (n - 1)) v)) → (∀ b o, b ∉ wr → b ≠ S → s.heap.get? b = some o → h'.get? b = some o) → R (.ok (.ret v)) { s with heap := h', toks := tk }) →
    codeAny (model prog w) A (.builtin "max.loop" ⟨[.ref I, .none, .ref S], dkw d⟩) R s := by
  have hw : S ∉ wr := fun h => hf (W.sub _ h)
  have hn : (toString "max" ++ toString ".loop" : String) = "max.loop" := by decide
  intro k
  induction k with
  | zero =>
    intro j s items c hk hj st hb hS hR
    have e : j = n := by omega
    refine codeAny_builtin F.entry_max_loop ?_; rw [Around.under_plainId F.plain_max_loop _]
    show wpAny _ A.in1 (seqItems? (.ref S) >>= _) _ _ s; refine wpAny_bind (wpAny_seqItems hS rfl ?_)
    show wpAny _ A.in1 (tryCatch (pyNext (.ref I)) _ >>= _) _ _ s; refine wpAny_bind (wpAny_tryCatch (W.done s _ _ (e ▸ st) fun h' tk k' => ?_))
    have hS' := k' S _ hw hS
    rcases hb with ⟨j0, rfl⟩ | ⟨vb, j0, rfl, pb⟩
    · show wpAny _ A.in1 (rule _ >>= _) _ _ _
      refine wpAny_bind (wpAny_rule (wpAny_pure (hR d _ tk (.inl ⟨by omega, rfl⟩) fun b o h1 _ q => k' b o h1 q)))
    · show wpAny _ A.in1 (updateSeq S (fun _ => #[]) >>= _) _ _ _; refine wpAny_bind ?_
      refine wpAny_updateSeq hS' rfl (wpAny_bind (wpAny_letGo (wpAny_pure (hR vb _ tk (.inr ⟨by omega, by rw [← e]; exact pb⟩) fun b o h1 h2 q => ?_))))
      exact (Heap.get?_update_other _ _ (Ne.symm h2)).trans (k' b o h1 q)
  | succ k ih =>
    intro j s items c hk hj st hb hS hR
    have hlt : j < n := by omega
    refine codeAny_builtin F.entry_max_loop ?_; rw [Around.under_plainId F.plain_max_loop _]
    show wpAny _ A.in1 (seqItems? (.ref S) >>= _) _ _ s; refine wpAny_bind (wpAny_seqItems hS rfl ?_)
    show wpAny _ A.in1 (tryCatch (pyNext (.ref I)) _ >>= _) _ _ s; refine wpAny_bind (wpAny_tryCatch (W.item j s _ _ hlt st fun v h' tk hP st' k' => ?_))
    have hS' := k' S _ hw hS
    rcases hb with ⟨j0, rfl⟩ | ⟨vb, j0, rfl, pb⟩
    · subst j0
      show wpAny _ A.in1 (updateSeq S (fun _ => #[v, v]) >>= _) _ _ _; refine wpAny_bind (wpAny_updateSeq hS' rfl ?_); rw [hn]
      refine wpAny_pure ⟨plainId_quiet F.plain_max_loop _, ih 1 _ #[v, v] _ (by omega) hlt (W.frame _ _ _ st' fun b hb o q => (Heap.get?_update_other _ _ (fun z : S = b => hf (by rw [z]; exact hb))).trans q) (.inr ⟨v, Nat.one_pos, rfl, hP⟩) (Heap.get?_update_self _ hS' rfl) fun v' h2 tk2 q2 k2 => ?_⟩
      exact hR v' h2 tk2 q2 fun b o h1 h2 q => k2 b o h1 h2 ((Heap.get?_update_other _ _ (Ne.symm h2)).trans (k' b o h1 q))
    · show wpAny _ A.in1 (tryCatch (holding [v, v] (richCompare .Gt v vb >>= _)) _ >>= _) _ _ _; refine wpAny_bind (wpAny_tryCatch (wpAny_holding (wpAny_bind (hc j (argBest bt (j - 1)) v vb _ _ _ hP pb ?_))))
      refine wpAny_bind (wpAny_holding (wpAny_truthy_bool (wpAny_bind (wpAny_letGo (wpAny_pure ?_)))))
      have ej : argBest bt (j + 1 - 1) = if bt j (argBest bt (j - 1)) then j else argBest bt (j - 1) := by
        obtain ⟨i, rfl⟩ : ∃ i, j = i + 1 := ⟨j - 1, by omega⟩
        rfl
      cases hb : bt j (argBest bt (j - 1)) with
      | true =>
        simp only [if_true]
        refine wpAny_bind (wpAny_updateSeq hS' rfl (wpAny_bind (wpAny_letGo ?_))); rw [hn]
        refine wpAny_pure ⟨plainId_quiet F.plain_max_loop _, ih (j + 1) _ #[v, v] _ (by omega) hlt (W.frame _ _ _ st' fun b hb o q => (Heap.get?_update_other _ _ (fun z : S = b => hf (by rw [z]; exact hb))).trans q) (.inr ⟨v, Nat.succ_pos _, rfl, by rw [ej, hb, if_pos rfl]; exact hP⟩) (Heap.get?_update_self _ hS' rfl) fun v' h2 tk2 q2 k2 => ?_⟩
        exact hR v' h2 tk2 q2 fun b o h1 h2 q => k2 b o h1 h2 ((Heap.get?_update_other _ _ (Ne.symm h2)).trans (k' b o h1 q))
      | false =>
        simp only [Bool.false_eq_true, if_false]
        refine wpAny_bind (wpAny_letGo ?_); rw [hn]
        refine wpAny_pure ⟨plainId_quiet F.plain_max_loop _, ih (j + 1) _ #[vb, vb] c (by omega) hlt st' (.inr ⟨vb, Nat.succ_pos _, rfl, by rw [ej, hb, if_neg Bool.false_ne_true]; exact pb⟩) hS' fun v' h2 tk2 q2 k2 => ?_⟩
        exact hR v' h2 tk2 q2 fun b o h1 h2 q => k2 b o h1 h2 (k' b o h1 q)
end
section
variable {prog : Program} {w : World} {A : Around} {E : Value → Shared → Prop} {s : Shared} {d : Value} {Q : Value → Shared → Prop}
theorem maxd_walk {x : Value} (h : wpAny (model prog w) A.in1 (pyIter x) (fun it s₂ => ∃ I fp wr n P St bt, it = .ref I ∧ Walks prog w A.in1 I fp wr n P St ∧ St 0 s₂.heap ∧ (∀ b ∈ fp, b < s₂.heap.objs.size) ∧ CmpOf prog w A.in1 .Gt P bt ∧
    ∀ v h' tk, ((n = 0 ∧ v = d) ∨ (0 < n ∧ P (argBest bt (n - 1)) v)) → (∀ b o, b ∉ wr → s₂.heap.get? b = some o → h'.get? b = some o) → Q v { s₂ with heap := h', toks := tk }) E s) (ha : argsOk "max" ⟨[x], dkw d⟩) :
    wpAny (model prog w) A (call (.builtin "max") [x] (dkw d)) Q E s := by
  have hn : (toString "max" ++ toString ".loop" : String) = "max.loop" := by decide
  refine PyProof.Rows.kmk_tree F.kind_max F.plain_max F.entry_max ha ?_
  show wpAny _ A.in1 (Builtin.Builtins.bindParams "max" ["key", "default"] 0 ⟨[], dkw d⟩ >>= _) _ _ s; refine wpAny_bind (wpAny_of_eq (show Builtin.Builtins.bindParams "max" ["key", "default"] 0 ⟨[], dkw d⟩ = pure [none, some d] from rfl) ?_)
  refine wpAny_bind (wpAny_pure (wpAny_bind (wpAny_mono h (fun it s₂ h₂ => ?_) fun _ _ e => e)))
  obtain ⟨I, fp, wr, n, P, St, bt, rfl, W, st, hfp, hc, hQ⟩ := h₂
  refine wpAny_bind (wpAny_newObj_type ?_); rw [hn]
  have hf : s₂.heap.objs.size ∉ fp := fun hm => Nat.lt_irrefl _ (hfp _ hm)
  refine wpAny_pure ⟨plainId_quiet F.plain_max_loop _, mxd_loop W bt hc hf _ 0 _ #[] _ rfl (Nat.zero_le _) (W.frame _ _ _ st fun b _ o e => Heap.get?_push_of_some _ e) (.inl ⟨rfl, rfl⟩) (Heap.get?_push_size _ rfl) fun v h' tk hP hk => ?_⟩
  exact hQ v h' tk hP fun b o hb e => hk b o hb (Nat.ne_of_lt (Heap.lt_size e)) (Heap.get?_push_of_some _ e)
end
open PySem.Spec PyProof.Rows L2
theorem args_maxd (a v : Value) : argsOk "max" ⟨[a], dkw v⟩ := by
  unfold argsOk
  kernel_rfl
def rMaxD0 (K : PySem.W.Frag) : List V → List V → Hp → VK → Prop := fun xs zs H Q => ∃ (a : Addr) (ns : List Int) (d : Int), xs = [.ref a] ∧ zs = [.int d] ∧ SqL K H a (ns.map V.int) ∧ (ns = [] → Q (.int d) H) ∧ ∀ m ∈ ns, (∀ y ∈ ns, y ≤ m) → Q (.int m) H
theorem cr_maxD0 {X : Cx} (hc : X.calm = true) : CallRK X (.builtin "max") [Str.ofString "default"] (rMaxD0 X.K) := by
  intro pins s σ H vs zs us ws Q I r1 r2 h
  obtain ⟨a, ns, d, rfl, rfl, hs, q0, q1⟩ := h
  obtain ⟨its, rv, hl, _⟩ := I.list hs
  rw [Vals.ref1 r1]
  cases r2 with
  | cons rd r2 =>
  cases r2
  obtain ⟨t, rfl⟩ := rd
  have hi := rv.ints
  obtain ⟨ys, e⟩ := hi.allInts.items
  have hn : numsOf (intItems ys).toList = ns := by rw [← e]; exact hi.numsOf
  rw [nums_intItems] at hn
  subst hn
  have hl' : s.heap.IsList a (intItems ys) := by rw [← e]; exact hl.isList
  show wpAny _ _ (call (.builtin "max") [.ref a] (dkw (.int d t))) _ _ _
  refine maxd_walk (iter_intList hl' fun s₂ e2 st hfp hlI => ?_) (args_maxd _ _)
  subst e2
  refine ⟨_, _, _, _, _, _, _, rfl, Walks.list (A := X.A.in1) (I.ok.hd hc) _ a hlI (intItems ys), st, hfp, CmpOf.ints_gt (numAt ys) (fun _ _ => intItems_at), fun v h' tk hP hk => ?_⟩
  have I' : Inv X pins σ H { s with heap := h', toks := tk } := I.kept (old_kept hk)
  have hsz : (intItems ys).size = ys.size := by simp [intItems]
  rw [hsz] at hP
  rcases hP with ⟨n0, rfl⟩ | ⟨n1, hP⟩
  · exact ⟨.int d, H, I', ⟨t, rfl⟩, q0 (List.eq_nil_of_length_eq_zero (by rw [List.length_map, Array.length_toList]; exact n0))⟩
  · obtain ⟨u, rfl⟩ := intItems_at hP
    obtain ⟨h1, h2⟩ := argBest_gt (numAt ys) (ys.size - 1)
    refine ⟨.int _, H, I', ⟨u, rfl⟩, q1 _ ?_ fun y hy => ?_⟩
    · rw [numAt_eq]; exact PySem.getD_mem (by rw [List.length_map, Array.length_toList]; omega)
    · obtain ⟨j, hj, rfl⟩ := mem_getD hy; rw [List.length_map, Array.length_toList] at hj; rw [← numAt_eq]; exact h2 j (by omega)
/-- a list's item, by values -/
theorem get_list {X : Cx} : PGet X fun x y H Q => 0 ≤ (match y with | .int i => i | _ => 0) ∧ rIxL X.K x y H Q := by
  intro pins s σ H o i ov iv Q I r1 r2 h
  obtain ⟨h0, p, xs, k, z, rfl, rfl, hq, he, q⟩ := h
  cases r1
  obtain ⟨t, rfl⟩ := r2
  obtain ⟨its, r, pl, hz⟩ := I.list hq
  obtain ⟨j, e1, e2, e3, e4, e5⟩ := atI_get he
  obtain ⟨u, eu, ru⟩ := r.get e2
  have hj : k.toNat = j := by
    rw [seqIndex_of h0 e5] at e1
    exact Option.some.inj e1
  have hl := r.length
  have hn := line63
  exact wpAny_getItem_list pl.isList h0 (by omega) (by rw [hj]; simpa using eu) ⟨z, H, I, ru, q⟩
/-- sum of a tuple of numbers -/
def rSumT (K : PySem.W.Frag) : List V → Hp → VK → Prop := fun vs H Q => ∃ (a : Addr) (ns : List Int), vs = [V.ref a] ∧ SqT K H a (ns.map V.int) ∧ Q (.int ns.sum) H
theorem cr_sumT {X : Cx} (hc : X.calm = true) : CallR X (.builtin "sum") (rSumT X.K) := by
  intro pins s σ H vs us Q I r h
  obtain ⟨a, ns, rfl, hs, q⟩ := h
  obtain ⟨its, rv, ht, _⟩ := I.tuple hs
  rw [Vals.ref1 r]
  have hi := rv.ints
  obtain ⟨ys, e⟩ := hi.allInts.items
  have hn : numsOf (intItems ys).toList = ns := by rw [← e]; exact hi.numsOf
  rw [nums_intItems] at hn
  have ht' : s.heap.IsTuple a (intItems ys) := by rw [← e]; exact ht
  have hlt : a < s.heap.objs.size := by obtain ⟨_, g, _⟩ := ht'; exact Heap.lt_size g
  refine call_sum_walkG (wpAny_pyIter_tuple ht' ?_)
  refine ⟨s.heap.objs.size, _, _, _, _, _, numAt ys, rfl, Walks.tuple (A := X.A.in1) (I.ok.hd hc) _ a (Nat.ne_of_lt hlt) (intItems ys), ⟨⟨_, Heap.get?_push_size _ rfl, rfl, rfl⟩, ?_⟩, fun b hb => ?_, (fun _ _ => intItems_at), fun h' tk t' hk => ?_⟩
  · obtain ⟨o, g, k1, k2⟩ := ht'
    exact ⟨o, Heap.get?_push_of_some _ g, k1, k2⟩
  · show b < (s.heap.push _).objs.size
    rw [Heap.size_push]
    have hb' : b = s.heap.objs.size ∨ b = a := by simpa using hb
    rcases hb' with z | z
    · rw [z]; exact Nat.lt_succ_self _
    · rw [z]; exact Nat.lt_succ_of_lt hlt
  · have kk : ∀ b o, s.heap.get? b = some o → h'.get? b = some o := fun b o g => hk b o (fun hm => by
      have : b = s.heap.objs.size := by simpa using hm
      rw [this] at g
      exact absurd (Heap.lt_size g) (Nat.lt_irrefl _)) (Heap.get?_push_of_some _ g)
    have I' : Inv X pins σ H { s with heap := h', toks := tk } := I.kept kk
    refine ⟨.int ns.sum, H, I', ⟨t', ?_⟩, q⟩
    have hsz : (intItems ys).size = ys.size := by simp [intItems]
    rw [hsz, preSum_eq, List.take_of_length_le (by simp), hn]
end KQ
set_option Elab.async false
set_option maxRecDepth 100000
set_option maxHeartbeats 4000000
/-! B10: a list grown by a tuple's items. -/
namespace KQ
open PySem PySem.Spec PyProof.Rows L2
theorem ext_tup (l b : Addr) (mine its : Array Value) (n n2 : Nat) (dd : Option Addr) (sl : Array (Option Value)) (c0 : ¬(!mine.isEmpty && Builtin.List.listTooLong (mine.size + its.size)) = true) (c1 : mine.size ≤ sizeLine) (c2 : (mine ++ its).size ≤ sizeLine + 1) :
    Meets (Builtin.«list.extend» ⟨[.ref l, .ref b], []⟩)
      (fun _ R s => s.heap.get? l = some { cls := .type "list", dict := none, data := .seq mine n, slots := #[] } ∧ s.heap.get? b = some { cls := .type "tuple", dict := dd, data := .seq its n2, slots := sl } ∧
        R (.ok (.ret Value.none)) { s with heap := s.heap.update l (Obj.mapSeq fun x => x ++ its), toks := s.toks }) := by
  refine .of_wp fun prog w A R s h => ?_
  obtain ⟨hp, g, d, tk, os⟩ := s
  obtain ⟨hl, hb, h⟩ := h
  have z1 := AutoSeq1.idx_int
  have z2 := AutoSeq1.sub_tuple_tuple
  have z3 := AutoSeq1.sub_list_list
  have z4 := AutoSeq1.sub_tuple_list
  have z5 := AutoSeq1.sub_list_tuple
  wp_walk using (wpAny_updateSeq hl rfl (hz := c1) (_hz' := c2)), wpAny_loadPart' hl, wpAny_loadPart' hb
  exact ⟨_, rfl, h⟩
section
variable {X : Cx}
def rExtendT (K : PySem.W.Frag) : V → List V → Hp → VK → Prop := fun x vs H Q => ∃ l b xs zs, x = .ref l ∧ vs = [.ref b] ∧ H l = some (.lst xs) ∧ SqT K H b zs ∧ xs.length + zs.length ≤ sizeLine ∧ Q .non (upd H l (.lst (xs ++ zs)))
theorem mt_extendT : MtM X "list.extend" (rExtendT X.K) := by
  intro pins s σ H x vs v us Q I rx rv h
  obtain ⟨l, b, xs, zs, rfl, rfl, hH, hB, hz, q⟩ := h
  cases rx
  obtain ⟨u, rfl, ru⟩ := rv.one
  cases ru
  obtain ⟨z, its, n, r, hl, e⟩ := I.lstM hH
  obtain ⟨its2, r2, ⟨⟨cls, dd, data, sl⟩, e2, hc, n2, hd⟩, hl2⟩ := I.tuple hB
  simp only at hc hd
  subst hc hd
  have l2 := r2.length
  have hsz : its.toArray.size + its2.toArray.size ≤ sizeLine := by rw [List.size_toArray, List.size_toArray]; omega
  have hlong : ¬ (!its.toArray.isEmpty && Builtin.List.listTooLong (its.toArray.size + its2.toArray.size)) = true := by
    rw [notLongL hsz, Bool.and_false]
    exact Bool.false_ne_true
  refine call_meets F.slot_list_extend ⟨_, e, rfl⟩ F.entry_list_extend (F.args_list_extend_2 _ _)
    (ext_tup l b its.toArray its2.toArray n n2 dd sl hlong (by rw [List.size_toArray]; omega) (by rw [Array.size_append]; omega)) ⟨e, e2, ?_⟩
  refine ⟨.non, _, I.lset (its' := its ++ its2) hH e (by simp) (r.append r2) ?_, rfl, q⟩
  rw [List.length_append]
  omega
end
end KQ
set_option Elab.async false
set_option maxRecDepth 100000
set_option maxHeartbeats 4000000
/-! B11: things by their types alone; max of a tuple. -/
namespace KQ
open PySem PySem.Spec PyProof.Rows L2
def rInt1 : List V → Hp → VK → Prop := fun xs H Q => (∃ i, xs = [.int i] ∧ Q (.int i) H) ∨ ∃ k, xs = [.bl k] ∧ Q (.int (if k then 1 else 0)) H
/-- a thing and the name of its type -/
inductive Dt (H : Hp) : V → String → Prop
  | non : Dt H .non "NoneType"
  | bl (b : Bool) : Dt H (.bl b) "bool"
  | int (i : Int) : Dt H (.int i) "int"
  | str (x : Str) : Dt H (.str x) "str"
  | lst {a : Addr} {xs : List V} (e : H a = some (.lst xs)) : Dt H (.ref a) "list"
  | tup {a : Addr} {xs : List V} (e : H a = some (.tup xs)) : Dt H (.ref a) "tuple"
  | dK {a : Addr} {kvs : List (Key × V)} (e : H a = some (.dK kvs)) : Dt H (.ref a) "dict"
theorem Dt.ty {K : PySem.W.Frag} {H : Hp} {v : V} {t : String} (d : Dt H v t) : TyX K H v (.type t) := by
  cases d with
  | non => exact .base .non
  | bl b => exact .base (.bl b)
  | int i => exact .base (.int i)
  | str x => exact .base (.str x)
  | lst e => exact .base (.lst e)
  | tup e => exact .base (.tup e)
  | dK e => exact .base (.dK e)
theorem Dt.in_ {H : Hp} {v : V} {t : String} (d : Dt H v t) : t ∈ tyNs := by cases d <;> simp [tyNs]
theorem Dt.kp {H H' : Hp} {v : V} {t : String} (d : Dt H v t) (k : ∀ a o, v = .ref a → H a = some o → H' a = some o) : Dt H' v t := by
  cases d with
  | non => exact .non
  | bl b => exact .bl b
  | int i => exact .int i
  | str x => exact .str x
  | lst e => exact .lst (k _ _ rfl e)
  | tup e => exact .tup (k _ _ rfl e)
  | dK e => exact .dK (k _ _ rfl e)
theorem Dt.same {H H' : Hp} {v : V} {t : String} (d : Dt H v t) (s : Same H H') : Dt H' v t := d.kp fun a o _ e => s a o e
abbrev isTy (T t : String) : Bool := t == T || (T == "int" && t == "bool")
theorem kd_T {K : PySem.W.Frag} {T : String} (h : ∀ s ∈ tyNs, kitB s T = some (s == T || (T == "int" && s == "bool"))) {H : Hp} {v : V} {t : String} (d : Dt H v t) : PySem.W.kitOne K (.type t) (.type T) = some (isTy T t) := kit_ty (h _ d.in_)
theorem Dt.kint {K : PySem.W.Frag} {H : Hp} {v : V} {t : String} (d : Dt H v t) : PySem.W.kitOne K (.type t) (.type "int") = some (isTy "int" t) := kd_T (by decide +kernel) d
theorem Dt.kbool {K : PySem.W.Frag} {H : Hp} {v : V} {t : String} (d : Dt H v t) : PySem.W.kitOne K (.type t) (.type "bool") = some (isTy "bool" t) := kd_T (by decide +kernel) d
theorem Dt.ktuple {K : PySem.W.Frag} {H : Hp} {v : V} {t : String} (d : Dt H v t) : PySem.W.kitOne K (.type t) (.type "tuple") = some (isTy "tuple" t) := kd_T (by decide +kernel) d
theorem Dt.klist {K : PySem.W.Frag} {H : Hp} {v : V} {t : String} (d : Dt H v t) : PySem.W.kitOne K (.type t) (.type "list") = some (isTy "list" t) := kd_T (by decide +kernel) d
theorem Dt.kstr {K : PySem.W.Frag} {H : Hp} {v : V} {t : String} (d : Dt H v t) : PySem.W.kitOne K (.type t) (.type "str") = some (isTy "str" t) := kd_T (by decide +kernel) d
theorem Rp.dt {N : Addr → Prop} {H : Hp} {v : V} {d : PyData} (r : Rp N H v d) : Dt H v (tyN d) := by
  cases r with
  | non => exact .non
  | bl b => exact .bl b
  | int i => exact .int i
  | str x => exact .str x
  | lst e _ _ => exact .lst e
  | tup e _ _ => exact .tup e
  | emp e _ => exact .dK e
/-- max of a tuple of numbers -/
def rMaxT (K : PySem.W.Frag) : List V → Hp → VK → Prop := fun vs H Q => ∃ (a : Addr) (ns : List Int), vs = [V.ref a] ∧ SqT K H a (ns.map V.int) ∧ 0 < ns.length ∧ ∀ m, m ∈ ns → (∀ y, y ∈ ns → y ≤ m) → Q (.int m) H
theorem cr_maxT {X : Cx} (hc : X.calm = true) : CallR X (.builtin "max") (rMaxT X.K) := by
  intro pins s σ H vs us Q I r h
  obtain ⟨a, ns, rfl, hs, hne, q⟩ := h
  obtain ⟨its, rv, ht, _⟩ := I.tuple hs
  rw [Vals.ref1 r]
  have hi := rv.ints
  obtain ⟨ys, e⟩ := hi.allInts.items
  have hn : numsOf (intItems ys).toList = ns := by rw [← e]; exact hi.numsOf
  rw [nums_intItems] at hn
  have ht' : s.heap.IsTuple a (intItems ys) := by rw [← e]; exact ht
  have hlt : a < s.heap.objs.size := by obtain ⟨_, g, _⟩ := ht'; exact Heap.lt_size g
  have hsz : (intItems ys).size = ys.size := by simp [intItems]
  have hpos : 0 < ys.size := by
    rw [← hn, List.length_map, Array.length_toList] at hne
    exact hne
  refine call_max_walk (wpAny_pyIter_tuple ht' ?_)
  refine ⟨s.heap.objs.size, _, _, _, _, _, _, rfl, Walks.tuple (A := X.A.in1) (I.ok.hd hc) _ a (Nat.ne_of_lt hlt) (intItems ys), ⟨⟨_, Heap.get?_push_size _ rfl, rfl, rfl⟩, ?_⟩, fun b hb => ?_, by rw [hsz]; exact hpos, CmpOf.ints_gt (numAt ys) (fun _ _ => intItems_at), fun v h' tk hP hk => ?_⟩
  · obtain ⟨o, g, k1, k2⟩ := ht'
    exact ⟨o, Heap.get?_push_of_some _ g, k1, k2⟩
  · show b < (s.heap.push _).objs.size
    rw [Heap.size_push]
    have hb' : b = s.heap.objs.size ∨ b = a := by simpa using hb
    rcases hb' with z | z
    · rw [z]; exact Nat.lt_succ_self _
    · rw [z]; exact Nat.lt_succ_of_lt hlt
  · have kk : ∀ b o, s.heap.get? b = some o → h'.get? b = some o := fun b o g => hk b o (fun hm => by
      have : b = s.heap.objs.size := by simpa using hm
      rw [this] at g
      exact absurd (Heap.lt_size g) (Nat.lt_irrefl _)) (Heap.get?_push_of_some _ g)
    have I' : Inv X pins σ H { s with heap := h', toks := tk } := I.kept kk
    rw [hsz] at hP
    obtain ⟨u, rfl⟩ := intItems_at hP
    obtain ⟨h1, h2⟩ := argBest_gt (numAt ys) (ys.size - 1)
    subst hn
    refine ⟨.int _, H, I', ⟨u, rfl⟩, q _ ?_ fun y hy => ?_⟩
    · rw [numAt_eq]; exact PySem.getD_mem (by rw [List.length_map, Array.length_toList]; omega)
    · obtain ⟨j, hj, rfl⟩ := mem_getD hy; rw [List.length_map, Array.length_toList] at hj; rw [← numAt_eq]; exact h2 j (by omega)
end KQ
namespace KQ
open PySem PySem.Spec PyProof.Rows L2
theorem same_new0 {H : Hp} {p : Addr} {o : HO} (h : H p = none) : Same H (upd H p o) := fun b u q => by rw [upd_ne (ne_of_none q h)]; exact q
theorem sput {H H1 : Hp} {x : Addr} {o : HO} (s : Same H H1) (h : H x = none) : Same H (upd H1 x o) := fun b u q => by
  rw [upd_ne (ne_of_none q h)]
  exact s b u q
theorem snew {H H1 : Hp} {x : Addr} {o : HO} (s : Same H H1) (h : H1 x = none) : Same H (upd H1 x o) := fun b u q => by
  rw [upd_ne (ne_of_none (s b u q) h)]
  exact s b u q
theorem kp_same {N : Addr → Prop} {H H1 : Hp} (s : Same H H1) : Kp N H H1 := fun a o e _ => s a o e
/-! ### a comprehension by the list that grows -/
structure Snoc (D : Addr) (Pn : Hp → Prop) (y : V) (H : Hp) : Prop where
  h : ∃ acc, H D = some (.lst acc) ∧ acc.length < sizeLine ∧ Pn (upd H D (.lst (acc ++ [y])))
theorem snoc_eq (D : Addr) (Pn : Hp → Prop) (y : V) (H : Hp) : Snoc D Pn y H = ∃ acc, H D = some (.lst acc) ∧ acc.length < sizeLine ∧ Pn (upd H D (.lst (acc ++ [y]))) := propext ⟨fun q => q.h, fun q => ⟨q⟩⟩
section
variable {J : It} {n : Nat} {G : Hp → Prop} {Y : Nat → Hp → V → Hp → Prop}
theorem lc_acc (w : Walk J n G Y) {g : TG} {tt : TT} {te : TE} {vs : List Nat} {σ : L2.St} {H1 : Hp} {D : Addr} {Qd : Hp → Prop} (acc : Nat → List V) (I : Nat → Hp → Prop) (N : Addr → Prop)
    (nN : ¬ N D) (nD : H1 D = none) (hsz : ∀ i, i < n → (acc i).length < sizeLine) (a0 : acc 0 = []) (i0 : I 0 (upd H1 D (.lst []))) (hI : ∀ i H xs, Kp N H1 H → I i H → I i (upd H D (.lst xs)))
    (hG : ∀ i H, i ≤ n → Kp N H1 H → I i H → G H)
    (hs : ∀ i x H H' (Pn : Hp → Prop), i < n → Kp N H1 H → H D = some (.lst (acc i)) → I i H → Y i H x H' → (∀ y H4, acc (i + 1) = acc i ++ [y] → Kp N H H4 → I (i + 1) H4 → Snoc D Pn y H4) → (∀ H4, acc (i + 1) = acc i → Kp N H H4 → I (i + 1) H4 → Pn H4) →
      g x (wipe σ vs) H' fun σ2 H2 => wipe σ2 vs = wipe σ vs ∧ tt σ2 H2 fun b H3 => if b = true then te σ2 H3 fun y H4 => Snoc D Pn y H4 else Pn H3)
    (hd : ∀ H, Kp N H1 H → H D = some (.lst (acc n)) → I n H → Qd H) :
    ∃ W : Nat → Nat → Hp → Prop, (∃ m, W 0 m (upd H1 D (.lst []))) ∧ ∀ i m H, W i m H →
      (J.stop i H ∧ Qd H) ∨ (J.go i H ∧ ∃ Nx : Hp → Prop, (∀ H', Nx H' → ∃ m', m' < m ∧ W (i + 1) m' H') ∧ ∀ x H', J.yld i H x H' → g x (wipe σ vs) H' fun σ2 H2 => wipe σ2 vs = wipe σ vs ∧ tt σ2 H2 fun b H3 =>
        if b = true then te σ2 H3 fun y H4 => ∃ acc, H4 D = some (.lst acc) ∧ acc.length < sizeLine ∧ Nx (upd H4 D (.lst (acc ++ [y]))) else Nx H3) := by
  have kD : ∀ {H xs}, Kp N H1 H → Kp N H1 (upd H D (.lst xs)) := fun {H xs} k a o e na => by
    rw [upd_ne (ne_of_none e nD)]
    exact k a o e na
  refine lc_it w (fun i H => Kp N H1 H ∧ H D = some (.lst (acc i)) ∧ I i H) ⟨kD Kp.refl, by rw [a0]; exact upd_same, i0⟩ (fun i H hi q => hG i H hi q.1 q.2.2) (fun i x H H' hi q y => ?_) fun H q => hd H q.1 q.2.1 q.2.2
  obtain ⟨q1, q2, q3⟩ := q
  have z := hs i x H H' (fun H => Kp N H1 H ∧ H D = some (.lst (acc (i + 1))) ∧ I (i + 1) H) hi q1 q2 q3 y
    (fun y H4 e k j => ⟨acc i, k D _ q2 nN, hsz i hi, kD (q1.trans k), by rw [upd_same, e], hI (i + 1) H4 _ (q1.trans k) j⟩) fun H4 e k j => ⟨q1.trans k, by rw [e]; exact k D _ q2 nN, j⟩
  simp only [snoc_eq] at z
  exact z
/-- .. each item gives one -/
theorem lc_map (w : Walk J n G Y) {g : TG} {te : TE} {vs : List Nat} {σ : L2.St} {H1 : Hp} {D : Addr} {Qd : Hp → Prop} (ys : List V) (hn : ys.length = n) (nD : H1 D = none) (hz : n ≤ 16777216)
    (hG : ∀ i H, i ≤ n → Same H1 H → G H)
    (hs : ∀ i x H H' (Pn : Hp → Prop), i < n → Same H1 H → Y i H x H' → (∀ y H4, ys[i]? = some y → Same H H4 → Snoc D Pn y H4) → g x (wipe σ vs) H' fun σ2 H2 => wipe σ2 vs = wipe σ vs ∧ te σ2 H2 fun y H4 => Snoc D Pn y H4)
    (hd : ∀ H, Same H1 H → H D = some (.lst ys) → Qd H) :
    ∃ W : Nat → Nat → Hp → Prop, (∃ m, W 0 m (upd H1 D (.lst []))) ∧ ∀ i m H, W i m H →
      (J.stop i H ∧ Qd H) ∨ (J.go i H ∧ ∃ Nx : Hp → Prop, (∀ H', Nx H' → ∃ m', m' < m ∧ W (i + 1) m' H') ∧ ∀ x H', J.yld i H x H' → g x (wipe σ vs) H' fun σ2 H2 => wipe σ2 vs = wipe σ vs ∧ tYes σ2 H2 fun b H3 =>
        if b = true then te σ2 H3 fun y H4 => ∃ acc, H4 D = some (.lst acc) ∧ acc.length < sizeLine ∧ Nx (upd H4 D (.lst (acc ++ [y]))) else Nx H3) := by
  have sm : ∀ {H H' : Hp}, Kp (fun _ => False) H H' → Same H H' := fun k a o e => k a o e (fun z => z)
  refine lc_acc w (fun i => ys.take i) (fun _ _ => True) (fun _ => False) (fun z => z) nD (fun i hi => ?_) rfl trivial (fun _ _ _ _ _ => trivial) (fun i H hi k _ => hG i H hi (sm k)) (fun i x H H' Pn hi k _ _ y fin _ => ?_) fun H k e _ => hd H (sm k) (by rw [← hn, List.take_length] at e; exact e)
  · rw [List.length_take, sizeLine_eq]
    omega
  · have z := hs i x H H' Pn hi (sm k) y fun y H4 e s => fin y H4 (by rw [List.take_add_one, e]; rfl) (kp_same s) trivial
    have e : (fun (σ2 : L2.St) (H2 : Hp) => wipe σ2 vs = wipe σ vs ∧ tYes σ2 H2 fun b H3 => if b = true then te σ2 H3 fun y H4 => Snoc D Pn y H4 else Pn H3) = fun σ2 H2 => wipe σ2 vs = wipe σ vs ∧ te σ2 H2 fun y H4 => Snoc D Pn y H4 := by
      funext σ2 H2
      have e2 : tYes σ2 H2 (fun b H3 => if b = true then te σ2 H3 fun y H4 => Snoc D Pn y H4 else Pn H3) = te σ2 H2 fun y H4 => Snoc D Pn y H4 := by
        show (if true = true then te σ2 H2 (fun y H4 => Snoc D Pn y H4) else Pn H2) = _
        exact if_pos rfl
      rw [e2]
    rw [e]
    exact z
end
theorem same_kpF {H H' : Hp} (k : Kp (fun _ => False) H H') : Same H H' := fun a o e => k a o e (fun z => z)
theorem sIx_none (n d : Nat) : HT.sIx n d none = d := rfl
theorem sIx_some (n d k : Nat) : HT.sIx n d (some (k : Int)) = min k n := HT.sIx_nat n d k
theorem cut_take {xs : List V} (k : Nat) : cutV xs none (some (k : Int)) = xs.take k := by
  rw [cutV, sIx_none, sIx_some, List.drop_zero, Nat.sub_zero]
  by_cases h : k ≤ xs.length
  · rw [Nat.min_eq_left h]
  · rw [Nat.min_eq_right (by omega), List.take_length, List.take_of_length_le (by omega)]
theorem cut_drop {xs : List V} (k : Nat) : cutV xs (some (k : Int)) none = xs.drop k := by
  rw [cutV, sIx_none, sIx_some]
  by_cases h : k ≤ xs.length
  · rw [Nat.min_eq_left h, List.take_of_length_le (by rw [List.length_drop]; omega)]
  · rw [Nat.min_eq_right (by omega), List.drop_length, List.drop_of_length_le (by omega), List.take_nil]
theorem walk_zipT {K : PySem.W.Frag} {a b : Addr} {xs ys : List V} {n : Nat} (hn : n = min xs.length ys.length) : Walk (RZ.ItzT K a b) n (fun H => SqT K H a xs ∧ SqT K H b ys) (YPair (fun i => xs[i]?) (fun i => ys[i]?)) := by
  subst hn
  refine ⟨fun i _ hi q => ?_, fun _ q => ⟨xs, ys, q.1, q.2, by omega⟩, fun i H v H' _ q y => ?_⟩
  · have h1 : i < xs.length := by omega
    have h2 : i < ys.length := by omega
    exact ⟨xs, ys, xs[i], ys[i], q.1, q.2, by simp [h1], by simp [h2]⟩
  · obtain ⟨T, x, z, h1, h2, h3, h4, h5⟩ := y
    exact ⟨T, x, z, h1, h2, h3, h4 xs q.1, h5 ys q.2⟩
/-- as a comprehension's turn over zip is met: a new pair -/
theorem ypair {xs ys : List V} {i : Nat} {H H' : Hp} {v : V} (y : YPair (fun i => xs[i]?) (fun i => ys[i]?) i H v H') : ∃ T x z, v = .ref T ∧ H T = none ∧ H' = upd H T (.tup [x, z]) ∧ xs[i]? = some x ∧ ys[i]? = some z := y
theorem cut_whole {xs : List V} {lo hi : Option Int} (h : HT.sIx xs.length 0 lo = 0 ∧ HT.sIx xs.length xs.length hi = xs.length) : cutV xs lo hi = xs := by
  rw [cutV, h.1, h.2, List.drop_zero, Nat.sub_zero, List.take_length]
theorem sl_go {K : PySem.W.Frag} {H : Hp} {a : Addr} {xs : List V} {lo hi : Option Int} {Q : VK} (ha : H a = some (.tup xs)) (h : ∀ b H1, Same H H1 → H1 b = some (.tup (cutV xs lo hi)) → Q (.ref b) H1) : rSlA K (.ref a) lo hi H Q :=
  ⟨a, xs, rfl, SqT.of ha, fun w => h a H (Same.refl H) (by rw [cut_whole w]; exact ha), fun _ p np => h p _ (same_new0 np) upd_same⟩
theorem cat_go {K : PySem.W.Frag} {H : Hp} {a b : Addr} {xs ys : List V} {Q : VK} (ha : H a = some (.tup xs)) (hb : H b = some (.tup ys)) (hz : xs.length + ys.length ≤ 16777216) (h : ∀ c H1, Same H H1 → H1 c = some (.tup (xs ++ ys)) → Q (.ref c) H1) : rCatA K (.ref a) (.ref b) H Q :=
  ⟨a, b, xs, ys, rfl, rfl, SqT.of ha, SqT.of hb, by rw [sizeLine_eq]; exact hz, fun e => h b H (Same.refl H) (by rw [e]; exact hb), fun _ e => h a H (Same.refl H) (by rw [e, List.append_nil]; exact ha), fun _ _ p np => h p _ (same_new0 np) upd_same⟩
theorem cut1 {xs : List V} : cutV xs (some 1) none = xs.drop 1 := cut_drop 1
end KQ
set_option Elab.async false
set_option maxRecDepth 100000
set_option maxHeartbeats 4000000
/-! B12: shares: the numbers that they are. -/
namespace KQ
open PySem PySem.Spec PyProof.Rows L2
/-- the places of a set below n as a number, place -1 first -/
def Vs (S : Int → Bool) : Nat → Nat
  | 0 => (S (-1)).toNat
  | j + 1 => 2 * Vs S j + (S (j : Int)).toNat
def put (S : Int → Bool) (p : Int) (b : Bool) : Int → Bool := fun q => if q = p then b else S q
theorem Vs_congr {S T : Int → Bool} : ∀ {n : Nat}, (∀ q : Int, -1 ≤ q → q < n → S q = T q) → S (-1) = T (-1) → Vs S n = Vs T n
  | 0, _, h => by simp only [Vs]; rw [h]
  | j + 1, h, h0 => by
    simp only [Vs]
    rw [Vs_congr (n := j) (fun q a b => h q a (by omega)) h0, h (j : Int) (by omega) (by omega)]
theorem Vs_put {S : Int → Bool} {p : Int} (h : S p = false) : ∀ {n : Nat}, -1 ≤ p → p < n → Vs (put S p true) n = Vs S n + 2 ^ (n - (p + 1).toNat)
  | 0, a, b => by
    obtain rfl : p = -1 := by omega
    simp [Vs, put, h]
  | j + 1, a, b => by
    simp only [Vs]
    by_cases e : p = j
    · subst e
      rw [Vs_congr (S := put S j true) (T := S) (fun q a b => by unfold put; rw [if_neg (by omega)]) (by unfold put; rw [if_neg (by omega)]), show put S (j : Int) true (j : Int) = true by simp [put], h]
      rw [show j + 1 - ((j : Int) + 1).toNat = 0 by omega]
      rfl
    · rw [Vs_put h (n := j) a (by omega), show put S p true (j : Int) = S (j : Int) by unfold put; rw [if_neg (fun z => e z.symm)]]
      rw [show j + 1 - (p + 1).toNat = (j - (p + 1).toNat) + 1 by omega, Nat.pow_succ]
      omega
theorem put_put {S : Int → Bool} {p : Int} (h : S p = true) : put (put S p false) p true = S := by
  funext q
  unfold put
  by_cases e : q = p
  · rw [if_pos e, e, h]
  · rw [if_neg e, if_neg e]
theorem Vs_del {S : Int → Bool} {p : Int} (h : S p = true) {n : Nat} (a : -1 ≤ p) (b : p < n) : Vs S n = Vs (put S p false) n + 2 ^ (n - (p + 1).toNat) := by
  have q := Vs_put (S := put S p false) (p := p) (by simp [put]) (n := n) a b
  rwa [put_put h] at q
theorem Vs_inj {S T : Int → Bool} : ∀ {n : Nat}, Vs S n = Vs T n → ∀ q : Int, -1 ≤ q → q < n → S q = T q
  | 0, e, q, a, b => by
    obtain rfl : q = -1 := by omega
    simp only [Vs] at e
    revert e
    cases S (-1) <;> cases T (-1) <;> simp
  | j + 1, e, q, a, b => by
    simp only [Vs] at e
    have h1 : (S (j : Int)).toNat ≤ 1 := by cases S (j : Int) <;> simp
    have h2 : (T (j : Int)).toNat ≤ 1 := by cases T (j : Int) <;> simp
    by_cases c : q = j
    · subst c
      have : (S (j : Int)).toNat = (T (j : Int)).toNat := by omega
      revert this
      cases S (j : Int) <;> cases T (j : Int) <;> simp
    · exact Vs_inj (n := j) (by omega) q a (by omega)
theorem Vs_neg {S : Int → Bool} (h : S (-1) = true) : ∀ n : Nat, 2 ^ n ≤ Vs S n
  | 0 => by simp [Vs, h]
  | j + 1 => by
    have := Vs_neg h j
    simp only [Vs, Nat.pow_succ]
    omega
theorem Vs_zero {S : Int → Bool} (h : S 0 = true) : ∀ j : Nat, 2 ^ j ≤ Vs S (j + 1)
  | 0 => by simp [Vs, h]
  | j + 1 => by
    have := Vs_zero h j
    rw [Vs, Nat.pow_succ]
    omega
theorem Vs_more {S : Int → Bool} (h : S 0 = true) {p : Int} (hp : 1 ≤ p) (hS : S p = true) : ∀ j : Nat, p < j + 1 → 2 ^ j < Vs S (j + 1)
  | 0, b => by omega
  | j + 1, b => by
    rw [Vs, Nat.pow_succ]
    by_cases c : p = j + 1
    · have q := Vs_zero h j
      have : (S ((j + 1 : Nat) : Int)).toNat = 1 := by rw [show ((j + 1 : Nat) : Int) = p by omega, hS]; rfl
      omega
    · have := Vs_more h hp hS j (by omega)
      omega
theorem Vs_lt {S : Int → Bool} (h : S (-1) = false) (h0 : S 0 = false) : ∀ j : Nat, Vs S (j + 1) + 1 ≤ 2 ^ j
  | 0 => by
    simp only [Vs, h]
    rw [show ((0 : Nat) : Int) = 0 from rfl, h0]
    decide
  | j + 1 => by
    have := Vs_lt h h0 j
    have : (S ((j + 1 : Nat) : Int)).toNat ≤ 1 := by cases S ((j + 1 : Nat) : Int) <;> simp
    rw [Vs, Nat.pow_succ]
    omega
theorem Vs_up {S : Int → Bool} {n : Nat} (h : ∀ q : Int, n ≤ q → S q = false) : ∀ k : Nat, Vs S (n + k) = 2 ^ k * Vs S n
  | 0 => by simp
  | k + 1 => by
    rw [show n + (k + 1) = (n + k) + 1 by omega, Vs, Vs_up h k, h _ (by omega), Nat.pow_succ]
    show 2 * (2 ^ k * Vs S n) + 0 = _
    rw [Nat.add_zero, ← Nat.mul_assoc, Nat.mul_comm 2]
/-- the set's places, ascending -/
def lotS (S : Int → Bool) : Nat → List Int
  | 0 => if S (-1) then [-1] else []
  | j + 1 => lotS S j ++ if S (j : Int) then [(j : Int)] else []
def lotV : Nat → Nat → List Int
  | 0, W => if W % 2 = 1 then [-1] else []
  | j + 1, W => lotV j (W / 2) ++ if W % 2 = 1 then [(j : Int)] else []
theorem lotV_Vs {S : Int → Bool} : ∀ n : Nat, lotV n (Vs S n) = lotS S n
  | 0 => by cases h : S (-1) <;> simp [lotV, lotS, Vs, h]
  | j + 1 => by
    cases h : S (j : Int)
    · simp only [lotV, lotS, Vs, h]
      rw [show (2 * Vs S j + false.toNat) / 2 = Vs S j by show (2 * Vs S j + 0) / 2 = _; omega, show (2 * Vs S j + false.toNat) % 2 = 0 by show (2 * Vs S j + 0) % 2 = _; omega, lotV_Vs j]
      rfl
    · simp only [lotV, lotS, Vs, h]
      rw [show (2 * Vs S j + true.toNat) / 2 = Vs S j by show (2 * Vs S j + 1) / 2 = _; omega, show (2 * Vs S j + true.toNat) % 2 = 1 by show (2 * Vs S j + 1) % 2 = _; omega, lotV_Vs j]
      rfl
theorem mem_lotS {S : Int → Bool} {q : Int} : ∀ {n : Nat}, q ∈ lotS S n ↔ (-1 ≤ q ∧ q < n ∧ S q = true)
  | 0 => by
    simp only [lotS]
    cases h : S (-1)
    · simp only [Bool.false_eq_true, if_false, List.not_mem_nil, false_iff]
      rintro ⟨a, b, c⟩
      rw [show q = -1 by omega, h] at c
      cases c
    · simp only [if_true, List.mem_singleton]
      exact ⟨fun e => by subst e; exact ⟨by omega, by omega, h⟩, fun ⟨a, b, c⟩ => by omega⟩
  | j + 1 => by
    simp only [lotS, List.mem_append, mem_lotS (n := j)]
    cases h : S (j : Int)
    · simp only [Bool.false_eq_true, if_false, List.not_mem_nil, or_false]
      constructor
      · rintro ⟨a, b, c⟩
        exact ⟨a, by omega, c⟩
      · rintro ⟨a, b, c⟩
        refine ⟨a, ?_, c⟩
        by_cases e : q = j
        · rw [e, h] at c; cases c
        · omega
    · simp only [if_true, List.mem_singleton]
      constructor
      · rintro (⟨a, b, c⟩ | e)
        · exact ⟨a, by omega, c⟩
        · subst e; exact ⟨by omega, by omega, h⟩
      · rintro ⟨a, b, c⟩
        by_cases e : q = j
        · exact .inr e
        · exact .inl ⟨a, by omega, c⟩
theorem lotS_asc {S : Int → Bool} : ∀ n : Nat, (lotS S n).Pairwise (· < ·)
  | 0 => by
    simp only [lotS]
    split <;> simp
  | j + 1 => by
    simp only [lotS]
    refine List.pairwise_append.mpr ⟨lotS_asc j, by split <;> simp, fun a ha b hb => ?_⟩
    have := (mem_lotS.mp ha).2.1
    split at hb
    · simp only [List.mem_singleton] at hb
      omega
    · simp at hb
theorem asc_ext : ∀ {l m : List Int}, l.Pairwise (· < ·) → m.Pairwise (· < ·) → (∀ q, q ∈ l ↔ q ∈ m) → l = m
  | [], [], _, _, _ => rfl
  | [], y :: m, _, _, h => absurd ((h y).mpr (List.mem_cons_self ..)) (List.not_mem_nil)
  | x :: l, [], _, _, h => absurd ((h x).mp (List.mem_cons_self ..)) (List.not_mem_nil)
  | x :: l, y :: m, hl, hm, h => by
    obtain ⟨a, hl'⟩ := List.pairwise_cons.mp hl
    obtain ⟨b, hm'⟩ := List.pairwise_cons.mp hm
    have e : x = y := by
      rcases List.mem_cons.mp ((h x).mp (List.mem_cons_self ..)) with e | e
      · exact e
      · rcases List.mem_cons.mp ((h y).mpr (List.mem_cons_self ..)) with e2 | e2
        · exact e2.symm
        · have := b x e
          have := a y e2
          omega
    subst e
    refine congrArg (x :: ·) (asc_ext hl' hm' fun q => ?_)
    constructor
    · intro hq
      rcases List.mem_cons.mp ((h q).mp (List.mem_cons_of_mem _ hq)) with e | e
      · have := a q hq; omega
      · exact e
    · intro hq
      rcases List.mem_cons.mp ((h q).mpr (List.mem_cons_of_mem _ hq)) with e | e
      · have := b q hq; omega
      · exact e
abbrev mS (ns : List Int) : Int → Bool := fun q => decide (q ∈ ns)
theorem lotS_mS {ns : List Int} {n : Nat} (h : ns.Pairwise (· < ·)) (hb : ∀ q ∈ ns, -1 ≤ q ∧ q < n) : lotS (mS ns) n = ns :=
  asc_ext (lotS_asc n) h fun q => mem_lotS.trans ⟨fun ⟨_, _, c⟩ => of_decide_eq_true c, fun c => ⟨(hb q c).1, (hb q c).2, decide_eq_true c⟩⟩
/-- a share's numbers -/
structure Sh (ns : List Int) : Prop where
  nn : ∀ q ∈ ns, 0 ≤ q
  asc : ns.Pairwise (· < ·)
  zero : 0 ∈ ns → ns = [0]
theorem Sh.le {ns : List Int} (h : Sh ns) {n : Nat} (hb : ∀ q ∈ ns, q < ((n + 1 : Nat) : Int)) : Vs (mS ns) (n + 1) ≤ 2 ^ n := by
  have h1 : mS ns (-1) = false := decide_eq_false fun z => by have := h.nn _ z; omega
  by_cases c : (0 : Int) ∈ ns
  · rw [h.zero c]
    have : ∀ j : Nat, Vs (mS [0]) (j + 1) = 2 ^ j := fun j => by
      induction j with
      | zero => rfl
      | succ j ih =>
        rw [Vs, ih, Nat.pow_succ, show mS [0] ((j + 1 : Nat) : Int) = false from decide_eq_false (by simp; omega)]
        show 2 * 2 ^ j + 0 = _
        omega
    rw [this]
    exact Nat.le_refl _
  · have := Vs_lt h1 (decide_eq_false c) n
    omega
/-- what is ascending within, and worth no more than the whole, is a share -/
theorem Sh.of {ns : List Int} {n : Nat} (h : ns.Pairwise (· < ·)) (hb : ∀ q ∈ ns, -1 ≤ q ∧ q < ((n + 1 : Nat) : Int)) (hv : Vs (mS ns) (n + 1) ≤ 2 ^ n) : Sh ns := by
  have p2 : 0 < 2 ^ n := Nat.pow_pos (by decide)
  have h1 : (-1 : Int) ∉ ns := fun z => by
    have := Vs_neg (S := mS ns) (decide_eq_true z) (n + 1)
    rw [Nat.pow_succ] at this
    omega
  refine ⟨fun q hq => ?_, h, fun z => asc_ext h (by simp) fun q => ⟨fun hq => ?_, fun e => ?_⟩⟩
  · have := (hb q hq).1
    by_cases e : q = -1
    · rw [e] at hq; exact absurd hq h1
    · omega
  · have b := hb q hq
    by_cases e : q = 0
    · simp [e]
    · by_cases e2 : q = -1
      · rw [e2] at hq; exact absurd hq h1
      · have := Vs_more (S := mS ns) (decide_eq_true z) (p := q) (by omega) (decide_eq_true hq) n (by omega)
        omega
  · simp only [List.mem_singleton] at e
    rw [e]; exact z
/-- the share that two come to -/
def addS (n : Nat) (ns ms : List Int) : Option (List Int) :=
  if Vs (mS ns) (n + 1) + Vs (mS ms) (n + 1) ≤ 2 ^ n then some (lotV (n + 1) (Vs (mS ns) (n + 1) + Vs (mS ms) (n + 1))) else none
abbrev Bd (n : Nat) (ns : List Int) : Prop := ∀ q ∈ ns, q < ((n + 1 : Nat) : Int)
theorem addS_comm {n : Nat} {ns ms : List Int} : addS n ns ms = addS n ms ns := by
  unfold addS
  rw [Nat.add_comm]
/-- what a set of that worth is -/
theorem addS_of {n : Nat} {ns ms ks : List Int} (h : ks.Pairwise (· < ·)) (hb : ∀ q ∈ ks, -1 ≤ q ∧ q < ((n + 1 : Nat) : Int)) (e : Vs (mS ks) (n + 1) = Vs (mS ns) (n + 1) + Vs (mS ms) (n + 1)) :
    (Sh ks ∧ addS n ns ms = some ks) ∨ (¬ Sh ks ∧ addS n ns ms = none) := by
  unfold addS
  rw [← e, lotV_Vs, lotS_mS h hb]
  by_cases c : Vs (mS ks) (n + 1) ≤ 2 ^ n
  · exact .inl ⟨Sh.of h hb c, if_pos c⟩
  · exact .inr ⟨fun s => c (s.le fun q hq => (hb q hq).2), if_neg c⟩
theorem lotV_ok {n W : Nat} (h : W < 2 ^ (n + 1)) : ∃ S : Int → Bool, Vs S n = W := by
  induction n generalizing W with
  | zero =>
    rcases (show W = 0 ∨ W = 1 by simp at h; omega) with rfl | rfl
    · exact ⟨fun _ => false, rfl⟩
    · exact ⟨fun _ => true, rfl⟩
  | succ n ih =>
    obtain ⟨S, hS⟩ := ih (W := W / 2) (by rw [Nat.pow_succ] at h; omega)
    refine ⟨put S n (decide (W % 2 = 1)), ?_⟩
    rw [Vs, Vs_congr (T := S) (fun q a b => by unfold put; rw [if_neg (by omega)]) (by unfold put; rw [if_neg (by omega)]), hS, show put S (n : Int) (decide (W % 2 = 1)) (n : Int) = decide (W % 2 = 1) by simp [put]]
    by_cases c : W % 2 = 1
    · simp [c]; omega
    · simp [c]; omega
theorem addS_some {n : Nat} {ns ms ks : List Int} (h : addS n ns ms = some ks) : Sh ks ∧ Bd n ks ∧ Vs (mS ks) (n + 1) = Vs (mS ns) (n + 1) + Vs (mS ms) (n + 1) ∧ Vs (mS ns) (n + 1) + Vs (mS ms) (n + 1) ≤ 2 ^ n := by
  unfold addS at h
  split at h
  · rename_i c
    cases h
    obtain ⟨S, hS⟩ := lotV_ok (n := n + 1) (W := Vs (mS ns) (n + 1) + Vs (mS ms) (n + 1)) (by rw [Nat.pow_succ, Nat.pow_succ]; have : 0 < 2 ^ n := Nat.pow_pos (by decide); omega)
    rw [← hS, lotV_Vs]
    have e : Vs (mS (lotS S (n + 1))) (n + 1) = Vs S (n + 1) := Vs_congr (fun q a b => by
      by_cases z : S q = true
      · rw [z]; exact decide_eq_true (mem_lotS.mpr ⟨a, b, z⟩)
      · rw [Bool.eq_false_iff.mpr z]; exact decide_eq_false fun y => z (mem_lotS.mp y).2.2) (by
      by_cases z : S (-1) = true
      · rw [z]; exact decide_eq_true (mem_lotS.mpr ⟨by omega, by omega, z⟩)
      · rw [Bool.eq_false_iff.mpr z]; exact decide_eq_false fun y => z (mem_lotS.mp y).2.2)
    have b : ∀ q ∈ lotS S (n + 1), -1 ≤ q ∧ q < ((n + 1 : Nat) : Int) := fun q hq => ⟨(mem_lotS.mp hq).1, (mem_lotS.mp hq).2.1⟩
    rw [e, hS]
    exact ⟨Sh.of (lotS_asc _) b (by rw [e, hS]; exact c), fun q hq => (b q hq).2, rfl, c⟩
  · cases h
/-- three in another order -/
theorem addS_third {n : Nat} {a b c d : List Int} (h : addS n a b = some d) (h2 : addS n d c ≠ none) : ∃ e, addS n a c = some e ∧ addS n e b = addS n d c ∧ addS n d c ≠ none := by
  obtain ⟨_, _, e1, _⟩ := addS_some h
  cases q : addS n d c with
  | none => exact absurd q h2
  | some r =>
    obtain ⟨_, _, e2, l2⟩ := addS_some q
    have l3 : Vs (mS a) (n + 1) + Vs (mS c) (n + 1) ≤ 2 ^ n := by omega
    have q3 : addS n a c = some (lotV (n + 1) (Vs (mS a) (n + 1) + Vs (mS c) (n + 1))) := if_pos l3
    refine ⟨_, q3, ?_, fun z => nomatch z⟩
    obtain ⟨_, _, e4, _⟩ := addS_some q3
    rw [← q]
    unfold addS
    rw [e4, e1, show Vs (mS a) (n + 1) + Vs (mS c) (n + 1) + Vs (mS b) (n + 1) = Vs (mS a) (n + 1) + Vs (mS b) (n + 1) + Vs (mS c) (n + 1) by omega]
theorem lotV_up : ∀ (k n W : Nat), lotV (n + k) (2 ^ k * W) = lotV n W
  | 0, n, W => by simp
  | k + 1, n, W => by
    rw [show n + (k + 1) = (n + k) + 1 by omega, lotV, show 2 ^ (k + 1) * W = 2 * (2 ^ k * W) by rw [Nat.pow_succ, Nat.mul_comm (2 ^ k) 2, Nat.mul_assoc], show 2 * (2 ^ k * W) / 2 = 2 ^ k * W by omega, show 2 * (2 ^ k * W) % 2 = 0 by omega, lotV_up k n W]
    simp
/-- more places make no difference -/
theorem addS_up {n k : Nat} {ns ms : List Int} (h1 : Bd n ns) (h2 : Bd n ms) : addS (n + k) ns ms = addS n ns ms := by
  have u : ∀ {l : List Int}, Bd n l → Vs (mS l) (n + 1 + k) = 2 ^ k * Vs (mS l) (n + 1) := fun h => Vs_up (fun q hq => decide_eq_false fun z => by have := h q z; omega) k
  unfold addS
  rw [show n + k + 1 = n + 1 + k by omega, u h1, u h2, ← Nat.mul_add, lotV_up, Nat.pow_add, Nat.mul_comm (2 ^ n)]
  have : 0 < 2 ^ k := Nat.pow_pos (by decide)
  by_cases c : Vs (mS ns) (n + 1) + Vs (mS ms) (n + 1) ≤ 2 ^ n
  · rw [if_pos c, if_pos (Nat.mul_le_mul_left _ c)]
  · rw [if_neg c, if_neg fun z => c (Nat.le_of_mul_le_mul_left z this)]
/-- two halves -/
theorem half_sh {ns : List Int} (h : Sh ns) : Sh (ns.map (· + 1)) :=
  ⟨fun q hq => by obtain ⟨p, hp, rfl⟩ := List.mem_map.mp hq; have := h.nn p hp; omega,
   List.pairwise_map.mpr (h.asc.imp fun h => by omega), fun z => by obtain ⟨p, hp, e⟩ := List.mem_map.mp z; have := h.nn p hp; omega⟩
theorem half_add {n : Nat} {ns : List Int} (h : Sh ns) (hb : ∀ q ∈ ns, q < n) : addS n (ns.map (· + 1)) (ns.map (· + 1)) = some ns := by
  have e : ∀ j : Nat, Vs (mS (ns.map (· + 1))) (j + 1) = Vs (mS ns) j := fun j => by
    have h1 : mS (ns.map (· + 1)) (-1) = false := decide_eq_false fun z => by obtain ⟨p, hp, e⟩ := List.mem_map.mp z; have := h.nn p hp; omega
    have h2 : ∀ q : Int, mS (ns.map (· + 1)) (q + 1) = mS ns q := fun q => by
      show decide _ = decide _
      congr 1
      exact propext ⟨fun z => by obtain ⟨p, hp, e⟩ := List.mem_map.mp z; rw [show q = p by omega]; exact hp, fun z => List.mem_map.mpr ⟨q, z, rfl⟩⟩
    induction j with
    | zero =>
      simp only [Vs, h1]
      have := h2 (-1)
      rw [show (-1 : Int) + 1 = 0 from rfl] at this
      rw [show ((0 : Nat) : Int) = 0 from rfl, this]
      show 2 * 0 + _ = _
      omega
    | succ j ih =>
      rw [Vs, ih, show ((j + 1 : Nat) : Int) = (j : Int) + 1 by omega, h2]
      rfl
  have b : ∀ q ∈ ns, -1 ≤ q ∧ q < ((n + 1 : Nat) : Int) := fun q hq => ⟨by have := h.nn q hq; omega, by have := hb q hq; omega⟩
  have v : Vs (mS ns) (n + 1) = Vs (mS (ns.map (· + 1))) (n + 1) + Vs (mS (ns.map (· + 1))) (n + 1) := by
    rw [e, Vs, show mS ns (n : Int) = false from decide_eq_false fun z => by have := hb _ z; omega]
    show 2 * Vs (mS ns) n + 0 = _
    omega
  rcases addS_of (ns := ns.map (· + 1)) (ms := ns.map (· + 1)) h.asc b v with q | q
  · exact q.2
  · exact absurd h q.1
end KQ
set_option Elab.async false
set_option maxRecDepth 100000
set_option maxHeartbeats 4000000
/-! B13: a tuple reversed by a slice. -/
namespace KQ
open PySem PySem.Spec PyProof.Rows L2
theorem adjust_rev (n : Nat) : Builtin.Slice.sliceAdjust none none (-1) (n : Int) = ((n : Int) - 1, -1) := by
  unfold Builtin.Slice.sliceAdjust
  simp
theorem places_rev (n : Nat) : Builtin.Slice.slicePlaces ((n : Int) - 1) (-1) (-1) = n := by
  unfold Builtin.Slice.slicePlaces
  have h1 : ¬ ((-1 : Int) > 0) := by omega
  simp only [h1, if_false]
  by_cases c : (n : Int) - 1 > -1
  · rw [if_pos c]
    have : ((n : Int) - 1 - -1 - 1) / (- -1) + 1 = n := by
      rw [show (- -1 : Int) = 1 by decide, Int.ediv_one]
      omega
    rw [this]
    omega
  · rw [if_neg c]
    omega
theorem pick_rev (xs : Array Value) : ((List.range xs.size).filterMap fun (m : Nat) => xs[(((xs.size : Int) - 1) + (m : Int) * (-1)).toNat]?).toArray = xs.toList.reverse.toArray := by
  congr 1
  apply List.ext_getElem?
  intro i
  have hm : ∀ l : List Nat, (∀ m ∈ l, m < xs.size) → (l.filterMap fun (m : Nat) => xs[(((xs.size : Int) - 1) + (m : Int) * (-1)).toNat]?) = l.map fun m => xs.toList.reverse.getD m Value.none := by
    intro l
    induction l with
    | nil => intro _; rfl
    | cons m l ih =>
      intro h
      have hm := h m (List.mem_cons_self ..)
      have e1 : (((xs.size : Int) - 1) + (m : Int) * (-1)).toNat = xs.size - 1 - m := by omega
      have e2 : xs[xs.size - 1 - m]? = some (xs.toList.reverse.getD m Value.none) := by
        have hl : m < xs.toList.reverse.length := by simp; omega
        rw [List.getD_eq_getElem?_getD, List.getElem?_reverse (by simpa using hm)]
        simp only [Array.length_toList, Array.getElem?_toList]
        rw [Array.getElem?_eq_getElem (by omega)]
        rfl
      rw [List.filterMap_cons, e1, e2, List.map_cons, ih fun m' h' => h m' (List.mem_cons_of_mem _ h')]
  rw [hm _ fun m h => List.mem_range.mp h, List.getElem?_map]
  by_cases c : i < xs.size
  · rw [List.getElem?_range c]
    have hl : i < xs.toList.reverse.length := by simpa using c
    simp only [Option.map_some, List.getD_eq_getElem?_getD]
    rw [List.getElem?_eq_getElem hl]
    rfl
  · rw [List.getElem?_eq_none (by simp; omega), List.getElem?_eq_none (by simp; omega)]
    rfl
section
variable {prog : Program} {w : World} {A : Around} {E : Value → Shared → Prop} {s : Shared}
theorem sliceApplied_rev {sl : Addr} {vs : Value} {n : Nat} {Q : Int × Int × Nat → Shared → Prop} (hs : s.heap.IsSliceOf sl .none .none vs) (ps : IsPart vs (some (-1)))
    (h : Q ((n : Int) - 1, -1, n) s) : wpAny (model prog w) A (Builtin.Slice.sliceApplied (.ref sl) (pure (n : Int))) Q E s := by
  obtain ⟨os, hos, hcs, hds⟩ := id hs
  unfold Builtin.Slice.sliceApplied Builtin.Slice.sliceFields
  refine wpAny_bind (wpAny_bind (wpAny_field hos hds (x := .none) rfl (wpAny_bind (wpAny_field hos hds (x := .none) rfl (wpAny_bind (wpAny_field hos hds (x := vs) rfl (wpAny_pure ?_)))))))
  refine wpAny_bind (HT.slicePart_ ps ?_)
  show wpAny _ _ (if ((-1 : Int) == 0) = true then _ else _) _ _ s
  rw [if_neg (by decide)]
  refine wpAny_bind (slicePart_none (wpAny_bind (slicePart_none (wpAny_bind (wpAny_pure ?_)))))
  show wpAny _ _ (match Builtin.Slice.sliceAdjust none none (-1) (n : Int) with | (lo, hi) => pure (lo, (-1 : Int), Builtin.Slice.slicePlaces lo hi (-1))) _ _ s
  rw [adjust_rev n]
  show wpAny _ _ (pure ((n : Int) - 1, (-1 : Int), Builtin.Slice.slicePlaces ((n : Int) - 1) (-1) (-1))) _ _ s
  rw [places_rev]
  exact wpAny_pure h
theorem getItem_tuple_rev {t sl : Addr} {items : Array Value} {vs : Value} {Q : Value → Shared → Prop} (ht : IsTup s.heap t items) (hs : s.heap.IsSliceOf sl .none .none vs) (ps : IsPart vs (some (-1)))
    (h : Q (.ref s.heap.objs.size) { s with heap := s.heap.push { cls := .type "tuple", data := .seq items.toList.reverse.toArray } })
    (hsz : items.size ≤ sizeLine) : wpAny (model prog w) A (getItem (.ref t) (.ref sl)) Q E s := by
  have htake : sizeOk (.seq items.toList.reverse.toArray) := by
    show items.toList.reverse.toArray.size ≤ sizeLine
    rw [List.size_toArray, List.length_reverse, Array.length_toList]
    exact hsz
  obtain ⟨os, hos, hcs, hds⟩ := id hs
  have hTs : s.TypeIs (.ref sl) "slice" := ⟨os, hos, hcs⟩
  unfold getItem
  try with_reducible refine wpAny_holding ?_
  first | refine wpAny_bind (wpAny_pure ?_) | skip
  refine wpAny_bind (wpAny_sequenceKey ht.typeIs (by decide) ?_)
  refine wpAny_bind (wpAny_callSpecial?_slot (name := Str.ofString "__getitem__") ht.typeIs PyProof.Rows.slot_tuple_getitem
    (wpAny_call_entry PyProof.Rows.slot_tuple_getitem ht.typeIs entry_tuple_getitem ?_ (args_tuple_getitem _ _)))
  show wpAny _ _ (Builtin.Tuple.tupleItemsOf (.ref t) >>= _) _ _ s
  refine wpAny_bind (tupleItemsOf_ ht ?_)
  refine wpAny_bind (wpAny_typeOf hTs ?_)
  rw [if_pos (by decide)]
  refine wpAny_bind (sliceApplied_rev hs ps ?_)
  have hno : ¬ (((((items.size : Nat) : Int) - 1) == 0 && (-1 : Int) == 1 && items.size == items.size) = true) := by simp
  show wpAny _ _ (if ((((items.size : Nat) : Int) - 1) == 0 && (-1 : Int) == 1 && items.size == items.size) = true then _ else _) _ _ s
  rw [if_neg hno, pick_rev]
  first
    | exact wpAny_bind (m := Builtin.Tuple.tupleExact _) (wpAny_newObj_type (wpAny_pure ⟨_, rfl, wpAny_pure h⟩) htake)
    | exact wpAny_bind (m := Builtin.Tuple.tupleExact _) (wpAny_newObj_type (wpAny_bind (wpAny_pure (wpAny_pure ⟨_, rfl, wpAny_pure h⟩))) htake)
    | exact wpAny_bind (wpAny_bind (m := Builtin.Tuple.tupleExact _) (wpAny_newObj_type (wpAny_pure (wpAny_pure ⟨_, rfl, wpAny_pure h⟩)) htake))
    | exact wpAny_bind (wpAny_bind (m := Builtin.Tuple.tupleExact _) (wpAny_newObj_type (wpAny_pure ⟨_, rfl, wpAny_pure h⟩) htake))
end
def tRevT (K : PySem.W.Frag) (te : TE) : TE := fun σ H Q => te σ H fun x H1 => ∃ a xs, x = .ref a ∧ SqT K H1 a xs ∧ ∀ p, H1 p = none → Q (.ref p) (upd H1 p (.tup xs.reverse))
theorem pe_revT {X : Cx} {e : Expr} {te : TE} {k : Nat} {p1 p2 p3 pos : Pos} (he : PE X e te) : PE X (.Subscript e (.Slice none none (some (.UnaryOp .USub (.Constant (.int 1) k p1) p2)) p3) pos) (tRevT X.K te) := by
  refine ⟨fun pins s σ H Q I h => ?_⟩
  refine Subscript_ (thn (he.run pins s σ H _ I h) fun v s1 ⟨x, H1, I1, r1, q1⟩ => ?_)
  obtain ⟨a, xs, ex, hx, q⟩ := q1
  subst ex
  cases r1
  have hst : PO X (some (.UnaryOp .USub (.Constant (.int 1) k p1) p2)) (tPart (tUn (rU fun i => .int (-i)) (tC (.int 1)))) := po_some (pe_un un_neg pe_int)
  refine wpAny_Slice (thn (po_none.run pins s1 σ H1 (fun o H2 => o = none ∧ H2 = H1) I1 ⟨rfl, rfl⟩) fun vl s2 ⟨l, H2, I2, pl, el, e2⟩ => ?_)
  subst el e2
  cases pl
  refine thn (po_none.run pins s2 σ H2 (fun o H3 => o = none ∧ H3 = H2) I2 ⟨rfl, rfl⟩) fun vu s3 ⟨u, H3, I3, pu, eu, e3⟩ => ?_
  subst eu e3
  cases pu
  refine thn (hst.run pins s3 σ H3 (fun o H4 => o = some (-1) ∧ H4 = H3) I3 ⟨1, rfl, -1, rfl, rfl, rfl⟩) fun vs s4 ⟨o, H4, I4, ps, eo, e4⟩ => ?_
  subst eo e4
  have I5 : Inv X pins σ H4 { s4 with heap := s4.heap.push { cls := .type "slice", data := .fields #[.none, .none, vs] } } := I4.kept (t' := s4.toks) fun b ob q => Heap.get?_push_of_some _ q
  obtain ⟨its, r, ht, hz⟩ := I5.tuple hx
  have hlen := r.length
  show wpAny (model X.prog X.w) X.A (subscriptTail e (.Slice none none (some (.UnaryOp .USub (.Constant (.int 1) k p1) p2)) p3) (.ref a) (.ref s4.heap.objs.size)) (EP X pins σ Q) X.xe { s4 with heap := s4.heap.push { cls := .type "slice", data := .fields #[.none, .none, vs] } }
  refine tail_any (ops := [.ref a, .ref s4.heap.objs.size]) ht.typeIs (PyProof.Rows.slot_tuple_getitem.lookup) ?_ (by with_unfolding_all rfl)
  refine getItem_tuple_rev ht (Heap.IsSliceOf.new _ .none .none vs) ps ?_ (by rw [List.size_toArray]; omega)
  refine ⟨.ref _, _, I5.laid (t' := s4.toks) (o := .tup xs.reverse) (fun b ob q => Heap.get?_push_of_some _ q) (Nat.le_refl _) ?_, rfl, q _ (I5.hok.fresh (Nat.le_refl _))⟩
  exact ⟨by rw [List.length_reverse]; exact hz, _, r.reverse, IsTup.new _ _⟩
/-- a text some times behind itself -/
def rRepS : R2 := fun x y H Q => ∃ (z : Str) (n : Nat), x = .str z ∧ y = .int (n : Int) ∧ 2 ≤ n ∧ n ≤ 1000 ∧ 0 < z.length ∧ z.length ≤ 1000 ∧ (⟨(List.replicate n z.cps).foldl (· ++ ·) #[]⟩ : Str).length ≤ 1000000 ∧ Q (.str ⟨(List.replicate n z.cps).foldl (· ++ ·) #[]⟩) H
theorem op_repS {X : Cx} : OpR X (binaryOp .Mult) rRepS := by
  intro pins s σ H x y v u Q I rx ry h
  obtain ⟨z, n, rfl, rfl, h2, h3, h4, h5, h6, q⟩ := h
  obtain ⟨t, rfl⟩ := rx
  obtain ⟨t', rfl⟩ := ry
  refine P.mul_str ?_ (fun _ _ => ?_) (fun _ _ => ?_) ?_
  · rw [decide_eq_false (by omega), decide_eq_false (by omega)]; rfl
  · have h9 : (2 ^ 63 - 1 : Int) / (n : Int) ≥ (2 ^ 63 - 1 : Int) / 1000 := by
      rw [ge_iff_le, Int.le_ediv_iff_mul_le (by omega)]
      have e : (2 ^ 63 - 1 : Int) / 1000 = 9223372036854775 := by decide
      rw [e]
      omega
    have e : (2 ^ 63 - 1 : Int) / 1000 = 9223372036854775 := by decide
    omega
  · have : z.length * (n : Int).toNat ≤ 1000000 := by
      rw [Int.toNat_natCast]
      exact Nat.le_trans (Nat.mul_le_mul h5 h3) (by decide)
    show decide (z.length * (n : Int).toNat > sizeLine) = false
    rw [sizeLine_eq]
    exact decide_eq_false (by omega)
  · rw [if_neg (by omega), if_neg (by simp; omega), Int.toNat_natCast]
    refine ⟨?_, ?_⟩
    · rw [sizeLine_eq]
      omega
    · exact ⟨.str _, H, I.tok _, ⟨_, rfl⟩, q⟩
/-- f(), f by its promise -/
theorem pe_h0 {X : Cx} {k : Nat} {x : Str} {ps : List Str} {sp : Sp} {p pos : Pos} (D : Has X.prog X.w X.K X.mg X.base k x ps sp) (hr : Room k X.A) (hg : Gl X x) (hdb : (x == ("__debug__" : Str)) = false := by decide) :
    PE X (.Call (.Name x p) [] [] pos) (tCall sp [] E0 tNil) := by
  obtain ⟨f, fd, G, m, kp, b⟩ := D
  exact pe_call0 G hr hg m kp b .nil pass0 hdb
end KQ
set_option Elab.async false
set_option maxRecDepth 100000
set_option maxHeartbeats 4000000
namespace KQ
open PySem PySem.Spec PyProof.Rows L2
def top (i : Nat) : Stmt := PySem.Challenge.pw_knownquiet_k09_refusals_of_links.main.body.getD i (.Pass ⟨0, 0, 0, 0⟩)
abbrev s_wall : Stmt := top 0
theorem sc_wall : FnScope ["k"] ["k"] (defScope s_wall) := ⟨rfl, rfl, rfl, by decide +kernel, rfl, by decide +kernel, by decide +kernel⟩
abbrev s_is_number : Stmt := top 5
theorem sc_is_number : FnScope ["thing"] ["thing"] (defScope s_is_number) := ⟨rfl, rfl, rfl, by decide +kernel, rfl, by decide +kernel, by decide +kernel⟩
abbrev s_is_below : Stmt := top 6
theorem sc_is_below : FnScope ["bound", "thing"] ["bound", "thing"] (defScope s_is_below) := ⟨rfl, rfl, rfl, by decide +kernel, rfl, by decide +kernel, by decide +kernel⟩
abbrev s_Outgoing___init__ : Stmt := inClass (top 10) 0
theorem sc_Outgoing___init__ : FnScope ["self"] ["self"] (defScope s_Outgoing___init__) := ⟨rfl, rfl, rfl, by decide +kernel, rfl, by decide +kernel, by decide +kernel⟩
abbrev s_Outgoing_put : Stmt := inClass (top 10) 1
theorem sc_Outgoing_put : FnScope ["self", "thing"] ["self", "thing"] (defScope s_Outgoing_put) := ⟨rfl, rfl, rfl, by decide +kernel, rfl, by decide +kernel, by decide +kernel⟩
abbrev s_Outgoing_known : Stmt := inClass (top 10) 2
theorem sc_Outgoing_known : FnScope ["self", "number", "many"] ["self", "number"] (defScope s_Outgoing_known) := ⟨rfl, rfl, rfl, by decide +kernel, rfl, by decide +kernel, by decide +kernel⟩
abbrev s_Outgoing_waiting : Stmt := inClass (top 10) 3
theorem sc_Outgoing_waiting : FnScope ["self"] ["self"] (defScope s_Outgoing_waiting) := ⟨rfl, rfl, rfl, by decide +kernel, rfl, by decide +kernel, by decide +kernel⟩
abbrev s_Outgoing_many_put : Stmt := inClass (top 10) 4
theorem sc_Outgoing_many_put : FnScope ["self"] ["self"] (defScope s_Outgoing_many_put) := ⟨rfl, rfl, rfl, by decide +kernel, rfl, by decide +kernel, by decide +kernel⟩
abbrev s_Outgoing_state : Stmt := inClass (top 10) 5
theorem sc_Outgoing_state : FnScope ["self"] ["self"] (defScope s_Outgoing_state) := ⟨rfl, rfl, rfl, by decide +kernel, rfl, by decide +kernel, by decide +kernel⟩
abbrev s_Outgoing_copy : Stmt := inClass (top 10) 6
theorem sc_Outgoing_copy : FnScope ["self"] ["self"] (defScope s_Outgoing_copy) := ⟨rfl, rfl, rfl, by decide +kernel, rfl, by decide +kernel, by decide +kernel⟩
abbrev s_Incoming___init__ : Stmt := inClass (top 11) 0
theorem sc_Incoming___init__ : FnScope ["self"] ["self"] (defScope s_Incoming___init__) := ⟨rfl, rfl, rfl, by decide +kernel, rfl, by decide +kernel, by decide +kernel⟩
abbrev s_Incoming_take : Stmt := inClass (top 11) 1
theorem sc_Incoming_take : FnScope ["self", "number", "thing", "things"] ["self", "number", "thing"] (defScope s_Incoming_take) := ⟨rfl, rfl, rfl, by decide +kernel, rfl, by decide +kernel, by decide +kernel⟩
abbrev s_Incoming_taken : Stmt := inClass (top 11) 2
theorem sc_Incoming_taken : FnScope ["self"] ["self"] (defScope s_Incoming_taken) := ⟨rfl, rfl, rfl, by decide +kernel, rfl, by decide +kernel, by decide +kernel⟩
abbrev s_Incoming_held : Stmt := inClass (top 11) 3
theorem sc_Incoming_held : FnScope ["self"] ["self"] (defScope s_Incoming_held) := ⟨rfl, rfl, rfl, by decide +kernel, rfl, by decide +kernel, by decide +kernel⟩
abbrev s_Incoming_state : Stmt := inClass (top 11) 4
theorem sc_Incoming_state : FnScope ["self", "number"] ["self"] (defScope s_Incoming_state) := ⟨rfl, rfl, rfl, by decide +kernel, rfl, by decide +kernel, by decide +kernel⟩
abbrev s_Incoming_copy : Stmt := inClass (top 11) 5
theorem sc_Incoming_copy : FnScope ["self"] ["self"] (defScope s_Incoming_copy) := ⟨rfl, rfl, rfl, by decide +kernel, rfl, by decide +kernel, by decide +kernel⟩
abbrev s_law_hand : Stmt := top 13
theorem sc_law_hand : FnScope ["script"] ["script"] (defScope s_law_hand) := ⟨rfl, rfl, rfl, by decide +kernel, rfl, by decide +kernel, by decide +kernel⟩
abbrev s_law_take : Stmt := top 14
theorem sc_law_take : FnScope ["hand", "many", "cell", "found", "number"] ["hand", "many"] (defScope s_law_take) := ⟨rfl, rfl, rfl, by decide +kernel, rfl, by decide +kernel, by decide +kernel⟩
abbrev s_law_pick : Stmt := top 15
theorem sc_law_pick : FnScope ["hand", "things"] ["hand", "things"] (defScope s_law_pick) := ⟨rfl, rfl, rfl, by decide +kernel, rfl, by decide +kernel, by decide +kernel⟩
abbrev s_law_is_integer : Stmt := top 16
theorem sc_law_is_integer : FnScope ["thing"] ["thing"] (defScope s_law_is_integer) := ⟨rfl, rfl, rfl, by decide +kernel, rfl, by decide +kernel, by decide +kernel⟩
abbrev s_law_is_within : Stmt := top 17
theorem sc_law_is_within : FnScope ["thing", "least", "most"] ["thing", "least", "most"] (defScope s_law_is_within) := ⟨rfl, rfl, rfl, by decide +kernel, rfl, by decide +kernel, by decide +kernel⟩
abbrev s_law_same : Stmt := top 18
theorem sc_law_same : FnScope ["actual", "due", "one", "other"] ["actual", "due"] (defScope s_law_same) := ⟨rfl, rfl, rfl, by decide +kernel, rfl, by decide +kernel, by decide +kernel⟩
abbrev s_law_odd : Stmt := top 19
theorem sc_law_odd : FnScope ["hand", "way"] ["hand"] (defScope s_law_odd) := ⟨rfl, rfl, rfl, by decide +kernel, rfl, by decide +kernel, by decide +kernel⟩
abbrev s_law_known : Stmt := top 20
theorem sc_law_known : FnScope ["out", "number"] ["out", "number"] (defScope s_law_known) := ⟨rfl, rfl, rfl, by decide +kernel, rfl, by decide +kernel, by decide +kernel⟩
abbrev s_law_taken : Stmt := top 21
theorem sc_law_taken : FnScope ["end", "number"] ["end", "number"] (defScope s_law_taken) := ⟨rfl, rfl, rfl, by decide +kernel, rfl, by decide +kernel, by decide +kernel⟩
abbrev s_law : Stmt := top 22
theorem sc_law : FnScope ["script", "hand", "out", "end", "many", "k", "gone", "taken", "number", "state", "told"] ["script"] (defScope s_law) := ⟨rfl, rfl, rfl, by decide +kernel, rfl, by decide +kernel, by decide +kernel⟩
end KQ
set_option Elab.async false
set_option maxRecDepth 100000
set_option maxHeartbeats 4000000
namespace KQ
open PySem PySem.Spec PyProof.Rows L2

/-- the built-in names that no text of ours binds -/
structure Bi (mg : Str → Option Value) : Prop where
  len : mg "len" = none
  isinstance : mg "isinstance" = none
  int : mg "int" = none
  bool : mg "bool" = none
  tuple : mg "tuple" = none
  list : mg "list" = none
  str : mg "str" = none
  zip : mg "zip" = none
  range : mg "range" = none
  max : mg "max" = none
  sorted : mg "sorted" = none
  all : mg "all" = none
  sum : mg "sum" = none
  enumerate : mg "enumerate" = none
  abs : mg "abs" = none
  ord : mg "ord" = none
  min : mg "min" = none
  any : mg "any" = none
  dict : mg "dict" = none
  repr : mg "repr" = none
  reversed : mg "reversed" = none

/-! ### the drawing hand: the script's ints at l, four ints beside it -/
def HandOk (H : Hp) (h l : Addr) : Prop := ∃ (xs : List Int) (i b s c : Int), H h = some (.lst [.ref l, .int i, .int b, .int s, .int c]) ∧ H l = some (.lst (xs.map V.int)) ∧
  0 ≤ i ∧ i ≤ xs.length ∧ 0 ≤ b ∧ 0 ≤ s ∧ s < 2147483647 ∧ xs.length ≤ 1000
abbrev Nh (h : Addr) : Addr → Prop := fun a => a = h
theorem HandOk.same {H H' : Hp} {h l : Addr} (k : HandOk H h l) (e : Same H H') : HandOk H' h l := by
  obtain ⟨xs, i, b, s, c, h1, h2, r⟩ := k
  exact ⟨xs, i, b, s, c, e _ _ h1, e _ _ h2, r⟩
theorem same_new {H : Hp} {p : Addr} {o : HO} (h : H p = none) : Same H (upd H p o) := fun b u q => by rw [upd_ne (ne_of_none q h)]; exact q
theorem HandOk.new {H : Hp} {h l p : Addr} {o : HO} (k : HandOk H h l) (n : H p = none) : HandOk (upd H p o) h l := k.same (same_new n)
theorem HandOk.ne {H : Hp} {h l p : Addr} (k : HandOk H h l) (n : H p = none) : p ≠ h := by
  obtain ⟨xs, i, b, s, c, h1, _⟩ := k
  exact (ne_of_none h1 n).symm
theorem HandOk.ne0 {H : Hp} {h l p : Addr} (k : HandOk H h l) (n : H p = none) : p ≠ l := by
  obtain ⟨xs, i, b, s, c, _, h2, _⟩ := k
  exact (ne_of_none h2 n).symm
/-- what stands at the hand's two places is a list -/
theorem HandOk.lst {H : Hp} {h l : Addr} (k : HandOk H h l) : (∃ xs, H h = some (.lst xs)) ∧ ∃ xs, H l = some (.lst xs) := by
  obtain ⟨xs, i, b, s, c, h1, h2, _⟩ := k
  exact ⟨⟨_, h1⟩, _, h2⟩
/-- the hand's own list -/
abbrev hL (l : Addr) (i b s c : Int) : HO := .lst [.ref l, .int i, .int b, .int s, .int c]
def spHand (K : PySem.W.Frag) : Sp := fun vs H Q _ => ∃ (a : Addr) (ns : List Int), vs = [.ref a] ∧ SqL K H a (ns.map V.int) ∧ ns.length ≤ 1000 ∧ ∀ (h l : Addr) (H' : Hp), H h = none → H l = none → Same H H' → HandOk H' h l → Q (.ref h) H'
def spTake : Sp := fun vs H Q _ => ∃ (h l : Addr) (m : Int), vs = [.ref h, .int m] ∧ HandOk H h l ∧ 0 < m ∧ m < 1073741824 ∧
  ∀ (r : Int) (H' : Hp), 0 ≤ r → r < m → HandOk H' h l → (∀ a, a ≠ h → H' a = H a) → Q (.int r) H'
section
variable {P : Program} {w : World} {K : PySem.W.Frag} {mg : Str → Option Value} {base : Heap}
theorem d_law_hand (B : Bi mg) (F : FunAt K mg "_law_hand" s_law_hand) : Has P w K mg base 1 "_law_hand" ["script"] (spHand K) := by
  refine mk_has F sc_law_hand (fun _ _ _ _ _ _ us hl => match us, hl with | [_], _ => rfl) (fun vs H Q E h => ?_) fun f cdv A outer s H vs Q E hr h => ?_
  · obtain ⟨a, ns, rfl, _⟩ := h
    rfl
  obtain ⟨a, ns, rfl, hS, hl, k⟩ := h
  refine ⟨_, (pss_one (ps_ret (pe_lst (pa_cons (pe_callTy call_list_of rfl B.list (by decide +kernel) (pa_cons (pv 0) pa_nil)) (pa_cons pe_int (pa_cons pe_int (pa_cons pe_int (pa_cons pe_int pa_nil)))))))), ?_⟩
  refine ⟨_, rfl, a, _, rfl, .inl hS, fun l nl => ⟨(by show 5 ≤ sizeLine; decide), fun h nh => ?_⟩⟩
  have nlh : l ≠ h := ne_of_none upd_same nh
  have e1 : H h = none := by
    have q := nh
    rw [upd_ne nlh.symm] at q
    exact q
  exact k h l _ e1 nl ((same_new nl).trans (same_new nh)) ⟨ns, 0, 0, 1, 0, upd_same, by rw [upd_ne nlh]; exact upd_same, Int.le_refl 0, by omega, Int.le_refl 0, by omega, by omega, hl⟩
theorem fmod_lt' {a m : Int} (h : 0 < m) : 0 ≤ a.fmod m ∧ a.fmod m < m := by
  rw [Int.fmod_eq_emod_of_nonneg a (Int.le_of_lt h)]
  exact ⟨Int.emod_nonneg a (by omega), Int.emod_lt_of_pos a h⟩
theorem fdiv_nn {a m : Int} (h : 0 < m) (ha : 0 ≤ a) : 0 ≤ a.fdiv m := by
  rw [Int.fdiv_eq_ediv_of_nonneg a (Int.le_of_lt h)]
  exact Int.ediv_nonneg ha (Int.le_of_lt h)
theorem atI_map {xs : List Int} {i : Int} (h0 : 0 ≤ i) (h : i < xs.length) : ∃ v, atI (xs.map V.int) i = some (.int v) := by
  have hk : i.toNat < xs.length := by omega
  have q : atI (xs.map V.int) ((i.toNat : Nat) : Int) = some (.int xs[i.toNat]) := atI_nat (by rw [List.getElem?_map, List.getElem?_eq_getElem hk] <;> rfl)
  rw [show ((i.toNat : Nat) : Int) = i by omega] at q
  exact ⟨_, q⟩
theorem d_law_take (B : Bi mg) (F : FunAt K mg "_law_take" s_law_take) : Has P w K mg base 1 "_law_take" ["hand", "many"] spTake := by
  refine mk_has F sc_law_take (fun _ _ _ _ _ _ us hl => match us, hl with | [_, _], _ => rfl) (fun vs H Q E h => ?_) fun f cdv A outer s H vs Q E hr h => ?_
  · obtain ⟨a, l, m, rfl, _⟩ := h
    rfl
  obtain ⟨h, l, m, rfl, ⟨xs, i, b, sd, c, e1, e2, hi0, hi1, hb, hs0, hs1, hx⟩, hm0, hm1, k⟩ := h
  refine ⟨_, (pss_cons (ps_asg (pe_op op_add (pe_ix ix_list (pv 0) pe_int (fun _ _ => rfl)) pe_int) (pg_sub (pv 0) pe_int set_list))
    (C8.pss_cut (ps_if (PW.pt (pw_and (pt_cmpR op_eq (pe_ix ix_list (pv 0) pe_int (fun _ _ => rfl)) pe_int (nomark _)) (pw_and1 (pt_cmpR op_lt (pe_ix ix_list (pv 0) pe_int (fun _ _ => rfl)) (pe_callB call_len_seq rfl B.len PySem.boot_len (pa_cons (pe_ix ix_list (pv 0) pe_int (fun _ _ => rfl)) pa_nil)) (nomark _)))))
    (pss_cons (ps_set (i := 2) sc_law_take.nd rfl (Or.inl rfl) (pe_callTy call_int1 rfl B.int (by decide +kernel) (pa_cons (pe_ix ix_list (pe_ix ix_list (pv 0) pe_int (fun _ _ => rfl)) (pe_ix ix_list (pv 0) pe_int (fun _ _ => rfl)) (fun _ _ => rfl)) pa_nil)))
    (pss_cons (ps_asg (pe_op op_add (pe_ix ix_list (pv 0) pe_int (fun _ _ => rfl)) pe_int) (pg_sub (pv 0) pe_int set_list))
    (pss_one (ps_if (pt_cmpR op_ge (pv 2) (pe_op op_pow pe_int pe_int) (nomark _))
    (pss_one (ps_asg (pv 2) (pg_sub (pv 0) pe_int set_list)))
    (pss_one (ps_asg (pe_op op_mod (pe_callTy call_int1 rfl B.int (by decide +kernel) (pa_cons (pe_op op_add (pe_op op_add (pe_op op_mul (pe_ix ix_list (pv 0) pe_int (fun _ _ => rfl)) pe_int) (pe_op op_mod (pe_callTy call_int1 rfl B.int (by decide +kernel) (pa_cons (pv 2) pa_nil)) pe_int)) pe_int) pa_nil)) pe_int) (pg_sub (pv 0) pe_int set_list)))))))
    pss_nil)
    (pss_cons (ps_if (pt_cmpR op_gt (pe_ix ix_list (pv 0) pe_int (fun _ _ => rfl)) pe_int (nomark _))
    (pss_cons (ps_set (i := 3) sc_law_take.nd rfl (Or.inl rfl) (pe_op op_modN (pe_callTy call_int1 rfl B.int (by decide +kernel) (pa_cons (pe_ix ix_list (pv 0) pe_int (fun _ _ => rfl)) pa_nil)) (pv 1)))
    (pss_cons (ps_asg (pe_op op_fdivN (pe_callTy call_int1 rfl B.int (by decide +kernel) (pa_cons (pe_ix ix_list (pv 0) pe_int (fun _ _ => rfl)) pa_nil)) (pv 1)) (pg_sub (pv 0) pe_int set_list))
    (pss_one (ps_ret (pv 3)))))
    pss_nil)
    (pss_cons (ps_asg (pe_op op_mod (pe_callTy call_int1 rfl B.int (by decide +kernel) (pa_cons (pe_op op_add (pe_op op_mul (pe_ix ix_list (pv 0) pe_int (fun _ _ => rfl)) pe_int) (pe_op op_mul pe_int (pe_ix ix_list (pv 0) pe_int (fun _ _ => rfl)))) pa_nil)) pe_int) (pg_sub (pv 0) pe_int set_list))
    (pss_cons (ps_set (i := 4) sc_law_take.nd rfl (Or.inl rfl) (pe_op op_mod (pe_callTy call_int1 rfl B.int (by decide +kernel) (pa_cons (pe_op op_mul (pe_ix ix_list (pv 0) pe_int (fun _ _ => rfl)) (pe_op op_add (pe_op op_fdiv (pe_ix ix_list (pv 0) pe_int (fun _ _ => rfl)) pe_int) pe_int)) pa_nil)) pe_int))
    (pss_cons (ps_set (i := 4) sc_law_take.nd rfl (Or.inl rfl) (pe_op op_mod (pe_callTy call_int1 rfl B.int (by decide +kernel) (pa_cons (pe_op op_mul (pv 4) (pe_op op_add (pe_op op_fdiv (pv 4) pe_int) pe_int)) pa_nil)) pe_int))
    (pss_one (ps_ret (pe_op op_modN (pe_callTy call_int1 rfl B.int (by decide +kernel) (pa_cons (pe_op op_fdiv (pv 4) pe_int) pa_nil)) (pv 1)))))))))), ?_⟩
  have nlh : l ≠ h := ne_of e2 e1 (by intro z; injection z with z; cases xs <;> simp at z)
  have eL : ∀ o, (upd H h o) l = Option.some (.lst (xs.map V.int)) := fun o => by rw [upd_ne nlh]; exact e2
  -- the count is one more
  refine ⟨_, rfl, _, _, _, _, rfl, rfl, SqL.of e1, rfl, _, _, rfl, rfl, _, rfl, _, _, _, _, rfl, rfl, e1, rfl, ?_⟩
  -- what stands ahead of the draw, whatever was read
  refine ⟨fun σ H' => ∃ (i b sd c : Int) (v : Option V), σ = [Option.some (.ref h), Option.some (.int m), v, none, none] ∧ H' h = Option.some (hL l i b sd c) ∧ (∀ a, a ≠ h → H' a = H a) ∧ 0 ≤ i ∧ i ≤ xs.length ∧ 0 ≤ b ∧ 0 ≤ sd ∧ sd < 2147483647, ?_, ?_⟩
  · refine ⟨_, rfl, _, _, _, _, rfl, rfl, SqL.of upd_same, rfl, rfl, _, rfl, ?_⟩
    refine ite2 (fun c1 => ?_) (fun c1 => ?_)
    · refine ⟨_, rfl, _, _, _, _, rfl, rfl, SqL.of upd_same, rfl, _, rfl, _, _, _, _, rfl, rfl, SqL.of upd_same, rfl, _, _, rfl, .inl (SqL.of (eL _)), _, _, rfl, rfl, _, rfl, ?_⟩
      refine ite2 (fun c2 => ?_) (fun c2 => ?_)
      · have c2' := of_decide_eq_true c2
        rw [List.length_map] at c2'
        obtain ⟨v, hv⟩ := atI_map (xs := xs) hi0 c2'
        refine ⟨_, rfl, _, _, _, _, rfl, rfl, SqL.of upd_same, rfl, _, rfl, _, _, _, _, rfl, rfl, SqL.of upd_same, rfl, _, _, _, _, rfl, rfl, SqL.of (eL _), hv, .inl ⟨_, rfl, ?_⟩⟩
        refine ⟨_, rfl, _, _, _, _, rfl, rfl, SqL.of upd_same, rfl, _, _, rfl, rfl, _, rfl, _, _, _, _, rfl, rfl, upd_same, rfl, ?_⟩
        refine ⟨_, rfl, _, _, rfl, rfl, ⟨by decide, by decide, by decide⟩, _, _, rfl, rfl, _, rfl, ?_⟩
        refine ite2 (fun c3 => ?_) (fun c3 => ?_)
        · have c3' := of_decide_eq_true c3
          refine ⟨_, rfl, _, rfl, _, _, _, _, rfl, rfl, upd_same, rfl, ?_⟩
          refine ⟨i + 1, v, sd, c + 1, _, rfl, upd_same, fun a ha => by rw [upd_ne ha, upd_ne ha, upd_ne ha], by omega, by omega, ?_, hs0, hs1⟩
          have z : (0 : Int) ≤ 10 ^ (18 : Int).toNat := by decide
          omega
        · refine ⟨_, rfl, _, _, _, _, rfl, rfl, SqL.of upd_same, rfl, _, _, rfl, rfl, .inl ⟨by omega, by omega⟩, _, rfl, .inl ⟨_, rfl, _, _, rfl, rfl, (by show (0 : Int) < 2147483647; decide), _, _, rfl, rfl, _, _, rfl, rfl, .inl ⟨_, rfl, _, _, rfl, rfl, (by show (0 : Int) < 2147483647; decide), _, rfl, _, _, _, _, rfl, rfl, upd_same, rfl, ?_⟩⟩⟩
          refine ⟨i + 1, b, _, c + 1, _, rfl, upd_same, fun a ha => by rw [upd_ne ha, upd_ne ha, upd_ne ha], by omega, by omega, hb, Int.emod_nonneg _ (by decide), Int.emod_lt_of_pos _ (by decide)⟩
      · exact ⟨i, b, sd, c + 1, _, rfl, upd_same, fun a ha => by rw [upd_ne ha], hi0, hi1, hb, hs0, hs1⟩
    · exact ⟨i, b, sd, c + 1, _, rfl, upd_same, fun a ha => by rw [upd_ne ha], hi0, hi1, hb, hs0, hs1⟩
  · rintro σ H1 ⟨i, b, sd, c, v, rfl, g1, gk, hi0, hi1, hb, hs0, hs1⟩
    have gl : H1 l = Option.some (.lst (xs.map V.int)) := (gk l nlh).trans e2
    refine ⟨_, rfl, _, _, _, _, rfl, rfl, SqL.of g1, rfl, _, _, rfl, rfl, _, rfl, ?_⟩
    refine ite2 (fun c1 => ?_) (fun c1 => ?_)
    · refine ⟨_, rfl, _, _, _, _, rfl, rfl, SqL.of g1, rfl, .inl ⟨_, rfl, _, rfl, _, _, rfl, rfl, (by omega), ?_⟩⟩
      refine ⟨_, rfl, _, _, _, _, rfl, rfl, SqL.of g1, rfl, .inl ⟨_, rfl, _, rfl, _, _, rfl, rfl, ⟨by omega, by omega⟩, _, rfl, _, _, _, _, rfl, rfl, g1, rfl, ?_⟩⟩
      refine ⟨_, rfl, ?_⟩
      refine k _ _ (fmod_lt' hm0).1 (fmod_lt' hm0).2 ⟨xs, i, _, sd, c, upd_same, by rw [upd_ne nlh]; exact gl, hi0, hi1, fdiv_nn hm0 hb, hs0, hs1, hx⟩ fun a ha => by rw [upd_ne ha]; exact gk a ha
    · refine ⟨_, rfl, _, _, _, _, rfl, rfl, SqL.of g1, rfl, _, _, rfl, rfl, .inl ⟨by omega, by omega⟩, _, rfl, _, _, _, _, rfl, rfl, SqL.of g1, rfl, _, _, rfl, rfl, .inl ⟨by decide, by decide⟩, _, _, rfl, rfl, .inl ⟨_, rfl, _, _, rfl, rfl, (by show (0 : Int) < 2147483647; decide), _, rfl, _, _, _, _, rfl, rfl, g1, rfl, ?_⟩⟩
      refine ⟨_, rfl, _, _, _, _, rfl, rfl, SqL.of upd_same, rfl, _, rfl, _, _, _, _, rfl, rfl, SqL.of upd_same, rfl, ?_⟩
      have z0 : 0 ≤ (sd * 69621 + 7919 * c) % 2147483647 := Int.emod_nonneg _ (by decide)
      have z1 : (sd * 69621 + 7919 * c) % 2147483647 < 2147483647 := Int.emod_lt_of_pos _ (by decide)
      have y0 : ∀ y : Int, 0 ≤ y % 2147483647 := fun y => Int.emod_nonneg _ (by decide)
      have y1 : ∀ y : Int, y % 2147483647 < 2147483647 := fun y => Int.emod_lt_of_pos _ (by decide)
      refine ⟨_, _, rfl, rfl, ⟨by decide, by decide⟩, _, _, rfl, rfl, _, _, rfl, rfl, .inl ⟨?a1, ?a2⟩, .inl ⟨_, rfl, _, _, rfl, rfl, (by show (0 : Int) < 2147483647; decide), ?_⟩⟩
      case a1 => omega
      case a2 => omega
      refine ⟨_, rfl, _, rfl, _, _, rfl, rfl, ⟨by decide, by decide⟩, _, _, rfl, rfl, _, _, rfl, rfl, .inl ⟨?b1, ?b2⟩, .inl ⟨_, rfl, _, _, rfl, rfl, (by show (0 : Int) < 2147483399; decide), ?_⟩⟩
      case b1 => exact Int.lt_of_lt_of_le (by decide) (y0 _)
      case b2 => exact Int.lt_trans (y1 _) (by decide)
      refine ⟨_, rfl, _, _, rfl, rfl, ⟨by decide, by decide⟩, .inl ⟨_, rfl, _, rfl, _, _, rfl, rfl, (by omega), ?_⟩⟩
      exact k _ _ (fmod_lt' hm0).1 (fmod_lt' hm0).2 ⟨xs, i, b, _, c, upd_same, by rw [upd_ne nlh]; exact gl, hi0, hi1, hb, z0, z1, hx⟩ fun a ha => by rw [upd_ne ha]; exact gk a ha
end
end KQ
set_option Elab.async false
set_option maxRecDepth 100000
set_option maxHeartbeats 4000000
namespace KQ
open PySem PySem.Spec PyProof.Rows L2
theorem ifT {c : Bool} {A B : Prop} (h : c = true) (a : A) : if c = true then A else B := by rw [if_pos h]; exact a
theorem ifF {c : Bool} {A B : Prop} (h : c = false) (b : B) : if c = true then A else B := by rw [h, if_neg Bool.false_ne_true]; exact b
theorem atI_some {xs : List V} {i : Int} (h0 : 0 ≤ i) (h : i < xs.length) : ∃ v, atI xs i = some v ∧ v ∈ xs ∧ xs[i.toNat]? = some v := by
  have hk : i.toNat < xs.length := by omega
  have q : atI xs ((i.toNat : Nat) : Int) = some xs[i.toNat] := atI_nat (List.getElem?_eq_getElem hk)
  rw [show ((i.toNat : Nat) : Int) = i by omega] at q
  exact ⟨_, q, List.getElem_mem hk, List.getElem?_eq_getElem hk⟩
def spPick : Sp := fun vs H Q _ => ∃ (h l t : Addr) (xs : List V), vs = [.ref h, .ref t] ∧ HandOk H h l ∧ H t = some (.lst xs) ∧ t ≠ h ∧ 0 < xs.length ∧ xs.length < 1073741824 ∧
  ∀ (v : V) (H' : Hp), v ∈ xs → HandOk H' h l → (∀ a, a ≠ h → H' a = H a) → Q v H'
def spIsInt : Sp := fun vs H Q _ => ∃ (N : Addr → Prop) (v : V) (d : PyData), vs = [v] ∧ Rp N H v d ∧ Q (.bl (intOf d).isSome) H
def within (d : PyData) (lo hi : Int) : Bool := match intOf d with
  | some i => decide (lo ≤ i) && decide (i ≤ hi)
  | none => false
def spWithin : Sp := fun vs H Q _ => ∃ (N : Addr → Prop) (v : V) (d : PyData) (lo hi : Int), vs = [v, .int lo, .int hi] ∧ Rp N H v d ∧ Q (.bl (within d lo hi)) H
def spSame (n : Nat) : Sp := fun vs H Q _ => ∃ (N N' : Addr → Prop) (a b : V) (d : PyData), vs = [a, b] ∧ Rp N H a d ∧ Rp N' H b d ∧ d.depth ≤ n ∧ d.canLay0 = true ∧ ∀ H', Same H H' → Q (.bl true) H'
theorem isInt_is (d : PyData) : (isT "int" d && !isT "bool" d) = (intOf d).isSome := by cases d <;> rfl
section
variable {P : Program} {w : World} {K : PySem.W.Frag} {mg : Str → Option Value} {base : Heap}
theorem d_law_pick (B : Bi mg) (F : FunAt K mg "_law_pick" s_law_pick) (D_law_take : Has P w K mg base 1 "_law_take" ["hand", "many"] spTake) : Has P w K mg base 2 "_law_pick" ["hand", "things"] spPick := by
  refine mk_has F sc_law_pick (fun _ _ _ _ _ _ us hl => match us, hl with | [_, _], _ => rfl) (fun vs H Q E h => ?_) fun f cdv A outer s H vs Q E hr h => ?_
  · obtain ⟨h, l, t, xs, rfl, _⟩ := h
    rfl
  obtain ⟨h, l, t, xs, rfl, ho, ht, hth, l0, l1, k⟩ := h
  refine ⟨_, (pss_one (ps_ret (pe_ix ix_list (pv 1) (pe_h D_law_take (hr.mono (by decide)) rfl (pa_cons (pv 0) (pa_cons (pe_callB call_len_seq rfl B.len PySem.boot_len (pa_cons (pv 1) pa_nil)) pa_nil))) (fun _ _ => rfl)))), ?_⟩
  refine ⟨_, rfl, _, rfl, _, rfl, _, _, rfl, .inl (SqL.of ht), h, l, _, rfl, ho, by omega, by omega, fun r H' r0 r1 ho' hk => ?_⟩
  obtain ⟨v, hv, hm, _⟩ := atI_some (xs := xs) r0 r1
  exact ⟨_, _, _, _, rfl, rfl, SqL.of ((hk t hth).trans ht), hv, k v H' hm ho' hk⟩
theorem d_law_is_integer (B : Bi mg) (F : FunAt K mg "_law_is_integer" s_law_is_integer) : Has P w K mg base 1 "_law_is_integer" ["thing"] spIsInt := by
  refine mk_has F sc_law_is_integer (fun _ _ _ _ _ _ us hl => match us, hl with | [_], _ => rfl) (fun vs H Q E h => ?_) fun f cdv A outer s H vs Q E hr h => ?_
  · obtain ⟨N, v, d, rfl, _⟩ := h
    rfl
  obtain ⟨N, v, d, rfl, r, k⟩ := h
  refine ⟨_, (pss_one (ps_ret (pe_and (pe_callB call_isi rfl B.isinstance (by decide +kernel) (pa_cons (pv 0) (pa_cons (pe_bltn (v := .ty "int") rfl B.int (by decide +kernel) rfl) pa_nil))) (pe_one (pe_not (pe_callB call_isi rfl B.isinstance (by decide +kernel) (pa_cons (pv 0) (pa_cons (pe_bltn (v := .ty "bool") rfl B.bool (by decide +kernel) rfl) pa_nil)))))))), ?_⟩
  rw [← isInt_is] at k
  refine ⟨_, rfl, _, _, _, _, _, rfl, .ty "int", r.ty, kit_int d, _, rfl, ?_⟩
  cases e : isT "int" d with
  | true =>
    rw [e] at k
    exact ifT rfl ⟨_, rfl, _, _, _, _, _, rfl, .ty "bool", r.ty, kit_bool d, _, rfl, k⟩
  | false =>
    rw [e] at k
    exact ifF rfl k
theorem d_law_is_within (B : Bi mg) (F : FunAt K mg "_law_is_within" s_law_is_within) (D_law_is_integer : Has P w K mg base 1 "_law_is_integer" ["thing"] spIsInt) : Has P w K mg base 2 "_law_is_within" ["thing", "least", "most"] spWithin := by
  refine mk_has F sc_law_is_within (fun _ _ _ _ _ _ us hl => match us, hl with | [_, _, _], _ => rfl) (fun vs H Q E h => ?_) fun f cdv A outer s H vs Q E hr h => ?_
  · obtain ⟨N, v, d, lo, hi, rfl, _⟩ := h
    rfl
  obtain ⟨N, v, d, lo, hi, rfl, r, k⟩ := h
  refine ⟨_, (pss_one (ps_ret (pe_and (pe_h D_law_is_integer (hr.mono (by decide)) rfl (pa_cons (pv 0) pa_nil)) (pe_and (pe_cmpR op_le (pv 1) (pv 0) (nomark _)) (pe_one (pe_cmpR op_le (pv 0) (pv 2) (nomark _))))))), ?_⟩
  refine ⟨_, rfl, N, v, d, rfl, r, ⟨_, rfl, ?_⟩⟩
  cases e : intOf d with
  | none =>
    unfold within at k
    rw [e] at k
    exact ifF rfl k
  | some i =>
    unfold within at k
    rw [e] at k
    have ed : d = .int i := by cases d <;> simp_all [intOf]
    subst ed
    cases r
    refine ifT rfl ⟨_, rfl, _, rfl, _, _, rfl, rfl, ⟨_, rfl, ?_⟩⟩
    cases e1 : decide (lo ≤ i) with
    | true =>
      have k' : Q (.bl (decide (lo ≤ i) && decide (i ≤ hi))) H := k
      rw [e1] at k'
      exact ifT rfl ⟨_, rfl, _, rfl, _, _, rfl, rfl, k'⟩
    | false =>
      have k' : Q (.bl (decide (lo ≤ i) && decide (i ≤ hi))) H := k
      rw [e1] at k'
      exact ifF rfl k'
end
end KQ
set_option Elab.async false
set_option maxRecDepth 100000
set_option maxHeartbeats 4000000
namespace KQ
open PySem PySem.Spec PyProof.Rows L2
theorem okB {c b : Bool} {Q : VK} {H : Hp} (h : c = b) (q : Q (.bl b) H) : Q (.bl c) H := by rw [h]; exact q
theorem Rp.notN {N : Addr → Prop} {H : Hp} {v : V} {d : PyData} (r : Rp N H v d) (h : d ≠ .none) : decide (v = .non) = false := by
  cases r <;> simp at h ⊢
theorem Rp.notB {N : Addr → Prop} {H : Hp} {v : V} {d : PyData} (r : Rp N H v d) {b : Bool} (h : d ≠ .bool b) : decide (v = .bl b) = false := by
  cases r <;> simp at h ⊢
  exact h
theorem RpAll.at_ {N : Addr → Prop} {H : Hp} : ∀ {vs : List V} {ds : List PyData} {i : Nat} {v : V}, RpAll N H vs ds → vs[i]? = some v → ∃ d, d ∈ ds ∧ ds[i]? = some d ∧ Rp N H v d
  | _, _, _, _, .nil, e => by simp at e
  | _, _, 0, _, .cons r _, e => by simp at e; subst e; exact ⟨_, List.mem_cons_self, rfl, r⟩
  | _, _, i + 1, _, .cons _ t, e => by
    obtain ⟨d, m, g, r⟩ := t.at_ (i := i) (by simpa using e)
    exact ⟨d, List.mem_cons_of_mem _ m, by simpa using g, r⟩
theorem depth_mem : ∀ {ds : List PyData} {d : PyData}, d ∈ ds → d.depth ≤ PyData.depthAll ds
  | x :: xs, d, h => by
    unfold PyData.depthAll
    rcases List.mem_cons.mp h with rfl | h
    · exact Nat.le_max_left _ _
    · exact Nat.le_trans (depth_mem h) (Nat.le_max_right _ _)
theorem lay_mem : ∀ {ds : List PyData} {d : PyData}, PyData.canLayAll0 ds = true → d ∈ ds → d.canLay0 = true
  | x :: xs, d, e, h => by
    unfold PyData.canLayAll0 at e
    rw [Bool.and_eq_true] at e
    rcases List.mem_cons.mp h with rfl | h
    · exact e.1
    · exact lay_mem e.2 h
section
variable {P : Program} {w : World} {K : PySem.W.Frag} {mg : Str → Option Value} {base : Heap}
/-- one step deeper -/
theorem same_step (B : Bi mg) (F : FunAt K mg "_law_same" s_law_same) (D_law_is_integer : Has P w K mg base 1 "_law_is_integer" ["thing"] spIsInt) (n : Nat) (D_law_same : Has P w K mg base (n + 1) "_law_same" ["actual", "due"] (fun vs H Q E => ∃ m, m + 1 = n ∧ spSame m vs H Q E)) :
    Has P w K mg base (n + 2) "_law_same" ["actual", "due"] (spSame n) := by
  refine mk_has F sc_law_same (fun _ _ _ _ _ _ us hl => match us, hl with | [_, _], _ => rfl) (fun vs H Q E h => ?_) fun f cdv A outer s H vs Q E hr h => ?_
  · obtain ⟨N, N', a, b, d, rfl, _⟩ := h
    rfl
  obtain ⟨N, N', a, b, d, rfl, ra, rb, hd, hc, k⟩ := h
  have k0 : Q (.bl true) H := k H (Same.refl H)
  refine ⟨_, (pss_cons (ps_if (pt_cmp (pc_isN (pv 1)))
    (pss_one (ps_ret (pe_cmp (pc_isN (pv 0)) rfl)))
    pss_nil)
    (pss_cons (ps_if (pt_cmpR op_isB (pv 1) pe_bl (nomark _))
    (pss_one (ps_ret (pe_cmpR op_isB (pv 0) pe_bl (nomark _))))
    pss_nil)
    (pss_cons (ps_if (pt_cmpR op_isB (pv 1) pe_bl (nomark _))
    (pss_one (ps_ret (pe_cmpR op_isB (pv 0) pe_bl (nomark _))))
    pss_nil)
    (pss_cons (ps_if (pt_val (pe_callB call_isi rfl B.isinstance (by decide +kernel) (pa_cons (pv 1) (pa_cons (pe_bltn (v := .ty "int") rfl B.int (by decide +kernel) rfl) pa_nil))))
    (pss_one (ps_ret (pe_and (pe_h D_law_is_integer (hr.mono (by omega)) rfl (pa_cons (pv 0) pa_nil)) (pe_one (pe_cmpR op_eq (pv 0) (pv 1) (nomark _))))))
    pss_nil)
    (pss_cons (ps_if (pt_val (pe_callB call_isi rfl B.isinstance (by decide +kernel) (pa_cons (pv 1) (pa_cons (pe_bltn (v := .ty "str") rfl B.str (by decide +kernel) rfl) pa_nil))))
    (pss_one (ps_ret (pe_and (pe_callB call_isi rfl B.isinstance (by decide +kernel) (pa_cons (pv 0) (pa_cons (pe_bltn (v := .ty "str") rfl B.str (by decide +kernel) rfl) pa_nil))) (pe_one (pe_cmpR op_eq (pv 0) (pv 1) (nomark _))))))
    pss_nil)
    (pss_cons (ps_if (PW.pt (pw_or (pt_cmpR op_ne (pe_callB call_isi rfl B.isinstance (by decide +kernel) (pa_cons (pv 1) (pa_cons (pe_bltn (v := .ty "tuple") rfl B.tuple (by decide +kernel) rfl) pa_nil))) (pe_callB call_isi rfl B.isinstance (by decide +kernel) (pa_cons (pv 0) (pa_cons (pe_bltn (v := .ty "tuple") rfl B.tuple (by decide +kernel) rfl) pa_nil))) (nomark _)) (pw_or1 (pt_cmpR op_ne (pe_callB call_isi rfl B.isinstance (by decide +kernel) (pa_cons (pv 1) (pa_cons (pe_bltn (v := .ty "list") rfl B.list (by decide +kernel) rfl) pa_nil))) (pe_callB call_isi rfl B.isinstance (by decide +kernel) (pa_cons (pv 0) (pa_cons (pe_bltn (v := .ty "list") rfl B.list (by decide +kernel) rfl) pa_nil))) (nomark _)))))
    (pss_one (ps_ret pe_bl))
    pss_nil)
    (pss_cons (ps_if (pt_cmpR op_ne (pe_callB call_len_seq rfl B.len PySem.boot_len (pa_cons (pv 0) pa_nil)) (pe_callB call_len_seq rfl B.len PySem.boot_len (pa_cons (pv 1) pa_nil)) (nomark _))
    (pss_one (ps_ret pe_bl))
    pss_nil)
    (pss_cons (ps_for PassesOwn.never rfl (RZ.pi_zipA rfl B.zip (pa_cons (pv 0) (pa_cons (pv 1) pa_nil))) (pg_tup rfl (pgs_cons (pg_name (i := 2) sc_law_same.nd rfl (Or.inl rfl)) (pgs_cons (pg_name (i := 3) sc_law_same.nd rfl (Or.inl rfl)) pgs_nil)))
    (pss_one (ps_if (pt_not (pt_val (pe_h D_law_same hr rfl (pa_cons (pv 2) (pa_cons (pv 3) pa_nil)))))
    (pss_one (ps_ret pe_bl))
    pss_nil)))
    (pss_one (ps_ret pe_bl)))))))))), ?_⟩
  refine ⟨_, rfl, _, rfl, ?_⟩
  by_cases d1 : d = .none
  · subst d1
    cases ra
    cases rb
    exact ifT (by decide) ⟨_, rfl, okB (by decide) k0⟩
  refine ifF (rb.notN d1) ⟨_, rfl, _, rfl, _, rfl, ?_⟩
  by_cases d2 : d = .bool true
  · subst d2
    cases ra
    cases rb
    exact ifT (by decide) ⟨_, rfl, _, rfl, okB (by decide) k0⟩
  refine ifF (rb.notB d2) ⟨_, rfl, _, rfl, _, rfl, ?_⟩
  by_cases d3 : d = .bool false
  · subst d3
    cases ra
    cases rb
    exact ifT (by decide) ⟨_, rfl, _, rfl, okB (by decide) k0⟩
  refine ifF (rb.notB d3) ⟨_, rfl, _, _, _, _, _, rfl, .ty "int", rb.ty, kit_int d, _, rfl, ?_⟩
  have step5 : ∀ {A Z : Prop} {T : String}, isT T d = false → Z → if isT T d = true then A else Z := fun e z => ifF e z
  cases d with
  | none => exact absurd rfl d1
  | bool y => cases y <;> first | exact absurd rfl d2 | exact absurd rfl d3
  | dict kvs => simp [PyData.canLay0] at hc
  | int i =>
    cases ra
    cases rb
    exact ifT rfl ⟨_, rfl, N, _, _, rfl, .int i, ⟨_, rfl, ifT rfl ⟨_, rfl, _, rfl, rfl, okB (by simp) k0⟩⟩⟩
  | str x =>
    refine step5 rfl ⟨_, rfl, _, _, _, _, _, rfl, .ty "str", rb.ty, kit_str _, _, rfl, ifT rfl ?_⟩
    refine ⟨_, rfl, _, _, _, _, _, rfl, .ty "str", ra.ty, kit_str _, _, rfl, ifT rfl ?_⟩
    cases ra
    cases rb
    exact ⟨_, rfl, _, rfl, rfl, okB (by simp) k0⟩
  | tuple ds =>
    refine step5 rfl ⟨_, rfl, _, _, _, _, _, rfl, .ty "str", rb.ty, kit_str _, _, rfl, ifF rfl ?_⟩
    refine ⟨_, rfl, _, _, _, _, _, rfl, .ty "tuple", rb.ty, kit_tuple _, _, rfl, _, _, _, _, _, rfl, .ty "tuple", ra.ty, kit_tuple _, rfl, _, rfl, ifF rfl ?_⟩
    refine ⟨_, rfl, _, _, _, _, _, rfl, .ty "list", rb.ty, kit_list _, _, rfl, _, _, _, _, _, rfl, .ty "list", ra.ty, kit_list _, rfl, _, rfl, ifF rfl ?_⟩
    cases ra with
    | @tup pa xs _ ha na aa =>
    cases rb with
    | @tup pb ys _ hb nb ab =>
    have el : xs.length = ys.length := aa.length.trans ab.length.symm
    refine ⟨_, rfl, _, _, rfl, .inr (SqT.of ha), _, rfl, _, _, rfl, .inr (SqT.of hb), rfl, _, rfl, ?_⟩
    refine ifF (by rw [el]; simp) ?_
    refine ⟨_, rfl, _, rfl, _, _, _, _, rfl, .inr ⟨SqT.of ha, SqT.of hb, ?_⟩⟩
    refine RZ.for_zipT el (fun i σ H' => ∃ v1 v2, σ = [some (.ref pa), some (.ref pb), v1, v2] ∧ Same H H') ⟨_, _, rfl, Same.refl H⟩ (fun i σ H' ⟨_, _, _, e⟩ => ⟨SqT.of (e _ _ ha), SqT.of (e _ _ hb)⟩) ?_ ?_
    · rintro i x y T σ H' hx hy ⟨v1, v2, rfl, e⟩ nT
      obtain ⟨dx, mx, gx, rx⟩ := aa.at_ hx
      obtain ⟨dy, my, gy, ry⟩ := ab.at_ hy
      rw [gx] at gy
      cases gy
      have e2 : Same H (upd H' T (.tup [x, y])) := e.trans (same_new nT)
      refine ⟨_, _, rfl, SqT.of upd_same, rfl, _, _, rfl, _, _, rfl, rfl, ?_⟩
      have hd' : dx.depth + 1 ≤ n := Nat.le_trans (Nat.succ_le_succ (depth_mem mx)) hd
      refine ⟨_, rfl, _, rfl, n - 1, by omega, N, N', x, y, dx, rfl, rx.to (Kp.of_same e2), ry.to (Kp.of_same e2), by omega, lay_mem hc mx, fun H3 e3 => ?_⟩
      exact ⟨_, rfl, ifF rfl ⟨_, _, rfl, e2.trans e3⟩⟩
    · rintro σ H' ⟨v1, v2, rfl, e⟩
      exact k H' e
  | list ds =>
    refine step5 rfl ⟨_, rfl, _, _, _, _, _, rfl, .ty "str", rb.ty, kit_str _, _, rfl, ifF rfl ?_⟩
    refine ⟨_, rfl, _, _, _, _, _, rfl, .ty "tuple", rb.ty, kit_tuple _, _, rfl, _, _, _, _, _, rfl, .ty "tuple", ra.ty, kit_tuple _, rfl, _, rfl, ifF rfl ?_⟩
    refine ⟨_, rfl, _, _, _, _, _, rfl, .ty "list", rb.ty, kit_list _, _, rfl, _, _, _, _, _, rfl, .ty "list", ra.ty, kit_list _, rfl, _, rfl, ifF rfl ?_⟩
    cases ra with
    | @lst pa xs _ ha na aa =>
    cases rb with
    | @lst pb ys _ hb nb ab =>
    have el : xs.length = ys.length := aa.length.trans ab.length.symm
    refine ⟨_, rfl, _, _, rfl, .inl (SqL.of ha), _, rfl, _, _, rfl, .inl (SqL.of hb), rfl, _, rfl, ?_⟩
    refine ifF (by rw [el]; simp) ?_
    refine ⟨_, rfl, _, rfl, _, _, _, _, rfl, .inl ⟨SqL.of ha, SqL.of hb, ?_⟩⟩
    refine RZ.for_zipL el (fun i σ H' => ∃ v1 v2, σ = [some (.ref pa), some (.ref pb), v1, v2] ∧ Same H H') ⟨_, _, rfl, Same.refl H⟩ (fun i σ H' ⟨_, _, _, e⟩ => ⟨SqL.of (e _ _ ha), SqL.of (e _ _ hb)⟩) ?_ ?_
    · rintro i x y T σ H' hx hy ⟨v1, v2, rfl, e⟩ nT
      obtain ⟨dx, mx, gx, rx⟩ := aa.at_ hx
      obtain ⟨dy, my, gy, ry⟩ := ab.at_ hy
      rw [gx] at gy
      cases gy
      have e2 : Same H (upd H' T (.tup [x, y])) := e.trans (same_new nT)
      refine ⟨_, _, rfl, SqT.of upd_same, rfl, _, _, rfl, _, _, rfl, rfl, ?_⟩
      have hd' : dx.depth + 1 ≤ n := Nat.le_trans (Nat.succ_le_succ (depth_mem mx)) hd
      refine ⟨_, rfl, _, rfl, n - 1, by omega, N, N', x, y, dx, rfl, rx.to (Kp.of_same e2), ry.to (Kp.of_same e2), by omega, lay_mem hc mx, fun H3 e3 => ?_⟩
      exact ⟨_, rfl, ifF rfl ⟨_, _, rfl, e2.trans e3⟩⟩
    · rintro σ H' ⟨v1, v2, rfl, e⟩
      exact k H' e
end
end KQ
set_option Elab.async false
set_option maxRecDepth 100000
set_option maxHeartbeats 4000000
namespace KQ
open PySem PySem.Spec PyProof.Rows L2
theorem has_none {P : Program} {w : World} {K : PySem.W.Frag} {mg : Str → Option Value} {base : Heap} {x : Str} {st : Stmt} {ps : List Str} {k : Nat} {sp : Sp} (F : FunAt K mg x st) (hb : BindsTo? st x ps) (no : ∀ vs H Q E, ¬ sp vs H Q E) : Has P w K mg base k x ps sp := by
  obtain ⟨f, fd, F, m⟩ := F
  exact ⟨f, fd, ⟨fun vs H Q E h => absurd h (no vs H Q E), fun A outer s H args us vs Q E _ _ _ _ h => absurd h (no vs H Q E)⟩, m, F.kp, F.binds hb⟩
/-- the odd things -/
def odds : List PyData := [.none, .bool true, .bool false, .str "", .str "do", .str "0", .tuple [], .list [], .dict [], .tuple [.int 0], .list [.int 0, .int 0], .tuple [.tuple []],
  .int (-1), .int 13, .int (10 ^ 20 - 1), .tuple [.int 0, .int 13], .tuple [.bool true, .int 0], .tuple [.int 0, .int 0, .int 0]]
def spOdd : Sp := fun vs H Q _ => ∃ h l : Addr, vs = [.ref h] ∧ HandOk H h l ∧ ∀ (v : V) (d : PyData) (H' : Hp), d ∈ odds → Rp (Nh h) H' v d → HandOk H' h l → Kp (Nh h) H H' → Q v H'
theorem lt6 {i : Int} (h0 : 0 ≤ i) (h : i < 6) : i = 0 ∨ i = 1 ∨ i = 2 ∨ i = 3 ∨ i = 4 ∨ i = 5 := by omega
theorem Kp.hand {H H' : Hp} {h : Addr} (k : ∀ a, a ≠ h → H' a = H a) : Kp (Nh h) H H' := fun a o e n => by rw [k a n]; exact e
theorem Kp.hn {H : Hp} {h p : Addr} {H0 : Hp} {o : HO} (k : Kp (Nh h) H0 H) (n : H p = none) : Kp (Nh h) H0 (upd H p o) := k.new' n
/-- a datum just laid -/
theorem Rp.tup0 {H : Hp} {h l p : Addr} {vs : List V} {ds : List PyData} (ho : HandOk H h l) (n : H p = none) (r : RpAll (Nh h) H vs ds) : Rp (Nh h) (upd H p (.tup vs)) (.ref p) (.tuple ds) :=
  .tup upd_same (ho.ne n) (r.to (Kp.new n))
theorem Rp.lst0 {H : Hp} {h l p : Addr} {vs : List V} {ds : List PyData} (ho : HandOk H h l) (n : H p = none) (r : RpAll (Nh h) H vs ds) : Rp (Nh h) (upd H p (.lst vs)) (.ref p) (.list ds) :=
  .lst upd_same (ho.ne n) (r.to (Kp.new n))
theorem Rp.emp0 {H : Hp} {h l p : Addr} (ho : HandOk H h l) (n : H p = none) : Rp (Nh h) (upd H p (.dK [])) (.ref p) (.dict []) :=
  .emp upd_same (ho.ne n)
abbrev rI1 {N : Addr → Prop} {H : Hp} (i : Int) : RpAll N H [.int i] [.int i] := .cons (.int i) .nil
section
variable {P : Program} {w : World} {K : PySem.W.Frag} {mg : Str → Option Value} {base : Heap}
theorem d_law_same (B : Bi mg) (F : FunAt K mg "_law_same" s_law_same) (D : Has P w K mg base 1 "_law_is_integer" ["thing"] spIsInt) : ∀ n : Nat, Has P w K mg base (n + 2) "_law_same" ["actual", "due"] (spSame n)
  | 0 => same_step B F D 0 (has_none F (fun _ _ _ _ _ _ us hl => match us, hl with | [_, _], _ => rfl) fun _ _ _ _ ⟨_, e, _⟩ => nomatch e)
  | n + 1 => same_step B F D (n + 1) ((d_law_same B F D n).imp fun _ _ _ _ ⟨m, e, q⟩ => by cases e; exact q)
theorem d_law_odd (F : FunAt K mg "_law_odd" s_law_odd) (D_law_take : Has P w K mg base 1 "_law_take" ["hand", "many"] spTake) : Has P w K mg base 2 "_law_odd" ["hand"] spOdd := by
  refine mk_has F sc_law_odd (fun _ _ _ _ _ _ us hl => match us, hl with | [_], _ => rfl) (fun vs H Q E h => ?_) fun f cdv A outer s H vs Q E hr h => ?_
  · obtain ⟨h, l, rfl, _⟩ := h
    rfl
  obtain ⟨h, l, rfl, ho, k⟩ := h
  refine ⟨_, (pss_cons (ps_set (i := 1) sc_law_odd.nd rfl (Or.inl rfl) (pe_h D_law_take (hr.mono (by decide)) rfl (pa_cons (pv 0) (pa_cons pe_int pa_nil))))
    (pss_cons (ps_if (pt_cmpR op_lt (pv 1) pe_int (nomark _))
    (pss_one (ps_ret (pe_ix ix_list (pe_lst (pa_cons pe_non (pa_cons pe_bl (pa_cons pe_bl (pa_cons pe_str (pa_cons pe_str (pa_cons pe_str pa_nil))))))) (pv 1) (fun _ _ => rfl))))
    pss_nil)
    (pss_cons (ps_if (pt_cmpR op_lt (pv 1) pe_int (nomark _))
    (pss_one (ps_ret (pe_ix ix_list (pe_lst (pa_cons (pe_tup pa_nil) (pa_cons (pe_lst pa_nil) (pa_cons pe_dnewK (pa_cons (pe_tup (pa_cons pe_int pa_nil)) (pa_cons (pe_lst (pa_cons pe_int (pa_cons pe_int pa_nil))) (pa_cons (pe_tup (pa_cons (pe_tup pa_nil) pa_nil)) pa_nil))))))) (pe_op op_sub (pv 1) pe_int) (fun _ _ => rfl))))
    pss_nil)
    (pss_one (ps_ret (pe_ix ix_list (pe_lst (pa_cons (pe_un un_neg pe_int) (pa_cons pe_int (pa_cons (pe_op op_sub (pe_op op_pow pe_int pe_int) pe_int) (pa_cons (pe_tup (pa_cons pe_int (pa_cons pe_int pa_nil))) (pa_cons (pe_tup (pa_cons pe_bl (pa_cons pe_int pa_nil))) (pa_cons (pe_tup (pa_cons pe_int (pa_cons pe_int (pa_cons pe_int pa_nil)))) pa_nil))))))) (pe_op op_sub (pv 1) pe_int) (fun _ _ => rfl))))))), ?_⟩
  refine ⟨_, rfl, h, l, 18, rfl, ho, by decide, by decide, fun r H1 r0 r1 ho1 hk => ?_⟩
  have k1 : Kp (Nh h) H H1 := Kp.hand hk
  refine ⟨_, rfl, _, _, rfl, rfl, _, rfl, ?_⟩
  refine ite2 (fun c => ?_) (fun c => ?_)
  · have c' : r < 6 := of_decide_eq_true c
    refine ⟨(by show 6 ≤ sizeLine; decide), fun p np => ?_⟩
    have k2 := k1.hn (o := .lst [.non, .bl true, .bl false, .str "", .str "do", .str "0"]) np
    have fin : ∀ v d, d ∈ odds → Rp (Nh h) (upd H1 p (.lst [.non, .bl true, .bl false, .str "", .str "do", .str "0"])) v d → Q v (upd H1 p (.lst [.non, .bl true, .bl false, .str "", .str "do", .str "0"])) := fun v d m r => k v d _ m r (ho1.new np) k2
    rcases lt6 r0 c' with rfl | rfl | rfl | rfl | rfl | rfl
    · exact ⟨_, rfl, _, _, _, _, rfl, rfl, SqL.of upd_same, rfl, fin _ .none (by simp [odds]) .non⟩
    · exact ⟨_, rfl, _, _, _, _, rfl, rfl, SqL.of upd_same, rfl, fin _ (.bool true) (by simp [odds]) (.bl _)⟩
    · exact ⟨_, rfl, _, _, _, _, rfl, rfl, SqL.of upd_same, rfl, fin _ (.bool false) (by simp [odds]) (.bl _)⟩
    · exact ⟨_, rfl, _, _, _, _, rfl, rfl, SqL.of upd_same, rfl, fin _ (.str "") (by simp [odds]) (.str _)⟩
    · exact ⟨_, rfl, _, _, _, _, rfl, rfl, SqL.of upd_same, rfl, fin _ (.str "do") (by simp [odds]) (.str _)⟩
    · exact ⟨_, rfl, _, _, _, _, rfl, rfl, SqL.of upd_same, rfl, fin _ (.str "0") (by simp [odds]) (.str _)⟩
  have c' : ¬ r < 6 := of_decide_eq_false (Bool.eq_false_iff.mpr c)
  refine ⟨_, rfl, _, _, rfl, rfl, _, rfl, ?_⟩
  refine ite2 (fun c2 => ?_) (fun c2 => ?_)
  · have c2' : r < 12 := of_decide_eq_true c2
    refine ⟨(by show 0 ≤ sizeLine; decide), fun p1 n1 => ?_⟩
    refine ⟨(by show 0 ≤ sizeLine; decide), fun p2 n2 => ?_⟩
    refine fun p3 n3 => ?_
    refine ⟨(by show 1 ≤ sizeLine; decide), fun p4 n4 => ?_⟩
    refine ⟨(by show 2 ≤ sizeLine; decide), fun p5 n5 => ?_⟩
    refine ⟨(by show 0 ≤ sizeLine; decide), fun p6 n6 => ?_⟩
    refine ⟨(by show 1 ≤ sizeLine; decide), fun p7 n7 => ?_⟩
    refine ⟨(by show 6 ≤ sizeLine; decide), fun p8 n8 => ?_⟩
    have o1 := ho1.new (o := .tup []) n1
    have o2 := o1.new (o := .lst []) n2
    have o3 := o2.new (o := .dK []) n3
    have o4 := o3.new (o := .tup [.int 0]) n4
    have o5 := o4.new (o := .lst [.int 0, .int 0]) n5
    have o6 := o5.new (o := .tup []) n6
    have o7 := o6.new (o := .tup [.ref p6]) n7
    have o8 := o7.new (o := .lst [.ref p1, .ref p2, .ref p3, .ref p4, .ref p5, .ref p7]) n8
    have q8 : Kp (Nh h) _ (upd _ p8 (.lst [.ref p1, .ref p2, .ref p3, .ref p4, .ref p5, .ref p7])) := Kp.new n8
    have q7 := (Kp.new (N := Nh h) (o := .tup [.ref p6]) n7).trans q8
    have q6 := (Kp.new (N := Nh h) (o := .tup []) n6).trans q7
    have q5 := (Kp.new (N := Nh h) (o := .lst [.int 0, .int 0]) n5).trans q6
    have q4 := (Kp.new (N := Nh h) (o := .tup [.int 0]) n4).trans q5
    have q3 := (Kp.new (N := Nh h) (o := .dK []) n3).trans q4
    have q2 := (Kp.new (N := Nh h) (o := .lst []) n2).trans q3
    have q1 := (Kp.new (N := Nh h) (o := .tup []) n1).trans q2
    have fin := fun v d m r => k v d _ m r o8 (k1.trans q1)
    rcases (show r = 6 ∨ r = 7 ∨ r = 8 ∨ r = 9 ∨ r = 10 ∨ r = 11 by omega) with rfl | rfl | rfl | rfl | rfl | rfl
    · exact ⟨_, rfl, _, _, rfl, rfl, _, _, _, _, rfl, rfl, SqL.of upd_same, rfl, fin _ (.tuple []) (by simp [odds]) ((Rp.tup0 ho1 n1 .nil).to q2)⟩
    · exact ⟨_, rfl, _, _, rfl, rfl, _, _, _, _, rfl, rfl, SqL.of upd_same, rfl, fin _ (.list []) (by simp [odds]) ((Rp.lst0 o1 n2 .nil).to q3)⟩
    · exact ⟨_, rfl, _, _, rfl, rfl, _, _, _, _, rfl, rfl, SqL.of upd_same, rfl, fin _ (.dict []) (by simp [odds]) ((Rp.emp0 o2 n3).to q4)⟩
    · exact ⟨_, rfl, _, _, rfl, rfl, _, _, _, _, rfl, rfl, SqL.of upd_same, rfl, fin _ (.tuple [.int 0]) (by simp [odds]) ((Rp.tup0 o3 n4 (rI1 0)).to q5)⟩
    · exact ⟨_, rfl, _, _, rfl, rfl, _, _, _, _, rfl, rfl, SqL.of upd_same, rfl, fin _ (.list [.int 0, .int 0]) (by simp [odds]) ((Rp.lst0 o4 n5 (.cons (.int 0) (rI1 0))).to q6)⟩
    · exact ⟨_, rfl, _, _, rfl, rfl, _, _, _, _, rfl, rfl, SqL.of upd_same, rfl, fin _ (.tuple [.tuple []]) (by simp [odds]) ((Rp.tup0 o6 n7 (.cons (Rp.tup0 o5 n6 .nil) .nil)).to q8)⟩
  · have c2' : ¬ r < 12 := of_decide_eq_false (Bool.eq_false_iff.mpr c2)
    refine ⟨_, rfl, _, _, rfl, rfl, ⟨by decide, by decide, by decide⟩, _, _, rfl, rfl, ?_⟩
    refine ⟨(by show 2 ≤ sizeLine; decide), fun p4 n4 => ?_⟩
    refine ⟨(by show 2 ≤ sizeLine; decide), fun p5 n5 => ?_⟩
    refine ⟨(by show 3 ≤ sizeLine; decide), fun p6 n6 => ?_⟩
    refine ⟨(by show 6 ≤ sizeLine; decide), fun p8 n8 => ?_⟩
    have o4 := ho1.new (o := .tup [.int 0, .int 13]) n4
    have o5 := o4.new (o := .tup [.bl true, .int 0]) n5
    have o6 := o5.new (o := .tup [.int 0, .int 0, .int 0]) n6
    have o8 := o6.new (o := .lst [.int (-1), .int 13, .int (10 ^ 20 - 1), .ref p4, .ref p5, .ref p6]) n8
    have q8 : Kp (Nh h) _ (upd _ p8 (.lst [.int (-1), .int 13, .int (10 ^ 20 - 1), .ref p4, .ref p5, .ref p6])) := Kp.new n8
    have q6 := (Kp.new (N := Nh h) (o := .tup [.int 0, .int 0, .int 0]) n6).trans q8
    have q5 := (Kp.new (N := Nh h) (o := .tup [.bl true, .int 0]) n5).trans q6
    have q4 := (Kp.new (N := Nh h) (o := .tup [.int 0, .int 13]) n4).trans q5
    have fin := fun v d m r => k v d _ m r o8 (k1.trans q4)
    rcases (show r = 12 ∨ r = 13 ∨ r = 14 ∨ r = 15 ∨ r = 16 ∨ r = 17 by omega) with rfl | rfl | rfl | rfl | rfl | rfl
    · exact ⟨_, rfl, _, _, rfl, rfl, _, _, _, _, rfl, rfl, SqL.of upd_same, rfl, fin _ (.int (-1)) (by simp [odds]) (.int _)⟩
    · exact ⟨_, rfl, _, _, rfl, rfl, _, _, _, _, rfl, rfl, SqL.of upd_same, rfl, fin _ (.int 13) (by simp [odds]) (.int _)⟩
    · exact ⟨_, rfl, _, _, rfl, rfl, _, _, _, _, rfl, rfl, SqL.of upd_same, rfl, fin _ (.int (10 ^ 20 - 1)) (by simp [odds]) (.int _)⟩
    · exact ⟨_, rfl, _, _, rfl, rfl, _, _, _, _, rfl, rfl, SqL.of upd_same, rfl, fin _ (.tuple [.int 0, .int 13]) (by simp [odds]) ((Rp.tup0 ho1 n4 (.cons (.int 0) (rI1 13))).to q5)⟩
    · exact ⟨_, rfl, _, _, rfl, rfl, _, _, _, _, rfl, rfl, SqL.of upd_same, rfl, fin _ (.tuple [.bool true, .int 0]) (by simp [odds]) ((Rp.tup0 o4 n5 (.cons (.bl true) (rI1 0))).to q6)⟩
    · exact ⟨_, rfl, _, _, rfl, rfl, _, _, _, _, rfl, rfl, SqL.of upd_same, rfl, fin _ (.tuple [.int 0, .int 0, .int 0]) (by simp [odds]) ((Rp.tup0 o5 n6 (.cons (.int 0) (.cons (.int 0) (rI1 0)))).to q8)⟩
end
end KQ
set_option Elab.async false
set_option maxRecDepth 100000
set_option maxHeartbeats 4000000
namespace KQ
open PySem PySem.Spec PyProof.Rows L2
/-! ### forms, links -/
def numOf (d : PyData) : Bool := match intOf d with
  | some i => decide (0 ≤ i)
  | none => false
def below (b : Int) (d : PyData) : Bool := match intOf d with
  | some i => decide (0 ≤ i) && decide (i < b)
  | none => false
def spIsNumber : Sp := fun vs H Q _ => ∃ (N : Addr → Prop) (v : V) (d : PyData), vs = [v] ∧ Rp N H v d ∧ Q (.bl (numOf d)) H
def spIsBelow : Sp := fun vs H Q _ => ∃ (N : Addr → Prop) (v : V) (d : PyData) (b : Int), vs = [.int b, v] ∧ Rp N H v d ∧ Q (.bl (below b d)) H
theorem fne1 : ¬ (("let_go" : Str) = "things") := by decide +kernel
theorem fne2 : ¬ (("due" : Str) = "early") := by decide +kernel
def outF (g : Int) (l : Addr) : List (Str × V) := [("let_go", .int g), ("things", .ref l)]
theorem outF_g {g z : Int} {l : Addr} : putF "let_go" (.int z) (outF g l) = outF z l := by
  show (if ("let_go" : Str) = "let_go" then _ else _) = _
  rw [if_pos rfl] <;> rfl
theorem outF_l {g : Int} {l m : Addr} : putF "things" (.ref m) (outF g l) = outF g m := by
  show (if ("let_go" : Str) = "things" then _ else (("let_go" : Str), V.int g) :: (if ("things" : Str) = "things" then [(("things" : Str), V.ref m)] else _)) = _
  rw [if_neg fne1, if_pos rfl] <;> rfl
theorem outF_new {l : Addr} : putF "things" (.ref l) (putF "let_go" (.int 0) []) = outF 0 l := by
  show (if ("let_go" : Str) = "things" then _ else (("let_go" : Str), V.int 0) :: putF "things" (.ref l) []) = _
  rw [if_neg fne1] <;> rfl
def inF (t : Int) (e : Addr) : List (Str × V) := [("due", .int t), ("early", .ref e)]
theorem inF_t {t z : Int} {e : Addr} : putF "due" (.int z) (inF t e) = inF z e := by
  show (if ("due" : Str) = "due" then _ else _) = _
  rw [if_pos rfl] <;> rfl
theorem inF_new {e : Addr} : putF "early" (.ref e) (putF "due" (.int 0) []) = inF 0 e := by
  show (if ("due" : Str) = "early" then _ else (("due" : Str), V.int 0) :: putF "early" (.ref e) []) = _
  rw [if_neg fne2] <;> rfl
theorem lk_head {x : Str} {v : V} {r : List (Str × V)} : ((x, v) :: r).lookup x = some v := by simp [List.lookup]
theorem lk_next {x y : Str} {v : V} {r : List (Str × V)} (h : ¬ y = x) : ((x, v) :: r).lookup y = r.lookup y := by
  have e : (y == x) = false := by simpa using h
  simp [List.lookup, e]
theorem outF_lg {g : Int} {l : Addr} : (outF g l).lookup ("let_go" : Str) = some (.int g) := lk_head
theorem outF_th {g : Int} {l : Addr} : (outF g l).lookup ("things" : Str) = some (.ref l) := (lk_next (by decide +kernel)).trans lk_head
theorem outF_no {g : Int} {l : Addr} {m : Str} (h1 : ¬ m = "let_go") (h2 : ¬ m = "things") : (outF g l).lookup m = none := (lk_next h1).trans ((lk_next h2).trans rfl)
theorem inF_d {t : Int} {e : Addr} : (inF t e).lookup ("due" : Str) = some (.int t) := lk_head
theorem inF_e {t : Int} {e : Addr} : (inF t e).lookup ("early" : Str) = some (.ref e) := (lk_next (by decide +kernel)).trans lk_head
theorem inF_no {t : Int} {e : Addr} {m : Str} (h1 : ¬ m = "due") (h2 : ¬ m = "early") : (inF t e).lookup m = none := (lk_next h1).trans ((lk_next h2).trans rfl)
/-- an outgoing end at p: g are let go of, the list at l holds what waits -/
def OutAt (C : Addr) (H : Hp) (p l : Addr) (g : Int) (xs : List V) : Prop := (∃ dx, H p = some (.ins C dx (outF g l))) ∧ H l = some (.lst xs)
/-- an incoming end at q: t are due, the dict at e holds what is early -/
def EndAt (C : Addr) (H : Hp) (q e : Addr) (t : Int) (kvs : List (Key × V)) : Prop := (∃ dx, H q = some (.ins C dx (inF t e))) ∧ H e = some (.dK kvs)
theorem OutAt.same {C : Addr} {H H' : Hp} {p l : Addr} {g : Int} {xs : List V} (o : OutAt C H p l g xs) (k : Same H H') : OutAt C H' p l g xs :=
  ⟨⟨o.1.choose, k _ _ o.1.choose_spec⟩, k _ _ o.2⟩
theorem EndAt.same {C : Addr} {H H' : Hp} {p l : Addr} {g : Int} {xs : List (Key × V)} (o : EndAt C H p l g xs) (k : Same H H') : EndAt C H' p l g xs :=
  ⟨⟨o.1.choose, k _ _ o.1.choose_spec⟩, k _ _ o.2⟩
def spOutInit (C : Addr) : Sp := fun vs H Q _ => ∃ p dx : Addr, vs = [.ref p] ∧ H p = some (.ins C dx []) ∧ ∀ (l : Addr) (H' : Hp), l ≠ p → H l = none → OutAt C H' p l 0 [] → (∀ a, a ≠ p → a ≠ l → H' a = H a) → Q .non H'
def spInInit (C : Addr) : Sp := fun vs H Q _ => ∃ p dx : Addr, vs = [.ref p] ∧ H p = some (.ins C dx []) ∧ ∀ (l : Addr) (H' : Hp), l ≠ p → H l = none → EndAt C H' p l 0 [] → (∀ a, a ≠ p → a ≠ l → H' a = H a) → Q .non H'
def spManyPut (C : Addr) : Sp := fun vs H Q _ => ∃ (p l : Addr) (g : Int) (xs : List V), vs = [.ref p] ∧ OutAt C H p l g xs ∧ Q (.int (g + xs.length)) H
def spPut (C : Addr) : Sp := fun vs H Q _ => ∃ (p l : Addr) (g : Int) (xs : List V) (v : V), vs = [.ref p, v] ∧ OutAt C H p l g xs ∧ xs.length ≤ 1000 ∧
  ∀ H' : Hp, OutAt C H' p l g (xs ++ [v]) → (∀ a, a ≠ l → H' a = H a) → Q (.int (g + xs.length)) H'
def spOutState (C : Addr) : Sp := fun vs H Q _ => ∃ (p l : Addr) (g : Int) (xs : List V), vs = [.ref p] ∧ OutAt C H p l g xs ∧
  ∀ (t t1 : Addr) (H' : Hp), H t = none → H t1 = none → Same H H' → H' t = some (.tup [.int g, .ref t1]) → H' t1 = some (.tup xs) → Q (.ref t) H'
def outMany (g i : Int) : Int := if i - g > 0 then i - g else 0
def spKnown (C CN : Addr) : Sp := fun vs H Q E => ∃ (p l : Addr) (g : Int) (xs : List V) (N : Addr → Prop) (v : V) (d : PyData), vs = [.ref p, v] ∧ OutAt C H p l g xs ∧ Rp N H v d ∧ 0 ≤ g ∧
  (below (g + xs.length + 1) d = false → E (.ref CN) none H) ∧
  (∀ i, intOf d = some i → below (g + xs.length + 1) d = true → ∀ (m : Addr) (H' : Hp), H m = none → OutAt C H' p m (g + outMany g i) (xs.drop (outMany g i).toNat) → (∀ a, a ≠ p → a ≠ m → H' a = H a) → Q (.int (outMany g i)) H')
section
variable {P : Program} {w : World} {K : PySem.W.Frag} {mg : Str → Option Value} {base : Heap}
theorem d_is_number (B : Bi mg) (F : FunAt K mg "is_number" s_is_number) : Has P w K mg base 1 "is_number" ["thing"] spIsNumber := by
  refine mk_has F sc_is_number (fun _ _ _ _ _ _ us hl => match us, hl with | [_], _ => rfl) (fun vs H Q E h => ?_) fun f cdv A outer s H vs Q E hr h => ?_
  · obtain ⟨N, v, d, rfl, _⟩ := h
    rfl
  obtain ⟨N, v, d, rfl, r, k⟩ := h
  refine ⟨_, (pss_one (ps_ret (pe_and (pe_callB call_isi rfl B.isinstance (by decide +kernel) (pa_cons (pv 0) (pa_cons (pe_bltn (v := .ty "int") rfl B.int (by decide +kernel) rfl) pa_nil))) (pe_and (pe_not (pe_callB call_isi rfl B.isinstance (by decide +kernel) (pa_cons (pv 0) (pa_cons (pe_bltn (v := .ty "bool") rfl B.bool (by decide +kernel) rfl) pa_nil)))) (pe_one (pe_cmpR op_ge (pv 0) pe_int (nomark _))))))), ?_⟩
  refine ⟨_, rfl, _, _, _, _, _, rfl, .ty "int", r.ty, kit_int d, _, rfl, ?_⟩
  unfold numOf at k
  cases d with
  | int i =>
    cases r
    refine ifT rfl ⟨_, rfl, _, _, _, _, _, rfl, .ty "bool", (Rp.int (N := N) i).ty, kit_bool _, _, rfl, _, rfl, ifT rfl ⟨_, rfl, _, _, rfl, rfl, k⟩⟩
  | bool b => exact ifT rfl ⟨_, rfl, _, _, _, _, _, rfl, .ty "bool", r.ty, kit_bool _, _, rfl, _, rfl, ifF rfl k⟩
  | none => exact ifF rfl k
  | str x => exact ifF rfl k
  | list x => exact ifF rfl k
  | tuple x => exact ifF rfl k
  | dict x => exact ifF rfl k
theorem d_is_below (F : FunAt K mg "is_below" s_is_below) (D_is_number : Has P w K mg base 1 "is_number" ["thing"] spIsNumber) : Has P w K mg base 2 "is_below" ["bound", "thing"] spIsBelow := by
  refine mk_has F sc_is_below (fun _ _ _ _ _ _ us hl => match us, hl with | [_, _], _ => rfl) (fun vs H Q E h => ?_) fun f cdv A outer s H vs Q E hr h => ?_
  · obtain ⟨N, v, d, b, rfl, _⟩ := h
    rfl
  obtain ⟨N, v, d, b, rfl, r, k⟩ := h
  refine ⟨_, (pss_one (ps_ret (pe_and (pe_h D_is_number (hr.mono (by decide)) rfl (pa_cons (pv 1) pa_nil)) (pe_one (pe_cmpR op_lt (pv 1) (pv 0) (nomark _)))))), ?_⟩
  refine ⟨_, rfl, N, v, d, rfl, r, _, rfl, ?_⟩
  unfold below at k
  unfold numOf
  cases e : intOf d with
  | none =>
    rw [e] at k
    exact ifF rfl k
  | some i =>
    rw [e] at k
    have ed : d = .int i := by cases d <;> simp_all [intOf]
    subst ed
    cases r
    have k' : Q (.bl (decide (0 ≤ i) && decide (i < b))) H := k
    show if decide (0 ≤ i) = true then _ else _
    cases e1 : decide (0 ≤ i) with
    | true =>
      rw [e1] at k'
      exact ifT rfl ⟨_, rfl, _, rfl, _, _, rfl, rfl, k'⟩
    | false =>
      rw [e1] at k'
      exact ifF rfl k'
variable {C CN : Addr}
theorem d_out_init (F : InitAt K mg "Outgoing" C "Outgoing.__init__" s_Outgoing___init__) (c : Cls K C) (n1 : NoAttr K C "let_go") (n2 : NoAttr K C "things") : HasC P w K mg base 1 "Outgoing" C ["self"] (spOutInit C) := by
  refine mk_hasC F sc_Outgoing___init__ (fun _ _ _ _ _ _ us hl => match us, hl with | [_], _ => rfl) (fun vs H Q E h => ?_) fun f cdv A outer s H vs Q E hr h => ?_
  · obtain ⟨p, dx, rfl, _⟩ := h
    rfl
  obtain ⟨p, dx, rfl, hp, k⟩ := h
  refine ⟨_, (pss_cons (ps_fld (pv 0) pe_int rfl)
    (pss_one (ps_fld (pv 0) (pe_lst pa_nil) rfl))), ?_⟩
  refine ⟨_, rfl, p, C, dx, [], rfl, hp, c, n1, (by show 0 < 1000; decide), ⟨Nat.zero_le _, fun l hl => ?_⟩⟩
  have npl : p ≠ l := ne_of_none upd_same hl
  have hl0 : H l = none := by
    rw [upd_ne npl.symm] at hl
    exact hl
  refine ⟨_, rfl, p, C, dx, _, rfl, (by rw [upd_ne npl]; exact upd_same), c, n2, (by show 1 < 1000; decide), ?_⟩
  exact k l _ npl.symm hl0 ⟨⟨dx, by rw [upd_same, outF_new]⟩, by rw [upd_ne npl.symm, upd_same]⟩ fun a h1 h2 => by rw [upd_ne h1, upd_ne h2, upd_ne h1]
theorem d_in_init (F : InitAt K mg "Incoming" C "Incoming.__init__" s_Incoming___init__) (c : Cls K C) (n1 : NoAttr K C "due") (n2 : NoAttr K C "early") : HasC P w K mg base 1 "Incoming" C ["self"] (spInInit C) := by
  refine mk_hasC F sc_Incoming___init__ (fun _ _ _ _ _ _ us hl => match us, hl with | [_], _ => rfl) (fun vs H Q E h => ?_) fun f cdv A outer s H vs Q E hr h => ?_
  · obtain ⟨p, dx, rfl, _⟩ := h
    rfl
  obtain ⟨p, dx, rfl, hp, k⟩ := h
  refine ⟨_, (pss_cons (ps_fld (pv 0) pe_int rfl)
    (pss_one (ps_fld (pv 0) pe_dnewK rfl))), ?_⟩
  refine ⟨_, rfl, p, C, dx, [], rfl, hp, c, n1, (by show 0 < 1000; decide), fun l hl => ?_⟩
  have npl : p ≠ l := ne_of_none upd_same hl
  have hl0 : H l = none := by
    rw [upd_ne npl.symm] at hl
    exact hl
  refine ⟨_, rfl, p, C, dx, _, rfl, (by rw [upd_ne npl]; exact upd_same), c, n2, (by show 1 < 1000; decide), ?_⟩
  exact k l _ npl.symm hl0 ⟨⟨dx, by rw [upd_same, inF_new]⟩, by rw [upd_ne npl.symm, upd_same]⟩ fun a h1 h2 => by rw [upd_ne h1, upd_ne h2, upd_ne h1]
theorem d_many_put (B : Bi mg) (F : MethAt K C "many_put" "Outgoing.many_put" s_Outgoing_many_put) (c : Cls K C) (n1 : NoAttr K C "let_go") (n2 : NoAttr K C "things") : HasM P w K mg base 1 C "many_put" ["self"] (spManyPut C) := by
  refine mk_hasM F sc_Outgoing_many_put (fun _ _ _ _ _ _ us hl => match us, hl with | [_], _ => rfl) (fun vs H Q E h => ?_) fun f cdv A outer s H vs Q E hr h => ?_
  · obtain ⟨p, l, g, xs, rfl, _⟩ := h
    rfl
  obtain ⟨p, l, g, xs, rfl, ⟨⟨dx, hp⟩, hl⟩, k⟩ := h
  refine ⟨_, (pss_one (ps_ret (pe_op op_add (pe_fld (pv 0) rfl) (pe_callB call_len_seq rfl B.len PySem.boot_len (pa_cons (pe_fld (pv 0) rfl) pa_nil))))), ?_⟩
  exact ⟨_, rfl, p, C, dx, _, _, rfl, hp, c, n1, outF_lg, _, rfl, p, C, dx, _, _, rfl, hp, c, n2, outF_th, _, _, rfl, .inl (SqL.of hl), _, _, rfl, rfl, k⟩
theorem d_put (B : Bi mg) (F : MethAt K C "put" "Outgoing.put" s_Outgoing_put) (c_Outgoing : Cls K C) (n1 : NoAttr K C "let_go") (n2 : NoAttr K C "things") (D_Outgoing_many_put : HasM P w K mg base 1 C "many_put" ["self"] (spManyPut C)) : HasM P w K mg base 2 C "put" ["self", "thing"] (spPut C) := by
  refine mk_hasM F sc_Outgoing_put (fun _ _ _ _ _ _ us hl => match us, hl with | [_, _], _ => rfl) (fun vs H Q E h => ?_) fun f cdv A outer s H vs Q E hr h => ?_
  · obtain ⟨p, l, g, xs, v, rfl, _⟩ := h
    rfl
  obtain ⟨p, l, g, xs, v, rfl, ⟨⟨dx, hp⟩, hl⟩, hlen, k⟩ := h
  have npl : p ≠ l := ne_of hp hl (by intro z; cases z)
  refine ⟨_, (pss_cons (ps_expr (pe_bm PySem.F.plainAttrs_list PySem.F.slot_list_append PySem.F.type_list_append mt_append (pe_fld (pv 0) rfl) (pa_cons (pv 1) pa_nil)))
    (pss_one (ps_ret (pe_op op_sub (pe_m0 D_Outgoing_many_put c_Outgoing (hr.mono (by decide)) (pv 0) ) pe_int)))), ?_⟩
  refine ⟨_, rfl, p, C, dx, _, _, rfl, hp, c_Outgoing, n2, outF_th, .inl ⟨rfl, _, SqL.of hl⟩, _, rfl, l, _, _, rfl, rfl, hl, Nat.lt_of_le_of_lt hlen (by decide), ?_⟩
  have hp' : upd H l (.lst (xs ++ [v])) p = some (.ins C dx (outF g l)) := by rw [upd_ne npl]; exact hp
  have ho : OutAt C (upd H l (.lst (xs ++ [v]))) p l g (xs ++ [v]) := ⟨⟨dx, hp'⟩, upd_same⟩
  refine ⟨_, rfl, p, dx, _, rfl, hp', outF_no (by decide +kernel) (by decide +kernel), p, l, g, _, rfl, ho, _, _, rfl, rfl, ?_⟩
  have e : g + ((xs ++ [v]).length : Int) - 1 = g + xs.length := by
    rw [List.length_append, List.length_singleton]
    omega
  show Q (.int (g + ((xs ++ [v]).length : Int) - 1)) _
  rw [e]
  exact k _ ho fun a ha => upd_ne ha
theorem d_out_state (B : Bi mg) (F : MethAt K C "state" "Outgoing.state" s_Outgoing_state) (c : Cls K C) (n1 : NoAttr K C "let_go") (n2 : NoAttr K C "things") : HasM P w K mg base 1 C "state" ["self"] (spOutState C) := by
  refine mk_hasM F sc_Outgoing_state (fun _ _ _ _ _ _ us hl => match us, hl with | [_], _ => rfl) (fun vs H Q E h => ?_) fun f cdv A outer s H vs Q E hr h => ?_
  · obtain ⟨p, l, g, xs, rfl, _⟩ := h
    rfl
  obtain ⟨p, l, g, xs, rfl, ⟨⟨dx, hp⟩, hl⟩, k⟩ := h
  refine ⟨_, (pss_one (ps_ret (pe_tup (pa_cons (pe_fld (pv 0) rfl) (pa_cons (pe_callTy call_tuple_of rfl B.tuple (by decide +kernel) (pa_cons (pe_fld (pv 0) rfl) pa_nil)) pa_nil))))), ?_⟩
  refine ⟨_, rfl, p, C, dx, _, _, rfl, hp, c, n1, outF_lg, _, rfl, p, C, dx, _, _, rfl, hp, c, n2, outF_th, _, _, rfl, .inl ⟨SqL.of hl, fun t1 h1 => ?_⟩⟩
  refine ⟨(by show 2 ≤ sizeLine; decide), fun t h2 => ?_⟩
  have net : t1 ≠ t := ne_of_none upd_same h2
  have h3 : H t = none := by
    rw [upd_ne net.symm] at h2
    exact h2
  exact k t t1 _ h3 h1 ((same_new h1).trans (same_new (by rw [upd_ne net.symm]; exact h3))) upd_same (by rw [upd_ne net, upd_same])
end
end KQ
set_option Elab.async false
set_option maxRecDepth 100000
set_option maxHeartbeats 4000000
namespace KQ
open PySem PySem.Spec PyProof.Rows L2
theorem cut_from {xs : List V} {m : Int} (h : 0 ≤ m) : cutV xs (some m) none = xs.drop m.toNat := by
  unfold cutV
  rw [HT.sIx_none]
  have e : HT.sIx xs.length 0 (some m) = min m.toNat xs.length := by
    have q := HT.sIx_nat xs.length 0 m.toNat
    rw [show ((m.toNat : Nat) : Int) = m by omega] at q
    exact q
  rw [e]
  by_cases c : m.toNat ≤ xs.length
  · rw [Nat.min_eq_left c, List.take_of_length_le (by rw [List.length_drop]; exact Nat.le_refl _)]
  · rw [Nat.min_eq_right (by omega), Nat.sub_self, List.take_zero, List.drop_eq_nil_of_le (by omega)]
theorem outMany_nn (g i : Int) : 0 ≤ outMany g i := by
  unfold outMany
  split <;> omega
/-- what is taken from t on -/
def drain : Nat → Int → List (Key × V) → Int × List (Key × V) × List V
  | 0, t, kvs => (t, kvs, [])
  | n + 1, t, kvs => match valV kvs (Sum.inl t : Key) with
    | none => (t, kvs, [])
    | some x => ((drain n (t + 1) (dropK kvs (Sum.inl t))).1, (drain n (t + 1) (dropK kvs (Sum.inl t))).2.1, x :: (drain n (t + 1) (dropK kvs (Sum.inl t))).2.2)
theorem drain_stop {n : Nat} {t : Int} {kvs : List (Key × V)} (h : valV kvs (Sum.inl t : Key) = none) : drain n t kvs = (t, kvs, []) := by
  cases n with
  | zero => rfl
  | succ n =>
    unfold drain
    rw [h]
theorem drain_go {n : Nat} {t : Int} {kvs : List (Key × V)} {x : V} (h : valV kvs (Sum.inl t : Key) = some x) :
    drain (n + 1) t kvs = ((drain n (t + 1) (dropK kvs (Sum.inl t))).1, (drain n (t + 1) (dropK kvs (Sum.inl t))).2.1, x :: (drain n (t + 1) (dropK kvs (Sum.inl t))).2.2) := by
  conv => lhs; unfold drain
  rw [h]
def early1 (t i : Int) (x : V) (kvs : List (Key × V)) : List (Key × V) := if (t ≤ i ∧ i < t + 1000) ∧ valV kvs (Sum.inl i : Key) = none then putK kvs (Sum.inl i) x else kvs
def drained (t i : Int) (x : V) (kvs : List (Key × V)) : Int × List (Key × V) × List V := drain (kvs.length + 1) t (early1 t i x kvs)
def spTaken (C : Addr) : Sp := fun vs H Q _ => ∃ (q e : Addr) (t : Int) (kvs : List (Key × V)), vs = [.ref q] ∧ EndAt C H q e t kvs ∧ Q (.int t) H
def spInTake (C CN : Addr) : Sp := fun vs H Q E => ∃ (q e : Addr) (t : Int) (kvs : List (Key × V)) (N : Addr → Prop) (v x : V) (d : PyData), vs = [.ref q, v, x] ∧ EndAt C H q e t kvs ∧ (kvs.map (·.1)).Nodup ∧ kvs.length ≤ 2000 ∧ Rp N H v d ∧
  (below 4294967296 d = false → E (.ref CN) none H) ∧
  (∀ i, intOf d = some i → below 4294967296 d = true → ∀ (l : Addr) (H' : Hp), H l = none → EndAt C H' q e (drained t i x kvs).1 (drained t i x kvs).2.1 → H' l = some (.lst (drained t i x kvs).2.2) → (∀ a, a ≠ q → a ≠ e → a ≠ l → H' a = H a) → Q (.ref l) H')
theorem below_some {b : Int} {d : PyData} (h : below b d = true) : ∃ i, d = .int i ∧ 0 ≤ i ∧ i < b := by
  unfold below at h
  cases d <;> simp [intOf] at h
  exact ⟨_, rfl, h⟩
section
variable {P : Program} {w : World} {K : PySem.W.Frag} {mg : Str → Option Value} {base : Heap} {C CN : Addr}
theorem d_known (B : Bi mg) (F : MethAt K C "known" "Outgoing.known" s_Outgoing_known) (c_Outgoing : Cls K C) (n1 : NoAttr K C "let_go") (n2 : NoAttr K C "things") (x_NoNumber : ExcAt K mg "NoNumber" CN)
    (D_Outgoing_many_put : HasM P w K mg base 1 C "many_put" ["self"] (spManyPut C)) (D_is_below : Has P w K mg base 2 "is_below" ["bound", "thing"] spIsBelow) : HasMX P w K mg base 3 C "known" ["self", "number"] (spKnown C CN) := by
  refine mk_hasMX F sc_Outgoing_known (fun _ _ _ _ _ _ us hl => match us, hl with | [_, _], _ => rfl) (fun vs H Q E h => ?_) fun f cdv A outer s H vs Q E hr h => ?_
  · obtain ⟨p, l, g, xs, N, v, d, rfl, _⟩ := h
    rfl
  obtain ⟨p, l, g, xs, N, v, d, rfl, ho, r, hg, k1, k2⟩ := h
  obtain ⟨⟨dx, hp⟩, hl⟩ := id ho
  refine ⟨_, (pss_cons (ps_if (pt_not (pt_val (pe_h D_is_below (hr.mono (by decide)) rfl (pa_cons (pe_op op_add (pe_m0 D_Outgoing_many_put c_Outgoing (hr.mono (by decide)) (pv 0) ) pe_int) (pa_cons (pv 1) pa_nil)))))
    (pss_one (ps_rz rfl (takes_of rfl rfl rfl rfl) x_NoNumber rfl))
    pss_nil)
    (pss_cons (ps_set (i := 2) sc_Outgoing_known.nd rfl (Or.inl rfl) (pe_callB (call_max2 rfl) rfl B.max (by decide +kernel) (pa_cons pe_int (pa_cons (pe_op op_sub (pv 1) (pe_fld (pv 0) rfl)) pa_nil))))
    (pss_cons (ps_fld (pv 0) (pe_slice sl_list (pe_fld (pv 0) rfl) (po_some (pv 2)) po_none) rfl)
    (pss_cons (ps_fldaug (pv 0) (pv 2) in_add)
    (pss_one (ps_ret (pv 2))))))), ?_⟩
  refine ⟨_, rfl, p, dx, _, rfl, hp, outF_no (by decide +kernel) (by decide +kernel), p, l, g, xs, rfl, ho, _, _, rfl, rfl, _, rfl, N, v, d, _, rfl, r, _, rfl, ?_⟩
  cases e : below (g + xs.length + 1) d with
  | false => exact ifT rfl (k1 e)
  | true =>
    obtain ⟨i, rfl, i0, i1⟩ := below_some e
    cases r
    refine ifF rfl ?_
    refine ⟨_, rfl, _, rfl, p, C, dx, _, _, rfl, hp, c_Outgoing, n1, outF_lg, _, _, rfl, rfl, _, _, rfl, ?_⟩
    refine ⟨_, rfl, p, C, dx, _, _, rfl, hp, c_Outgoing, n2, outF_th, _, rfl, _, rfl, _, _, rfl, SqL.of hl, fun m hm => ?_⟩
    have npm : p ≠ m := ne_of_none hp hm
    refine ⟨_, rfl, p, C, dx, _, rfl, (by rw [upd_ne npm]; exact hp), c_Outgoing, n2, (by show 2 < 1000; decide), ?_⟩
    refine ⟨_, rfl, p, C, dx, outF g m, _, rfl, (by rw [upd_same, outF_l]), c_Outgoing, n1, outF_lg, _, rfl, _, _, rfl, rfl, dx, outF g m, (by rw [upd_same, outF_l]), (by show 2 < 1000; decide), ?_⟩
    refine ⟨_, rfl, ?_⟩
    refine k2 i rfl e m _ hm ⟨⟨dx, by rw [upd_same, outF_g]; rfl⟩, ?_⟩ fun a h1 h2 => by rw [upd_ne h1, upd_ne h1, upd_ne h2]
    rw [upd_ne npm.symm, upd_ne npm.symm, upd_same]
    exact congrArg (fun z => some (HO.lst z)) (cut_from (outMany_nn g i))
theorem d_taken (F : MethAt K C "taken" "Incoming.taken" s_Incoming_taken) (c : Cls K C) (n1 : NoAttr K C "due") : HasM P w K mg base 1 C "taken" ["self"] (spTaken C) := by
  refine mk_hasM F sc_Incoming_taken (fun _ _ _ _ _ _ us hl => match us, hl with | [_], _ => rfl) (fun vs H Q E h => ?_) fun f cdv A outer s H vs Q E hr h => ?_
  · obtain ⟨q, e, t, kvs, rfl, _⟩ := h
    rfl
  obtain ⟨q, e, t, kvs, rfl, ⟨⟨dx, hq⟩, he⟩, k⟩ := h
  refine ⟨_, (pss_one (ps_ret (pe_fld (pv 0) rfl))), ?_⟩
  exact ⟨_, rfl, q, C, dx, _, _, rfl, hq, c, n1, inF_d, k⟩
theorem d_in_take {tN tH : Tok} (B : Bi mg) (F : MethAt K C "take" "Incoming.take" s_Incoming_take) (c : Cls K C) (n1 : NoAttr K C "due") (n2 : NoAttr K C "early") (x_NoNumber : ExcAt K mg "NoNumber" CN)
    (g_NUMBERS : mg "NUMBERS" = some (.int 4294967296 tN)) (g_HELD_AHEAD : mg "HELD_AHEAD" = some (.int 1000 tH))
    (D_is_below : Has P w K mg base 2 "is_below" ["bound", "thing"] spIsBelow) : HasMX P w K mg base 3 C "take" ["self", "number", "thing"] (spInTake C CN) := by
  refine mk_hasMX F sc_Incoming_take (fun _ _ _ _ _ _ us hl => match us, hl with | [_, _, _], _ => rfl) (fun vs H Q E h => ?_) fun f cdv A outer s H vs Q E hr h => ?_
  · obtain ⟨q, e, t, kvs, N, v, x, d, rfl, _⟩ := h
    rfl
  obtain ⟨q, e, t, kvs, N, v, x, d, rfl, ho, hnd, hlen, r, k1, k2⟩ := h
  have hu := hu_of hr
  obtain ⟨⟨dx, hq⟩, he⟩ := id ho
  have nqe : q ≠ e := ne_of hq he (by intro z; cases z)
  refine ⟨_, (pss_cons (ps_if (pt_not (pt_val (pe_h D_is_below (hr.mono (by decide)) rfl (pa_cons (pe_glob (v := .int 4294967296) rfl g_NUMBERS ⟨_, rfl⟩) (pa_cons (pv 1) pa_nil)))))
    (pss_one (ps_rz rfl (takes_of rfl rfl rfl rfl) x_NoNumber rfl))
    pss_nil)
    (C8.pss_cut (ps_if (PW.pt (pw_and (pt_chain op_le op_lt (pe_fld (pv 0) rfl) (pv 1) (pe_op op_add (pe_fld (pv 0) rfl) (pe_glob (v := .int 1000) rfl g_HELD_AHEAD ⟨_, rfl⟩))) (pw_and1 (pt_cmp (pc_dnotin hu (pv 1) (pe_fld (pv 0) rfl))))))
    (pss_one (ps_dput hu (pe_fld (pv 0) rfl) (pv 1) (pv 2) rfl))
    pss_nil)
    (pss_cons (ps_set (i := 3) sc_Incoming_take.nd rfl (Or.inl rfl) (pe_lst pa_nil))
    (pss_cons (ps_while (passes_of rfl) (pt_cmp (pc_din hu (pe_fld (pv 0) rfl) (pe_fld (pv 0) rfl)))
    (pss_cons (ps_expr (pe_bm PySem.F.plainAttrs_list PySem.F.slot_list_append PySem.F.type_list_append mt_append (pv 3) (pa_cons (pe_dpop1 (pe_fld (pv 0) rfl) (pe_fld (pv 0) rfl) ⟨rfl, rfl, rfl, rfl⟩) pa_nil)))
    (pss_one (ps_fldaug (pv 0) pe_int in_add))))
    (pss_one (ps_ret (pv 3))))))), ?_⟩
  refine ⟨_, rfl, N, v, d, _, rfl, r, _, rfl, ?_⟩
  cases ed : below 4294967296 d with
  | false => exact ifT rfl (k1 ed)
  | true =>
    obtain ⟨i, rfl, i0, i1⟩ := below_some ed
    cases r
    refine ifF rfl ?_
    -- what is early behind the store
    refine ⟨fun σ H' => σ = [some (.ref q), some (.int i), some x, none] ∧ H' e = some (.dK (early1 t i x kvs)) ∧ (∀ a, a ≠ e → H' a = H a), ?_, ?_⟩
    · refine ⟨_, rfl, q, C, dx, _, _, rfl, hq, c, n1, inF_d, _, rfl, _, _, rfl, rfl, _, rfl, ?_⟩
      have no : ¬ ((t ≤ i ∧ i < t + 1000) ∧ valV kvs (Sum.inl i : Key) = none) → (fun σ H' => σ = [some (.ref q), some (.int i), some x, none] ∧ H' e = some (.dK (early1 t i x kvs)) ∧ (∀ a, a ≠ e → H' a = H a)) [some (.ref q), some (.int i), some x, none] H := fun n => by
        refine ⟨rfl, ?_, fun a _ => rfl⟩
        unfold early1
        rw [if_neg n]
        exact he
      refine ite2 (fun a1 => ?_) (fun a1 => ?_)
      · have a1' := of_decide_eq_true a1
        refine ⟨_, rfl, q, C, dx, _, _, rfl, hq, c, n1, inF_d, _, _, rfl, rfl, _, _, rfl, rfl, _, rfl, ?_⟩
        refine ite2 (fun a2 => ?_) (fun a2 => ?_)
        · have a2' := of_decide_eq_true a2
          refine ⟨_, rfl, _, rfl, q, C, dx, _, _, rfl, hq, c, n2, inF_e, _, _, rfl, DGet.k (k := Sum.inl i) he, _, rfl, ?_⟩
          cases a3 : valV kvs (Sum.inl i : Key) with
          | some y => exact ifF rfl (no fun z => by rw [a3] at z; exact nomatch z.2)
          | none =>
            refine ifT rfl ⟨_, rfl, _, rfl, q, C, dx, _, _, rfl, hq, c, n2, inF_e, _, rfl, _, _, rfl, DPut.k (k := Sum.inl i) he (Nat.lt_of_le_of_lt hlen (by decide)), rfl, ?_, fun a ha => upd_ne ha⟩
            unfold early1
            rw [if_pos ⟨⟨a1', a2'⟩, a3⟩]
            exact upd_same
        · exact ifF rfl (no fun z => (of_decide_eq_false (Bool.eq_false_iff.mpr a2)) z.1.2)
      · exact ⟨_, rfl, ifF rfl (no fun z => (of_decide_eq_false (Bool.eq_false_iff.mpr a1)) z.1.1)⟩
    · rintro σ H1 ⟨rfl, h1e, h1k⟩
      have h1q : H1 q = some (.ins C dx (inF t e)) := (h1k q nqe).trans hq
      have len1 : (early1 t i x kvs).length ≤ kvs.length + 1 := by
        unfold early1
        split
        · rename_i z
          rw [putK_new _ z.2, List.length_append]
          exact Nat.le_refl _
        · exact Nat.le_succ _
      have nd1 : ((early1 t i x kvs).map (·.1)).Nodup := by
        unfold early1
        split
        · rename_i z
          exact nd_putK _ hnd z.2
        · exact hnd
      refine ⟨Nat.zero_le _, fun l hl => ?_⟩
      have nlq : q ≠ l := ne_of_none h1q hl
      have nle : e ≠ l := ne_of_none h1e hl
      have hl0 : H l = none := (h1k l nle.symm).symm.trans hl
      refine while_by (fun σ H' => ∃ (t' : Int) (kv' : List (Key × V)) (ys : List V) (n : Nat), σ = [some (.ref q), some (.int i), some x, some (.ref l)] ∧ H' q = some (.ins C dx (inF t' e)) ∧ H' e = some (.dK kv') ∧ H' l = some (.lst ys) ∧ (∀ a, a ≠ q → a ≠ e → a ≠ l → H' a = H a) ∧
          (kv'.map (·.1)).Nodup ∧ kv'.length ≤ n ∧ ys.length + n ≤ 3000 ∧ (drain n t' kv').1 = (drained t i x kvs).1 ∧ (drain n t' kv').2.1 = (drained t i x kvs).2.1 ∧ ys ++ (drain n t' kv').2.2 = (drained t i x kvs).2.2)
        (fun _ H' => match H' e with | some (.dK kv') => kv'.length | _ => 0)
        ⟨t, _, [], kvs.length + 1, rfl, by rw [upd_ne nlq]; exact h1q, by rw [upd_ne nle]; exact h1e, upd_same, fun a _ ha hb => by rw [upd_ne hb]; exact h1k a ha, nd1, len1, by simp only [List.length_nil]; omega, rfl, rfl, rfl⟩ ?_ ?_
      · rintro σ H2 ⟨t', kv', ys, n, rfl, h2q, h2e, h2l, h2k, hnd', hn, hys, e1, e2, e3⟩
        refine ⟨_, rfl, q, C, dx, _, _, rfl, h2q, c, n1, inF_d, _, rfl, q, C, dx, _, _, rfl, h2q, c, n2, inF_e, _, _, rfl, DGet.k (k := Sum.inl t') h2e, _, rfl, ?_⟩
        cases ev : valV kv' (Sum.inl t' : Key) with
        | none =>
          refine ifF rfl ⟨_, rfl, ?_⟩
          rw [drain_stop ev] at e1 e2 e3
          rw [List.append_nil] at e3
          exact k2 i rfl ed l H2 hl0 ⟨⟨dx, by rw [← e1]; exact h2q⟩, by rw [← e2]; exact h2e⟩ (by rw [← e3]; exact h2l) h2k
        | some y =>
          have nle2 : l ≠ e := nle.symm
          have hm := valV_in ev
          have hdl := dropK_len hnd' hm
          obtain ⟨n', rfl⟩ : ∃ n', n = n' + 1 := ⟨n - 1, by omega⟩
          rw [drain_go ev] at e1 e2 e3
          refine ifT rfl ?_
          refine ⟨_, rfl, .inl ⟨rfl, _, SqL.of h2l⟩, _, rfl, q, C, dx, _, _, rfl, h2q, c, n2, inF_e, _, rfl, .inl ⟨_, .inl h2e⟩, _, rfl, q, C, dx, _, _, rfl, h2q, c, n1, inF_d, _, Sum.inl t', y, h2e, rfl, ev, ?_⟩
          refine ⟨l, ys, y, rfl, rfl, (by rw [upd_ne nle2]; exact h2l), Nat.lt_of_le_of_lt (Nat.le_of_lt_succ (by omega : ys.length < 3000 + 1)) (by decide), ?_⟩
          refine ⟨_, rfl, q, C, dx, _, _, rfl, (by rw [upd_ne nlq, upd_ne nqe]; exact h2q), c, n1, inF_d, _, _, rfl, rfl, dx, _, (by rw [upd_ne nlq, upd_ne nqe]; exact h2q), (by show 2 < 1000; decide), ?_⟩
          refine ⟨⟨t' + 1, dropK kv' (Sum.inl t'), ys ++ [y], n', rfl, by rw [upd_same, inF_t], by rw [upd_ne nqe.symm, upd_ne nle, upd_same], by rw [upd_ne nlq.symm, upd_same], fun a ha hb hc => by rw [upd_ne ha, upd_ne hc, upd_ne hb]; exact h2k a ha hb hc, nd_dropK hnd', by omega,
            by rw [List.length_append, List.length_singleton]; omega, e1, e2, by rw [List.append_assoc]; exact e3⟩, ?_⟩
          have g1 : ∀ o1 o2, (upd (upd (upd H2 e (.dK (dropK kv' (Sum.inl t')))) l o1) q o2) e = some (.dK (dropK kv' (Sum.inl t'))) := fun o1 o2 => by rw [upd_ne nqe.symm, upd_ne nle, upd_same]
          rw [g1, h2e]
          show (dropK kv' (Sum.inl t')).length < kv'.length
          omega
      · rintro σ H2 Q1 Q2 hQ ⟨_, z1, q1, c1, d1, f1, v1, z2, z3, z4, z5, z6, _, z7, q2, c2, d2, f2, v2, z8, z9, z10, z11, z12, a, o, z13, z14, b, z15, z⟩
        exact ⟨_, z1, q1, c1, d1, f1, v1, z2, z3, z4, z5, z6, _, z7, q2, c2, d2, f2, v2, z8, z9, z10, z11, z12, a, o, z13, z14, b, z15, hQ _ _ z⟩
end
end KQ
set_option Elab.async false
set_option maxRecDepth 100000
set_option maxHeartbeats 4000000
namespace KQ
open PySem PySem.Spec PyProof.Rows L2
/-- an end that holds nothing early -/
def spInState (C : Addr) : Sp := fun vs H Q _ => ∃ (q e : Addr) (t : Int), vs = [.ref q] ∧ EndAt C H q e t [] ∧
  ∀ (T T1 : Addr) (H' : Hp), H T = none → H T1 = none → Same H H' → H' T = some (.tup [.int t, .ref T1]) → H' T1 = some (.tup []) → Q (.ref T) H'
def spLawKnown (C : Addr) : Sp := fun vs H Q _ => ∃ (p l : Addr) (g : Int) (xs : List V) (N : Addr → Prop) (v : V) (d : PyData), vs = [.ref p, v] ∧ OutAt C H p l g xs ∧ Rp N H v d ∧ 0 ≤ g ∧
  (below (g + xs.length + 1) d = false → ∀ T : Addr, H T = none → Q (.ref T) (upd H T (.tup [.str "NoNumber"]))) ∧
  (∀ i, intOf d = some i → below (g + xs.length + 1) d = true → ∀ (m T : Addr) (H' : Hp), H m = none → H T = none → m ≠ T → OutAt C H' p m (g + outMany g i) (xs.drop (outMany g i).toNat) → H' T = some (.tup [.str "told", .int (outMany g i)]) →
    (∀ a, a ≠ p → a ≠ m → a ≠ T → H' a = H a) → Q (.ref T) H')
def spLawTaken (C : Addr) : Sp := fun vs H Q _ => ∃ (q e : Addr) (t : Int) (N : Addr → Prop) (v : V) (d : PyData), vs = [.ref q, v] ∧ EndAt C H q e t [] ∧ Rp N H v d ∧
  (below 4294967296 d = false → ∀ (T U : Addr) (H' : Hp), H T = none → Same H H' → H' T = some (.tup [.str "NoNumber"]) → Q (.ref T) H') ∧
  (∀ i, intOf d = some i → below 4294967296 d = true → ∀ (x l T : Addr) (H' : Hp), H x = none → H l = none → H T = none → EndAt C H' q e (drained t i (.ref x) []).1 (drained t i (.ref x) []).2.1 →
    H' x = some (.tup [.str "x", v]) → H' l = some (.lst (drained t i (.ref x) []).2.2) → H' T = some (.tup [.str "told", .ref l]) → (∀ a, a ≠ q → a ≠ e → H a ≠ none → H' a = H a) → Q (.ref T) H')
section
variable {P : Program} {w : World} {K : PySem.W.Frag} {mg : Str → Option Value} {base : Heap} {C CN : Addr}
theorem d_in_state (B : Bi mg) (F : MethAt K C "state" "Incoming.state" s_Incoming_state) (c : Cls K C) (n1 : NoAttr K C "due") (n2 : NoAttr K C "early") : HasM P w K mg base 1 C "state" ["self"] (spInState C) := by
  refine mk_hasM F sc_Incoming_state (fun _ _ _ _ _ _ us hl => match us, hl with | [_], _ => rfl) (fun vs H Q E h => ?_) fun f cdv A outer s H vs Q E hr h => ?_
  · obtain ⟨q, e, t, rfl, _⟩ := h
    rfl
  obtain ⟨q, e, t, rfl, ⟨⟨dx, hq⟩, he⟩, k⟩ := h
  have hu := hu_of hr
  refine ⟨_, (pss_one (ps_ret (pe_tup (pa_cons (pe_fld (pv 0) rfl) (pa_cons (pe_callTy call_tuple_of rfl B.tuple (by decide +kernel) (pa_cons (pe_lc (own := [("number", 1)]) (g := gName 1) (tt := tYes) (te := (tTup (tCons (tVar 1) (tCons (tDGet (tFld K (tVar 0) "early") (tVar 1)) tNil)))) rfl sc_Incoming_state.nd (pi_list (pe_callB (call_sortedDI rfl) rfl B.sorted (by decide +kernel) (pa_cons (pe_fld (pv 0) rfl) pa_nil))) (blkOk_by (own := [("number", 1)]) (N := ["self", "number"]) (sc := defScope s_Incoming_state) (by decide +kernel)) (fun _ _ _ _ _ => (pg_name (i := 1) sc_Incoming_state.nd rfl (Or.inl rfl))) (fun _ _ _ _ _ => pts_nil) (fun _ _ _ _ _ => (pe_tup (pa_cons (pv 1) (pa_cons (pe_dget hu (pe_fld (pv 0) rfl) (pv 1) (fun _ _ => rfl)) pa_nil))))) pa_nil)) pa_nil))))), ?_⟩
  refine ⟨_, rfl, q, C, dx, _, _, rfl, hq, c, n1, inF_d, _, rfl, q, C, dx, _, _, rfl, hq, c, n2, inF_e, e, [], [], rfl, .inl he, rfl, (by show 0 < 64; decide), fun ys p perm _ np => ?_⟩
  have ey : ys = [] := List.perm_nil.mp perm
  subst ey
  refine ⟨_, rfl, ⟨_, SqL.of upd_same⟩, fun D nD => lc_list (K := K) (a := p) (xs := []) (fun i H' => H' = upd (upd H p (.lst [])) D (.lst [])) rfl (fun i H' _ z => ?_) (fun i x H' hx => nomatch hx) fun H' z => ?_⟩
  · subst z
    exact SqL.of (by rw [upd_ne (ne_of_none upd_same nD)]; exact upd_same)
  · subst z
    refine ⟨D, [], rfl, .inl ⟨SqL.of upd_same, fun T1 n1' => ⟨(by show 2 ≤ sizeLine; decide), fun T nT => ?_⟩⟩⟩
    have s1 : Same H (upd (upd (upd H p (.lst [])) D (.lst [])) T1 (.tup [])) := (same_new np).trans ((same_new nD).trans (same_new n1'))
    have hT1 : H T1 = none := ((same_new np).trans (same_new nD)).free n1'
    have hT : H T = none := s1.free nT
    have ne : T1 ≠ T := ne_of_none upd_same nT
    exact k T T1 _ hT hT1 (s1.trans (same_new nT)) upd_same (by rw [upd_ne ne]; exact upd_same)
theorem d_law_known (F : FunAt K mg "_law_known" s_law_known) (c_Outgoing : Cls K C) (x_NoNumber : ExcAt K mg "NoNumber" CN) (D_Outgoing_known : HasMX P w K mg base 3 C "known" ["self", "number"] (spKnown C CN)) : Has P w K mg base 4 "_law_known" ["out", "number"] (spLawKnown C) := by
  refine mk_has F sc_law_known (fun _ _ _ _ _ _ us hl => match us, hl with | [_, _], _ => rfl) (fun vs H Q E h => ?_) fun f cdv A outer s H vs Q E hr h => ?_
  · obtain ⟨p, l, g, xs, N, v, d, rfl, _⟩ := h
    rfl
  obtain ⟨p, l, g, xs, N, v, d, rfl, ho, r, hg, k1, k2⟩ := h
  obtain ⟨⟨dx, hp⟩, hl⟩ := id ho
  refine ⟨_, (pss_one (ps_try_only (tb := fun W => tRet (tTup (tCons (tC (.str "told")) (tCons (tMethW C "known" (spKnown C CN) W (tVar 0) (tCons (tVar 1) tNil)) tNil)))) (ts := fun _ _ _ => tRet (tTup (tCons (tC (.str "NoNumber")) tNil))) (Wout := fun _ _ _ _ => False) rfl rfl ⟨rfl, by decide, .inl x_NoNumber.g⟩ takes0 (fun W pn xe tk _ => (pss_one (ps_ret (pe_tup (pa_cons pe_str (pa_cons (pe_mX tk D_Outgoing_known c_Outgoing (hr.mono (by decide)) (pv 0) (pa_cons (pv 1) pa_nil)) pa_nil)))))) (fun a oe cls d pn hz hf => (pss_one (ps_ret (pe_tup (pa_cons pe_str pa_nil))))))), ?_⟩
  refine ⟨_, rfl, p, dx, _, rfl, hp, outF_no (by decide +kernel) (by decide +kernel), _, rfl, p, l, g, xs, N, v, d, rfl, ho, r, hg, fun e => ?_, fun i ei eb m H' hm ho' hk => ?_⟩
  · exact ⟨true, x_NoNumber.exm, fun _ a0 _ => ⟨(by show 1 ≤ sizeLine; decide), fun T nT => k1 e T nT⟩, fun z => nomatch z⟩
  · refine ⟨(by show 2 ≤ sizeLine; decide), fun T nT => ?_⟩
    have nm : m ≠ T := ne_of_none ho'.2 nT
    have np : p ≠ T := ne_of_none ho'.1.choose_spec nT
    have hT : H T = none := (hk T np.symm nm.symm).symm.trans nT
    exact k2 i ei eb m T _ hm hT nm (ho'.same (same_new nT)) upd_same fun a h1 h2 h3 => by rw [upd_ne h3]; exact hk a h1 h2
theorem d_law_taken (F : FunAt K mg "_law_taken" s_law_taken) (c_Incoming : Cls K C) (x_NoNumber : ExcAt K mg "NoNumber" CN) (D_Incoming_take : HasMX P w K mg base 3 C "take" ["self", "number", "thing"] (spInTake C CN)) : Has P w K mg base 4 "_law_taken" ["end", "number"] (spLawTaken C) := by
  refine mk_has F sc_law_taken (fun _ _ _ _ _ _ us hl => match us, hl with | [_, _], _ => rfl) (fun vs H Q E h => ?_) fun f cdv A outer s H vs Q E hr h => ?_
  · obtain ⟨q, e, t, N, v, d, rfl, _⟩ := h
    rfl
  obtain ⟨q, e, t, N, v, d, rfl, ho, r, k1, k2⟩ := h
  obtain ⟨⟨dx, hq⟩, he⟩ := id ho
  refine ⟨_, (pss_one (ps_try_only (tb := fun W => tRet (tTup (tCons (tC (.str "told")) (tCons (tMethW C "take" (spInTake C CN) W (tVar 0) (tCons (tVar 1) (tCons (tTup (tCons (tC (.str "x")) (tCons (tVar 1) tNil))) tNil))) tNil)))) (ts := fun _ _ _ => tRet (tTup (tCons (tC (.str "NoNumber")) tNil))) (Wout := fun _ _ _ _ => False) rfl rfl ⟨rfl, by decide, .inl x_NoNumber.g⟩ takes0 (fun W pn xe tk _ => (pss_one (ps_ret (pe_tup (pa_cons pe_str (pa_cons (pe_mX tk D_Incoming_take c_Incoming (hr.mono (by decide)) (pv 0) (pa_cons (pv 1) (pa_cons (pe_tup (pa_cons pe_str (pa_cons (pv 1) pa_nil))) pa_nil))) pa_nil)))))) (fun a oe cls d pn hz hf => (pss_one (ps_ret (pe_tup (pa_cons pe_str pa_nil))))))), ?_⟩
  refine ⟨_, rfl, q, dx, _, rfl, hq, inF_no (by decide +kernel) (by decide +kernel), _, rfl, _, rfl, (by show 2 ≤ sizeLine; decide), fun x nx => ?_⟩
  have s1 : Same H (upd H x (.tup [.str "x", v])) := same_new nx
  refine ⟨q, e, t, [], N, v, .ref x, d, rfl, ho.same s1, List.nodup_nil, Nat.zero_le _, r.to (Kp.of_same s1), fun eb => ?_, fun i ei eb l H' hl ho' hll hk => ?_⟩
  · refine ⟨true, x_NoNumber.exm, fun _ a0 _ => ⟨(by show 1 ≤ sizeLine; decide), fun T nT => ?_⟩, fun z => nomatch z⟩
    exact k1 eb T T _ (s1.free nT) (s1.trans (same_new nT)) upd_same
  · refine ⟨(by show 2 ≤ sizeLine; decide), fun T nT => ?_⟩
    have nlT : l ≠ T := ne_of_none hll nT
    have nqT : q ≠ T := ne_of_none ho'.1.choose_spec nT
    have neT : e ≠ T := ne_of_none ho'.2 nT
    have hT1 : upd H x (.tup [.str "x", v]) T = none := (hk T nqT.symm neT.symm nlT.symm).symm.trans nT
    have hT : H T = none := s1.free hT1
    have hl0 : H l = none := s1.free hl
    have nxl : x ≠ l := ne_of_none upd_same hl
    have nxT : x ≠ T := ne_of_none upd_same hT1
    have nxq : x ≠ q := (ne_of_none hq nx).symm
    have nxe : x ≠ e := (ne_of_none he nx).symm
    refine k2 i ei eb x l T _ nx hl0 hT (ho'.same (same_new nT)) ?_ ?_ upd_same fun a h1 h2 h3 => ?_
    · rw [upd_ne nxT, hk x nxq nxe nxl]
      exact upd_same
    · rw [upd_ne nlT]
      exact hll
    · have nal : a ≠ l := fun z => h3 (z ▸ hl0)
      have nax : a ≠ x := fun z => h3 (z ▸ nx)
      have naT : a ≠ T := fun z => h3 (z ▸ hT)
      rw [upd_ne naT, hk a h1 h2 nal, upd_ne nax]
end
end KQ
set_option Elab.async false
set_option maxRecDepth 100000
set_option maxHeartbeats 4000000
namespace KQ
open PySem PySem.Spec PyProof.Rows L2
/-! ### the law over the ends of links -/
def thing (k : Nat) : PyData := .tuple [.str "thing", .int k]
def things (m : Int) : List PyData := (List.range m.toNat).map thing
/-- where what changes stands -/
abbrev N9 (h l0 p l q e : Addr) : Addr → Prop := fun a => a = h ∨ a = l0 ∨ a = p ∨ a = l ∨ a = q ∨ a = e
structure S9 (CO CI : Addr) (H : Hp) (h l0 p l q e : Addr) (m g t : Int) : Prop where
  ho : HandOk H h l0
  l1 : l ≠ h
  l2 : l ≠ l0
  xs : ∃ xs, OutAt CO H p l g xs ∧ RpAll (N9 h l0 p l q e) H xs ((things m).drop g.toNat)
  en : EndAt CI H q e t []
  g0 : 0 ≤ g
  g1 : g ≤ m
  m1 : m ≤ 9
section
variable {CO CI : Addr} {H H' : Hp} {h l0 p l q e a : Addr} {m g t : Int}
theorem S9.same (S : S9 CO CI H h l0 p l q e m g t) (k : Same H H') : S9 CO CI H' h l0 p l q e m g t :=
  ⟨S.ho.same k, S.l1, S.l2, S.xs.choose_spec.elim fun o r => ⟨_, o.same k, r.to (Kp.of_same k)⟩, S.en.same k, S.g0, S.g1, S.m1⟩
theorem S9.free (S : S9 CO CI H h l0 p l q e m g t) (n : H a = none) : ¬ N9 h l0 p l q e a := by
  obtain ⟨xs, ⟨⟨dx, hp⟩, hl⟩, _⟩ := S.xs
  obtain ⟨⟨dy, hq⟩, he⟩ := S.en
  rintro (z | z | z | z | z | z)
  · exact S.ho.ne n z
  · exact S.ho.ne0 n z
  · exact (ne_of_none hp n) z.symm
  · exact (ne_of_none hl n) z.symm
  · exact (ne_of_none hq n) z.symm
  · exact (ne_of_none he n) z.symm
theorem S9.hp (S : S9 CO CI H h l0 p l q e m g t) : p ≠ h ∧ p ≠ l0 ∧ q ≠ h ∧ q ≠ l0 ∧ e ≠ h ∧ e ≠ l0 ∧ p ≠ l ∧ p ≠ e ∧ q ≠ l ∧ q ≠ e ∧ e ≠ l := by
  obtain ⟨xs, ⟨⟨dx, hp⟩, hl⟩, _⟩ := S.xs
  obtain ⟨⟨dy, hq⟩, he⟩ := S.en
  obtain ⟨⟨x1, h1⟩, x2, h2⟩ := S.ho.lst
  refine ⟨ne_of hp h1 ?_, ne_of hp h2 ?_, ne_of hq h1 ?_, ne_of hq h2 ?_, ne_of he h1 ?_, ne_of he h2 ?_, ne_of hp hl ?_, ne_of hp he ?_, ne_of hq hl ?_, ne_of hq he ?_, ne_of he hl ?_⟩ <;> (intro z; cases z)
/-- the hand has drawn -/
theorem S9.kh (S : S9 CO CI H h l0 p l q e m g t) (ho : HandOk H' h l0) (k : Kp (Nh h) H H') : S9 CO CI H' h l0 p l q e m g t := by
  obtain ⟨n1, _, n3, _, n5, _⟩ := S.hp
  obtain ⟨xs, ⟨⟨dx, hp⟩, hl⟩, r⟩ := S.xs
  obtain ⟨⟨dy, hq⟩, he⟩ := S.en
  exact ⟨ho, S.l1, S.l2, ⟨xs, ⟨⟨dx, k _ _ hp n1⟩, k _ _ hl S.l1⟩, r.to (k.wide fun a z => .inl z)⟩, ⟨⟨dy, k _ _ hq n3⟩, k _ _ he n5⟩, S.g0, S.g1, S.m1⟩
theorem S9.len (S : S9 CO CI H h l0 p l q e m g t) {xs : List V} (r : RpAll (N9 h l0 p l q e) H xs ((things m).drop g.toNat)) : (xs.length : Int) = m - g := by
  have e := r.length
  rw [List.length_drop] at e
  unfold things at e
  rw [List.length_map, List.length_range] at e
  have g0 := S.g0
  have g1 := S.g1
  omega
end
theorem below_within (b : Int) (d : PyData) : below (b + 1) d = within d 0 b := by
  unfold below within
  cases intOf d with
  | none => rfl
  | some i =>
    show (decide (0 ≤ i) && decide (i < b + 1)) = (decide (0 ≤ i) && decide (i ≤ b))
    rw [show decide (i < b + 1) = decide (i ≤ b) from decide_eq_decide.mpr (by omega)]
mutual
theorem Rp.dp {K : PySem.W.Frag} {N : Addr → Prop} {H : Hp} : ∀ {v : V} {d : PyData}, Rp N H v d → d.canLay0 = true → Dp K H v d
  | _, _, .non, _ => .non
  | _, _, .bl b, _ => .bl b
  | _, _, .int i, _ => .int i
  | _, _, .str x, _ => .str x
  | _, _, .lst e _ r, c => .lst (SqL.of e) (r.dp c)
  | _, _, .tup e _ r, c => .tup (SqT.of e) (r.dp c)
  | _, _, .emp _ _, c => by simp [PyData.canLay0] at c
theorem RpAll.dp {K : PySem.W.Frag} {N : Addr → Prop} {H : Hp} : ∀ {vs : List V} {ds : List PyData}, RpAll N H vs ds → PyData.canLayAll0 ds = true → DpAll K H vs ds
  | _, _, .nil, _ => .nil
  | _, _, .cons r t, c => by
    unfold PyData.canLayAll0 at c
    rw [Bool.and_eq_true] at c
    exact .cons (r.dp c.1) (t.dp c.2)
end
/-- two data that are one: a != b is False -/
theorem ne_same {K : PySem.W.Frag} {N N' : Addr → Prop} {H : Hp} {x y : V} {d : PyData} {Q : VK} (a : Rp N H x d) (b : Rp N' H y d) (hs : SeqAt.shaped d = true) (he : PyData.eqv d d = true) (q : Q (.bl false) H) : rNeD K x y H Q :=
  ⟨d, d, a.dp (canLay_of_shaped' hs), b.dp (canLay_of_shaped' hs), hs, hs, by rw [he]; exact q⟩
where canLay_of_shaped' {d : PyData} (h : SeqAt.shaped d = true) : d.canLay0 = true := (Bool.and_eq_true_iff.mp h).1
theorem things_at {m : Int} {d : PyData} {n : Nat} (h : d ∈ (things m).drop n) : ∃ k : Nat, d = thing k := by
  have h1 := List.mem_of_mem_drop h
  unfold things at h1
  obtain ⟨k, _, e⟩ := List.mem_map.mp h1
  exact ⟨k, e.symm⟩
theorem depth_all {ds : List PyData} {n : Nat} (h : ∀ d ∈ ds, d.depth ≤ n) : PyData.depthAll ds ≤ n := by
  induction ds with
  | nil => exact Nat.zero_le _
  | cons d r ih =>
    unfold PyData.depthAll
    exact Nat.max_le.mpr ⟨h d List.mem_cons_self, ih fun x hx => h x (List.mem_cons_of_mem _ hx)⟩
theorem lay_all {ds : List PyData} (h : ∀ d ∈ ds, d.canLay0 = true) : PyData.canLayAll0 ds = true := by
  induction ds with
  | nil => rfl
  | cons d r ih =>
    unfold PyData.canLayAll0
    rw [h d List.mem_cons_self, ih fun x hx => h x (List.mem_cons_of_mem _ hx)]
    rfl
theorem thing_lay (k : Nat) : (thing k).canLay0 = true := by
  show (PyData.canLay0 (.str "thing") && (PyData.canLay0 (.int k) && true)) = true
  rw [show PyData.canLay0 (.str "thing") = true by decide +kernel]
  rfl
theorem state_depth {m g : Int} {n : Nat} : (PyData.tuple [.int g, .tuple ((things m).drop n)]).depth ≤ 3 := by
  have e : PyData.depthAll ((things m).drop n) ≤ 1 := depth_all fun d hd => by
    obtain ⟨k, rfl⟩ := things_at hd
    exact Nat.le_refl _
  show max 0 (max (PyData.depthAll ((things m).drop n) + 1) 0) + 1 ≤ 3
  omega
theorem state_lay {m g : Int} {n : Nat} : (PyData.tuple [.int g, .tuple ((things m).drop n)]).canLay0 = true := by
  have e : PyData.canLayAll0 ((things m).drop n) = true := lay_all fun d hd => by
    obtain ⟨k, rfl⟩ := things_at hd
    exact thing_lay k
  show (true && (PyData.canLayAll0 ((things m).drop n) && true)) = true
  rw [e]
  rfl
theorem things_drop {m g i : Int} (hg : 0 ≤ g) : ((things m).drop g.toNat).drop (outMany g i).toNat = (things m).drop (g + outMany g i).toNat := by
  have h := outMany_nn g i
  rw [List.drop_drop]
  congr 1
  omega
theorem things_more (i : Nat) : things ((i : Int) + 1) = things i ++ [thing i] := by
  unfold things
  rw [show ((i : Int) + 1).toNat = i + 1 by omega, List.range_succ, List.map_append, Int.toNat_natCast]
  rfl
end KQ
set_option Elab.async false
set_option maxRecDepth 100000
set_option maxHeartbeats 4000000
namespace KQ
open PySem PySem.Spec PyProof.Rows L2
theorem drained_hit {t : Int} {x : V} : drained t t x [] = (t + 1, [], [x]) := by
  have e : early1 t t x [] = [((Sum.inl t : Key), x)] := by
    unfold early1
    rw [if_pos ⟨⟨Int.le_refl t, by omega⟩, rfl⟩]
    rfl
  have v : valV [((Sum.inl t : Key), x)] (Sum.inl t) = some x := valV_pos (p := ((Sum.inl t : Key), x)) rfl
  show drain 1 t (early1 t t x []) = _
  rw [e, drain_go v, dropK_pos (p := ((Sum.inl t : Key), x)) rfl]
  rfl
theorem drained_miss {t i : Int} {x : V} (h : ¬ (t ≤ i ∧ i < t + 1000)) : drained t i x [] = (t, [], []) := by
  have e : early1 t i x [] = [] := by
    unfold early1
    rw [if_neg fun z => h z.1]
  show drain 1 t (early1 t i x []) = _
  rw [e, drain_stop rfl]
def spLaw (K : PySem.W.Frag) : Sp := fun vs H Q _ => ∃ (a : Addr) (ns : List Int), vs = [.ref a] ∧ SqL K H a (ns.map V.int) ∧ ns.length ≤ 63 ∧ ∀ H', Q (.bl true) H'
theorem within_some {lo hi : Int} {d : PyData} (h : within d lo hi = true) : ∃ i, d = .int i ∧ lo ≤ i ∧ i ≤ hi := by
  unfold within at h
  cases d <;> simp [intOf] at h
  exact ⟨_, rfl, h⟩
/-- one of a list of values that are all data -/
theorem rp_mem {N : Addr → Prop} {H : Hp} {vs : List V} {ds : List PyData} (r : RpAll N H vs ds) {v : V} (h : v ∈ vs) : ∃ d, Rp N H v d := by
  obtain ⟨i, hi⟩ := List.mem_iff_getElem?.mp h
  obtain ⟨d, _, q⟩ := r.get hi
  exact ⟨d, q⟩
section
variable {P : Program} {w : World} {K : PySem.W.Frag} {mg : Str → Option Value} {base : Heap} {CO CI : Addr}
set_option maxHeartbeats 16000000 in
theorem d_law {f0 : Addr} {fd0 : FuncData} (B : Bi mg) (F : Fun K "law" "law" s_law f0 fd0) (c_Outgoing : Cls K CO) (c_Incoming : Cls K CI)
    (D_law_hand : Has P w K mg base 1 "_law_hand" ["script"] (spHand K)) (D_law_take : Has P w K mg base 1 "_law_take" ["hand", "many"] spTake) (D_law_pick : Has P w K mg base 2 "_law_pick" ["hand", "things"] spPick)
    (D_law_is_within : Has P w K mg base 2 "_law_is_within" ["thing", "least", "most"] spWithin) (D_law_same : Has P w K mg base 5 "_law_same" ["actual", "due"] (spSame 3)) (D_law_odd : Has P w K mg base 2 "_law_odd" ["hand"] spOdd)
    (D_Outgoing : HasC P w K mg base 1 "Outgoing" CO ["self"] (spOutInit CO)) (D_Incoming : HasC P w K mg base 1 "Incoming" CI ["self"] (spInInit CI))
    (D_Outgoing_put : HasM P w K mg base 2 CO "put" ["self", "thing"] (spPut CO)) (D_Outgoing_state : HasM P w K mg base 1 CO "state" ["self"] (spOutState CO)) (D_Outgoing_many_put : HasM P w K mg base 1 CO "many_put" ["self"] (spManyPut CO))
    (D_Incoming_state : HasM P w K mg base 1 CI "state" ["self"] (spInState CI)) (D_Incoming_taken : HasM P w K mg base 1 CI "taken" ["self"] (spTaken CI))
    (D_law_known : Has P w K mg base 4 "_law_known" ["out", "number"] (spLawKnown CO)) (D_law_taken : Has P w K mg base 4 "_law_taken" ["end", "number"] (spLawTaken CI)) : FnOk P w K mg base CX0 6 f0 fd0 ["script"] (spLaw K) := by
  refine F.ok sc_law (fun vs H Q E h => ?_) fun cdv A outer s H vs Q E hr h => ?_
  · obtain ⟨a, ns, rfl, _⟩ := h
    rfl
  obtain ⟨a, ns, rfl, hS, hlen, kQ⟩ := h
  refine ⟨_, (pss_cons (ps_set (i := 1) sc_law.nd rfl (Or.inl rfl) (pe_h D_law_hand (hr.mono (by decide)) rfl (pa_cons (pv 0) pa_nil)))
    (pss_cons (ps_set (i := 2) sc_law.nd rfl (Or.inl rfl) (pe_c0 D_Outgoing (hr.mono (by decide)) rfl ))
    (pss_cons (ps_set (i := 3) sc_law.nd rfl (Or.inl rfl) (pe_c0 D_Incoming (hr.mono (by decide)) rfl ))
    (pss_cons (ps_set (i := 4) sc_law.nd rfl (Or.inl rfl) (pe_h D_law_take (hr.mono (by decide)) rfl (pa_cons (pv 1) (pa_cons pe_int pa_nil))))
    (pss_cons (ps_for PassesOwn.never rfl (pi_range1 rfl B.range (pa_cons (pv 4) pa_nil)) (pg_name (i := 5) sc_law.nd rfl (Or.inl rfl))
    (pss_one (ps_expr (pe_m D_Outgoing_put c_Outgoing (hr.mono (by decide)) (pv 2) (pa_cons (pe_tup (pa_cons pe_str (pa_cons (pv 5) pa_nil))) pa_nil)))))
    (pss_cons (ps_set (i := 6) sc_law.nd rfl (Or.inl rfl) pe_int)
    (pss_cons (ps_set (i := 7) sc_law.nd rfl (Or.inl rfl) pe_int)
    (pss_cons (ps_for PassesOwn.never rfl (pi_range1 rfl B.range (pa_cons pe_int pa_nil)) (pg_name (i := 5) sc_law.nd rfl (Or.inl rfl))
    (pss_cons (ps_set (i := 8) sc_law.nd rfl (Or.inl rfl) (pe_h D_law_pick (hr.mono (by decide)) rfl (pa_cons (pv 1) (pa_cons (pe_lst (pa_cons (pe_h D_law_take (hr.mono (by decide)) rfl (pa_cons (pv 1) (pa_cons (pe_op op_add (pv 4) pe_int) pa_nil))) (pa_cons (pv 4) (pa_cons (pe_op op_add (pv 4) pe_int) (pa_cons (pe_un un_neg pe_int) (pa_cons pe_bl (pa_cons pe_non (pa_cons pe_str (pa_cons (pe_h D_law_odd (hr.mono (by decide)) rfl (pa_cons (pv 1) pa_nil)) (pa_cons (pe_op op_pow pe_int pe_int) pa_nil)))))))))) pa_nil))))
    (pss_cons (ps_set (i := 9) sc_law.nd rfl (Or.inl rfl) (pe_m0 D_Outgoing_state c_Outgoing (hr.mono (by decide)) (pv 2) ))
    (C8.pss_cut (ps_set (i := 10) sc_law.nd rfl (Or.inl rfl) (pe_h D_law_known (hr.mono (by decide)) rfl (pa_cons (pv 2) (pa_cons (pv 8) pa_nil))))
    (C8.pss_cut (ps_if (pt_val (pe_h D_law_is_within (hr.mono (by decide)) rfl (pa_cons (pv 8) (pa_cons pe_int (pa_cons (pv 4) pa_nil)))))
    (pss_cons (ps_if (pt_not (pt_val (pe_h D_law_same (hr.mono (by decide)) rfl (pa_cons (pv 10) (pa_cons (pe_tup (pa_cons pe_str (pa_cons (pe_callB (call_max2 rfl) rfl B.max (by decide +kernel) (pa_cons pe_int (pa_cons (pe_op op_sub (pv 8) (pv 6)) pa_nil))) pa_nil))) pa_nil)))))
    (pss_one (ps_ret pe_bl))
    pss_nil)
    (pss_one (ps_set (i := 6) sc_law.nd rfl (Or.inl rfl) (pe_callB (call_max2 rfl) rfl B.max (by decide +kernel) (pa_cons (pv 6) (pa_cons (pv 8) pa_nil))))))
    (pss_one (ps_if (PW.pt (pw_or (pt_cmpR (op_neD hr.units) (pv 10) (pe_tup (pa_cons pe_str pa_nil)) (nomark _)) (pw_or1 (pt_not (pt_val (pe_h D_law_same (hr.mono (by decide)) rfl (pa_cons (pe_m0 D_Outgoing_state c_Outgoing (hr.mono (by decide)) (pv 2) ) (pa_cons (pv 9) pa_nil))))))))
    (pss_one (ps_ret pe_bl))
    pss_nil)))
    (pss_cons (ps_set (i := 8) sc_law.nd rfl (Or.inl rfl) (pe_h D_law_pick (hr.mono (by decide)) rfl (pa_cons (pv 1) (pa_cons (pe_lst (pa_cons (pv 7) (pa_cons (pv 7) (pa_cons (pv 7) (pa_cons (pe_op op_sub (pe_op op_pow pe_int pe_int) pe_int) (pa_cons (pe_op op_pow pe_int pe_int) (pa_cons (pe_un un_neg pe_int) (pa_cons pe_bl (pa_cons pe_non (pa_cons (pe_tup (pa_cons pe_int pa_nil)) (pa_cons (pe_h D_law_odd (hr.mono (by decide)) rfl (pa_cons (pv 1) pa_nil)) pa_nil))))))))))) pa_nil))))
    (C8.pss_cut (ps_if (pt_val (pe_h D_law_is_within (hr.mono (by decide)) rfl (pa_cons (pv 8) (pa_cons (pe_op op_add (pv 7) pe_int) (pa_cons (pe_op op_add (pv 7) pe_int) pa_nil)))))
    (pss_one (ps_set (i := 8) sc_law.nd rfl (Or.inl rfl) (pv 7)))
    pss_nil)
    (pss_cons (ps_set (i := 9) sc_law.nd rfl (Or.inl rfl) (pe_m0 D_Incoming_state c_Incoming (hr.mono (by decide)) (pv 3) ))
    (C8.pss_cut (ps_set (i := 10) sc_law.nd rfl (Or.inl rfl) (pe_h D_law_taken (hr.mono (by decide)) rfl (pa_cons (pv 3) (pa_cons (pv 8) pa_nil))))
    (pss_one (ps_if (pt_not (pt_val (pe_h D_law_is_within (hr.mono (by decide)) rfl (pa_cons (pv 8) (pa_cons pe_int (pa_cons (pe_op op_sub (pe_op op_pow pe_int pe_int) pe_int) pa_nil))))))
    (pss_one (ps_if (PW.pt (pw_or (pt_cmpR (op_neD hr.units) (pv 10) (pe_tup (pa_cons pe_str pa_nil)) (nomark _)) (pw_or1 (pt_not (pt_val (pe_h D_law_same (hr.mono (by decide)) rfl (pa_cons (pe_m0 D_Incoming_state c_Incoming (hr.mono (by decide)) (pv 3) ) (pa_cons (pv 9) pa_nil))))))))
    (pss_one (ps_ret pe_bl))
    pss_nil))
    (pss_one (ps_if (pt_cmpR op_eq (pv 8) (pv 7) (nomark _))
    (pss_cons (ps_if (pt_not (pt_val (pe_h D_law_same (hr.mono (by decide)) rfl (pa_cons (pv 10) (pa_cons (pe_tup (pa_cons pe_str (pa_cons (pe_lst (pa_cons (pe_tup (pa_cons pe_str (pa_cons (pv 8) pa_nil))) pa_nil)) pa_nil))) pa_nil)))))
    (pss_one (ps_ret pe_bl))
    pss_nil)
    (pss_one (ps_set (i := 7) sc_law.nd rfl (Or.inl rfl) (pe_op op_add (pv 7) pe_int))))
    (pss_one (ps_if (pt_cmpR (op_neD hr.units) (pv 10) (pe_tup (pa_cons pe_str (pa_cons (pe_lst pa_nil) pa_nil))) (nomark _))
    (pss_one (ps_ret pe_bl))
    pss_nil)))))))))))))))
    (pss_one (ps_ret (pe_and (pe_h D_law_same (hr.mono (by decide)) rfl (pa_cons (pe_m0 D_Outgoing_many_put c_Outgoing (hr.mono (by decide)) (pv 2) ) (pa_cons (pv 4) pa_nil))) (pe_one (pe_h D_law_same (hr.mono (by decide)) rfl (pa_cons (pe_m0 D_Incoming_taken c_Incoming (hr.mono (by decide)) (pv 3) ) (pa_cons (pv 7) pa_nil))))))))))))))), ?_⟩
  refine ⟨_, rfl, a, ns, rfl, hS, by omega, fun h l0 H1 nh nl0 s1 ho1 => ?_⟩
  -- the two ends
  refine fun p dx np ndx nep => ⟨p, dx, rfl, upd_same, fun l H2 nlp hl o2 k2 => ⟨rfl, ?_⟩⟩
  have hl1 : H1 l = none := ((same_new ndx).trans (same_new (by rw [upd_ne nep.symm]; exact np))).free hl
  have s2 : Same H1 H2 := fun b o z => by
    rw [k2 b (ne_of_none z np) (ne_of_none z hl1), upd_ne (ne_of_none z np), upd_ne (ne_of_none z ndx)]
    exact z
  refine fun q dy nq ndy neq => ⟨q, dy, rfl, upd_same, fun e H3 neq2 he o3 k3 => ⟨rfl, ?_⟩⟩
  have he1 : H2 e = none := ((same_new ndy).trans (same_new (by rw [upd_ne neq.symm]; exact nq))).free he
  have s3 : Same H2 H3 := fun b o z => by
    rw [k3 b (ne_of_none z nq) (ne_of_none z he1), upd_ne (ne_of_none z nq), upd_ne (ne_of_none z ndy)]
    exact z
  have ho3 : HandOk H3 h l0 := ho1.same (s2.trans s3)
  have S3 : S9 CO CI H3 h l0 p l q e 0 0 0 := ⟨ho3, ho1.ne hl1, ho1.ne0 hl1, ⟨[], o2.same s3, .nil⟩, o3, Int.le_refl 0, Int.le_refl 0, by decide⟩
  refine ⟨_, rfl, h, l0, 9, rfl, ho3, by decide, by decide, fun m H4 m0 m9 ho4 k4 => ?_⟩
  have S4 := S3.kh ho4 (Kp.hand k4)
  refine ⟨_, rfl, m, rfl, by omega, by omega, for_range (lo := 0) (n := m.toNat) (fun i σ H => ∃ v5, σ = [some (.ref a), some (.ref h), some (.ref p), some (.ref q), some (.int m), v5, none, none, none, none, none] ∧ S9 CO CI H h l0 p l q e (i : Int) 0 0)
    ⟨none, rfl, S4⟩ ?_ ?_⟩
  · rintro i σ H5 hi ⟨v5, rfl, S5⟩
    obtain ⟨xs, ⟨⟨dx5, hp5⟩, hl5⟩, r5⟩ := S5.xs
    have len5 := S5.len r5
    refine ⟨_, rfl, p, dx5, _, rfl, hp5, outF_no (by decide +kernel) (by decide +kernel), _, rfl, (by show 2 ≤ sizeLine; decide), fun T nT => ?_⟩
    have sT := same_new (o := .tup [.str "thing", .int (0 + (i : Int))]) nT
    have S6 := S5.same sT
    refine ⟨p, l, 0, xs, .ref T, rfl, ⟨⟨dx5, sT _ _ hp5⟩, sT _ _ hl5⟩, by omega, fun H7 o7 k7 => ⟨_, rfl, ?_⟩⟩
    obtain ⟨⟨x1, e1⟩, x2, e2⟩ := S6.ho.lst
    have kk : Kp (N9 h l0 p l q e) (upd H5 T (.tup [.str "thing", .int (0 + (i : Int))])) H7 := fun b o z n => by rw [k7 b fun y => n (.inr (.inr (.inr (.inl y))))]; exact z
    obtain ⟨n1, n2, n3, n4, n5, n6, n7, n8, n9, n10, n11⟩ := S6.hp
    obtain ⟨xh, ih, bh, sh, ch, eh, el, rh⟩ := S6.ho
    obtain ⟨⟨dy6, hq6⟩, he6⟩ := S6.en
    refine ⟨⟨xh, ih, bh, sh, ch, (k7 h S6.l1.symm).trans eh, (k7 l0 S6.l2.symm).trans el, rh⟩, S6.l1, S6.l2, ⟨_, o7, ?_⟩, ⟨⟨dy6, (k7 q n9).trans hq6⟩, (k7 e n11).trans he6⟩, Int.le_refl 0, by omega, by omega⟩
    have hd : (things ((i : Int) + 1)).drop (0 : Int).toNat = (things i).drop (0 : Int).toNat ++ [thing i] := things_more i
    show RpAll _ H7 _ ((things (((i + 1 : Nat)) : Int)).drop (0 : Int).toNat)
    rw [show (((i + 1 : Nat)) : Int) = (i : Int) + 1 by omega, hd]
    refine RpAll.app ((r5.to (Kp.of_same sT)).to kk) (.cons ((Rp.tup upd_same (S5.free nT) (.cons (.str _) (.cons ?_ .nil))).to kk) .nil)
    rw [Int.zero_add]
    exact .int _
  rintro σ H5 ⟨v5, rfl, S5⟩
  rw [show ((m.toNat : Nat) : Int) = m by omega] at S5
  refine ⟨8, rfl, by decide, by decide, for_range (lo := 0) (n := 8) (fun i σ H => ∃ (l : Addr) (g t : Int) (v5 v8 v9 v10 : Option V), σ = [some (.ref a), some (.ref h), some (.ref p), some (.ref q), some (.int m), v5, some (.int g), some (.int t), v8, v9, v10] ∧ S9 CO CI H h l0 p l q e m g t ∧ 0 ≤ t ∧ t ≤ i)
    ⟨l, 0, 0, v5, none, none, none, rfl, S5, Int.le_refl 0, Int.le_refl 0⟩ ?_ ?_⟩
  · rintro i σ H6 hi ⟨l, g, t, v5, v8, v9, v10, rfl, S6, t0, t8⟩
    -- a number for the outgoing end
    refine ⟨_, rfl, _, rfl, _, rfl, _, _, rfl, rfl, h, l0, _, rfl, S6.ho, by omega, by omega, fun r H7 r0 r1 ho7 k7 => ?_⟩
    have S7 := S6.kh ho7 (Kp.hand k7)
    refine ⟨_, rfl, _, rfl, _, _, rfl, rfl, _, rfl, _, rfl, h, l0, rfl, ho7, fun v d H8 _ rv ho8 k8 => ?_⟩
    have S8 := S7.kh ho8 k8
    refine ⟨_, _, rfl, rfl, ⟨by decide, by decide, by decide⟩, ⟨(by show 9 ≤ sizeLine; decide), fun L nL => ?_⟩⟩
    have s9 := same_new (o := .lst [.int r, .int m, .int (m + 1), .int (-1), .bl true, .non, .str "0", v, .int (10 ^ (19 : Int).toNat)]) nL
    have S9' := S8.same s9
    refine ⟨h, l0, L, _, rfl, S9'.ho, upd_same, ho8.ne nL, (by show 0 < 9; decide), (by show 9 < 1073741824; decide), fun w H10 hw ho10 k10 => ?_⟩
    have S10 := S9'.kh ho10 (Kp.hand k10)
    obtain ⟨d1, rw8⟩ := rp_mem (N := Nh h) (H := H8) (ds := [.int r, .int m, .int (m + 1), .int (-1), .bool true, .none, .str "0", d, .int (10 ^ (19 : Int).toNat)])
      (.cons (.int _) (.cons (.int _) (.cons (.int _) (.cons (.int _) (.cons (.bl _) (.cons .non (.cons (.str _) (.cons rv (.cons (.int _) .nil))))))))) hw
    have rw10 : Rp (Nh h) H10 w d1 := (rw8.to (Kp.of_same s9)).to (Kp.hand k10)
    -- its state, what it tells
    obtain ⟨xs, o10, r10⟩ := S10.xs
    have len10 := S10.len r10
    obtain ⟨⟨dx10, hp10⟩, hl10⟩ := id o10
    refine ⟨_, rfl, p, dx10, _, rfl, hp10, outF_no (by decide +kernel) (by decide +kernel), p, l, g, xs, rfl, o10, fun T T1 H11 nT nT1 s11 hT hT1 => ?_⟩
    have S11 := S10.same s11
    have rT : Rp (N9 h l0 p l q e) H11 (.ref T) (.tuple [.int g, .tuple ((things m).drop g.toNat)]) :=
      .tup hT (S10.free nT) (.cons (.int g) (.cons (.tup hT1 (S10.free nT1) (r10.to (Kp.of_same s11))) .nil))
    have hbw : below (g + xs.length + 1) d1 = within d1 0 m := by
      rw [len10, show g + (m - g) + 1 = m + 1 by omega]
      exact below_within m d1
    refine ⟨fun σ H' => ∃ (l' : Addr) (g' : Int) (v5 : Option V) (w : V) (T T2 : Addr), σ = [some (.ref a), some (.ref h), some (.ref p), some (.ref q), some (.int m), v5, some (.int g), some (.int t), some w, some (.ref T), some (.ref T2)] ∧
      S9 CO CI H' h l0 p l' q e m g' t ∧ ((∃ (N : Addr → Prop) (d : PyData), Rp N H' w d ∧ within d 0 m = false ∧ g' = g ∧ H' T2 = some (.tup [.str "NoNumber"]) ∧ Rp (fun _ => False) H' (.ref T) (.tuple [.int g, .tuple ((things m).drop g.toNat)])) ∨
        (∃ i, w = .int i ∧ 0 ≤ i ∧ i ≤ m ∧ g' = g + outMany g i ∧ H' T2 = some (.tup [.str "told", .int (outMany g i)]))), ?_, ?_⟩
    · refine ⟨_, rfl, _, rfl, p, l, g, xs, Nh h, w, d1, rfl, o10.same s11, rw10.to (Kp.of_same s11), S10.g0, fun eb T2 nT2 => ?_, fun i ei eb m' T2 H12 nm nT2 nmT o12 hT2 k12 => ?_⟩
      · rw [hbw] at eb
        have s12 := same_new (o := .tup [.str "NoNumber"]) nT2
        refine ⟨l, g, _, w, T, T2, rfl, S11.same s12, .inl ⟨_, d1, (rw10.to (Kp.of_same s11)).to (Kp.of_same s12), eb, rfl, upd_same, ?_⟩⟩
        exact (rT.kp (N' := fun _ => False) (Kp.of_same s12) fun _ _ _ _ z => z)
      · rw [hbw] at eb
        obtain ⟨j, rfl, j0, j1⟩ := within_some eb
        have eij : j = i := by simpa [intOf] using ei
        subst eij
        cases rw10
        obtain ⟨n1, n2, n3, n4, n5, n6, n7, n8, n9, n10, n11⟩ := S11.hp
        obtain ⟨xh, ih, bh, sh, ch, eh, el, rh⟩ := S11.ho
        obtain ⟨⟨dy11, hq11⟩, he11⟩ := S11.en
        have fm := S11.free nm
        have fT := S11.free nT2
        have kp12 : ∀ b o, H11 b = some o → b ≠ p → H12 b = some o := fun b o z n => by rw [k12 b n (ne_of_none z nm) (ne_of_none z nT2)]; exact z
        have npq : q ≠ p := by
          intro z
          obtain ⟨⟨_, z1⟩, _⟩ := S11.en
          obtain ⟨_, ⟨⟨_, z2⟩, _⟩, _⟩ := S11.xs
          rw [z] at z1
          rw [z1] at z2
          injection z2 with z2
          injection z2 with _ _ z3
          have z4 := congrArg (fun fs => List.lookup ("due" : Str) fs) z3
          simp only [inF_d, outF_no (m := ("due" : Str)) (by decide +kernel) (by decide +kernel)] at z4
          exact nomatch z4
        refine ⟨m', g + outMany g j, _, .int j, T, T2, rfl, ⟨⟨xh, ih, bh, sh, ch, kp12 _ _ eh n1.symm, kp12 _ _ el n2.symm, rh⟩, fun z => fm (.inl z), fun z => fm (.inr (.inl z)), ⟨_, o12, ?_⟩, ⟨⟨dy11, kp12 _ _ hq11 npq⟩, kp12 _ _ he11 n8.symm⟩, ?_, ?_, S11.m1⟩, .inr ⟨j, rfl, j0, j1, rfl, hT2⟩⟩
        · rw [← things_drop S10.g0]
          refine RpAll.drop _ ((r10.to (Kp.of_same s11)).kp (N' := N9 h l0 p m' q e) (H' := H12) (fun b o z n => kp12 b o z fun y => n (.inr (.inr (.inl y)))) fun b o z n => ?_)
          rintro (y | y | y | y | y | y)
          · exact n (.inl y)
          · exact n (.inr (.inl y))
          · exact n (.inr (.inr (.inl y)))
          · rw [y] at z
            rw [z] at nm
            exact nomatch nm
          · exact n (.inr (.inr (.inr (.inr (.inl y)))))
          · exact n (.inr (.inr (.inr (.inr (.inr y)))))
        · have z1 := outMany_nn g j
          have z2 := S10.g0
          omega
        · have z2 := S10.g1
          unfold outMany
          split <;> omega
    rintro σ H12 ⟨l', g', v5', w', T', T2, rfl, S12, hw12⟩
    -- right or refused: as it is due
    refine ⟨fun σ H' => ∃ (v5 v8 v9 v10 : Option V), σ = [some (.ref a), some (.ref h), some (.ref p), some (.ref q), some (.int m), v5, some (.int g'), some (.int t), v8, v9, v10] ∧ S9 CO CI H' h l0 p l' q e m g' t, ?_, ?_⟩
    · rcases hw12 with ⟨N, d, rw, ew, rfl, hT2, rT2⟩ | ⟨j, rfl, j0, j1, rfl, hT2⟩
      · refine ⟨_, rfl, _, rfl, N, w', d, 0, m, rfl, rw, _, rfl, ?_⟩
        refine ifF ew ?_
        refine ⟨_, rfl, (by show 1 ≤ sizeLine; decide), fun T3 nT3 => ?_⟩
        have s13 := same_new (o := .tup [.str "NoNumber"]) nT3
        refine ne_same (N := fun _ => False) (N' := fun _ => False) (d := .tuple [.str "NoNumber"]) (.tup (s13 _ _ hT2) id (.cons (.str _) .nil)) (.tup upd_same id (.cons (.str _) .nil)) (by decide +kernel) (by decide +kernel) ⟨_, rfl, ?_⟩
        refine ifF rfl ?_
        have S13 := S12.same s13
        obtain ⟨xs3, o13, r13⟩ := S13.xs
        obtain ⟨⟨dx13, hp13⟩, hl13⟩ := id o13
        refine ⟨_, rfl, p, dx13, _, rfl, hp13, outF_no (by decide +kernel) (by decide +kernel), p, l', g', xs3, rfl, o13, fun U U1 H14 nU nU1 s14 hU hU1 => ?_⟩
        refine ⟨_, rfl, N9 h l0 p l' q e, fun _ => False, _, _, .tuple [.int g', .tuple ((things m).drop g'.toNat)], rfl, .tup hU (S13.free nU) (.cons (.int g') (.cons (.tup hU1 (S13.free nU1) (r13.to (Kp.of_same s14))) .nil)), (rT2.to (Kp.of_same s13)).to (Kp.of_same s14), state_depth, state_lay, fun H15 s15 => ?_⟩
        exact ⟨_, rfl, ifF rfl ⟨_, _, _, _, rfl, (S13.same s14).same s15⟩⟩
      · refine ⟨_, rfl, _, rfl, fun _ => False, _, .int j, 0, m, rfl, .int j, _, rfl, ?_⟩
        have ew : within (.int j) 0 m = true := by
          show (decide (0 ≤ j) && decide (j ≤ m)) = true
          rw [decide_eq_true j0, decide_eq_true j1]
          rfl
        refine ifT ew ?_
        refine ⟨_, rfl, _, rfl, _, rfl, _, _, rfl, rfl, _, _, rfl, ⟨(by show 2 ≤ sizeLine; decide), fun T3 nT3 => ?_⟩⟩
        have s13 := same_new (o := .tup [.str "told", .int (outMany g j)]) nT3
        refine ⟨fun _ => False, fun _ => False, _, _, .tuple [.str "told", .int (outMany g j)], rfl, .tup (s13 _ _ hT2) id (.cons (.str _) (.cons (.int _) .nil)), .tup upd_same id (.cons (.str _) (.cons (.int _) .nil)), (by show max 0 (max 0 0) + 1 ≤ 3; decide), (by show (PyData.canLay0 (.str "told") && (true && true)) = true; decide +kernel), fun H14 s14 => ?_⟩
        refine ⟨_, rfl, ifF rfl ?_⟩
        refine ⟨_, rfl, _, rfl, _, _, rfl, ?_⟩
        have eg : (if j > g then j else g) = g + outMany g j := by
          unfold outMany
          split <;> split <;> omega
        refine ⟨v5', some (.int j), some (.ref T'), some (.ref T2), ?_, (S12.same s13).same s14⟩
        show [some (.ref a), some (.ref h), some (.ref p), some (.ref q), some (.int m), v5', some (V.int (if j > g then j else g)), some (.int t), some (.int j), some (.ref T'), some (.ref T2)] = _
        rw [eg]
    rintro σ H15 ⟨v5, v8, v9, v10, rfl, S15⟩
    -- a number for the incoming end
    refine ⟨_, rfl, _, rfl, _, rfl, _, rfl, _, _, rfl, rfl, ⟨by decide, by decide, by decide⟩, _, _, rfl, rfl, _, _, rfl, rfl, ⟨by decide, by decide, by decide⟩, _, rfl, (by show 1 ≤ sizeLine; decide), fun Z nZ => ?_⟩
    have sZ := same_new (o := .tup [.int 0]) nZ
    have S16 := S15.same sZ
    refine ⟨_, rfl, h, l0, rfl, S16.ho, fun v2 d2 H17 _ rv2 ho17 k17 => ?_⟩
    have S17 := S16.kh ho17 k17
    refine ⟨(by show 10 ≤ sizeLine; decide), fun L2 nL2 => ?_⟩
    have s18 := same_new (o := .lst [.int t, .int t, .int t, .int (2 ^ (32 : Int).toNat - 1), .int (2 ^ (32 : Int).toNat), .int (-1), .bl false, .non, .ref Z, v2]) nL2
    have S18 := S17.same s18
    refine ⟨h, l0, L2, _, rfl, S18.ho, upd_same, ho17.ne nL2, (by show 0 < 10; decide), (by show 10 < 1073741824; decide), fun w2 H19 hw2 ho19 k19 => ?_⟩
    have S19 := S18.kh ho19 (Kp.hand k19)
    obtain ⟨d3, rw17⟩ := rp_mem (N := Nh h) (H := H17) (ds := [.int t, .int t, .int t, .int (2 ^ (32 : Int).toNat - 1), .int (2 ^ (32 : Int).toNat), .int (-1), .bool false, .none, .tuple [.int 0], d2])
      (.cons (.int _) (.cons (.int _) (.cons (.int _) (.cons (.int _) (.cons (.int _) (.cons (.int _) (.cons (.bl _) (.cons .non (.cons ((Rp.tup (N := Nh h) (H := upd H15 Z (.tup [.int 0])) upd_same (S15.ho.ne nZ) (rI1 0)).to k17) (.cons rv2 .nil)))))))))) hw2
    have rw19 : Rp (Nh h) H19 w2 d3 := (rw17.to (Kp.of_same s18)).to (Kp.hand k19)
    -- not one that would be held
    refine ⟨fun σ H' => ∃ (v5 v9 v10 : Option V) (w : V) (d : PyData), σ = [some (.ref a), some (.ref h), some (.ref p), some (.ref q), some (.int m), v5, some (.int g'), some (.int t), some w, v9, v10] ∧ S9 CO CI H' h l0 p l' q e m g' t ∧ Rp (Nh h) H' w d ∧ within d (t + 1) (t + 999) = false, ?_, ?_⟩
    · refine ⟨_, rfl, _, rfl, _, _, rfl, rfl, _, rfl, _, _, rfl, rfl, Nh h, w2, d3, _, _, rfl, rw19, _, rfl, ?_⟩
      cases ew : within d3 (t + 1) (t + 999) with
      | true =>
        refine ifT rfl ⟨_, rfl, _, _, _, _, .int t, rfl, S19, .int t, ?_⟩
        show (decide (t + 1 ≤ t) && decide (t ≤ t + 999)) = false
        rw [decide_eq_false (by omega)]
        rfl
      | false => exact ifF rfl ⟨_, _, _, w2, d3, rfl, S19, rw19, ew⟩
    rintro σ H20 ⟨v5, v9, v10, w3, d4, rfl, S20, rw20, ew⟩
    obtain ⟨⟨dy20, hq20⟩, he20⟩ := S20.en
    refine ⟨_, rfl, q, dy20, _, rfl, hq20, inF_no (by decide +kernel) (by decide +kernel), q, e, t, rfl, S20.en, fun T T1 H21 nT nT1 s21 hT hT1 => ?_⟩
    have S21 := S20.same s21
    have rT : Rp (fun _ => False) H21 (.ref T) (.tuple [.int t, .tuple []]) := .tup hT id (.cons (.int t) (.cons (.tup hT1 id .nil) .nil))
    have rw21 := rw20.to (Kp.of_same s21)
    refine ⟨fun σ H' => ∃ (t' : Int) (v5 : Option V) (w : V) (T T2 : Addr), σ = [some (.ref a), some (.ref h), some (.ref p), some (.ref q), some (.int m), v5, some (.int g'), some (.int t), some w, some (.ref T), some (.ref T2)] ∧
      S9 CO CI H' h l0 p l' q e m g' t' ∧ ((∃ (N : Addr → Prop) (d : PyData), Rp N H' w d ∧ within d 0 4294967295 = false ∧ t' = t ∧ H' T2 = some (.tup [.str "NoNumber"]) ∧ Rp (fun _ => False) H' (.ref T) (.tuple [.int t, .tuple []])) ∨
        (∃ i x lx, w = .int i ∧ within (.int i) 0 4294967295 = true ∧ H' T2 = some (.tup [.str "told", .ref lx]) ∧ ((i = t ∧ t' = t + 1 ∧ H' lx = some (.lst [.ref x]) ∧ H' x = some (.tup [.str "x", .int i])) ∨ (i ≠ t ∧ t' = t ∧ H' lx = some (.lst []))))), ?_, ?_⟩
    · have hbw : below 4294967296 d4 = within d4 0 4294967295 := below_within 4294967295 d4
      refine ⟨_, rfl, _, rfl, q, e, t, Nh h, w3, d4, rfl, S21.en, rw21, fun eb T2 U2 H22 nT2 s22 hT2 => ?_, fun j ej eb x lx T2 H22 nx nlx nT2 en22 hx hlx hT2 k22 => ?_⟩
      · rw [hbw] at eb
        exact ⟨t, _, w3, T, T2, rfl, S21.same s22, .inl ⟨_, d4, rw21.to (Kp.of_same s22), eb, rfl, hT2, rT.to (Kp.of_same s22)⟩⟩
      · rw [hbw] at eb
        have ed : d4 = .int j := by cases d4 <;> simp_all [intOf]
        subst ed
        cases rw21
        obtain ⟨n1, n2, n3, n4, n5, n6, n7, n8, n9, n10, n11⟩ := S21.hp
        obtain ⟨xh, ih, bh, sh, ch, eh, el, rh⟩ := S21.ho
        obtain ⟨xs21, ⟨⟨dx21, hp21⟩, hl21⟩, r21⟩ := S21.xs
        have kp22 : ∀ b o, H21 b = some o → b ≠ q → b ≠ e → H22 b = some o := fun b o z z1 z2 => by rw [k22 b z1 z2 (by rw [z]; simp)]; exact z
        have npq : p ≠ q := by
          intro z
          obtain ⟨⟨_, z1⟩, _⟩ := S21.en
          rw [← z, hp21] at z1
          injection z1 with z2
          injection z2 with _ _ z3
          have z4 := congrArg (fun fs => List.lookup ("due" : Str) fs) z3
          simp only [inF_d, outF_no (m := ("due" : Str)) (by decide +kernel) (by decide +kernel)] at z4
          exact nomatch z4
        have S22 : ∀ t', EndAt CI H22 q e t' [] → S9 CO CI H22 h l0 p l' q e m g' t' := fun t' en =>
          ⟨⟨xh, ih, bh, sh, ch, kp22 _ _ eh n3.symm n5.symm, kp22 _ _ el n4.symm n6.symm, rh⟩, S21.l1, S21.l2, ⟨xs21, ⟨⟨dx21, kp22 _ _ hp21 npq n8⟩, kp22 _ _ hl21 n9.symm n11.symm⟩, r21.to fun b o z n => kp22 b o z (fun y => n (.inr (.inr (.inr (.inr (.inl y)))))) fun y => n (.inr (.inr (.inr (.inr (.inr y)))))⟩, en, S21.g0, S21.g1, S21.m1⟩
        by_cases c : j = t
        · subst c
          rw [drained_hit] at en22 hlx
          exact ⟨j + 1, _, .int j, T, T2, rfl, S22 _ en22, .inr ⟨j, x, lx, rfl, eb, hT2, .inl ⟨rfl, rfl, hlx, hx⟩⟩⟩
        · have miss : ¬ (t ≤ j ∧ j < t + 1000) := fun z => by
            have y : within (.int j) (t + 1) (t + 999) = true := by
              show (decide (t + 1 ≤ j) && decide (j ≤ t + 999)) = true
              rw [decide_eq_true (by omega : t + 1 ≤ j), decide_eq_true (by omega : j ≤ t + 999)]
              rfl
            rw [ew] at y
            exact nomatch y
          rw [drained_miss miss] at en22 hlx
          exact ⟨t, _, .int j, T, T2, rfl, S22 _ en22, .inr ⟨j, x, lx, rfl, eb, hT2, .inr ⟨c, rfl, hlx⟩⟩⟩
    rintro σ H22 ⟨t', v5, w4, T3, T4, rfl, S22, hw22⟩
    refine ⟨_, rfl, _, _, rfl, rfl, ⟨by decide, by decide, by decide⟩, _, _, rfl, rfl, ?_⟩
    rcases hw22 with ⟨N, d, rw, e1, rfl, hT2, rT2⟩ | ⟨j, x, lx, rfl, e1, hT2, hj⟩
    · refine ⟨N, w4, d, _, _, rfl, rw, _, rfl, ifT (by
        show (!within d 0 4294967295) = true
        rw [e1]
        rfl) ?_⟩
      refine ⟨_, rfl, (by show 1 ≤ sizeLine; decide), fun T5 nT5 => ?_⟩
      have s23 := same_new (o := .tup [.str "NoNumber"]) nT5
      refine ne_same (N := fun _ => False) (N' := fun _ => False) (d := .tuple [.str "NoNumber"]) (.tup (s23 _ _ hT2) id (.cons (.str _) .nil)) (.tup upd_same id (.cons (.str _) .nil)) (by decide +kernel) (by decide +kernel) ⟨_, rfl, ?_⟩
      refine ifF rfl ?_
      have S23 := S22.same s23
      obtain ⟨⟨dy23, hq23⟩, he23⟩ := S23.en
      refine ⟨_, rfl, q, dy23, _, rfl, hq23, inF_no (by decide +kernel) (by decide +kernel), q, e, t', rfl, S23.en, fun U U1 H24 nU nU1 s24 hU hU1 => ?_⟩
      refine ⟨_, rfl, fun _ => False, fun _ => False, _, _, .tuple [.int t', .tuple []], rfl, .tup hU id (.cons (.int t') (.cons (.tup hU1 id .nil) .nil)), (rT2.to (Kp.of_same s23)).to (Kp.of_same s24), (by show max 0 (max (0 + 1) 0) + 1 ≤ 3; decide), rfl, fun H25 s25 => ?_⟩
      exact ⟨_, rfl, ifF rfl ⟨l', g', t', _, _, _, _, rfl, (S23.same s24).same s25, t0, by omega⟩⟩
    · refine ⟨fun _ => False, _, .int j, _, _, rfl, .int j, _, rfl, ifF (by
        show (!within (.int j) 0 4294967295) = false
        rw [e1]
        rfl) ?_⟩
      refine ⟨_, rfl, _, rfl, rfl, _, rfl, ?_⟩
      rcases hj with ⟨rfl, rfl, hlx, hx⟩ | ⟨hne, rfl, hlx⟩
      · refine ifT (by simp) ?_
        refine ⟨_, rfl, _, rfl, (by show 2 ≤ sizeLine; decide), fun T5 nT5 => ⟨(by show 1 ≤ sizeLine; decide), fun L5 nL5 => ⟨(by show 2 ≤ sizeLine; decide), fun T6 nT6 => ?_⟩⟩⟩
        have s23 := same_new (o := .tup [.str "x", .int j]) nT5
        have s24 := same_new (o := .lst [.ref T5]) nL5
        have s25 := same_new (o := .tup [.str "told", .ref L5]) nT6
        have s26 := s23.trans (s24.trans s25)
        refine ⟨fun _ => False, fun _ => False, _, _, .tuple [.str "told", .list [.tuple [.str "x", .int j]]], rfl,
          .tup (s26 _ _ hT2) id (.cons (.str _) (.cons (.lst (s26 _ _ hlx) id (.cons (.tup (s26 _ _ hx) id (.cons (.str _) (.cons (.int _) .nil))) .nil)) .nil)),
          .tup upd_same id (.cons (.str _) (.cons (.lst (s25 _ _ upd_same) id (.cons (.tup ((s24.trans s25) _ _ upd_same) id (.cons (.str _) (.cons (.int _) .nil))) .nil)) .nil)),
          (by show max 0 (max (max (max 0 (max 0 0) + 1) 0 + 1) 0) + 1 ≤ 3; decide), (by show (PyData.canLay0 (.str "told") && ((((PyData.canLay0 (.str "x") && (true && true)) && true) && true))) = true; decide +kernel), fun H27 s27 => ?_⟩
        refine ⟨_, rfl, ifF rfl ?_⟩
        refine ⟨_, rfl, _, _, rfl, rfl, ?_⟩
        exact ⟨l', g', j + 1, _, _, _, _, rfl, (S22.same s26).same s27, by omega, by omega⟩
      · refine ifF (by simpa using hne) ?_
        refine ⟨_, rfl, (by show 0 ≤ sizeLine; decide), fun L5 nL5 => ⟨(by show 2 ≤ sizeLine; decide), fun T6 nT6 => ?_⟩⟩
        have s24 := same_new (o := .lst []) nL5
        have s25 := same_new (o := .tup [.str "told", .ref L5]) nT6
        have s26 := s24.trans s25
        refine ne_same (N := fun _ => False) (N' := fun _ => False) (d := .tuple [.str "told", .list []]) (.tup (s26 _ _ hT2) id (.cons (.str _) (.cons (.lst (s26 _ _ hlx) id .nil) .nil))) (.tup upd_same id (.cons (.str _) (.cons (.lst (s25 _ _ upd_same) id .nil) .nil))) (by decide +kernel) (by decide +kernel) ⟨_, rfl, ifF rfl ?_⟩
        exact ⟨l', g', t', _, _, _, _, rfl, S22.same s26, t0, by omega⟩
  · rintro σ H6 ⟨l, g, t, v5, v8, v9, v10, rfl, S6, t0, t8⟩
    obtain ⟨xs, o6, r6⟩ := S6.xs
    have len6 := S6.len r6
    obtain ⟨⟨dx6, hp6⟩, hl6⟩ := id o6
    obtain ⟨⟨dy6, hq6⟩, he6⟩ := id S6.en
    refine ⟨_, rfl, p, dx6, _, rfl, hp6, outF_no (by decide +kernel) (by decide +kernel), p, l, g, xs, rfl, o6, _, rfl, fun _ => False, fun _ => False, _, _, .int m, rfl, ?_, .int m, Nat.zero_le _, rfl, fun H7 s7 => ⟨_, rfl, ifT rfl ?_⟩⟩
    · rw [len6, show g + (m - g) = m by omega]
      exact .int m
    · refine ⟨_, rfl, q, dy6, _, rfl, s7 _ _ hq6, inF_no (by decide +kernel) (by decide +kernel), q, e, t, [], rfl, S6.en.same s7, _, rfl, fun _ => False, fun _ => False, _, _, .int t, rfl, .int t, .int t, Nat.zero_le _, rfl, fun H8 s8 => ?_⟩
      exact kQ H8
end
end KQ
set_option Elab.async false
set_option maxRecDepth 100000
set_option maxHeartbeats 4000000
namespace KQ
open PySem PySem.Spec PyProof.Rows L2
theorem fin {P : Program} {w : World} {K : PySem.W.Frag} {mg : Str → Option Value} {h : Heap} {fa : Addr} {CO CI CN : Addr} {tH : Tok} (X : K.In h) (G : h.Ns mainGlobals mg) (hfa : mg "law" = some (.ref fa)) (B : Bi mg)
    (aN : ExcAt K mg "NoNumber" CN) (gN : ∃ t, mg "NUMBERS" = some (.int 4294967296 t)) (gH : PySem.W.nsIn K mainGlobals "HELD_AHEAD" = some (some (.int 1000 tH)))
    (F1 : FunAt K mg "is_number" s_is_number) (F2 : FunAt K mg "is_below" s_is_below)
    (O0 : InitAt K mg "Outgoing" CO "Outgoing.__init__" s_Outgoing___init__) (cO : Cls K CO) (O1 : MethAt K CO "put" "Outgoing.put" s_Outgoing_put) (O2 : MethAt K CO "known" "Outgoing.known" s_Outgoing_known) (O3 : MethAt K CO "many_put" "Outgoing.many_put" s_Outgoing_many_put) (O4 : MethAt K CO "state" "Outgoing.state" s_Outgoing_state)
    (nO1 : NoAttr K CO "let_go") (nO2 : NoAttr K CO "things")
    (I0 : InitAt K mg "Incoming" CI "Incoming.__init__" s_Incoming___init__) (cI : Cls K CI) (I1 : MethAt K CI "take" "Incoming.take" s_Incoming_take) (I2 : MethAt K CI "taken" "Incoming.taken" s_Incoming_taken) (I3 : MethAt K CI "state" "Incoming.state" s_Incoming_state)
    (nI1 : NoAttr K CI "due") (nI2 : NoAttr K CI "early")
    (L1 : FunAt K mg "_law_hand" s_law_hand) (L2 : FunAt K mg "_law_take" s_law_take) (L3 : FunAt K mg "_law_pick" s_law_pick) (L4 : FunAt K mg "_law_is_integer" s_law_is_integer) (L5 : FunAt K mg "_law_is_within" s_law_is_within) (L6 : FunAt K mg "_law_same" s_law_same) (L7 : FunAt K mg "_law_odd" s_law_odd)
    (L8 : FunAt K mg "_law_known" s_law_known) (L9 : FunAt K mg "_law_taken" s_law_taken) (L10 : FunAt K mg "law" s_law) :
    ∃ fd : FuncData, (∀ (s : Shared) (u : Value), BindsTo s fd ⟨[u], []⟩ [("script", u)]) ∧ ∀ base : Heap, FnOk P w K mg base CX0 6 fa fd ["script"] (spLaw K) := by
  obtain ⟨f0, fd0, F0, m0⟩ := L10
  rw [hfa] at m0
  cases m0
  obtain ⟨tN', gN⟩ := gN
  have gH' := PySem.W.mg_of X G gH
  refine ⟨fd0, fun s u => ?_, fun base => ?_⟩
  · obtain ⟨oc, od, kV, doc, pm, an, cdv, ct, osl, rfl, _, _⟩ := F0.ex
    exact .of_eq rfl
  have D1 := d_law_hand (P := P) (w := w) (mg := mg) (base := base) B L1
  have D2 := d_law_take (P := P) (w := w) (mg := mg) (base := base) B L2
  have D3 := d_law_pick (P := P) (w := w) (mg := mg) (base := base) B L3 D2
  have D4 := d_law_is_integer (P := P) (w := w) (mg := mg) (base := base) B L4
  have D5 := d_law_is_within (P := P) (w := w) (mg := mg) (base := base) B L5 D4
  have D6 := d_law_same (P := P) (w := w) (mg := mg) (base := base) B L6 D4 3
  have D7 := d_law_odd (P := P) (w := w) (mg := mg) (base := base) L7 D2
  have E1 := d_is_number (P := P) (w := w) (mg := mg) (base := base) B F1
  have E2 := d_is_below (P := P) (w := w) (mg := mg) (base := base) F2 E1
  have P0 := d_out_init (P := P) (w := w) (mg := mg) (base := base) O0 cO nO1 nO2
  have P3 := d_many_put (P := P) (w := w) (mg := mg) (base := base) B O3 cO nO1 nO2
  have P1 := d_put (P := P) (w := w) (mg := mg) (base := base) B O1 cO nO1 nO2 P3
  have P2 := d_known (P := P) (w := w) (mg := mg) (base := base) B O2 cO nO1 nO2 aN P3 E2
  have P4 := d_out_state (P := P) (w := w) (mg := mg) (base := base) B O4 cO nO1 nO2
  have Q0 := d_in_init (P := P) (w := w) (mg := mg) (base := base) I0 cI nI1 nI2
  have Q1 := d_in_take (P := P) (w := w) (mg := mg) (base := base) B I1 cI nI1 nI2 aN gN gH' E2
  have Q2 := d_taken (P := P) (w := w) (mg := mg) (base := base) I2 cI nI1
  have Q3 := d_in_state (P := P) (w := w) (mg := mg) (base := base) B I3 cI nI1 nI2
  have D8 := d_law_known (P := P) (w := w) (mg := mg) (base := base) L8 cO aN P2
  have D9 := d_law_taken (P := P) (w := w) (mg := mg) (base := base) L9 cI aN Q1
  exact d_law B F0 cO cI D1 D2 D3 D5 D6 D7 P0 Q0 P1 P4 P3 Q3 Q2 D8 D9
end KQ
local macro_rules | `(tactic| walk_at "kq fun") => `(tactic| (refine' KQ.funAt_of (by assumption) (by assumption) ?a ?l ?c ?k; (case a => k_is); (case l => k_is); (case c => k_is); (case k => k_is)))
local macro_rules | `(tactic| walk_at "kq meth") => `(tactic| (refine' KQ.methAt_of ?a ?i ?l ?c ?k; (case a => k_is); (case i => k_is); (case l => k_is); (case c => k_is); (case k => k_is)))
local macro_rules | `(tactic| walk_at "kq init") => `(tactic| (refine' KQ.initAt_of (by assumption) (by assumption) ?aC ?mk ?kC ?a ?i ?l ?c ?k; (case aC => k_is); (case mk => k_is); (case kC => k_is); (case a => k_is); (case i => k_is); (case l => k_is); (case c => k_is); (case k => k_is)))
local macro_rules | `(tactic| walk_at "kq free") => `(tactic| (refine' KQ.free_of (by assumption) (by assumption) ?e; (case e => k_is)))
local macro_rules | `(tactic| walk_at "kq cls") => `(tactic| (refine' ⟨?a, ?b, ?c, ?d⟩; (case a => k_is); (case b => k_is); (case c => k_is); (case d => k_is)))
local macro_rules | `(tactic| walk_at "kq exc") => `(tactic| (refine' KQ.excAt_of (by assumption) (by assumption) ?a ?kp ?ex ?sub ?ty ?own ?isC; (case a => k_is); (case kp => k_is); (case ex => k_exc); (case sub => k_is); (case ty => k_is); (case own => first | rfl | k_is); (case isC => k_is)))
open PySem PySem.W PyProof.Rows
set_option maxRecDepth 100000 in
set_option maxHeartbeats 0 in
theorem PySem.Challenge.cw_knownquiet_k09_refusals_of_links_holds : PySem.Challenge.rw_knownquiet_k09_refusals_of_links.Holds := by
  w_on; o_law; k_head; (case hw => w_witness2)
  k_fill
  refine KQ.walkX (l := PySem.Challenge.rw_knownquiet_k09_refusals_of_links) (k := 6) (sp := KQ.spLaw) rfl rfl ⟨rfl, by decide, by decide⟩ (fun w h Y => PySem.W.kIn_of Y) ?F fun K H a ns hl hS => ⟨a, ns, rfl, hS, hl, fun _ => rfl⟩
  case F =>
    intro w mg fa h KX G hX hmg
    refine' KQ.fin KX G hmg ?B ?aN ?gN ?gH ?F1 ?F2 ?O0 ?cO ?O1 ?O2 ?O3 ?O4 ?nO1 ?nO2 ?I0 ?cI ?I1 ?I2 ?I3 ?nI1 ?nI2 ?L1 ?L2 ?L3 ?L4 ?L5 ?L6 ?L7 ?L8 ?L9 ?L10
    case B => constructor <;> walk_at "kq free"
    case aN => walk_at "kq exc"
    case gN =>
      obtain ⟨v, e, r⟩ := hX.2.val (PySem.Str.ofString "NUMBERS", WData.int 4294967296) (List.mem_cons_self)
      cases r
      exact ⟨_, e⟩
    case gH => k_is
    case F1 => walk_at "kq fun"
    case F2 => walk_at "kq fun"
    case O0 => walk_at "kq init"
    case cO => walk_at "kq cls"
    case O1 => walk_at "kq meth"
    case O2 => walk_at "kq meth"
    case O3 => walk_at "kq meth"
    case O4 => walk_at "kq meth"
    case nO1 => show PySem.W.findIn _ (.ref _) _ = some none; k_is
    case nO2 => show PySem.W.findIn _ (.ref _) _ = some none; k_is
    case I0 => walk_at "kq init"
    case cI => walk_at "kq cls"
    case I1 => walk_at "kq meth"
    case I2 => walk_at "kq meth"
    case I3 => walk_at "kq meth"
    case nI1 => show PySem.W.findIn _ (.ref _) _ = some none; k_is
    case nI2 => show PySem.W.findIn _ (.ref _) _ = some none; k_is
    case L1 => walk_at "kq fun"
    case L2 => walk_at "kq fun"
    case L3 => walk_at "kq fun"
    case L4 => walk_at "kq fun"
    case L5 => walk_at "kq fun"
    case L6 => walk_at "kq fun"
    case L7 => walk_at "kq fun"
    case L8 => walk_at "kq fun"
    case L9 => walk_at "kq fun"
    case L10 => walk_at "kq fun"
#print axioms PySem.Challenge.cw_knownquiet_k09_refusals_of_links_holds
