import PyProof.Rows.All
import Wide.All
import OpenK.AllK
import Wide.FinOn
import HandS.ForMost
import HandS.ForExc
import HandS.IsInst
import HandS.Style
import HandS.Small
import HandS.Zip
import HandS.TryMany
import HandS.Codes
import HandS.More
import KE.GoesEnumKw
import HandS.ExcInit
import HandS.ExcField
import HandS.OwnEq
import HandS.TupAny
import HandS.TupMul
import KE.KMinKey
import HandS.SortKw
import HandS.Walk
import PyProof.StrOps2
import PySem.Challenge.RW_knownquiet_k01_works_judged
set_option Elab.async false
set_option maxRecDepth 100000
set_option maxHeartbeats 4000000
/-! B0: what all our texts share: a def and its promise in one word, data as a whole, the drawing hand. -/
namespace KQ
open PySem PySem.Spec PyProof.Rows L2

/-! ### a def behind the top, a def that keeps a promise -/
def FunAt (K : PySem.W.Frag) (mg : Str → Option Value) (x : Str) (st : Stmt) : Prop := ∃ f fd, Fun K x x st f fd ∧ mg x = some (.ref f)
def Has (P : Program) (w : World) (K : PySem.W.Frag) (mg : Str → Option Value) (base : Heap) (k : Nat) (x : Str) (ps : List Str) (sp : Sp) : Prop :=
  ∃ f fd, FnOk P w K mg base CX0 k f fd ps sp ∧ mg x = some (.ref f) ∧ PySem.W.keepIn K (.ref f) = true ∧ Binds K fd ps []
/-- .. one that may raise -/
def HasX (P : Program) (w : World) (K : PySem.W.Frag) (mg : Str → Option Value) (base : Heap) (k : Nat) (x : Str) (ps : List Str) (sp : Sp) : Prop :=
  ∃ f fd, FnOk P w K mg base (L2.CX P w) k f fd ps sp ∧ mg x = some (.ref f) ∧ PySem.W.keepIn K (.ref f) = true ∧ Binds K fd ps []
abbrev BindsTo? (st : Stmt) (x : Str) (ps : List Str) : Prop :=
  ∀ (kV doc pm : Value) (an : Option Addr) (cdv ct : Value) (us : List Value), us.length = ps.length → bindArgs (PySem.W.fnOf x x (defArgs st) (defBody st) (defScope st) .none kV doc pm an cdv ct) ⟨us, []⟩ = pure (ps.zip us)
section
variable {P : Program} {w : World} {K : PySem.W.Frag} {mg : Str → Option Value} {base : Heap}
theorem mk_has {x : Str} {st : Stmt} {N ps : List Str} {k : Nat} {sp : Sp} (F : FunAt K mg x st) (S : FnScope N ps (defScope st)) (hb : BindsTo? st x ps) (len : ∀ vs H Q E, sp vs H Q E → vs.length = ps.length)
    (body : ∀ (f : Addr) (cdv : Value) (A : Around) (outer : List Env) (s : Shared) (H : Hp) (vs : List V) (Q : VK) (E : XK), Room k (A.deeper (envOfC x (defScope st) s.heap.objs.size f cdv)) → sp vs H Q E →
      ∃ t, PSs (cxOf CX0 P w K mg base N x (defScope st) f cdv A outer s H E).nox (defBody st) t ∧ t { nx := fun _ H' => Q .non H', rt := Q } (start N vs) H) : Has P w K mg base (k + 1) x ps sp := by
  obtain ⟨f, fd, F, m⟩ := F
  exact ⟨f, fd, F.ok S len (fun cdv A outer s H vs Q E => body f cdv A outer s H vs Q E), m, F.kp, F.binds hb⟩
theorem mk_hasX {x : Str} {st : Stmt} {N ps : List Str} {k : Nat} {sp : Sp} (F : FunAt K mg x st) (S : FnScope N ps (defScope st)) (hb : BindsTo? st x ps) (len : ∀ vs H Q E, sp vs H Q E → vs.length = ps.length)
    (body : ∀ (f : Addr) (cdv : Value) (A : Around) (outer : List Env) (s : Shared) (H : Hp) (vs : List V) (Q : VK) (E : XK), Room k (A.deeper (envOfC x (defScope st) s.heap.objs.size f cdv)) → sp vs H Q E →
      ∃ t, PSs (cxOf (L2.CX P w) P w K mg base N x (defScope st) f cdv A outer s H E) (defBody st) t ∧ t { nx := fun _ H' => Q .non H', rt := Q } (start N vs) H) : HasX P w K mg base (k + 1) x ps sp := by
  obtain ⟨f, fd, F, m⟩ := F
  exact ⟨f, fd, F.okX S len (fun cdv A outer s H vs Q E => body f cdv A outer s H vs Q E), m, F.kp, F.binds hb⟩
theorem Has.mono {x : Str} {ps : List Str} {j k : Nat} {sp : Sp} (D : Has P w K mg base j x ps sp) (h : j ≤ k) : Has P w K mg base k x ps sp := by
  obtain ⟨f, fd, G, r⟩ := D
  exact ⟨f, fd, G.mono h, r⟩
theorem Has.imp {x : Str} {ps : List Str} {k : Nat} {sp sp' : Sp} (D : Has P w K mg base k x ps sp) (h : ∀ vs H Q E, sp' vs H Q E → sp vs H Q E) : Has P w K mg base k x ps sp' := by
  obtain ⟨f, fd, G, r⟩ := D
  exact ⟨f, fd, G.imp h, r⟩
end
section
variable {X : Cx} {k : Nat} {x : Str} {ps : List Str} {sp : Sp} {e : Expr} {es : List Expr} {p pos : Pos} {t : TA}
/-- f(e, ..), f by its promise -/
theorem pe_h (D : Has X.prog X.w X.K X.mg X.base k x ps sp) (hr : Room k X.A) (hg : Gl X x) (ha : PA X (e :: es) t) (hdb : (x == ("__debug__" : Str)) = false := by decide)
    (he : starEach (e :: es) X.env = (false, eval e X.env) :: starEach es X.env := by rfl) (hpl : (backTo pos (starEach es X.env)).any (·.1) = false := by rfl) :
    PE X (.Call (.Name x p) (e :: es) [] pos) (tCall sp [] E0 t) := by
  obtain ⟨f, fd, G, m, kp, b⟩ := D
  exact pe_call G hr hg m kp b .nil pass0 ha hdb he hpl
/-- .. one that may raise, in a try's body -/
theorem pe_hX {W : WX} (tk : Takes X W) (D : HasX X.prog X.w X.K X.mg X.base k x ps sp) (hr : Room k X.A) (hg : Gl X x) (ha : PA X (e :: es) t) (hdb : (x == ("__debug__" : Str)) = false := by decide)
    (he : starEach (e :: es) X.env = (false, eval e X.env) :: starEach es X.env := by rfl) (hpl : (backTo pos (starEach es X.env)).any (·.1) = false := by rfl) :
    PE X (.Call (.Name x p) (e :: es) [] pos) (tCallS sp (WE W) t) := by
  obtain ⟨f, fd, G, m, kp, b⟩ := D
  exact pe_callS G hr hg m kp b (passAt tk) ha hdb he hpl
end

/-! ### x is True, x is False, for any x -/
def rIsAny : R2 := fun x y H Q => ∃ b : Bool, y = .bl b ∧ Q (.bl (decide (x = .bl b))) H
theorem op_isB {X : Cx} : OpR X (compareOp .Is) rIsAny := by
  intro pins s σ H x y v u Q I rx ry h
  obtain ⟨b, rfl, q⟩ := h
  cases (show u = Value.bool b from ry)
  have fin : ∀ c : Bool, decide (x = V.bl b) = c → EP X pins σ Q (Value.bool c) s := fun c e => ⟨.bl c, H, I, rfl, by rw [← e]; exact q⟩
  cases x with
  | bl a =>
    cases (show v = Value.bool a from rx)
    by_cases e : a = b
    · subst e
      exact wpAny_is_self rfl (fin true (by simp))
    · exact wpAny_is_other rfl (fun z => e (Value.bool.inj z)) (fin false (by simp [e]))
  | non => cases (show v = Value.none from rx); exact wpAny_is_other rfl (by intro z; cases z) (fin false (by simp))
  | int i => obtain ⟨t, rfl⟩ := (show ∃ t, v = Value.int i t from rx); exact wpAny_is_other rfl (by intro z; cases z) (fin false (by simp))
  | str i => obtain ⟨t, rfl⟩ := (show ∃ t, v = Value.str i t from rx); exact wpAny_is_other rfl (by intro z; cases z) (fin false (by simp))
  | byt i => obtain ⟨t, rfl⟩ := (show ∃ t, v = Value.bytes i t from rx); exact wpAny_is_other rfl (by intro z; cases z) (fin false (by simp))
  | flt i => obtain ⟨t, rfl⟩ := (show ∃ t, v = Value.float i t from rx); exact wpAny_is_other rfl (by intro z; cases z) (fin false (by simp))
  | ref a => cases (show v = Value.ref a from rx); exact wpAny_is_other rfl (by intro z; cases z) (fin false (by simp))
  | ty n => cases (show v = Value.type n from rx); exact wpAny_is_other rfl (by intro z; cases z) (fin false (by simp))
end KQ
set_option Elab.async false
set_option maxRecDepth 100000
set_option maxHeartbeats 4000000
namespace KQ
open PySem PySem.Spec PyProof.Rows L2

/-! ### data as a whole, away from the places N that are written -/
mutual
inductive Rp (N : Addr → Prop) (H : Hp) : V → PyData → Prop
  | non : Rp N H .non .none
  | bl (b : Bool) : Rp N H (.bl b) (.bool b)
  | int (i : Int) : Rp N H (.int i) (.int i)
  | str (x : Str) : Rp N H (.str x) (.str x)
  | lst {a : Addr} {xs : List V} {ds : List PyData} : H a = some (.lst xs) → ¬ N a → RpAll N H xs ds → Rp N H (.ref a) (.list ds)
  | tup {a : Addr} {xs : List V} {ds : List PyData} : H a = some (.tup xs) → ¬ N a → RpAll N H xs ds → Rp N H (.ref a) (.tuple ds)
  | emp {a : Addr} : H a = some (.dK []) → ¬ N a → Rp N H (.ref a) (.dict [])
inductive RpAll (N : Addr → Prop) (H : Hp) : List V → List PyData → Prop
  | nil : RpAll N H [] []
  | cons {v : V} {vs : List V} {d : PyData} {ds : List PyData} : Rp N H v d → RpAll N H vs ds → RpAll N H (v :: vs) (d :: ds)
end
/-- all but what stands at N is kept -/
def Kp (N : Addr → Prop) (H H' : Hp) : Prop := ∀ a o, H a = some o → ¬ N a → H' a = some o
theorem Kp.refl {N : Addr → Prop} {H : Hp} : Kp N H H := fun _ _ e _ => e
theorem Kp.trans {N : Addr → Prop} {H H1 H2 : Hp} (a : Kp N H H1) (b : Kp N H1 H2) : Kp N H H2 := fun c o e n => b c o (a c o e n) n
theorem Kp.new {N : Addr → Prop} {H : Hp} {p : Addr} {o : HO} (h : H p = none) : Kp N H (upd H p o) := fun a u e _ => by rw [upd_ne (ne_of_none e h)]; exact e
theorem Kp.new' {N : Addr → Prop} {H0 H : Hp} {p : Addr} {o : HO} (k : Kp N H0 H) (h : H p = none) : Kp N H0 (upd H p o) := k.trans (Kp.new h)
theorem Kp.put {N : Addr → Prop} {H : Hp} {p : Addr} {o : HO} (h : N p) : Kp N H (upd H p o) := fun a u e n => by rw [upd_ne (fun z => n (by rw [z]; exact h))]; exact e
theorem Kp.put' {N : Addr → Prop} {H0 H : Hp} {p : Addr} {o : HO} (k : Kp N H0 H) (h : N p) : Kp N H0 (upd H p o) := k.trans (Kp.put h)
theorem Kp.of_same {N : Addr → Prop} {H H' : Hp} (h : Same H H') : Kp N H H' := fun a o e _ => h a o e
theorem Kp.wide {N N' : Addr → Prop} {H H' : Hp} (k : Kp N H H') (h : ∀ a, N a → N' a) : Kp N' H H' := fun a o e n => k a o e fun z => n (h a z)
/-- what is free behind was free ahead, if what is at N stays in being -/
theorem Kp.free {N : Addr → Prop} {H H' : Hp} (k : Kp N H H') (hn : ∀ a, N a → H' a ≠ none) {p : Addr} (h : H' p = none) : H p = none := by
  cases e : H p with
  | none => rfl
  | some o =>
    by_cases n : N p
    · exact absurd h (hn p n)
    · rw [k p o e n] at h; cases h
mutual
theorem Rp.kp {N N' : Addr → Prop} {H H' : Hp} (k : Kp N H H') (hN : ∀ a o, H a = some o → ¬ N a → ¬ N' a) : ∀ {v : V} {d : PyData}, Rp N H v d → Rp N' H' v d
  | _, _, .non => .non
  | _, _, .bl b => .bl b
  | _, _, .int i => .int i
  | _, _, .str x => .str x
  | _, _, .lst e n r => .lst (k _ _ e n) (hN _ _ e n) (r.kp k hN)
  | _, _, .tup e n r => .tup (k _ _ e n) (hN _ _ e n) (r.kp k hN)
  | _, _, .emp e n => .emp (k _ _ e n) (hN _ _ e n)
theorem RpAll.kp {N N' : Addr → Prop} {H H' : Hp} (k : Kp N H H') (hN : ∀ a o, H a = some o → ¬ N a → ¬ N' a) : ∀ {vs : List V} {ds : List PyData}, RpAll N H vs ds → RpAll N' H' vs ds
  | _, _, .nil => .nil
  | _, _, .cons r t => .cons (r.kp k hN) (t.kp k hN)
end
theorem Rp.to {N : Addr → Prop} {H H' : Hp} {v : V} {d : PyData} (r : Rp N H v d) (k : Kp N H H') : Rp N H' v d := r.kp k fun _ _ _ n => n
theorem RpAll.to {N : Addr → Prop} {H H' : Hp} {v : List V} {d : List PyData} (r : RpAll N H v d) (k : Kp N H H') : RpAll N H' v d := r.kp k fun _ _ _ n => n
/-- further places to be written, all new -/
theorem Rp.more {N N' : Addr → Prop} {H : Hp} {v : V} {d : PyData} (r : Rp N H v d) (h : ∀ a, N' a → N a ∨ H a = none) : Rp N' H v d :=
  r.kp Kp.refl fun a o e n z => (h a z).elim n fun q => by rw [q] at e; cases e
theorem RpAll.length {N : Addr → Prop} {H : Hp} : ∀ {vs : List V} {ds : List PyData}, RpAll N H vs ds → vs.length = ds.length
  | _, _, .nil => rfl
  | _, _, .cons _ t => congrArg (· + 1) t.length
theorem RpAll.get {N : Addr → Prop} {H : Hp} : ∀ {vs : List V} {ds : List PyData} {i : Nat} {v : V}, RpAll N H vs ds → vs[i]? = some v → ∃ d, ds[i]? = some d ∧ Rp N H v d
  | _, _, _, _, .nil, e => by simp at e
  | _, _, 0, _, .cons r _, e => by simp at e; subst e; exact ⟨_, rfl, r⟩
  | _, _, i + 1, _, .cons _ t, e => by simpa using t.get (i := i) (by simpa using e)
theorem RpAll.app {N : Addr → Prop} {H : Hp} : ∀ {vs ws : List V} {ds es : List PyData}, RpAll N H vs ds → RpAll N H ws es → RpAll N H (vs ++ ws) (ds ++ es)
  | _, _, _, _, .nil, s => s
  | _, _, _, _, .cons r t, s => .cons r (t.app s)
theorem RpAll.drop {N : Addr → Prop} {H : Hp} : ∀ {vs : List V} {ds : List PyData} (n : Nat), RpAll N H vs ds → RpAll N H (vs.drop n) (ds.drop n)
  | _, _, 0, r => r
  | _, _, _ + 1, .nil => .nil
  | _, _, n + 1, .cons _ t => RpAll.drop n t
theorem RpAll.take {N : Addr → Prop} {H : Hp} : ∀ {vs : List V} {ds : List PyData} (n : Nat), RpAll N H vs ds → RpAll N H (vs.take n) (ds.take n)
  | _, _, 0, _ => .nil
  | _, _, _ + 1, .nil => .nil
  | _, _, n + 1, .cons r t => .cons r (RpAll.take n t)
/-- the name of its type -/
def tyN : PyData → String
  | .none => "NoneType" | .bool _ => "bool" | .int _ => "int" | .str _ => "str" | .list _ => "list" | .tuple _ => "tuple" | .dict _ => "dict"
theorem Rp.ty {K : PySem.W.Frag} {N : Addr → Prop} {H : Hp} {v : V} {d : PyData} (r : Rp N H v d) : TyX K H v (.type (tyN d)) := by
  cases r with
  | non => exact .base .non
  | bl b => exact .base (.bl b)
  | int i => exact .base (.int i)
  | str x => exact .base (.str x)
  | lst e _ _ => exact .base (.lst e)
  | tup e _ _ => exact .base (.tup e)
  | emp e _ => exact .base (.dK e)
/-- is it of this kind (a flag is an int too) -/
def isT (T : String) (d : PyData) : Bool := tyN d == T || (T == "int" && tyN d == "bool")
def tyNs : List String := ["NoneType", "bool", "int", "str", "list", "tuple", "dict"]
theorem tyN_in (d : PyData) : tyN d ∈ tyNs := by cases d <;> simp [tyN, tyNs]
theorem kit_T {K : PySem.W.Frag} {T : String} (h : ∀ s ∈ tyNs, kitB s T = some (s == T || (T == "int" && s == "bool"))) (d : PyData) : PySem.W.kitOne K (.type (tyN d)) (.type T) = some (isT T d) := kit_ty (h _ (tyN_in d))
theorem kit_int {K : PySem.W.Frag} (d : PyData) : PySem.W.kitOne K (.type (tyN d)) (.type "int") = some (isT "int" d) := kit_T (by decide +kernel) d
theorem kit_bool {K : PySem.W.Frag} (d : PyData) : PySem.W.kitOne K (.type (tyN d)) (.type "bool") = some (isT "bool" d) := kit_T (by decide +kernel) d
theorem kit_str {K : PySem.W.Frag} (d : PyData) : PySem.W.kitOne K (.type (tyN d)) (.type "str") = some (isT "str" d) := kit_T (by decide +kernel) d
theorem kit_tuple {K : PySem.W.Frag} (d : PyData) : PySem.W.kitOne K (.type (tyN d)) (.type "tuple") = some (isT "tuple" d) := kit_T (by decide +kernel) d
theorem kit_list {K : PySem.W.Frag} (d : PyData) : PySem.W.kitOne K (.type (tyN d)) (.type "list") = some (isT "list" d) := kit_T (by decide +kernel) d
/-- isinstance(x, T) of a datum -/
theorem isi {K : PySem.W.Frag} {N : Addr → Prop} {H : Hp} {v : V} {d : PyData} {T : String} {Q : VK} (r : Rp N H v d) (k : PySem.W.kitOne K (.type (tyN d)) (.type T) = some (isT T d)) (q : Q (.bl (isT T d)) H) : rIsi K [v, .ty T] H Q :=
  ⟨v, .ty T, _, .type T, _, rfl, .ty T, r.ty, k, q⟩
/-- an integer, as the judges mean it -/
def intOf : PyData → Option Int
  | .int i => some i
  | _ => none
end KQ
set_option Elab.async false
set_option maxRecDepth 100000
set_option maxHeartbeats 4000000
namespace KQ
open PySem PySem.Spec PyProof.Rows L2

/-! ### an own error class without __init__: raised without arguments, caught by its name -/
section
variable {X : Cx} {C : Addr} {bmB : List Value} {B newId initId : String}
theorem pmk_bare {x : Str} {p pos : Pos} (F : ExcBaseFacts B newId initId bmB) (q : PySem.W.excIn X.K C bmB newId = true) (gC : X.mg x = some (.ref C)) (kC : PySem.W.keepIn X.K (.ref C) = true) (r : Raises X (.ref C)) (hg : Gl X x)
    (hdb : (x == ("__debug__" : Str)) = false := by decide) : PMk X (.Call (.Name x p) [] [] pos) (fun _ H Q => Q (.ref C) none H) := by
  intro pins s σ H Q I h
  refine wpAny_Call_Name_kw (ld_glob I hg gC ?_ hdb)
  refine PySem.W.callWith_K0 I.kIn kC ?_
  obtain ⟨bm, N, nm, qn, bs, hdct, sn, sub, ab, col, dd, k0, k1, k2, k3, k5, mN, hC, hN, hni, T⟩ := exc_obj I.kIn q
  obtain ⟨hp, g, d, t, os⟩ := s
  exact wpAny_call_exc_subT F T hC hN hni (rest := []) (fun h' e hm => mk_of I hm r h (I.hok.gone hm.new)) (Nat.zero_le _)
end
/-- what the written part says of such a class -/
structure ExcAt (K : PySem.W.Frag) (mg : Str → Option Value) (x : Str) (C : Addr) : Prop where
  g : mg x = some (.ref C)
  kp : PySem.W.keepIn K (.ref C) = true
  ex : PySem.W.excIn K C [.type "ValueError", .type "Exception", .type "BaseException", .type "object"] "ValueError.__new__" = true
  sub : PySem.W.subIn K (.ref C) (.type "BaseException") = some true
  ty : PySem.W.typeIn K (.ref C) = some (.type "type")
  own : PySem.W.subIn K (.ref C) (.ref C) = some true
  isC : PySem.W.isClsIn K C = true
theorem ExcAt.raises {X : Cx} {x : Str} {C : Addr} (T : ExcAt X.K X.mg x C) : Raises X (.ref C) := raises_own T.sub T.ty
theorem ExcAt.exm {K : PySem.W.Frag} {mg : Str → Option Value} {x : Str} {C : Addr} (T : ExcAt K mg x C) : PySem.W.exmOne K (.ref C) (.ref C) = some true := by
  unfold PySem.W.exmOne
  have e1 : (PySem.W.clsIn K C).isSome = true := T.isC
  simp [T.sub, PySem.W.kitCls, T.own, T.ty, e1]
theorem pmk_x {X : Cx} {x : Str} {C : Addr} {p pos : Pos} (T : ExcAt X.K X.mg x C) (hg : Gl X x) (hdb : (x == ("__debug__" : Str)) = false := by decide) : PMk X (.Call (.Name x p) [] [] pos) (fun _ H Q => Q (.ref C) none H) :=
  pmk_bare PySem.F.excBase_ValueError T.ex T.g T.kp T.raises hg hdb
/-- raise X() in a def that may raise it -/
def tRz (E : XK) (C : Addr) : TS := fun _ _ H => E (.ref C) none H
theorem ps_rz {X : Cx} {x : Str} {C : Addr} {W : WX} {p pos pos2 : Pos} (hc : X.calm = true) (tk : Takes X W) (T : ExcAt X.K X.mg x C) (hg : Gl X x) (hdb : (x == ("__debug__" : Str)) = false := by decide) :
    PS X (.Raise (some (.Call (.Name x p) [] [] pos)) none pos2) (fun _ σ H => W (.ref C) none σ H) := ps_raise hc tk (pmk_x T hg hdb)
end KQ
set_option Elab.async false
set_option maxRecDepth 100000
set_option maxHeartbeats 4000000
namespace KQ
open PySem PySem.Spec PyProof.Rows L2
/-! ### methods by their promises -/
/-- a method of the class at C as the top has left it -/
def MethAt (K : PySem.W.Frag) (C : Addr) (m qual : Str) (st : Stmt) : Prop := ∃ f fd, Fun K m qual st f fd ∧ Meth K C m f
def HasM (P : Program) (w : World) (K : PySem.W.Frag) (mg : Str → Option Value) (base : Heap) (k : Nat) (C : Addr) (m : Str) (ps : List Str) (sp : Sp) : Prop :=
  ∃ f fd, FnOk P w K mg base CX0 k f fd ps sp ∧ Meth K C m f ∧ Binds K fd ps []
def HasMX (P : Program) (w : World) (K : PySem.W.Frag) (mg : Str → Option Value) (base : Heap) (k : Nat) (C : Addr) (m : Str) (ps : List Str) (sp : Sp) : Prop :=
  ∃ f fd, FnOk P w K mg base (L2.CX P w) k f fd ps sp ∧ Meth K C m f ∧ Binds K fd ps []
/-- a class that is made by its own __init__ -/
def HasC (P : Program) (w : World) (K : PySem.W.Frag) (mg : Str → Option Value) (base : Heap) (k : Nat) (x : Str) (C : Addr) (ps : List Str) (sp : Sp) : Prop :=
  ∃ f fd, FnOk P w K mg base CX0 k f fd ps sp ∧ Mk K C f ∧ mg x = some (.ref C) ∧ Binds K fd ps []
def HasCX (P : Program) (w : World) (K : PySem.W.Frag) (mg : Str → Option Value) (base : Heap) (k : Nat) (x : Str) (C : Addr) (ps : List Str) (sp : Sp) : Prop :=
  ∃ f fd, FnOk P w K mg base (L2.CX P w) k f fd ps sp ∧ Mk K C f ∧ mg x = some (.ref C) ∧ Binds K fd ps []
abbrev BindsQ (st : Stmt) (x qual : Str) (ps : List Str) : Prop :=
  ∀ (kV doc pm : Value) (an : Option Addr) (cdv ct : Value) (us : List Value), us.length = ps.length → bindArgs (PySem.W.fnOf x qual (defArgs st) (defBody st) (defScope st) .none kV doc pm an cdv ct) ⟨us, []⟩ = pure (ps.zip us)
section
variable {P : Program} {w : World} {K : PySem.W.Frag} {mg : Str → Option Value} {base : Heap}
theorem mk_hasM {C : Addr} {x qual : Str} {st : Stmt} {N ps : List Str} {k : Nat} {sp : Sp} (F : MethAt K C x qual st) (S : FnScope N ps (defScope st)) (hb : BindsQ st x qual ps) (len : ∀ vs H Q E, sp vs H Q E → vs.length = ps.length)
    (body : ∀ (f : Addr) (cdv : Value) (A : Around) (outer : List Env) (s : Shared) (H : Hp) (vs : List V) (Q : VK) (E : XK), Room k (A.deeper (envOfC qual (defScope st) s.heap.objs.size f cdv)) → sp vs H Q E →
      ∃ t, PSs (cxOf CX0 P w K mg base N qual (defScope st) f cdv A outer s H E).nox (defBody st) t ∧ t { nx := fun _ H' => Q .non H', rt := Q } (start N vs) H) : HasM P w K mg base (k + 1) C x ps sp := by
  obtain ⟨f, fd, F, m⟩ := F
  exact ⟨f, fd, F.ok S len (fun cdv A outer s H vs Q E => body f cdv A outer s H vs Q E), m, F.binds hb⟩
theorem mk_hasMX {C : Addr} {x qual : Str} {st : Stmt} {N ps : List Str} {k : Nat} {sp : Sp} (F : MethAt K C x qual st) (S : FnScope N ps (defScope st)) (hb : BindsQ st x qual ps) (len : ∀ vs H Q E, sp vs H Q E → vs.length = ps.length)
    (body : ∀ (f : Addr) (cdv : Value) (A : Around) (outer : List Env) (s : Shared) (H : Hp) (vs : List V) (Q : VK) (E : XK), Room k (A.deeper (envOfC qual (defScope st) s.heap.objs.size f cdv)) → sp vs H Q E →
      ∃ t, PSs (cxOf (L2.CX P w) P w K mg base N qual (defScope st) f cdv A outer s H E) (defBody st) t ∧ t { nx := fun _ H' => Q .non H', rt := Q } (start N vs) H) : HasMX P w K mg base (k + 1) C x ps sp := by
  obtain ⟨f, fd, F, m⟩ := F
  exact ⟨f, fd, F.okX S len (fun cdv A outer s H vs Q E => body f cdv A outer s H vs Q E), m, F.binds hb⟩
/-- a class's __init__ -/
def InitAt (K : PySem.W.Frag) (mg : Str → Option Value) (x : Str) (C : Addr) (qual : Str) (st : Stmt) : Prop := ∃ f fd, Fun K "__init__" qual st f fd ∧ Mk K C f ∧ mg x = some (.ref C)
theorem mk_hasC {C : Addr} {x qual : Str} {st : Stmt} {N ps : List Str} {k : Nat} {sp : Sp} (F : InitAt K mg x C qual st) (S : FnScope N ps (defScope st)) (hb : BindsQ st "__init__" qual ps) (len : ∀ vs H Q E, sp vs H Q E → vs.length = ps.length)
    (body : ∀ (f : Addr) (cdv : Value) (A : Around) (outer : List Env) (s : Shared) (H : Hp) (vs : List V) (Q : VK) (E : XK), Room k (A.deeper (envOfC qual (defScope st) s.heap.objs.size f cdv)) → sp vs H Q E →
      ∃ t, PSs (cxOf CX0 P w K mg base N qual (defScope st) f cdv A outer s H E).nox (defBody st) t ∧ t { nx := fun _ H' => Q .non H', rt := Q } (start N vs) H) : HasC P w K mg base (k + 1) x C ps sp := by
  obtain ⟨f, fd, F, m, g⟩ := F
  exact ⟨f, fd, F.ok S len (fun cdv A outer s H vs Q E => body f cdv A outer s H vs Q E), m, g, F.binds hb⟩
theorem mk_hasCX {C : Addr} {x qual : Str} {st : Stmt} {N ps : List Str} {k : Nat} {sp : Sp} (F : InitAt K mg x C qual st) (S : FnScope N ps (defScope st)) (hb : BindsQ st "__init__" qual ps) (len : ∀ vs H Q E, sp vs H Q E → vs.length = ps.length)
    (body : ∀ (f : Addr) (cdv : Value) (A : Around) (outer : List Env) (s : Shared) (H : Hp) (vs : List V) (Q : VK) (E : XK), Room k (A.deeper (envOfC qual (defScope st) s.heap.objs.size f cdv)) → sp vs H Q E →
      ∃ t, PSs (cxOf (L2.CX P w) P w K mg base N qual (defScope st) f cdv A outer s H E) (defBody st) t ∧ t { nx := fun _ H' => Q .non H', rt := Q } (start N vs) H) : HasCX P w K mg base (k + 1) x C ps sp := by
  obtain ⟨f, fd, F, m, g⟩ := F
  exact ⟨f, fd, F.okX S len (fun cdv A outer s H vs Q E => body f cdv A outer s H vs Q E), m, g, F.binds hb⟩
end
section
variable {X : Cx} {k : Nat} {C : Addr} {x m : Str} {ps : List Str} {sp : Sp} {e o : Expr} {es : List Expr} {p pos apos : Pos} {ta : TE} {t : TA} {pl : Sem Bool}
theorem pe_m (D : HasM X.prog X.w X.K X.mg X.base k C m ps sp) (c : Cls X.K C) (hr : Room k X.A) (ho : PE X o ta) (ha : PA X (e :: es) t)
    (hst : starEach (e :: es) X.env = (false, eval e X.env) :: starEach es X.env := by rfl) (hpl : (backTo pos (starEach es X.env)).any (·.1) = false := by rfl)
    (ht : eval (.Call (.Attribute o m apos) (e :: es) [] pos) X.env = (do
      let ov ← eval o X.env
      standAt apos.atName
      let (f, first) ← holding [ov] (getMethod ov m pl)
      callWith pos f first (backTo pos (starEach (e :: es) X.env)) (backToKw pos (keywordEach [] X.env))) := by rfl) :
    PE X (.Call (.Attribute o m apos) (e :: es) [] pos) (tMeth C m sp [] E0 ta t) := by
  obtain ⟨f, fd, G, M, b⟩ := D
  exact pe_meth ho c M G hr b .nil pass0 ha hst hpl ht
theorem pe_m0 (D : HasM X.prog X.w X.K X.mg X.base k C m ps sp) (c : Cls X.K C) (hr : Room k X.A) (ho : PE X o ta)
    (ht : eval (.Call (.Attribute o m apos) [] [] pos) X.env = (do
      let ov ← eval o X.env
      standAt apos.atName
      let (f, first) ← holding [ov] (getMethod ov m pl)
      callWith pos f first (backTo pos (starEach [] X.env)) (backToKw pos (keywordEach [] X.env))) := by rfl) :
    PE X (.Call (.Attribute o m apos) [] [] pos) (tMeth C m sp [] E0 ta tNil) := by
  obtain ⟨f, fd, G, M, b⟩ := D
  exact pe_meth0 ho c M G hr b .nil pass0 ht
/-- a method that may raise, called where that is wished for (W) -/
def tMethW (C : Addr) (m : Str) (sp : Sp) (W : WX) (ta : TE) (t : TA) : TE := fun σ H Q => ta σ H fun x H1 => ∃ a dx fs, x = .ref a ∧ H1 a = some (.ins C dx fs) ∧ fs.lookup m = none ∧ t σ H1 fun vs H2 => sp (x :: vs) H2 Q (WE W σ)
theorem pe_mX {W : WX} (tk : Takes X W) (D : HasMX X.prog X.w X.K X.mg X.base k C m ps sp) (c : Cls X.K C) (hr : Room k X.A) (ho : PE X o ta) (ha : PA X (e :: es) t)
    (hst : starEach (e :: es) X.env = (false, eval e X.env) :: starEach es X.env := by rfl) (hpl : (backTo pos (starEach es X.env)).any (·.1) = false := by rfl)
    (ht : eval (.Call (.Attribute o m apos) (e :: es) [] pos) X.env = (do
      let ov ← eval o X.env
      standAt apos.atName
      let (f, first) ← holding [ov] (getMethod ov m pl)
      callWith pos f first (backTo pos (starEach (e :: es) X.env)) (backToKw pos (keywordEach [] X.env))) := by rfl) :
    PE X (.Call (.Attribute o m apos) (e :: es) [] pos) (tMethW C m sp W ta t) := by
  obtain ⟨f, fd, G, M, b⟩ := D
  constructor
  intro pins s σ H Q I h
  refine PySem.W.methodCall_KW (pl := pl) (thn (ho.run pins s σ H _ I h) ?_) ht
  rintro u s1 ⟨x, H1, I1, rx, a, dx, fs, rfl, ea, l, q⟩
  obtain rfl : u = Value.ref a := rx
  refine getmeth_ok I1 ea c M l (PySem.W.callWith_K (first := [.ref a]) (h₀ := X.base) I.ok.mod.kin M.kp (thn (ha.run pos pins s1 σ H1 _ I1 q) ?_) hst hpl)
  rintro us s2 ⟨vs, H2, I2, r, q2⟩
  exact ⟨I2.kIn, run_fnS (us := .ref a :: us) (vs := .ref a :: vs) G hr b (passAt tk σ) I2 (.cons rfl r) q2⟩
theorem pe_c (D : HasC X.prog X.w X.K X.mg X.base k x C ps sp) (hr : Room (k + 1) X.A) (hg : Gl X x) (ha : PA X (e :: es) t) (hdb : (x == ("__debug__" : Str)) = false := by decide)
    (he : starEach (e :: es) X.env = (false, eval e X.env) :: starEach es X.env := by rfl) (hpl : (backTo pos (starEach es X.env)).any (·.1) = false := by rfl) :
    PE X (.Call (.Name x p) (e :: es) [] pos) (tMake C sp [] E0 t) := by
  obtain ⟨f, fd, G, M, g, b⟩ := D
  exact pe_make M G hr hg g b .nil pass0 ha hdb he hpl
theorem pe_c0 (D : HasC X.prog X.w X.K X.mg X.base k x C ps sp) (hr : Room (k + 1) X.A) (hg : Gl X x) (hdb : (x == ("__debug__" : Str)) = false := by decide) :
    PE X (.Call (.Name x p) [] [] pos) (tMake C sp [] E0 tNil) := by
  obtain ⟨f, fd, G, M, g, b⟩ := D
  exact pe_make0 M G hr hg g b .nil pass0 hdb
end
end KQ
set_option Elab.async false
set_option maxRecDepth 100000
set_option maxHeartbeats 4000000
/-! B4: from the facts that the head finds to defs, methods, classes; the law's own end. -/
namespace KQ
open PySem PySem.Spec PyProof.Rows L2
section
variable {K : PySem.W.Frag} {h : Heap} {mg : Str → Option Value} {x m qual : Str} {st : Stmt} {f C : Addr} {oc : Value} {od an : Option Addr} {kV doc pm cdv ct : Value} {sl : Array (Option Value)}
theorem funAt_of (X : K.In h) (G : h.Ns mainGlobals mg) (a : PySem.W.nsIn K mainGlobals x = some (some (.ref f))) (l : K.lookup f = some ⟨oc, od, .func (PySem.W.fnOf x x (defArgs st) (defBody st) (defScope st) .none kV doc pm an cdv ct), sl⟩)
    (c : PySem.W.codeIn K cdv x = true) (k : PySem.W.keepIn K (.ref f) = true) : FunAt K mg x st := ⟨f, _, fun_mk l c k, PySem.W.mg_of X G a⟩
theorem methAt_of (a : PySem.W.findIn K (.ref C) m = some (some (.ref f))) (i : PySem.W.isFn K (.ref f) = true) (l : K.lookup f = some ⟨oc, od, .func (PySem.W.fnOf m qual (defArgs st) (defBody st) (defScope st) .none kV doc pm an cdv ct), sl⟩)
    (c : PySem.W.codeIn K cdv qual = true) (k : PySem.W.keepIn K (.ref f) = true) : MethAt K C m qual st := ⟨f, _, fun_mk l c k, ⟨a, i, k⟩⟩
theorem initAt_of (X : K.In h) (G : h.Ns mainGlobals mg) (aC : PySem.W.nsIn K mainGlobals x = some (some (.ref C))) (mk : PySem.W.makesIn K C = true) (kC : PySem.W.keepIn K (.ref C) = true)
    (a : PySem.W.findIn K (.ref C) "__init__" = some (some (.ref f))) (i : PySem.W.isFn K (.ref f) = true) (l : K.lookup f = some ⟨oc, od, .func (PySem.W.fnOf "__init__" qual (defArgs st) (defBody st) (defScope st) .none kV doc pm an cdv ct), sl⟩)
    (c : PySem.W.codeIn K cdv qual = true) (k : PySem.W.keepIn K (.ref f) = true) : InitAt K mg x C qual st := ⟨f, _, fun_mk l c k, ⟨mk, a, i, kC⟩, PySem.W.mg_of X G aC⟩
/-- a built-in name that the text leaves alone -/
theorem free_of (X : K.In h) (G : h.Ns mainGlobals mg) (e : PySem.W.nsIn K mainGlobals x = some none) : mg x = none := PySem.W.mg_none_of X G e
theorem excAt_of (X : K.In h) (G : h.Ns mainGlobals mg) (a : PySem.W.nsIn K mainGlobals x = some (some (.ref C))) (kp : PySem.W.keepIn K (.ref C) = true)
    (ex : PySem.W.excIn K C [.type "ValueError", .type "Exception", .type "BaseException", .type "object"] "ValueError.__new__" = true) (sub : PySem.W.subIn K (.ref C) (.type "BaseException") = some true)
    (ty : PySem.W.typeIn K (.ref C) = some (.type "type")) (own : PySem.W.subIn K (.ref C) (.ref C) = some true) (isC : PySem.W.isClsIn K C = true) : ExcAt K mg x C := ⟨PySem.W.mg_of X G a, kp, ex, sub, ty, own, isC⟩
end
theorem walkX {l : PySem.W.OpenLaw} {k : Nat} {q : Program} {loose : List Str} {XP : (Str → Option Value) → Heap → Prop} {YP : World → Heap → Prop} {d : DefRec} {K : Params → PySem.W.Frag} {sp : PySem.W.Frag → Sp} (hn : l.most = some 63) (hdf : d.params.defaults = []) (hr : Room k callerA)
    (hY : ∀ (w : World) (h : Heap), YP w h → (K w.params).In h)
    (F : ∀ (w : World) (mg : Str → Option Value) (fa : Addr) (h : Heap), (K w.params).In h → h.Ns mainGlobals mg → XP mg h → mg d.name = some (.ref fa) →
      ∃ fd : FuncData, (∀ (s : Shared) (u : Value), BindsTo s fd ⟨[u], []⟩ [("script", u)]) ∧ ∀ base : Heap, FnOk l.prog w (K w.params) mg base CX0 k fa fd ["script"] (sp (K w.params)))
    (hsp : ∀ (K : PySem.W.Frag) (H : Hp) (a : Addr) (ns : List Int), ns.length ≤ 63 → SqL K H a (ns.map V.int) → sp K [.ref a] H (fun v _ => v = .bl true) fun _ _ _ => False) :
    PySem.W.WalkO q loose XP YP l.row.toRowW d [] (fun f vs => PySem.call f vs) :=
  Att.attach_call hn hdf fun w _ s₁ mg _ fa _ _ _ _ a _ ns G Y _ _ _ hmg hobj hints hlen hg =>
    let ⟨_, hb, hF⟩ := F w mg fa _ (hY w _ Y) G.T.g G.X hmg
    law_call (CX := CX0) (hY w _ Y) G.T.g G.T.b G.T.builtins G.T.nolimit hg hobj hints (Nat.le_trans hlen (by decide)) hr (fun base _ _ => hF base) hb (fun H _ hS => hsp _ H a ns hlen hS) fun _ _ _ z => z
end KQ
set_option Elab.async false
set_option maxRecDepth 100000
set_option maxHeartbeats 4000000
/-! B5: enumerate of a tuple, walked. -/
namespace KQ
open PySem PySem.Spec PyProof.Rows L2
set_option maxHeartbeats 4000000 in
theorem enum_new {v : Value} {o : Obj} {Z : Heap → Prop} (B : Begins v o Z) :
    Meets (Builtin.«enumerate.__new__» ⟨[.type "enumerate", v], []⟩) (fun _ R s => Z s.heap ∧
      R (.ok (.ret (.ref (s.heap.push o).objs.size))) { s with heap := (s.heap.push o).push { cls := .type "enumerate", data := .fields #[.none, .bool false, .ref s.heap.objs.size, rawInt 0, .none, .none] } }) := by
  refine .of_wp fun prog w A R s h => ?_
  obtain ⟨hp, g, d, tk, os⟩ := s
  obtain ⟨h1, h⟩ := h
  have hsub := sub_enumerate
  have it : ∀ {A' : Around} {E Q : Value → Shared → Prop}, Q (.ref hp.objs.size) ⟨hp.push o, g, d, tk, os⟩ → wpAny (model prog w) A' (pyIter v) Q E ⟨hp, g, d, tk, os⟩ := fun q => B.iter prog w _ _ ⟨hp, g, d, tk, os⟩ _ h1 q
  wp_walk using it
  refine wpAny_stack_any fun st => wpAny_pure ?_
  split
  · rename_i c _ _ _ _ _
    cases (c == Value.type "enumerate") <;> (wp_walk using it) <;> exact ⟨_, rfl, h⟩
  · wp_walk using it
    exact ⟨_, rfl, h⟩
theorem enum_call {prog : Program} {w : World} {A : Around} {E : Value → Shared → Prop} {s : Shared} {v : Value} {o : Obj} {Z : Heap → Prop} {Q : Value → Shared → Prop} (B : Begins v o Z) (h1 : Z s.heap)
    (h : ∀ h', IsEnum h' (s.heap.objs.size + 1) s.heap.objs.size 0 .none → h'.get? s.heap.objs.size = some o → (∀ b o, s.heap.get? b = some o → h'.get? b = some o) → Q (.ref (s.heap.objs.size + 1)) { s with heap := h' }) :
    wpAny (model prog w) A (call (.type "enumerate") [v]) Q E s := by
  refine callType_new F.called_enumerate (by decide) (F.typeCall_enumerate_1 _) (F.newCall_enumerate_1 _) (fun obj => F.args_object_init_2 obj _) F.entry_enumerate_new (enum_new B) ⟨h1, ?_⟩
  have hz : (s.heap.push o).objs.size = s.heap.objs.size + 1 := Heap.size_push ..
  have he : IsEnum ((s.heap.push o).push { cls := .type "enumerate", data := .fields #[.none, .bool false, .ref s.heap.objs.size, rawInt 0, .none, .none] }) (s.heap.objs.size + 1) s.heap.objs.size 0 .none := by
    have q := Heap.get?_push_size (s.heap.push o) (o := { cls := .type "enumerate", data := .fields #[.none, .bool false, .ref s.heap.objs.size, rawInt 0, .none, .none] }) rfl
    rwa [hz] at q
  show _ ∧ _
  rw [hz]
  exact ⟨⟨_, he, rfl⟩, h _ he (Heap.get?_push_of_some _ (Heap.get?_push_size _ B.free)) fun b u x => Heap.get?_push_of_some _ (Heap.get?_push_of_some _ x)⟩
/-- the tuple at a, each item in a new pair with its number -/
def Iet (K : PySem.W.Frag) (a : Addr) : It :=
  ⟨fun i H => ∃ (xs : List V) (x : V), SqT K H a xs ∧ xs[i]? = some x, fun i H v H' => ∃ T x, v = .ref T ∧ H T = none ∧ H' = upd H T (.tup [.int (i : Nat), x]) ∧ ∀ xs, SqT K H a xs → xs[i]? = some x, fun i H => ∃ xs : List V, SqT K H a xs ∧ xs.length = i⟩
theorem turn_et {P : Program} {w : World} {K : PySem.W.Frag} {elts : List Expr} {kk : Nat} {tpos : Pos} (a e it : Addr) :
    Turn P w K (.Tuple elts kk tpos) (Iet K a) [e, it] e (fun i h => (∃ old, IsEnum h e it ((i : Nat) : Int) old) ∧ h.IsTupleIter it a i ∧ e ≠ it) := by
  refine ⟨by simp, fun i h st b hb => ?_, fun i h h' st k => ?_, ?_, ?_, fun A i s Q E st h => let ⟨⟨_, he⟩, _⟩ := st; wpAny_pyIter_enum he h⟩
  · obtain ⟨⟨old, he⟩, ⟨o, ho, hc, hd⟩, _⟩ := st
    have eb : b = e ∨ b = it := by simpa using hb
    rcases eb with z | z
    · rw [z]
      exact ⟨_, he, fun v q => nomatch q⟩
    · rw [z]
      exact ⟨o, ho, fun v q => by rw [hd] at q; cases q⟩
  · obtain ⟨⟨old, he⟩, hi, hne⟩ := st
    exact ⟨⟨old, k e (by simp) _ he⟩, hi.at fun o q => k it (by simp) o q, hne⟩
  · intro X hP hw hK hc i pins s σ H E I hf st hg
    subst hP hw hK
    obtain ⟨⟨old, he⟩, hit, hne⟩ := st
    obtain ⟨xs, x, hq, hx⟩ := hg
    obtain ⟨its, rv, p, hz⟩ := I.tuple hq
    obtain ⟨u, hu, ru⟩ := rv.get hx
    have hel : e < s.heap.objs.size := Heap.lt_size he
    have hil : it < s.heap.objs.size := by obtain ⟨_, q, _⟩ := hit; exact Heap.lt_size q
    have hai : a ≠ it := by
      rintro rfl
      obtain ⟨o1, q1, _, d1⟩ := hit
      obtain ⟨o2, q2, _, _, d2⟩ := p
      rw [q1] at q2
      cases q2
      rw [d1] at d2
      cases d2
    have hea : e ≠ a := by
      rintro rfl
      obtain ⟨o2, q2, _, _, d2⟩ := p
      have he' : s.heap.get? e = some _ := he
      rw [he'] at q2
      cases q2
      cases d2
    refine wpAny_pyNext_enum_itemD (Draws.tuple (A := X.A.in1) (I.ok.hd hc) it a hai its.toArray) he ⟨hit, p⟩ (by have := (List.getElem?_eq_some_iff.mp hu).1; simpa using this) hne (by simp [hne, hea]) fun y h' tk hy ho hst hT hsz hk => ?_
    have ey : y = u := by
      have hy' : its.toArray[i]? = some y := hy
      rw [List.getElem?_toArray, hu] at hy'
      exact (Option.some.inj hy').symm
    subst ey
    refine ⟨_, rfl, wpAny_letOwnedTupleGo_enum (s := { s with heap := h', toks := tk + 1 }) ho fun h'' he' sb => ?_⟩
    have hT2 : h''.get? s.heap.objs.size = some { cls := .type "tuple", data := .seq #[.int i tk, y] } := (sb.2 _ (Nat.ne_of_gt hel)).trans hT
    have new : ObjOk X.prog X.w (upd H s.heap.objs.size (.tup [.int (i : Nat), x])) h'' s.heap.objs.size (.tup [.int (i : Nat), x]) :=
      ⟨by show 2 ≤ sizeLine; decide, [.int i tk, y], .cons ⟨_, rfl⟩ (.cons ru .nil), ⟨_, hT2, rfl, _, rfl⟩⟩
    have I1 : Inv X pins σ (upd H s.heap.objs.size (.tup [.int (i : Nat), x])) { s with heap := h'', toks := tk + 1 } :=
      I.turnedNew (ch := [e, it]) (fun b ob hb q => (sb.2 b (fun z => hb (by simp [z]))).trans (hk b ob (fun z => hb (by simp [z])) (fun z => hb (by simp [z])) q)) hf (Nat.le_refl _) new
    refine ⟨.ref s.heap.objs.size, _, I1, rfl, ⟨_, x, rfl, I.hok.fresh (Nat.le_refl _), rfl, fun ys hy => by rw [I.tuple_inj hy hq]; exact hx⟩, ⟨⟨y, ?_⟩, hst.1.at fun o q => (sb.2 it (Ne.symm hne)).trans q, hne⟩, fun b hb => ?_⟩
    · rw [show ((i + 1 : Nat) : Int) = (i : Int) + 1 by omega]
      exact he'
    · have eb : b = e ∨ b = it := by simpa using hb
      have hb' : b < s.heap.objs.size := by rcases eb with z | z <;> rw [z] <;> assumption
      rw [upd_ne (Nat.ne_of_lt hb')]
      exact (hf b hb).1
  · intro X hP hw hK hc i pins s σ H E I hf st hg
    subst hP hw hK
    obtain ⟨⟨old, he⟩, hit, hne⟩ := st
    obtain ⟨xs, hq, hx⟩ := hg
    obtain ⟨its, rv, p, hz⟩ := I.tuple hq
    obtain ⟨f0, f1, f2, f3, f4, f5⟩ := hf it (by simp)
    have hl := rv.length
    have hai : a ≠ it := by
      rintro rfl
      obtain ⟨o1, q1, _, d1⟩ := hit
      obtain ⟨o2, q2, _, _, d2⟩ := p
      rw [q1] at q2
      cases q2
      rw [d1] at d2
      cases d2
    exact wpAny_pyNext_enum_endD (Draws.tuple (A := X.A.in1) (I.ok.hd hc) it a hai its.toArray) he ⟨by rw [show its.toArray.size = i by simp; omega]; exact hit, p⟩ fun h' eb => ⟨rfl, I.turned (t' := s.toks) (fun b o hb q => eb b o hb q) f0 f1 f3 f4 f5⟩
def iEt (K : PySem.W.Frag) (ta : TA) : TI := fun σ H R => ta σ H fun vs H1 => ∃ a xs, vs = [.ref a] ∧ SqT K H1 a xs ∧ R (Iet K a) H1
theorem pi_enumT {X : Cx} {e : Expr} {ta : TA} {p pos tpos : Pos} {elts : List Expr} {kk : Nat} (hg : Gl X "enumerate") (hm : X.mg "enumerate" = none) (ha : PA X [e] ta) (hs : starEach [e] X.env = [(false, eval e X.env)] := by rfl) :
    PI X (.Tuple elts kk tpos) (.Call (.Name "enumerate" p) [e] [] pos) (iEt X.K ta) := by
  constructor
  intro pins s σ H R I h
  refine Call_ (ld_blt I hg hm boot_enumerate (PyProof.Rows.callWith_type1 (thn (ha.run pos pins s σ H _ I h) ?_) hs rfl))
  rintro us s1 ⟨vs, H1, I1, r1, a, xs, rfl, hq, q⟩
  cases r1 with
  | cons r rr =>
    cases rr
    cases r
    obtain ⟨its, rv, p', hz⟩ := I1.tuple hq
    refine enum_call (begins_tuple a its.toArray) p' fun h' he hit hk => wpAny_pyIter_enum he ?_
    have I2 : Inv X pins σ H1 { s1 with heap := h' } := I1.kept (t' := s1.toks) hk
    refine ⟨s1.heap.objs.size + 1, [s1.heap.objs.size + 1, s1.heap.objs.size], _, _, H1, rfl, I2, turn_et a (s1.heap.objs.size + 1) s1.heap.objs.size, ⟨⟨.none, he⟩, ⟨_, hit, rfl, rfl⟩, Nat.succ_ne_self _⟩, fun b hb => ?_, q⟩
    have eb : b = s1.heap.objs.size + 1 ∨ b = s1.heap.objs.size := by simpa using hb
    have hle : s1.heap.objs.size ≤ b := by
      rcases eb with z | z <;> rw [z]
      · exact Nat.le_add_right _ _
      · exact Nat.le_refl _
    exact I1.fpOk hle (I1.hok.fresh hle)
theorem for_et {K : PySem.W.Frag} {a : Addr} {xs : List V} {g : TG} {tb : TS} {D : Ends} {σ : L2.St} {H : Hp} (Pv : Nat → L2.St → Hp → Prop) (h0 : Pv 0 σ H) (hq : ∀ i σ H, Pv i σ H → SqT K H a xs)
    (hs : ∀ (i : Nat) (x : V) (T : Addr) (σ : L2.St) (H : Hp), xs[i]? = some x → Pv i σ H → H T = none → g (.ref T) σ (upd H T (.tup [.int (i : Nat), x])) fun σ2 H2 => tb { D with nx := Pv (i + 1), ct := Pv (i + 1), bk := D.nx } σ2 H2) (hd : ∀ σ H, Pv xs.length σ H → D.nx σ H) :
    ∃ W : Nat → Nat → L2.St → Hp → Prop, (∃ m, W 0 m σ H) ∧ ∀ i m σ H, W i m σ H →
      ((Iet K a).stop i H ∧ D.nx σ H) ∨ ((Iet K a).go i H ∧ ∃ N : L2.St → Hp → Prop, (∀ σ' H', N σ' H' → ∃ m', m' < m ∧ W (i + 1) m' σ' H') ∧ ∀ x H', (Iet K a).yld i H x H' → g x σ H' fun σ2 H2 => tb { D with nx := N, ct := N, bk := D.nx } σ2 H2) := by
  refine ⟨fun i m σ H => m = xs.length - i ∧ i ≤ xs.length ∧ Pv i σ H, ⟨_, rfl, Nat.zero_le _, h0⟩, ?_⟩
  rintro i m σ H ⟨rfl, hi, pv⟩
  have q := hq i σ H pv
  rcases Nat.lt_or_eq_of_le hi with hlt | he
  · refine .inr ⟨⟨xs, xs[i], q, by simp [hlt]⟩, Pv (i + 1), fun σ' H' p' => ⟨_, by omega, rfl, hlt, p'⟩, ?_⟩
    rintro x H' ⟨T, y, rfl, nT, rfl, hy⟩
    have ey : xs[i]? = some y := hy xs q
    exact hs i y T σ H ey pv nT
  · subst he
    exact .inl ⟨⟨xs, q, rfl⟩, hd σ H pv⟩
end KQ
set_option Elab.async false
set_option maxRecDepth 100000
set_option maxHeartbeats 4000000
/-! B6: errors with a field; a class whose making may raise. -/
namespace KQ
open PySem PySem.Spec PyProof.Rows L2
/-- __init__ of an error with one field: it is stored -/
def spErrInit (C : Addr) (fld : Str) : Sp := fun vs H Q _ => ∃ (a : Addr) (v : V), vs = [.ref a, v] ∧ H a = some (exo a C none) ∧ ∀ dx, H dx = none → dx ≠ a → Q .non (upd (upd H dx (exd dx [(fld, v)])) a (exo a C (some dx)))
structure ErrAt (P : Program) (w : World) (K : PySem.W.Frag) (mg : Str → Option Value) (base : Heap) (x : Str) (C : Addr) (fld : Str) : Prop where
  g : mg x = some (.ref C)
  oex : OexC K C
  xf : XfC K C
  no : PySem.W.findIn K (.ref C) fld = some none
  exm : PySem.W.exmOne K (.ref C) (.ref C) = some true
  ini : ∃ f fd, PySem.W.findIn K (.ref C) "__init__" = some (some (.ref f)) ∧ PySem.W.typeIn K (.ref f) = some (.type "function") ∧ FnOk P w K mg base CX0 1 f fd ["self", fld] (spErrInit C fld) ∧ Binds K fd ["self", fld] []
/-- what is left to show of X(v), v already told -/
theorem mk_err {C : Addr} {fld : Str} {v : V} {H1 : Hp} {Q : XK} (h : ∀ d, H1 d = none → Q (.ref C) (some d) (upd H1 d (.xd [(fld, v)]))) :
    [v].length ≤ 1000 ∧ ∀ a, H1 a = none → spErrInit C fld (.ref a :: ([v] ++ [])) (upd H1 a (exo a C none)) (fun u H2 => u = .non ∧ ∃ (d : Addr) (fs : List (Str × V)), H2 a = some (exo a C (some d)) ∧ H2 d = some (exd d fs) ∧ H1 d = none ∧ Q (.ref C) (some d) (upd (del H2 a) d (.xd fs))) (fun _ _ _ => False) := by
  refine ⟨by show 1 ≤ 1000; decide, fun a ha => ⟨a, v, rfl, upd_same, fun dx hd ne => ⟨rfl, dx, [(fld, v)], upd_same, by rw [upd_ne ne]; exact upd_same, ?_, ?_⟩⟩⟩
  · rw [upd_ne ne] at hd
    exact hd
  · have hd1 : H1 dx = none := by
      rw [upd_ne ne] at hd
      exact hd
    have e : upd (del (upd (upd (upd H1 a (exo a C none)) dx (exd dx [(fld, v)])) a (exo a C (some dx))) a) dx (.xd [(fld, v)]) = upd H1 dx (.xd [(fld, v)]) := by
      funext b
      by_cases h1 : b = dx
      · rw [h1, upd_same, upd_same]
      · rw [upd_ne h1, upd_ne h1]
        by_cases h2 : b = a
        · rw [h2, del_same]
          exact ha.symm
        · rw [del_ne h2, upd_ne h2, upd_ne h1, upd_ne h2]
    rw [e]
    exact h dx hd1
section
variable {X : Cx} {x fld : Str} {C : Addr} {e : Expr} {ta : TA} {p pos pos2 : Pos}
/-- raise X(e) -/
theorem ps_rx {W : WX} (hc : X.calm = true) (tk : Takes X W) (T : ErrAt X.prog X.w X.K X.mg X.base x C fld) (hr : Room 2 X.A) (ha : PA X [e] ta) (hg : Gl X x) (hdb : (x == ("__debug__" : Str)) = false := by decide)
    (he : starEach (e :: []) X.env = (false, eval e X.env) :: starEach [] X.env := by rfl) (hpl : (backTo pos (starEach [] X.env)).any (·.1) = false := by rfl) :
    PS X (.Raise (some (.Call (.Name x p) [e] [] pos)) none pos2) (fun _ σ H => tMkO C (spErrInit C fld) [] ta σ H fun cls d H' => W cls d σ H') := by
  obtain ⟨f, fd, iC, tI, G, b⟩ := T.ini
  exact ps_raise hc tk (pmk_oex T.oex iC tI G hr b .nil pass0 hg T.g ha hdb he hpl)
/-- err.field in an except suite -/
theorem pe_ef {a : Addr} {oe : Obj} {cls : Value} {d : Option Addr} {pn : List (Addr × Obj)} {o : Expr} {te : TE} (T : ErrAt X.prog X.w X.K X.mg X.base x C fld) (hz : Zc cls d oe) (hf : ∃ vs, oe.data = .fields vs) (he : PE (X.suite a ((a, oe) :: pn)) o te)
    (hb : attributeBase o fld X.env (eval o X.env) = eval o X.env := by rfl) : PE (X.suite a ((a, oe) :: pn)) (.Attribute o fld pos) (tXf a cls d C fld te) := pe_xf T.xf T.no hz hf he hb
end
/-! ### C(e, ..) where __init__ may raise -/
section
variable {X : Cx} {k : Nat} {x : Str} {C : Addr} {ps : List Str} {sp : Sp} {e : Expr} {es : List Expr} {p pos : Pos} {t : TA}
def tMakeW (C : Addr) (sp : Sp) (W : WX) (t : TA) : TE := fun σ H Q => t σ H fun vs H1 => ∀ x dx, H1 x = none → H1 dx = none → dx ≠ x → sp (.ref x :: vs) (upd (upd H1 dx (.own x)) x (.ins C dx [])) (fun v H2 => v = .non ∧ Q (.ref x) H2) (WE W σ)
theorem pe_cX {W : WX} (tk : Takes X W) (D : HasCX X.prog X.w X.K X.mg X.base k x C ps sp) (hr : Room (k + 1) X.A) (hg : Gl X x) (ha : PA X (e :: es) t) (hdb : (x == ("__debug__" : Str)) = false := by decide)
    (he : starEach (e :: es) X.env = (false, eval e X.env) :: starEach es X.env := by rfl) (hpl : (backTo pos (starEach es X.env)).any (·.1) = false := by rfl) :
    PE X (.Call (.Name x p) (e :: es) [] pos) (tMakeW C sp W t) := by
  obtain ⟨f, fd, F, M, hm, hb⟩ := D
  constructor
  intro pins s0 σ H0 Q I0 h0
  refine wpAny_Call_Name_kw (ld_glob I0 hg hm (PySem.W.callWith_K (h₀ := X.base) I0.ok.mod.kin M.kp (thn (ha.run pos pins s0 σ H0 _ I0 h0) ?_) he hpl) hdb)
  rintro us s ⟨vs, H, I, r, h⟩
  refine ⟨I.kIn, ?_⟩
  have hq := h (s.heap.objs.size + 1) s.heap.objs.size (I.hok.fresh (Nat.le_succ _)) (I.hok.fresh (Nat.le_refl _)) (Nat.ne_of_lt (Nat.lt_succ_self _))
  have J := Inv.made (C := C) I
  have r2 : Vals (V.ref (s.heap.objs.size + 1) :: vs) (Value.ref (s.heap.objs.size + 1) :: us) := .cons rfl r
  have b := hb _ (Value.ref (s.heap.objs.size + 1) :: us) J.kIn (by
    rw [List.append_nil, ← r2.length]
    exact F.len _ _ _ _ hq)
  rw [List.append_nil] at b
  refine wpAny_call (make_map (f := f) I.kIn M.makes M.init (beq_iff_eq.mp M.fn) (codeAny_mono (F.run _ X.stack _ _ ⟨Value.ref (s.heap.objs.size + 1) :: us, []⟩ (Value.ref (s.heap.objs.size + 1) :: us) _ _ (WE W σ) (hr.make C us [])
    (J.env0.make C us []) b r2 hq) ?_))
  intro z s' hz
  match z, hz with
  | .error e, hz => exact passAt tk σ pins _ _ e s' J hz
  | .ok (.ret u), hz =>
    obtain ⟨v, H', I3, rv, rfl, q3⟩ := J.after hz
    exact ⟨rv, V.ref (s.heap.objs.size + 1), H', I3, rfl, q3⟩
  | .ok .next, hz => exact False.elim hz
  | .ok .brk, hz => exact False.elim hz
  | .ok .cont, hz => exact False.elim hz
/-- where it is known not to raise -/
theorem pe_cX0 (D : HasCX X.prog X.w X.K X.mg X.base k x C ps sp) (hr : Room (k + 1) X.A) (hg : Gl X x) (ha : PA X (e :: es) t) (hdb : (x == ("__debug__" : Str)) = false := by decide)
    (he : starEach (e :: es) X.env = (false, eval e X.env) :: starEach es X.env := by rfl) (hpl : (backTo pos (starEach es X.env)).any (·.1) = false := by rfl) :
    PE X (.Call (.Name x p) (e :: es) [] pos) (tMake C sp [] E0 t) := by
  obtain ⟨f, fd, F, M, hm, hb⟩ := D
  exact pe_make M F hr hg hm hb .nil passL ha hdb he hpl
theorem pe_hX0 (D : HasX X.prog X.w X.K X.mg X.base k x ps sp) (hr : Room k X.A) (hg : Gl X x) (ha : PA X (e :: es) t) (hdb : (x == ("__debug__" : Str)) = false := by decide)
    (he : starEach (e :: es) X.env = (false, eval e X.env) :: starEach es X.env := by rfl) (hpl : (backTo pos (starEach es X.env)).any (·.1) = false := by rfl) :
    PE X (.Call (.Name x p) (e :: es) [] pos) (tCall sp [] E0 t) := by
  obtain ⟨f, fd, G, m, kp, b⟩ := D
  exact pe_call G hr hg m kp b .nil passL ha hdb he hpl
end
end KQ
set_option Elab.async false
set_option maxRecDepth 100000
set_option maxHeartbeats 4000000
/-! B7: a == b by a's own __eq__, whatever it answers. -/
namespace KQ
open PySem PySem.Spec PyProof.Rows L2
/-- x == y, x of the class at C with the text's own ==, y another of it or a tuple -/
def rOwn (K : PySem.W.Frag) (C : Addr) (sp : Sp) : R2 := fun x y H Q => ∃ a dx fs b, x = .ref a ∧ y = .ref b ∧ H a = some (.ins C dx fs) ∧
  ((∃ dy gs, H b = some (.ins C dy gs)) ∨ ((∃ xs, SqT K H b xs) ∧ PySem.W.notFirst K C (.type "tuple") = true)) ∧ sp [.ref a, .ref b] H (fun v H' => ∃ c, v = .bl c ∧ Q v H') (fun _ _ _ => False)
theorem op_own {X : Cx} {n : Nat} {C : Addr} {sp : Sp} {ps : List Str} (D : HasM X.prog X.w X.K X.mg X.base n C "__eq__" ps sp) (hr : Room n X.A) : OpR X (compareOp .Eq) (rOwn X.K C sp) := by
  obtain ⟨f, fd, F, M, hb⟩ := D
  intro pins s σ H x y v u Q I rx ry h
  obtain ⟨a, dx, fs, b, rfl, rfl, ha, hy, hsp⟩ := h
  cases rx
  cases ry
  obtain ⟨mA, J, _⟩ := ins_get I.hok ha
  obtain ⟨od, J, _⟩ := J.look
  obtain ⟨m, hF⟩ := I.fr
  have hlook : ∃ tb, PySem.W.Looks (model X.prog X.w) s.heap (typeOf (.ref b)) tb ∧ PySem.W.notFirst X.K C tb = true := by
    rcases hy with ⟨dy, gs, hb'⟩ | ⟨⟨xs, hq⟩, nf⟩
    · obtain ⟨mB, J', _⟩ := ins_get I.hok hb'
      obtain ⟨od', J', _⟩ := J'.look
      exact ⟨.ref C, J'.type, by simp [PySem.W.notFirst]⟩
    · obtain ⟨its, r, ⟨o, ho, hc, n, hd⟩, hz⟩ := I.tuple hq
      refine ⟨.type "tuple", ?_, nf⟩
      exact hc ▸ (PySem.W.Looks.ld ho).andThen .now
  obtain ⟨tb, hl, nf⟩ := hlook
  show wpAny (model X.prog X.w) X.A (richCompare .Eq (.ref a) (.ref b)) (EP X pins σ Q) X.xe s
  refine PySem.W.cmp_K (op := .Eq) (tb := tb) hr.units0 hF I.ok.mod.kin J hl nf M.at_ M.fn ?_
  have e0 : Env0 X.prog X.w X.K X.mg X.base X.A X.stack s H := I.env0
  have hl := F.len _ _ _ _ hsp
  have r2 : Vals [V.ref a, V.ref b] [Value.ref a, Value.ref b] := .cons rfl (.cons rfl .nil)
  refine wpAny_call (codeAny_mono (F.run X.A X.stack s H ⟨[.ref a, .ref b], []⟩ [.ref a, .ref b] [.ref a, .ref b] _ _ hr e0 (by
    have := hb s [.ref a, .ref b] I.kIn (by simpa using hl)
    simpa using this) r2 hsp) fun r s' hq => ?_)
  cases r with
  | error e => exact hq.elim
  | ok fl =>
    cases fl with
    | ret w =>
      obtain ⟨z, H', I', rz, c, ez, q⟩ := I.after hq
      subst ez
      cases rz
      exact ⟨.bl c, H', I', rfl, q⟩
    | next => exact False.elim hq
    | brk => exact False.elim hq
    | cont => exact False.elim hq
end KQ
set_option Elab.async false
set_option maxRecDepth 100000
set_option maxHeartbeats 4000000
/-! B8: tuple * int, once and not at all too. -/
namespace KQ
open PySem PySem.Spec PyProof.Rows L2
theorem mul_one (l : Addr) (items : Array Value) (n : Nat) (dd : Option Addr) (sl : Array (Option Value)) (x : Int) (u : Tok) (c0 : (decide (x < -(2 ^ 63)) || decide (x ≥ 2 ^ 63)) = false) (c1 : (items.isEmpty || x == 1) = true) :
    Meets (Builtin.«tuple.__mul__» ⟨[.ref l, .int x u], []⟩) (fun _ R s => s.heap.get? l = some { cls := .type "tuple", dict := dd, data := .seq items n, slots := sl } ∧ R (.ok (.ret (Value.ref l))) { s with heap := s.heap, toks := s.toks }) :=
  .of_wp fun prog w A R s h => by
    obtain ⟨hp, g, d, tk, os⟩ := s
    obtain ⟨hl, h⟩ := h
    have f1 := AutoSeq1.idx_int
    wp_walk using wpAny_loadPart' hl
    repeat (first
      | (refine wpAny_ite_false (decide_eq_false (by rw [c0]; exact Bool.false_ne_true)) ?_; wp_walk using wpAny_loadPart' hl)
      | (refine wpAny_ite_true (decide_eq_true c1) ?_; wp_walk using wpAny_loadPart' hl))
    exact ⟨_, rfl, h⟩
theorem mul_none (l : Addr) (items : Array Value) (n : Nat) (dd : Option Addr) (sl : Array (Option Value)) (x : Int) (u : Tok) (c0 : (decide (x < -(2 ^ 63)) || decide (x ≥ 2 ^ 63)) = false) (c1 : (items.isEmpty || x == 1) = false) (c2 : (decide (x ≤ 0) || items.isEmpty) = true) :
    Meets (Builtin.«tuple.__mul__» ⟨[.ref l, .int x u], []⟩) (fun _ R s => s.heap.get? l = some { cls := .type "tuple", dict := dd, data := .seq items n, slots := sl } ∧
      R (.ok (.ret (Value.ref s.heap.objs.size))) { s with heap := s.heap.push { cls := Value.type "tuple", data := Data.seq #[] }, toks := s.toks }) :=
  .of_wp fun prog w A R s h => by
    obtain ⟨hp, g, d, tk, os⟩ := s
    obtain ⟨hl, h⟩ := h
    have f1 := AutoSeq1.idx_int
    wp_walk using wpAny_loadPart' hl
    repeat (first
      | (refine wpAny_ite_false (decide_eq_false (by rw [c0]; exact Bool.false_ne_true)) ?_; wp_walk using wpAny_loadPart' hl)
      | (refine wpAny_ite_false (decide_eq_false (by rw [c1]; exact Bool.false_ne_true)) ?_; wp_walk using wpAny_loadPart' hl)
      | (refine wpAny_ite_true (decide_eq_true c2) ?_; wp_walk using wpAny_loadPart' hl))
    exact ⟨_, rfl, h⟩
def rRepA (K : PySem.W.Frag) : R2 := fun x y H Q => ∃ l k xs, x = .ref l ∧ y = .int k ∧ SqT K H l xs ∧ xs ≠ [] ∧ 0 ≤ k ∧ k ≤ 1000 ∧ xs.length ≤ 1000 ∧ (k = 1 → Q (.ref l) H) ∧ (k ≠ 1 → ∀ p, H p = none → Q (.ref p) (upd H p (.tup (List.replicate k.toNat xs).flatten)))
theorem op_repA {X : Cx} : OpR X (binaryOp .Mult) (rRepA X.K) := by
  intro pins s σ H x y v u Q I rx ry h
  obtain ⟨l, k, xs, rfl, rfl, hT, hne, h1, h2, hz, q1, q2⟩ := h
  by_cases h3 : 2 ≤ k
  · exact op_repT pins s σ H _ _ v u Q I rx ry ⟨l, k, xs, rfl, rfl, hT, hne, h3, h2, hz, q2 (by omega)⟩
  cases rx
  obtain ⟨t, rfl⟩ := ry
  obtain ⟨its, r, ⟨⟨cls, dd, data, sl⟩, ho, hc, n, hd⟩, hs⟩ := I.tuple hT
  simp only at hc hd
  subst hc hd
  have hle : its.length = xs.length := r.length.symm
  have hi : its.toArray.isEmpty = false := by
    cases its with
    | nil => exact absurd (List.eq_nil_of_length_eq_zero hle.symm) hne
    | cons a b => rfl
  have c0 : (decide (k < -(2 ^ 63)) || decide (k ≥ 2 ^ 63)) = false := by
    rw [decide_eq_false (by omega), decide_eq_false (by omega)] <;> rfl
  by_cases k1 : k = 1
  · exact wpAny_binaryOp_repeat_ref (T := "tuple") (U := "int") (by decide) ⟨_, ho, rfl⟩ (fun s' => typeIs_int s' k t) noFill_tuple_mul F.fills_int_mul F.slot_int_rmul repeat_tuple F.slot_int_index.lookup
      (call_meets F.slot_int_rmul (typeIs_int s k t) F.entry_int_rmul (F.args_int_rmul_2 _ _) (int_rmul_tuple k t l its.toArray n dd sl)
        ⟨ho, rfl, ⟨_, ho, rfl⟩, call_meets F.slot_tuple_mul ⟨_, ho, rfl⟩ F.entry_tuple_mul (F.args_tuple_mul_2 _ _) (mul_one l its.toArray n dd sl k t c0 (by rw [hi, Bool.false_or]; exact beq_iff_eq.mpr k1)) ⟨ho, ⟨.ref l, H, I, rfl, q1 k1⟩⟩⟩)
  · have k0 : k = 0 := by omega
    subst k0
    refine wpAny_binaryOp_repeat_ref (T := "tuple") (U := "int") (by decide) ⟨_, ho, rfl⟩ (fun s' => typeIs_int s' 0 t) noFill_tuple_mul F.fills_int_mul F.slot_int_rmul repeat_tuple F.slot_int_index.lookup
      (call_meets F.slot_int_rmul (typeIs_int s 0 t) F.entry_int_rmul (F.args_int_rmul_2 _ _) (int_rmul_tuple 0 t l its.toArray n dd sl)
        ⟨ho, rfl, ⟨_, ho, rfl⟩, call_meets F.slot_tuple_mul ⟨_, ho, rfl⟩ F.entry_tuple_mul (F.args_tuple_mul_2 _ _) (mul_none l its.toArray n dd sl 0 t c0 (by rw [hi]; rfl) (by rfl)) ⟨ho, ?_⟩⟩)
    refine ⟨.ref s.heap.objs.size, _, I.laid (t' := s.toks) (o := .tup []) (fun b ob q => Heap.get?_push_of_some _ q) (Nat.le_refl _) ?_, rfl, q2 k1 _ (I.hok.fresh (Nat.le_refl _))⟩
    exact ⟨Nat.zero_le _, _, .nil, IsTup.new _ _⟩
end KQ
set_option Elab.async false
set_option maxRecDepth 100000
set_option maxHeartbeats 4000000
/-! B9: max(a list of numbers, default=0). -/
namespace KQ
open PySem
section
variable {prog : Program} {w : World} {A : Around} {R : Result → Shared → Prop} {I S : Addr} {fp wr : List Addr} {n : Nat} {P : Nat → Value → Prop} {St : Nat → Heap → Prop} {d : Value}
abbrev dkw (d : Value) : List (Str × Value) := [(Str.ofString "default", d)]
abbrev bestAt (c : Nat) (items : Array Value) : Obj := { cls := .type "list", dict := none, data := .seq items c, slots := #[] }
theorem mxd_loop (W : Walks prog w A.in1 I fp wr n P St) (bt : Nat → Nat → Bool) (hc : CmpOf prog w A.in1 .Gt P bt) (hf : S ∉ fp) : ∀ (k j : Nat) (s : Shared) (items : Array Value) (c : Nat), n - j = k → j ≤ n → St j s.heap →
    ((j = 0 ∧ items = #[]) ∨ ∃ vb, 0 < j ∧ items = #[vb, vb] ∧ P (argBest bt (j - 1)) vb) → s.heap.get? S = some (bestAt c items) →
    (∀ v h' tk, ((n = 0 ∧ v = d) ∨ (0 < n ∧ P (argBest bt (n - 1)) v)) → (∀ b o, b ∉ wr → b ≠ S → s.heap.get? b = some o → h'.get? b = some o) → R (.ok (.ret v)) { s with heap := h', toks := tk }) →
    codeAny (model prog w) A (.builtin "max.loop" ⟨[.ref I, .none, .ref S], dkw d⟩) R s := by
  have hw : S ∉ wr := fun h => hf (W.sub _ h)
  have hn : (toString "max" ++ toString ".loop" : String) = "max.loop" := by decide
  intro k
  induction k with
  | zero =>
    intro j s items c hk hj st hb hS hR
    have e : j = n := by omega
    refine codeAny_builtin F.entry_max_loop ?_; rw [Around.under_plainId F.plain_max_loop _]
    show wpAny _ A.in1 (seqItems? (.ref S) >>= _) _ _ s; refine wpAny_bind (wpAny_seqItems hS rfl ?_)
    show wpAny _ A.in1 (tryCatch (pyNext (.ref I)) _ >>= _) _ _ s; refine wpAny_bind (wpAny_tryCatch (W.done s _ _ (e ▸ st) fun h' tk k' => ?_))
    have hS' := k' S _ hw hS
    rcases hb with ⟨j0, rfl⟩ | ⟨vb, j0, rfl, pb⟩
    · show wpAny _ A.in1 (rule _ >>= _) _ _ _
      refine wpAny_bind (wpAny_rule (wpAny_pure (hR d _ tk (.inl ⟨by omega, rfl⟩) fun b o h1 _ q => k' b o h1 q)))
    · show wpAny _ A.in1 (updateSeq S (fun _ => #[]) >>= _) _ _ _; refine wpAny_bind ?_
      refine wpAny_updateSeq hS' rfl (wpAny_bind (wpAny_letGo (wpAny_pure (hR vb _ tk (.inr ⟨by omega, by rw [← e]; exact pb⟩) fun b o h1 h2 q => ?_))))
      exact (Heap.get?_update_other _ _ (Ne.symm h2)).trans (k' b o h1 q)
  | succ k ih =>
    intro j s items c hk hj st hb hS hR
    have hlt : j < n := by omega
    refine codeAny_builtin F.entry_max_loop ?_; rw [Around.under_plainId F.plain_max_loop _]
    show wpAny _ A.in1 (seqItems? (.ref S) >>= _) _ _ s; refine wpAny_bind (wpAny_seqItems hS rfl ?_)
    show wpAny _ A.in1 (tryCatch (pyNext (.ref I)) _ >>= _) _ _ s; refine wpAny_bind (wpAny_tryCatch (W.item j s _ _ hlt st fun v h' tk hP st' k' => ?_))
    have hS' := k' S _ hw hS
    rcases hb with ⟨j0, rfl⟩ | ⟨vb, j0, rfl, pb⟩
    · subst j0
      show wpAny _ A.in1 (updateSeq S (fun _ => #[v, v]) >>= _) _ _ _; refine wpAny_bind (wpAny_updateSeq hS' rfl ?_); rw [hn]
      refine wpAny_pure ⟨plainId_quiet F.plain_max_loop _, ih 1 _ #[v, v] _ (by omega) hlt (W.frame _ _ _ st' fun b hb o q => (Heap.get?_update_other _ _ (fun z : S = b => hf (by rw [z]; exact hb))).trans q) (.inr ⟨v, Nat.one_pos, rfl, hP⟩) (Heap.get?_update_self _ hS' rfl) fun v' h2 tk2 q2 k2 => ?_⟩
      exact hR v' h2 tk2 q2 fun b o h1 h2 q => k2 b o h1 h2 ((Heap.get?_update_other _ _ (Ne.symm h2)).trans (k' b o h1 q))
    · show wpAny _ A.in1 (tryCatch (holding [v, v] (richCompare .Gt v vb >>= _)) _ >>= _) _ _ _; refine wpAny_bind (wpAny_tryCatch (wpAny_holding (wpAny_bind (hc j (argBest bt (j - 1)) v vb _ _ _ hP pb ?_))))
      refine wpAny_bind (wpAny_holding (wpAny_truthy_bool (wpAny_bind (wpAny_letGo (wpAny_pure ?_)))))
      have ej : argBest bt (j + 1 - 1) = if bt j (argBest bt (j - 1)) then j else argBest bt (j - 1) := by
        obtain ⟨i, rfl⟩ : ∃ i, j = i + 1 := ⟨j - 1, by omega⟩
        rfl
      cases hb : bt j (argBest bt (j - 1)) with
      | true =>
        simp only [if_true]
        refine wpAny_bind (wpAny_updateSeq hS' rfl (wpAny_bind (wpAny_letGo ?_))); rw [hn]
        refine wpAny_pure ⟨plainId_quiet F.plain_max_loop _, ih (j + 1) _ #[v, v] _ (by omega) hlt (W.frame _ _ _ st' fun b hb o q => (Heap.get?_update_other _ _ (fun z : S = b => hf (by rw [z]; exact hb))).trans q) (.inr ⟨v, Nat.succ_pos _, rfl, by rw [ej, hb, if_pos rfl]; exact hP⟩) (Heap.get?_update_self _ hS' rfl) fun v' h2 tk2 q2 k2 => ?_⟩
        exact hR v' h2 tk2 q2 fun b o h1 h2 q => k2 b o h1 h2 ((Heap.get?_update_other _ _ (Ne.symm h2)).trans (k' b o h1 q))
      | false =>
        simp only [Bool.false_eq_true, if_false]
        refine wpAny_bind (wpAny_letGo ?_); rw [hn]
        refine wpAny_pure ⟨plainId_quiet F.plain_max_loop _, ih (j + 1) _ #[vb, vb] c (by omega) hlt st' (.inr ⟨vb, Nat.succ_pos _, rfl, by rw [ej, hb, if_neg Bool.false_ne_true]; exact pb⟩) hS' fun v' h2 tk2 q2 k2 => ?_⟩
        exact hR v' h2 tk2 q2 fun b o h1 h2 q => k2 b o h1 h2 (k' b o h1 q)
end
section
variable {prog : Program} {w : World} {A : Around} {E : Value → Shared → Prop} {s : Shared} {d : Value} {Q : Value → Shared → Prop}
theorem maxd_walk {x : Value} (h : wpAny (model prog w) A.in1 (pyIter x) (fun it s₂ => ∃ I fp wr n P St bt, it = .ref I ∧ Walks prog w A.in1 I fp wr n P St ∧ St 0 s₂.heap ∧ (∀ b ∈ fp, b < s₂.heap.objs.size) ∧ CmpOf prog w A.in1 .Gt P bt ∧
    ∀ v h' tk, ((n = 0 ∧ v = d) ∨ (0 < n ∧ P (argBest bt (n - 1)) v)) → (∀ b o, b ∉ wr → s₂.heap.get? b = some o → h'.get? b = some o) → Q v { s₂ with heap := h', toks := tk }) E s) (ha : argsOk "max" ⟨[x], dkw d⟩) :
    wpAny (model prog w) A (call (.builtin "max") [x] (dkw d)) Q E s := by
  have hn : (toString "max" ++ toString ".loop" : String) = "max.loop" := by decide
  refine PyProof.Rows.kmk_tree F.kind_max F.plain_max F.entry_max ha ?_
  show wpAny _ A.in1 (Builtin.Builtins.bindParams "max" ["key", "default"] 0 ⟨[], dkw d⟩ >>= _) _ _ s; refine wpAny_bind (wpAny_of_eq (show Builtin.Builtins.bindParams "max" ["key", "default"] 0 ⟨[], dkw d⟩ = pure [none, some d] from rfl) ?_)
  refine wpAny_bind (wpAny_pure (wpAny_bind (wpAny_mono h (fun it s₂ h₂ => ?_) fun _ _ e => e)))
  obtain ⟨I, fp, wr, n, P, St, bt, rfl, W, st, hfp, hc, hQ⟩ := h₂
  refine wpAny_bind (wpAny_newObj_type ?_); rw [hn]
  have hf : s₂.heap.objs.size ∉ fp := fun hm => Nat.lt_irrefl _ (hfp _ hm)
  refine wpAny_pure ⟨plainId_quiet F.plain_max_loop _, mxd_loop W bt hc hf _ 0 _ #[] _ rfl (Nat.zero_le _) (W.frame _ _ _ st fun b _ o e => Heap.get?_push_of_some _ e) (.inl ⟨rfl, rfl⟩) (Heap.get?_push_size _ rfl) fun v h' tk hP hk => ?_⟩
  exact hQ v h' tk hP fun b o hb e => hk b o hb (Nat.ne_of_lt (Heap.lt_size e)) (Heap.get?_push_of_some _ e)
end
open PySem.Spec PyProof.Rows L2
theorem args_maxd (a v : Value) : argsOk "max" ⟨[a], dkw v⟩ := by
  unfold argsOk
  kernel_rfl
def rMaxD0 (K : PySem.W.Frag) : List V → List V → Hp → VK → Prop := fun xs zs H Q => ∃ (a : Addr) (ns : List Int) (d : Int), xs = [.ref a] ∧ zs = [.int d] ∧ SqL K H a (ns.map V.int) ∧ (ns = [] → Q (.int d) H) ∧ ∀ m ∈ ns, (∀ y ∈ ns, y ≤ m) → Q (.int m) H
theorem cr_maxD0 {X : Cx} (hc : X.calm = true) : CallRK X (.builtin "max") [Str.ofString "default"] (rMaxD0 X.K) := by
  intro pins s σ H vs zs us ws Q I r1 r2 h
  obtain ⟨a, ns, d, rfl, rfl, hs, q0, q1⟩ := h
  obtain ⟨its, rv, hl, _⟩ := I.list hs
  rw [Vals.ref1 r1]
  cases r2 with
  | cons rd r2 =>
  cases r2
  obtain ⟨t, rfl⟩ := rd
  have hi := rv.ints
  obtain ⟨ys, e⟩ := hi.allInts.items
  have hn : numsOf (intItems ys).toList = ns := by rw [← e]; exact hi.numsOf
  rw [nums_intItems] at hn
  subst hn
  have hl' : s.heap.IsList a (intItems ys) := by rw [← e]; exact hl.isList
  show wpAny _ _ (call (.builtin "max") [.ref a] (dkw (.int d t))) _ _ _
  refine maxd_walk (iter_intList hl' fun s₂ e2 st hfp hlI => ?_) (args_maxd _ _)
  subst e2
  refine ⟨_, _, _, _, _, _, _, rfl, Walks.list (A := X.A.in1) (I.ok.hd hc) _ a hlI (intItems ys), st, hfp, CmpOf.ints_gt (numAt ys) (fun _ _ => intItems_at), fun v h' tk hP hk => ?_⟩
  have I' : Inv X pins σ H { s with heap := h', toks := tk } := I.kept (old_kept hk)
  have hsz : (intItems ys).size = ys.size := by simp [intItems]
  rw [hsz] at hP
  rcases hP with ⟨n0, rfl⟩ | ⟨n1, hP⟩
  · exact ⟨.int d, H, I', ⟨t, rfl⟩, q0 (List.eq_nil_of_length_eq_zero (by rw [List.length_map, Array.length_toList]; exact n0))⟩
  · obtain ⟨u, rfl⟩ := intItems_at hP
    obtain ⟨h1, h2⟩ := argBest_gt (numAt ys) (ys.size - 1)
    refine ⟨.int _, H, I', ⟨u, rfl⟩, q1 _ ?_ fun y hy => ?_⟩
    · rw [numAt_eq]; exact PySem.getD_mem (by rw [List.length_map, Array.length_toList]; omega)
    · obtain ⟨j, hj, rfl⟩ := mem_getD hy; rw [List.length_map, Array.length_toList] at hj; rw [← numAt_eq]; exact h2 j (by omega)
/-- a list's item, by values -/
theorem get_list {X : Cx} : PGet X fun x y H Q => 0 ≤ (match y with | .int i => i | _ => 0) ∧ rIxL X.K x y H Q := by
  intro pins s σ H o i ov iv Q I r1 r2 h
  obtain ⟨h0, p, xs, k, z, rfl, rfl, hq, he, q⟩ := h
  cases r1
  obtain ⟨t, rfl⟩ := r2
  obtain ⟨its, r, pl, hz⟩ := I.list hq
  obtain ⟨j, e1, e2, e3, e4, e5⟩ := atI_get he
  obtain ⟨u, eu, ru⟩ := r.get e2
  have hj : k.toNat = j := by
    rw [seqIndex_of h0 e5] at e1
    exact Option.some.inj e1
  have hl := r.length
  have hn := line63
  exact wpAny_getItem_list pl.isList h0 (by omega) (by rw [hj]; simpa using eu) ⟨z, H, I, ru, q⟩
/-- sum of a tuple of numbers -/
def rSumT (K : PySem.W.Frag) : List V → Hp → VK → Prop := fun vs H Q => ∃ (a : Addr) (ns : List Int), vs = [V.ref a] ∧ SqT K H a (ns.map V.int) ∧ Q (.int ns.sum) H
theorem cr_sumT {X : Cx} (hc : X.calm = true) : CallR X (.builtin "sum") (rSumT X.K) := by
  intro pins s σ H vs us Q I r h
  obtain ⟨a, ns, rfl, hs, q⟩ := h
  obtain ⟨its, rv, ht, _⟩ := I.tuple hs
  rw [Vals.ref1 r]
  have hi := rv.ints
  obtain ⟨ys, e⟩ := hi.allInts.items
  have hn : numsOf (intItems ys).toList = ns := by rw [← e]; exact hi.numsOf
  rw [nums_intItems] at hn
  have ht' : s.heap.IsTuple a (intItems ys) := by rw [← e]; exact ht
  have hlt : a < s.heap.objs.size := by obtain ⟨_, g, _⟩ := ht'; exact Heap.lt_size g
  refine call_sum_walkG (wpAny_pyIter_tuple ht' ?_)
  refine ⟨s.heap.objs.size, _, _, _, _, _, numAt ys, rfl, Walks.tuple (A := X.A.in1) (I.ok.hd hc) _ a (Nat.ne_of_lt hlt) (intItems ys), ⟨⟨_, Heap.get?_push_size _ rfl, rfl, rfl⟩, ?_⟩, fun b hb => ?_, (fun _ _ => intItems_at), fun h' tk t' hk => ?_⟩
  · obtain ⟨o, g, k1, k2⟩ := ht'
    exact ⟨o, Heap.get?_push_of_some _ g, k1, k2⟩
  · show b < (s.heap.push _).objs.size
    rw [Heap.size_push]
    have hb' : b = s.heap.objs.size ∨ b = a := by simpa using hb
    rcases hb' with z | z
    · rw [z]; exact Nat.lt_succ_self _
    · rw [z]; exact Nat.lt_succ_of_lt hlt
  · have kk : ∀ b o, s.heap.get? b = some o → h'.get? b = some o := fun b o g => hk b o (fun hm => by
      have : b = s.heap.objs.size := by simpa using hm
      rw [this] at g
      exact absurd (Heap.lt_size g) (Nat.lt_irrefl _)) (Heap.get?_push_of_some _ g)
    have I' : Inv X pins σ H { s with heap := h', toks := tk } := I.kept kk
    refine ⟨.int ns.sum, H, I', ⟨t', ?_⟩, q⟩
    have hsz : (intItems ys).size = ys.size := by simp [intItems]
    rw [hsz, preSum_eq, List.take_of_length_le (by simp), hn]
end KQ
set_option Elab.async false
set_option maxRecDepth 100000
set_option maxHeartbeats 4000000
/-! B10: a list grown by a tuple's items. -/
namespace KQ
open PySem PySem.Spec PyProof.Rows L2
theorem ext_tup (l b : Addr) (mine its : Array Value) (n n2 : Nat) (dd : Option Addr) (sl : Array (Option Value)) (c0 : ¬(!mine.isEmpty && Builtin.List.listTooLong (mine.size + its.size)) = true) (c1 : mine.size ≤ sizeLine) (c2 : (mine ++ its).size ≤ sizeLine + 1) :
    Meets (Builtin.«list.extend» ⟨[.ref l, .ref b], []⟩)
      (fun _ R s => s.heap.get? l = some { cls := .type "list", dict := none, data := .seq mine n, slots := #[] } ∧ s.heap.get? b = some { cls := .type "tuple", dict := dd, data := .seq its n2, slots := sl } ∧
        R (.ok (.ret Value.none)) { s with heap := s.heap.update l (Obj.mapSeq fun x => x ++ its), toks := s.toks }) := by
  refine .of_wp fun prog w A R s h => ?_
  obtain ⟨hp, g, d, tk, os⟩ := s
  obtain ⟨hl, hb, h⟩ := h
  have z1 := AutoSeq1.idx_int
  have z2 := AutoSeq1.sub_tuple_tuple
  have z3 := AutoSeq1.sub_list_list
  have z4 := AutoSeq1.sub_tuple_list
  have z5 := AutoSeq1.sub_list_tuple
  wp_walk using (wpAny_updateSeq hl rfl (hz := c1) (_hz' := c2)), wpAny_loadPart' hl, wpAny_loadPart' hb
  exact ⟨_, rfl, h⟩
section
variable {X : Cx}
def rExtendT (K : PySem.W.Frag) : V → List V → Hp → VK → Prop := fun x vs H Q => ∃ l b xs zs, x = .ref l ∧ vs = [.ref b] ∧ H l = some (.lst xs) ∧ SqT K H b zs ∧ xs.length + zs.length ≤ sizeLine ∧ Q .non (upd H l (.lst (xs ++ zs)))
theorem mt_extendT : MtM X "list.extend" (rExtendT X.K) := by
  intro pins s σ H x vs v us Q I rx rv h
  obtain ⟨l, b, xs, zs, rfl, rfl, hH, hB, hz, q⟩ := h
  cases rx
  obtain ⟨u, rfl, ru⟩ := rv.one
  cases ru
  obtain ⟨z, its, n, r, hl, e⟩ := I.lstM hH
  obtain ⟨its2, r2, ⟨⟨cls, dd, data, sl⟩, e2, hc, n2, hd⟩, hl2⟩ := I.tuple hB
  simp only at hc hd
  subst hc hd
  have l2 := r2.length
  have hsz : its.toArray.size + its2.toArray.size ≤ sizeLine := by rw [List.size_toArray, List.size_toArray]; omega
  have hlong : ¬ (!its.toArray.isEmpty && Builtin.List.listTooLong (its.toArray.size + its2.toArray.size)) = true := by
    rw [notLongL hsz, Bool.and_false]
    exact Bool.false_ne_true
  refine call_meets F.slot_list_extend ⟨_, e, rfl⟩ F.entry_list_extend (F.args_list_extend_2 _ _)
    (ext_tup l b its.toArray its2.toArray n n2 dd sl hlong (by rw [List.size_toArray]; omega) (by rw [Array.size_append]; omega)) ⟨e, e2, ?_⟩
  refine ⟨.non, _, I.lset (its' := its ++ its2) hH e (by simp) (r.append r2) ?_, rfl, q⟩
  rw [List.length_append]
  omega
end
end KQ
set_option Elab.async false
set_option maxRecDepth 100000
set_option maxHeartbeats 4000000
/-! B11: things by their types alone; max of a tuple. -/
namespace KQ
open PySem PySem.Spec PyProof.Rows L2
def rInt1 : List V → Hp → VK → Prop := fun xs H Q => (∃ i, xs = [.int i] ∧ Q (.int i) H) ∨ ∃ k, xs = [.bl k] ∧ Q (.int (if k then 1 else 0)) H
/-- a thing and the name of its type -/
inductive Dt (H : Hp) : V → String → Prop
  | non : Dt H .non "NoneType"
  | bl (b : Bool) : Dt H (.bl b) "bool"
  | int (i : Int) : Dt H (.int i) "int"
  | str (x : Str) : Dt H (.str x) "str"
  | lst {a : Addr} {xs : List V} (e : H a = some (.lst xs)) : Dt H (.ref a) "list"
  | tup {a : Addr} {xs : List V} (e : H a = some (.tup xs)) : Dt H (.ref a) "tuple"
  | dK {a : Addr} {kvs : List (Key × V)} (e : H a = some (.dK kvs)) : Dt H (.ref a) "dict"
theorem Dt.ty {K : PySem.W.Frag} {H : Hp} {v : V} {t : String} (d : Dt H v t) : TyX K H v (.type t) := by
  cases d with
  | non => exact .base .non
  | bl b => exact .base (.bl b)
  | int i => exact .base (.int i)
  | str x => exact .base (.str x)
  | lst e => exact .base (.lst e)
  | tup e => exact .base (.tup e)
  | dK e => exact .base (.dK e)
theorem Dt.in_ {H : Hp} {v : V} {t : String} (d : Dt H v t) : t ∈ tyNs := by cases d <;> simp [tyNs]
theorem Dt.kp {H H' : Hp} {v : V} {t : String} (d : Dt H v t) (k : ∀ a o, v = .ref a → H a = some o → H' a = some o) : Dt H' v t := by
  cases d with
  | non => exact .non
  | bl b => exact .bl b
  | int i => exact .int i
  | str x => exact .str x
  | lst e => exact .lst (k _ _ rfl e)
  | tup e => exact .tup (k _ _ rfl e)
  | dK e => exact .dK (k _ _ rfl e)
theorem Dt.same {H H' : Hp} {v : V} {t : String} (d : Dt H v t) (s : Same H H') : Dt H' v t := d.kp fun a o _ e => s a o e
abbrev isTy (T t : String) : Bool := t == T || (T == "int" && t == "bool")
theorem kd_T {K : PySem.W.Frag} {T : String} (h : ∀ s ∈ tyNs, kitB s T = some (s == T || (T == "int" && s == "bool"))) {H : Hp} {v : V} {t : String} (d : Dt H v t) : PySem.W.kitOne K (.type t) (.type T) = some (isTy T t) := kit_ty (h _ d.in_)
theorem Dt.kint {K : PySem.W.Frag} {H : Hp} {v : V} {t : String} (d : Dt H v t) : PySem.W.kitOne K (.type t) (.type "int") = some (isTy "int" t) := kd_T (by decide +kernel) d
theorem Dt.kbool {K : PySem.W.Frag} {H : Hp} {v : V} {t : String} (d : Dt H v t) : PySem.W.kitOne K (.type t) (.type "bool") = some (isTy "bool" t) := kd_T (by decide +kernel) d
theorem Dt.ktuple {K : PySem.W.Frag} {H : Hp} {v : V} {t : String} (d : Dt H v t) : PySem.W.kitOne K (.type t) (.type "tuple") = some (isTy "tuple" t) := kd_T (by decide +kernel) d
theorem Dt.klist {K : PySem.W.Frag} {H : Hp} {v : V} {t : String} (d : Dt H v t) : PySem.W.kitOne K (.type t) (.type "list") = some (isTy "list" t) := kd_T (by decide +kernel) d
theorem Dt.kstr {K : PySem.W.Frag} {H : Hp} {v : V} {t : String} (d : Dt H v t) : PySem.W.kitOne K (.type t) (.type "str") = some (isTy "str" t) := kd_T (by decide +kernel) d
theorem Rp.dt {N : Addr → Prop} {H : Hp} {v : V} {d : PyData} (r : Rp N H v d) : Dt H v (tyN d) := by
  cases r with
  | non => exact .non
  | bl b => exact .bl b
  | int i => exact .int i
  | str x => exact .str x
  | lst e _ _ => exact .lst e
  | tup e _ _ => exact .tup e
  | emp e _ => exact .dK e
/-- max of a tuple of numbers -/
def rMaxT (K : PySem.W.Frag) : List V → Hp → VK → Prop := fun vs H Q => ∃ (a : Addr) (ns : List Int), vs = [V.ref a] ∧ SqT K H a (ns.map V.int) ∧ 0 < ns.length ∧ ∀ m, m ∈ ns → (∀ y, y ∈ ns → y ≤ m) → Q (.int m) H
theorem cr_maxT {X : Cx} (hc : X.calm = true) : CallR X (.builtin "max") (rMaxT X.K) := by
  intro pins s σ H vs us Q I r h
  obtain ⟨a, ns, rfl, hs, hne, q⟩ := h
  obtain ⟨its, rv, ht, _⟩ := I.tuple hs
  rw [Vals.ref1 r]
  have hi := rv.ints
  obtain ⟨ys, e⟩ := hi.allInts.items
  have hn : numsOf (intItems ys).toList = ns := by rw [← e]; exact hi.numsOf
  rw [nums_intItems] at hn
  have ht' : s.heap.IsTuple a (intItems ys) := by rw [← e]; exact ht
  have hlt : a < s.heap.objs.size := by obtain ⟨_, g, _⟩ := ht'; exact Heap.lt_size g
  have hsz : (intItems ys).size = ys.size := by simp [intItems]
  have hpos : 0 < ys.size := by
    rw [← hn, List.length_map, Array.length_toList] at hne
    exact hne
  refine call_max_walk (wpAny_pyIter_tuple ht' ?_)
  refine ⟨s.heap.objs.size, _, _, _, _, _, _, rfl, Walks.tuple (A := X.A.in1) (I.ok.hd hc) _ a (Nat.ne_of_lt hlt) (intItems ys), ⟨⟨_, Heap.get?_push_size _ rfl, rfl, rfl⟩, ?_⟩, fun b hb => ?_, by rw [hsz]; exact hpos, CmpOf.ints_gt (numAt ys) (fun _ _ => intItems_at), fun v h' tk hP hk => ?_⟩
  · obtain ⟨o, g, k1, k2⟩ := ht'
    exact ⟨o, Heap.get?_push_of_some _ g, k1, k2⟩
  · show b < (s.heap.push _).objs.size
    rw [Heap.size_push]
    have hb' : b = s.heap.objs.size ∨ b = a := by simpa using hb
    rcases hb' with z | z
    · rw [z]; exact Nat.lt_succ_self _
    · rw [z]; exact Nat.lt_succ_of_lt hlt
  · have kk : ∀ b o, s.heap.get? b = some o → h'.get? b = some o := fun b o g => hk b o (fun hm => by
      have : b = s.heap.objs.size := by simpa using hm
      rw [this] at g
      exact absurd (Heap.lt_size g) (Nat.lt_irrefl _)) (Heap.get?_push_of_some _ g)
    have I' : Inv X pins σ H { s with heap := h', toks := tk } := I.kept kk
    rw [hsz] at hP
    obtain ⟨u, rfl⟩ := intItems_at hP
    obtain ⟨h1, h2⟩ := argBest_gt (numAt ys) (ys.size - 1)
    subst hn
    refine ⟨.int _, H, I', ⟨u, rfl⟩, q _ ?_ fun y hy => ?_⟩
    · rw [numAt_eq]; exact PySem.getD_mem (by rw [List.length_map, Array.length_toList]; omega)
    · obtain ⟨j, hj, rfl⟩ := mem_getD hy; rw [List.length_map, Array.length_toList] at hj; rw [← numAt_eq]; exact h2 j (by omega)
end KQ
namespace KQ
open PySem PySem.Spec PyProof.Rows L2
theorem same_new0 {H : Hp} {p : Addr} {o : HO} (h : H p = none) : Same H (upd H p o) := fun b u q => by rw [upd_ne (ne_of_none q h)]; exact q
theorem sput {H H1 : Hp} {x : Addr} {o : HO} (s : Same H H1) (h : H x = none) : Same H (upd H1 x o) := fun b u q => by
  rw [upd_ne (ne_of_none q h)]
  exact s b u q
theorem snew {H H1 : Hp} {x : Addr} {o : HO} (s : Same H H1) (h : H1 x = none) : Same H (upd H1 x o) := fun b u q => by
  rw [upd_ne (ne_of_none (s b u q) h)]
  exact s b u q
theorem kp_same {N : Addr → Prop} {H H1 : Hp} (s : Same H H1) : Kp N H H1 := fun a o e _ => s a o e
/-! ### a comprehension by the list that grows -/
structure Snoc (D : Addr) (Pn : Hp → Prop) (y : V) (H : Hp) : Prop where
  h : ∃ acc, H D = some (.lst acc) ∧ acc.length < sizeLine ∧ Pn (upd H D (.lst (acc ++ [y])))
theorem snoc_eq (D : Addr) (Pn : Hp → Prop) (y : V) (H : Hp) : Snoc D Pn y H = ∃ acc, H D = some (.lst acc) ∧ acc.length < sizeLine ∧ Pn (upd H D (.lst (acc ++ [y]))) := propext ⟨fun q => q.h, fun q => ⟨q⟩⟩
section
variable {J : It} {n : Nat} {G : Hp → Prop} {Y : Nat → Hp → V → Hp → Prop}
theorem lc_acc (w : Walk J n G Y) {g : TG} {tt : TT} {te : TE} {vs : List Nat} {σ : L2.St} {H1 : Hp} {D : Addr} {Qd : Hp → Prop} (acc : Nat → List V) (I : Nat → Hp → Prop) (N : Addr → Prop)
    (nN : ¬ N D) (nD : H1 D = none) (hsz : ∀ i, i < n → (acc i).length < sizeLine) (a0 : acc 0 = []) (i0 : I 0 (upd H1 D (.lst []))) (hI : ∀ i H xs, Kp N H1 H → I i H → I i (upd H D (.lst xs)))
    (hG : ∀ i H, i ≤ n → Kp N H1 H → I i H → G H)
    (hs : ∀ i x H H' (Pn : Hp → Prop), i < n → Kp N H1 H → H D = some (.lst (acc i)) → I i H → Y i H x H' → (∀ y H4, acc (i + 1) = acc i ++ [y] → Kp N H H4 → I (i + 1) H4 → Snoc D Pn y H4) → (∀ H4, acc (i + 1) = acc i → Kp N H H4 → I (i + 1) H4 → Pn H4) →
      g x (wipe σ vs) H' fun σ2 H2 => wipe σ2 vs = wipe σ vs ∧ tt σ2 H2 fun b H3 => if b = true then te σ2 H3 fun y H4 => Snoc D Pn y H4 else Pn H3)
    (hd : ∀ H, Kp N H1 H → H D = some (.lst (acc n)) → I n H → Qd H) :
    ∃ W : Nat → Nat → Hp → Prop, (∃ m, W 0 m (upd H1 D (.lst []))) ∧ ∀ i m H, W i m H →
      (J.stop i H ∧ Qd H) ∨ (J.go i H ∧ ∃ Nx : Hp → Prop, (∀ H', Nx H' → ∃ m', m' < m ∧ W (i + 1) m' H') ∧ ∀ x H', J.yld i H x H' → g x (wipe σ vs) H' fun σ2 H2 => wipe σ2 vs = wipe σ vs ∧ tt σ2 H2 fun b H3 =>
        if b = true then te σ2 H3 fun y H4 => ∃ acc, H4 D = some (.lst acc) ∧ acc.length < sizeLine ∧ Nx (upd H4 D (.lst (acc ++ [y]))) else Nx H3) := by
  have kD : ∀ {H xs}, Kp N H1 H → Kp N H1 (upd H D (.lst xs)) := fun {H xs} k a o e na => by
    rw [upd_ne (ne_of_none e nD)]
    exact k a o e na
  refine lc_it w (fun i H => Kp N H1 H ∧ H D = some (.lst (acc i)) ∧ I i H) ⟨kD Kp.refl, by rw [a0]; exact upd_same, i0⟩ (fun i H hi q => hG i H hi q.1 q.2.2) (fun i x H H' hi q y => ?_) fun H q => hd H q.1 q.2.1 q.2.2
  obtain ⟨q1, q2, q3⟩ := q
  have z := hs i x H H' (fun H => Kp N H1 H ∧ H D = some (.lst (acc (i + 1))) ∧ I (i + 1) H) hi q1 q2 q3 y
    (fun y H4 e k j => ⟨acc i, k D _ q2 nN, hsz i hi, kD (q1.trans k), by rw [upd_same, e], hI (i + 1) H4 _ (q1.trans k) j⟩) fun H4 e k j => ⟨q1.trans k, by rw [e]; exact k D _ q2 nN, j⟩
  simp only [snoc_eq] at z
  exact z
/-- .. each item gives one -/
theorem lc_map (w : Walk J n G Y) {g : TG} {te : TE} {vs : List Nat} {σ : L2.St} {H1 : Hp} {D : Addr} {Qd : Hp → Prop} (ys : List V) (hn : ys.length = n) (nD : H1 D = none) (hz : n ≤ 16777216)
    (hG : ∀ i H, i ≤ n → Same H1 H → G H)
    (hs : ∀ i x H H' (Pn : Hp → Prop), i < n → Same H1 H → Y i H x H' → (∀ y H4, ys[i]? = some y → Same H H4 → Snoc D Pn y H4) → g x (wipe σ vs) H' fun σ2 H2 => wipe σ2 vs = wipe σ vs ∧ te σ2 H2 fun y H4 => Snoc D Pn y H4)
    (hd : ∀ H, Same H1 H → H D = some (.lst ys) → Qd H) :
    ∃ W : Nat → Nat → Hp → Prop, (∃ m, W 0 m (upd H1 D (.lst []))) ∧ ∀ i m H, W i m H →
      (J.stop i H ∧ Qd H) ∨ (J.go i H ∧ ∃ Nx : Hp → Prop, (∀ H', Nx H' → ∃ m', m' < m ∧ W (i + 1) m' H') ∧ ∀ x H', J.yld i H x H' → g x (wipe σ vs) H' fun σ2 H2 => wipe σ2 vs = wipe σ vs ∧ tYes σ2 H2 fun b H3 =>
        if b = true then te σ2 H3 fun y H4 => ∃ acc, H4 D = some (.lst acc) ∧ acc.length < sizeLine ∧ Nx (upd H4 D (.lst (acc ++ [y]))) else Nx H3) := by
  have sm : ∀ {H H' : Hp}, Kp (fun _ => False) H H' → Same H H' := fun k a o e => k a o e (fun z => z)
  refine lc_acc w (fun i => ys.take i) (fun _ _ => True) (fun _ => False) (fun z => z) nD (fun i hi => ?_) rfl trivial (fun _ _ _ _ _ => trivial) (fun i H hi k _ => hG i H hi (sm k)) (fun i x H H' Pn hi k _ _ y fin _ => ?_) fun H k e _ => hd H (sm k) (by rw [← hn, List.take_length] at e; exact e)
  · rw [List.length_take, sizeLine_eq]
    omega
  · have z := hs i x H H' Pn hi (sm k) y fun y H4 e s => fin y H4 (by rw [List.take_add_one, e]; rfl) (kp_same s) trivial
    have e : (fun (σ2 : L2.St) (H2 : Hp) => wipe σ2 vs = wipe σ vs ∧ tYes σ2 H2 fun b H3 => if b = true then te σ2 H3 fun y H4 => Snoc D Pn y H4 else Pn H3) = fun σ2 H2 => wipe σ2 vs = wipe σ vs ∧ te σ2 H2 fun y H4 => Snoc D Pn y H4 := by
      funext σ2 H2
      have e2 : tYes σ2 H2 (fun b H3 => if b = true then te σ2 H3 fun y H4 => Snoc D Pn y H4 else Pn H3) = te σ2 H2 fun y H4 => Snoc D Pn y H4 := by
        show (if true = true then te σ2 H2 (fun y H4 => Snoc D Pn y H4) else Pn H2) = _
        exact if_pos rfl
      rw [e2]
    rw [e]
    exact z
end
theorem same_kpF {H H' : Hp} (k : Kp (fun _ => False) H H') : Same H H' := fun a o e => k a o e (fun z => z)
theorem sIx_none (n d : Nat) : HT.sIx n d none = d := rfl
theorem sIx_some (n d k : Nat) : HT.sIx n d (some (k : Int)) = min k n := HT.sIx_nat n d k
theorem cut_take {xs : List V} (k : Nat) : cutV xs none (some (k : Int)) = xs.take k := by
  rw [cutV, sIx_none, sIx_some, List.drop_zero, Nat.sub_zero]
  by_cases h : k ≤ xs.length
  · rw [Nat.min_eq_left h]
  · rw [Nat.min_eq_right (by omega), List.take_length, List.take_of_length_le (by omega)]
theorem cut_drop {xs : List V} (k : Nat) : cutV xs (some (k : Int)) none = xs.drop k := by
  rw [cutV, sIx_none, sIx_some]
  by_cases h : k ≤ xs.length
  · rw [Nat.min_eq_left h, List.take_of_length_le (by rw [List.length_drop]; omega)]
  · rw [Nat.min_eq_right (by omega), List.drop_length, List.drop_of_length_le (by omega), List.take_nil]
theorem walk_zipT {K : PySem.W.Frag} {a b : Addr} {xs ys : List V} {n : Nat} (hn : n = min xs.length ys.length) : Walk (RZ.ItzT K a b) n (fun H => SqT K H a xs ∧ SqT K H b ys) (YPair (fun i => xs[i]?) (fun i => ys[i]?)) := by
  subst hn
  refine ⟨fun i _ hi q => ?_, fun _ q => ⟨xs, ys, q.1, q.2, by omega⟩, fun i H v H' _ q y => ?_⟩
  · have h1 : i < xs.length := by omega
    have h2 : i < ys.length := by omega
    exact ⟨xs, ys, xs[i], ys[i], q.1, q.2, by simp [h1], by simp [h2]⟩
  · obtain ⟨T, x, z, h1, h2, h3, h4, h5⟩ := y
    exact ⟨T, x, z, h1, h2, h3, h4 xs q.1, h5 ys q.2⟩
/-- as a comprehension's turn over zip is met: a new pair -/
theorem ypair {xs ys : List V} {i : Nat} {H H' : Hp} {v : V} (y : YPair (fun i => xs[i]?) (fun i => ys[i]?) i H v H') : ∃ T x z, v = .ref T ∧ H T = none ∧ H' = upd H T (.tup [x, z]) ∧ xs[i]? = some x ∧ ys[i]? = some z := y
theorem cut_whole {xs : List V} {lo hi : Option Int} (h : HT.sIx xs.length 0 lo = 0 ∧ HT.sIx xs.length xs.length hi = xs.length) : cutV xs lo hi = xs := by
  rw [cutV, h.1, h.2, List.drop_zero, Nat.sub_zero, List.take_length]
theorem sl_go {K : PySem.W.Frag} {H : Hp} {a : Addr} {xs : List V} {lo hi : Option Int} {Q : VK} (ha : H a = some (.tup xs)) (h : ∀ b H1, Same H H1 → H1 b = some (.tup (cutV xs lo hi)) → Q (.ref b) H1) : rSlA K (.ref a) lo hi H Q :=
  ⟨a, xs, rfl, SqT.of ha, fun w => h a H (Same.refl H) (by rw [cut_whole w]; exact ha), fun _ p np => h p _ (same_new0 np) upd_same⟩
theorem cat_go {K : PySem.W.Frag} {H : Hp} {a b : Addr} {xs ys : List V} {Q : VK} (ha : H a = some (.tup xs)) (hb : H b = some (.tup ys)) (hz : xs.length + ys.length ≤ 16777216) (h : ∀ c H1, Same H H1 → H1 c = some (.tup (xs ++ ys)) → Q (.ref c) H1) : rCatA K (.ref a) (.ref b) H Q :=
  ⟨a, b, xs, ys, rfl, rfl, SqT.of ha, SqT.of hb, by rw [sizeLine_eq]; exact hz, fun e => h b H (Same.refl H) (by rw [e]; exact hb), fun _ e => h a H (Same.refl H) (by rw [e, List.append_nil]; exact ha), fun _ _ p np => h p _ (same_new0 np) upd_same⟩
theorem cut1 {xs : List V} : cutV xs (some 1) none = xs.drop 1 := cut_drop 1
end KQ
set_option Elab.async false
set_option maxRecDepth 100000
set_option maxHeartbeats 4000000
/-! B12: shares: the numbers that they are. -/
namespace KQ
open PySem PySem.Spec PyProof.Rows L2
/-- the places of a set below n as a number, place -1 first -/
def Vs (S : Int → Bool) : Nat → Nat
  | 0 => (S (-1)).toNat
  | j + 1 => 2 * Vs S j + (S (j : Int)).toNat
def put (S : Int → Bool) (p : Int) (b : Bool) : Int → Bool := fun q => if q = p then b else S q
theorem Vs_congr {S T : Int → Bool} : ∀ {n : Nat}, (∀ q : Int, -1 ≤ q → q < n → S q = T q) → S (-1) = T (-1) → Vs S n = Vs T n
  | 0, _, h => by simp only [Vs]; rw [h]
  | j + 1, h, h0 => by
    simp only [Vs]
    rw [Vs_congr (n := j) (fun q a b => h q a (by omega)) h0, h (j : Int) (by omega) (by omega)]
theorem Vs_put {S : Int → Bool} {p : Int} (h : S p = false) : ∀ {n : Nat}, -1 ≤ p → p < n → Vs (put S p true) n = Vs S n + 2 ^ (n - (p + 1).toNat)
  | 0, a, b => by
    obtain rfl : p = -1 := by omega
    simp [Vs, put, h]
  | j + 1, a, b => by
    simp only [Vs]
    by_cases e : p = j
    · subst e
      rw [Vs_congr (S := put S j true) (T := S) (fun q a b => by unfold put; rw [if_neg (by omega)]) (by unfold put; rw [if_neg (by omega)]), show put S (j : Int) true (j : Int) = true by simp [put], h]
      rw [show j + 1 - ((j : Int) + 1).toNat = 0 by omega]
      rfl
    · rw [Vs_put h (n := j) a (by omega), show put S p true (j : Int) = S (j : Int) by unfold put; rw [if_neg (fun z => e z.symm)]]
      rw [show j + 1 - (p + 1).toNat = (j - (p + 1).toNat) + 1 by omega, Nat.pow_succ]
      omega
theorem put_put {S : Int → Bool} {p : Int} (h : S p = true) : put (put S p false) p true = S := by
  funext q
  unfold put
  by_cases e : q = p
  · rw [if_pos e, e, h]
  · rw [if_neg e, if_neg e]
theorem Vs_del {S : Int → Bool} {p : Int} (h : S p = true) {n : Nat} (a : -1 ≤ p) (b : p < n) : Vs S n = Vs (put S p false) n + 2 ^ (n - (p + 1).toNat) := by
  have q := Vs_put (S := put S p false) (p := p) (by simp [put]) (n := n) a b
  rwa [put_put h] at q
theorem Vs_inj {S T : Int → Bool} : ∀ {n : Nat}, Vs S n = Vs T n → ∀ q : Int, -1 ≤ q → q < n → S q = T q
  | 0, e, q, a, b => by
    obtain rfl : q = -1 := by omega
    simp only [Vs] at e
    revert e
    cases S (-1) <;> cases T (-1) <;> simp
  | j + 1, e, q, a, b => by
    simp only [Vs] at e
    have h1 : (S (j : Int)).toNat ≤ 1 := by cases S (j : Int) <;> simp
    have h2 : (T (j : Int)).toNat ≤ 1 := by cases T (j : Int) <;> simp
    by_cases c : q = j
    · subst c
      have : (S (j : Int)).toNat = (T (j : Int)).toNat := by omega
      revert this
      cases S (j : Int) <;> cases T (j : Int) <;> simp
    · exact Vs_inj (n := j) (by omega) q a (by omega)
theorem Vs_neg {S : Int → Bool} (h : S (-1) = true) : ∀ n : Nat, 2 ^ n ≤ Vs S n
  | 0 => by simp [Vs, h]
  | j + 1 => by
    have := Vs_neg h j
    simp only [Vs, Nat.pow_succ]
    omega
theorem Vs_zero {S : Int → Bool} (h : S 0 = true) : ∀ j : Nat, 2 ^ j ≤ Vs S (j + 1)
  | 0 => by simp [Vs, h]
  | j + 1 => by
    have := Vs_zero h j
    rw [Vs, Nat.pow_succ]
    omega
theorem Vs_more {S : Int → Bool} (h : S 0 = true) {p : Int} (hp : 1 ≤ p) (hS : S p = true) : ∀ j : Nat, p < j + 1 → 2 ^ j < Vs S (j + 1)
  | 0, b => by omega
  | j + 1, b => by
    rw [Vs, Nat.pow_succ]
    by_cases c : p = j + 1
    · have q := Vs_zero h j
      have : (S ((j + 1 : Nat) : Int)).toNat = 1 := by rw [show ((j + 1 : Nat) : Int) = p by omega, hS]; rfl
      omega
    · have := Vs_more h hp hS j (by omega)
      omega
theorem Vs_lt {S : Int → Bool} (h : S (-1) = false) (h0 : S 0 = false) : ∀ j : Nat, Vs S (j + 1) + 1 ≤ 2 ^ j
  | 0 => by
    simp only [Vs, h]
    rw [show ((0 : Nat) : Int) = 0 from rfl, h0]
    decide
  | j + 1 => by
    have := Vs_lt h h0 j
    have : (S ((j + 1 : Nat) : Int)).toNat ≤ 1 := by cases S ((j + 1 : Nat) : Int) <;> simp
    rw [Vs, Nat.pow_succ]
    omega
theorem Vs_up {S : Int → Bool} {n : Nat} (h : ∀ q : Int, n ≤ q → S q = false) : ∀ k : Nat, Vs S (n + k) = 2 ^ k * Vs S n
  | 0 => by simp
  | k + 1 => by
    rw [show n + (k + 1) = (n + k) + 1 by omega, Vs, Vs_up h k, h _ (by omega), Nat.pow_succ]
    show 2 * (2 ^ k * Vs S n) + 0 = _
    rw [Nat.add_zero, ← Nat.mul_assoc, Nat.mul_comm 2]
/-- the set's places, ascending -/
def lotS (S : Int → Bool) : Nat → List Int
  | 0 => if S (-1) then [-1] else []
  | j + 1 => lotS S j ++ if S (j : Int) then [(j : Int)] else []
def lotV : Nat → Nat → List Int
  | 0, W => if W % 2 = 1 then [-1] else []
  | j + 1, W => lotV j (W / 2) ++ if W % 2 = 1 then [(j : Int)] else []
theorem lotV_Vs {S : Int → Bool} : ∀ n : Nat, lotV n (Vs S n) = lotS S n
  | 0 => by cases h : S (-1) <;> simp [lotV, lotS, Vs, h]
  | j + 1 => by
    cases h : S (j : Int)
    · simp only [lotV, lotS, Vs, h]
      rw [show (2 * Vs S j + false.toNat) / 2 = Vs S j by show (2 * Vs S j + 0) / 2 = _; omega, show (2 * Vs S j + false.toNat) % 2 = 0 by show (2 * Vs S j + 0) % 2 = _; omega, lotV_Vs j]
      rfl
    · simp only [lotV, lotS, Vs, h]
      rw [show (2 * Vs S j + true.toNat) / 2 = Vs S j by show (2 * Vs S j + 1) / 2 = _; omega, show (2 * Vs S j + true.toNat) % 2 = 1 by show (2 * Vs S j + 1) % 2 = _; omega, lotV_Vs j]
      rfl
theorem mem_lotS {S : Int → Bool} {q : Int} : ∀ {n : Nat}, q ∈ lotS S n ↔ (-1 ≤ q ∧ q < n ∧ S q = true)
  | 0 => by
    simp only [lotS]
    cases h : S (-1)
    · simp only [Bool.false_eq_true, if_false, List.not_mem_nil, false_iff]
      rintro ⟨a, b, c⟩
      rw [show q = -1 by omega, h] at c
      cases c
    · simp only [if_true, List.mem_singleton]
      exact ⟨fun e => by subst e; exact ⟨by omega, by omega, h⟩, fun ⟨a, b, c⟩ => by omega⟩
  | j + 1 => by
    simp only [lotS, List.mem_append, mem_lotS (n := j)]
    cases h : S (j : Int)
    · simp only [Bool.false_eq_true, if_false, List.not_mem_nil, or_false]
      constructor
      · rintro ⟨a, b, c⟩
        exact ⟨a, by omega, c⟩
      · rintro ⟨a, b, c⟩
        refine ⟨a, ?_, c⟩
        by_cases e : q = j
        · rw [e, h] at c; cases c
        · omega
    · simp only [if_true, List.mem_singleton]
      constructor
      · rintro (⟨a, b, c⟩ | e)
        · exact ⟨a, by omega, c⟩
        · subst e; exact ⟨by omega, by omega, h⟩
      · rintro ⟨a, b, c⟩
        by_cases e : q = j
        · exact .inr e
        · exact .inl ⟨a, by omega, c⟩
theorem lotS_asc {S : Int → Bool} : ∀ n : Nat, (lotS S n).Pairwise (· < ·)
  | 0 => by
    simp only [lotS]
    split <;> simp
  | j + 1 => by
    simp only [lotS]
    refine List.pairwise_append.mpr ⟨lotS_asc j, by split <;> simp, fun a ha b hb => ?_⟩
    have := (mem_lotS.mp ha).2.1
    split at hb
    · simp only [List.mem_singleton] at hb
      omega
    · simp at hb
theorem asc_ext : ∀ {l m : List Int}, l.Pairwise (· < ·) → m.Pairwise (· < ·) → (∀ q, q ∈ l ↔ q ∈ m) → l = m
  | [], [], _, _, _ => rfl
  | [], y :: m, _, _, h => absurd ((h y).mpr (List.mem_cons_self ..)) (List.not_mem_nil)
  | x :: l, [], _, _, h => absurd ((h x).mp (List.mem_cons_self ..)) (List.not_mem_nil)
  | x :: l, y :: m, hl, hm, h => by
    obtain ⟨a, hl'⟩ := List.pairwise_cons.mp hl
    obtain ⟨b, hm'⟩ := List.pairwise_cons.mp hm
    have e : x = y := by
      rcases List.mem_cons.mp ((h x).mp (List.mem_cons_self ..)) with e | e
      · exact e
      · rcases List.mem_cons.mp ((h y).mpr (List.mem_cons_self ..)) with e2 | e2
        · exact e2.symm
        · have := b x e
          have := a y e2
          omega
    subst e
    refine congrArg (x :: ·) (asc_ext hl' hm' fun q => ?_)
    constructor
    · intro hq
      rcases List.mem_cons.mp ((h q).mp (List.mem_cons_of_mem _ hq)) with e | e
      · have := a q hq; omega
      · exact e
    · intro hq
      rcases List.mem_cons.mp ((h q).mpr (List.mem_cons_of_mem _ hq)) with e | e
      · have := b q hq; omega
      · exact e
abbrev mS (ns : List Int) : Int → Bool := fun q => decide (q ∈ ns)
theorem lotS_mS {ns : List Int} {n : Nat} (h : ns.Pairwise (· < ·)) (hb : ∀ q ∈ ns, -1 ≤ q ∧ q < n) : lotS (mS ns) n = ns :=
  asc_ext (lotS_asc n) h fun q => mem_lotS.trans ⟨fun ⟨_, _, c⟩ => of_decide_eq_true c, fun c => ⟨(hb q c).1, (hb q c).2, decide_eq_true c⟩⟩
/-- a share's numbers -/
structure Sh (ns : List Int) : Prop where
  nn : ∀ q ∈ ns, 0 ≤ q
  asc : ns.Pairwise (· < ·)
  zero : 0 ∈ ns → ns = [0]
theorem Sh.le {ns : List Int} (h : Sh ns) {n : Nat} (hb : ∀ q ∈ ns, q < ((n + 1 : Nat) : Int)) : Vs (mS ns) (n + 1) ≤ 2 ^ n := by
  have h1 : mS ns (-1) = false := decide_eq_false fun z => by have := h.nn _ z; omega
  by_cases c : (0 : Int) ∈ ns
  · rw [h.zero c]
    have : ∀ j : Nat, Vs (mS [0]) (j + 1) = 2 ^ j := fun j => by
      induction j with
      | zero => rfl
      | succ j ih =>
        rw [Vs, ih, Nat.pow_succ, show mS [0] ((j + 1 : Nat) : Int) = false from decide_eq_false (by simp; omega)]
        show 2 * 2 ^ j + 0 = _
        omega
    rw [this]
    exact Nat.le_refl _
  · have := Vs_lt h1 (decide_eq_false c) n
    omega
/-- what is ascending within, and worth no more than the whole, is a share -/
theorem Sh.of {ns : List Int} {n : Nat} (h : ns.Pairwise (· < ·)) (hb : ∀ q ∈ ns, -1 ≤ q ∧ q < ((n + 1 : Nat) : Int)) (hv : Vs (mS ns) (n + 1) ≤ 2 ^ n) : Sh ns := by
  have p2 : 0 < 2 ^ n := Nat.pow_pos (by decide)
  have h1 : (-1 : Int) ∉ ns := fun z => by
    have := Vs_neg (S := mS ns) (decide_eq_true z) (n + 1)
    rw [Nat.pow_succ] at this
    omega
  refine ⟨fun q hq => ?_, h, fun z => asc_ext h (by simp) fun q => ⟨fun hq => ?_, fun e => ?_⟩⟩
  · have := (hb q hq).1
    by_cases e : q = -1
    · rw [e] at hq; exact absurd hq h1
    · omega
  · have b := hb q hq
    by_cases e : q = 0
    · simp [e]
    · by_cases e2 : q = -1
      · rw [e2] at hq; exact absurd hq h1
      · have := Vs_more (S := mS ns) (decide_eq_true z) (p := q) (by omega) (decide_eq_true hq) n (by omega)
        omega
  · simp only [List.mem_singleton] at e
    rw [e]; exact z
/-- the share that two come to -/
def addS (n : Nat) (ns ms : List Int) : Option (List Int) :=
  if Vs (mS ns) (n + 1) + Vs (mS ms) (n + 1) ≤ 2 ^ n then some (lotV (n + 1) (Vs (mS ns) (n + 1) + Vs (mS ms) (n + 1))) else none
abbrev Bd (n : Nat) (ns : List Int) : Prop := ∀ q ∈ ns, q < ((n + 1 : Nat) : Int)
theorem addS_comm {n : Nat} {ns ms : List Int} : addS n ns ms = addS n ms ns := by
  unfold addS
  rw [Nat.add_comm]
/-- what a set of that worth is -/
theorem addS_of {n : Nat} {ns ms ks : List Int} (h : ks.Pairwise (· < ·)) (hb : ∀ q ∈ ks, -1 ≤ q ∧ q < ((n + 1 : Nat) : Int)) (e : Vs (mS ks) (n + 1) = Vs (mS ns) (n + 1) + Vs (mS ms) (n + 1)) :
    (Sh ks ∧ addS n ns ms = some ks) ∨ (¬ Sh ks ∧ addS n ns ms = none) := by
  unfold addS
  rw [← e, lotV_Vs, lotS_mS h hb]
  by_cases c : Vs (mS ks) (n + 1) ≤ 2 ^ n
  · exact .inl ⟨Sh.of h hb c, if_pos c⟩
  · exact .inr ⟨fun s => c (s.le fun q hq => (hb q hq).2), if_neg c⟩
theorem lotV_ok {n W : Nat} (h : W < 2 ^ (n + 1)) : ∃ S : Int → Bool, Vs S n = W := by
  induction n generalizing W with
  | zero =>
    rcases (show W = 0 ∨ W = 1 by simp at h; omega) with rfl | rfl
    · exact ⟨fun _ => false, rfl⟩
    · exact ⟨fun _ => true, rfl⟩
  | succ n ih =>
    obtain ⟨S, hS⟩ := ih (W := W / 2) (by rw [Nat.pow_succ] at h; omega)
    refine ⟨put S n (decide (W % 2 = 1)), ?_⟩
    rw [Vs, Vs_congr (T := S) (fun q a b => by unfold put; rw [if_neg (by omega)]) (by unfold put; rw [if_neg (by omega)]), hS, show put S (n : Int) (decide (W % 2 = 1)) (n : Int) = decide (W % 2 = 1) by simp [put]]
    by_cases c : W % 2 = 1
    · simp [c]; omega
    · simp [c]; omega
theorem addS_some {n : Nat} {ns ms ks : List Int} (h : addS n ns ms = some ks) : Sh ks ∧ Bd n ks ∧ Vs (mS ks) (n + 1) = Vs (mS ns) (n + 1) + Vs (mS ms) (n + 1) ∧ Vs (mS ns) (n + 1) + Vs (mS ms) (n + 1) ≤ 2 ^ n := by
  unfold addS at h
  split at h
  · rename_i c
    cases h
    obtain ⟨S, hS⟩ := lotV_ok (n := n + 1) (W := Vs (mS ns) (n + 1) + Vs (mS ms) (n + 1)) (by rw [Nat.pow_succ, Nat.pow_succ]; have : 0 < 2 ^ n := Nat.pow_pos (by decide); omega)
    rw [← hS, lotV_Vs]
    have e : Vs (mS (lotS S (n + 1))) (n + 1) = Vs S (n + 1) := Vs_congr (fun q a b => by
      by_cases z : S q = true
      · rw [z]; exact decide_eq_true (mem_lotS.mpr ⟨a, b, z⟩)
      · rw [Bool.eq_false_iff.mpr z]; exact decide_eq_false fun y => z (mem_lotS.mp y).2.2) (by
      by_cases z : S (-1) = true
      · rw [z]; exact decide_eq_true (mem_lotS.mpr ⟨by omega, by omega, z⟩)
      · rw [Bool.eq_false_iff.mpr z]; exact decide_eq_false fun y => z (mem_lotS.mp y).2.2)
    have b : ∀ q ∈ lotS S (n + 1), -1 ≤ q ∧ q < ((n + 1 : Nat) : Int) := fun q hq => ⟨(mem_lotS.mp hq).1, (mem_lotS.mp hq).2.1⟩
    rw [e, hS]
    exact ⟨Sh.of (lotS_asc _) b (by rw [e, hS]; exact c), fun q hq => (b q hq).2, rfl, c⟩
  · cases h
/-- three in another order -/
theorem addS_third {n : Nat} {a b c d : List Int} (h : addS n a b = some d) (h2 : addS n d c ≠ none) : ∃ e, addS n a c = some e ∧ addS n e b = addS n d c ∧ addS n d c ≠ none := by
  obtain ⟨_, _, e1, _⟩ := addS_some h
  cases q : addS n d c with
  | none => exact absurd q h2
  | some r =>
    obtain ⟨_, _, e2, l2⟩ := addS_some q
    have l3 : Vs (mS a) (n + 1) + Vs (mS c) (n + 1) ≤ 2 ^ n := by omega
    have q3 : addS n a c = some (lotV (n + 1) (Vs (mS a) (n + 1) + Vs (mS c) (n + 1))) := if_pos l3
    refine ⟨_, q3, ?_, fun z => nomatch z⟩
    obtain ⟨_, _, e4, _⟩ := addS_some q3
    rw [← q]
    unfold addS
    rw [e4, e1, show Vs (mS a) (n + 1) + Vs (mS c) (n + 1) + Vs (mS b) (n + 1) = Vs (mS a) (n + 1) + Vs (mS b) (n + 1) + Vs (mS c) (n + 1) by omega]
theorem lotV_up : ∀ (k n W : Nat), lotV (n + k) (2 ^ k * W) = lotV n W
  | 0, n, W => by simp
  | k + 1, n, W => by
    rw [show n + (k + 1) = (n + k) + 1 by omega, lotV, show 2 ^ (k + 1) * W = 2 * (2 ^ k * W) by rw [Nat.pow_succ, Nat.mul_comm (2 ^ k) 2, Nat.mul_assoc], show 2 * (2 ^ k * W) / 2 = 2 ^ k * W by omega, show 2 * (2 ^ k * W) % 2 = 0 by omega, lotV_up k n W]
    simp
/-- more places make no difference -/
theorem addS_up {n k : Nat} {ns ms : List Int} (h1 : Bd n ns) (h2 : Bd n ms) : addS (n + k) ns ms = addS n ns ms := by
  have u : ∀ {l : List Int}, Bd n l → Vs (mS l) (n + 1 + k) = 2 ^ k * Vs (mS l) (n + 1) := fun h => Vs_up (fun q hq => decide_eq_false fun z => by have := h q z; omega) k
  unfold addS
  rw [show n + k + 1 = n + 1 + k by omega, u h1, u h2, ← Nat.mul_add, lotV_up, Nat.pow_add, Nat.mul_comm (2 ^ n)]
  have : 0 < 2 ^ k := Nat.pow_pos (by decide)
  by_cases c : Vs (mS ns) (n + 1) + Vs (mS ms) (n + 1) ≤ 2 ^ n
  · rw [if_pos c, if_pos (Nat.mul_le_mul_left _ c)]
  · rw [if_neg c, if_neg fun z => c (Nat.le_of_mul_le_mul_left z this)]
/-- two halves -/
theorem half_sh {ns : List Int} (h : Sh ns) : Sh (ns.map (· + 1)) :=
  ⟨fun q hq => by obtain ⟨p, hp, rfl⟩ := List.mem_map.mp hq; have := h.nn p hp; omega,
   List.pairwise_map.mpr (h.asc.imp fun h => by omega), fun z => by obtain ⟨p, hp, e⟩ := List.mem_map.mp z; have := h.nn p hp; omega⟩
theorem half_add {n : Nat} {ns : List Int} (h : Sh ns) (hb : ∀ q ∈ ns, q < n) : addS n (ns.map (· + 1)) (ns.map (· + 1)) = some ns := by
  have e : ∀ j : Nat, Vs (mS (ns.map (· + 1))) (j + 1) = Vs (mS ns) j := fun j => by
    have h1 : mS (ns.map (· + 1)) (-1) = false := decide_eq_false fun z => by obtain ⟨p, hp, e⟩ := List.mem_map.mp z; have := h.nn p hp; omega
    have h2 : ∀ q : Int, mS (ns.map (· + 1)) (q + 1) = mS ns q := fun q => by
      show decide _ = decide _
      congr 1
      exact propext ⟨fun z => by obtain ⟨p, hp, e⟩ := List.mem_map.mp z; rw [show q = p by omega]; exact hp, fun z => List.mem_map.mpr ⟨q, z, rfl⟩⟩
    induction j with
    | zero =>
      simp only [Vs, h1]
      have := h2 (-1)
      rw [show (-1 : Int) + 1 = 0 from rfl] at this
      rw [show ((0 : Nat) : Int) = 0 from rfl, this]
      show 2 * 0 + _ = _
      omega
    | succ j ih =>
      rw [Vs, ih, show ((j + 1 : Nat) : Int) = (j : Int) + 1 by omega, h2]
      rfl
  have b : ∀ q ∈ ns, -1 ≤ q ∧ q < ((n + 1 : Nat) : Int) := fun q hq => ⟨by have := h.nn q hq; omega, by have := hb q hq; omega⟩
  have v : Vs (mS ns) (n + 1) = Vs (mS (ns.map (· + 1))) (n + 1) + Vs (mS (ns.map (· + 1))) (n + 1) := by
    rw [e, Vs, show mS ns (n : Int) = false from decide_eq_false fun z => by have := hb _ z; omega]
    show 2 * Vs (mS ns) n + 0 = _
    omega
  rcases addS_of (ns := ns.map (· + 1)) (ms := ns.map (· + 1)) h.asc b v with q | q
  · exact q.2
  · exact absurd h q.1
end KQ
set_option Elab.async false
set_option maxRecDepth 100000
set_option maxHeartbeats 4000000
/-! B13: a tuple reversed by a slice. -/
namespace KQ
open PySem PySem.Spec PyProof.Rows L2
theorem adjust_rev (n : Nat) : Builtin.Slice.sliceAdjust none none (-1) (n : Int) = ((n : Int) - 1, -1) := by
  unfold Builtin.Slice.sliceAdjust
  simp
theorem places_rev (n : Nat) : Builtin.Slice.slicePlaces ((n : Int) - 1) (-1) (-1) = n := by
  unfold Builtin.Slice.slicePlaces
  have h1 : ¬ ((-1 : Int) > 0) := by omega
  simp only [h1, if_false]
  by_cases c : (n : Int) - 1 > -1
  · rw [if_pos c]
    have : ((n : Int) - 1 - -1 - 1) / (- -1) + 1 = n := by
      rw [show (- -1 : Int) = 1 by decide, Int.ediv_one]
      omega
    rw [this]
    omega
  · rw [if_neg c]
    omega
theorem pick_rev (xs : Array Value) : ((List.range xs.size).filterMap fun (m : Nat) => xs[(((xs.size : Int) - 1) + (m : Int) * (-1)).toNat]?).toArray = xs.toList.reverse.toArray := by
  congr 1
  apply List.ext_getElem?
  intro i
  have hm : ∀ l : List Nat, (∀ m ∈ l, m < xs.size) → (l.filterMap fun (m : Nat) => xs[(((xs.size : Int) - 1) + (m : Int) * (-1)).toNat]?) = l.map fun m => xs.toList.reverse.getD m Value.none := by
    intro l
    induction l with
    | nil => intro _; rfl
    | cons m l ih =>
      intro h
      have hm := h m (List.mem_cons_self ..)
      have e1 : (((xs.size : Int) - 1) + (m : Int) * (-1)).toNat = xs.size - 1 - m := by omega
      have e2 : xs[xs.size - 1 - m]? = some (xs.toList.reverse.getD m Value.none) := by
        have hl : m < xs.toList.reverse.length := by simp; omega
        rw [List.getD_eq_getElem?_getD, List.getElem?_reverse (by simpa using hm)]
        simp only [Array.length_toList, Array.getElem?_toList]
        rw [Array.getElem?_eq_getElem (by omega)]
        rfl
      rw [List.filterMap_cons, e1, e2, List.map_cons, ih fun m' h' => h m' (List.mem_cons_of_mem _ h')]
  rw [hm _ fun m h => List.mem_range.mp h, List.getElem?_map]
  by_cases c : i < xs.size
  · rw [List.getElem?_range c]
    have hl : i < xs.toList.reverse.length := by simpa using c
    simp only [Option.map_some, List.getD_eq_getElem?_getD]
    rw [List.getElem?_eq_getElem hl]
    rfl
  · rw [List.getElem?_eq_none (by simp; omega), List.getElem?_eq_none (by simp; omega)]
    rfl
section
variable {prog : Program} {w : World} {A : Around} {E : Value → Shared → Prop} {s : Shared}
theorem sliceApplied_rev {sl : Addr} {vs : Value} {n : Nat} {Q : Int × Int × Nat → Shared → Prop} (hs : s.heap.IsSliceOf sl .none .none vs) (ps : IsPart vs (some (-1)))
    (h : Q ((n : Int) - 1, -1, n) s) : wpAny (model prog w) A (Builtin.Slice.sliceApplied (.ref sl) (pure (n : Int))) Q E s := by
  obtain ⟨os, hos, hcs, hds⟩ := id hs
  unfold Builtin.Slice.sliceApplied Builtin.Slice.sliceFields
  refine wpAny_bind (wpAny_bind (wpAny_field hos hds (x := .none) rfl (wpAny_bind (wpAny_field hos hds (x := .none) rfl (wpAny_bind (wpAny_field hos hds (x := vs) rfl (wpAny_pure ?_)))))))
  refine wpAny_bind (HT.slicePart_ ps ?_)
  show wpAny _ _ (if ((-1 : Int) == 0) = true then _ else _) _ _ s
  rw [if_neg (by decide)]
  refine wpAny_bind (slicePart_none (wpAny_bind (slicePart_none (wpAny_bind (wpAny_pure ?_)))))
  show wpAny _ _ (match Builtin.Slice.sliceAdjust none none (-1) (n : Int) with | (lo, hi) => pure (lo, (-1 : Int), Builtin.Slice.slicePlaces lo hi (-1))) _ _ s
  rw [adjust_rev n]
  show wpAny _ _ (pure ((n : Int) - 1, (-1 : Int), Builtin.Slice.slicePlaces ((n : Int) - 1) (-1) (-1))) _ _ s
  rw [places_rev]
  exact wpAny_pure h
theorem getItem_tuple_rev {t sl : Addr} {items : Array Value} {vs : Value} {Q : Value → Shared → Prop} (ht : IsTup s.heap t items) (hs : s.heap.IsSliceOf sl .none .none vs) (ps : IsPart vs (some (-1)))
    (h : Q (.ref s.heap.objs.size) { s with heap := s.heap.push { cls := .type "tuple", data := .seq items.toList.reverse.toArray } })
    (hsz : items.size ≤ sizeLine) : wpAny (model prog w) A (getItem (.ref t) (.ref sl)) Q E s := by
  have htake : sizeOk (.seq items.toList.reverse.toArray) := by
    show items.toList.reverse.toArray.size ≤ sizeLine
    rw [List.size_toArray, List.length_reverse, Array.length_toList]
    exact hsz
  obtain ⟨os, hos, hcs, hds⟩ := id hs
  have hTs : s.TypeIs (.ref sl) "slice" := ⟨os, hos, hcs⟩
  unfold getItem
  try with_reducible refine wpAny_holding ?_
  first | refine wpAny_bind (wpAny_pure ?_) | skip
  refine wpAny_bind (wpAny_sequenceKey ht.typeIs (by decide) ?_)
  refine wpAny_bind (wpAny_callSpecial?_slot (name := Str.ofString "__getitem__") ht.typeIs PyProof.Rows.slot_tuple_getitem
    (wpAny_call_entry PyProof.Rows.slot_tuple_getitem ht.typeIs entry_tuple_getitem ?_ (args_tuple_getitem _ _)))
  show wpAny _ _ (Builtin.Tuple.tupleItemsOf (.ref t) >>= _) _ _ s
  refine wpAny_bind (tupleItemsOf_ ht ?_)
  refine wpAny_bind (wpAny_typeOf hTs ?_)
  rw [if_pos (by decide)]
  refine wpAny_bind (sliceApplied_rev hs ps ?_)
  have hno : ¬ (((((items.size : Nat) : Int) - 1) == 0 && (-1 : Int) == 1 && items.size == items.size) = true) := by simp
  show wpAny _ _ (if ((((items.size : Nat) : Int) - 1) == 0 && (-1 : Int) == 1 && items.size == items.size) = true then _ else _) _ _ s
  rw [if_neg hno, pick_rev]
  first
    | exact wpAny_bind (m := Builtin.Tuple.tupleExact _) (wpAny_newObj_type (wpAny_pure ⟨_, rfl, wpAny_pure h⟩) htake)
    | exact wpAny_bind (m := Builtin.Tuple.tupleExact _) (wpAny_newObj_type (wpAny_bind (wpAny_pure (wpAny_pure ⟨_, rfl, wpAny_pure h⟩))) htake)
    | exact wpAny_bind (wpAny_bind (m := Builtin.Tuple.tupleExact _) (wpAny_newObj_type (wpAny_pure (wpAny_pure ⟨_, rfl, wpAny_pure h⟩)) htake))
    | exact wpAny_bind (wpAny_bind (m := Builtin.Tuple.tupleExact _) (wpAny_newObj_type (wpAny_pure ⟨_, rfl, wpAny_pure h⟩) htake))
end
def tRevT (K : PySem.W.Frag) (te : TE) : TE := fun σ H Q => te σ H fun x H1 => ∃ a xs, x = .ref a ∧ SqT K H1 a xs ∧ ∀ p, H1 p = none → Q (.ref p) (upd H1 p (.tup xs.reverse))
theorem pe_revT {X : Cx} {e : Expr} {te : TE} {k : Nat} {p1 p2 p3 pos : Pos} (he : PE X e te) : PE X (.Subscript e (.Slice none none (some (.UnaryOp .USub (.Constant (.int 1) k p1) p2)) p3) pos) (tRevT X.K te) := by
  refine ⟨fun pins s σ H Q I h => ?_⟩
  refine Subscript_ (thn (he.run pins s σ H _ I h) fun v s1 ⟨x, H1, I1, r1, q1⟩ => ?_)
  obtain ⟨a, xs, ex, hx, q⟩ := q1
  subst ex
  cases r1
  have hst : PO X (some (.UnaryOp .USub (.Constant (.int 1) k p1) p2)) (tPart (tUn (rU fun i => .int (-i)) (tC (.int 1)))) := po_some (pe_un un_neg pe_int)
  refine wpAny_Slice (thn (po_none.run pins s1 σ H1 (fun o H2 => o = none ∧ H2 = H1) I1 ⟨rfl, rfl⟩) fun vl s2 ⟨l, H2, I2, pl, el, e2⟩ => ?_)
  subst el e2
  cases pl
  refine thn (po_none.run pins s2 σ H2 (fun o H3 => o = none ∧ H3 = H2) I2 ⟨rfl, rfl⟩) fun vu s3 ⟨u, H3, I3, pu, eu, e3⟩ => ?_
  subst eu e3
  cases pu
  refine thn (hst.run pins s3 σ H3 (fun o H4 => o = some (-1) ∧ H4 = H3) I3 ⟨1, rfl, -1, rfl, rfl, rfl⟩) fun vs s4 ⟨o, H4, I4, ps, eo, e4⟩ => ?_
  subst eo e4
  have I5 : Inv X pins σ H4 { s4 with heap := s4.heap.push { cls := .type "slice", data := .fields #[.none, .none, vs] } } := I4.kept (t' := s4.toks) fun b ob q => Heap.get?_push_of_some _ q
  obtain ⟨its, r, ht, hz⟩ := I5.tuple hx
  have hlen := r.length
  show wpAny (model X.prog X.w) X.A (subscriptTail e (.Slice none none (some (.UnaryOp .USub (.Constant (.int 1) k p1) p2)) p3) (.ref a) (.ref s4.heap.objs.size)) (EP X pins σ Q) X.xe { s4 with heap := s4.heap.push { cls := .type "slice", data := .fields #[.none, .none, vs] } }
  refine tail_any (ops := [.ref a, .ref s4.heap.objs.size]) ht.typeIs (PyProof.Rows.slot_tuple_getitem.lookup) ?_ (by with_unfolding_all rfl)
  refine getItem_tuple_rev ht (Heap.IsSliceOf.new _ .none .none vs) ps ?_ (by rw [List.size_toArray]; omega)
  refine ⟨.ref _, _, I5.laid (t' := s4.toks) (o := .tup xs.reverse) (fun b ob q => Heap.get?_push_of_some _ q) (Nat.le_refl _) ?_, rfl, q _ (I5.hok.fresh (Nat.le_refl _))⟩
  exact ⟨by rw [List.length_reverse]; exact hz, _, r.reverse, IsTup.new _ _⟩
/-- a text some times behind itself -/
def rRepS : R2 := fun x y H Q => ∃ (z : Str) (n : Nat), x = .str z ∧ y = .int (n : Int) ∧ 2 ≤ n ∧ n ≤ 1000 ∧ 0 < z.length ∧ z.length ≤ 1000 ∧ (⟨(List.replicate n z.cps).foldl (· ++ ·) #[]⟩ : Str).length ≤ 1000000 ∧ Q (.str ⟨(List.replicate n z.cps).foldl (· ++ ·) #[]⟩) H
theorem op_repS {X : Cx} : OpR X (binaryOp .Mult) rRepS := by
  intro pins s σ H x y v u Q I rx ry h
  obtain ⟨z, n, rfl, rfl, h2, h3, h4, h5, h6, q⟩ := h
  obtain ⟨t, rfl⟩ := rx
  obtain ⟨t', rfl⟩ := ry
  refine P.mul_str ?_ (fun _ _ => ?_) (fun _ _ => ?_) ?_
  · rw [decide_eq_false (by omega), decide_eq_false (by omega)]; rfl
  · have h9 : (2 ^ 63 - 1 : Int) / (n : Int) ≥ (2 ^ 63 - 1 : Int) / 1000 := by
      rw [ge_iff_le, Int.le_ediv_iff_mul_le (by omega)]
      have e : (2 ^ 63 - 1 : Int) / 1000 = 9223372036854775 := by decide
      rw [e]
      omega
    have e : (2 ^ 63 - 1 : Int) / 1000 = 9223372036854775 := by decide
    omega
  · have : z.length * (n : Int).toNat ≤ 1000000 := by
      rw [Int.toNat_natCast]
      exact Nat.le_trans (Nat.mul_le_mul h5 h3) (by decide)
    show decide (z.length * (n : Int).toNat > sizeLine) = false
    rw [sizeLine_eq]
    exact decide_eq_false (by omega)
  · rw [if_neg (by omega), if_neg (by simp; omega), Int.toNat_natCast]
    refine ⟨?_, ?_⟩
    · rw [sizeLine_eq]
      omega
    · exact ⟨.str _, H, I.tok _, ⟨_, rfl⟩, q⟩
/-- f(), f by its promise -/
theorem pe_h0 {X : Cx} {k : Nat} {x : Str} {ps : List Str} {sp : Sp} {p pos : Pos} (D : Has X.prog X.w X.K X.mg X.base k x ps sp) (hr : Room k X.A) (hg : Gl X x) (hdb : (x == ("__debug__" : Str)) = false := by decide) :
    PE X (.Call (.Name x p) [] [] pos) (tCall sp [] E0 tNil) := by
  obtain ⟨f, fd, G, m, kp, b⟩ := D
  exact pe_call0 G hr hg m kp b .nil pass0 hdb
end KQ
set_option Elab.async false
set_option maxRecDepth 100000
set_option maxHeartbeats 4000000
namespace KQ
open PySem PySem.Spec PyProof.Rows L2
def top (i : Nat) : Stmt := PySem.Challenge.pw_knownquiet_k01_works_judged.main.body.getD i (.Pass ⟨0, 0, 0, 0⟩)
abbrev s_BadWorks___init__ : Stmt := inClass (top 2) 0
theorem sc_BadWorks___init__ : FnScope ["self", "part"] ["self", "part"] (defScope s_BadWorks___init__) := ⟨rfl, rfl, rfl, by decide +kernel, rfl, by decide +kernel, by decide +kernel⟩
abbrev s_is_number : Stmt := top 6
theorem sc_is_number : FnScope ["thing"] ["thing"] (defScope s_is_number) := ⟨rfl, rfl, rfl, by decide +kernel, rfl, by decide +kernel, by decide +kernel⟩
abbrev s_is_below : Stmt := top 7
theorem sc_is_below : FnScope ["bound", "thing"] ["bound", "thing"] (defScope s_is_below) := ⟨rfl, rfl, rfl, by decide +kernel, rfl, by decide +kernel, by decide +kernel⟩
abbrev s_is_tuple_of : Stmt := top 8
theorem sc_is_tuple_of : FnScope ["many", "thing"] ["many", "thing"] (defScope s_is_tuple_of) := ⟨rfl, rfl, rfl, by decide +kernel, rfl, by decide +kernel, by decide +kernel⟩
abbrev s_Works___init__ : Stmt := inClass (top 14) 0
theorem sc_Works___init__ : FnScope ["self", "many", "rules", "number", "rule"] ["self", "many", "rules"] (defScope s_Works___init__) := ⟨rfl, rfl, rfl, by decide +kernel, rfl, by decide +kernel, by decide +kernel⟩
abbrev s_Works___eq__ : Stmt := inClass (top 14) 1
theorem sc_Works___eq__ : FnScope ["self", "other"] ["self", "other"] (defScope s_Works___eq__) := ⟨rfl, rfl, rfl, by decide +kernel, rfl, by decide +kernel, by decide +kernel⟩
abbrev s_is_rule : Stmt := top 15
theorem sc_is_rule : FnScope ["many", "kinds", "thing", "pair"] ["many", "kinds", "thing"] (defScope s_is_rule) := ⟨rfl, rfl, rfl, by decide +kernel, rfl, by decide +kernel, by decide +kernel⟩
abbrev s_is_rule_pair : Stmt := top 16
theorem sc_is_rule_pair : FnScope ["many", "kinds", "thing"] ["many", "kinds", "thing"] (defScope s_is_rule_pair) := ⟨rfl, rfl, rfl, by decide +kernel, rfl, by decide +kernel, by decide +kernel⟩
abbrev s_is_house : Stmt := top 17
theorem sc_is_house : FnScope ["works", "thing"] ["works", "thing"] (defScope s_is_house) := ⟨rfl, rfl, rfl, by decide +kernel, rfl, by decide +kernel, by decide +kernel⟩
abbrev s_is_task : Stmt := top 18
theorem sc_is_task : FnScope ["works", "thing"] ["works", "thing"] (defScope s_is_task) := ⟨rfl, rfl, rfl, by decide +kernel, rfl, by decide +kernel, by decide +kernel⟩
abbrev s_check_house : Stmt := top 19
theorem sc_check_house : FnScope ["works", "house"] ["works", "house"] (defScope s_check_house) := ⟨rfl, rfl, rfl, by decide +kernel, rfl, by decide +kernel, by decide +kernel⟩
abbrev s_check_task : Stmt := top 20
theorem sc_check_task : FnScope ["works", "task"] ["works", "task"] (defScope s_check_task) := ⟨rfl, rfl, rfl, by decide +kernel, rfl, by decide +kernel, by decide +kernel⟩
abbrev s_sent_by : Stmt := top 21
theorem sc_sent_by : FnScope ["works", "house", "task", "kind", "fuel", "step", "sent"] ["works", "house", "task"] (defScope s_sent_by) := ⟨rfl, rfl, rfl, by decide +kernel, rfl, by decide +kernel, by decide +kernel⟩
abbrev s_law_hand : Stmt := top 23
theorem sc_law_hand : FnScope ["script"] ["script"] (defScope s_law_hand) := ⟨rfl, rfl, rfl, by decide +kernel, rfl, by decide +kernel, by decide +kernel⟩
abbrev s_law_take : Stmt := top 24
theorem sc_law_take : FnScope ["hand", "many", "cell", "found", "number"] ["hand", "many"] (defScope s_law_take) := ⟨rfl, rfl, rfl, by decide +kernel, rfl, by decide +kernel, by decide +kernel⟩
abbrev s_law_pick : Stmt := top 25
theorem sc_law_pick : FnScope ["hand", "things"] ["hand", "things"] (defScope s_law_pick) := ⟨rfl, rfl, rfl, by decide +kernel, rfl, by decide +kernel, by decide +kernel⟩
abbrev s_law_is_integer : Stmt := top 26
theorem sc_law_is_integer : FnScope ["thing"] ["thing"] (defScope s_law_is_integer) := ⟨rfl, rfl, rfl, by decide +kernel, rfl, by decide +kernel, by decide +kernel⟩
abbrev s_law_is_within : Stmt := top 27
theorem sc_law_is_within : FnScope ["thing", "least", "most"] ["thing", "least", "most"] (defScope s_law_is_within) := ⟨rfl, rfl, rfl, by decide +kernel, rfl, by decide +kernel, by decide +kernel⟩
abbrev s_law_same : Stmt := top 28
theorem sc_law_same : FnScope ["actual", "due", "one", "other"] ["actual", "due"] (defScope s_law_same) := ⟨rfl, rfl, rfl, by decide +kernel, rfl, by decide +kernel, by decide +kernel⟩
abbrev s_law_odd : Stmt := top 29
theorem sc_law_odd : FnScope ["hand", "way"] ["hand"] (defScope s_law_odd) := ⟨rfl, rfl, rfl, by decide +kernel, rfl, by decide +kernel, by decide +kernel⟩
abbrev s_law_rules : Stmt := top 30
theorem sc_law_rules : FnScope ["hand", "many", "kinds", "most", "found", "k", "long", "j"] ["hand", "many", "kinds", "most"] (defScope s_law_rules) := ⟨rfl, rfl, rfl, by decide +kernel, rfl, by decide +kernel, by decide +kernel⟩
abbrev s_law_some_works : Stmt := top 31
theorem sc_law_some_works : FnScope ["hand", "many", "kinds"] ["hand"] (defScope s_law_some_works) := ⟨rfl, rfl, rfl, by decide +kernel, rfl, by decide +kernel, by decide +kernel⟩
abbrev s_law_is_rule : Stmt := top 32
theorem sc_law_is_rule : FnScope ["many", "kinds", "thing", "pair"] ["many", "kinds", "thing"] (defScope s_law_is_rule) := ⟨rfl, rfl, rfl, by decide +kernel, rfl, by decide +kernel, by decide +kernel⟩
abbrev s_law_bad_works : Stmt := top 33
theorem sc_law_bad_works : FnScope ["many", "rules", "k"] ["many", "rules"] (defScope s_law_bad_works) := ⟨rfl, rfl, rfl, by decide +kernel, rfl, by decide +kernel, by decide +kernel⟩
abbrev s_law_is_task : Stmt := top 34
theorem sc_law_is_task : FnScope ["rules", "thing"] ["rules", "thing"] (defScope s_law_is_task) := ⟨rfl, rfl, rfl, by decide +kernel, rfl, by decide +kernel, by decide +kernel⟩
abbrev s_law_sent : Stmt := top 35
theorem sc_law_sent : FnScope ["many", "rules", "house", "task", "found", "step", "kind"] ["many", "rules", "house", "task"] (defScope s_law_sent) := ⟨rfl, rfl, rfl, by decide +kernel, rfl, by decide +kernel, by decide +kernel⟩
abbrev s_law_task : Stmt := top 36
theorem sc_law_task : FnScope ["hand", "rules", "most"] ["hand", "rules", "most"] (defScope s_law_task) := ⟨rfl, rfl, rfl, by decide +kernel, rfl, by decide +kernel, by decide +kernel⟩
abbrev s_law_spoilt : Stmt := top 37
theorem sc_law_spoilt : FnScope ["hand", "many", "rules", "at", "way", "rule", "other", "k", "step", "kind", "menu"] ["hand", "many", "rules"] (defScope s_law_spoilt) := ⟨rfl, rfl, rfl, by decide +kernel, rfl, by decide +kernel, by decide +kernel⟩
abbrev s_law_made : Stmt := top 38
theorem sc_law_made : FnScope ["many", "rules", "works", "error"] ["many", "rules"] (defScope s_law_made) := ⟨rfl, rfl, rfl, by decide +kernel, rfl, by decide +kernel, by decide +kernel⟩
abbrev s_law_sent_told : Stmt := top 39
theorem sc_law_sent_told : FnScope ["works", "house", "task"] ["works", "house", "task"] (defScope s_law_sent_told) := ⟨rfl, rfl, rfl, by decide +kernel, rfl, by decide +kernel, by decide +kernel⟩
abbrev s_law : Stmt := top 40
theorem sc_law : FnScope ["script", "hand", "many", "rules", "works", "k", "pair", "bad", "due", "house", "task"] ["script"] (defScope s_law) := ⟨rfl, rfl, rfl, by decide +kernel, rfl, by decide +kernel, by decide +kernel⟩
end KQ
set_option Elab.async false
set_option maxRecDepth 100000
set_option maxHeartbeats 4000000
namespace KQ
open PySem PySem.Spec PyProof.Rows L2

/-- the built-in names that no text of ours binds -/
structure Bi (mg : Str → Option Value) : Prop where
  len : mg "len" = none
  isinstance : mg "isinstance" = none
  int : mg "int" = none
  bool : mg "bool" = none
  tuple : mg "tuple" = none
  list : mg "list" = none
  str : mg "str" = none
  zip : mg "zip" = none
  range : mg "range" = none
  max : mg "max" = none
  sorted : mg "sorted" = none
  all : mg "all" = none
  sum : mg "sum" = none
  enumerate : mg "enumerate" = none
  abs : mg "abs" = none
  ord : mg "ord" = none
  min : mg "min" = none
  any : mg "any" = none
  dict : mg "dict" = none
  repr : mg "repr" = none
  reversed : mg "reversed" = none

/-! ### the drawing hand: the script's ints at l, four ints beside it -/
def HandOk (H : Hp) (h l : Addr) : Prop := ∃ (xs : List Int) (i b s c : Int), H h = some (.lst [.ref l, .int i, .int b, .int s, .int c]) ∧ H l = some (.lst (xs.map V.int)) ∧
  0 ≤ i ∧ i ≤ xs.length ∧ 0 ≤ b ∧ 0 ≤ s ∧ s < 2147483647 ∧ xs.length ≤ 1000
abbrev Nh (h : Addr) : Addr → Prop := fun a => a = h
theorem HandOk.same {H H' : Hp} {h l : Addr} (k : HandOk H h l) (e : Same H H') : HandOk H' h l := by
  obtain ⟨xs, i, b, s, c, h1, h2, r⟩ := k
  exact ⟨xs, i, b, s, c, e _ _ h1, e _ _ h2, r⟩
theorem same_new {H : Hp} {p : Addr} {o : HO} (h : H p = none) : Same H (upd H p o) := fun b u q => by rw [upd_ne (ne_of_none q h)]; exact q
theorem HandOk.new {H : Hp} {h l p : Addr} {o : HO} (k : HandOk H h l) (n : H p = none) : HandOk (upd H p o) h l := k.same (same_new n)
theorem HandOk.ne {H : Hp} {h l p : Addr} (k : HandOk H h l) (n : H p = none) : p ≠ h := by
  obtain ⟨xs, i, b, s, c, h1, _⟩ := k
  exact (ne_of_none h1 n).symm
theorem HandOk.ne0 {H : Hp} {h l p : Addr} (k : HandOk H h l) (n : H p = none) : p ≠ l := by
  obtain ⟨xs, i, b, s, c, _, h2, _⟩ := k
  exact (ne_of_none h2 n).symm
/-- what stands at the hand's two places is a list -/
theorem HandOk.lst {H : Hp} {h l : Addr} (k : HandOk H h l) : (∃ xs, H h = some (.lst xs)) ∧ ∃ xs, H l = some (.lst xs) := by
  obtain ⟨xs, i, b, s, c, h1, h2, _⟩ := k
  exact ⟨⟨_, h1⟩, _, h2⟩
/-- the hand's own list -/
abbrev hL (l : Addr) (i b s c : Int) : HO := .lst [.ref l, .int i, .int b, .int s, .int c]
def spHand (K : PySem.W.Frag) : Sp := fun vs H Q _ => ∃ (a : Addr) (ns : List Int), vs = [.ref a] ∧ SqL K H a (ns.map V.int) ∧ ns.length ≤ 1000 ∧ ∀ (h l : Addr) (H' : Hp), H h = none → H l = none → Same H H' → HandOk H' h l → Q (.ref h) H'
def spTake : Sp := fun vs H Q _ => ∃ (h l : Addr) (m : Int), vs = [.ref h, .int m] ∧ HandOk H h l ∧ 0 < m ∧ m < 1073741824 ∧
  ∀ (r : Int) (H' : Hp), 0 ≤ r → r < m → HandOk H' h l → (∀ a, a ≠ h → H' a = H a) → Q (.int r) H'
section
variable {P : Program} {w : World} {K : PySem.W.Frag} {mg : Str → Option Value} {base : Heap}
theorem d_law_hand (B : Bi mg) (F : FunAt K mg "_law_hand" s_law_hand) : Has P w K mg base 1 "_law_hand" ["script"] (spHand K) := by
  refine mk_has F sc_law_hand (fun _ _ _ _ _ _ us hl => match us, hl with | [_], _ => rfl) (fun vs H Q E h => ?_) fun f cdv A outer s H vs Q E hr h => ?_
  · obtain ⟨a, ns, rfl, _⟩ := h
    rfl
  obtain ⟨a, ns, rfl, hS, hl, k⟩ := h
  refine ⟨_, (pss_one (ps_ret (pe_lst (pa_cons (pe_callTy call_list_of rfl B.list (by decide +kernel) (pa_cons (pv 0) pa_nil)) (pa_cons pe_int (pa_cons pe_int (pa_cons pe_int (pa_cons pe_int pa_nil)))))))), ?_⟩
  refine ⟨_, rfl, a, _, rfl, .inl hS, fun l nl => ⟨(by show 5 ≤ sizeLine; decide), fun h nh => ?_⟩⟩
  have nlh : l ≠ h := ne_of_none upd_same nh
  have e1 : H h = none := by
    have q := nh
    rw [upd_ne nlh.symm] at q
    exact q
  exact k h l _ e1 nl ((same_new nl).trans (same_new nh)) ⟨ns, 0, 0, 1, 0, upd_same, by rw [upd_ne nlh]; exact upd_same, Int.le_refl 0, by omega, Int.le_refl 0, by omega, by omega, hl⟩
theorem fmod_lt' {a m : Int} (h : 0 < m) : 0 ≤ a.fmod m ∧ a.fmod m < m := by
  rw [Int.fmod_eq_emod_of_nonneg a (Int.le_of_lt h)]
  exact ⟨Int.emod_nonneg a (by omega), Int.emod_lt_of_pos a h⟩
theorem fdiv_nn {a m : Int} (h : 0 < m) (ha : 0 ≤ a) : 0 ≤ a.fdiv m := by
  rw [Int.fdiv_eq_ediv_of_nonneg a (Int.le_of_lt h)]
  exact Int.ediv_nonneg ha (Int.le_of_lt h)
theorem atI_map {xs : List Int} {i : Int} (h0 : 0 ≤ i) (h : i < xs.length) : ∃ v, atI (xs.map V.int) i = some (.int v) := by
  have hk : i.toNat < xs.length := by omega
  have q : atI (xs.map V.int) ((i.toNat : Nat) : Int) = some (.int xs[i.toNat]) := atI_nat (by rw [List.getElem?_map, List.getElem?_eq_getElem hk] <;> rfl)
  rw [show ((i.toNat : Nat) : Int) = i by omega] at q
  exact ⟨_, q⟩
theorem d_law_take (B : Bi mg) (F : FunAt K mg "_law_take" s_law_take) : Has P w K mg base 1 "_law_take" ["hand", "many"] spTake := by
  refine mk_has F sc_law_take (fun _ _ _ _ _ _ us hl => match us, hl with | [_, _], _ => rfl) (fun vs H Q E h => ?_) fun f cdv A outer s H vs Q E hr h => ?_
  · obtain ⟨a, l, m, rfl, _⟩ := h
    rfl
  obtain ⟨h, l, m, rfl, ⟨xs, i, b, sd, c, e1, e2, hi0, hi1, hb, hs0, hs1, hx⟩, hm0, hm1, k⟩ := h
  refine ⟨_, (pss_cons (ps_asg (pe_op op_add (pe_ix ix_list (pv 0) pe_int (fun _ _ => rfl)) pe_int) (pg_sub (pv 0) pe_int set_list))
    (C8.pss_cut (ps_if (PW.pt (pw_and (pt_cmpR op_eq (pe_ix ix_list (pv 0) pe_int (fun _ _ => rfl)) pe_int (nomark _)) (pw_and1 (pt_cmpR op_lt (pe_ix ix_list (pv 0) pe_int (fun _ _ => rfl)) (pe_callB call_len_seq rfl B.len PySem.boot_len (pa_cons (pe_ix ix_list (pv 0) pe_int (fun _ _ => rfl)) pa_nil)) (nomark _)))))
    (pss_cons (ps_set (i := 2) sc_law_take.nd rfl (Or.inl rfl) (pe_callTy call_int1 rfl B.int (by decide +kernel) (pa_cons (pe_ix ix_list (pe_ix ix_list (pv 0) pe_int (fun _ _ => rfl)) (pe_ix ix_list (pv 0) pe_int (fun _ _ => rfl)) (fun _ _ => rfl)) pa_nil)))
    (pss_cons (ps_asg (pe_op op_add (pe_ix ix_list (pv 0) pe_int (fun _ _ => rfl)) pe_int) (pg_sub (pv 0) pe_int set_list))
    (pss_one (ps_if (pt_cmpR op_ge (pv 2) (pe_op op_pow pe_int pe_int) (nomark _))
    (pss_one (ps_asg (pv 2) (pg_sub (pv 0) pe_int set_list)))
    (pss_one (ps_asg (pe_op op_mod (pe_callTy call_int1 rfl B.int (by decide +kernel) (pa_cons (pe_op op_add (pe_op op_add (pe_op op_mul (pe_ix ix_list (pv 0) pe_int (fun _ _ => rfl)) pe_int) (pe_op op_mod (pe_callTy call_int1 rfl B.int (by decide +kernel) (pa_cons (pv 2) pa_nil)) pe_int)) pe_int) pa_nil)) pe_int) (pg_sub (pv 0) pe_int set_list)))))))
    pss_nil)
    (pss_cons (ps_if (pt_cmpR op_gt (pe_ix ix_list (pv 0) pe_int (fun _ _ => rfl)) pe_int (nomark _))
    (pss_cons (ps_set (i := 3) sc_law_take.nd rfl (Or.inl rfl) (pe_op op_modN (pe_callTy call_int1 rfl B.int (by decide +kernel) (pa_cons (pe_ix ix_list (pv 0) pe_int (fun _ _ => rfl)) pa_nil)) (pv 1)))
    (pss_cons (ps_asg (pe_op op_fdivN (pe_callTy call_int1 rfl B.int (by decide +kernel) (pa_cons (pe_ix ix_list (pv 0) pe_int (fun _ _ => rfl)) pa_nil)) (pv 1)) (pg_sub (pv 0) pe_int set_list))
    (pss_one (ps_ret (pv 3)))))
    pss_nil)
    (pss_cons (ps_asg (pe_op op_mod (pe_callTy call_int1 rfl B.int (by decide +kernel) (pa_cons (pe_op op_add (pe_op op_mul (pe_ix ix_list (pv 0) pe_int (fun _ _ => rfl)) pe_int) (pe_op op_mul pe_int (pe_ix ix_list (pv 0) pe_int (fun _ _ => rfl)))) pa_nil)) pe_int) (pg_sub (pv 0) pe_int set_list))
    (pss_cons (ps_set (i := 4) sc_law_take.nd rfl (Or.inl rfl) (pe_op op_mod (pe_callTy call_int1 rfl B.int (by decide +kernel) (pa_cons (pe_op op_mul (pe_ix ix_list (pv 0) pe_int (fun _ _ => rfl)) (pe_op op_add (pe_op op_fdiv (pe_ix ix_list (pv 0) pe_int (fun _ _ => rfl)) pe_int) pe_int)) pa_nil)) pe_int))
    (pss_cons (ps_set (i := 4) sc_law_take.nd rfl (Or.inl rfl) (pe_op op_mod (pe_callTy call_int1 rfl B.int (by decide +kernel) (pa_cons (pe_op op_mul (pv 4) (pe_op op_add (pe_op op_fdiv (pv 4) pe_int) pe_int)) pa_nil)) pe_int))
    (pss_one (ps_ret (pe_op op_modN (pe_callTy call_int1 rfl B.int (by decide +kernel) (pa_cons (pe_op op_fdiv (pv 4) pe_int) pa_nil)) (pv 1)))))))))), ?_⟩
  have nlh : l ≠ h := ne_of e2 e1 (by intro z; injection z with z; cases xs <;> simp at z)
  have eL : ∀ o, (upd H h o) l = Option.some (.lst (xs.map V.int)) := fun o => by rw [upd_ne nlh]; exact e2
  -- the count is one more
  refine ⟨_, rfl, _, _, _, _, rfl, rfl, SqL.of e1, rfl, _, _, rfl, rfl, _, rfl, _, _, _, _, rfl, rfl, e1, rfl, ?_⟩
  -- what stands ahead of the draw, whatever was read
  refine ⟨fun σ H' => ∃ (i b sd c : Int) (v : Option V), σ = [Option.some (.ref h), Option.some (.int m), v, none, none] ∧ H' h = Option.some (hL l i b sd c) ∧ (∀ a, a ≠ h → H' a = H a) ∧ 0 ≤ i ∧ i ≤ xs.length ∧ 0 ≤ b ∧ 0 ≤ sd ∧ sd < 2147483647, ?_, ?_⟩
  · refine ⟨_, rfl, _, _, _, _, rfl, rfl, SqL.of upd_same, rfl, rfl, _, rfl, ?_⟩
    refine ite2 (fun c1 => ?_) (fun c1 => ?_)
    · refine ⟨_, rfl, _, _, _, _, rfl, rfl, SqL.of upd_same, rfl, _, rfl, _, _, _, _, rfl, rfl, SqL.of upd_same, rfl, _, _, rfl, .inl (SqL.of (eL _)), _, _, rfl, rfl, _, rfl, ?_⟩
      refine ite2 (fun c2 => ?_) (fun c2 => ?_)
      · have c2' := of_decide_eq_true c2
        rw [List.length_map] at c2'
        obtain ⟨v, hv⟩ := atI_map (xs := xs) hi0 c2'
        refine ⟨_, rfl, _, _, _, _, rfl, rfl, SqL.of upd_same, rfl, _, rfl, _, _, _, _, rfl, rfl, SqL.of upd_same, rfl, _, _, _, _, rfl, rfl, SqL.of (eL _), hv, .inl ⟨_, rfl, ?_⟩⟩
        refine ⟨_, rfl, _, _, _, _, rfl, rfl, SqL.of upd_same, rfl, _, _, rfl, rfl, _, rfl, _, _, _, _, rfl, rfl, upd_same, rfl, ?_⟩
        refine ⟨_, rfl, _, _, rfl, rfl, ⟨by decide, by decide, by decide⟩, _, _, rfl, rfl, _, rfl, ?_⟩
        refine ite2 (fun c3 => ?_) (fun c3 => ?_)
        · have c3' := of_decide_eq_true c3
          refine ⟨_, rfl, _, rfl, _, _, _, _, rfl, rfl, upd_same, rfl, ?_⟩
          refine ⟨i + 1, v, sd, c + 1, _, rfl, upd_same, fun a ha => by rw [upd_ne ha, upd_ne ha, upd_ne ha], by omega, by omega, ?_, hs0, hs1⟩
          have z : (0 : Int) ≤ 10 ^ (18 : Int).toNat := by decide
          omega
        · refine ⟨_, rfl, _, _, _, _, rfl, rfl, SqL.of upd_same, rfl, _, _, rfl, rfl, .inl ⟨by omega, by omega⟩, _, rfl, .inl ⟨_, rfl, _, _, rfl, rfl, (by show (0 : Int) < 2147483647; decide), _, _, rfl, rfl, _, _, rfl, rfl, .inl ⟨_, rfl, _, _, rfl, rfl, (by show (0 : Int) < 2147483647; decide), _, rfl, _, _, _, _, rfl, rfl, upd_same, rfl, ?_⟩⟩⟩
          refine ⟨i + 1, b, _, c + 1, _, rfl, upd_same, fun a ha => by rw [upd_ne ha, upd_ne ha, upd_ne ha], by omega, by omega, hb, Int.emod_nonneg _ (by decide), Int.emod_lt_of_pos _ (by decide)⟩
      · exact ⟨i, b, sd, c + 1, _, rfl, upd_same, fun a ha => by rw [upd_ne ha], hi0, hi1, hb, hs0, hs1⟩
    · exact ⟨i, b, sd, c + 1, _, rfl, upd_same, fun a ha => by rw [upd_ne ha], hi0, hi1, hb, hs0, hs1⟩
  · rintro σ H1 ⟨i, b, sd, c, v, rfl, g1, gk, hi0, hi1, hb, hs0, hs1⟩
    have gl : H1 l = Option.some (.lst (xs.map V.int)) := (gk l nlh).trans e2
    refine ⟨_, rfl, _, _, _, _, rfl, rfl, SqL.of g1, rfl, _, _, rfl, rfl, _, rfl, ?_⟩
    refine ite2 (fun c1 => ?_) (fun c1 => ?_)
    · refine ⟨_, rfl, _, _, _, _, rfl, rfl, SqL.of g1, rfl, .inl ⟨_, rfl, _, rfl, _, _, rfl, rfl, (by omega), ?_⟩⟩
      refine ⟨_, rfl, _, _, _, _, rfl, rfl, SqL.of g1, rfl, .inl ⟨_, rfl, _, rfl, _, _, rfl, rfl, ⟨by omega, by omega⟩, _, rfl, _, _, _, _, rfl, rfl, g1, rfl, ?_⟩⟩
      refine ⟨_, rfl, ?_⟩
      refine k _ _ (fmod_lt' hm0).1 (fmod_lt' hm0).2 ⟨xs, i, _, sd, c, upd_same, by rw [upd_ne nlh]; exact gl, hi0, hi1, fdiv_nn hm0 hb, hs0, hs1, hx⟩ fun a ha => by rw [upd_ne ha]; exact gk a ha
    · refine ⟨_, rfl, _, _, _, _, rfl, rfl, SqL.of g1, rfl, _, _, rfl, rfl, .inl ⟨by omega, by omega⟩, _, rfl, _, _, _, _, rfl, rfl, SqL.of g1, rfl, _, _, rfl, rfl, .inl ⟨by decide, by decide⟩, _, _, rfl, rfl, .inl ⟨_, rfl, _, _, rfl, rfl, (by show (0 : Int) < 2147483647; decide), _, rfl, _, _, _, _, rfl, rfl, g1, rfl, ?_⟩⟩
      refine ⟨_, rfl, _, _, _, _, rfl, rfl, SqL.of upd_same, rfl, _, rfl, _, _, _, _, rfl, rfl, SqL.of upd_same, rfl, ?_⟩
      have z0 : 0 ≤ (sd * 69621 + 7919 * c) % 2147483647 := Int.emod_nonneg _ (by decide)
      have z1 : (sd * 69621 + 7919 * c) % 2147483647 < 2147483647 := Int.emod_lt_of_pos _ (by decide)
      have y0 : ∀ y : Int, 0 ≤ y % 2147483647 := fun y => Int.emod_nonneg _ (by decide)
      have y1 : ∀ y : Int, y % 2147483647 < 2147483647 := fun y => Int.emod_lt_of_pos _ (by decide)
      refine ⟨_, _, rfl, rfl, ⟨by decide, by decide⟩, _, _, rfl, rfl, _, _, rfl, rfl, .inl ⟨?a1, ?a2⟩, .inl ⟨_, rfl, _, _, rfl, rfl, (by show (0 : Int) < 2147483647; decide), ?_⟩⟩
      case a1 => omega
      case a2 => omega
      refine ⟨_, rfl, _, rfl, _, _, rfl, rfl, ⟨by decide, by decide⟩, _, _, rfl, rfl, _, _, rfl, rfl, .inl ⟨?b1, ?b2⟩, .inl ⟨_, rfl, _, _, rfl, rfl, (by show (0 : Int) < 2147483399; decide), ?_⟩⟩
      case b1 => exact Int.lt_of_lt_of_le (by decide) (y0 _)
      case b2 => exact Int.lt_trans (y1 _) (by decide)
      refine ⟨_, rfl, _, _, rfl, rfl, ⟨by decide, by decide⟩, .inl ⟨_, rfl, _, rfl, _, _, rfl, rfl, (by omega), ?_⟩⟩
      exact k _ _ (fmod_lt' hm0).1 (fmod_lt' hm0).2 ⟨xs, i, b, _, c, upd_same, by rw [upd_ne nlh]; exact gl, hi0, hi1, hb, z0, z1, hx⟩ fun a ha => by rw [upd_ne ha]; exact gk a ha
end
end KQ
set_option Elab.async false
set_option maxRecDepth 100000
set_option maxHeartbeats 4000000
namespace KQ
open PySem PySem.Spec PyProof.Rows L2
theorem ifT {c : Bool} {A B : Prop} (h : c = true) (a : A) : if c = true then A else B := by rw [if_pos h]; exact a
theorem ifF {c : Bool} {A B : Prop} (h : c = false) (b : B) : if c = true then A else B := by rw [h, if_neg Bool.false_ne_true]; exact b
theorem atI_some {xs : List V} {i : Int} (h0 : 0 ≤ i) (h : i < xs.length) : ∃ v, atI xs i = some v ∧ v ∈ xs ∧ xs[i.toNat]? = some v := by
  have hk : i.toNat < xs.length := by omega
  have q : atI xs ((i.toNat : Nat) : Int) = some xs[i.toNat] := atI_nat (List.getElem?_eq_getElem hk)
  rw [show ((i.toNat : Nat) : Int) = i by omega] at q
  exact ⟨_, q, List.getElem_mem hk, List.getElem?_eq_getElem hk⟩
def spPick : Sp := fun vs H Q _ => ∃ (h l t : Addr) (xs : List V), vs = [.ref h, .ref t] ∧ HandOk H h l ∧ H t = some (.lst xs) ∧ t ≠ h ∧ 0 < xs.length ∧ xs.length < 1073741824 ∧
  ∀ (v : V) (H' : Hp), v ∈ xs → HandOk H' h l → (∀ a, a ≠ h → H' a = H a) → Q v H'
def spIsInt : Sp := fun vs H Q _ => ∃ (N : Addr → Prop) (v : V) (d : PyData), vs = [v] ∧ Rp N H v d ∧ Q (.bl (intOf d).isSome) H
def within (d : PyData) (lo hi : Int) : Bool := match intOf d with
  | some i => decide (lo ≤ i) && decide (i ≤ hi)
  | none => false
def spWithin : Sp := fun vs H Q _ => ∃ (N : Addr → Prop) (v : V) (d : PyData) (lo hi : Int), vs = [v, .int lo, .int hi] ∧ Rp N H v d ∧ Q (.bl (within d lo hi)) H
def spSame (n : Nat) : Sp := fun vs H Q _ => ∃ (N N' : Addr → Prop) (a b : V) (d : PyData), vs = [a, b] ∧ Rp N H a d ∧ Rp N' H b d ∧ d.depth ≤ n ∧ d.canLay0 = true ∧ ∀ H', Same H H' → Q (.bl true) H'
theorem isInt_is (d : PyData) : (isT "int" d && !isT "bool" d) = (intOf d).isSome := by cases d <;> rfl
section
variable {P : Program} {w : World} {K : PySem.W.Frag} {mg : Str → Option Value} {base : Heap}
theorem d_law_pick (B : Bi mg) (F : FunAt K mg "_law_pick" s_law_pick) (D_law_take : Has P w K mg base 1 "_law_take" ["hand", "many"] spTake) : Has P w K mg base 2 "_law_pick" ["hand", "things"] spPick := by
  refine mk_has F sc_law_pick (fun _ _ _ _ _ _ us hl => match us, hl with | [_, _], _ => rfl) (fun vs H Q E h => ?_) fun f cdv A outer s H vs Q E hr h => ?_
  · obtain ⟨h, l, t, xs, rfl, _⟩ := h
    rfl
  obtain ⟨h, l, t, xs, rfl, ho, ht, hth, l0, l1, k⟩ := h
  refine ⟨_, (pss_one (ps_ret (pe_ix ix_list (pv 1) (pe_h D_law_take (hr.mono (by decide)) rfl (pa_cons (pv 0) (pa_cons (pe_callB call_len_seq rfl B.len PySem.boot_len (pa_cons (pv 1) pa_nil)) pa_nil))) (fun _ _ => rfl)))), ?_⟩
  refine ⟨_, rfl, _, rfl, _, rfl, _, _, rfl, .inl (SqL.of ht), h, l, _, rfl, ho, by omega, by omega, fun r H' r0 r1 ho' hk => ?_⟩
  obtain ⟨v, hv, hm, _⟩ := atI_some (xs := xs) r0 r1
  exact ⟨_, _, _, _, rfl, rfl, SqL.of ((hk t hth).trans ht), hv, k v H' hm ho' hk⟩
theorem d_law_is_integer (B : Bi mg) (F : FunAt K mg "_law_is_integer" s_law_is_integer) : Has P w K mg base 1 "_law_is_integer" ["thing"] spIsInt := by
  refine mk_has F sc_law_is_integer (fun _ _ _ _ _ _ us hl => match us, hl with | [_], _ => rfl) (fun vs H Q E h => ?_) fun f cdv A outer s H vs Q E hr h => ?_
  · obtain ⟨N, v, d, rfl, _⟩ := h
    rfl
  obtain ⟨N, v, d, rfl, r, k⟩ := h
  refine ⟨_, (pss_one (ps_ret (pe_and (pe_callB call_isi rfl B.isinstance (by decide +kernel) (pa_cons (pv 0) (pa_cons (pe_bltn (v := .ty "int") rfl B.int (by decide +kernel) rfl) pa_nil))) (pe_one (pe_not (pe_callB call_isi rfl B.isinstance (by decide +kernel) (pa_cons (pv 0) (pa_cons (pe_bltn (v := .ty "bool") rfl B.bool (by decide +kernel) rfl) pa_nil)))))))), ?_⟩
  rw [← isInt_is] at k
  refine ⟨_, rfl, _, _, _, _, _, rfl, .ty "int", r.ty, kit_int d, _, rfl, ?_⟩
  cases e : isT "int" d with
  | true =>
    rw [e] at k
    exact ifT rfl ⟨_, rfl, _, _, _, _, _, rfl, .ty "bool", r.ty, kit_bool d, _, rfl, k⟩
  | false =>
    rw [e] at k
    exact ifF rfl k
theorem d_law_is_within (B : Bi mg) (F : FunAt K mg "_law_is_within" s_law_is_within) (D_law_is_integer : Has P w K mg base 1 "_law_is_integer" ["thing"] spIsInt) : Has P w K mg base 2 "_law_is_within" ["thing", "least", "most"] spWithin := by
  refine mk_has F sc_law_is_within (fun _ _ _ _ _ _ us hl => match us, hl with | [_, _, _], _ => rfl) (fun vs H Q E h => ?_) fun f cdv A outer s H vs Q E hr h => ?_
  · obtain ⟨N, v, d, lo, hi, rfl, _⟩ := h
    rfl
  obtain ⟨N, v, d, lo, hi, rfl, r, k⟩ := h
  refine ⟨_, (pss_one (ps_ret (pe_and (pe_h D_law_is_integer (hr.mono (by decide)) rfl (pa_cons (pv 0) pa_nil)) (pe_and (pe_cmpR op_le (pv 1) (pv 0) (nomark _)) (pe_one (pe_cmpR op_le (pv 0) (pv 2) (nomark _))))))), ?_⟩
  refine ⟨_, rfl, N, v, d, rfl, r, ⟨_, rfl, ?_⟩⟩
  cases e : intOf d with
  | none =>
    unfold within at k
    rw [e] at k
    exact ifF rfl k
  | some i =>
    unfold within at k
    rw [e] at k
    have ed : d = .int i := by cases d <;> simp_all [intOf]
    subst ed
    cases r
    refine ifT rfl ⟨_, rfl, _, rfl, _, _, rfl, rfl, ⟨_, rfl, ?_⟩⟩
    cases e1 : decide (lo ≤ i) with
    | true =>
      have k' : Q (.bl (decide (lo ≤ i) && decide (i ≤ hi))) H := k
      rw [e1] at k'
      exact ifT rfl ⟨_, rfl, _, rfl, _, _, rfl, rfl, k'⟩
    | false =>
      have k' : Q (.bl (decide (lo ≤ i) && decide (i ≤ hi))) H := k
      rw [e1] at k'
      exact ifF rfl k'
end
end KQ
set_option Elab.async false
set_option maxRecDepth 100000
set_option maxHeartbeats 4000000
namespace KQ
open PySem PySem.Spec PyProof.Rows L2
theorem okB {c b : Bool} {Q : VK} {H : Hp} (h : c = b) (q : Q (.bl b) H) : Q (.bl c) H := by rw [h]; exact q
theorem Rp.notN {N : Addr → Prop} {H : Hp} {v : V} {d : PyData} (r : Rp N H v d) (h : d ≠ .none) : decide (v = .non) = false := by
  cases r <;> simp at h ⊢
theorem Rp.notB {N : Addr → Prop} {H : Hp} {v : V} {d : PyData} (r : Rp N H v d) {b : Bool} (h : d ≠ .bool b) : decide (v = .bl b) = false := by
  cases r <;> simp at h ⊢
  exact h
theorem RpAll.at_ {N : Addr → Prop} {H : Hp} : ∀ {vs : List V} {ds : List PyData} {i : Nat} {v : V}, RpAll N H vs ds → vs[i]? = some v → ∃ d, d ∈ ds ∧ ds[i]? = some d ∧ Rp N H v d
  | _, _, _, _, .nil, e => by simp at e
  | _, _, 0, _, .cons r _, e => by simp at e; subst e; exact ⟨_, List.mem_cons_self, rfl, r⟩
  | _, _, i + 1, _, .cons _ t, e => by
    obtain ⟨d, m, g, r⟩ := t.at_ (i := i) (by simpa using e)
    exact ⟨d, List.mem_cons_of_mem _ m, by simpa using g, r⟩
theorem depth_mem : ∀ {ds : List PyData} {d : PyData}, d ∈ ds → d.depth ≤ PyData.depthAll ds
  | x :: xs, d, h => by
    unfold PyData.depthAll
    rcases List.mem_cons.mp h with rfl | h
    · exact Nat.le_max_left _ _
    · exact Nat.le_trans (depth_mem h) (Nat.le_max_right _ _)
theorem lay_mem : ∀ {ds : List PyData} {d : PyData}, PyData.canLayAll0 ds = true → d ∈ ds → d.canLay0 = true
  | x :: xs, d, e, h => by
    unfold PyData.canLayAll0 at e
    rw [Bool.and_eq_true] at e
    rcases List.mem_cons.mp h with rfl | h
    · exact e.1
    · exact lay_mem e.2 h
section
variable {P : Program} {w : World} {K : PySem.W.Frag} {mg : Str → Option Value} {base : Heap}
/-- one step deeper -/
theorem same_step (B : Bi mg) (F : FunAt K mg "_law_same" s_law_same) (D_law_is_integer : Has P w K mg base 1 "_law_is_integer" ["thing"] spIsInt) (n : Nat) (D_law_same : Has P w K mg base (n + 1) "_law_same" ["actual", "due"] (fun vs H Q E => ∃ m, m + 1 = n ∧ spSame m vs H Q E)) :
    Has P w K mg base (n + 2) "_law_same" ["actual", "due"] (spSame n) := by
  refine mk_has F sc_law_same (fun _ _ _ _ _ _ us hl => match us, hl with | [_, _], _ => rfl) (fun vs H Q E h => ?_) fun f cdv A outer s H vs Q E hr h => ?_
  · obtain ⟨N, N', a, b, d, rfl, _⟩ := h
    rfl
  obtain ⟨N, N', a, b, d, rfl, ra, rb, hd, hc, k⟩ := h
  have k0 : Q (.bl true) H := k H (Same.refl H)
  refine ⟨_, (pss_cons (ps_if (pt_cmp (pc_isN (pv 1)))
    (pss_one (ps_ret (pe_cmp (pc_isN (pv 0)) rfl)))
    pss_nil)
    (pss_cons (ps_if (pt_cmpR op_isB (pv 1) pe_bl (nomark _))
    (pss_one (ps_ret (pe_cmpR op_isB (pv 0) pe_bl (nomark _))))
    pss_nil)
    (pss_cons (ps_if (pt_cmpR op_isB (pv 1) pe_bl (nomark _))
    (pss_one (ps_ret (pe_cmpR op_isB (pv 0) pe_bl (nomark _))))
    pss_nil)
    (pss_cons (ps_if (pt_val (pe_callB call_isi rfl B.isinstance (by decide +kernel) (pa_cons (pv 1) (pa_cons (pe_bltn (v := .ty "int") rfl B.int (by decide +kernel) rfl) pa_nil))))
    (pss_one (ps_ret (pe_and (pe_h D_law_is_integer (hr.mono (by omega)) rfl (pa_cons (pv 0) pa_nil)) (pe_one (pe_cmpR op_eq (pv 0) (pv 1) (nomark _))))))
    pss_nil)
    (pss_cons (ps_if (pt_val (pe_callB call_isi rfl B.isinstance (by decide +kernel) (pa_cons (pv 1) (pa_cons (pe_bltn (v := .ty "str") rfl B.str (by decide +kernel) rfl) pa_nil))))
    (pss_one (ps_ret (pe_and (pe_callB call_isi rfl B.isinstance (by decide +kernel) (pa_cons (pv 0) (pa_cons (pe_bltn (v := .ty "str") rfl B.str (by decide +kernel) rfl) pa_nil))) (pe_one (pe_cmpR op_eq (pv 0) (pv 1) (nomark _))))))
    pss_nil)
    (pss_cons (ps_if (PW.pt (pw_or (pt_cmpR op_ne (pe_callB call_isi rfl B.isinstance (by decide +kernel) (pa_cons (pv 1) (pa_cons (pe_bltn (v := .ty "tuple") rfl B.tuple (by decide +kernel) rfl) pa_nil))) (pe_callB call_isi rfl B.isinstance (by decide +kernel) (pa_cons (pv 0) (pa_cons (pe_bltn (v := .ty "tuple") rfl B.tuple (by decide +kernel) rfl) pa_nil))) (nomark _)) (pw_or1 (pt_cmpR op_ne (pe_callB call_isi rfl B.isinstance (by decide +kernel) (pa_cons (pv 1) (pa_cons (pe_bltn (v := .ty "list") rfl B.list (by decide +kernel) rfl) pa_nil))) (pe_callB call_isi rfl B.isinstance (by decide +kernel) (pa_cons (pv 0) (pa_cons (pe_bltn (v := .ty "list") rfl B.list (by decide +kernel) rfl) pa_nil))) (nomark _)))))
    (pss_one (ps_ret pe_bl))
    pss_nil)
    (pss_cons (ps_if (pt_cmpR op_ne (pe_callB call_len_seq rfl B.len PySem.boot_len (pa_cons (pv 0) pa_nil)) (pe_callB call_len_seq rfl B.len PySem.boot_len (pa_cons (pv 1) pa_nil)) (nomark _))
    (pss_one (ps_ret pe_bl))
    pss_nil)
    (pss_cons (ps_for PassesOwn.never rfl (RZ.pi_zipA rfl B.zip (pa_cons (pv 0) (pa_cons (pv 1) pa_nil))) (pg_tup rfl (pgs_cons (pg_name (i := 2) sc_law_same.nd rfl (Or.inl rfl)) (pgs_cons (pg_name (i := 3) sc_law_same.nd rfl (Or.inl rfl)) pgs_nil)))
    (pss_one (ps_if (pt_not (pt_val (pe_h D_law_same hr rfl (pa_cons (pv 2) (pa_cons (pv 3) pa_nil)))))
    (pss_one (ps_ret pe_bl))
    pss_nil)))
    (pss_one (ps_ret pe_bl)))))))))), ?_⟩
  refine ⟨_, rfl, _, rfl, ?_⟩
  by_cases d1 : d = .none
  · subst d1
    cases ra
    cases rb
    exact ifT (by decide) ⟨_, rfl, okB (by decide) k0⟩
  refine ifF (rb.notN d1) ⟨_, rfl, _, rfl, _, rfl, ?_⟩
  by_cases d2 : d = .bool true
  · subst d2
    cases ra
    cases rb
    exact ifT (by decide) ⟨_, rfl, _, rfl, okB (by decide) k0⟩
  refine ifF (rb.notB d2) ⟨_, rfl, _, rfl, _, rfl, ?_⟩
  by_cases d3 : d = .bool false
  · subst d3
    cases ra
    cases rb
    exact ifT (by decide) ⟨_, rfl, _, rfl, okB (by decide) k0⟩
  refine ifF (rb.notB d3) ⟨_, rfl, _, _, _, _, _, rfl, .ty "int", rb.ty, kit_int d, _, rfl, ?_⟩
  have step5 : ∀ {A Z : Prop} {T : String}, isT T d = false → Z → if isT T d = true then A else Z := fun e z => ifF e z
  cases d with
  | none => exact absurd rfl d1
  | bool y => cases y <;> first | exact absurd rfl d2 | exact absurd rfl d3
  | dict kvs => simp [PyData.canLay0] at hc
  | int i =>
    cases ra
    cases rb
    exact ifT rfl ⟨_, rfl, N, _, _, rfl, .int i, ⟨_, rfl, ifT rfl ⟨_, rfl, _, rfl, rfl, okB (by simp) k0⟩⟩⟩
  | str x =>
    refine step5 rfl ⟨_, rfl, _, _, _, _, _, rfl, .ty "str", rb.ty, kit_str _, _, rfl, ifT rfl ?_⟩
    refine ⟨_, rfl, _, _, _, _, _, rfl, .ty "str", ra.ty, kit_str _, _, rfl, ifT rfl ?_⟩
    cases ra
    cases rb
    exact ⟨_, rfl, _, rfl, rfl, okB (by simp) k0⟩
  | tuple ds =>
    refine step5 rfl ⟨_, rfl, _, _, _, _, _, rfl, .ty "str", rb.ty, kit_str _, _, rfl, ifF rfl ?_⟩
    refine ⟨_, rfl, _, _, _, _, _, rfl, .ty "tuple", rb.ty, kit_tuple _, _, rfl, _, _, _, _, _, rfl, .ty "tuple", ra.ty, kit_tuple _, rfl, _, rfl, ifF rfl ?_⟩
    refine ⟨_, rfl, _, _, _, _, _, rfl, .ty "list", rb.ty, kit_list _, _, rfl, _, _, _, _, _, rfl, .ty "list", ra.ty, kit_list _, rfl, _, rfl, ifF rfl ?_⟩
    cases ra with
    | @tup pa xs _ ha na aa =>
    cases rb with
    | @tup pb ys _ hb nb ab =>
    have el : xs.length = ys.length := aa.length.trans ab.length.symm
    refine ⟨_, rfl, _, _, rfl, .inr (SqT.of ha), _, rfl, _, _, rfl, .inr (SqT.of hb), rfl, _, rfl, ?_⟩
    refine ifF (by rw [el]; simp) ?_
    refine ⟨_, rfl, _, rfl, _, _, _, _, rfl, .inr ⟨SqT.of ha, SqT.of hb, ?_⟩⟩
    refine RZ.for_zipT el (fun i σ H' => ∃ v1 v2, σ = [some (.ref pa), some (.ref pb), v1, v2] ∧ Same H H') ⟨_, _, rfl, Same.refl H⟩ (fun i σ H' ⟨_, _, _, e⟩ => ⟨SqT.of (e _ _ ha), SqT.of (e _ _ hb)⟩) ?_ ?_
    · rintro i x y T σ H' hx hy ⟨v1, v2, rfl, e⟩ nT
      obtain ⟨dx, mx, gx, rx⟩ := aa.at_ hx
      obtain ⟨dy, my, gy, ry⟩ := ab.at_ hy
      rw [gx] at gy
      cases gy
      have e2 : Same H (upd H' T (.tup [x, y])) := e.trans (same_new nT)
      refine ⟨_, _, rfl, SqT.of upd_same, rfl, _, _, rfl, _, _, rfl, rfl, ?_⟩
      have hd' : dx.depth + 1 ≤ n := Nat.le_trans (Nat.succ_le_succ (depth_mem mx)) hd
      refine ⟨_, rfl, _, rfl, n - 1, by omega, N, N', x, y, dx, rfl, rx.to (Kp.of_same e2), ry.to (Kp.of_same e2), by omega, lay_mem hc mx, fun H3 e3 => ?_⟩
      exact ⟨_, rfl, ifF rfl ⟨_, _, rfl, e2.trans e3⟩⟩
    · rintro σ H' ⟨v1, v2, rfl, e⟩
      exact k H' e
  | list ds =>
    refine step5 rfl ⟨_, rfl, _, _, _, _, _, rfl, .ty "str", rb.ty, kit_str _, _, rfl, ifF rfl ?_⟩
    refine ⟨_, rfl, _, _, _, _, _, rfl, .ty "tuple", rb.ty, kit_tuple _, _, rfl, _, _, _, _, _, rfl, .ty "tuple", ra.ty, kit_tuple _, rfl, _, rfl, ifF rfl ?_⟩
    refine ⟨_, rfl, _, _, _, _, _, rfl, .ty "list", rb.ty, kit_list _, _, rfl, _, _, _, _, _, rfl, .ty "list", ra.ty, kit_list _, rfl, _, rfl, ifF rfl ?_⟩
    cases ra with
    | @lst pa xs _ ha na aa =>
    cases rb with
    | @lst pb ys _ hb nb ab =>
    have el : xs.length = ys.length := aa.length.trans ab.length.symm
    refine ⟨_, rfl, _, _, rfl, .inl (SqL.of ha), _, rfl, _, _, rfl, .inl (SqL.of hb), rfl, _, rfl, ?_⟩
    refine ifF (by rw [el]; simp) ?_
    refine ⟨_, rfl, _, rfl, _, _, _, _, rfl, .inl ⟨SqL.of ha, SqL.of hb, ?_⟩⟩
    refine RZ.for_zipL el (fun i σ H' => ∃ v1 v2, σ = [some (.ref pa), some (.ref pb), v1, v2] ∧ Same H H') ⟨_, _, rfl, Same.refl H⟩ (fun i σ H' ⟨_, _, _, e⟩ => ⟨SqL.of (e _ _ ha), SqL.of (e _ _ hb)⟩) ?_ ?_
    · rintro i x y T σ H' hx hy ⟨v1, v2, rfl, e⟩ nT
      obtain ⟨dx, mx, gx, rx⟩ := aa.at_ hx
      obtain ⟨dy, my, gy, ry⟩ := ab.at_ hy
      rw [gx] at gy
      cases gy
      have e2 : Same H (upd H' T (.tup [x, y])) := e.trans (same_new nT)
      refine ⟨_, _, rfl, SqT.of upd_same, rfl, _, _, rfl, _, _, rfl, rfl, ?_⟩
      have hd' : dx.depth + 1 ≤ n := Nat.le_trans (Nat.succ_le_succ (depth_mem mx)) hd
      refine ⟨_, rfl, _, rfl, n - 1, by omega, N, N', x, y, dx, rfl, rx.to (Kp.of_same e2), ry.to (Kp.of_same e2), by omega, lay_mem hc mx, fun H3 e3 => ?_⟩
      exact ⟨_, rfl, ifF rfl ⟨_, _, rfl, e2.trans e3⟩⟩
    · rintro σ H' ⟨v1, v2, rfl, e⟩
      exact k H' e
end
end KQ
set_option Elab.async false
set_option maxRecDepth 100000
set_option maxHeartbeats 4000000
namespace KQ
open PySem PySem.Spec PyProof.Rows L2
theorem has_none {P : Program} {w : World} {K : PySem.W.Frag} {mg : Str → Option Value} {base : Heap} {x : Str} {st : Stmt} {ps : List Str} {k : Nat} {sp : Sp} (F : FunAt K mg x st) (hb : BindsTo? st x ps) (no : ∀ vs H Q E, ¬ sp vs H Q E) : Has P w K mg base k x ps sp := by
  obtain ⟨f, fd, F, m⟩ := F
  exact ⟨f, fd, ⟨fun vs H Q E h => absurd h (no vs H Q E), fun A outer s H args us vs Q E _ _ _ _ h => absurd h (no vs H Q E)⟩, m, F.kp, F.binds hb⟩
/-- the odd things -/
def odds : List PyData := [.none, .bool true, .bool false, .str "", .str "do", .str "0", .tuple [], .list [], .dict [], .tuple [.int 0], .list [.int 0, .int 0], .tuple [.tuple []],
  .int (-1), .int 13, .int (10 ^ 20 - 1), .tuple [.int 0, .int 13], .tuple [.bool true, .int 0], .tuple [.int 0, .int 0, .int 0]]
def spOdd : Sp := fun vs H Q _ => ∃ h l : Addr, vs = [.ref h] ∧ HandOk H h l ∧ ∀ (v : V) (d : PyData) (H' : Hp), d ∈ odds → Rp (Nh h) H' v d → HandOk H' h l → Kp (Nh h) H H' → Q v H'
theorem lt6 {i : Int} (h0 : 0 ≤ i) (h : i < 6) : i = 0 ∨ i = 1 ∨ i = 2 ∨ i = 3 ∨ i = 4 ∨ i = 5 := by omega
theorem Kp.hand {H H' : Hp} {h : Addr} (k : ∀ a, a ≠ h → H' a = H a) : Kp (Nh h) H H' := fun a o e n => by rw [k a n]; exact e
theorem Kp.hn {H : Hp} {h p : Addr} {H0 : Hp} {o : HO} (k : Kp (Nh h) H0 H) (n : H p = none) : Kp (Nh h) H0 (upd H p o) := k.new' n
/-- a datum just laid -/
theorem Rp.tup0 {H : Hp} {h l p : Addr} {vs : List V} {ds : List PyData} (ho : HandOk H h l) (n : H p = none) (r : RpAll (Nh h) H vs ds) : Rp (Nh h) (upd H p (.tup vs)) (.ref p) (.tuple ds) :=
  .tup upd_same (ho.ne n) (r.to (Kp.new n))
theorem Rp.lst0 {H : Hp} {h l p : Addr} {vs : List V} {ds : List PyData} (ho : HandOk H h l) (n : H p = none) (r : RpAll (Nh h) H vs ds) : Rp (Nh h) (upd H p (.lst vs)) (.ref p) (.list ds) :=
  .lst upd_same (ho.ne n) (r.to (Kp.new n))
theorem Rp.emp0 {H : Hp} {h l p : Addr} (ho : HandOk H h l) (n : H p = none) : Rp (Nh h) (upd H p (.dK [])) (.ref p) (.dict []) :=
  .emp upd_same (ho.ne n)
abbrev rI1 {N : Addr → Prop} {H : Hp} (i : Int) : RpAll N H [.int i] [.int i] := .cons (.int i) .nil
section
variable {P : Program} {w : World} {K : PySem.W.Frag} {mg : Str → Option Value} {base : Heap}
theorem d_law_same (B : Bi mg) (F : FunAt K mg "_law_same" s_law_same) (D : Has P w K mg base 1 "_law_is_integer" ["thing"] spIsInt) : ∀ n : Nat, Has P w K mg base (n + 2) "_law_same" ["actual", "due"] (spSame n)
  | 0 => same_step B F D 0 (has_none F (fun _ _ _ _ _ _ us hl => match us, hl with | [_, _], _ => rfl) fun _ _ _ _ ⟨_, e, _⟩ => nomatch e)
  | n + 1 => same_step B F D (n + 1) ((d_law_same B F D n).imp fun _ _ _ _ ⟨m, e, q⟩ => by cases e; exact q)
theorem d_law_odd (F : FunAt K mg "_law_odd" s_law_odd) (D_law_take : Has P w K mg base 1 "_law_take" ["hand", "many"] spTake) : Has P w K mg base 2 "_law_odd" ["hand"] spOdd := by
  refine mk_has F sc_law_odd (fun _ _ _ _ _ _ us hl => match us, hl with | [_], _ => rfl) (fun vs H Q E h => ?_) fun f cdv A outer s H vs Q E hr h => ?_
  · obtain ⟨h, l, rfl, _⟩ := h
    rfl
  obtain ⟨h, l, rfl, ho, k⟩ := h
  refine ⟨_, (pss_cons (ps_set (i := 1) sc_law_odd.nd rfl (Or.inl rfl) (pe_h D_law_take (hr.mono (by decide)) rfl (pa_cons (pv 0) (pa_cons pe_int pa_nil))))
    (pss_cons (ps_if (pt_cmpR op_lt (pv 1) pe_int (nomark _))
    (pss_one (ps_ret (pe_ix ix_list (pe_lst (pa_cons pe_non (pa_cons pe_bl (pa_cons pe_bl (pa_cons pe_str (pa_cons pe_str (pa_cons pe_str pa_nil))))))) (pv 1) (fun _ _ => rfl))))
    pss_nil)
    (pss_cons (ps_if (pt_cmpR op_lt (pv 1) pe_int (nomark _))
    (pss_one (ps_ret (pe_ix ix_list (pe_lst (pa_cons (pe_tup pa_nil) (pa_cons (pe_lst pa_nil) (pa_cons pe_dnewK (pa_cons (pe_tup (pa_cons pe_int pa_nil)) (pa_cons (pe_lst (pa_cons pe_int (pa_cons pe_int pa_nil))) (pa_cons (pe_tup (pa_cons (pe_tup pa_nil) pa_nil)) pa_nil))))))) (pe_op op_sub (pv 1) pe_int) (fun _ _ => rfl))))
    pss_nil)
    (pss_one (ps_ret (pe_ix ix_list (pe_lst (pa_cons (pe_un un_neg pe_int) (pa_cons pe_int (pa_cons (pe_op op_sub (pe_op op_pow pe_int pe_int) pe_int) (pa_cons (pe_tup (pa_cons pe_int (pa_cons pe_int pa_nil))) (pa_cons (pe_tup (pa_cons pe_bl (pa_cons pe_int pa_nil))) (pa_cons (pe_tup (pa_cons pe_int (pa_cons pe_int (pa_cons pe_int pa_nil)))) pa_nil))))))) (pe_op op_sub (pv 1) pe_int) (fun _ _ => rfl))))))), ?_⟩
  refine ⟨_, rfl, h, l, 18, rfl, ho, by decide, by decide, fun r H1 r0 r1 ho1 hk => ?_⟩
  have k1 : Kp (Nh h) H H1 := Kp.hand hk
  refine ⟨_, rfl, _, _, rfl, rfl, _, rfl, ?_⟩
  refine ite2 (fun c => ?_) (fun c => ?_)
  · have c' : r < 6 := of_decide_eq_true c
    refine ⟨(by show 6 ≤ sizeLine; decide), fun p np => ?_⟩
    have k2 := k1.hn (o := .lst [.non, .bl true, .bl false, .str "", .str "do", .str "0"]) np
    have fin : ∀ v d, d ∈ odds → Rp (Nh h) (upd H1 p (.lst [.non, .bl true, .bl false, .str "", .str "do", .str "0"])) v d → Q v (upd H1 p (.lst [.non, .bl true, .bl false, .str "", .str "do", .str "0"])) := fun v d m r => k v d _ m r (ho1.new np) k2
    rcases lt6 r0 c' with rfl | rfl | rfl | rfl | rfl | rfl
    · exact ⟨_, rfl, _, _, _, _, rfl, rfl, SqL.of upd_same, rfl, fin _ .none (by simp [odds]) .non⟩
    · exact ⟨_, rfl, _, _, _, _, rfl, rfl, SqL.of upd_same, rfl, fin _ (.bool true) (by simp [odds]) (.bl _)⟩
    · exact ⟨_, rfl, _, _, _, _, rfl, rfl, SqL.of upd_same, rfl, fin _ (.bool false) (by simp [odds]) (.bl _)⟩
    · exact ⟨_, rfl, _, _, _, _, rfl, rfl, SqL.of upd_same, rfl, fin _ (.str "") (by simp [odds]) (.str _)⟩
    · exact ⟨_, rfl, _, _, _, _, rfl, rfl, SqL.of upd_same, rfl, fin _ (.str "do") (by simp [odds]) (.str _)⟩
    · exact ⟨_, rfl, _, _, _, _, rfl, rfl, SqL.of upd_same, rfl, fin _ (.str "0") (by simp [odds]) (.str _)⟩
  have c' : ¬ r < 6 := of_decide_eq_false (Bool.eq_false_iff.mpr c)
  refine ⟨_, rfl, _, _, rfl, rfl, _, rfl, ?_⟩
  refine ite2 (fun c2 => ?_) (fun c2 => ?_)
  · have c2' : r < 12 := of_decide_eq_true c2
    refine ⟨(by show 0 ≤ sizeLine; decide), fun p1 n1 => ?_⟩
    refine ⟨(by show 0 ≤ sizeLine; decide), fun p2 n2 => ?_⟩
    refine fun p3 n3 => ?_
    refine ⟨(by show 1 ≤ sizeLine; decide), fun p4 n4 => ?_⟩
    refine ⟨(by show 2 ≤ sizeLine; decide), fun p5 n5 => ?_⟩
    refine ⟨(by show 0 ≤ sizeLine; decide), fun p6 n6 => ?_⟩
    refine ⟨(by show 1 ≤ sizeLine; decide), fun p7 n7 => ?_⟩
    refine ⟨(by show 6 ≤ sizeLine; decide), fun p8 n8 => ?_⟩
    have o1 := ho1.new (o := .tup []) n1
    have o2 := o1.new (o := .lst []) n2
    have o3 := o2.new (o := .dK []) n3
    have o4 := o3.new (o := .tup [.int 0]) n4
    have o5 := o4.new (o := .lst [.int 0, .int 0]) n5
    have o6 := o5.new (o := .tup []) n6
    have o7 := o6.new (o := .tup [.ref p6]) n7
    have o8 := o7.new (o := .lst [.ref p1, .ref p2, .ref p3, .ref p4, .ref p5, .ref p7]) n8
    have q8 : Kp (Nh h) _ (upd _ p8 (.lst [.ref p1, .ref p2, .ref p3, .ref p4, .ref p5, .ref p7])) := Kp.new n8
    have q7 := (Kp.new (N := Nh h) (o := .tup [.ref p6]) n7).trans q8
    have q6 := (Kp.new (N := Nh h) (o := .tup []) n6).trans q7
    have q5 := (Kp.new (N := Nh h) (o := .lst [.int 0, .int 0]) n5).trans q6
    have q4 := (Kp.new (N := Nh h) (o := .tup [.int 0]) n4).trans q5
    have q3 := (Kp.new (N := Nh h) (o := .dK []) n3).trans q4
    have q2 := (Kp.new (N := Nh h) (o := .lst []) n2).trans q3
    have q1 := (Kp.new (N := Nh h) (o := .tup []) n1).trans q2
    have fin := fun v d m r => k v d _ m r o8 (k1.trans q1)
    rcases (show r = 6 ∨ r = 7 ∨ r = 8 ∨ r = 9 ∨ r = 10 ∨ r = 11 by omega) with rfl | rfl | rfl | rfl | rfl | rfl
    · exact ⟨_, rfl, _, _, rfl, rfl, _, _, _, _, rfl, rfl, SqL.of upd_same, rfl, fin _ (.tuple []) (by simp [odds]) ((Rp.tup0 ho1 n1 .nil).to q2)⟩
    · exact ⟨_, rfl, _, _, rfl, rfl, _, _, _, _, rfl, rfl, SqL.of upd_same, rfl, fin _ (.list []) (by simp [odds]) ((Rp.lst0 o1 n2 .nil).to q3)⟩
    · exact ⟨_, rfl, _, _, rfl, rfl, _, _, _, _, rfl, rfl, SqL.of upd_same, rfl, fin _ (.dict []) (by simp [odds]) ((Rp.emp0 o2 n3).to q4)⟩
    · exact ⟨_, rfl, _, _, rfl, rfl, _, _, _, _, rfl, rfl, SqL.of upd_same, rfl, fin _ (.tuple [.int 0]) (by simp [odds]) ((Rp.tup0 o3 n4 (rI1 0)).to q5)⟩
    · exact ⟨_, rfl, _, _, rfl, rfl, _, _, _, _, rfl, rfl, SqL.of upd_same, rfl, fin _ (.list [.int 0, .int 0]) (by simp [odds]) ((Rp.lst0 o4 n5 (.cons (.int 0) (rI1 0))).to q6)⟩
    · exact ⟨_, rfl, _, _, rfl, rfl, _, _, _, _, rfl, rfl, SqL.of upd_same, rfl, fin _ (.tuple [.tuple []]) (by simp [odds]) ((Rp.tup0 o6 n7 (.cons (Rp.tup0 o5 n6 .nil) .nil)).to q8)⟩
  · have c2' : ¬ r < 12 := of_decide_eq_false (Bool.eq_false_iff.mpr c2)
    refine ⟨_, rfl, _, _, rfl, rfl, ⟨by decide, by decide, by decide⟩, _, _, rfl, rfl, ?_⟩
    refine ⟨(by show 2 ≤ sizeLine; decide), fun p4 n4 => ?_⟩
    refine ⟨(by show 2 ≤ sizeLine; decide), fun p5 n5 => ?_⟩
    refine ⟨(by show 3 ≤ sizeLine; decide), fun p6 n6 => ?_⟩
    refine ⟨(by show 6 ≤ sizeLine; decide), fun p8 n8 => ?_⟩
    have o4 := ho1.new (o := .tup [.int 0, .int 13]) n4
    have o5 := o4.new (o := .tup [.bl true, .int 0]) n5
    have o6 := o5.new (o := .tup [.int 0, .int 0, .int 0]) n6
    have o8 := o6.new (o := .lst [.int (-1), .int 13, .int (10 ^ 20 - 1), .ref p4, .ref p5, .ref p6]) n8
    have q8 : Kp (Nh h) _ (upd _ p8 (.lst [.int (-1), .int 13, .int (10 ^ 20 - 1), .ref p4, .ref p5, .ref p6])) := Kp.new n8
    have q6 := (Kp.new (N := Nh h) (o := .tup [.int 0, .int 0, .int 0]) n6).trans q8
    have q5 := (Kp.new (N := Nh h) (o := .tup [.bl true, .int 0]) n5).trans q6
    have q4 := (Kp.new (N := Nh h) (o := .tup [.int 0, .int 13]) n4).trans q5
    have fin := fun v d m r => k v d _ m r o8 (k1.trans q4)
    rcases (show r = 12 ∨ r = 13 ∨ r = 14 ∨ r = 15 ∨ r = 16 ∨ r = 17 by omega) with rfl | rfl | rfl | rfl | rfl | rfl
    · exact ⟨_, rfl, _, _, rfl, rfl, _, _, _, _, rfl, rfl, SqL.of upd_same, rfl, fin _ (.int (-1)) (by simp [odds]) (.int _)⟩
    · exact ⟨_, rfl, _, _, rfl, rfl, _, _, _, _, rfl, rfl, SqL.of upd_same, rfl, fin _ (.int 13) (by simp [odds]) (.int _)⟩
    · exact ⟨_, rfl, _, _, rfl, rfl, _, _, _, _, rfl, rfl, SqL.of upd_same, rfl, fin _ (.int (10 ^ 20 - 1)) (by simp [odds]) (.int _)⟩
    · exact ⟨_, rfl, _, _, rfl, rfl, _, _, _, _, rfl, rfl, SqL.of upd_same, rfl, fin _ (.tuple [.int 0, .int 13]) (by simp [odds]) ((Rp.tup0 ho1 n4 (.cons (.int 0) (rI1 13))).to q5)⟩
    · exact ⟨_, rfl, _, _, rfl, rfl, _, _, _, _, rfl, rfl, SqL.of upd_same, rfl, fin _ (.tuple [.bool true, .int 0]) (by simp [odds]) ((Rp.tup0 o4 n5 (.cons (.bl true) (rI1 0))).to q6)⟩
    · exact ⟨_, rfl, _, _, rfl, rfl, _, _, _, _, rfl, rfl, SqL.of upd_same, rfl, fin _ (.tuple [.int 0, .int 0, .int 0]) (by simp [odds]) ((Rp.tup0 o5 n6 (.cons (.int 0) (.cons (.int 0) (rI1 0)))).to q8)⟩
end
end KQ
set_option Elab.async false
set_option maxRecDepth 100000
set_option maxHeartbeats 4000000
namespace KQ
open PySem PySem.Spec PyProof.Rows L2
def numOf (d : PyData) : Bool := match intOf d with
  | some i => decide (0 ≤ i)
  | none => false
def below (b : Int) (d : PyData) : Bool := match intOf d with
  | some i => decide (0 ≤ i) && decide (i < b)
  | none => false
def spIsNumber : Sp := fun vs H Q _ => ∃ (N : Addr → Prop) (v : V) (d : PyData), vs = [v] ∧ Rp N H v d ∧ Q (.bl (numOf d)) H
def spIsBelow : Sp := fun vs H Q _ => ∃ (N : Addr → Prop) (v : V) (d : PyData) (b : Int), vs = [.int b, v] ∧ Rp N H v d ∧ Q (.bl (below b d)) H
theorem lk_head {x : Str} {v : V} {r : List (Str × V)} : ((x, v) :: r).lookup x = some v := by simp [List.lookup]
theorem lk_next {x y : Str} {v : V} {r : List (Str × V)} (h : ¬ y = x) : ((x, v) :: r).lookup y = r.lookup y := by
  have e : (y == x) = false := by simpa using h
  simp [List.lookup, e]
def lenIs (m : Int) : PyData → Bool
  | .tuple ds => decide ((ds.length : Int) = m)
  | _ => false
def spTupOf : Sp := fun vs H Q _ => ∃ (N : Addr → Prop) (v : V) (d : PyData) (m : Int), vs = [.int m, v] ∧ Rp N H v d ∧ Q (.bl (lenIs m d)) H
section
variable {P : Program} {w : World} {K : PySem.W.Frag} {mg : Str → Option Value} {base : Heap}
theorem d_is_number (B : Bi mg) (F : FunAt K mg "is_number" s_is_number) : Has P w K mg base 1 "is_number" ["thing"] spIsNumber := by
  refine mk_has F sc_is_number (fun _ _ _ _ _ _ us hl => match us, hl with | [_], _ => rfl) (fun vs H Q E h => ?_) fun f cdv A outer s H vs Q E hr h => ?_
  · obtain ⟨N, v, d, rfl, _⟩ := h
    rfl
  obtain ⟨N, v, d, rfl, r, k⟩ := h
  refine ⟨_, (pss_one (ps_ret (pe_and (pe_callB call_isi rfl B.isinstance (by decide +kernel) (pa_cons (pv 0) (pa_cons (pe_bltn (v := .ty "int") rfl B.int (by decide +kernel) rfl) pa_nil))) (pe_and (pe_not (pe_callB call_isi rfl B.isinstance (by decide +kernel) (pa_cons (pv 0) (pa_cons (pe_bltn (v := .ty "bool") rfl B.bool (by decide +kernel) rfl) pa_nil)))) (pe_one (pe_cmpR op_ge (pv 0) pe_int (nomark _))))))), ?_⟩
  refine ⟨_, rfl, _, _, _, _, _, rfl, .ty "int", r.ty, kit_int d, _, rfl, ?_⟩
  unfold numOf at k
  cases d with
  | int i =>
    cases r
    refine ifT rfl ⟨_, rfl, _, _, _, _, _, rfl, .ty "bool", (Rp.int (N := N) i).ty, kit_bool _, _, rfl, _, rfl, ifT rfl ⟨_, rfl, _, _, rfl, rfl, k⟩⟩
  | bool b => exact ifT rfl ⟨_, rfl, _, _, _, _, _, rfl, .ty "bool", r.ty, kit_bool _, _, rfl, _, rfl, ifF rfl k⟩
  | none => exact ifF rfl k
  | str x => exact ifF rfl k
  | list x => exact ifF rfl k
  | tuple x => exact ifF rfl k
  | dict x => exact ifF rfl k
theorem d_is_below (F : FunAt K mg "is_below" s_is_below) (D_is_number : Has P w K mg base 1 "is_number" ["thing"] spIsNumber) : Has P w K mg base 2 "is_below" ["bound", "thing"] spIsBelow := by
  refine mk_has F sc_is_below (fun _ _ _ _ _ _ us hl => match us, hl with | [_, _], _ => rfl) (fun vs H Q E h => ?_) fun f cdv A outer s H vs Q E hr h => ?_
  · obtain ⟨N, v, d, b, rfl, _⟩ := h
    rfl
  obtain ⟨N, v, d, b, rfl, r, k⟩ := h
  refine ⟨_, (pss_one (ps_ret (pe_and (pe_h D_is_number (hr.mono (by decide)) rfl (pa_cons (pv 1) pa_nil)) (pe_one (pe_cmpR op_lt (pv 1) (pv 0) (nomark _)))))), ?_⟩
  refine ⟨_, rfl, N, v, d, rfl, r, _, rfl, ?_⟩
  unfold below at k
  unfold numOf
  cases e : intOf d with
  | none =>
    rw [e] at k
    exact ifF rfl k
  | some i =>
    rw [e] at k
    have ed : d = .int i := by cases d <;> simp_all [intOf]
    subst ed
    cases r
    have k' : Q (.bl (decide (0 ≤ i) && decide (i < b))) H := k
    show if decide (0 ≤ i) = true then _ else _
    cases e1 : decide (0 ≤ i) with
    | true =>
      rw [e1] at k'
      exact ifT rfl ⟨_, rfl, _, rfl, _, _, rfl, rfl, k'⟩
    | false =>
      rw [e1] at k'
      exact ifF rfl k'
theorem d_is_tuple_of (B : Bi mg) (F : FunAt K mg "is_tuple_of" s_is_tuple_of) : Has P w K mg base 1 "is_tuple_of" ["many", "thing"] spTupOf := by
  refine mk_has F sc_is_tuple_of (fun _ _ _ _ _ _ us hl => match us, hl with | [_, _], _ => rfl) (fun vs H Q E h => ?_) fun f cdv A outer s H vs Q E hr h => ?_
  · obtain ⟨N, v, d, m, rfl, _⟩ := h
    rfl
  obtain ⟨N, v, d, m, rfl, r, k⟩ := h
  refine ⟨_, (pss_one (ps_ret (pe_and (pe_callB call_isi rfl B.isinstance (by decide +kernel) (pa_cons (pv 1) (pa_cons (pe_bltn (v := .ty "tuple") rfl B.tuple (by decide +kernel) rfl) pa_nil))) (pe_one (pe_cmpR op_eq (pe_callB call_len_seq rfl B.len PySem.boot_len (pa_cons (pv 1) pa_nil)) (pv 0) (nomark _)))))), ?_⟩
  refine ⟨_, rfl, _, _, _, _, _, rfl, .ty "tuple", r.ty, kit_tuple d, _, rfl, ?_⟩
  cases d with
  | tuple ds =>
    cases r with
    | tup e n ra =>
    exact ifT rfl ⟨_, rfl, _, _, rfl, .inr (SqT.of e), _, rfl, rfl, okB (by rw [ra.length]; simp [lenIs]) k⟩
  | bool b => exact ifF rfl k
  | int b => exact ifF rfl k
  | none => exact ifF rfl k
  | str x => exact ifF rfl k
  | list x => exact ifF rfl k
  | dict x => exact ifF rfl k
end
end KQ
set_option Elab.async false
set_option maxRecDepth 100000
set_option maxHeartbeats 4000000
namespace KQ
open PySem PySem.Spec PyProof.Rows L2
/-! ### works: what is asked of rules and tasks -/
def isPair (m k : Int) : PyData → Bool
  | .tuple [a, b] => below m a && below k b
  | _ => false
def isRule (m k : Int) : PyData → Bool
  | .tuple ds => decide (ds.length ≤ 4) && ds.all (isPair m k)
  | _ => false
def spPair : Sp := fun vs H Q _ => ∃ (N : Addr → Prop) (v : V) (d : PyData) (m k : Int), vs = [.int m, .int k, v] ∧ Rp N H v d ∧ Q (.bl (isPair m k d)) H
def spRule : Sp := fun vs H Q _ => ∃ (N : Addr → Prop) (v : V) (d : PyData) (m k : Int), vs = [.int m, .int k, v] ∧ Rp N H v d ∧ ∀ H', Same H H' → Q (.bl (isRule m k d)) H'
theorem tYes_ok {σ : L2.St} {H : Hp} {Q : Bool → Hp → Prop} (h : Q true H) : tYes σ H Q := h
theorem map_take {α β : Type} {f : α → β} {ds : List α} {i : Nat} {d : α} (h : ds[i]? = some d) : (ds.take (i + 1)).map f = (ds.take i).map f ++ [f d] := by
  rw [List.take_add_one, h, List.map_append] <;> rfl
section
variable {P : Program} {w : World} {K : PySem.W.Frag} {mg : Str → Option Value} {base : Heap} {t1 t2 t3 t4 : Tok}
theorem d_is_rule_pair (F : FunAt K mg "is_rule_pair" s_is_rule_pair) (D_is_tuple_of : Has P w K mg base 1 "is_tuple_of" ["many", "thing"] spTupOf) (D_is_below : Has P w K mg base 2 "is_below" ["bound", "thing"] spIsBelow) : Has P w K mg base 3 "is_rule_pair" ["many", "kinds", "thing"] spPair := by
  refine mk_has F sc_is_rule_pair (fun _ _ _ _ _ _ us hl => match us, hl with | [_, _, _], _ => rfl) (fun vs H Q E h => ?_) fun f cdv A outer s H vs Q E hr h => ?_
  · obtain ⟨N, v, d, m, k, rfl, _⟩ := h
    rfl
  obtain ⟨N, v, d, m, n, rfl, r, k⟩ := h
  refine ⟨_, (pss_one (ps_ret (pe_and (pe_h D_is_tuple_of (hr.mono (by decide)) rfl (pa_cons pe_int (pa_cons (pv 2) pa_nil))) (pe_and (pe_h D_is_below (hr.mono (by decide)) rfl (pa_cons (pv 0) (pa_cons (pe_ix ix_tup (pv 2) pe_int (fun _ _ => rfl)) pa_nil))) (pe_one (pe_h D_is_below (hr.mono (by decide)) rfl (pa_cons (pv 1) (pa_cons (pe_ix ix_tup (pv 2) pe_int (fun _ _ => rfl)) pa_nil)))))))), ?_⟩
  refine ⟨_, rfl, N, v, d, 2, rfl, r, _, rfl, ?_⟩
  cases d with
  | tuple ds =>
    cases r with
    | tup e no ra =>
    cases ra with
    | nil => exact ifF rfl k
    | cons rx ra =>
    cases ra with
    | nil => exact ifF rfl k
    | cons ry ra =>
    cases ra with
    | nil =>
      rename_i x a y b
      refine ifT rfl ⟨_, rfl, _, rfl, _, _, _, _, rfl, rfl, SqT.of e, rfl, N, _, _, _, rfl, rx, _, rfl, ?_⟩
      cases e1 : below m a with
      | true => exact ifT rfl ⟨_, rfl, _, rfl, _, _, _, _, rfl, rfl, SqT.of e, rfl, N, _, _, _, rfl, ry, okB (by simp [isPair, e1]) k⟩
      | false => exact ifF rfl (okB (by simp [isPair, e1]) k)
    | cons rz ra => exact ifF (by simp [lenIs]; omega) k
  | bool b => exact ifF rfl k
  | int b => exact ifF rfl k
  | none => exact ifF rfl k
  | str x => exact ifF rfl k
  | list x => exact ifF rfl k
  | dict x => exact ifF rfl k
theorem d_is_rule (B : Bi mg) (F : FunAt K mg "is_rule" s_is_rule) (g_MOST_PAIRS : mg "MOST_PAIRS" = some (.int 4 t3)) (D_is_rule_pair : Has P w K mg base 3 "is_rule_pair" ["many", "kinds", "thing"] spPair) : Has P w K mg base 4 "is_rule" ["many", "kinds", "thing"] spRule := by
  refine mk_has F sc_is_rule (fun _ _ _ _ _ _ us hl => match us, hl with | [_, _, _], _ => rfl) (fun vs H Q E h => ?_) fun f cdv A outer s H vs Q E hr h => ?_
  · obtain ⟨N, v, d, m, k, rfl, _⟩ := h
    rfl
  obtain ⟨N, v, d, m, n, rfl, r, k⟩ := h
  refine ⟨_, (pss_cons (ps_if (PW.pt (pw_or (pt_not (pt_val (pe_callB call_isi rfl B.isinstance (by decide +kernel) (pa_cons (pv 2) (pa_cons (pe_bltn (v := .ty "tuple") rfl B.tuple (by decide +kernel) rfl) pa_nil))))) (pw_or1 (pt_cmpR op_gt (pe_callB call_len_seq rfl B.len PySem.boot_len (pa_cons (pv 2) pa_nil)) (pe_glob (v := .int 4) rfl g_MOST_PAIRS ⟨_, rfl⟩) (nomark _)))))
    (pss_one (ps_ret pe_bl))
    pss_nil)
    (pss_one (ps_ret (pe_callB (cr_all rfl) rfl B.all (by decide +kernel) (pa_cons (pe_lc (own := [("pair", 3)]) (g := gName 3) (tt := tYes) (te := (tCall spPair [] E0 (tCons (tVar 0) (tCons (tVar 1) (tCons (tVar 3) tNil))))) rfl sc_is_rule.nd (pi_tup (pv 2)) (blkOk_by (own := [("pair", 3)]) (N := ["many", "kinds", "thing", "pair"]) (sc := defScope s_is_rule) (by decide +kernel)) (fun _ _ _ _ _ => (pg_name (i := 3) sc_is_rule.nd rfl (Or.inl rfl))) (fun _ _ _ _ _ => pts_nil) (fun _ _ _ _ _ => (pe_h D_is_rule_pair (hr.mono (by decide)) rfl (pa_cons (pv 0) (pa_cons (pv 1) (pa_cons (pv 3) pa_nil)))))) pa_nil))))), ?_⟩
  refine ⟨_, rfl, _, _, _, _, _, rfl, .ty "tuple", r.ty, kit_tuple d, _, rfl, ?_⟩
  cases d with
  | tuple ds =>
    cases r with
    | @tup p xs _ e no ra =>
    refine ifF rfl ⟨_, rfl, _, _, rfl, .inr (SqT.of e), _, _, rfl, rfl, _, rfl, ?_⟩
    refine ite2 (fun c => ?_) (fun c => ?_)
    · have c' := of_decide_eq_true c
      rw [ra.length] at c'
      exact okB (by simp [isRule]; omega) (k H (Same.refl H))
    have hlen : ds.length ≤ 4 := by
      have c' : ¬ (4 < (xs.length : Int)) := fun z => c (decide_eq_true z)
      rw [ra.length] at c'
      omega
    refine ⟨_, rfl, _, rfl, ⟨xs, SqT.of e⟩, fun D nD => lc_tup (K := K) (a := p) (xs := xs) (fun i H' => Same H H' ∧ H' D = some (.lst ((ds.take i).map fun d => .bl (isPair m n d)))) ⟨same_new nD, upd_same⟩ (fun i H' _ z => SqT.of (z.1 _ _ e)) (fun i x H' hx z => ?_) fun H' z => ?_⟩
    · obtain ⟨d, md, gd, rd⟩ := ra.at_ hx
      refine ⟨rfl, ?_⟩
      refine tYes_ok ?_
      rw [if_pos rfl]
      refine ⟨_, rfl, _, rfl, _, rfl, N, x, d, m, n, rfl, rd.to (Kp.of_same z.1), _, z.2, ?_, ?_, ?_⟩
      · rw [List.length_map, List.length_take]
        exact Nat.lt_of_le_of_lt (Nat.le_trans (Nat.min_le_right _ _) hlen) (by decide)
      · exact fun b o q => by rw [upd_ne (ne_of_none q nD)]; exact z.1 b o q
      · rw [upd_same, map_take gd]
    · refine ⟨D, ds.map (isPair m n), rfl, SqL.of ?_, okB ?_ (k H' z.1)⟩
      · rw [z.2, List.map_map, ra.length, List.take_length]
        rfl
      · simp [isRule, hlen, List.all_map]
  | bool b => exact ifT rfl (k _ (Same.refl H))
  | int b => exact ifT rfl (k _ (Same.refl H))
  | none => exact ifT rfl (k _ (Same.refl H))
  | str x => exact ifT rfl (k _ (Same.refl H))
  | list x => exact ifT rfl (k _ (Same.refl H))
  | dict x => exact ifT rfl (k _ (Same.refl H))
end
end KQ
set_option Elab.async false
set_option maxRecDepth 100000
set_option maxHeartbeats 4000000
namespace KQ
open PySem PySem.Spec PyProof.Rows L2
/-! ### Works -/
mutual
theorem Rp.dp {K : PySem.W.Frag} {N : Addr → Prop} {H : Hp} : ∀ {v : V} {d : PyData}, Rp N H v d → d.canLay0 = true → Dp K H v d
  | _, _, .non, _ => .non
  | _, _, .bl b, _ => .bl b
  | _, _, .int i, _ => .int i
  | _, _, .str x, _ => .str x
  | _, _, .lst e _ r, c => .lst (SqL.of e) (r.dp (by simpa [PyData.canLay0] using c))
  | _, _, .tup e _ r, c => .tup (SqT.of e) (r.dp (by simpa [PyData.canLay0] using c))
  | _, _, .emp _ _, c => by simp [PyData.canLay0] at c
theorem RpAll.dp {K : PySem.W.Frag} {N : Addr → Prop} {H : Hp} : ∀ {vs : List V} {ds : List PyData}, RpAll N H vs ds → PyData.canLayAll0 ds = true → DpAll K H vs ds
  | _, _, .nil, _ => .nil
  | _, _, .cons r t, c => by
    unfold PyData.canLayAll0 at c
    rw [Bool.and_eq_true] at c
    exact .cons (r.dp c.1) (t.dp c.2)
end
theorem lay_of {d : PyData} (h : SeqAt.shaped d = true) : d.canLay0 = true := SeqAt.canLay_of_shaped h
def firstBad (f : PyData → Bool) : Nat → List PyData → Option Nat
  | _, [] => none
  | i, d :: ds => if f d then firstBad f (i + 1) ds else some i
theorem firstBad_at {f : PyData → Bool} {ds : List PyData} {i : Nat} {d : PyData} (h : ds[i]? = some d) : firstBad f i (ds.drop i) = if f d then firstBad f (i + 1) (ds.drop (i + 1)) else some i := by
  obtain ⟨hl, e⟩ := List.getElem?_eq_some_iff.mp h
  rw [List.drop_eq_getElem_cons hl, e]
  rfl
def num (d : PyData) : Int := (intOf d).getD 0
/-- what is wrong with many and rules -/
def badW (dm dr : PyData) : Option V :=
  if within dm 1 6 = false then some (.str "many") else match dr with
  | .tuple ds => if ds.length = 0 ∨ 6 < ds.length then some (.int (-1)) else (firstBad (isRule (num dm) ds.length) 0 ds).map fun i => .int (i : Nat)
  | _ => some (.int (-1))
def wF (vm vr : V) : List (Str × V) := [("many", vm), ("rules", vr)]
theorem fne3 : ¬ (("many" : Str) = "rules") := by decide +kernel
theorem wF_new {vm vr : V} : putF "rules" vr (putF "many" vm []) = wF vm vr := by
  show (if ("many" : Str) = "rules" then _ else (("many" : Str), vm) :: putF "rules" vr []) = _
  rw [if_neg fne3] <;> rfl
theorem wF_m {vm vr : V} : (wF vm vr).lookup ("many" : Str) = some vm := lk_head
theorem wF_r {vm vr : V} : (wF vm vr).lookup ("rules" : Str) = some vr := (lk_next (by decide +kernel)).trans lk_head
theorem wF_no {vm vr : V} {m : Str} (h1 : ¬ m = "many") (h2 : ¬ m = "rules") : (wF vm vr).lookup m = none := (lk_next h1).trans ((lk_next h2).trans rfl)
def WorksAt (C : Addr) (H : Hp) (p : Addr) (vm vr : V) : Prop := ∃ dx, H p = some (.ins C dx (wF vm vr))
theorem WorksAt.same {C : Addr} {H H' : Hp} {p : Addr} {vm vr : V} (o : WorksAt C H p vm vr) (k : Same H H') : WorksAt C H' p vm vr := ⟨o.choose, k _ _ o.choose_spec⟩
/-- what the written part says of the class Works -/
structure WorksC (K : PySem.W.Frag) (mg : Str → Option Value) (C : Addr) : Prop where
  g : mg "Works" = some (.ref C)
  cl : Cls K C
  n1 : NoAttr K C "many"
  n2 : NoAttr K C "rules"
  ha : PySem.W.findIn K (.ref C) "__class__" = some (some (.builtin "object.__class__"))
  hn : PySem.W.specialIn K (.builtin "object.__class__") "__get__" = some (some (.builtin "getset_descriptor.__get__"))
  htk : PySem.W.takesIn K (.builtin "object.__class__") = some true
  hm : PySem.W.mroIn K C (.type "object") = some true
  k1 : PySem.W.kitOne K (.ref C) (.ref C) = some true
  k0 : PySem.W.kitOne K (.type "tuple") (.ref C) = some false
  nf : PySem.W.notFirst K C (.type "tuple") = true
theorem WorksC.ty {K : PySem.W.Frag} {mg : Str → Option Value} {C : Addr} (T : WorksC K mg C) {H : Hp} {a dx : Addr} {fs : List (Str × V)} (h : H a = some (.ins C dx fs)) : TyX K H (.ref a) (.ref C) :=
  .base (.ins h T.cl T.ha T.hn T.htk T.hm)
def spWInit (C CB : Addr) : Sp := fun vs H Q E => ∃ (N : Addr → Prop) (p dx : Addr) (vm vr : V) (dm dr : PyData), vs = [.ref p, vm, vr] ∧ H p = some (.ins C dx []) ∧ Rp N H vm dm ∧ Rp N H vr dr ∧
  (∀ e, badW dm dr = some e → ∀ (d : Addr) (H' : Hp), Same H H' → H' d = none → E (.ref CB) (some d) (upd H' d (.xd [("part", e)]))) ∧
  (badW dm dr = none → ∀ H', H' p = some (.ins C dx (wF vm vr)) → Kp (Nh p) H H' → Q .non H')
def spWEq (C : Addr) : Sp := fun vs H Q _ => ∃ (a b : Addr) (vm vr : V), vs = [.ref a, .ref b] ∧ WorksAt C H a vm vr ∧
  (((∃ xs, H b = some (.tup xs)) ∧ Q (.bl false) H) ∨ ∃ (N : Addr → Prop) (vm' vr' : V) (dr dr' : PyData) (i j : Int), WorksAt C H b vm' vr' ∧ vm = .int i ∧ vm' = .int j ∧ Rp N H vr dr ∧ Rp N H vr' dr' ∧ SeqAt.shaped dr = true ∧ SeqAt.shaped dr' = true ∧ Q (.bl (decide (i = j) && PyData.eqv dr dr')) H)
def spIsHouse (C : Addr) : Sp := fun vs H Q _ => ∃ (N : Addr → Prop) (a : Addr) (m : Int) (vr v : V) (d : PyData), vs = [.ref a, v] ∧ WorksAt C H a (.int m) vr ∧ Rp N H v d ∧ Q (.bl (below m d)) H
def spIsTask (C : Addr) : Sp := fun vs H Q _ => ∃ (N : Addr → Prop) (a r : Addr) (vm v : V) (rs : List V) (d : PyData), vs = [.ref a, v] ∧ WorksAt C H a vm (.ref r) ∧ H r = some (.tup rs) ∧ Rp N H v d ∧ Q (.bl (isPair rs.length 13 d)) H
def spCheckHouse (C CN : Addr) : Sp := fun vs H Q E => ∃ (N : Addr → Prop) (a : Addr) (m : Int) (vr v : V) (d : PyData), vs = [.ref a, v] ∧ WorksAt C H a (.int m) vr ∧ Rp N H v d ∧ (below m d = false → E (.ref CN) none H) ∧ (below m d = true → Q .non H)
def spCheckTask (C CN : Addr) : Sp := fun vs H Q E => ∃ (N : Addr → Prop) (a r : Addr) (vm v : V) (rs : List V) (d : PyData), vs = [.ref a, v] ∧ WorksAt C H a vm (.ref r) ∧ H r = some (.tup rs) ∧ Rp N H v d ∧
  (isPair rs.length 13 d = false → E (.ref CN) none H) ∧ (isPair rs.length 13 d = true → Q .non H)
section
variable {P : Program} {w : World} {K : PySem.W.Frag} {mg : Str → Option Value} {base : Heap} {t1 t2 t3 t4 : Tok} {C CB CN : Addr}
theorem d_is_house (T : WorksC K mg C) (F : FunAt K mg "is_house" s_is_house) (D_is_below : Has P w K mg base 2 "is_below" ["bound", "thing"] spIsBelow) : Has P w K mg base 3 "is_house" ["works", "thing"] (spIsHouse C) := by
  refine mk_has F sc_is_house (fun _ _ _ _ _ _ us hl => match us, hl with | [_, _], _ => rfl) (fun vs H Q E h => ?_) fun f cdv A outer s H vs Q E hr h => ?_
  · obtain ⟨N, a, m, vr, v, d, rfl, _⟩ := h
    rfl
  obtain ⟨N, a, m, vr, v, d, rfl, ⟨dx, ha⟩, r, k⟩ := h
  refine ⟨_, (pss_one (ps_ret (pe_h D_is_below (hr.mono (by decide)) rfl (pa_cons (pe_fld (pv 0) rfl) (pa_cons (pv 1) pa_nil))))), ?_⟩
  exact ⟨_, rfl, a, C, dx, _, _, rfl, ha, T.cl, T.n1, wF_m, _, rfl, N, v, d, m, rfl, r, k⟩
theorem d_check_house (x_NoHouse : ExcAt K mg "NoHouse" CN) (F : FunAt K mg "check_house" s_check_house) (D_is_house : Has P w K mg base 3 "is_house" ["works", "thing"] (spIsHouse C)) : HasX P w K mg base 4 "check_house" ["works", "house"] (spCheckHouse C CN) := by
  refine mk_hasX F sc_check_house (fun _ _ _ _ _ _ us hl => match us, hl with | [_, _], _ => rfl) (fun vs H Q E h => ?_) fun f cdv A outer s H vs Q E hr h => ?_
  · obtain ⟨N, a, m, vr, v, d, rfl, _⟩ := h
    rfl
  obtain ⟨N, a, m, vr, v, d, rfl, ha, r, k1, k2⟩ := h
  refine ⟨_, (pss_one (ps_if (pt_not (pt_val (pe_h D_is_house (hr.mono (by decide)) rfl (pa_cons (pv 0) (pa_cons (pv 1) pa_nil)))))
    (pss_one (ps_rz rfl (takes_of rfl rfl rfl rfl) x_NoHouse rfl))
    pss_nil)), ?_⟩
  refine ⟨_, rfl, _, rfl, N, a, m, vr, v, d, rfl, ha, r, _, rfl, ?_⟩
  cases e : below m d with
  | true => exact ifF rfl (k2 e)
  | false => exact ifT rfl (k1 e)
theorem d_is_task (B : Bi mg) (T : WorksC K mg C) (F : FunAt K mg "is_task" s_is_task) (g_MOST_FUEL : mg "MOST_FUEL" = some (.int 12 t4)) (D_is_tuple_of : Has P w K mg base 1 "is_tuple_of" ["many", "thing"] spTupOf) (D_is_below : Has P w K mg base 2 "is_below" ["bound", "thing"] spIsBelow) : Has P w K mg base 3 "is_task" ["works", "thing"] (spIsTask C) := by
  refine mk_has F sc_is_task (fun _ _ _ _ _ _ us hl => match us, hl with | [_, _], _ => rfl) (fun vs H Q E h => ?_) fun f cdv A outer s H vs Q E hr h => ?_
  · obtain ⟨N, a, r, vm, v, rs, d, rfl, _⟩ := h
    rfl
  obtain ⟨N, a, r, vm, v, rs, d, rfl, ⟨dx, ha⟩, hrs, rd, k⟩ := h
  refine ⟨_, (pss_one (ps_ret (pe_and (pe_h D_is_tuple_of (hr.mono (by decide)) rfl (pa_cons pe_int (pa_cons (pv 1) pa_nil))) (pe_and (pe_h D_is_below (hr.mono (by decide)) rfl (pa_cons (pe_callB call_len_seq rfl B.len PySem.boot_len (pa_cons (pe_fld (pv 0) rfl) pa_nil)) (pa_cons (pe_ix ix_tup (pv 1) pe_int (fun _ _ => rfl)) pa_nil))) (pe_one (pe_h D_is_below (hr.mono (by decide)) rfl (pa_cons (pe_op op_add (pe_glob (v := .int 12) rfl g_MOST_FUEL ⟨_, rfl⟩) pe_int) (pa_cons (pe_ix ix_tup (pv 1) pe_int (fun _ _ => rfl)) pa_nil)))))))), ?_⟩
  refine ⟨_, rfl, N, v, d, 2, rfl, rd, _, rfl, ?_⟩
  cases d with
  | tuple ds =>
    cases rd with
    | tup e no ra =>
    cases ra with
    | nil => exact ifF rfl k
    | cons rx ra =>
    cases ra with
    | nil => exact ifF rfl k
    | cons ry ra =>
    cases ra with
    | nil =>
      rename_i x y1 y b
      refine ifT rfl ⟨_, rfl, a, C, dx, _, _, rfl, ha, T.cl, T.n2, wF_r, _, _, rfl, .inr (SqT.of hrs), _, rfl, _, _, _, _, rfl, rfl, SqT.of e, rfl, N, _, _, _, rfl, rx, _, rfl, ?_⟩
      cases e1 : below rs.length y1 with
      | true => exact ifT rfl ⟨_, _, rfl, rfl, _, rfl, _, _, _, _, rfl, rfl, SqT.of e, rfl, N, _, _, _, rfl, ry, okB (by simp [isPair, e1]) k⟩
      | false => exact ifF rfl (okB (by simp [isPair, e1]) k)
    | cons rz ra => exact ifF (by simp [lenIs]; omega) k
  | bool b => exact ifF rfl k
  | int b => exact ifF rfl k
  | none => exact ifF rfl k
  | str x => exact ifF rfl k
  | list x => exact ifF rfl k
  | dict x => exact ifF rfl k
theorem d_check_task (x_NoTask : ExcAt K mg "NoTask" CN) (F : FunAt K mg "check_task" s_check_task) (D_is_task : Has P w K mg base 3 "is_task" ["works", "thing"] (spIsTask C)) : HasX P w K mg base 4 "check_task" ["works", "task"] (spCheckTask C CN) := by
  refine mk_hasX F sc_check_task (fun _ _ _ _ _ _ us hl => match us, hl with | [_, _], _ => rfl) (fun vs H Q E h => ?_) fun f cdv A outer s H vs Q E hr h => ?_
  · obtain ⟨N, a, r, vm, v, rs, d, rfl, _⟩ := h
    rfl
  obtain ⟨N, a, r, vm, v, rs, d, rfl, ha, hrs, rd, k1, k2⟩ := h
  refine ⟨_, (pss_one (ps_if (pt_not (pt_val (pe_h D_is_task (hr.mono (by decide)) rfl (pa_cons (pv 0) (pa_cons (pv 1) pa_nil)))))
    (pss_one (ps_rz rfl (takes_of rfl rfl rfl rfl) x_NoTask rfl))
    pss_nil)), ?_⟩
  refine ⟨_, rfl, _, rfl, N, a, r, vm, v, rs, d, rfl, ha, hrs, rd, _, rfl, ?_⟩
  cases e : isPair rs.length 13 d with
  | true => exact ifF rfl (k2 e)
  | false => exact ifT rfl (k1 e)
theorem d_works_eq (B : Bi mg) (T : WorksC K mg C) (F : MethAt K C "__eq__" "Works.__eq__" s_Works___eq__) : HasM P w K mg base 1 C "__eq__" ["self", "other"] (spWEq C) := by
  refine mk_hasM F sc_Works___eq__ (fun _ _ _ _ _ _ us hl => match us, hl with | [_, _], _ => rfl) (fun vs H Q E h => ?_) fun f cdv A outer s H vs Q E hr h => ?_
  · obtain ⟨a, b, vm, vr, rfl, _⟩ := h
    rfl
  obtain ⟨a, b, vm, vr, rfl, ⟨dx, ha⟩, k⟩ := h
  have hu := hu_of hr
  refine ⟨_, (pss_one (ps_ret (pe_and (pe_callB call_isi rfl B.isinstance (by decide +kernel) (pa_cons (pv 1) (pa_cons (pe_glob (v := .ref C) rfl T.g rfl) pa_nil))) (pe_and (pe_cmpR op_eq (pe_fld (pv 0) rfl) (pe_fld (pv 1) rfl) (nomark _)) (pe_one (pe_cmpR (op_eqD hr.units) (pe_fld (pv 0) rfl) (pe_fld (pv 1) rfl) (nomark _))))))), ?_⟩
  rcases k with ⟨⟨xs, hb⟩, k⟩ | ⟨N, vm', vr', dr, dr', i, j, ⟨dy, hb⟩, rfl, rfl, r, r', sh, sh', k⟩
  · exact ⟨_, rfl, _, _, _, _, _, rfl, .own C, .base (.tup hb), T.k0, _, rfl, ifF rfl k⟩
  · refine ⟨_, rfl, _, _, _, _, _, rfl, .own C, T.ty hb, T.k1, _, rfl, ifT rfl ?_⟩
    refine ⟨_, rfl, a, C, dx, _, _, rfl, ha, T.cl, T.n1, wF_m, _, rfl, b, C, dy, _, _, rfl, hb, T.cl, T.n1, wF_m, rfl, _, rfl, ?_⟩
    cases e : decide (i = j) with
    | false =>
      rw [e] at k
      exact ifF (by show decide (V.int i = V.int j) = false; simp at e ⊢; exact e) k
    | true =>
      rw [e] at k
      exact ifT (by show decide (V.int i = V.int j) = true; simp at e ⊢; exact e) ⟨_, rfl, a, C, dx, _, _, rfl, ha, T.cl, T.n2, wF_r, _, rfl, b, C, dy, _, _, rfl, hb, T.cl, T.n2, wF_r, dr, dr', r.dp (lay_of sh), r'.dp (lay_of sh'), sh, sh', k⟩
end
end KQ
set_option Elab.async false
set_option maxRecDepth 100000
set_option maxHeartbeats 4000000
namespace KQ
open PySem PySem.Spec PyProof.Rows L2
theorem within_num {d : PyData} {lo hi : Int} (h : within d lo hi = true) : d = .int (num d) ∧ lo ≤ num d ∧ num d ≤ hi := by
  unfold within at h
  cases d <;> simp [intOf] at h
  exact ⟨rfl, h⟩
theorem below_int {d : PyData} {b : Int} (h : below b d = true) : d = .int (num d) := by
  unfold below at h
  cases d <;> simp [intOf] at h
  rfl
theorem below7 (d : PyData) : within d 1 6 = (below 7 d && !decide (num d = 0)) := by
  unfold within below num
  cases e : intOf d with
  | none => rfl
  | some i =>
    show (decide (1 ≤ i) && decide (i ≤ 6)) = (decide (0 ≤ i) && decide (i < 7) && !decide (i = 0))
    rw [Bool.eq_iff_iff]
    simp
    omega
section
variable {P : Program} {w : World} {K : PySem.W.Frag} {mg : Str → Option Value} {base : Heap} {t1 t2 t3 t4 : Tok} {C CB CN : Addr}
set_option maxHeartbeats 8000000 in
theorem d_works_init (B : Bi mg) (T : WorksC K mg C) (F : InitAt K mg "Works" C "Works.__init__" s_Works___init__) (g_MOST_HOUSES : mg "MOST_HOUSES" = some (.int 6 t1)) (g_MOST_KINDS : mg "MOST_KINDS" = some (.int 6 t2)) (x_BadWorks : ErrAt P w K mg base "BadWorks" CB "part")
    (D_is_below : Has P w K mg base 2 "is_below" ["bound", "thing"] spIsBelow) (D_is_rule : Has P w K mg base 4 "is_rule" ["many", "kinds", "thing"] spRule) : HasCX P w K mg base 5 "Works" C ["self", "many", "rules"] (spWInit C CB) := by
  refine mk_hasCX F sc_Works___init__ (fun _ _ _ _ _ _ us hl => match us, hl with | [_, _, _], _ => rfl) (fun vs H Q E h => ?_) fun f cdv A outer s H vs Q E hr h => ?_
  · obtain ⟨N, p, dx, vm, vr, dm, dr, rfl, _⟩ := h
    rfl
  obtain ⟨N, p, dx, vm, vr, dm, dr, rfl, hp, rm, rr, kE, kQ⟩ := h
  refine ⟨_, (pss_cons (ps_if (PW.pt (pw_or (pt_not (pt_val (pe_h D_is_below (hr.mono (by decide)) rfl (pa_cons (pe_op op_add (pe_glob (v := .int 6) rfl g_MOST_HOUSES ⟨_, rfl⟩) pe_int) (pa_cons (pv 1) pa_nil))))) (pw_or1 (pt_cmpR op_eq (pv 1) pe_int (nomark _)))))
    (pss_one (ps_rx rfl (takes_of rfl rfl rfl rfl) x_BadWorks (hr.mono (by decide)) (pa_cons pe_str pa_nil) rfl))
    pss_nil)
    (pss_cons (ps_if (PW.pt (pw_or (pt_not (pt_val (pe_callB call_isi rfl B.isinstance (by decide +kernel) (pa_cons (pv 2) (pa_cons (pe_bltn (v := .ty "tuple") rfl B.tuple (by decide +kernel) rfl) pa_nil))))) (pw_or (pt_cmpR op_eq (pe_callB call_len_seq rfl B.len PySem.boot_len (pa_cons (pv 2) pa_nil)) pe_int (nomark _)) (pw_or1 (pt_cmpR op_gt (pe_callB call_len_seq rfl B.len PySem.boot_len (pa_cons (pv 2) pa_nil)) (pe_glob (v := .int 6) rfl g_MOST_KINDS ⟨_, rfl⟩) (nomark _))))))
    (pss_one (ps_rx rfl (takes_of rfl rfl rfl rfl) x_BadWorks (hr.mono (by decide)) (pa_cons (pe_un un_neg pe_int) pa_nil) rfl))
    pss_nil)
    (pss_cons (ps_for (passes_of rfl) rfl (pi_enumT rfl B.enumerate (pa_cons (pv 2) pa_nil)) (pg_tup rfl (pgs_cons (pg_name (i := 3) sc_Works___init__.nd rfl (Or.inl rfl)) (pgs_cons (pg_name (i := 4) sc_Works___init__.nd rfl (Or.inl rfl)) pgs_nil)))
    (pss_one (ps_if (pt_not (pt_val (pe_h D_is_rule (hr.mono (by decide)) rfl (pa_cons (pv 1) (pa_cons (pe_callB call_len_seq rfl B.len PySem.boot_len (pa_cons (pv 2) pa_nil)) (pa_cons (pv 4) pa_nil))))))
    (pss_one (ps_rx rfl (takes_of rfl rfl rfl rfl) x_BadWorks (hr.mono (by decide)) (pa_cons (pv 3) pa_nil) rfl))
    pss_nil)))
    (pss_cons (ps_fld (pv 0) (pv 1) rfl)
    (pss_one (ps_fld (pv 0) (pv 2) rfl)))))), ?_⟩
  refine ⟨_, _, rfl, rfl, _, rfl, N, vm, dm, 7, rfl, rm, _, rfl, ?_⟩
  have e7 := below7 dm
  cases c1 : below 7 dm with
  | false =>
    rw [c1, Bool.false_and] at e7
    exact ifT rfl (mk_err fun d hd => kE _ (by unfold badW; rw [if_pos e7]) d H (Same.refl H) hd)
  | true =>
  refine ifF rfl ?_
  rw [c1, Bool.true_and] at e7
  have c1i := below_int c1
  rw [c1i] at rm
  have evm : vm = .int (num dm) := by cases rm; rfl
  subst evm
  refine ⟨_, rfl, rfl, _, rfl, ?_⟩
  by_cases z : num dm = 0
  · rw [decide_eq_true z, Bool.not_true] at e7
    exact ifT (by rw [z]; rfl) (mk_err fun d hd => kE _ (by unfold badW; rw [if_pos e7]) d H (Same.refl H) hd)
  rw [decide_eq_false z, Bool.not_false] at e7
  have n7 : ¬ within dm 1 6 = false := by rw [e7]; exact Bool.noConfusion
  refine ifF (by simpa using z) ?_
  refine ⟨_, rfl, _, _, _, _, _, rfl, .ty "tuple", rr.ty, kit_tuple dr, _, rfl, ?_⟩
  have other : (∀ ds, dr ≠ .tuple ds) → badW dm dr = some (.int (-1)) := fun h => by
    unfold badW
    rw [if_neg n7]
    cases dr <;> first | rfl | exact absurd rfl (h _)
  cases dr with
  | tuple ds =>
    cases rr with
    | @tup r xs _ er nr ra =>
    have ex : badW dm (.tuple ds) = if ds.length = 0 ∨ 6 < ds.length then some (.int (-1)) else (firstBad (isRule (num dm) ds.length) 0 ds).map fun i => .int (i : Nat) := by
      unfold badW
      rw [if_neg n7]
    refine ifF rfl ⟨_, rfl, _, _, rfl, .inr (SqT.of er), rfl, _, rfl, ?_⟩
    have hl := ra.length
    by_cases l0 : ds.length = 0
    · rw [if_pos (.inl l0)] at ex
      exact ifT (by rw [hl, l0]; rfl) ⟨_, rfl, mk_err fun d hd => kE _ ex d H (Same.refl H) hd⟩
    refine ifF (by rw [hl]; simpa using l0) ⟨_, rfl, _, _, rfl, .inr (SqT.of er), _, _, rfl, rfl, _, rfl, ?_⟩
    by_cases l6 : 6 < ds.length
    · rw [if_pos (.inr l6)] at ex
      exact ifT (by rw [hl]; simpa using (by omega : (6 : Int) < ds.length)) ⟨_, rfl, mk_err fun d hd => kE _ ex d H (Same.refl H) hd⟩
    refine ifF (by rw [hl]; simpa using (by omega : (ds.length : Int) ≤ 6)) ?_
    rw [if_neg (fun z => z.elim l0 l6)] at ex
    refine ⟨_, rfl, r, xs, rfl, SqT.of er, for_et (fun i σ H' => ∃ v3 v4, σ = [some (.ref p), some (.int (num dm)), some (.ref r), v3, v4] ∧ Same H H' ∧ badW dm (.tuple ds) = (firstBad (isRule (num dm) ds.length) i (ds.drop i)).map fun i => .int (i : Nat))
      ⟨none, none, rfl, Same.refl H, ex⟩ (fun i σ H' ⟨_, _, _, e, _⟩ => SqT.of (e _ _ er)) ?_ ?_⟩
    · rintro i x Ti σ H' hx ⟨v3, v4, rfl, e, eb⟩ nT
      obtain ⟨dx', mx, gx, rx⟩ := ra.at_ hx
      have e2 : Same H (upd H' Ti (.tup [.int (i : Nat), x])) := e.trans (same_new nT)
      rw [firstBad_at gx] at eb
      refine ⟨_, _, rfl, SqT.of upd_same, rfl, _, _, rfl, _, _, rfl, rfl, ?_⟩
      refine ⟨_, rfl, _, rfl, _, _, rfl, .inr (SqT.of (e2 _ _ er)), _, rfl, N, x, dx', num dm, _, rfl, rx.to (Kp.of_same e2), fun H3 e3 => ⟨_, rfl, ?_⟩⟩
      have e4 := e2.trans e3
      rw [hl]
      cases c : isRule (num dm) ds.length dx' with
      | true =>
        rw [c, if_pos rfl] at eb
        exact ifF rfl ⟨_, _, rfl, e4, eb⟩
      | false =>
        rw [c, if_neg Bool.false_ne_true] at eb
        exact ifT rfl ⟨_, rfl, mk_err fun d hd => kE _ eb d H3 e4 hd⟩
    · rintro σ H' ⟨v3, v4, rfl, e, eb⟩
      have el : ds.drop xs.length = [] := by rw [hl]; exact List.drop_length
      rw [el] at eb
      refine ⟨_, rfl, _, rfl, p, C, dx, [], rfl, e _ _ hp, T.cl, T.n1, (by show 0 < 1000; decide), ?_⟩
      refine ⟨_, rfl, _, rfl, p, C, dx, _, rfl, upd_same, T.cl, T.n2, (by show 1 < 1000; decide), ?_⟩
      refine kQ eb _ (by rw [upd_same, wF_new]) fun a o q n => ?_
      rw [upd_ne n, upd_ne n]
      exact e _ _ q
  | bool b => exact ifT rfl ⟨_, rfl, mk_err fun d hd => kE _ (other fun _ z => nomatch z) d H (Same.refl H) hd⟩
  | int b => exact ifT rfl ⟨_, rfl, mk_err fun d hd => kE _ (other fun _ z => nomatch z) d H (Same.refl H) hd⟩
  | none => exact ifT rfl ⟨_, rfl, mk_err fun d hd => kE _ (other fun _ z => nomatch z) d H (Same.refl H) hd⟩
  | str x => exact ifT rfl ⟨_, rfl, mk_err fun d hd => kE _ (other fun _ z => nomatch z) d H (Same.refl H) hd⟩
  | list x => exact ifT rfl ⟨_, rfl, mk_err fun d hd => kE _ (other fun _ z => nomatch z) d H (Same.refl H) hd⟩
  | dict x => exact ifT rfl ⟨_, rfl, mk_err fun d hd => kE _ (other fun _ z => nomatch z) d H (Same.refl H) hd⟩
end
end KQ
set_option Elab.async false
set_option maxRecDepth 100000
set_option maxHeartbeats 4000000
namespace KQ
open PySem PySem.Spec PyProof.Rows L2
/-! ### what a task sends -/
abbrev Rules := List (List (Int × Int))
def pairD (p : Int × Int) : PyData := .tuple [.int p.1, .int p.2]
def ruleD (ps : List (Int × Int)) : PyData := .tuple (ps.map pairD)
def rulesD (R : Rules) : PyData := .tuple (R.map ruleD)
def sentI (m h f : Int) (p : Int × Int) : PyData := .tuple [.int ((h + p.1).fmod m), .tuple [.int p.2, .int (f - 1)]]
def sentD (m : Int) (R : Rules) (h k f : Int) : List PyData := if f = 0 then [] else (R.getD k.toNat []).map (sentI m h f)
theorem below_inv {b : Int} {d : PyData} (h : below b d = true) : ∃ i, d = .int i ∧ 0 ≤ i ∧ i < b := by
  unfold below at h
  cases d <;> simp [intOf] at h
  exact ⟨_, rfl, h⟩
theorem isPair_inv {m k : Int} {d : PyData} (h : isPair m k d = true) : ∃ i j, d = .tuple [.int i, .int j] ∧ 0 ≤ i ∧ i < m ∧ 0 ≤ j ∧ j < k := by
  unfold isPair at h
  split at h
  · rw [Bool.and_eq_true] at h
    obtain ⟨i, rfl, i0, i1⟩ := below_inv h.1
    obtain ⟨j, rfl, j0, j1⟩ := below_inv h.2
    exact ⟨i, j, rfl, i0, i1, j0, j1⟩
  · exact absurd h (by decide)
abbrev NF : Addr → Prop := fun _ => False
def spSentBy (C CH CT : Addr) : Sp := fun vs H Q E => ∃ (N : Addr → Prop) (a r : Addr) (m : Int) (R : Rules) (v v' : V) (dh dt : PyData), vs = [.ref a, v, v'] ∧ WorksAt C H a (.int m) (.ref r) ∧ 0 < m ∧ Rp N H (.ref r) (rulesD R) ∧ (∀ ps ∈ R, ps.length ≤ 1000) ∧ Rp N H v dh ∧ Rp N H v' dt ∧
  (below m dh = false → E (.ref CH) none H) ∧ (below m dh = true → isPair R.length 13 dt = false → E (.ref CT) none H) ∧
  (∀ h k f, dh = .int h → dt = .tuple [.int k, .int f] → below m dh = true → isPair R.length 13 dt = true → ∀ T H', Same H H' → Rp NF H' (.ref T) (.tuple (sentD m R h k f)) → Q (.ref T) H')
section
variable {P : Program} {w : World} {K : PySem.W.Frag} {mg : Str → Option Value} {base : Heap} {t1 t2 t3 t4 : Tok} {C CB CH CT : Addr}
set_option maxHeartbeats 8000000 in
theorem d_sent_by (B : Bi mg) (T : WorksC K mg C) (F : FunAt K mg "sent_by" s_sent_by) (D_check_house : HasX P w K mg base 4 "check_house" ["works", "house"] (spCheckHouse C CH)) (D_check_task : HasX P w K mg base 4 "check_task" ["works", "task"] (spCheckTask C CT)) :
    HasX P w K mg base 5 "sent_by" ["works", "house", "task"] (spSentBy C CH CT) := by
  refine mk_hasX F sc_sent_by (fun _ _ _ _ _ _ us hl => match us, hl with | [_, _, _], _ => rfl) (fun vs H Q E h => ?_) fun f cdv A outer s H vs Q E hr h => ?_
  · obtain ⟨N, a, r, m, R, v, v', dh, dt, rfl, _⟩ := h
    rfl
  obtain ⟨N, a, r, m, R, v, v', dh, dt, rfl, ha, hm, rr, hps, rh, rt, kh, kt, kQ⟩ := h
  refine ⟨_, (pss_cons (ps_expr (pe_hX (takes_of rfl rfl rfl rfl) D_check_house (hr.mono (by decide)) rfl (pa_cons (pv 0) (pa_cons (pv 1) pa_nil))))
    (pss_cons (ps_expr (pe_hX (takes_of rfl rfl rfl rfl) D_check_task (hr.mono (by decide)) rfl (pa_cons (pv 0) (pa_cons (pv 2) pa_nil))))
    (pss_cons (ps_asg (pv 2) (pg_tup rfl (pgs_cons (pg_name (i := 3) sc_sent_by.nd rfl (Or.inl rfl)) (pgs_cons (pg_name (i := 4) sc_sent_by.nd rfl (Or.inr rfl)) pgs_nil))))
    (pss_cons (ps_if (pt_cmpR op_eq (pv 4) pe_int (nomark _))
    (pss_one (ps_ret (pe_tup pa_nil)))
    pss_nil)
    (pss_one (ps_ret (pe_callTy call_tuple_of rfl B.tuple (by decide +kernel) (pa_cons (pe_lc (own := [("step", 5), ("sent", 6)]) (g := gTup K 2 (gCons (gName 5) (gCons (gName 6) gNil))) (tt := tYes) (te := (tTup (tCons (tOp (rI (fun _ j => j ≠ 0) fun i j => .int (i.fmod j)) (tOp (rI0 fun i j => .int (i + j)) (tVar 1) (tVar 5)) (tFld K (tVar 0) "many")) (tCons (tTup (tCons (tVar 6) (tCons (tOp (rI0 fun i j => .int (i - j)) (tVar 4) (tC (.int 1))) tNil))) tNil)))) rfl sc_sent_by.nd (pi_tup (pe_ix ix_tup (pe_fld (pv 0) rfl) (pv 3) (fun _ _ => rfl))) (blkOk_by (own := [("step", 5), ("sent", 6)]) (N := ["works", "house", "task", "kind", "fuel", "step", "sent"]) (sc := defScope s_sent_by) (by decide +kernel)) (fun _ _ _ _ _ => (pg_tup rfl (pgs_cons (pg_name (i := 5) sc_sent_by.nd rfl (Or.inl rfl)) (pgs_cons (pg_name (i := 6) sc_sent_by.nd rfl (Or.inl rfl)) pgs_nil)))) (fun _ _ _ _ _ => pts_nil) (fun _ _ _ _ _ => (pe_tup (pa_cons (pe_op op_modN (pe_op op_add (pv 1) (pv 5)) (pe_fld (pv 0) rfl)) (pa_cons (pe_tup (pa_cons (pv 6) (pa_cons (pe_op op_sub (pv 4) pe_int) pa_nil))) pa_nil))))) pa_nil)))))))), ?_⟩
  cases rr with
  | @tup _ xs _ er nr ra =>
  have hl : xs.length = R.length := ra.length.trans (List.length_map _)
  refine ⟨_, rfl, _, rfl, N, a, m, .ref r, v, dh, rfl, ha, rh, fun e => kh e, fun eh => ?_⟩
  refine ⟨_, rfl, _, rfl, N, a, r, .int m, v', xs, dt, rfl, ha, er, rt, fun e => kt eh (by rw [← hl]; exact e), fun et => ?_⟩
  rw [hl] at et
  obtain ⟨hh, rfl, h0, h1⟩ := below_inv eh
  obtain ⟨kk, ff, rfl, k0, k1, f0, f1⟩ := isPair_inv et
  have fin := kQ hh kk ff rfl rfl eh et
  cases rh
  cases rt with
  | tup et' nt' rt' =>
  cases rt' with
  | cons rk rt' =>
  cases rt' with
  | cons rf rt' =>
  cases rt'
  cases rk
  cases rf
  refine ⟨_, rfl, _, _, rfl, SqT.of et', rfl, _, _, rfl, _, _, rfl, rfl, ?_⟩
  refine ⟨_, rfl, rfl, _, rfl, ?_⟩
  by_cases z : ff = 0
  · refine ifT (by rw [z]; rfl) ⟨(by show 0 ≤ sizeLine; decide), fun p np => fin p _ (same_new np) (.tup upd_same (fun z => z) ?_)⟩
    unfold sentD
    rw [if_pos z]
    exact .nil
  refine ifF (by simpa using z) ?_
  obtain ⟨x, hx, _, gx⟩ := atI_some (xs := xs) k0 (by rw [hl]; exact k1)
  obtain ⟨d, gd, rd⟩ := ra.get gx
  rw [List.getElem?_map] at gd
  obtain ⟨ps, gp, rfl⟩ := Option.map_eq_some_iff.mp gd
  have hsd : sentD m R hh kk ff = ps.map (sentI m hh ff) := by
    unfold sentD
    rw [if_neg z, List.getD_eq_getElem?_getD, gp] <;> rfl
  rw [hsd] at fin
  have hlen := hps ps (List.mem_of_getElem? gp)
  cases rd with
  | @tup q ys _ eq nq ry =>
  have hly : ys.length = ps.length := ry.length.trans (List.length_map _)
  obtain ⟨dx, hax⟩ := ha
  refine ⟨_, rfl, a, C, dx, _, _, rfl, hax, T.cl, T.n2, wF_r, _, rfl, _, _, _, _, rfl, rfl, SqT.of er, hx, q, rfl, ⟨ys, SqT.of eq⟩, fun D nD => ?_⟩
  refine lc_tup (K := K) (a := q) (xs := ys) (fun i H' => Same H H' ∧ ∃ acc, H' D = some (.lst acc) ∧ RpAll (fun b => b = D) H' acc ((ps.take i).map (sentI m hh ff))) ⟨same_new nD, [], upd_same, .nil⟩ (fun i H' _ z => SqT.of (z.1 _ _ eq)) (fun i y H' hy z => ?_) fun H' z => ?_
  · obtain ⟨d, gd, rd⟩ := ry.get hy
    rw [List.getElem?_map] at gd
    obtain ⟨p, gp', rfl⟩ := Option.map_eq_some_iff.mp gd
    have hil : i < ps.length := by
      obtain ⟨h1, _⟩ := List.getElem?_eq_some_iff.mp gp'
      exact h1
    obtain ⟨e1, acc, eD, rA⟩ := z
    cases rd with
    | @tup b zs _ eb nb rz =>
    cases rz with
    | cons r1 rz =>
    cases rz with
    | cons r2 rz =>
    cases rz
    cases r1
    cases r2
    refine ⟨_, _, rfl, SqT.of (e1 _ _ eb), rfl, _, _, rfl, _, _, rfl, rfl, rfl, ?_⟩
    refine tYes_ok ?_
    rw [if_pos rfl]
    refine ⟨_, rfl, _, rfl, _, _, rfl, rfl, _, rfl, a, C, dx, _, _, rfl, e1 _ _ hax, T.cl, T.n1, wF_m, _, _, rfl, rfl, by omega, ?_⟩
    refine ⟨_, rfl, _, rfl, _, _, rfl, rfl, (by show 2 ≤ sizeLine; decide), fun T1 n1 => ⟨(by show 2 ≤ sizeLine; decide), fun T2 n2 => ?_⟩⟩
    have s1 := same_new (o := .tup [.int p.2, .int (ff - 1)]) n1
    have s2 := s1.trans (same_new (o := .tup [.int ((hh + p.1).fmod m), .ref T1]) n2)
    refine ⟨acc, s2 _ _ eD, ?_, fun b o q => ?_, acc ++ [.ref T2], upd_same, ?_⟩
    · rw [rA.length, List.length_map, List.length_take]
      exact Nat.lt_of_le_of_lt (Nat.le_trans (Nat.min_le_right _ _) hlen) (by decide)
    · rw [upd_ne (ne_of_none q nD)]
      exact s2 _ _ (e1 b o q)
    · rw [map_take gp']
      have nD1 : ¬ T1 = D := fun z => by rw [z, eD] at n1; cases n1
      have nD2 : ¬ T2 = D := fun z => by rw [z, s1 _ _ eD] at n2; cases n2
      refine RpAll.to (.app (rA.to (Kp.of_same s2)) (.cons (.tup upd_same nD2 (.cons (.int _) (.cons (.tup ?_ nD1 (.cons (.int _) (.cons (.int _) .nil))) .nil))) .nil)) (Kp.put rfl)
      exact same_new n2 _ _ upd_same
  · obtain ⟨e1, acc, eD, rA⟩ := z
    rw [hly, List.take_length] at rA
    refine ⟨D, acc, rfl, .inl ⟨SqL.of eD, fun p np => fin p _ (e1.trans (same_new np)) (.tup upd_same (fun z => z) ?_)⟩⟩
    exact (rA.to (Kp.of_same (same_new np))).kp (N' := NF) Kp.refl fun _ _ _ _ z => z
end
end KQ
set_option Elab.async false
set_option maxRecDepth 100000
set_option maxHeartbeats 4000000
namespace KQ
open PySem PySem.Spec PyProof.Rows L2
/-! ### the law's own judges of works -/
theorem below_with (b : Int) (d : PyData) : within d 0 (b - 1) = below b d := by
  unfold within below
  cases intOf d with
  | none => rfl
  | some i =>
    show (decide (0 ≤ i) && decide (i ≤ b - 1)) = (decide (0 ≤ i) && decide (i < b))
    rw [Bool.eq_iff_iff]
    simp
    omega
def spLawRule : Sp := fun vs H Q _ => ∃ (N : Addr → Prop) (v : V) (d : PyData) (m k : Int), vs = [.int m, .int k, v] ∧ Rp N H v d ∧ Q (.bl (isRule m k d)) H
def spBad : Sp := fun vs H Q _ => ∃ (N : Addr → Prop) (vm vr : V) (dm dr : PyData), vs = [vm, vr] ∧ Rp N H vm dm ∧ Rp N H vr dr ∧ Q ((badW dm dr).getD .non) H
def spLawIsTask : Sp := fun vs H Q _ => ∃ (N : Addr → Prop) (r : Addr) (rs : List V) (v : V) (d : PyData), vs = [.ref r, v] ∧ H r = some (.tup rs) ∧ Rp N H v d ∧ Q (.bl (isPair rs.length 13 d)) H
def spLawTask : Sp := fun vs H Q _ => ∃ (h l r : Addr) (rs : List V) (o : Int), vs = [.ref h, .ref r, .int o] ∧ HandOk H h l ∧ H r = some (.tup rs) ∧ 0 < rs.length ∧ rs.length ≤ 1000 ∧ 0 ≤ o ∧ o ≤ 1000 ∧
  ∀ (T : Addr) (d : PyData) (H' : Hp), HandOk H' h l → Kp (Nh h) H H' → Rp (Nh h) H' (.ref T) d → Q (.ref T) H'
def spLawSent : Sp := fun vs H Q _ => ∃ (N : Addr → Prop) (r t : Addr) (m h k f : Int) (R : Rules), vs = [.int m, .ref r, .int h, .ref t] ∧ 0 < m ∧ Rp N H (.ref r) (rulesD R) ∧ (∀ ps ∈ R, ps.length ≤ 1000) ∧ H t = some (.tup [.int k, .int f]) ∧ 0 ≤ k ∧ k < R.length ∧ 0 ≤ f ∧
  ∀ (L : Addr) (acc : List V) (H' : Hp), H L = none → Same H H' → H' L = some (.lst acc) → RpAll (fun b => b = L) H' acc (sentD m R h k f) → Q (.ref L) H'
section
variable {P : Program} {w : World} {K : PySem.W.Frag} {mg : Str → Option Value} {base : Heap}
theorem d_law_is_rule (B : Bi mg) (F : FunAt K mg "_law_is_rule" s_law_is_rule) (D_law_is_within : Has P w K mg base 2 "_law_is_within" ["thing", "least", "most"] spWithin) : Has P w K mg base 3 "_law_is_rule" ["many", "kinds", "thing"] spLawRule := by
  refine mk_has F sc_law_is_rule (fun _ _ _ _ _ _ us hl => match us, hl with | [_, _, _], _ => rfl) (fun vs H Q E h => ?_) fun f cdv A outer s H vs Q E hr h => ?_
  · obtain ⟨N, v, d, m, k, rfl, _⟩ := h
    rfl
  obtain ⟨N, v, d, m, n, rfl, r, k⟩ := h
  refine ⟨_, (pss_cons (ps_if (PW.pt (pw_or (pt_not (pt_val (pe_callB call_isi rfl B.isinstance (by decide +kernel) (pa_cons (pv 2) (pa_cons (pe_bltn (v := .ty "tuple") rfl B.tuple (by decide +kernel) rfl) pa_nil))))) (pw_or1 (pt_cmpR op_gt (pe_callB call_len_seq rfl B.len PySem.boot_len (pa_cons (pv 2) pa_nil)) pe_int (nomark _)))))
    (pss_one (ps_ret pe_bl))
    pss_nil)
    (pss_cons (ps_for PassesOwn.never rfl (pi_tup (pv 2)) (pg_name (i := 3) sc_law_is_rule.nd rfl (Or.inl rfl))
    (pss_cons (ps_if (PW.pt (pw_or (pt_not (pt_val (pe_callB call_isi rfl B.isinstance (by decide +kernel) (pa_cons (pv 3) (pa_cons (pe_bltn (v := .ty "tuple") rfl B.tuple (by decide +kernel) rfl) pa_nil))))) (pw_or1 (pt_cmpR op_ne (pe_callB call_len_seq rfl B.len PySem.boot_len (pa_cons (pv 3) pa_nil)) pe_int (nomark _)))))
    (pss_one (ps_ret pe_bl))
    pss_nil)
    (pss_one (ps_if (PW.pt (pw_or (pt_not (pt_val (pe_h D_law_is_within (hr.mono (by decide)) rfl (pa_cons (pe_ix ix_tup (pv 3) pe_int (fun _ _ => rfl)) (pa_cons pe_int (pa_cons (pe_op op_sub (pv 0) pe_int) pa_nil)))))) (pw_or1 (pt_not (pt_val (pe_h D_law_is_within (hr.mono (by decide)) rfl (pa_cons (pe_ix ix_tup (pv 3) pe_int (fun _ _ => rfl)) (pa_cons pe_int (pa_cons (pe_op op_sub (pv 1) pe_int) pa_nil)))))))))
    (pss_one (ps_ret pe_bl))
    pss_nil))))
    (pss_one (ps_ret pe_bl)))), ?_⟩
  refine ⟨_, rfl, _, _, _, _, _, rfl, .ty "tuple", r.ty, kit_tuple d, _, rfl, ?_⟩
  cases d with
  | tuple ds =>
    cases r with
    | @tup p xs _ e no ra =>
    have hl := ra.length
    refine ifF rfl ⟨_, rfl, _, _, rfl, .inr (SqT.of e), _, _, rfl, rfl, _, rfl, ?_⟩
    refine ite2 (fun c => ?_) (fun c => ?_)
    · have c' := of_decide_eq_true c
      rw [hl] at c'
      exact okB (by simp [isRule]; omega) k
    have hlen : ds.length ≤ 4 := by
      have c' : ¬ (4 < (xs.length : Int)) := fun z => c (decide_eq_true z)
      rw [hl] at c'
      omega
    have ek : isRule m n (.tuple ds) = ds.all (isPair m n) := by simp [isRule, hlen]
    rw [ek] at k
    refine ⟨_, rfl, p, rfl, ⟨xs, SqT.of e⟩, for_tup (K := K) (a := p) (xs := xs) (fun i σ H' => ∃ v3, σ = [some (.int m), some (.int n), some (.ref p), v3] ∧ H' = H ∧ ds.all (isPair m n) = (ds.drop i).all (isPair m n)) ⟨none, rfl, rfl, rfl⟩ (fun i σ H' _ ⟨_, _, e', _⟩ => SqT.of (by rw [e']; exact e)) ?_ ?_⟩
    · rintro i x σ H' hx ⟨v3, rfl, rfl, ea⟩
      obtain ⟨d, md, gd, rd⟩ := ra.at_ hx
      obtain ⟨hil, ei⟩ := List.getElem?_eq_some_iff.mp gd
      rw [List.drop_eq_getElem_cons hil, ei, List.all_cons] at ea
      have bad : isPair m n d = false → Q (.bl false) H' := fun z => okB (by rw [ea, z]; rfl) k
      refine ⟨_, rfl, _, _, _, _, _, rfl, .ty "tuple", rd.ty, kit_tuple d, _, rfl, ?_⟩
      cases d with
      | tuple es =>
        cases rd with
        | @tup q ys _ eq nq ry =>
        have hly := ry.length
        refine ifF rfl ⟨_, rfl, _, _, rfl, .inr (SqT.of eq), rfl, _, rfl, ?_⟩
        by_cases l2 : es.length = 2
        · refine ifF (by rw [hly, l2]; rfl) ?_
          match es, ys, ry, l2 with
          | [a, b], [x, y], .cons rx (.cons ry .nil), _ =>
          refine ⟨_, rfl, _, _, _, _, rfl, rfl, SqT.of eq, rfl, _, rfl, _, _, rfl, rfl, N, x, a, 0, _, rfl, rx, _, rfl, ?_⟩
          rw [below_with]
          cases e1 : below m a with
          | false => exact ifT rfl (bad (by simp [isPair, e1]))
          | true =>
            refine ifF rfl ⟨_, rfl, _, _, _, _, rfl, rfl, SqT.of eq, rfl, _, rfl, _, _, rfl, rfl, N, y, b, 0, _, rfl, ry, _, rfl, ?_⟩
            rw [below_with]
            cases e2 : below n b with
            | false => exact ifT rfl (bad (by simp [isPair, e2]))
            | true => exact ifF rfl ⟨_, rfl, rfl, by rw [ea]; simp [isPair, e1, e2]⟩
        · exact ifT (by rw [hly]; simp; omega) (bad (by
            unfold isPair
            split
            · rename_i z; cases z; exact absurd rfl l2
            · rfl))
      | bool b => exact ifT rfl (bad rfl)
      | int b => exact ifT rfl (bad rfl)
      | none => exact ifT rfl (bad rfl)
      | str x => exact ifT rfl (bad rfl)
      | list x => exact ifT rfl (bad rfl)
      | dict x => exact ifT rfl (bad rfl)
    · rintro σ H' ⟨v3, rfl, rfl, ea⟩
      exact okB (by rw [ea, hl, List.drop_length]; rfl) k
  | bool b => exact ifT rfl k
  | int b => exact ifT rfl k
  | none => exact ifT rfl k
  | str x => exact ifT rfl k
  | list x => exact ifT rfl k
  | dict x => exact ifT rfl k
theorem d_law_bad_works (B : Bi mg) (F : FunAt K mg "_law_bad_works" s_law_bad_works) (D_law_is_within : Has P w K mg base 2 "_law_is_within" ["thing", "least", "most"] spWithin) (D_law_is_rule : Has P w K mg base 3 "_law_is_rule" ["many", "kinds", "thing"] spLawRule) :
    Has P w K mg base 4 "_law_bad_works" ["many", "rules"] spBad := by
  refine mk_has F sc_law_bad_works (fun _ _ _ _ _ _ us hl => match us, hl with | [_, _], _ => rfl) (fun vs H Q E h => ?_) fun f cdv A outer s H vs Q E hr h => ?_
  · obtain ⟨N, vm, vr, dm, dr, rfl, _⟩ := h
    rfl
  obtain ⟨N, vm, vr, dm, dr, rfl, rm, rr, k⟩ := h
  refine ⟨_, (pss_cons (ps_if (pt_not (pt_val (pe_h D_law_is_within (hr.mono (by decide)) rfl (pa_cons (pv 0) (pa_cons pe_int (pa_cons pe_int pa_nil))))))
    (pss_one (ps_ret pe_str))
    pss_nil)
    (pss_cons (ps_if (PW.pt (pw_or (pt_not (pt_val (pe_callB call_isi rfl B.isinstance (by decide +kernel) (pa_cons (pv 1) (pa_cons (pe_bltn (v := .ty "tuple") rfl B.tuple (by decide +kernel) rfl) pa_nil))))) (pw_or (pt_cmpR op_lt (pe_callB call_len_seq rfl B.len PySem.boot_len (pa_cons (pv 1) pa_nil)) pe_int (nomark _)) (pw_or1 (pt_cmpR op_gt (pe_callB call_len_seq rfl B.len PySem.boot_len (pa_cons (pv 1) pa_nil)) pe_int (nomark _))))))
    (pss_one (ps_ret (pe_un un_neg pe_int)))
    pss_nil)
    (pss_cons (ps_for PassesOwn.never rfl (pi_range1 rfl B.range (pa_cons (pe_callB call_len_seq rfl B.len PySem.boot_len (pa_cons (pv 1) pa_nil)) pa_nil)) (pg_name (i := 2) sc_law_bad_works.nd rfl (Or.inl rfl))
    (pss_one (ps_if (pt_not (pt_val (pe_h D_law_is_rule (hr.mono (by decide)) rfl (pa_cons (pv 0) (pa_cons (pe_callB call_len_seq rfl B.len PySem.boot_len (pa_cons (pv 1) pa_nil)) (pa_cons (pe_ix ix_tup (pv 1) (pv 2) (fun _ _ => rfl)) pa_nil))))))
    (pss_one (ps_ret (pv 2)))
    pss_nil)))
    (pss_one (ps_ret pe_non))))), ?_⟩
  refine ⟨_, rfl, N, vm, dm, 1, 6, rfl, rm, _, rfl, ?_⟩
  by_cases c1 : within dm 1 6 = false
  · unfold badW at k
    rw [if_pos c1] at k
    exact ifT (by rw [c1]; rfl) k
  have c1' : within dm 1 6 = true := by simpa using c1
  refine ifF (by rw [c1']; rfl) ?_
  obtain ⟨edm, _, _⟩ := within_num c1'
  rw [edm] at rm
  have evm : vm = .int (num dm) := by cases rm; rfl
  subst evm
  refine ⟨_, rfl, _, _, _, _, _, rfl, .ty "tuple", rr.ty, kit_tuple dr, _, rfl, ?_⟩
  have other : (∀ ds, dr ≠ .tuple ds) → Q (.int (-1)) H := fun h => by
    have e : badW dm dr = some (.int (-1)) := by
      unfold badW
      rw [if_neg c1]
      cases dr <;> first | rfl | exact absurd rfl (h _)
    rw [e] at k
    exact k
  cases dr with
  | tuple ds =>
    cases rr with
    | @tup r xs _ er nr ra =>
    have hl := ra.length
    have ex : badW dm (.tuple ds) = if ds.length = 0 ∨ 6 < ds.length then some (.int (-1)) else (firstBad (isRule (num dm) ds.length) 0 ds).map fun i => .int (i : Nat) := by
      unfold badW
      rw [if_neg c1]
    refine ifF rfl ⟨_, rfl, _, _, rfl, .inr (SqT.of er), _, _, rfl, rfl, _, rfl, ?_⟩
    by_cases l0 : ds.length = 0
    · rw [ex, if_pos (.inl l0)] at k
      exact ifT (by rw [hl, l0]; rfl) ⟨_, rfl, k⟩
    refine ifF (by rw [hl]; simp; omega) ⟨_, rfl, _, _, rfl, .inr (SqT.of er), _, _, rfl, rfl, _, rfl, ?_⟩
    by_cases l6 : 6 < ds.length
    · rw [ex, if_pos (.inr l6)] at k
      exact ifT (by rw [hl]; simpa using (by omega : (6 : Int) < ds.length)) ⟨_, rfl, k⟩
    refine ifF (by rw [hl]; simpa using (by omega : (ds.length : Int) ≤ 6)) ?_
    rw [if_neg (fun z => z.elim l0 l6)] at ex
    refine ⟨_, rfl, _, _, rfl, .inr (SqT.of er), _, rfl, by omega, by omega, for_range (lo := 0) (n := (xs.length : Int).toNat) (fun i σ H' => ∃ v2, σ = [some (.int (num dm)), some (.ref r), v2] ∧ H' = H ∧ badW dm (.tuple ds) = (firstBad (isRule (num dm) ds.length) i (ds.drop i)).map fun i => .int (i : Nat)) ⟨none, rfl, rfl, ex⟩ ?_ ?_⟩
    · rintro i σ H' hi ⟨v2, rfl, rfl, eb⟩
      have hix : i < xs.length := by omega
      obtain ⟨d, md, gd, rd⟩ := ra.at_ (List.getElem?_eq_getElem hix)
      rw [firstBad_at gd] at eb
      refine ⟨_, rfl, _, rfl, _, _, rfl, .inr (SqT.of er), _, rfl, _, rfl, _, _, _, _, rfl, rfl, SqT.of er, (by rw [Int.zero_add]; exact atI_nat (List.getElem?_eq_getElem hix)), N, _, d, _, _, rfl, rd, _, rfl, ?_⟩
      rw [hl]
      cases c : isRule (num dm) ds.length d with
      | true =>
        rw [c, if_pos rfl] at eb
        exact ifF rfl ⟨_, rfl, rfl, eb⟩
      | false =>
        rw [c, if_neg Bool.false_ne_true] at eb
        rw [eb] at k
        refine ifT rfl ⟨_, rfl, ?_⟩
        rw [Int.zero_add]
        exact k
    · rintro σ H' ⟨v2, rfl, rfl, eb⟩
      have el : ds.drop (xs.length : Int).toNat = [] := by rw [hl, Int.toNat_natCast]; exact List.drop_length
      rw [el] at eb
      rw [eb] at k
      exact k
  | bool b => exact ifT rfl ⟨_, rfl, other fun _ z => nomatch z⟩
  | int b => exact ifT rfl ⟨_, rfl, other fun _ z => nomatch z⟩
  | none => exact ifT rfl ⟨_, rfl, other fun _ z => nomatch z⟩
  | str x => exact ifT rfl ⟨_, rfl, other fun _ z => nomatch z⟩
  | list x => exact ifT rfl ⟨_, rfl, other fun _ z => nomatch z⟩
  | dict x => exact ifT rfl ⟨_, rfl, other fun _ z => nomatch z⟩
theorem d_law_is_task (B : Bi mg) (F : FunAt K mg "_law_is_task" s_law_is_task) (D_law_is_within : Has P w K mg base 2 "_law_is_within" ["thing", "least", "most"] spWithin) : Has P w K mg base 3 "_law_is_task" ["rules", "thing"] spLawIsTask := by
  refine mk_has F sc_law_is_task (fun _ _ _ _ _ _ us hl => match us, hl with | [_, _], _ => rfl) (fun vs H Q E h => ?_) fun f cdv A outer s H vs Q E hr h => ?_
  · obtain ⟨N, r, rs, v, d, rfl, _⟩ := h
    rfl
  obtain ⟨N, r, rs, v, d, rfl, er, rd, k⟩ := h
  refine ⟨_, (pss_cons (ps_if (PW.pt (pw_or (pt_not (pt_val (pe_callB call_isi rfl B.isinstance (by decide +kernel) (pa_cons (pv 1) (pa_cons (pe_bltn (v := .ty "tuple") rfl B.tuple (by decide +kernel) rfl) pa_nil))))) (pw_or (pt_cmpR op_ne (pe_callB call_len_seq rfl B.len PySem.boot_len (pa_cons (pv 1) pa_nil)) pe_int (nomark _)) (pw_or1 (pt_not (pt_val (pe_h D_law_is_within (hr.mono (by decide)) rfl (pa_cons (pe_ix ix_tup (pv 1) pe_int (fun _ _ => rfl)) (pa_cons pe_int (pa_cons (pe_op op_sub (pe_callB call_len_seq rfl B.len PySem.boot_len (pa_cons (pv 0) pa_nil)) pe_int) pa_nil))))))))))
    (pss_one (ps_ret pe_bl))
    pss_nil)
    (pss_one (ps_ret (pe_h D_law_is_within (hr.mono (by decide)) rfl (pa_cons (pe_ix ix_tup (pv 1) pe_int (fun _ _ => rfl)) (pa_cons pe_int (pa_cons pe_int pa_nil))))))), ?_⟩
  refine ⟨_, rfl, _, _, _, _, _, rfl, .ty "tuple", rd.ty, kit_tuple d, _, rfl, ?_⟩
  cases d with
  | tuple es =>
    cases rd with
    | @tup q ys _ eq nq ry =>
    have hly := ry.length
    refine ifF rfl ⟨_, rfl, _, _, rfl, .inr (SqT.of eq), rfl, _, rfl, ?_⟩
    by_cases l2 : es.length = 2
    · refine ifF (by rw [hly, l2]; rfl) ?_
      match es, ys, ry, l2 with
      | [a, b], [x, y], .cons rx (.cons ry .nil), _ =>
      refine ⟨_, rfl, _, _, _, _, rfl, rfl, SqT.of eq, rfl, _, rfl, _, _, rfl, .inr (SqT.of er), _, _, rfl, rfl, N, x, a, 0, _, rfl, rx, _, rfl, ?_⟩
      rw [below_with]
      cases e1 : below rs.length a with
      | false => exact ifT rfl (okB (by simp [isPair, e1]) k)
      | true =>
        refine ifF rfl ⟨_, rfl, _, _, _, _, rfl, rfl, SqT.of eq, rfl, N, y, b, 0, 12, rfl, ry, okB ?_ k⟩
        have := below_with 13 b
        rw [show (13 : Int) - 1 = 12 by rfl] at this
        rw [this]
        simp [isPair, e1]
    · refine ifT (by rw [hly]; simp; omega) (okB ?_ k)
      unfold isPair
      split
      · rename_i z; cases z; exact absurd rfl l2
      · rfl
  | bool b => exact ifT rfl k
  | int b => exact ifT rfl k
  | none => exact ifT rfl k
  | str x => exact ifT rfl k
  | list x => exact ifT rfl k
  | dict x => exact ifT rfl k
theorem d_law_task (B : Bi mg) (F : FunAt K mg "_law_task" s_law_task) (D_law_take : Has P w K mg base 1 "_law_take" ["hand", "many"] spTake) : Has P w K mg base 2 "_law_task" ["hand", "rules", "most"] spLawTask := by
  refine mk_has F sc_law_task (fun _ _ _ _ _ _ us hl => match us, hl with | [_, _, _], _ => rfl) (fun vs H Q E h => ?_) fun f cdv A outer s H vs Q E hr h => ?_
  · obtain ⟨h, l, r, rs, o, rfl, _⟩ := h
    rfl
  obtain ⟨h, l, r, rs, o, rfl, ho, er, r0, r1, o0, o1, k⟩ := h
  refine ⟨_, (pss_one (ps_ret (pe_tup (pa_cons (pe_h D_law_take (hr.mono (by decide)) rfl (pa_cons (pv 0) (pa_cons (pe_callB call_len_seq rfl B.len PySem.boot_len (pa_cons (pv 1) pa_nil)) pa_nil))) (pa_cons (pe_h D_law_take (hr.mono (by decide)) rfl (pa_cons (pv 0) (pa_cons (pe_op op_add (pv 2) pe_int) pa_nil))) pa_nil))))), ?_⟩
  refine ⟨_, rfl, _, rfl, _, _, rfl, .inr (SqT.of er), h, l, _, rfl, ho, by omega, by omega, fun i H1 _ _ ho1 k1 => ?_⟩
  refine ⟨_, rfl, _, rfl, _, _, rfl, rfl, h, l, _, rfl, ho1, by omega, by omega, fun j H2 _ _ ho2 k2 => ?_⟩
  refine ⟨(by show 2 ≤ sizeLine; decide), fun T nT => ?_⟩
  exact k T (.tuple [.int i, .int j]) _ (ho2.new nT) (((Kp.hand k1).trans (Kp.hand k2)).hn nT) (Rp.tup0 ho2 nT (.cons (.int i) (.cons (.int j) .nil)))
set_option maxHeartbeats 8000000 in
theorem d_law_sent (B : Bi mg) (F : FunAt K mg "_law_sent" s_law_sent) : Has P w K mg base 1 "_law_sent" ["many", "rules", "house", "task"] spLawSent := by
  refine mk_has F sc_law_sent (fun _ _ _ _ _ _ us hl => match us, hl with | [_, _, _, _], _ => rfl) (fun vs H Q E h => ?_) fun f cdv A outer s H vs Q E hr h => ?_
  · obtain ⟨N, r, t, m, h, k, f, R, rfl, _⟩ := h
    rfl
  obtain ⟨N, r, t, m, hh, kk, ff, R, rfl, hm, rr, hps, et, k0, k1, f0, k⟩ := h
  refine ⟨_, (pss_cons (ps_set (i := 4) sc_law_sent.nd rfl (Or.inl rfl) (pe_lst pa_nil))
    (C8.pss_cut (ps_if (pt_cmpR op_gt (pe_ix ix_tup (pv 3) pe_int (fun _ _ => rfl)) pe_int (nomark _))
    (pss_one (ps_for PassesOwn.never rfl (pi_tup (pe_ix ix_tup (pv 1) (pe_ix ix_tup (pv 3) pe_int (fun _ _ => rfl)) (fun _ _ => rfl))) (pg_tup rfl (pgs_cons (pg_name (i := 5) sc_law_sent.nd rfl (Or.inl rfl)) (pgs_cons (pg_name (i := 6) sc_law_sent.nd rfl (Or.inl rfl)) pgs_nil)))
    (pss_one (ps_expr (pe_bm PySem.F.plainAttrs_list PySem.F.slot_list_append PySem.F.type_list_append mt_append (pv 4) (pa_cons (pe_tup (pa_cons (pe_op op_modN (pe_callTy call_int1 rfl B.int (by decide +kernel) (pa_cons (pe_op op_add (pv 2) (pv 5)) pa_nil)) (pv 0)) (pa_cons (pe_tup (pa_cons (pv 6) (pa_cons (pe_op op_sub (pe_ix ix_tup (pv 3) pe_int (fun _ _ => rfl)) pe_int) pa_nil))) pa_nil))) pa_nil))))))
    pss_nil)
    (pss_one (ps_ret (pv 4))))), ?_⟩
  refine ⟨(by show 0 ≤ sizeLine; decide), fun L nL => ?_⟩
  have sL := same_new (o := .lst []) nL
  refine ⟨fun σ H' => ∃ v5 v6 acc, σ = [some (.int m), some (.ref r), some (.int hh), some (.ref t), some (.ref L), v5, v6] ∧ Same H H' ∧ H' L = some (.lst acc) ∧ RpAll (fun b => b = L) H' acc (sentD m R hh kk ff), ?_, ?_⟩
  · refine ⟨_, rfl, _, _, _, _, rfl, rfl, SqT.of (sL _ _ et), rfl, _, _, rfl, rfl, _, rfl, ?_⟩
    by_cases z : ff = 0
    · refine ifF (by rw [z]; rfl) ⟨none, none, [], rfl, sL, upd_same, ?_⟩
      unfold sentD
      rw [if_pos z]
      exact .nil
    refine ifT (by simp; omega) ?_
    cases rr with
    | @tup _ xs _ er nr ra =>
    have hl : xs.length = R.length := ra.length.trans (List.length_map _)
    obtain ⟨x, hx, _, gx⟩ := atI_some (xs := xs) k0 (by rw [hl]; exact k1)
    obtain ⟨d, gd, rd⟩ := ra.get gx
    rw [List.getElem?_map] at gd
    obtain ⟨ps, gp, rfl⟩ := Option.map_eq_some_iff.mp gd
    have hsd : sentD m R hh kk ff = ps.map (sentI m hh ff) := by
      unfold sentD
      rw [if_neg z, List.getD_eq_getElem?_getD, gp] <;> rfl
    have hlen := hps ps (List.mem_of_getElem? gp)
    cases rd with
    | @tup q ys _ eq nq ry =>
    have hly : ys.length = ps.length := ry.length.trans (List.length_map _)
    refine ⟨_, rfl, _, rfl, _, _, _, _, rfl, rfl, SqT.of (sL _ _ et), rfl, _, _, _, _, rfl, rfl, SqT.of (sL _ _ er), hx, q, rfl, ⟨ys, SqT.of (sL _ _ eq)⟩, ?_⟩
    refine for_tup (K := K) (a := q) (xs := ys) (fun i σ H' => ∃ v5 v6 acc, σ = [some (.int m), some (.ref r), some (.int hh), some (.ref t), some (.ref L), v5, v6] ∧ Same H H' ∧ H' L = some (.lst acc) ∧ RpAll (fun b => b = L) H' acc ((ps.take i).map (sentI m hh ff)))
      ⟨none, none, [], rfl, sL, upd_same, .nil⟩ (fun i σ H' _ ⟨_, _, _, _, e', _⟩ => SqT.of (e' _ _ eq)) ?_ ?_
    · rintro i y σ H' hy ⟨v5, v6, acc, rfl, e1, eL, rA⟩
      obtain ⟨d, gd, rd⟩ := ry.get hy
      rw [List.getElem?_map] at gd
      obtain ⟨p, gp', rfl⟩ := Option.map_eq_some_iff.mp gd
      have hil : i < ps.length := by
        obtain ⟨h1, _⟩ := List.getElem?_eq_some_iff.mp gp'
        exact h1
      cases rd with
      | @tup b zs _ eb nb rz =>
      cases rz with
      | cons r1 rz =>
      cases rz with
      | cons r2 rz =>
      cases rz
      cases r1
      cases r2
      refine ⟨_, _, rfl, SqT.of (e1 _ _ eb), rfl, _, _, rfl, _, _, rfl, rfl, ?_⟩
      refine ⟨_, rfl, .inl ⟨rfl, _, SqL.of eL⟩, ?_⟩
      refine ⟨_, rfl, _, rfl, _, _, rfl, rfl, ?_⟩
      refine .inl ⟨_, rfl, _, rfl, _, _, rfl, rfl, by omega, ?_⟩
      refine ⟨_, rfl, _, rfl, _, _, _, _, rfl, rfl, SqT.of (e1 _ _ et), rfl, _, _, rfl, rfl, (by show 2 ≤ sizeLine; decide), fun T1 n1 => ⟨(by show 2 ≤ sizeLine; decide), fun T2 n2 => ?_⟩⟩
      have s1 := same_new (o := .tup [.int p.2, .int (ff - 1)]) n1
      have s2 := s1.trans (same_new (o := .tup [.int ((hh + p.1).fmod m), .ref T1]) n2)
      have nD1 : ¬ T1 = L := fun z => by rw [z, eL] at n1; cases n1
      have nD2 : ¬ T2 = L := fun z => by rw [z, s1 _ _ eL] at n2; cases n2
      refine ⟨L, _, _, rfl, rfl, s2 _ _ eL, ?_, _, _, acc ++ [.ref T2], rfl, fun b o q => ?_, upd_same, ?_⟩
      · rw [rA.length, List.length_map, List.length_take]
        exact Nat.lt_of_le_of_lt (Nat.le_trans (Nat.min_le_right _ _) hlen) (by decide)
      · rw [upd_ne (ne_of_none q nL)]
        exact s2 _ _ (e1 b o q)
      · rw [map_take gp']
        refine RpAll.to (.app (rA.to (Kp.of_same s2)) (.cons (.tup upd_same nD2 (.cons (.int _) (.cons (.tup ?_ nD1 (.cons (.int _) (.cons (.int _) .nil))) .nil))) .nil)) (Kp.put rfl)
        exact same_new n2 _ _ upd_same
    · rintro σ H' ⟨v5, v6, acc, rfl, e1, eL, rA⟩
      rw [hly, List.take_length, ← hsd] at rA
      exact ⟨_, _, acc, rfl, e1, eL, rA⟩
  · rintro σ H' ⟨v5, v6, acc, rfl, e1, eL, rA⟩
    exact ⟨_, rfl, k L acc H' nL e1 eL rA⟩
end
end KQ
set_option Elab.async false
set_option maxRecDepth 100000
set_option maxHeartbeats 4000000
namespace KQ
open PySem PySem.Spec PyProof.Rows L2
/-! ### works of the law's own making -/
/-- a new instance, not yet filled -/
theorem ins_new {H : Hp} {x dx C : Addr} (nx : H x = none) (nd : H dx = none) (ne : dx ≠ x) : Same H (upd (upd H dx (.own x)) x (.ins C dx [])) := fun b o z => by
  rw [upd_ne (ne_of_none z nx), upd_ne (ne_of_none z nd)]
  exact z
theorem same_kp {H H1 H' : Hp} {x : Addr} (s : Same H H1) (nx : H x = none) (k : Kp (Nh x) H1 H') : Same H H' := fun b o z => k b o (s b o z) (ne_of_none z nx)
theorem Rp.nf {N : Addr → Prop} {H : Hp} {v : V} {d : PyData} (r : Rp N H v d) : Rp NF H v d := r.kp (N' := NF) Kp.refl fun _ _ _ _ z => z

structure OkRule (m n : Int) (o : Nat) (ps : List (Int × Int)) : Prop where
  len : ps.length ≤ o
  at_ : ∀ p ∈ ps, (0 ≤ p.1 ∧ p.1 < m) ∧ 0 ≤ p.2 ∧ p.2 < n
def spLawRules : Sp := fun vs H Q _ => ∃ (h l : Addr) (m n o : Int), vs = [.ref h, .int m, .int n, .int o] ∧ HandOk H h l ∧ 0 < m ∧ m ≤ 1000 ∧ 0 < n ∧ n ≤ 1000 ∧ 0 < o ∧ o ≤ 1000 ∧
  ∀ (R : Rules) (r : Addr) (H' : Hp), HandOk H' h l → Kp (Nh h) H H' → Rp (Nh h) H' (.ref r) (rulesD R) → (R.length : Int) = n → (∀ ps ∈ R, OkRule m n o.toNat ps) → Q (.ref r) H'
/-- works as the law makes them -/
structure OkWorks (m : Int) (R : Rules) : Prop where
  m1 : 1 ≤ m
  m6 : m ≤ 6
  r1 : 1 ≤ R.length
  r6 : R.length ≤ 6
  at_ : ∀ ps ∈ R, OkRule m R.length 4 ps
def spSome : Sp := fun vs H Q _ => ∃ h l : Addr, vs = [.ref h] ∧ HandOk H h l ∧
  ∀ (m : Int) (R : Rules) (T r : Addr) (H' : Hp), HandOk H' h l → Kp (Nh h) H H' → Rp (Nh h) H' (.ref r) (rulesD R) → OkWorks m R → H' T = some (.tup [.int m, .ref r]) → T ≠ h → Q (.ref T) H'
section
variable {P : Program} {w : World} {K : PySem.W.Frag} {mg : Str → Option Value} {base : Heap}
set_option maxHeartbeats 8000000 in
theorem d_law_rules (B : Bi mg) (F : FunAt K mg "_law_rules" s_law_rules) (D_law_take : Has P w K mg base 1 "_law_take" ["hand", "many"] spTake) : Has P w K mg base 2 "_law_rules" ["hand", "many", "kinds", "most"] spLawRules := by
  refine mk_has F sc_law_rules (fun _ _ _ _ _ _ us hl => match us, hl with | [_, _, _, _], _ => rfl) (fun vs H Q E h => ?_) fun f cdv A outer s H vs Q E hr h => ?_
  · obtain ⟨h, l, m, n, o, rfl, _⟩ := h
    rfl
  obtain ⟨h, l, m, n, o, rfl, ho, m0, m1, n0, n1, o0, o1, k⟩ := h
  refine ⟨_, (pss_cons (ps_set (i := 4) sc_law_rules.nd rfl (Or.inl rfl) (pe_lst pa_nil))
    (pss_cons (ps_for PassesOwn.never rfl (pi_range1 rfl B.range (pa_cons (pv 2) pa_nil)) (pg_name (i := 5) sc_law_rules.nd rfl (Or.inl rfl))
    (pss_cons (ps_set (i := 6) sc_law_rules.nd rfl (Or.inl rfl) (pe_op op_add pe_int (pe_h D_law_take (hr.mono (by decide)) rfl (pa_cons (pv 0) (pa_cons (pv 3) pa_nil)))))
    (C8.pss_cut (ps_if (pt_cmpR op_eq (pe_h D_law_take (hr.mono (by decide)) rfl (pa_cons (pv 0) (pa_cons pe_int pa_nil))) pe_int (nomark _))
    (pss_one (ps_set (i := 6) sc_law_rules.nd rfl (Or.inl rfl) pe_int))
    pss_nil)
    (pss_one (ps_expr (pe_bm PySem.F.plainAttrs_list PySem.F.slot_list_append PySem.F.type_list_append mt_append (pv 4) (pa_cons (pe_callTy call_tuple_of rfl B.tuple (by decide +kernel) (pa_cons (pe_lc (own := [("j", 7)]) (g := gName 7) (tt := tYes) (te := (tTup (tCons (tCall spTake [] E0 (tCons (tVar 0) (tCons (tVar 1) tNil))) (tCons (tCall spTake [] E0 (tCons (tVar 0) (tCons (tVar 2) tNil))) tNil)))) rfl sc_law_rules.nd (pi_range1 rfl B.range (pa_cons (pv 6) pa_nil)) (blkOk_by (own := [("j", 7)]) (N := ["hand", "many", "kinds", "most", "found", "k", "long", "j"]) (sc := defScope s_law_rules) (by decide +kernel)) (fun _ _ _ _ _ => (pg_name (i := 7) sc_law_rules.nd rfl (Or.inl rfl))) (fun _ _ _ _ _ => pts_nil) (fun _ _ _ _ _ => (pe_tup (pa_cons (pe_h D_law_take (hr.mono (by decide)) rfl (pa_cons (pv 0) (pa_cons (pv 1) pa_nil))) (pa_cons (pe_h D_law_take (hr.mono (by decide)) rfl (pa_cons (pv 0) (pa_cons (pv 2) pa_nil))) pa_nil))))) pa_nil)) pa_nil)))))))
    (pss_one (ps_ret (pe_callTy call_tuple_of rfl B.tuple (by decide +kernel) (pa_cons (pv 4) pa_nil)))))), ?_⟩
  refine ⟨(by show 0 ≤ sizeLine; decide), fun L nL => ?_⟩
  have hLh := ho.ne nL
  have hLl := ho.ne0 nL
  refine ⟨_, rfl, n, rfl, by omega, by omega, for_range (lo := 0) (n := n.toNat) (fun i σ H' => ∃ v5 v6 v7 acc R, σ = [some (.ref h), some (.int m), some (.int n), some (.int o), some (.ref L), v5, v6, v7] ∧ HandOk H' h l ∧ Kp (fun b => b = h) H H' ∧ H' L = some (.lst acc) ∧
      RpAll (fun b => b = h ∨ b = L) H' acc (R.map ruleD) ∧ R.length = i ∧ ∀ ps ∈ R, OkRule m n o.toNat ps)
    ⟨none, none, none, [], [], rfl, ho.new nL, Kp.new nL, upd_same, .nil, rfl, fun _ z => nomatch z⟩ ?_ ?_⟩
  · rintro i σ H1 hi ⟨v5, v6, v7, acc, R, rfl, ho1, k1, eL, rA, hR, hO⟩
    refine ⟨_, rfl, _, rfl, h, l, o, rfl, ho1, o0, by omega, fun g H2 g0 g1 ho2 k2 => ?_⟩
    refine ⟨_, _, rfl, rfl, ?_⟩
    refine ⟨fun σ H' => ∃ (q : Int), σ = [some (.ref h), some (.int m), some (.int n), some (.int o), some (.ref L), some (.int (0 + (i : Int))), some (.int q), v7] ∧ 0 ≤ q ∧ q ≤ o ∧ HandOk H' h l ∧ ∀ a, a ≠ h → H' a = H1 a, ?_, ?_⟩
    · refine ⟨_, rfl, h, l, 5, rfl, ho2, by decide, by decide, fun z H3 z0 z1 ho3 k3 => ?_⟩
      have k13 : ∀ a, a ≠ h → H3 a = H1 a := fun a n => (k3 a n).trans (k2 a n)
      refine ⟨rfl, _, rfl, ?_⟩
      refine ite2 (fun _ => ⟨0, rfl, Int.le_refl 0, by omega, ho3, k13⟩) fun _ => ⟨1 + g, rfl, by omega, by omega, ho3, k13⟩
    · rintro σ H3 ⟨q, rfl, q0, q1, ho3, k3⟩
      have eL3 : H3 L = some (.lst acc) := (k3 L hLh).trans eL
      have kL : Kp (fun b => b = h ∨ b = L) H1 H3 := fun b o z n => by rw [k3 b fun y => n (.inl y)]; exact z
      refine ⟨_, rfl, .inl ⟨rfl, _, SqL.of eL3⟩, _, rfl, q, rfl, by omega, by omega, fun D nD => ?_⟩
      refine lc_range (lo := 0) (n := q.toNat) (fun j H' => ∃ ac ps, HandOk H' h l ∧ Kp (fun b => b = h ∨ b = D) H3 H' ∧ H' D = some (.lst ac) ∧ RpAll (fun b => b = h ∨ b = L ∨ b = D) H' ac (ps.map pairD) ∧ ps.length = j ∧ ∀ p ∈ ps, (0 ≤ p.1 ∧ p.1 < m) ∧ 0 ≤ p.2 ∧ p.2 < n)
        ⟨[], [], ho3.new nD, Kp.new nD, upd_same, .nil, rfl, fun _ z => nomatch z⟩ (fun j H4 hj z => ?_) fun H4 z => ?_
      · obtain ⟨ac, ps, ho4, k4, eD, rD, lp, hp⟩ := z
        refine ⟨rfl, ?_⟩
        refine tYes_ok ?_
        rw [if_pos rfl]
        have hDh : D ≠ h := ho3.ne nD
        have hDl : D ≠ l := ho3.ne0 nD
        have hLD : L ≠ D := fun z => by rw [z, nD] at eL3; cases eL3
        refine ⟨_, rfl, _, rfl, h, l, m, rfl, ho4, m0, by omega, fun a H5 a0 a1 ho5 k5 => ?_⟩
        refine ⟨_, rfl, _, rfl, h, l, n, rfl, ho5, n0, by omega, fun b H6 b0 b1 ho6 k6 => ?_⟩
        refine ⟨(by show 2 ≤ sizeLine; decide), fun T nT => ?_⟩
        have eD6 : H6 D = some (.lst ac) := (k6 D hDh).trans ((k5 D hDh).trans eD)
        have eL6 : H6 L = some (.lst acc) := (k6 L hLh).trans ((k5 L hLh).trans (k4 L _ eL3 fun z => z.elim hLh hLD))
        have nTD : T ≠ D := fun z => by rw [z, eD6] at nT; cases nT
        have nTL : T ≠ L := fun z => by rw [z, eL6] at nT; cases nT
        have kk : Kp (fun b => b = h ∨ b = L ∨ b = D) H4 (upd H6 T (.tup [.int a, .int b])) := Kp.new' (fun c o z n => by rw [k6 c fun y => n (.inl y), k5 c fun y => n (.inl y)]; exact z) nT
        obtain ⟨xh, ih, bh, sh, ch, eh, el, rh⟩ := ho6.new (o := .tup [.int a, .int b]) nT
        refine ⟨ac, (by rw [upd_ne nTD.symm]; exact eD6), ?_, ac ++ [.ref T], ps ++ [(a, b)], ⟨xh, ih, bh, sh, ch, (by rw [upd_ne hDh.symm]; exact eh), (by rw [upd_ne hDl.symm]; exact el), rh⟩, fun c o z nc => ?_, upd_same, ?_, by rw [List.length_append, lp] <;> rfl, fun p hp' => ?_⟩
        · rw [rD.length, List.length_map, lp]
          exact Nat.lt_of_lt_of_le (show j < 1001 by omega) (by decide)
        · rw [upd_ne fun y => nc (.inr y)]
          have e6 : H6 c = some o := by rw [k6 c fun y => nc (.inl y), k5 c fun y => nc (.inl y)]; exact k4 c o z nc
          exact same_new nT _ _ e6
        · rw [List.map_append]
          refine RpAll.to (.app (rD.to kk) (.cons (.tup upd_same (fun z => ?_) (.cons (.int _) (.cons (.int _) .nil))) .nil)) (Kp.put (.inr (.inr rfl)))
          rcases z with z | z | z
          · exact ho6.ne nT z
          · exact nTL z
          · exact nTD z
        · rcases List.mem_append.mp hp' with z | z
          · exact hp p z
          · cases List.mem_singleton.mp z
            exact ⟨⟨a0, a1⟩, b0, b1⟩
      · obtain ⟨ac, ps, ho4, k4, eD, rD, lp, hp⟩ := z
        have hLD : L ≠ D := fun z => by rw [z, nD] at eL3; cases eL3
        have eL4 : H4 L = some (.lst acc) := k4 L _ eL3 fun z => z.elim hLh hLD
        have rA4 : RpAll (fun b => b = h ∨ b = L ∨ b = D) H4 acc (R.map ruleD) := (rA.to kL).kp (N' := fun b => b = h ∨ b = L ∨ b = D) (fun c o z nc => by
          by_cases y : c = D
          · rw [y, nD] at z; cases z
          · exact k4 c o z fun w => w.elim (fun w => nc (.inl w)) y) fun c o z nc => fun y => y.elim (fun y => nc (.inl y)) fun y => y.elim (fun y => nc (.inr y)) fun y => by rw [y, nD] at z; cases z
        have fin : ∀ (p : Addr) (H' : Hp), Kp (fun b => b = h ∨ b = L ∨ b = D) H4 H' → HandOk H' h l → Kp (fun b => b = h) H H' → H' L = some (.lst (acc ++ [.ref p])) → H' p = some (.tup ac) → ¬ (p = h ∨ p = L) →
            ∃ (u5 u6 u7 : Option V) (acc : List V) (R : Rules), [some (V.ref h), some (V.int m), some (V.int n), some (V.int o), some (V.ref L), some (V.int (0 + (i : Int))), some (V.int q), v7] = [some (V.ref h), some (V.int m), some (V.int n), some (V.int o), some (V.ref L), u5, u6, u7] ∧ HandOk H' h l ∧ Kp (fun b => b = h) H H' ∧ H' L = some (.lst acc) ∧
              RpAll (fun b => b = h ∨ b = L) H' acc (R.map ruleD) ∧ R.length = i + 1 ∧ ∀ ps ∈ R, OkRule m n o.toNat ps := fun p H' kp hk kh eL' ep np => by
          refine ⟨_, _, _, acc ++ [.ref p], R ++ [ps], rfl, hk, kh, eL', ?_, by rw [List.length_append, hR] <;> rfl, fun ps' hp' => ?_⟩
          · rw [List.map_append]
            have up : ∀ {vs ds}, RpAll (fun b => b = h ∨ b = L ∨ b = D) H4 vs ds → RpAll (fun b => b = h ∨ b = L) H' vs ds := fun r => (r.to kp).kp (N' := fun b => b = h ∨ b = L) Kp.refl fun c o _ nc y => nc (y.elim .inl fun y => .inr (.inl y))
            exact .app (up rA4) (.cons (.tup ep np (up rD)) .nil)
          · rcases List.mem_append.mp hp' with z | z
            · exact hO _ z
            · cases List.mem_singleton.mp z
              exact ⟨by omega, hp⟩
        refine ⟨D, ac, rfl, .inl ⟨SqL.of eD, fun p np => ?_⟩⟩
        have eLp : upd H4 p (.tup ac) L = some (.lst acc) := same_new np _ _ eL4
        refine ⟨L, acc, _, rfl, rfl, eLp, ?_, ?_⟩
        · rw [rA.length, List.length_map, hR]
          exact Nat.lt_of_lt_of_le (show i < 1001 by omega) (by decide)
        · have npL : p ≠ L := fun z => by rw [z, eL4] at np; cases np
          obtain ⟨xh, ih, bh, sh, ch, eh, el, rh⟩ := ho4.new (o := .tup ac) np
          refine fin p _ (fun c o z nc => ?_) ⟨xh, ih, bh, sh, ch, (by rw [upd_ne hLh.symm]; exact eh), (by rw [upd_ne hLl.symm]; exact el), rh⟩ (fun c o z nc => ?_) upd_same (by rw [upd_ne npL]; exact upd_same) fun z => z.elim (ho4.ne np) npL
          · rw [upd_ne fun y => nc (.inr (.inl y))]
            exact same_new np _ _ z
          · have ncL : c ≠ L := fun y => by rw [y, nL] at z; cases z
            have ncD : c ≠ D := fun y => by
              have e1 := k3 c (by rw [y]; exact ho3.ne nD)
              rw [k1 c o z nc] at e1
              rw [y, nD] at e1
              cases e1
            rw [upd_ne ncL]
            refine same_new np _ _ (k4 c o ?_ fun y => y.elim nc ncD)
            rw [k3 c nc]
            exact k1 c o z nc
  · rintro σ H1 ⟨v5, v6, v7, acc, R, rfl, ho1, k1, eL, rA, hR, hO⟩
    have hn : (R.length : Int) = n := by rw [hR]; omega
    refine ⟨_, rfl, L, acc, rfl, .inl ⟨SqL.of eL, fun p np => ?_⟩⟩
    refine k R p _ (ho1.new np) (k1.new' np) (.tup upd_same (ho1.ne np) ?_) hn hO
    exact (rA.to (Kp.new np)).kp (N' := Nh h) Kp.refl fun _ _ _ n z => n (.inl z)
theorem d_law_some_works (F : FunAt K mg "_law_some_works" s_law_some_works) (D_law_pick : Has P w K mg base 2 "_law_pick" ["hand", "things"] spPick) (D_law_rules : Has P w K mg base 2 "_law_rules" ["hand", "many", "kinds", "most"] spLawRules) : Has P w K mg base 3 "_law_some_works" ["hand"] spSome := by
  refine mk_has F sc_law_some_works (fun _ _ _ _ _ _ us hl => match us, hl with | [_], _ => rfl) (fun vs H Q E h => ?_) fun f cdv A outer s H vs Q E hr h => ?_
  · obtain ⟨h, l, rfl, _⟩ := h
    rfl
  obtain ⟨h, l, rfl, ho, k⟩ := h
  refine ⟨_, (pss_cons (ps_set (i := 1) sc_law_some_works.nd rfl (Or.inl rfl) (pe_h D_law_pick (hr.mono (by decide)) rfl (pa_cons (pv 0) (pa_cons (pe_lst (pa_cons pe_int (pa_cons pe_int (pa_cons pe_int (pa_cons pe_int (pa_cons pe_int (pa_cons pe_int (pa_cons pe_int pa_nil)))))))) pa_nil))))
    (pss_cons (ps_set (i := 2) sc_law_some_works.nd rfl (Or.inl rfl) (pe_h D_law_pick (hr.mono (by decide)) rfl (pa_cons (pv 0) (pa_cons (pe_lst (pa_cons pe_int (pa_cons pe_int (pa_cons pe_int (pa_cons pe_int (pa_cons pe_int (pa_cons pe_int pa_nil))))))) pa_nil))))
    (pss_one (ps_ret (pe_tup (pa_cons (pv 1) (pa_cons (pe_h D_law_rules (hr.mono (by decide)) rfl (pa_cons (pv 0) (pa_cons (pv 1) (pa_cons (pv 2) (pa_cons (pe_h D_law_pick (hr.mono (by decide)) rfl (pa_cons (pv 0) (pa_cons (pe_lst (pa_cons pe_int (pa_cons pe_int (pa_cons pe_int (pa_cons pe_int (pa_cons pe_int pa_nil)))))) pa_nil))) pa_nil))))) pa_nil))))))), ?_⟩
  refine ⟨_, rfl, (by show 7 ≤ sizeLine; decide), fun L1 n1 => ?_⟩
  refine ⟨h, l, L1, _, rfl, ho.new n1, upd_same, ho.ne n1, (by show 0 < 7; decide), (by show 7 < 1073741824; decide), fun v1 H1 hv1 ho1 k1 => ?_⟩
  refine ⟨_, rfl, (by show 6 ≤ sizeLine; decide), fun L2 n2 => ?_⟩
  refine ⟨h, l, L2, _, rfl, ho1.new n2, upd_same, ho1.ne n2, (by show 0 < 6; decide), (by show 6 < 1073741824; decide), fun v2 H2 hv2 ho2 k2 => ?_⟩
  refine ⟨_, rfl, _, rfl, _, rfl, _, rfl, _, rfl, (by show 5 ≤ sizeLine; decide), fun L3 n3 => ?_⟩
  refine ⟨h, l, L3, _, rfl, ho2.new n3, upd_same, ho2.ne n3, (by show 0 < 5; decide), (by show 5 < 1073741824; decide), fun v3 H3 hv3 ho3 k3 => ?_⟩
  obtain ⟨m, rfl, m1, m6⟩ : ∃ m : Int, v1 = .int m ∧ 1 ≤ m ∧ m ≤ 6 := by
    simp only [List.mem_cons, List.not_mem_nil, or_false] at hv1
    rcases hv1 with rfl | rfl | rfl | rfl | rfl | rfl | rfl <;> exact ⟨_, rfl, by decide, by decide⟩
  obtain ⟨n, rfl, n1', n6⟩ : ∃ n : Int, v2 = .int n ∧ 1 ≤ n ∧ n ≤ 6 := by
    simp only [List.mem_cons, List.not_mem_nil, or_false] at hv2
    rcases hv2 with rfl | rfl | rfl | rfl | rfl | rfl <;> exact ⟨_, rfl, by decide, by decide⟩
  obtain ⟨o, rfl, o1, o4⟩ : ∃ o : Int, v3 = .int o ∧ 1 ≤ o ∧ o ≤ 4 := by
    simp only [List.mem_cons, List.not_mem_nil, or_false] at hv3
    rcases hv3 with rfl | rfl | rfl | rfl | rfl <;> exact ⟨_, rfl, by decide, by decide⟩
  refine ⟨h, l, m, n, o, rfl, ho3, by omega, by omega, by omega, by omega, by omega, by omega, fun R r H4 ho4 k4 rR hR hO => ⟨(by show 2 ≤ sizeLine; decide), fun T nT => ?_⟩⟩
  have kk : Kp (Nh h) H H4 := ((((Kp.new (N := Nh h) n1).trans (Kp.hand k1)).trans ((Kp.new (N := Nh h) n2).trans (Kp.hand k2))).trans ((Kp.new (N := Nh h) n3).trans (Kp.hand k3))).trans k4
  refine k m R T r _ (ho4.new nT) (kk.new' nT) (rR.to (Kp.new nT)) ⟨m1, m6, by omega, by omega, fun ps hp => ?_⟩ upd_same (ho4.ne nT)
  have q := hO ps hp
  exact ⟨Nat.le_trans q.len (by omega), fun p hp => by rw [hR]; exact q.at_ p hp⟩
end
end KQ
set_option Elab.async false
set_option maxRecDepth 100000
set_option maxHeartbeats 4000000
namespace KQ
open PySem PySem.Spec PyProof.Rows L2
/-! ### data of good works -/
theorem pairD_dl (p : Int × Int) : (pairD p).depth = 1 ∧ (pairD p).canLay0 = true := by simp [pairD, PyData.depth, PyData.depthAll, PyData.canLay0, PyData.canLayAll0]
theorem pairsD_dl : ∀ ps : List (Int × Int), PyData.depthAll (ps.map pairD) ≤ 1 ∧ PyData.canLayAll0 (ps.map pairD) = true
  | [] => by simp [PyData.depthAll, PyData.canLayAll0]
  | p :: ps => by
    have h1 := pairD_dl p
    have h2 := pairsD_dl ps
    simp [PyData.depthAll, PyData.canLayAll0, h1.1, h1.2, h2.2]
    omega
theorem ruleD_dl (ps : List (Int × Int)) : (ruleD ps).depth ≤ 2 ∧ (ruleD ps).canLay0 = true := by
  have h := pairsD_dl ps
  simp only [ruleD, PyData.depth, PyData.canLay0]
  exact ⟨by omega, h.2⟩
theorem rulesD_dl' : ∀ R : Rules, PyData.depthAll (R.map ruleD) ≤ 2 ∧ PyData.canLayAll0 (R.map ruleD) = true
  | [] => by simp [PyData.depthAll, PyData.canLayAll0]
  | p :: ps => by
    have h1 := ruleD_dl p
    have h2 := rulesD_dl' ps
    simp [PyData.depthAll, PyData.canLayAll0, h1.2, h2.2]
    omega
theorem rulesD_dl (R : Rules) : (rulesD R).depth ≤ 3 ∧ (rulesD R).canLay0 = true := by
  have h := rulesD_dl' R
  simp only [rulesD, PyData.depth, PyData.canLay0]
  exact ⟨by omega, h.2⟩
theorem rulesD_sh (R : Rules) : SeqAt.shaped (rulesD R) = true := by
  have h := rulesD_dl R
  unfold SeqAt.shaped
  rw [h.2, Bool.true_and]
  exact decide_eq_true (by omega)
theorem sentI_dl (m h f : Int) (p : Int × Int) : (sentI m h f p).depth = 2 ∧ (sentI m h f p).canLay0 = true := by simp [sentI, PyData.depth, PyData.depthAll, PyData.canLay0, PyData.canLayAll0]
theorem sents_dl (m h f : Int) : ∀ ps : List (Int × Int), PyData.depthAll (ps.map (sentI m h f)) ≤ 2 ∧ PyData.canLayAll0 (ps.map (sentI m h f)) = true
  | [] => by simp [PyData.depthAll, PyData.canLayAll0]
  | p :: ps => by
    have h1 := sentI_dl m h f p
    have h2 := sents_dl m h f ps
    simp [PyData.depthAll, PyData.canLayAll0, h1.1, h1.2, h2.2]
    omega
theorem sentD_dl (m : Int) (R : Rules) (h k f : Int) : PyData.depthAll (sentD m R h k f) ≤ 2 ∧ PyData.canLayAll0 (sentD m R h k f) = true := by
  unfold sentD
  split
  · simp [PyData.depthAll, PyData.canLayAll0]
  · exact sents_dl _ _ _ _
theorem isPair_ok {m k : Int} {p : Int × Int} (h : (0 ≤ p.1 ∧ p.1 < m) ∧ 0 ≤ p.2 ∧ p.2 < k) : isPair m k (pairD p) = true := by
  simp only [pairD, isPair, below, intOf]
  simp [h.1.1, h.1.2, h.2.1, h.2.2]
theorem isRule_ok {m k : Int} {ps : List (Int × Int)} (h : OkRule m k 4 ps) : isRule m k (ruleD ps) = true := by
  simp only [ruleD, isRule, List.length_map]
  rw [Bool.and_eq_true, List.all_map, List.all_eq_true]
  exact ⟨decide_eq_true h.len, fun p hp => isPair_ok (h.at_ p hp)⟩
theorem firstBad_none {f : PyData → Bool} : ∀ {i : Nat} {ds : List PyData}, (∀ d ∈ ds, f d = true) → firstBad f i ds = none
  | _, [], _ => rfl
  | i, d :: ds, h => by
    show (if f d then firstBad f (i + 1) ds else some i) = none
    rw [if_pos (h d List.mem_cons_self)]
    exact firstBad_none fun e he => h e (List.mem_cons_of_mem _ he)
theorem firstBad_all {f : PyData → Bool} : ∀ {i : Nat} {ds : List PyData}, firstBad f i ds = none → ∀ d ∈ ds, f d = true
  | _, [], _, _, h => nomatch h
  | i, d :: ds, e, x, h => by
    have e' : (if f d then firstBad f (i + 1) ds else some i) = none := e
    by_cases c : f d = true
    · rw [if_pos c] at e'
      rcases List.mem_cons.mp h with rfl | h
      · exact c
      · exact firstBad_all e' x h
    · rw [if_neg c] at e'
      cases e'
theorem badW_ok {m : Int} {R : Rules} (h : OkWorks m R) : badW (.int m) (rulesD R) = none := by
  have c : ¬ within (.int m) 1 6 = false := by simp [within, intOf, h.m1, h.m6]
  have h1 := h.r1
  have h6 := h.r6
  unfold badW
  rw [if_neg c]
  simp only [rulesD, List.length_map]
  rw [if_neg (by omega), firstBad_none]
  · rfl
  intro d hd
  obtain ⟨ps, hp, rfl⟩ := List.mem_map.mp hd
  exact isRule_ok (h.at_ ps hp)
theorem isPair_inv' {m k : Int} {d : PyData} (h : isPair m k d = true) : ∃ p, d = pairD p := by
  obtain ⟨i, j, rfl, _⟩ := isPair_inv h
  exact ⟨(i, j), rfl⟩
theorem all_map {f : PyData → Bool} {α : Type} {g : α → PyData} (h : ∀ d, f d = true → ∃ a, d = g a) : ∀ ds : List PyData, (∀ d ∈ ds, f d = true) → ∃ as : List α, ds = as.map g
  | [], _ => ⟨[], rfl⟩
  | d :: ds, q => by
    obtain ⟨a, rfl⟩ := h d (q d List.mem_cons_self)
    obtain ⟨as, rfl⟩ := all_map h ds fun e he => q e (List.mem_cons_of_mem _ he)
    exact ⟨a :: as, rfl⟩
theorem isRule_inv {m k : Int} {d : PyData} (h : isRule m k d = true) : ∃ ps, d = ruleD ps := by
  cases d with
  | tuple ds =>
    simp only [isRule, Bool.and_eq_true, List.all_eq_true] at h
    obtain ⟨ps, rfl⟩ := all_map (fun d => isPair_inv') ds h.2
    exact ⟨ps, rfl⟩
  | bool b => cases h
  | int b => cases h
  | none => cases h
  | str x => cases h
  | list x => cases h
  | dict x => cases h
theorem badW_inv {dm dr : PyData} (h : badW dm dr = none) : dm = .int (num dm) ∧ ∃ R, dr = rulesD R := by
  unfold badW at h
  by_cases c : within dm 1 6 = false
  · rw [if_pos c] at h
    cases h
  rw [if_neg c] at h
  have c' : within dm 1 6 = true := by simpa using c
  refine ⟨(within_num c').1, ?_⟩
  cases dr with
  | tuple ds =>
    simp only at h
    by_cases c2 : ds.length = 0 ∨ 6 < ds.length
    · rw [if_pos c2] at h
      cases h
    rw [if_neg c2, Option.map_eq_none_iff] at h
    obtain ⟨R, rfl⟩ := all_map (fun d => isRule_inv) ds (firstBad_all h)
    exact ⟨R, rfl⟩
  | bool b => cases h
  | int b => cases h
  | none => cases h
  | str x => cases h
  | list x => cases h
  | dict x => cases h
/-- what is told of bad works is a word or a number -/
theorem badW_flat {dm dr : PyData} {e : V} (h : badW dm dr = some e) : ∃ d : PyData, (∀ N H, Rp N H e d) ∧ d.depth = 0 ∧ d.canLay0 = true := by
  unfold badW at h
  by_cases c : within dm 1 6 = false
  · rw [if_pos c] at h
    cases h
    exact ⟨.str "many", fun _ _ => .str _, rfl, by decide +kernel⟩
  rw [if_neg c] at h
  have neg : some (V.int (-1)) = some e → ∃ d : PyData, (∀ N H, Rp N H e d) ∧ d.depth = 0 ∧ d.canLay0 = true := fun z => by
    cases z
    exact ⟨_, fun _ _ => .int _, rfl, rfl⟩
  cases dr with
  | tuple ds =>
    simp only at h
    by_cases c2 : ds.length = 0 ∨ 6 < ds.length
    · rw [if_pos c2] at h
      exact neg h
    rw [if_neg c2] at h
    obtain ⟨i, _, rfl⟩ := Option.map_eq_some_iff.mp h
    exact ⟨_, fun _ _ => .int _, rfl, rfl⟩
  | bool b => exact neg h
  | int b => exact neg h
  | none => exact neg h
  | str x => exact neg h
  | list x => exact neg h
  | dict x => exact neg h
end KQ
set_option Elab.async false
set_option maxRecDepth 100000
set_option maxHeartbeats 4000000
namespace KQ
open PySem PySem.Spec PyProof.Rows L2
/-! ### some data, of any kind -/
def RV (N : Addr → Prop) (H : Hp) (v : V) : Prop := ∃ d, Rp N H v d
def RA (N : Addr → Prop) (H : Hp) (vs : List V) : Prop := ∃ ds, RpAll N H vs ds
section
variable {N : Addr → Prop} {H H' : Hp} {v : V} {vs ws : List V} {p : Addr}
theorem RV.to (r : RV N H v) (k : Kp N H H') : RV N H' v := let ⟨d, q⟩ := r; ⟨d, q.to k⟩
theorem RA.to (r : RA N H vs) (k : Kp N H H') : RA N H' vs := let ⟨d, q⟩ := r; ⟨d, q.to k⟩
theorem RV.int (i : Int) : RV N H (.int i) := ⟨_, .int i⟩
theorem RV.bl (b : Bool) : RV N H (.bl b) := ⟨_, .bl b⟩
theorem RA.nil : RA N H [] := ⟨_, .nil⟩
theorem RA.cons (r : RV N H v) (t : RA N H vs) : RA N H (v :: vs) := let ⟨_, q⟩ := r; let ⟨_, u⟩ := t; ⟨_, .cons q u⟩
theorem RA.app (r : RA N H vs) (t : RA N H ws) : RA N H (vs ++ ws) := let ⟨_, q⟩ := r; let ⟨_, u⟩ := t; ⟨_, .app q u⟩
theorem RA.rep (r : RA N H vs) : ∀ n : Nat, RA N H (List.replicate n vs).flatten
  | 0 => RA.nil
  | n + 1 => by
    rw [List.replicate_succ, List.flatten_cons]
    exact r.app (RA.rep r n)
theorem RA.cut (r : RA N H vs) (lo hi : Option Int) : RA N H (cutV vs lo hi) := let ⟨_, q⟩ := r; ⟨_, (q.drop _).take _⟩
theorem RA.mem (r : RA N H vs) (h : v ∈ vs) : RV N H v := by
  obtain ⟨ds, q⟩ := r
  obtain ⟨i, hi⟩ := List.mem_iff_getElem?.mp h
  obtain ⟨d, _, q⟩ := q.get hi
  exact ⟨d, q⟩
theorem RV.tup (e : H p = some (.tup vs)) (n : ¬ N p) (r : RA N H vs) : RV N H (.ref p) := let ⟨_, q⟩ := r; ⟨_, .tup e n q⟩
theorem RV.lst (e : H p = some (.lst vs)) (n : ¬ N p) (r : RA N H vs) : RV N H (.ref p) := let ⟨_, q⟩ := r; ⟨_, .lst e n q⟩
end
/-- a tuple of data at p, away from the hand -/
def TupAt (h : Addr) (H : Hp) (p : Addr) (xs : List V) : Prop := H p = some (.tup xs) ∧ p ≠ h ∧ RA (Nh h) H xs
theorem TupAt.to {h p : Addr} {H H' : Hp} {xs : List V} (t : TupAt h H p xs) (k : Kp (Nh h) H H') : TupAt h H' p xs := ⟨k _ _ t.1 t.2.1, t.2.1, t.2.2.to k⟩
theorem TupAt.rv {h p : Addr} {H : Hp} {xs : List V} (t : TupAt h H p xs) : RV (Nh h) H (.ref p) := .tup t.1 t.2.1 t.2.2
theorem TupAt.new {h l p : Addr} {H : Hp} {xs : List V} (ho : HandOk H h l) (n : H p = none) (r : RA (Nh h) H xs) : TupAt h (upd H p (.tup xs)) p xs := ⟨upd_same, ho.ne n, r.to (Kp.new n)⟩
theorem TupAt.sq {K : PySem.W.Frag} {h p : Addr} {H : Hp} {xs : List V} (t : TupAt h H p xs) : SqT K H p xs := SqT.of t.1
section
variable {K : PySem.W.Frag} {h l a b : Addr} {H : Hp} {xs ys : List V} {Q : VK}
theorem slA_ok {lo hi : Option Int} (ho : HandOk H h l) (t : TupAt h H a xs) (k : ∀ p ys H', HandOk H' h l → Kp (Nh h) H H' → TupAt h H' p ys → ys.length ≤ xs.length → Q (.ref p) H') : rSlA K (.ref a) lo hi H Q :=
  ⟨a, xs, rfl, t.sq, fun _ => k a xs H ho Kp.refl t (Nat.le_refl _), fun _ p np => k p _ _ (ho.new np) (Kp.new np) (TupAt.new ho np (t.2.2.cut lo hi)) (cutV_length _ _ _)⟩
theorem catA_ok (ho : HandOk H h l) (t : TupAt h H a xs) (u : TupAt h H b ys) (hl : xs.length + ys.length ≤ 1000) (k : ∀ p zs H', HandOk H' h l → Kp (Nh h) H H' → TupAt h H' p zs → zs.length = xs.length + ys.length → Q (.ref p) H') : rCatA K (.ref a) (.ref b) H Q := by
  refine ⟨a, b, xs, ys, rfl, rfl, t.sq, u.sq, Nat.le_trans hl (by decide), fun e => ?_, fun _ e => ?_, fun _ _ p np => ?_⟩
  · subst e
    exact k b ys H ho Kp.refl u (by simp)
  · subst e
    exact k a xs H ho Kp.refl t (by simp)
  · exact k p _ _ (ho.new np) (Kp.new np) (TupAt.new ho np (t.2.2.app u.2.2)) List.length_append
theorem repA_ok {i : Int} (ho : HandOk H h l) (t : TupAt h H a xs) (hx : xs ≠ []) (hl : xs.length ≤ 10) (h0 : 0 ≤ i) (h1 : i ≤ 10) (k : ∀ p zs H', HandOk H' h l → Kp (Nh h) H H' → TupAt h H' p zs → zs.length ≤ 100 → Q (.ref p) H') : rRepA K (.ref a) (.int i) H Q := by
  refine ⟨a, i, xs, rfl, rfl, t.sq, hx, h0, by omega, by omega, fun _ => k a xs H ho Kp.refl t (by omega), fun _ p np => ?_⟩
  refine k p _ _ (ho.new np) (Kp.new np) (TupAt.new ho np (t.2.2.rep _)) ?_
  rw [PyProof.Rows.lm_len_rep_flat]
  have : i.toNat * xs.length ≤ 10 * 10 := Nat.mul_le_mul (by omega) hl
  omega
theorem pick_ok {L : Addr} {E : XK} (ho : HandOk H h l) (eL : H L = some (.lst xs)) (nL : L ≠ h) (r : RA (Nh h) H xs) (h0 : 0 < xs.length) (h1 : xs.length ≤ 100) (k : ∀ w H', HandOk H' h l → Kp (Nh h) H H' → RV (Nh h) H' w → Q w H') : spPick [.ref h, .ref L] H Q E :=
  ⟨h, l, L, xs, rfl, ho, eL, nL, h0, by omega, fun w H' hw ho' k' => k w H' ho' (Kp.hand k') ((r.mem hw).to (Kp.hand k'))⟩
end
def spSpoilt : Sp := fun vs H Q _ => ∃ (h l r : Addr) (m : Int) (R : Rules), vs = [.ref h, .int m, .ref r] ∧ HandOk H h l ∧ Rp (Nh h) H (.ref r) (rulesD R) ∧ OkWorks m R ∧
  ∀ (T : Addr) (v1 v2 : V) (H' : Hp), HandOk H' h l → Kp (Nh h) H H' → RV (Nh h) H' v1 → RV (Nh h) H' v2 → H' T = some (.tup [v1, v2]) → T ≠ h → Q (.ref T) H'
section
variable {P : Program} {w : World} {K : PySem.W.Frag} {mg : Str → Option Value} {base : Heap}
set_option maxHeartbeats 16000000 in
theorem d_law_spoilt (B : Bi mg) (F : FunAt K mg "_law_spoilt" s_law_spoilt) (D_law_take : Has P w K mg base 1 "_law_take" ["hand", "many"] spTake) (D_law_pick : Has P w K mg base 2 "_law_pick" ["hand", "things"] spPick) (D_law_odd : Has P w K mg base 2 "_law_odd" ["hand"] spOdd) :
    Has P w K mg base 3 "_law_spoilt" ["hand", "many", "rules"] spSpoilt := by
  refine mk_has F sc_law_spoilt (fun _ _ _ _ _ _ us hl => match us, hl with | [_, _, _], _ => rfl) (fun vs H Q E h => ?_) fun f cdv A outer s H vs Q E hr h => ?_
  · obtain ⟨h, l, r, m, R, rfl, _⟩ := h
    rfl
  obtain ⟨h, l, r, m, R, rfl, ho, rR, hO, k⟩ := h
  have fin : ∀ (v1 v2 : V) (H' : Hp), HandOk H' h l → Kp (Nh h) H H' → RV (Nh h) H' v1 → RV (Nh h) H' v2 → ([v1, v2].length ≤ sizeLine ∧ ∀ T, H' T = none → Q (.ref T) (upd H' T (.tup [v1, v2]))) := fun v1 v2 H' ho' k' r1 r2 =>
    ⟨(by show 2 ≤ sizeLine; decide), fun T nT => k T v1 v2 _ (ho'.new nT) (k'.new' nT) (r1.to (Kp.new nT)) (r2.to (Kp.new nT)) upd_same (ho'.ne nT)⟩
  refine ⟨_, (pss_cons (ps_set (i := 3) sc_law_spoilt.nd rfl (Or.inl rfl) (pe_h D_law_take (hr.mono (by decide)) rfl (pa_cons (pv 0) (pa_cons (pe_callB call_len_seq rfl B.len PySem.boot_len (pa_cons (pv 2) pa_nil)) pa_nil))))
    (pss_cons (ps_set (i := 4) sc_law_spoilt.nd rfl (Or.inl rfl) (pe_h D_law_take (hr.mono (by decide)) rfl (pa_cons (pv 0) (pa_cons pe_int pa_nil))))
    (pss_cons (ps_set (i := 5) sc_law_spoilt.nd rfl (Or.inl rfl) (pe_ix ix_tup (pv 2) (pv 3) (fun _ _ => rfl)))
    (pss_cons (ps_if (pt_cmpR op_eq (pv 4) pe_int (nomark _))
    (pss_one (ps_ret (pe_tup (pa_cons (pe_h D_law_pick (hr.mono (by decide)) rfl (pa_cons (pv 0) (pa_cons (pe_lst (pa_cons (pe_h D_law_odd (hr.mono (by decide)) rfl (pa_cons (pv 0) pa_nil)) (pa_cons pe_int (pa_cons pe_int (pa_cons pe_int (pa_cons pe_int pa_nil)))))) pa_nil))) (pa_cons (pv 2) pa_nil)))))
    pss_nil)
    (pss_cons (ps_if (pt_cmpR op_eq (pv 4) pe_int (nomark _))
    (pss_one (ps_ret (pe_tup (pa_cons (pv 1) (pa_cons (pe_h D_law_pick (hr.mono (by decide)) rfl (pa_cons (pv 0) (pa_cons (pe_lst (pa_cons (pe_h D_law_odd (hr.mono (by decide)) rfl (pa_cons (pv 0) pa_nil)) (pa_cons (pe_callTy call_list_of rfl B.list (by decide +kernel) (pa_cons (pv 2) pa_nil)) (pa_cons (pe_tup pa_nil) (pa_cons (pe_slice sl_tupA (pe_op op_repA (pv 2) pe_int) po_none (po_some pe_int)) (pa_cons (pe_slice sl_tupA (pe_op op_repA (pv 2) pe_int) po_none (po_some pe_int)) pa_nil)))))) pa_nil))) pa_nil)))))
    pss_nil)
    (pss_cons (ps_if (pt_cmpR op_eq (pv 4) pe_int (nomark _))
    (pss_cons (ps_set (i := 6) sc_law_spoilt.nd rfl (Or.inl rfl) (pe_h D_law_pick (hr.mono (by decide)) rfl (pa_cons (pv 0) (pa_cons (pe_lst (pa_cons (pe_h D_law_odd (hr.mono (by decide)) rfl (pa_cons (pv 0) pa_nil)) (pa_cons (pe_callTy call_list_of rfl B.list (by decide +kernel) (pa_cons (pv 5) pa_nil)) (pa_cons (pe_op op_catA (pv 5) (pe_op op_repA (pe_tup (pa_cons (pe_tup (pa_cons pe_int (pa_cons pe_int pa_nil))) pa_nil)) pe_int)) (pa_cons (pe_op op_catA (pv 5) (pe_op op_repA (pe_tup (pa_cons (pe_tup (pa_cons pe_int (pa_cons pe_int pa_nil))) pa_nil)) (pe_op op_sub pe_int (pe_callB call_len_seq rfl B.len PySem.boot_len (pa_cons (pv 5) pa_nil))))) pa_nil))))) pa_nil))))
    (pss_one (ps_ret (pe_tup (pa_cons (pv 1) (pa_cons (pe_op op_catA (pe_op op_catA (pe_slice sl_tupA (pv 2) po_none (po_some (pv 3))) (pe_tup (pa_cons (pv 6) pa_nil))) (pe_slice sl_tupA (pv 2) (po_some (pe_op op_add (pv 3) pe_int)) po_none)) pa_nil))))))
    pss_nil)
    (pss_cons (ps_if (PW.pt (pw_or (pt_cmpR op_eq (pe_callB call_len_seq rfl B.len PySem.boot_len (pa_cons (pv 5) pa_nil)) pe_int (nomark _)) (pw_or1 (pt_cmpR op_gt (pv 4) pe_int (nomark _)))))
    (pss_one (ps_ret (pe_tup (pa_cons (pv 1) (pa_cons (pv 2) pa_nil)))))
    pss_nil)
    (pss_cons (ps_set (i := 7) sc_law_spoilt.nd rfl (Or.inl rfl) (pe_h D_law_take (hr.mono (by decide)) rfl (pa_cons (pv 0) (pa_cons (pe_callB call_len_seq rfl B.len PySem.boot_len (pa_cons (pv 5) pa_nil)) pa_nil))))
    (pss_cons (ps_asg (pe_ix ix_tup (pv 5) (pv 7) (fun _ _ => rfl)) (pg_tup rfl (pgs_cons (pg_name (i := 8) sc_law_spoilt.nd rfl (Or.inl rfl)) (pgs_cons (pg_name (i := 9) sc_law_spoilt.nd rfl (Or.inl rfl)) pgs_nil))))
    (pss_cons (ps_set (i := 10) sc_law_spoilt.nd rfl (Or.inl rfl) (pe_lst (pa_cons (pe_tup (pa_cons (pe_op op_add (pv 8) pe_int) (pa_cons (pv 9) pa_nil))) (pa_cons (pe_tup (pa_cons (pv 8) (pa_cons (pe_op op_add (pv 9) pe_int) pa_nil))) (pa_cons (pe_tup (pa_cons (pe_un un_neg pe_int) (pa_cons (pv 9) pa_nil))) (pa_cons (pe_tup (pa_cons (pv 8) (pa_cons (pe_un un_neg pe_int) pa_nil))) (pa_cons (pe_tup (pa_cons pe_bl (pa_cons (pv 9) pa_nil))) (pa_cons (pe_lst (pa_cons (pv 8) (pa_cons (pv 9) pa_nil))) (pa_cons (pe_tup (pa_cons (pv 8) (pa_cons (pv 9) (pa_cons pe_int pa_nil)))) (pa_cons (pe_h D_law_odd (hr.mono (by decide)) rfl (pa_cons (pv 0) pa_nil)) pa_nil))))))))))
    (pss_cons (ps_set (i := 6) sc_law_spoilt.nd rfl (Or.inl rfl) (pe_op op_catA (pe_op op_catA (pe_slice sl_tupA (pv 5) po_none (po_some (pv 7))) (pe_tup (pa_cons (pe_h D_law_pick (hr.mono (by decide)) rfl (pa_cons (pv 0) (pa_cons (pv 10) pa_nil))) pa_nil))) (pe_slice sl_tupA (pv 5) (po_some (pe_op op_add (pv 7) pe_int)) po_none)))
    (pss_one (ps_ret (pe_tup (pa_cons (pv 1) (pa_cons (pe_op op_catA (pe_op op_catA (pe_slice sl_tupA (pv 2) po_none (po_some (pv 3))) (pe_tup (pa_cons (pv 6) pa_nil))) (pe_slice sl_tupA (pv 2) (po_some (pe_op op_add (pv 3) pe_int)) po_none)) pa_nil)))))))))))))))), ?_⟩
  have rRV : RV (Nh h) H (.ref r) := ⟨_, rR⟩
  cases rR with
  | @tup _ xs _ er nr ra =>
  have hl : xs.length = R.length := ra.length.trans (List.length_map _)
  have tR : TupAt h H r xs := ⟨er, nr, _, ra⟩
  have o1 := hO.r1
  have o6 := hO.r6
  refine ⟨_, rfl, _, rfl, _, _, rfl, .inr (SqT.of er), h, l, _, rfl, ho, by omega, by omega, fun at_ H1 a0 a1 ho1 k1 => ?_⟩
  have K1 : Kp (Nh h) H H1 := Kp.hand k1
  refine ⟨_, rfl, h, l, 11, rfl, ho1, by decide, by decide, fun way H2 w0 w1 ho2 k2 => ?_⟩
  have K2 : Kp (Nh h) H H2 := K1.trans (Kp.hand k2)
  obtain ⟨x, hx, _, gx⟩ := atI_some (xs := xs) a0 a1
  obtain ⟨d, gd, rd⟩ := ra.get gx
  rw [List.getElem?_map] at gd
  obtain ⟨ps, gp, rfl⟩ := Option.map_eq_some_iff.mp gd
  have hps := hO.at_ ps (List.mem_of_getElem? gp)
  have rd2 := rd.to K2
  cases rd2 with
  | @tup q ys _ eq nq ry =>
  have hly : ys.length = ps.length := ry.length.trans (List.length_map _)
  have tY : TupAt h H2 q ys := ⟨eq, nq, _, ry⟩
  have tR2 := tR.to K2
  have ly4 : ys.length ≤ 4 := by rw [hly]; exact hps.len
  refine ⟨_, rfl, _, rfl, _, _, _, _, rfl, rfl, tR2.sq, hx, ?_⟩
  refine ⟨_, rfl, rfl, _, rfl, ?_⟩
  refine ite2 (fun _ => ?_) (fun _ => ?_)
  · -- way 0
    refine ⟨_, rfl, _, rfl, h, l, rfl, ho2, fun v d H3 _ rv ho3 k3 => ⟨(by show 5 ≤ sizeLine; decide), fun L nL => ?_⟩⟩
    refine pick_ok (E := E0) (ho3.new nL) upd_same (ho3.ne nL) ((RA.cons ⟨_, rv⟩ (.cons (.int _) (.cons (.int _) (.cons (.int _) (.cons (.int _) .nil))))).to (Kp.new nL)) (by show 0 < 5; decide) (by show 5 ≤ 100; decide) fun w H5 ho5 k5 rw => ?_
    have K5 := (K2.trans k3).trans ((Kp.new nL).trans k5)
    exact ⟨_, rfl, fin _ _ _ ho5 K5 rw (rRV.to K5)⟩
  refine ⟨_, rfl, rfl, _, rfl, ?_⟩
  refine ite2 (fun _ => ?_) (fun _ => ?_)
  · -- way 1
    refine ⟨_, rfl, _, rfl, _, rfl, h, l, rfl, ho2, fun v d H3 _ rv ho3 k3 => ?_⟩
    have tR3 := tR2.to k3
    refine ⟨_, rfl, r, _, rfl, .inr tR3.sq, fun p1 n1 => ⟨(by show 0 ≤ sizeLine; decide), fun p2 n2 => ?_⟩⟩
    have k1' := k3.trans (Kp.new (N := Nh h) (o := .lst xs) n1)
    have k2' := k1'.trans (Kp.new (N := Nh h) (o := .tup []) n2)
    have hop1 := ho3.new (o := .lst xs) n1
    have hop2 := hop1.new (o := .tup []) n2
    have tR4 := tR2.to k2'
    have xne : xs ≠ [] := fun z => by rw [z] at hl; simp at hl; omega
    refine ⟨_, rfl, ?_⟩
    try unfold tC
    refine repA_ok (K := K) hop2 tR4 xne (by omega) (by decide) (by decide) fun p3 z3 H4 ho4 k4 t4 l4 => ⟨_, rfl, slA_ok (K := K) ho4 t4 fun p5 z5 H5 ho5 k5 t5 l5 => ?_⟩
    refine ⟨_, rfl, ?_⟩
    try unfold tC
    refine repA_ok (K := K) ho5 ((tR4.to k4).to k5) xne (by omega) (by decide) (by decide) fun p6 z6 H6 ho6 k6 t6 l6 => ⟨_, rfl, slA_ok (K := K) ho6 t6 fun p7 z7 H7 ho7 k7 t7 l7 => ?_⟩
    refine ⟨(by show 5 ≤ sizeLine; decide), fun L nL => ?_⟩
    have kA : Kp (Nh h) (upd (upd H3 p1 (.lst xs)) p2 (.tup [])) H7 := ((k4.trans k5).trans k6).trans k7
    have kB : Kp (Nh h) (upd H3 p1 (.lst xs)) H7 := (Kp.new n2).trans kA
    have kC : Kp (Nh h) H3 H7 := (Kp.new n1).trans kB
    have r1 : RV (Nh h) H7 (.ref p1) := .lst (kB _ _ upd_same (ho3.ne n1)) (ho3.ne n1) (tR3.to kC).2.2
    have r2 : RV (Nh h) H7 (.ref p2) := .tup (kA _ _ upd_same (hop1.ne n2)) (hop1.ne n2) .nil
    have rM : RA (Nh h) H7 [v, .ref p1, .ref p2, .ref p5, .ref p7] := .cons (RV.to ⟨_, rv⟩ kC) (.cons r1 (.cons r2 (.cons (t5.to (k6.trans k7)).rv (.cons t7.rv .nil))))
    refine pick_ok (E := E0) (ho7.new nL) upd_same (ho7.ne nL) (rM.to (Kp.new nL)) (by show 0 < 5; decide) (by show 5 ≤ 100; decide) fun w H9 ho9 k9 rw => ?_
    have K9 := ((K2.trans k3).trans kC).trans ((Kp.new nL).trans k9)
    exact fin _ _ _ ho9 K9 (.int _) rw
  refine ⟨_, rfl, rfl, _, rfl, ?_⟩
  refine ite2 (fun _ => ?_) (fun _ => ?_)
  · -- way 2
    refine ⟨_, rfl, _, rfl, h, l, rfl, ho2, fun v d H3 _ rv ho3 k3 => ?_⟩
    have tY3 := tY.to k3
    refine ⟨_, rfl, q, _, rfl, .inr tY3.sq, fun p1 n1 => ?_⟩
    have hop1 := ho3.new (o := .lst ys) n1
    have kp1 : Kp (Nh h) H3 (upd H3 p1 (.lst ys)) := Kp.new n1
    have r1 : RV (Nh h) (upd H3 p1 (.lst ys)) (.ref p1) := .lst upd_same (ho3.ne n1) (tY3.to kp1).2.2
    -- rule + ((0, 0),) * 3
    refine ⟨_, rfl, (by show 2 ≤ sizeLine; decide), fun p2 n2 => ⟨(by show 1 ≤ sizeLine; decide), fun p3 n3 => ?_⟩⟩
    have hop2 := hop1.new (o := .tup [.int 0, .int 0]) n2
    have t2 : TupAt h _ p2 [.int 0, .int 0] := TupAt.new hop1 n2 (.cons (.int 0) (.cons (.int 0) .nil))
    have hop3 := hop2.new (o := .tup [.ref p2]) n3
    have t3 : TupAt h _ p3 [.ref p2] := TupAt.new hop2 n3 (.cons t2.rv .nil)
    have k23 := (Kp.new (N := Nh h) (o := .tup [.int 0, .int 0]) n2).trans (Kp.new (N := Nh h) (o := .tup [.ref p2]) n3)
    try unfold tC
    refine repA_ok (K := K) hop3 t3 (fun z => nomatch z) (by show 1 ≤ 10; decide) (by decide) (by decide) fun p4 z4 H4 ho4 k4 t4 l4 => ?_
    have kk4 : Kp (Nh h) (upd H3 p1 (.lst ys)) H4 := k23.trans k4
    refine catA_ok (K := K) ho4 ((tY3.to kp1).to kk4) t4 (by omega) fun p5 z5 H5 ho5 k5 t5 l5 => ?_
    -- rule + ((0, 0),) * (4 - len(rule))
    refine ⟨_, rfl, (by show 2 ≤ sizeLine; decide), fun p6 n6 => ⟨(by show 1 ≤ sizeLine; decide), fun p7 n7 => ?_⟩⟩
    have hop6 := ho5.new (o := .tup [.int 0, .int 0]) n6
    have t6 : TupAt h _ p6 [.int 0, .int 0] := TupAt.new ho5 n6 (.cons (.int 0) (.cons (.int 0) .nil))
    have hop7 := hop6.new (o := .tup [.ref p6]) n7
    have t7 : TupAt h _ p7 [.ref p6] := TupAt.new hop6 n7 (.cons t6.rv .nil)
    have k67 := (Kp.new (N := Nh h) (o := .tup [.int 0, .int 0]) n6).trans (Kp.new (N := Nh h) (o := .tup [.ref p6]) n7)
    have tY7 := (((tY3.to kp1).to kk4).to k5).to k67
    refine ⟨_, rfl, _, _, rfl, .inr tY7.sq, _, _, rfl, rfl, ?_⟩
    try unfold tC
    refine repA_ok (K := K) hop7 t7 (fun z => nomatch z) (by show 1 ≤ 10; decide) (by omega) (by omega) fun p8 z8 H8 ho8 k8 t8 l8 => ?_
    refine catA_ok (K := K) ho8 (tY7.to k8) t8 (by omega) fun p9 z9 H9 ho9 k9 t9 l9 => ?_
    refine ⟨(by show 4 ≤ sizeLine; decide), fun L nL => ?_⟩
    have kB : Kp (Nh h) H5 H9 := (k67.trans k8).trans k9
    have kA : Kp (Nh h) (upd H3 p1 (.lst ys)) H9 := (kk4.trans k5).trans kB
    have rM : RA (Nh h) H9 [v, .ref p1, .ref p5, .ref p9] := .cons (RV.to ⟨_, rv⟩ (kp1.trans kA)) (.cons (r1.to kA) (.cons (t5.to kB).rv (.cons t9.rv .nil)))
    refine pick_ok (E := E0) (ho9.new nL) upd_same (ho9.ne nL) (rM.to (Kp.new nL)) (by show 0 < 4; decide) (by show 4 ≤ 100; decide) fun vo Hoo hoo koo rvo => ?_
    have KK : Kp (Nh h) H Hoo := (((K2.trans k3).trans kp1).trans kA).trans ((Kp.new nL).trans koo)
    have tR_ := tR.to KK
    refine ⟨_, rfl, _, rfl, _, rfl, _, rfl, ?_⟩
    try unfold tNoPart
    refine slA_ok (K := K) hoo tR_ fun pa ya Ha hoa ka ta la => ?_
    refine ⟨_, rfl, (by show 1 ≤ sizeLine; decide), fun pb nb => ?_⟩
    have KKb := (KK.trans ka).trans (Kp.new (N := Nh h) (o := .tup [vo]) nb)
    refine catA_ok (K := K) (hoa.new nb) (ta.to (Kp.new nb)) (TupAt.new hoa nb (.cons (rvo.to ka) .nil)) (by show ya.length + 1 ≤ 1000; omega) fun pc yc Hc hoc kc tc lc => ?_
    refine ⟨_, rfl, _, rfl, _, _, rfl, rfl, _, rfl, ?_⟩
    try unfold tNoPart
    refine slA_ok (K := K) hoc ((tR.to KKb).to kc) fun pd yd Hd hod kd td ld => ?_
    refine catA_ok (K := K) hod (tc.to kd) td (by rw [lc]; show ya.length + 1 + yd.length ≤ 1000; omega) fun pe ye He hoe ke te_ le => ?_
    exact fin _ _ _ hoe (((KKb.trans kc).trans kd).trans ke) (.int _) te_.rv
  refine ⟨_, rfl, _, _, rfl, .inr tY.sq, rfl, _, rfl, ?_⟩
  have back := fin (.int m) (.ref r) H2 ho2 K2 (.int _) (rRV.to K2)
  refine ite2 (fun _ => ⟨_, rfl, _, rfl, back⟩) (fun c => ?_)
  have yl : 0 < ys.length := by
    rcases Nat.eq_zero_or_pos ys.length with z | z
    · exact absurd (by rw [z]; rfl) c
    · exact z
  refine ⟨_, rfl, _, _, rfl, rfl, _, rfl, ?_⟩
  refine ite2 (fun _ => ⟨_, rfl, _, rfl, back⟩) (fun _ => ?_)
  refine ⟨_, rfl, _, rfl, _, _, rfl, .inr tY.sq, h, l, _, rfl, ho2, by omega, by omega, fun kk H3 c0 c1 ho3 k3 => ?_⟩
  have K3 : Kp (Nh h) H2 H3 := Kp.hand k3
  have tY3 := tY.to K3
  obtain ⟨y, hy, _, gy⟩ := atI_some (xs := ys) c0 c1
  obtain ⟨d, gd, rd'⟩ := ry.get gy
  rw [List.getElem?_map] at gd
  obtain ⟨p, gp', rfl⟩ := Option.map_eq_some_iff.mp gd
  have rd3 := rd'.to K3
  cases rd3 with
  | @tup b zs _ eb nb rz =>
  cases rz with
  | cons r1 rz =>
  cases rz with
  | cons r2 rz =>
  cases rz
  cases r1
  cases r2
  refine ⟨_, rfl, _, rfl, _, _, _, _, rfl, rfl, tY3.sq, hy, _, _, rfl, SqT.of eb, rfl, _, _, rfl, _, _, rfl, rfl, ?_⟩
  -- the menu
  refine ⟨_, rfl, _, _, rfl, rfl, _, rfl, (by show 2 ≤ sizeLine; decide), fun p1 n1 => ?_⟩
  refine ⟨_, rfl, _, rfl, _, _, rfl, rfl, (by show 2 ≤ sizeLine; decide), fun p2 n2 => ?_⟩
  refine ⟨_, rfl, _, rfl, (by show 2 ≤ sizeLine; decide), fun p3 n3 => ?_⟩
  refine ⟨_, rfl, _, rfl, (by show 2 ≤ sizeLine; decide), fun p4 n4 => ?_⟩
  refine ⟨_, rfl, (by show 2 ≤ sizeLine; decide), fun p5 n5 => ?_⟩
  refine ⟨_, rfl, _, rfl, (by show 2 ≤ sizeLine; decide), fun p6 n6 => ?_⟩
  refine ⟨_, rfl, _, rfl, (by show 3 ≤ sizeLine; decide), fun p7 n7 => ?_⟩
  have q1 := ho3.new (o := .tup [.int (p.1 + 1), .int p.2]) n1
  have q2 := q1.new (o := .tup [.int p.1, .int (p.2 + 1)]) n2
  have q3 := q2.new (o := .tup [.int (-1), .int p.2]) n3
  have q4 := q3.new (o := .tup [.int p.1, .int (-1)]) n4
  have q5 := q4.new (o := .tup [.bl true, .int p.2]) n5
  have q6 := q5.new (o := .lst [.int p.1, .int p.2]) n6
  have q7 := q6.new (o := .tup [.int p.1, .int p.2, .int 0]) n7
  have u7 : Kp (Nh h) _ (upd _ p7 (.tup [.int p.1, .int p.2, .int 0])) := Kp.new n7
  have u6 := (Kp.new (N := Nh h) (o := .lst [.int p.1, .int p.2]) n6).trans u7
  have u5 := (Kp.new (N := Nh h) (o := .tup [.bl true, .int p.2]) n5).trans u6
  have u4 := (Kp.new (N := Nh h) (o := .tup [.int p.1, .int (-1)]) n4).trans u5
  have u3 := (Kp.new (N := Nh h) (o := .tup [.int (-1), .int p.2]) n3).trans u4
  have u2 := (Kp.new (N := Nh h) (o := .tup [.int p.1, .int (p.2 + 1)]) n2).trans u3
  have u1 := (Kp.new (N := Nh h) (o := .tup [.int (p.1 + 1), .int p.2]) n1).trans u2
  have w1 : RV (Nh h) _ (.ref p1) := (TupAt.new ho3 n1 (.cons (.int _) (.cons (.int _) .nil))).rv.to u2
  have w2 : RV (Nh h) _ (.ref p2) := (TupAt.new q1 n2 (.cons (.int _) (.cons (.int _) .nil))).rv.to u3
  have w3 : RV (Nh h) _ (.ref p3) := (TupAt.new q2 n3 (.cons (.int _) (.cons (.int _) .nil))).rv.to u4
  have w4 : RV (Nh h) _ (.ref p4) := (TupAt.new q3 n4 (.cons (.int _) (.cons (.int _) .nil))).rv.to u5
  have w5 : RV (Nh h) _ (.ref p5) := (TupAt.new q4 n5 (.cons (.bl _) (.cons (.int _) .nil))).rv.to u6
  have w6 : RV (Nh h) _ (.ref p6) := (RV.lst (N := Nh h) (p := p6) (vs := [.int p.1, .int p.2]) upd_same (q5.ne n6) (.cons (.int _) (.cons (.int _) .nil))).to u7
  have w7 : RV (Nh h) _ (.ref p7) := (TupAt.new q6 n7 (.cons (.int p.1) (.cons (.int p.2) (.cons (.int 0) .nil)))).rv
  refine ⟨_, rfl, h, l, rfl, q7, fun v d H4 _ rv ho4 k4 => ⟨(by show 8 ≤ sizeLine; decide), fun L nL => ?_⟩⟩
  have rM : RA (Nh h) H4 [.ref p1, .ref p2, .ref p3, .ref p4, .ref p5, .ref p6, .ref p7, v] :=
    .cons (w1.to k4) (.cons (w2.to k4) (.cons (w3.to k4) (.cons (w4.to k4) (.cons (w5.to k4) (.cons (w6.to k4) (.cons (w7.to k4) (.cons ⟨_, rv⟩ .nil)))))))
  have hoL := ho4.new (o := .lst [.ref p1, .ref p2, .ref p3, .ref p4, .ref p5, .ref p6, .ref p7, v]) nL
  have kL : Kp (Nh h) H3 (upd H4 L (.lst [.ref p1, .ref p2, .ref p3, .ref p4, .ref p5, .ref p6, .ref p7, v])) := (u1.trans k4).trans (Kp.new nL)
  have tYL := tY3.to kL
  refine ⟨_, rfl, _, rfl, _, rfl, ?_⟩
  refine slA_ok (K := K) hoL tYL fun pf yf Hf hof kf tf lf => ?_
  refine ⟨_, rfl, _, rfl, pick_ok (E := E0) hof (kf _ _ upd_same (ho4.ne nL)) (ho4.ne nL) ((rM.to (Kp.new nL)).to kf) (by show 0 < 8; decide) (by show 8 ≤ 100; decide) fun wv Hg hog kg rwv => ?_⟩
  refine ⟨(by show 1 ≤ sizeLine; decide), fun ph nh => ?_⟩
  have kh := Kp.new (N := Nh h) (o := .tup [wv]) nh
  refine catA_ok (K := K) (hog.new nh) ((tf.to kg).to kh) (TupAt.new hog nh (.cons rwv .nil)) (by show yf.length + 1 ≤ 1000; omega) fun pi yi Hi hoi ki ti li => ?_
  have kLi := ((kf.trans kg).trans kh).trans ki
  refine ⟨_, rfl, _, rfl, _, _, rfl, rfl, _, rfl, ?_⟩
  try unfold tNoPart
  refine slA_ok (K := K) hoi (tYL.to kLi) fun pj yj Hj hoj kj tj lj => ?_
  refine catA_ok (K := K) hoj (ti.to kj) tj (by rw [li]; show yf.length + 1 + yj.length ≤ 1000; omega) fun po yo Hoo hoo koo too loo => ?_
  have KK : Kp (Nh h) H Hoo := (((K2.trans K3).trans kL).trans kLi).trans (kj.trans koo)
  have rvo := too.rv
  have tR_ := tR.to KK
  refine ⟨_, rfl, _, rfl, _, rfl, _, rfl, ?_⟩
  try unfold tNoPart
  refine slA_ok (K := K) hoo tR_ fun pa ya Ha hoa ka ta la => ?_
  refine ⟨_, rfl, (by show 1 ≤ sizeLine; decide), fun pb nb => ?_⟩
  have KKb := (KK.trans ka).trans (Kp.new (N := Nh h) (o := .tup [(.ref po)]) nb)
  refine catA_ok (K := K) (hoa.new nb) (ta.to (Kp.new nb)) (TupAt.new hoa nb (.cons (rvo.to ka) .nil)) (by show ya.length + 1 ≤ 1000; omega) fun pc yc Hc hoc kc tc lc => ?_
  refine ⟨_, rfl, _, rfl, _, _, rfl, rfl, _, rfl, ?_⟩
  try unfold tNoPart
  refine slA_ok (K := K) hoc ((tR.to KKb).to kc) fun pd yd Hd hod kd td ld => ?_
  refine catA_ok (K := K) hod (tc.to kd) td (by rw [lc]; show ya.length + 1 + yd.length ≤ 1000; omega) fun pe ye He hoe ke te_ le => ?_
  exact fin _ _ _ hoe (((KKb.trans kc).trans kd).trans ke) (.int _) te_.rv
end
end KQ
set_option Elab.async false
set_option maxRecDepth 100000
set_option maxHeartbeats 4000000
namespace KQ
open PySem PySem.Spec PyProof.Rows L2
/-! ### what is told of works and of what is sent -/
def spMade : Sp := fun vs H Q _ => ∃ (N : Addr → Prop) (vm vr : V) (dm dr : PyData), vs = [vm, vr] ∧ Rp N H vm dm ∧ Rp N H vr dr ∧
  (∀ e, badW dm dr = some e → ∀ T H', Same H H' → H' T = some (.tup [.str "BadWorks", e]) → Q (.ref T) H') ∧
  (badW dm dr = none → ∀ T H', Same H H' → H' T = some (.tup [.str "told", vm, vr]) → Q (.ref T) H')
def spSentTold (C : Addr) : Sp := fun vs H Q _ => ∃ (N : Addr → Prop) (a r : Addr) (m : Int) (R : Rules) (v v' : V) (dh dt : PyData), vs = [.ref a, v, v'] ∧ WorksAt C H a (.int m) (.ref r) ∧ 0 < m ∧ Rp N H (.ref r) (rulesD R) ∧ (∀ ps ∈ R, ps.length ≤ 1000) ∧ Rp N H v dh ∧ Rp N H v' dt ∧
  (below m dh = false → ∀ T H', Same H H' → Rp NF H' (.ref T) (.tuple [.str "NoHouse"]) → Q (.ref T) H') ∧ (below m dh = true → isPair R.length 13 dt = false → ∀ T H', Same H H' → Rp NF H' (.ref T) (.tuple [.str "NoTask"]) → Q (.ref T) H') ∧
  (∀ h k f, dh = .int h → dt = .tuple [.int k, .int f] → below m dh = true → isPair R.length 13 dt = true → ∀ T H', Same H H' → Rp NF H' (.ref T) (.tuple [.str "told", .tuple (sentD m R h k f)]) → Q (.ref T) H')
section
variable {P : Program} {w : World} {K : PySem.W.Frag} {mg : Str → Option Value} {base : Heap} {C CB CH CT : Addr}
theorem d_law_made (F : FunAt K mg "_law_made" s_law_made) (T : WorksC K mg C) (x_BadWorks : ErrAt P w K mg base "BadWorks" CB "part") (D_Works : HasCX P w K mg base 5 "Works" C ["self", "many", "rules"] (spWInit C CB)) : Has P w K mg base 7 "_law_made" ["many", "rules"] spMade := by
  refine mk_has F sc_law_made (fun _ _ _ _ _ _ us hl => match us, hl with | [_, _], _ => rfl) (fun vs H Q E h => ?_) fun f cdv A outer s H vs Q E hr h => ?_
  · obtain ⟨N, vm, vr, dm, dr, rfl, _⟩ := h
    rfl
  obtain ⟨N, vm, vr, dm, dr, rfl, rm, rr, k1, k2⟩ := h
  refine ⟨_, (pss_one (ps_try_as (i := 3) (tb := fun W => tSeq (tAsg (tMakeW C (spWInit C CB) W (tCons (tVar 0) (tCons (tVar 1) tNil))) (gName 2)) (tRet (tTup (tCons (tC (.str "told")) (tCons (tFld K (tVar 2) "many") (tCons (tFld K (tVar 2) "rules") tNil))))))
    (ts := fun a cls d => tRet (tTup (tCons (tC (.str "BadWorks")) (tCons (tXf a cls d CB "part" (tVar 3)) tNil)))) (Wout := fun _ _ _ _ => False) rfl rfl sc_law_made.nd rfl rfl ⟨rfl, by decide, .inl x_BadWorks.g⟩ takes0
    (fun W pn xe tk _ => (pss_cons (ps_set (i := 2) sc_law_made.nd rfl (Or.inl rfl) (pe_cX tk D_Works (hr.mono (by decide)) rfl (pa_cons (pv 0) (pa_cons (pv 1) pa_nil)))) (pss_one (ps_ret (pe_tup (pa_cons pe_str (pa_cons (pe_fld (pv 2) rfl) (pa_cons (pe_fld (pv 2) rfl) pa_nil))))))))
    (fun a oe cls d pn hz hf => (pss_one (ps_ret (pe_tup (pa_cons pe_str (pa_cons (pe_ef x_BadWorks hz hf (pv 3)) pa_nil)))))))), ?_⟩
  refine ⟨_, rfl, _, rfl, fun x dx nx nd ne => ?_⟩
  have s1 := ins_new (C := C) nx nd ne
  refine ⟨N, x, dx, vm, vr, dm, dr, rfl, upd_same, rm.to (Kp.of_same s1), rr.to (Kp.of_same s1), fun e eb d H' s2 nd' => ?_, fun eb H' eH kH => ⟨rfl, ?_⟩⟩
  · refine ⟨true, x_BadWorks.exm, fun _ a0 _ => ?_, fun z => nomatch z⟩
    refine ⟨_, rfl, rfl, rfl, _, _, _, rfl, upd_same, lk_head, (by show 2 ≤ sizeLine; decide), fun T nT => ?_⟩
    exact k1 e eb T _ ((s1.trans s2).trans ((same_new nd').trans (same_new nT))) upd_same
  · refine ⟨_, rfl, x, C, dx, _, _, rfl, eH, T.cl, T.n1, wF_m, _, rfl, x, C, dx, _, _, rfl, eH, T.cl, T.n2, wF_r, (by show 3 ≤ sizeLine; decide), fun T nT => ?_⟩
    exact k2 eb T _ ((same_kp s1 nx kH).trans (same_new nT)) upd_same
theorem d_law_sent_told (F : FunAt K mg "_law_sent_told" s_law_sent_told) (x_NoHouse : ExcAt K mg "NoHouse" CH) (x_NoTask : ExcAt K mg "NoTask" CT) (hno : PySem.W.exmOne K (.ref CT) (.ref CH) = some false) (D_sent_by : HasX P w K mg base 5 "sent_by" ["works", "house", "task"] (spSentBy C CH CT)) : Has P w K mg base 6 "_law_sent_told" ["works", "house", "task"] (spSentTold C) := by
  refine mk_has F sc_law_sent_told (fun _ _ _ _ _ _ us hl => match us, hl with | [_, _, _], _ => rfl) (fun vs H Q E h => ?_) fun f cdv A outer s H vs Q E hr h => ?_
  · obtain ⟨N, a, r, m, R, v, v', dh, dt, rfl, _⟩ := h
    rfl
  obtain ⟨N, a, r, m, R, v, v', dh, dt, rfl, ha, hm, rr, hps, rh, rt, k1, k2, k3⟩ := h
  refine ⟨_, (pss_one (ps_try_many (tb := fun W => tRet (tTup (tCons (tC (.str "told")) (tCons (tCallS (spSentBy C CH CT) (WE W) (tCons (tVar 0) (tCons (tVar 1) (tCons (tVar 2) tNil)))) tNil))))
    (l := [(.ref CH, fun _ _ _ => tRet (tTup (tCons (tC (.str "NoHouse")) tNil))), (.ref CT, fun _ _ _ => tRet (tTup (tCons (tC (.str "NoTask")) tNil)))]) (Wout := fun _ _ _ _ => False) rfl rfl takes0
    (fun W pn xe tk _ => (pss_one (ps_ret (pe_tup (pa_cons pe_str (pa_cons (pe_hX tk D_sent_by (hr.mono (by decide)) rfl (pa_cons (pv 0) (pa_cons (pv 1) (pa_cons (pv 2) pa_nil)))) pa_nil))))))
    (.cons ⟨rfl, by decide, .inl x_NoHouse.g⟩ (fun a oe cls d pn hz hf => pss_one (ps_ret (pe_tup (pa_cons pe_str pa_nil)))) (.cons ⟨rfl, by decide, .inl x_NoTask.g⟩ (fun a oe cls d pn hz hf => pss_one (ps_ret (pe_tup (pa_cons pe_str pa_nil)))) .nil)))), ?_⟩
  refine ⟨_, rfl, _, rfl, _, rfl, N, a, r, m, R, v, v', dh, dt, rfl, ha, hm, rr, hps, rh, rt, fun e => ?_, fun e e2 => ?_, fun h k f e3 e4 e e2 T H' s1 rT => ?_⟩
  · refine ⟨true, x_NoHouse.exm, fun _ a0 _ => ⟨(by show 1 ≤ sizeLine; decide), fun T nT => ?_⟩, fun z => nomatch z⟩
    exact k1 e T _ (same_new nT) (.tup upd_same (fun z => z) (.cons (.str _) .nil))
  · refine ⟨false, hno, (fun z => nomatch z), fun _ => ⟨true, x_NoTask.exm, fun _ a0 _ => ⟨(by show 1 ≤ sizeLine; decide), fun T nT => ?_⟩, fun z => nomatch z⟩⟩
    exact k2 e e2 T _ (same_new nT) (.tup upd_same (fun z => z) (.cons (.str _) .nil))
  · refine ⟨(by show 2 ≤ sizeLine; decide), fun T2 nT => ?_⟩
    exact k3 h k f e3 e4 e e2 T2 _ (s1.trans (same_new nT)) (.tup upd_same (fun z => z) (.cons (.str _) (.cons (rT.to (Kp.new nT)) .nil)))
end
end KQ
set_option Elab.async false
set_option maxRecDepth 100000
set_option maxHeartbeats 4000000
namespace KQ
open PySem PySem.Spec PyProof.Rows L2
def spLaw (K : PySem.W.Frag) : Sp := fun vs H Q _ => ∃ (a : Addr) (ns : List Int), vs = [.ref a] ∧ SqL K H a (ns.map V.int) ∧ ns.length ≤ 63 ∧ ∀ H', Q (.bl true) H'
/-- the hand, the works at x made of m and the rules at r -/
structure S1 (C : Addr) (H : Hp) (h l x r : Addr) (m : Int) (R : Rules) : Prop where
  ho : HandOk H h l
  wk : WorksAt C H x (.int m) (.ref r)
  nx : x ≠ h
  rr : Rp (Nh h) H (.ref r) (rulesD R)
  ok : OkWorks m R
theorem S1.kp {C : Addr} {H H' : Hp} {h l x r : Addr} {m : Int} {R : Rules} (S : S1 C H h l x r m R) (ho : HandOk H' h l) (k : Kp (Nh h) H H') : S1 C H' h l x r m R := by
  obtain ⟨_, ⟨dx, e⟩, n, rr, ok⟩ := S
  exact ⟨ho, ⟨dx, k _ _ e n⟩, n, rr.to k, ok⟩
theorem S1.same {C : Addr} {H H' : Hp} {h l x r : Addr} {m : Int} {R : Rules} (S : S1 C H h l x r m R) (k : Same H H') : S1 C H' h l x r m R := S.kp (S.ho.same k) (Kp.of_same k)
theorem S1.rls {C : Addr} {H : Hp} {h l x r : Addr} {m : Int} {R : Rules} (S : S1 C H h l x r m R) : ∃ rs, H r = some (.tup rs) ∧ rs.length = R.length ∧ r ≠ h := by
  obtain ⟨_, _, _, rr, _⟩ := S
  cases rr with
  | tup e n ra => exact ⟨_, e, ra.length.trans (List.length_map _), n⟩
theorem S1.le {C : Addr} {H : Hp} {h l x r : Addr} {m : Int} {R : Rules} (S : S1 C H h l x r m R) : ∀ ps ∈ R, ps.length ≤ 1000 := fun ps hp => Nat.le_trans (S.ok.at_ ps hp).len (by decide)
theorem told_dl {d1 d2 : PyData} (h : badW d1 d2 = none) : (PyData.tuple [.str "told", d1, d2]).depth ≤ 4 ∧ (PyData.tuple [.str "told", d1, d2]).canLay0 = true := by
  obtain ⟨e1, R, rfl⟩ := badW_inv h
  rw [e1]
  have q := rulesD_dl R
  have w : (PyData.str "told").canLay0 = true := by decide +kernel
  refine ⟨?_, ?_⟩
  · simp only [PyData.depth, PyData.depthAll]
    omega
  · show (PyData.canLay0 (.str "told") && (true && (PyData.canLay0 (rulesD R) && true))) = true
    rw [w, q.2] <;> rfl
theorem pair_sh {d1 d2 : PyData} (h : badW d1 d2 = none) : SeqAt.shaped (.tuple [d1, d2]) = true := by
  obtain ⟨e1, R, rfl⟩ := badW_inv h
  rw [e1]
  have q := rulesD_dl R
  unfold SeqAt.shaped
  simp [PyData.depth, PyData.depthAll, PyData.canLay0, PyData.canLayAll0, q.2]
  omega
theorem bad_dl {d : PyData} (h : d.depth = 0 ∧ d.canLay0 = true) : (PyData.tuple [.str "BadWorks", d]).depth ≤ 4 ∧ (PyData.tuple [.str "BadWorks", d]).canLay0 = true := by
  have w : (PyData.str "BadWorks").canLay0 = true := by decide +kernel
  refine ⟨?_, ?_⟩
  · simp only [PyData.depth, PyData.depthAll, h.1]
    omega
  · show (PyData.canLay0 (.str "BadWorks") && (PyData.canLay0 d && true)) = true
    rw [w, h.2] <;> rfl
theorem sent_dl (m : Int) (R : Rules) (h k f : Int) : (PyData.tuple [.str "told", .tuple (sentD m R h k f)]).depth ≤ 4 ∧ (PyData.tuple [.str "told", .tuple (sentD m R h k f)]).canLay0 = true := by
  have w : (PyData.str "told").canLay0 = true := by decide +kernel
  have q := sentD_dl m R h k f
  refine ⟨?_, ?_⟩
  · simp only [PyData.depth, PyData.depthAll]
    omega
  · show (PyData.canLay0 (.str "told") && (PyData.canLayAll0 (sentD m R h k f) && true)) = true
    rw [w, q.2] <;> rfl
theorem lst_new {h l p : Addr} {H : Hp} {xs : List V} (ho : HandOk H h l) (n : H p = none) (r : RA (Nh h) H xs) : RV (Nh h) (upd H p (.lst xs)) (.ref p) := .lst upd_same (ho.ne n) (r.to (Kp.new n))
theorem badW_ne {d1 d2 : PyData} {e : V} (eb : badW d1 d2 = some e) : decide (e = V.non) = false := by
  refine decide_eq_false fun z => ?_
  rw [z] at eb
  unfold badW at eb
  by_cases c : within d1 1 6 = false
  · rw [if_pos c] at eb; cases eb
  rw [if_neg c] at eb
  cases d2 with
  | tuple ds =>
    simp only at eb
    by_cases c2 : ds.length = 0 ∨ 6 < ds.length
    · rw [if_pos c2] at eb; cases eb
    rw [if_neg c2] at eb
    obtain ⟨i, _, hi⟩ := Option.map_eq_some_iff.mp eb
    cases hi
  | bool b => cases eb
  | int b => cases eb
  | none => cases eb
  | str x => cases eb
  | list x => cases eb
  | dict x => cases eb
section
variable {P : Program} {w : World} {K : PySem.W.Frag} {mg : Str → Option Value} {base : Heap} {C CB CH CT : Addr}
set_option maxHeartbeats 16000000 in
theorem d_law {f0 : Addr} {fd0 : FuncData} (B : Bi mg) (F : Fun K "law" "law" s_law f0 fd0) (T : WorksC K mg C)
    (D_law_hand : Has P w K mg base 1 "_law_hand" ["script"] (spHand K)) (D_law_take : Has P w K mg base 1 "_law_take" ["hand", "many"] spTake) (D_law_pick : Has P w K mg base 2 "_law_pick" ["hand", "things"] spPick)
    (D_law_is_within : Has P w K mg base 2 "_law_is_within" ["thing", "least", "most"] spWithin) (D_law_same : Has P w K mg base 6 "_law_same" ["actual", "due"] (spSame 4)) (D_law_odd : Has P w K mg base 2 "_law_odd" ["hand"] spOdd)
    (D_Works : HasCX P w K mg base 5 "Works" C ["self", "many", "rules"] (spWInit C CB)) (D_Works_eq : HasM P w K mg base 1 C "__eq__" ["self", "other"] (spWEq C)) (D_is_task : Has P w K mg base 3 "is_task" ["works", "thing"] (spIsTask C))
    (D_law_some_works : Has P w K mg base 3 "_law_some_works" ["hand"] spSome) (D_law_spoilt : Has P w K mg base 3 "_law_spoilt" ["hand", "many", "rules"] spSpoilt) (D_law_bad_works : Has P w K mg base 4 "_law_bad_works" ["many", "rules"] spBad)
    (D_law_is_task : Has P w K mg base 3 "_law_is_task" ["rules", "thing"] spLawIsTask) (D_law_sent : Has P w K mg base 1 "_law_sent" ["many", "rules", "house", "task"] spLawSent) (D_law_task : Has P w K mg base 2 "_law_task" ["hand", "rules", "most"] spLawTask)
    (D_law_made : Has P w K mg base 7 "_law_made" ["many", "rules"] spMade) (D_law_sent_told : Has P w K mg base 6 "_law_sent_told" ["works", "house", "task"] (spSentTold C)) : FnOk P w K mg base CX0 8 f0 fd0 ["script"] (spLaw K) := by
  refine F.ok sc_law (fun vs H Q E h => ?_) fun cdv A outer s H vs Q E hr h => ?_
  · obtain ⟨a, ns, rfl, _⟩ := h
    rfl
  obtain ⟨a, ns, rfl, hS, hlen, kQ⟩ := h
  refine ⟨_, (pss_cons (ps_set (i := 1) sc_law.nd rfl (Or.inl rfl) (pe_h D_law_hand (hr.mono (by decide)) rfl (pa_cons (pv 0) pa_nil)))
    (pss_cons (ps_asg (pe_h D_law_some_works (hr.mono (by decide)) rfl (pa_cons (pv 1) pa_nil)) (pg_tup rfl (pgs_cons (pg_name (i := 2) sc_law.nd rfl (Or.inl rfl)) (pgs_cons (pg_name (i := 3) sc_law.nd rfl (Or.inl rfl)) pgs_nil))))
    (pss_cons (ps_set (i := 4) sc_law.nd rfl (Or.inl rfl) (pe_cX0 D_Works (hr.mono (by decide)) rfl (pa_cons (pv 2) (pa_cons (pv 3) pa_nil))))
    (pss_cons (ps_for PassesOwn.never rfl (pi_range1 rfl B.range (pa_cons pe_int pa_nil)) (pg_name (i := 5) sc_law.nd rfl (Or.inl rfl))
    (pss_cons (ps_set (i := 6) sc_law.nd rfl (Or.inl rfl) (pe_h D_law_spoilt (hr.mono (by decide)) rfl (pa_cons (pv 1) (pa_cons (pv 2) (pa_cons (pv 3) pa_nil)))))
    (pss_cons (ps_set (i := 7) sc_law.nd rfl (Or.inl rfl) (pe_h D_law_bad_works (hr.mono (by decide)) rfl (pa_cons (pe_ix ix_tup (pv 6) pe_int (fun _ _ => rfl)) (pa_cons (pe_ix ix_tup (pv 6) pe_int (fun _ _ => rfl)) pa_nil))))
    (pss_cons (ps_set (i := 8) sc_law.nd rfl (Or.inl rfl) (pe_tup (pa_cons pe_str (pa_cons (pv 7) pa_nil))))
    (C8.pss_cut (ps_if (pt_cmp (pc_isN (pv 7)))
    (pss_one (ps_set (i := 8) sc_law.nd rfl (Or.inl rfl) (pe_tup (pa_cons pe_str (pa_cons (pe_ix ix_tup (pv 6) pe_int (fun _ _ => rfl)) (pa_cons (pe_ix ix_tup (pv 6) pe_int (fun _ _ => rfl)) pa_nil))))))
    pss_nil)
    (pss_cons (ps_if (pt_not (pt_val (pe_h D_law_same (hr.mono (by decide)) rfl (pa_cons (pe_h D_law_made (hr.mono (by decide)) rfl (pa_cons (pe_ix ix_tup (pv 6) pe_int (fun _ _ => rfl)) (pa_cons (pe_ix ix_tup (pv 6) pe_int (fun _ _ => rfl)) pa_nil))) (pa_cons (pv 8) pa_nil)))))
    (pss_one (ps_ret pe_bl))
    pss_nil)
    (pss_one (ps_if (PW.pt (pw_and (pt_cmp (pc_isN (pv 7))) (pw_and1 (pt_cmpR op_ne (pe_cmpR (op_own D_Works_eq (hr.mono (by decide))) (pe_cX0 D_Works (hr.mono (by decide)) rfl (pa_cons (pe_ix ix_tup (pv 6) pe_int (fun _ _ => rfl)) (pa_cons (pe_ix ix_tup (pv 6) pe_int (fun _ _ => rfl)) pa_nil))) (pv 4) (nomark _)) (pe_cmpR (op_eqD hr.units) (pv 6) (pe_tup (pa_cons (pv 2) (pa_cons (pv 3) pa_nil))) (nomark _)) (nomark _)))))
    (pss_one (ps_ret pe_bl))
    pss_nil))))))))
    (pss_cons (ps_for PassesOwn.never rfl (pi_range1 rfl B.range (pa_cons pe_int pa_nil)) (pg_name (i := 5) sc_law.nd rfl (Or.inl rfl))
    (pss_cons (ps_set (i := 9) sc_law.nd rfl (Or.inl rfl) (pe_h D_law_pick (hr.mono (by decide)) rfl (pa_cons (pv 1) (pa_cons (pe_lst (pa_cons (pe_h D_law_take (hr.mono (by decide)) rfl (pa_cons (pv 1) (pa_cons (pv 2) pa_nil))) (pa_cons (pe_h D_law_take (hr.mono (by decide)) rfl (pa_cons (pv 1) (pa_cons (pv 2) pa_nil))) (pa_cons (pv 2) (pa_cons (pe_un un_neg pe_int) (pa_cons pe_bl (pa_cons (pe_h D_law_odd (hr.mono (by decide)) rfl (pa_cons (pv 1) pa_nil)) pa_nil))))))) pa_nil))))
    (pss_cons (ps_set (i := 10) sc_law.nd rfl (Or.inl rfl) (pe_h D_law_pick (hr.mono (by decide)) rfl (pa_cons (pv 1) (pa_cons (pe_lst (pa_cons (pe_h D_law_task (hr.mono (by decide)) rfl (pa_cons (pv 1) (pa_cons (pv 3) (pa_cons pe_int pa_nil)))) (pa_cons (pe_h D_law_task (hr.mono (by decide)) rfl (pa_cons (pv 1) (pa_cons (pv 3) (pa_cons pe_int pa_nil)))) (pa_cons (pe_tup (pa_cons (pe_callB call_len_seq rfl B.len PySem.boot_len (pa_cons (pv 3) pa_nil)) (pa_cons pe_int pa_nil))) (pa_cons (pe_tup (pa_cons pe_int (pa_cons pe_int pa_nil))) (pa_cons (pe_lst (pa_cons pe_int (pa_cons pe_int pa_nil))) (pa_cons (pe_h D_law_odd (hr.mono (by decide)) rfl (pa_cons (pv 1) pa_nil)) pa_nil))))))) pa_nil))))
    (pss_cons (ps_if (pt_not (pt_val (pe_h D_law_same (hr.mono (by decide)) rfl (pa_cons (pe_h D_is_task (hr.mono (by decide)) rfl (pa_cons (pv 4) (pa_cons (pv 10) pa_nil))) (pa_cons (pe_h D_law_is_task (hr.mono (by decide)) rfl (pa_cons (pv 3) (pa_cons (pv 10) pa_nil))) pa_nil)))))
    (pss_one (ps_ret pe_bl))
    pss_nil)
    (pss_cons (ps_set (i := 8) sc_law.nd rfl (Or.inl rfl) (pe_tup (pa_cons pe_str pa_nil)))
    (C8.pss_cut (ps_if (pt_val (pe_h D_law_is_within (hr.mono (by decide)) rfl (pa_cons (pv 9) (pa_cons pe_int (pa_cons (pe_op op_sub (pv 2) pe_int) pa_nil)))))
    (pss_cons (ps_set (i := 8) sc_law.nd rfl (Or.inl rfl) (pe_tup (pa_cons pe_str pa_nil)))
    (pss_one (ps_if (pt_val (pe_h D_law_is_task (hr.mono (by decide)) rfl (pa_cons (pv 3) (pa_cons (pv 10) pa_nil))))
    (pss_one (ps_set (i := 8) sc_law.nd rfl (Or.inl rfl) (pe_tup (pa_cons pe_str (pa_cons (pe_callTy call_tuple_of rfl B.tuple (by decide +kernel) (pa_cons (pe_h D_law_sent (hr.mono (by decide)) rfl (pa_cons (pv 2) (pa_cons (pv 3) (pa_cons (pv 9) (pa_cons (pv 10) pa_nil))))) pa_nil)) pa_nil)))))
    pss_nil)))
    pss_nil)
    (pss_one (ps_if (pt_not (pt_val (pe_h D_law_same (hr.mono (by decide)) rfl (pa_cons (pe_h D_law_sent_told (hr.mono (by decide)) rfl (pa_cons (pv 4) (pa_cons (pv 9) (pa_cons (pv 10) pa_nil)))) (pa_cons (pv 8) pa_nil)))))
    (pss_one (ps_ret pe_bl))
    pss_nil))))))))
    (pss_one (ps_ret (pe_and (pe_cmpR (op_own D_Works_eq (hr.mono (by decide))) (pv 4) (pe_cX0 D_Works (hr.mono (by decide)) rfl (pa_cons (pv 2) (pa_cons (pv 3) pa_nil))) (nomark _)) (pe_and (pe_not (pe_cmpR (op_own D_Works_eq (hr.mono (by decide))) (pv 4) (pe_tup (pa_cons (pv 2) (pa_cons (pv 3) pa_nil))) (nomark _))) (pe_one (pe_h D_law_same (hr.mono (by decide)) rfl (pa_cons (pe_fld (pv 4) rfl) (pa_cons (pv 3) pa_nil))))))))))))), ?_⟩
  refine ⟨_, rfl, a, ns, rfl, hS, by omega, fun h l H1 nh nl s1 ho1 => ?_⟩
  refine ⟨_, rfl, h, l, rfl, ho1, fun m R T1 r H2 ho2 k2 rR ok eT nTh => ?_⟩
  refine ⟨_, _, rfl, SqT.of eT, rfl, _, _, rfl, _, _, rfl, rfl, ?_⟩
  have b0 := badW_ok ok
  refine ⟨_, rfl, _, rfl, fun x dx nx nd ne => ?_⟩
  have sx := ins_new (C := C) nx nd ne
  refine ⟨Nh h, x, dx, _, _, .int m, rulesD R, rfl, upd_same, .int m, rR.to (Kp.of_same sx), fun e eb => ?_, fun _ H3 eH kH => ⟨rfl, ?_⟩⟩
  · rw [b0] at eb
    cases eb
  have s3 := same_kp sx nx kH
  have St : S1 C H3 h l x r m R := ⟨ho2.same s3, ⟨dx, eH⟩, ho2.ne nx, rR.to (Kp.of_same s3), ok⟩
  refine ⟨2, rfl, by decide, by decide, for_range (lo := 0) (n := 2) (fun i σ H => ∃ v5 v6 v7 v8, σ = [some (.ref a), some (.ref h), some (.int m), some (.ref r), some (.ref x), v5, v6, v7, v8, none, none] ∧ S1 C H h l x r m R) ⟨none, none, none, none, rfl, St⟩ ?_ ?_⟩
  · rintro i σ H4 hi ⟨v5, v6, v7, v8, rfl, S⟩
    refine ⟨_, rfl, _, rfl, _, rfl, h, l, r, m, R, rfl, S.ho, S.rr, S.ok, fun T v1 v2 H5 ho5 k5 rv1 rv2 eT nT => ?_⟩
    have S5 := S.kp ho5 k5
    obtain ⟨d1, r1⟩ := rv1
    obtain ⟨d2, r2⟩ := rv2
    refine ⟨_, rfl, _, _, _, _, rfl, rfl, SqT.of eT, rfl, _, rfl, _, _, _, _, rfl, rfl, SqT.of eT, rfl, Nh h, v1, v2, d1, d2, rfl, r1, r2, ?_⟩
    refine ⟨_, rfl, (by show 2 ≤ sizeLine; decide), fun p1 n1 => ?_⟩
    have sp1 := same_new (o := .tup [.str "BadWorks", (badW d1 d2).getD .non]) n1
    refine ⟨fun σ H' => ∃ D, σ = [some (.ref a), some (.ref h), some (.int m), some (.ref r), some (.ref x), some (.int (0 + (i : Int))), some (.ref T), some ((badW d1 d2).getD .non), some (.ref D), none, none] ∧ Same H5 H' ∧
      ((∃ e, badW d1 d2 = some e ∧ H' D = some (.tup [.str "BadWorks", e])) ∨ (badW d1 d2 = none ∧ H' D = some (.tup [.str "told", v1, v2]))), ?_, ?_⟩
    · refine ⟨_, rfl, _, rfl, ?_⟩
      cases eb : badW d1 d2 with
      | some e =>
        have ne := badW_ne eb
        rw [eb] at sp1
        refine ifF ne ?_
        exact ⟨p1, rfl, sp1, .inl ⟨e, rfl, upd_same⟩⟩
      | none =>
        rw [eb] at sp1
        refine ifT rfl ?_
        refine ⟨_, rfl, _, _, _, _, rfl, rfl, SqT.of (sp1 _ _ eT), rfl, _, rfl, _, _, _, _, rfl, rfl, SqT.of (sp1 _ _ eT), rfl, (by show 3 ≤ sizeLine; decide), fun p2 n2 => ?_⟩
        exact ⟨p2, rfl, sp1.trans (same_new n2), .inr ⟨rfl, upd_same⟩⟩
    · rintro σ H6 ⟨D, rfl, s6, hD⟩
      refine ⟨_, rfl, _, _, _, _, rfl, rfl, SqT.of (s6 _ _ eT), rfl, _, rfl, _, _, _, _, rfl, rfl, SqT.of (s6 _ _ eT), rfl, Nh h, v1, v2, d1, d2, rfl, r1.to (Kp.of_same s6), r2.to (Kp.of_same s6), fun e eb T2 H7 s7 eT2 => ?_, fun eb T2 H7 s7 eT2 => ?_⟩
      · rcases hD with ⟨e', eb', hD⟩ | ⟨eb', _⟩
        · rw [eb] at eb'
          cases eb'
          obtain ⟨d, rd, hd⟩ := badW_flat eb
          have q := bad_dl hd
          refine ⟨_, rfl, NF, NF, _, _, _, rfl, .tup eT2 (fun z => z) (.cons (.str _) (.cons (rd _ _) .nil)), .tup (s7 _ _ hD) (fun z => z) (.cons (.str _) (.cons (rd _ _) .nil)), q.1, q.2, fun H8 s8 => ⟨_, rfl, ifF rfl ?_⟩⟩
          have S8 := S5.same ((s6.trans s7).trans s8)
          refine ⟨_, rfl, _, rfl, ?_⟩
          rw [eb]
          exact ifF (badW_ne eb) ⟨_, _, _, _, rfl, S8⟩
        · rw [eb] at eb'
          cases eb'
      · rcases hD with ⟨e', eb', hD⟩ | ⟨_, hD⟩
        · rw [eb] at eb'
          cases eb'
        · have q := told_dl eb
          have q1 := (r1.to (Kp.of_same (s6.trans s7))).nf
          have q2 := (r2.to (Kp.of_same (s6.trans s7))).nf
          refine ⟨_, rfl, NF, NF, _, _, _, rfl, .tup eT2 (fun z => z) (.cons (.str _) (.cons q1 (.cons q2 .nil))), .tup (s7 _ _ hD) (fun z => z) (.cons (.str _) (.cons q1 (.cons q2 .nil))), q.1, q.2, fun H8 s8 => ⟨_, rfl, ifF rfl ?_⟩⟩
          have s58 := (s6.trans s7).trans s8
          have S8 := S5.same s58
          refine ⟨_, rfl, _, rfl, ?_⟩
          rw [eb]
          refine ifT rfl ?_
          refine ⟨_, rfl, _, _, _, _, rfl, rfl, SqT.of (s58 _ _ eT), rfl, _, rfl, _, _, _, _, rfl, rfl, SqT.of (s58 _ _ eT), rfl, fun y dy ny nd' ne' => ?_⟩
          have sy := ins_new (C := C) ny nd' ne'
          have s59 := s58.trans sy
          have R1 := r1.to (Kp.of_same s59)
          have R2 := r2.to (Kp.of_same s59)
          refine ⟨Nh h, y, dy, _, _, d1, d2, rfl, upd_same, R1, R2, fun e eb' => (by rw [eb] at eb'; cases eb'), fun _ H9 eY kY => ⟨rfl, ?_⟩⟩
          have s9 := same_kp sy ny kY
          have S9 := S8.same s9
          obtain ⟨wx, ewx⟩ := S9.wk
          have s5A := s58.trans s9
          have R1' := r1.to (Kp.of_same s5A)
          have R2' := r2.to (Kp.of_same s5A)
          obtain ⟨e1, R', e2⟩ := badW_inv eb
          rw [e1] at R1' R1
          rw [e2] at R2' R2
          have ev1 : v1 = .int (num d1) := by cases R1; rfl
          refine ⟨_, rfl, y, dy, _, x, rfl, rfl, eY, .inl ⟨_, _, ewx⟩, ?_⟩
          refine ⟨y, x, _, _, rfl, ⟨_, eY⟩, .inr ⟨Nh h, .int m, .ref r, rulesD R', rulesD R, num d1, m, ⟨_, ewx⟩, ev1, rfl, R2', S9.rr, rulesD_sh R', rulesD_sh R, _, rfl, ?_⟩⟩
          refine ⟨_, rfl, _, rfl, _, rfl, (by show 2 ≤ sizeLine; decide), fun pp np => ?_⟩
          have sp := same_new (o := .tup [.int m, .ref r]) np
          have rT : Rp (Nh h) (upd H9 pp (.tup [.int m, .ref r])) (.ref T) (.tuple [.int (num d1), rulesD R']) := .tup (sp _ _ (s5A _ _ eT)) nT (.cons (R1'.to (Kp.of_same sp)) (.cons (R2'.to (Kp.of_same sp)) .nil))
          have rP : Rp NF (upd H9 pp (.tup [.int m, .ref r])) (.ref pp) (.tuple [.int m, rulesD R]) := .tup upd_same (fun z => z) (.cons (.int m) (.cons ((S9.rr.to (Kp.of_same sp)).nf) .nil))
          have sh1 : SeqAt.shaped (.tuple [.int (num d1), rulesD R']) = true := by
            have := pair_sh eb
            rw [e1, e2] at this
            exact this
          have sh2 := pair_sh b0
          refine ⟨_, _, rT.dp (lay_of sh1), rP.dp (lay_of sh2), sh1, sh2, ?_⟩
          have ee : PyData.eqv (.tuple [.int (num d1), rulesD R']) (.tuple [.int m, rulesD R]) = (decide (num d1 = m) && PyData.eqv (rulesD R') (rulesD R)) := by
            show ((num d1 == m) && (PyData.eqv (rulesD R') (rulesD R) && true)) = _
            rw [Bool.and_true]
            rfl
          rw [ee]
          refine ⟨rfl, _, rfl, ifF (by simp) ⟨_, _, _, _, rfl, S9.same sp⟩⟩
  · rintro σ H4 ⟨v5, v6, v7, v8, rfl, S4⟩
    refine ⟨5, rfl, by decide, by decide, for_range (lo := 0) (n := 5) (fun i σ H => ∃ v5 v6 v7 v8 v9 v10, σ = [some (.ref a), some (.ref h), some (.int m), some (.ref r), some (.ref x), v5, v6, v7, v8, v9, v10] ∧ S1 C H h l x r m R) ⟨_, _, _, _, _, _, rfl, S4⟩ ?_ ?_⟩
    · rintro i σ H5 hi ⟨v5, v6, v7, v8, v9, v10, rfl, S⟩
      have m1 := ok.m1
      have m6 := ok.m6
      have o1 := ok.r1
      have o6 := ok.r6
      -- a house
      refine ⟨_, rfl, _, rfl, _, rfl, h, l, m, rfl, S.ho, by omega, by omega, fun g1 H6 _ _ ho6 k6 => ?_⟩
      refine ⟨_, rfl, _, rfl, h, l, m, rfl, ho6, by omega, by omega, fun g2 H7 _ _ ho7 k7 => ?_⟩
      refine ⟨_, rfl, _, rfl, _, rfl, h, l, rfl, ho7, fun w1 e1 H8 _ rw1 ho8 k8 => ⟨(by show 6 ≤ sizeLine; decide), fun L nL => ?_⟩⟩
      refine pick_ok (E := E0) (ho8.new nL) upd_same (ho8.ne nL) ((RA.cons (.int g1) (.cons (.int g2) (.cons (.int m) (.cons (.int _) (.cons (.bl true) (.cons ⟨_, rw1⟩ .nil)))))).to (Kp.new nL)) (by show 0 < 6; decide) (by show 6 ≤ 100; decide) fun hv H9 ho9 k9 rhv => ?_
      have K9 : Kp (Nh h) H5 H9 := (((Kp.hand k6).trans (Kp.hand k7)).trans k8).trans ((Kp.new nL).trans k9)
      have S9 := S.kp ho9 K9
      obtain ⟨rs, er, lr, nrh⟩ := S9.rls
      -- a task
      refine ⟨_, rfl, _, rfl, _, rfl, h, l, r, rs, 12, rfl, ho9, er, by omega, by omega, by decide, by decide, fun T1 e2 HA hoA kA rT1 => ?_⟩
      refine ⟨_, rfl, _, rfl, h, l, r, rs, 3, rfl, hoA, kA _ _ er nrh, by omega, by omega, by decide, by decide, fun T2 e3 HB hoB kB rT2 => ?_⟩
      have SB := S9.kp hoB (kA.trans kB)
      have erB := kB _ _ (kA _ _ er nrh) nrh
      refine ⟨_, rfl, _, _, rfl, .inr (SqT.of erB), (by show 2 ≤ sizeLine; decide), fun p1 n1 => ?_⟩
      refine ⟨(by show 2 ≤ sizeLine; decide), fun p2 n2 => ⟨(by show 2 ≤ sizeLine; decide), fun p3 n3 => ?_⟩⟩
      have q1 := hoB.new (o := .tup [.int rs.length, .int 1]) n1
      have q2 := q1.new (o := .tup [.int 0, .int 13]) n2
      have q3 := q2.new (o := .lst [.int 0, .int 0]) n3
      have u3 : Kp (Nh h) _ (upd _ p3 (.lst [.int 0, .int 0])) := Kp.new n3
      have u2 := (Kp.new (N := Nh h) (o := .tup [.int 0, .int 13]) n2).trans u3
      have u1 := (Kp.new (N := Nh h) (o := .tup [.int rs.length, .int 1]) n1).trans u2
      have w1' : RV (Nh h) _ (.ref p1) := (TupAt.new hoB n1 (.cons (.int rs.length) (.cons (.int 1) .nil))).rv.to u2
      have w2' : RV (Nh h) _ (.ref p2) := (TupAt.new q1 n2 (.cons (.int 0) (.cons (.int 13) .nil))).rv.to u3
      have w3' : RV (Nh h) _ (.ref p3) := lst_new q2 n3 (.cons (.int 0) (.cons (.int 0) .nil))
      refine ⟨_, rfl, h, l, rfl, q3, fun w2 e4 HC _ rw2 hoC kC => ⟨(by show 6 ≤ sizeLine; decide), fun L2 nL2 => ?_⟩⟩
      have rM : RA (Nh h) HC [.ref T1, .ref T2, .ref p1, .ref p2, .ref p3, w2] :=
        .cons (RV.to ⟨_, rT1⟩ ((kB.trans u1).trans kC)) (.cons (RV.to ⟨_, rT2⟩ (u1.trans kC)) (.cons (w1'.to kC) (.cons (w2'.to kC) (.cons (w3'.to kC) (.cons ⟨_, rw2⟩ .nil)))))
      refine pick_ok (E := E0) (hoC.new nL2) upd_same (hoC.ne nL2) (rM.to (Kp.new nL2)) (by show 0 < 6; decide) (by show 6 ≤ 100; decide) fun tv HD hoD kD rtv => ?_
      have KD : Kp (Nh h) H9 HD := ((((kA.trans kB).trans u1).trans kC).trans (Kp.new nL2)).trans kD
      have SD := S9.kp hoD KD
      obtain ⟨dh, rh⟩ := rhv.to KD
      obtain ⟨dt, rt⟩ := rtv
      have erD := KD _ _ er nrh
      -- is it a task
      refine ⟨_, rfl, _, rfl, Nh h, x, r, _, tv, rs, dt, rfl, SD.wk, erD, rt, _, rfl, _, rfl, Nh h, r, rs, tv, dt, rfl, erD, rt, NF, NF, _, _, .bool _, rfl, .bl _, .bl _, Nat.zero_le _, rfl, fun HE sE => ⟨_, rfl, ifF rfl ?_⟩⟩
      have SE := SD.same sE
      have rhE := rh.to (Kp.of_same sE)
      have rtE := rt.to (Kp.of_same sE)
      have erE := sE _ _ erD
      refine ⟨(by show 1 ≤ sizeLine; decide), fun p4 n4 => ?_⟩
      have s4 := same_new (o := .tup [.str "NoHouse"]) n4
      refine ⟨fun σ H' => ∃ D dd, σ = [some (.ref a), some (.ref h), some (.int m), some (.ref r), some (.ref x), some (.int (0 + (i : Int))), v6, v7, some (.ref D), some hv, some tv] ∧ Same HE H' ∧ Rp NF H' (.ref D) dd ∧ dd.depth ≤ 4 ∧ dd.canLay0 = true ∧
        (below m dh = false → dd = .tuple [.str "NoHouse"]) ∧ (below m dh = true → isPair R.length 13 dt = false → dd = .tuple [.str "NoTask"]) ∧
        (∀ h k f, dh = .int h → dt = .tuple [.int k, .int f] → below m dh = true → isPair R.length 13 dt = true → dd = .tuple [.str "told", .tuple (sentD m R h k f)]), ?_, ?_⟩
      · refine ⟨_, rfl, _, rfl, _, _, rfl, rfl, Nh h, hv, dh, 0, _, rfl, rhE.to (Kp.of_same s4), _, rfl, ?_⟩
        rw [below_with]
        have e4 := s4 _ _ erE
        cases eb : below m dh with
        | false =>
          refine ifF rfl ?_
          exact ⟨p4, _, rfl, s4, .tup upd_same (fun z => z) (.cons (.str _) .nil), by decide, by decide +kernel, fun _ => rfl, (fun z => by cases z), fun _ _ _ _ _ z => by cases z⟩
        | true =>
          refine ifT rfl ?_
          refine ⟨(by show 1 ≤ sizeLine; decide), fun p5 n5 => ?_⟩
          have s5 := s4.trans (same_new (o := .tup [.str "NoTask"]) n5)
          refine ⟨_, rfl, _, rfl, Nh h, r, rs, tv, dt, rfl, s5 _ _ erE, rtE.to (Kp.of_same s5), _, rfl, ?_⟩
          rw [lr]
          cases ep : isPair R.length 13 dt with
          | false =>
            refine ifF rfl ?_
            exact ⟨p5, _, rfl, s5, .tup upd_same (fun z => z) (.cons (.str _) .nil), by decide, by decide +kernel, (fun z => by cases z), fun _ _ => rfl, fun _ _ _ _ _ _ z => by cases z⟩
          | true =>
            refine ifT rfl ?_
            obtain ⟨hh, rfl, h0, h1⟩ := below_inv eb
            obtain ⟨kk, ff, rfl, k0, k1, f0', f1'⟩ := isPair_inv ep
            have ehv : hv = .int hh := by cases rh; rfl
            subst ehv
            have rt5 := rtE.to (Kp.of_same s5)
            obtain ⟨t, etv, ett⟩ : ∃ t, tv = .ref t ∧ upd (upd HE p4 (.tup [.str "NoHouse"])) p5 (.tup [.str "NoTask"]) t = some (.tup [.int kk, .int ff]) := by
              cases rt5 with
              | tup et' nt' rt' =>
              cases rt' with
              | cons rk rt' =>
              cases rt' with
              | cons rf rt' =>
              cases rt'
              cases rk
              cases rf
              exact ⟨_, rfl, et'⟩
            subst etv
            refine ⟨_, rfl, _, rfl, _, rfl, _, rfl, Nh h, r, t, m, hh, kk, ff, R, rfl, by omega, (SE.same s5).rr, SE.le, ett, k0, k1, f0', fun L acc HL _ sL eL rA => ?_⟩
            refine ⟨L, acc, rfl, .inl ⟨SqL.of eL, fun p6 n6 => ⟨(by show 2 ≤ sizeLine; decide), fun p7 n7 => ?_⟩⟩⟩
            have s6 := same_new (o := .tup acc) n6
            have s7 := same_new (o := .tup [.str "told", .ref p6]) n7
            have q := sent_dl m R hh kk ff
            refine ⟨p7, _, rfl, (s5.trans sL).trans (s6.trans s7), .tup upd_same (fun z => z) (.cons (.str _) (.cons (.tup (s7 _ _ upd_same) (fun z => z) ((rA.to (Kp.of_same (s6.trans s7))).kp (N' := NF) Kp.refl fun _ _ _ _ z => z)) .nil)), q.1, q.2, (fun z => by cases z), (fun _ z => by cases z), fun h' k' f' e1 e2 _ _ => ?_⟩
            cases e1
            cases e2
            rfl
      · rintro σ HF ⟨D, dd, rfl, sF, rD, dl, dc, c1, c2, c3⟩
        have SF := SE.same sF
        refine ⟨_, rfl, _, rfl, _, rfl, Nh h, x, r, m, R, hv, tv, dh, dt, rfl, SF.wk, by omega, SF.rr, SF.le, rhE.to (Kp.of_same sF), rtE.to (Kp.of_same sF), fun e T HG sG rT => ?_, fun e e2 T HG sG rT => ?_, fun h' k' f' e3 e4 e e2 T HG sG rT => ?_⟩
        · rw [← c1 e] at rT
          exact ⟨_, rfl, NF, NF, _, _, dd, rfl, rT, rD.to (Kp.of_same sG), dl, dc, fun HI sI => ⟨_, rfl, ifF rfl ⟨_, _, _, _, _, _, rfl, SF.same (sG.trans sI)⟩⟩⟩
        · rw [← c2 e e2] at rT
          exact ⟨_, rfl, NF, NF, _, _, dd, rfl, rT, rD.to (Kp.of_same sG), dl, dc, fun HI sI => ⟨_, rfl, ifF rfl ⟨_, _, _, _, _, _, rfl, SF.same (sG.trans sI)⟩⟩⟩
        · rw [← c3 h' k' f' e3 e4 e e2] at rT
          exact ⟨_, rfl, NF, NF, _, _, dd, rfl, rT, rD.to (Kp.of_same sG), dl, dc, fun HI sI => ⟨_, rfl, ifF rfl ⟨_, _, _, _, _, _, rfl, SF.same (sG.trans sI)⟩⟩⟩
    · rintro σ H5 ⟨v5, v6, v7, v8, v9, v10, rfl, S⟩
      refine ⟨_, rfl, _, rfl, _, rfl, fun y dy ny nd' ne' => ?_⟩
      have sy := ins_new (C := C) ny nd' ne'
      refine ⟨Nh h, y, dy, _, _, .int m, rulesD R, rfl, upd_same, .int m, S.rr.to (Kp.of_same sy), fun e eb' => (by rw [b0] at eb'; cases eb'), fun _ H9 eY kY => ⟨rfl, ?_⟩⟩
      have s9 := same_kp sy ny kY
      have S9 := S.same s9
      obtain ⟨wx, ewx⟩ := id S9.wk
      refine ⟨x, _, _, y, rfl, rfl, ewx, .inl ⟨_, _, eY⟩, ?_⟩
      refine ⟨x, y, _, _, rfl, S9.wk, .inr ⟨Nh h, .int m, .ref r, rulesD R, rulesD R, m, m, ⟨_, eY⟩, rfl, rfl, S9.rr, S9.rr, rulesD_sh R, rulesD_sh R, _, rfl, ?_⟩⟩
      refine ⟨_, rfl, ifT (by rw [SeqAt.eqv_refl _ (rulesD_dl R).2]; simp) ?_⟩
      refine ⟨_, rfl, _, rfl, _, rfl, (by show 2 ≤ sizeLine; decide), fun pp np => ?_⟩
      have sp := same_new (o := .tup [.int m, .ref r]) np
      have SA := S9.same sp
      refine ⟨x, _, _, pp, rfl, rfl, sp _ _ ewx, .inr ⟨⟨_, SqT.of upd_same⟩, T.nf⟩, x, pp, _, _, rfl, SA.wk, .inl ⟨⟨_, upd_same⟩, _, rfl, _, rfl, _, rfl, ifT rfl ?_⟩⟩
      refine ⟨_, rfl, x, C, _, _, _, rfl, sp _ _ ewx, T.cl, T.n2, wF_r, _, rfl, Nh h, Nh h, _, _, rulesD R, rfl, SA.rr, SA.rr, by have := (rulesD_dl R).1; omega, (rulesD_dl R).2, fun H' _ => kQ H'⟩
end
end KQ
set_option Elab.async false
set_option maxRecDepth 100000
set_option maxHeartbeats 4000000
namespace KQ
open PySem PySem.Spec PyProof.Rows L2
/-- the error's __init__ that keeps its one field -/
theorem err_init {P : Program} {w : World} {K : PySem.W.Frag} {mg : Str → Option Value} {base : Heap} {C f : Addr} {fd : FuncData} (F : Fun K "__init__" "BadWorks.__init__" s_BadWorks___init__ f fd) (T : OexC K C) (no : PySem.W.findIn K (.ref C) "part" = some none) :
    FnOk P w K mg base CX0 1 f fd ["self", "part"] (spErrInit C "part") := by
  refine F.ok sc_BadWorks___init__ (fun vs H Q E h => ?_) fun cdv A outer s H vs Q E hr h => ?_
  · obtain ⟨a, v, rfl, _⟩ := h
    rfl
  obtain ⟨a, v, rfl, ha, k⟩ := h
  refine ⟨_, (pss_one (ps_ost (pv 0) (pv 1))), ?_⟩
  exact ⟨_, rfl, _, rfl, a, C, rfl, T, no, .inl ⟨ha, fun dx hd ne => k dx hd ne⟩⟩
theorem oex_of {K : PySem.W.Frag} {C : Addr} {o : Obj} (l : K.lookup C = some o) (e : ∃ nm q N bs bm sn sub ab col dd k0 k1 k2 k3 k5, o = excClassObj nm q C N bs bm true sn sub ab col dd k0 k1 k2 k3 k5 "ValueError.__new__" ∧ PySem.HandSPX.refsVE bm = true) (sa : PySem.W.findIn K (.ref C) "__setattr__" = some (some (.builtin "object.__setattr__")))
    (exC : PySem.W.subIn K (.ref C) (.type "BaseException") = some true) (tyC : PySem.W.typeIn K (.ref C) = some (.type "type")) (kC : PySem.W.keepIn K (.ref C) = true) : OexC K C := by
  obtain ⟨nm, q, N, bs, bm, sn, sub, ab, col, dd, k0, k1, k2, k3, k5, e, r⟩ := e
  exact ⟨⟨nm, q, N, bs, bm, sn, sub, ab, col, dd, k0, k1, k2, k3, k5, by rw [l, e], r⟩, sa, exC, tyC, kC⟩
theorem err_at {P : Program} {w : World} {K : PySem.W.Frag} {mg : Str → Option Value} {base h : Heap} {C f : Addr} {oc : Value} {od an : Option Addr} {kV doc pm cdv ct : Value} {sl : Array (Option Value)} (X : K.In h) (G : h.Ns mainGlobals mg)
    (a : PySem.W.nsIn K mainGlobals "BadWorks" = some (some (.ref C))) (T : OexC K C) (U : XfC K C) (no : PySem.W.findIn K (.ref C) "part" = some none) (own : PySem.W.subIn K (.ref C) (.ref C) = some true) (isC : PySem.W.isClsIn K C = true)
    (iC : PySem.W.findIn K (.ref C) "__init__" = some (some (.ref f))) (tI : PySem.W.typeIn K (.ref f) = some (.type "function"))
    (l : K.lookup f = some ⟨oc, od, .func (PySem.W.fnOf "__init__" "BadWorks.__init__" (defArgs s_BadWorks___init__) (defBody s_BadWorks___init__) (defScope s_BadWorks___init__) .none kV doc pm an cdv ct), sl⟩)
    (c : PySem.W.codeIn K cdv "BadWorks.__init__" = true) (k : PySem.W.keepIn K (.ref f) = true) : ErrAt P w K mg base "BadWorks" C "part" := by
  have F := fun_mk l c k
  refine ⟨PySem.W.mg_of X G a, T, U, no, ?_, f, _, iC, tI, err_init F T no, F.binds fun _ _ _ _ _ _ us hl => match us, hl with | [_, _], _ => rfl⟩
  unfold PySem.W.exmOne
  have e1 : (PySem.W.clsIn K C).isSome = true := isC
  simp [T.exC, PySem.W.kitCls, own, T.tyC, e1]
theorem works_of {K : PySem.W.Frag} {mg : Str → Option Value} {C : Addr} (g : mg "Works" = some (.ref C)) (cl : Cls K C) (n1 : NoAttr K C "many") (n2 : NoAttr K C "rules") (ha : PySem.W.findIn K (.ref C) "__class__" = some (some (.builtin "object.__class__")))
    (hn : PySem.W.specialIn K (.builtin "object.__class__") "__get__" = some (some (.builtin "getset_descriptor.__get__"))) (htk : PySem.W.takesIn K (.builtin "object.__class__") = some true) (hm : PySem.W.mroIn K C (.type "object") = some true)
    (isC : PySem.W.isClsIn K C = true) (tyC : PySem.W.typeIn K (.ref C) = some (.type "type")) (s0 : PySem.W.subIn K (.type "tuple") (.ref C) = some false) : WorksC K mg C := by
  have e1 : (PySem.W.clsIn K C).isSome = true := isC
  refine ⟨g, cl, n1, n2, ha, hn, htk, hm, by simp [PySem.W.kitOne], ?_, by simp [PySem.W.notFirst, s0]⟩
  unfold PySem.W.kitOne PySem.W.kitCls
  simp [e1, tyC, s0]
theorem exm_no {K : PySem.W.Frag} {mg : Str → Option Value} {x : Str} {A B : Addr} (TA : ExcAt K mg x A) (n : PySem.W.subIn K (.ref B) (.ref A) = some false) : PySem.W.exmOne K (.ref B) (.ref A) = some false := by
  unfold PySem.W.exmOne
  have e1 : (PySem.W.clsIn K A).isSome = true := TA.isC
  simp [TA.sub, PySem.W.kitCls, n, TA.ty, e1]
theorem fin {P : Program} {w : World} {K : PySem.W.Frag} {mg : Str → Option Value} {h : Heap} {fa : Addr} {C CB CH CT : Addr} {t1 t2 t3 t4 : Tok} (X : K.In h) (G : h.Ns mainGlobals mg) (hfa : mg "law" = some (.ref fa)) (B : Bi mg)
    (xB : ∀ base : Heap, ErrAt P w K mg base "BadWorks" CB "part") (xH : ExcAt K mg "NoHouse" CH) (xT : ExcAt K mg "NoTask" CT) (hno : PySem.W.subIn K (.ref CT) (.ref CH) = some false) (T : WorksC K mg C)
    (g1 : PySem.W.nsIn K mainGlobals "MOST_HOUSES" = some (some (.int 6 t1))) (g2 : PySem.W.nsIn K mainGlobals "MOST_KINDS" = some (some (.int 6 t2))) (g3 : PySem.W.nsIn K mainGlobals "MOST_PAIRS" = some (some (.int 4 t3))) (g4 : PySem.W.nsIn K mainGlobals "MOST_FUEL" = some (some (.int 12 t4)))
    (F1 : FunAt K mg "is_number" s_is_number) (F2 : FunAt K mg "is_below" s_is_below) (F3 : FunAt K mg "is_tuple_of" s_is_tuple_of) (F4 : FunAt K mg "is_rule_pair" s_is_rule_pair) (F5 : FunAt K mg "is_rule" s_is_rule)
    (I0 : InitAt K mg "Works" C "Works.__init__" s_Works___init__) (I1 : MethAt K C "__eq__" "Works.__eq__" s_Works___eq__)
    (F6 : FunAt K mg "is_house" s_is_house) (F7 : FunAt K mg "is_task" s_is_task) (F8 : FunAt K mg "check_house" s_check_house) (F9 : FunAt K mg "check_task" s_check_task) (F10 : FunAt K mg "sent_by" s_sent_by)
    (L1 : FunAt K mg "_law_hand" s_law_hand) (L2 : FunAt K mg "_law_take" s_law_take) (L3 : FunAt K mg "_law_pick" s_law_pick) (L4 : FunAt K mg "_law_is_integer" s_law_is_integer) (L5 : FunAt K mg "_law_is_within" s_law_is_within) (L6 : FunAt K mg "_law_same" s_law_same) (L7 : FunAt K mg "_law_odd" s_law_odd)
    (M1 : FunAt K mg "_law_rules" s_law_rules) (M2 : FunAt K mg "_law_some_works" s_law_some_works) (M3 : FunAt K mg "_law_is_rule" s_law_is_rule) (M4 : FunAt K mg "_law_bad_works" s_law_bad_works) (M5 : FunAt K mg "_law_is_task" s_law_is_task) (M6 : FunAt K mg "_law_sent" s_law_sent) (M7 : FunAt K mg "_law_task" s_law_task)
    (M8 : FunAt K mg "_law_spoilt" s_law_spoilt) (M9 : FunAt K mg "_law_made" s_law_made) (M10 : FunAt K mg "_law_sent_told" s_law_sent_told) (M11 : FunAt K mg "law" s_law) :
    ∃ fd : FuncData, (∀ (s : Shared) (u : Value), BindsTo s fd ⟨[u], []⟩ [("script", u)]) ∧ ∀ base : Heap, FnOk P w K mg base CX0 8 fa fd ["script"] (spLaw K) := by
  obtain ⟨f0, fd0, F0, m0⟩ := M11
  rw [hfa] at m0
  cases m0
  have h1 := PySem.W.mg_of X G g1
  have h2 := PySem.W.mg_of X G g2
  have h3 := PySem.W.mg_of X G g3
  have h4 := PySem.W.mg_of X G g4
  refine ⟨fd0, fun s u => ?_, fun base => ?_⟩
  · obtain ⟨oc, od, kV, doc, pm, an, cdv, ct, osl, rfl, _, _⟩ := F0.ex
    exact .of_eq rfl
  have D1 := d_law_hand (P := P) (w := w) (mg := mg) (base := base) B L1
  have D2 := d_law_take (P := P) (w := w) (mg := mg) (base := base) B L2
  have D3 := d_law_pick (P := P) (w := w) (mg := mg) (base := base) B L3 D2
  have D4 := d_law_is_integer (P := P) (w := w) (mg := mg) (base := base) B L4
  have D5 := d_law_is_within (P := P) (w := w) (mg := mg) (base := base) B L5 D4
  have D6 := d_law_same (P := P) (w := w) (mg := mg) (base := base) B L6 D4 4
  have D7 := d_law_odd (P := P) (w := w) (mg := mg) (base := base) L7 D2
  have E1 := d_is_number (P := P) (w := w) (mg := mg) (base := base) B F1
  have E2 := d_is_below (P := P) (w := w) (mg := mg) (base := base) F2 E1
  have E3 := d_is_tuple_of (P := P) (w := w) (mg := mg) (base := base) B F3
  have E4 := d_is_rule_pair (P := P) (w := w) (mg := mg) (base := base) F4 E3 E2
  have E5 := d_is_rule (P := P) (w := w) (mg := mg) (base := base) B F5 h3 E4
  have W0 := d_works_init (P := P) (w := w) (mg := mg) (base := base) B T I0 h1 h2 (xB base) E2 E5
  have W1 := d_works_eq (P := P) (w := w) (mg := mg) (base := base) B T I1
  have E6 := d_is_house (P := P) (w := w) (mg := mg) (base := base) T F6 E2
  have E7 := d_is_task (P := P) (w := w) (mg := mg) (base := base) B T F7 h4 E3 E2
  have E8 := d_check_house (P := P) (w := w) (mg := mg) (base := base) xH F8 E6
  have E9 := d_check_task (P := P) (w := w) (mg := mg) (base := base) xT F9 E7
  have E10 := d_sent_by (P := P) (w := w) (mg := mg) (base := base) B T F10 E8 E9
  have N1 := d_law_rules (P := P) (w := w) (mg := mg) (base := base) B M1 D2
  have N2 := d_law_some_works (P := P) (w := w) (mg := mg) (base := base) M2 D3 N1
  have N3 := d_law_is_rule (P := P) (w := w) (mg := mg) (base := base) B M3 D5
  have N4 := d_law_bad_works (P := P) (w := w) (mg := mg) (base := base) B M4 D5 N3
  have N5 := d_law_is_task (P := P) (w := w) (mg := mg) (base := base) B M5 D5
  have N6 := d_law_sent (P := P) (w := w) (mg := mg) (base := base) B M6
  have N7 := d_law_task (P := P) (w := w) (mg := mg) (base := base) B M7 D2
  have N8 := d_law_spoilt (P := P) (w := w) (mg := mg) (base := base) B M8 D2 D3 D7
  have N9 := d_law_made (P := P) (w := w) (mg := mg) (base := base) M9 T (xB base) W0
  have N10 := d_law_sent_told (P := P) (w := w) (mg := mg) (base := base) M10 xH xT (exm_no xH hno) E10
  exact d_law B F0 T D1 D2 D3 D5 D6 D7 W0 W1 E7 N2 N8 N4 N5 N6 N7 N9 N10
end KQ
local macro_rules | `(tactic| walk_at "kq fun") => `(tactic| (refine' KQ.funAt_of (by assumption) (by assumption) ?a ?l ?c ?k; (case a => k_is); (case l => k_is); (case c => k_is); (case k => k_is)))
local macro_rules | `(tactic| walk_at "kq meth") => `(tactic| (refine' KQ.methAt_of ?a ?i ?l ?c ?k; (case a => k_is); (case i => k_is); (case l => k_is); (case c => k_is); (case k => k_is)))
local macro_rules | `(tactic| walk_at "kq init") => `(tactic| (refine' KQ.initAt_of (by assumption) (by assumption) ?aC ?mk ?kC ?a ?i ?l ?c ?k; (case aC => k_is); (case mk => k_is); (case kC => k_is); (case a => k_is); (case i => k_is); (case l => k_is); (case c => k_is); (case k => k_is)))
local macro_rules | `(tactic| walk_at "kq free") => `(tactic| (refine' KQ.free_of (by assumption) (by assumption) ?e; (case e => k_is)))
local macro_rules | `(tactic| walk_at "kq cls") => `(tactic| (refine' ⟨?a, ?b, ?c, ?d⟩; (case a => k_is); (case b => k_is); (case c => k_is); (case d => k_is)))
local macro_rules | `(tactic| walk_at "kq exc") => `(tactic| (refine' KQ.excAt_of (by assumption) (by assumption) ?a ?kp ?ex ?sub ?ty ?own ?isC; (case a => k_is); (case kp => k_is); (case ex => k_exc); (case sub => k_is); (case ty => k_is); (case own => first | rfl | k_is); (case isC => k_is)))
local macro_rules | `(tactic| walk_at "kq err") => `(tactic| (intro base; refine' KQ.err_at (by assumption) (by assumption) ?a ?T ?U ?no ?own ?isC ?iC ?tI ?l ?c ?k; (case a => k_is); (case T => (refine' KQ.oex_of ?x ?y ?sa ?exC ?tyC ?kC; (case x => k_is); (case y => exact ⟨_, _, _, _, _, _, _, _, _, _, _, _, _, _, _, rfl, by decide +kernel⟩); (case sa => k_is); (case exC => k_is); (case tyC => k_is); (case kC => k_is))); (case U => (refine' ⟨?ga, ?gg, ?exC, ?hdC⟩; (case ga => k_is); (case gg => k_is); (case exC => k_is); (case hdC => k_is))); (case no => k_is); (case own => first | rfl | k_is); (case isC => k_is); (case iC => k_is); (case tI => k_is); (case l => k_is); (case c => k_is); (case k => k_is)))
local macro_rules | `(tactic| walk_at "kq works") => `(tactic| (refine' KQ.works_of (PySem.W.mg_of (by assumption) (by assumption) ?g) ?cl ?n1 ?n2 ?ha ?hn ?htk ?hm ?isC ?tyC ?s0; (case g => k_is); (case cl => walk_at "kq cls"); (case n1 => (show PySem.W.findIn _ (.ref _) _ = some none; k_is)); (case n2 => (show PySem.W.findIn _ (.ref _) _ = some none; k_is)); (case ha => k_is); (case hn => k_is); (case htk => k_is); (case hm => k_is); (case isC => k_is); (case tyC => k_is); (case s0 => k_is)))
open PySem PySem.W PyProof.Rows
set_option maxRecDepth 100000 in
set_option maxHeartbeats 0 in
theorem PySem.Challenge.cw_knownquiet_k01_works_judged_holds : PySem.Challenge.rw_knownquiet_k01_works_judged.Holds := by
  w_on; o_law; k_head; (case hw => w_witness2)
  k_fill
  refine KQ.walkX (l := PySem.Challenge.rw_knownquiet_k01_works_judged) (k := 8) (sp := KQ.spLaw) rfl rfl ⟨rfl, by decide, by decide⟩ (fun w h Y => PySem.W.kIn_of Y) ?F fun K H a ns hl hS => ⟨a, ns, rfl, hS, hl, fun _ => rfl⟩
  case F =>
    intro w mg fa h KX G hX hmg
    refine' KQ.fin KX G hmg ?B ?xB ?xH ?xT ?hno ?T ?g1 ?g2 ?g3 ?g4 ?F1 ?F2 ?F3 ?F4 ?F5 ?I0 ?I1 ?F6 ?F7 ?F8 ?F9 ?F10 ?L1 ?L2 ?L3 ?L4 ?L5 ?L6 ?L7 ?M1 ?M2 ?M3 ?M4 ?M5 ?M6 ?M7 ?M8 ?M9 ?M10 ?M11
    case B => constructor <;> walk_at "kq free"
    case xB => walk_at "kq err"
    case xH => walk_at "kq exc"
    case xT => walk_at "kq exc"
    case hno => k_is
    case T => walk_at "kq works"
    case g1 => k_is
    case g2 => k_is
    case g3 => k_is
    case g4 => k_is
    case I0 => walk_at "kq init"
    case I1 => walk_at "kq meth"
    all_goals walk_at "kq fun"
#print axioms PySem.Challenge.cw_knownquiet_k01_works_judged_holds
