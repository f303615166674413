import PyProof.Rows.All
import Wide.All
import OpenK.AllK
import Wide.FinOn
import HandS.ForMost
import HandS.ForExc
import HandS.IsInst
import HandS.Style
import HandS.Small
import HandS.Zip
import HandS.TryMany
import HandS.Codes
import HandS.More
import KE.GoesEnumKw
import HandS.ExcInit
import HandS.ExcField
import HandS.OwnEq
import HandS.TupAny
import HandS.TupMul
import KE.KMinKey
import HandS.SortKw
import HandS.Walk
import PyProof.StrOps2
import PySem.Challenge.RW_knownquiet_k05_plain_runs
set_option Elab.async false
set_option maxRecDepth 100000
set_option maxHeartbeats 4000000
/-! B0: what all our texts share: a def and its promise in one word, data as a whole, the drawing hand. -/
namespace KQ
open PySem PySem.Spec PyProof.Rows L2

/-! ### a def behind the top, a def that keeps a promise -/
def FunAt (K : PySem.W.Frag) (mg : Str → Option Value) (x : Str) (st : Stmt) : Prop := ∃ f fd, Fun K x x st f fd ∧ mg x = some (.ref f)
def Has (P : Program) (w : World) (K : PySem.W.Frag) (mg : Str → Option Value) (base : Heap) (k : Nat) (x : Str) (ps : List Str) (sp : Sp) : Prop :=
  ∃ f fd, FnOk P w K mg base CX0 k f fd ps sp ∧ mg x = some (.ref f) ∧ PySem.W.keepIn K (.ref f) = true ∧ Binds K fd ps []
/-- .. one that may raise -/
def HasX (P : Program) (w : World) (K : PySem.W.Frag) (mg : Str → Option Value) (base : Heap) (k : Nat) (x : Str) (ps : List Str) (sp : Sp) : Prop :=
  ∃ f fd, FnOk P w K mg base (L2.CX P w) k f fd ps sp ∧ mg x = some (.ref f) ∧ PySem.W.keepIn K (.ref f) = true ∧ Binds K fd ps []
abbrev BindsTo? (st : Stmt) (x : Str) (ps : List Str) : Prop :=
  ∀ (kV doc pm : Value) (an : Option Addr) (cdv ct : Value) (us : List Value), us.length = ps.length → bindArgs (PySem.W.fnOf x x (defArgs st) (defBody st) (defScope st) .none kV doc pm an cdv ct) ⟨us, []⟩ = pure (ps.zip us)
section
variable {P : Program} {w : World} {K : PySem.W.Frag} {mg : Str → Option Value} {base : Heap}
theorem mk_has {x : Str} {st : Stmt} {N ps : List Str} {k : Nat} {sp : Sp} (F : FunAt K mg x st) (S : FnScope N ps (defScope st)) (hb : BindsTo? st x ps) (len : ∀ vs H Q E, sp vs H Q E → vs.length = ps.length)
    (body : ∀ (f : Addr) (cdv : Value) (A : Around) (outer : List Env) (s : Shared) (H : Hp) (vs : List V) (Q : VK) (E : XK), Room k (A.deeper (envOfC x (defScope st) s.heap.objs.size f cdv)) → sp vs H Q E →
      ∃ t, PSs (cxOf CX0 P w K mg base N x (defScope st) f cdv A outer s H E).nox (defBody st) t ∧ t { nx := fun _ H' => Q .non H', rt := Q } (start N vs) H) : Has P w K mg base (k + 1) x ps sp := by
  obtain ⟨f, fd, F, m⟩ := F
  exact ⟨f, fd, F.ok S len (fun cdv A outer s H vs Q E => body f cdv A outer s H vs Q E), m, F.kp, F.binds hb⟩
theorem mk_hasX {x : Str} {st : Stmt} {N ps : List Str} {k : Nat} {sp : Sp} (F : FunAt K mg x st) (S : FnScope N ps (defScope st)) (hb : BindsTo? st x ps) (len : ∀ vs H Q E, sp vs H Q E → vs.length = ps.length)
    (body : ∀ (f : Addr) (cdv : Value) (A : Around) (outer : List Env) (s : Shared) (H : Hp) (vs : List V) (Q : VK) (E : XK), Room k (A.deeper (envOfC x (defScope st) s.heap.objs.size f cdv)) → sp vs H Q E →
      ∃ t, PSs (cxOf (L2.CX P w) P w K mg base N x (defScope st) f cdv A outer s H E) (defBody st) t ∧ t { nx := fun _ H' => Q .non H', rt := Q } (start N vs) H) : HasX P w K mg base (k + 1) x ps sp := by
  obtain ⟨f, fd, F, m⟩ := F
  exact ⟨f, fd, F.okX S len (fun cdv A outer s H vs Q E => body f cdv A outer s H vs Q E), m, F.kp, F.binds hb⟩
theorem Has.mono {x : Str} {ps : List Str} {j k : Nat} {sp : Sp} (D : Has P w K mg base j x ps sp) (h : j ≤ k) : Has P w K mg base k x ps sp := by
  obtain ⟨f, fd, G, r⟩ := D
  exact ⟨f, fd, G.mono h, r⟩
theorem Has.imp {x : Str} {ps : List Str} {k : Nat} {sp sp' : Sp} (D : Has P w K mg base k x ps sp) (h : ∀ vs H Q E, sp' vs H Q E → sp vs H Q E) : Has P w K mg base k x ps sp' := by
  obtain ⟨f, fd, G, r⟩ := D
  exact ⟨f, fd, G.imp h, r⟩
end
section
variable {X : Cx} {k : Nat} {x : Str} {ps : List Str} {sp : Sp} {e : Expr} {es : List Expr} {p pos : Pos} {t : TA}
/-- f(e, ..), f by its promise -/
theorem pe_h (D : Has X.prog X.w X.K X.mg X.base k x ps sp) (hr : Room k X.A) (hg : Gl X x) (ha : PA X (e :: es) t) (hdb : (x == ("__debug__" : Str)) = false := by decide)
    (he : starEach (e :: es) X.env = (false, eval e X.env) :: starEach es X.env := by rfl) (hpl : (backTo pos (starEach es X.env)).any (·.1) = false := by rfl) :
    PE X (.Call (.Name x p) (e :: es) [] pos) (tCall sp [] E0 t) := by
  obtain ⟨f, fd, G, m, kp, b⟩ := D
  exact pe_call G hr hg m kp b .nil pass0 ha hdb he hpl
/-- .. one that may raise, in a try's body -/
theorem pe_hX {W : WX} (tk : Takes X W) (D : HasX X.prog X.w X.K X.mg X.base k x ps sp) (hr : Room k X.A) (hg : Gl X x) (ha : PA X (e :: es) t) (hdb : (x == ("__debug__" : Str)) = false := by decide)
    (he : starEach (e :: es) X.env = (false, eval e X.env) :: starEach es X.env := by rfl) (hpl : (backTo pos (starEach es X.env)).any (·.1) = false := by rfl) :
    PE X (.Call (.Name x p) (e :: es) [] pos) (tCallS sp (WE W) t) := by
  obtain ⟨f, fd, G, m, kp, b⟩ := D
  exact pe_callS G hr hg m kp b (passAt tk) ha hdb he hpl
end

/-! ### x is True, x is False, for any x -/
def rIsAny : R2 := fun x y H Q => ∃ b : Bool, y = .bl b ∧ Q (.bl (decide (x = .bl b))) H
theorem op_isB {X : Cx} : OpR X (compareOp .Is) rIsAny := by
  intro pins s σ H x y v u Q I rx ry h
  obtain ⟨b, rfl, q⟩ := h
  cases (show u = Value.bool b from ry)
  have fin : ∀ c : Bool, decide (x = V.bl b) = c → EP X pins σ Q (Value.bool c) s := fun c e => ⟨.bl c, H, I, rfl, by rw [← e]; exact q⟩
  cases x with
  | bl a =>
    cases (show v = Value.bool a from rx)
    by_cases e : a = b
    · subst e
      exact wpAny_is_self rfl (fin true (by simp))
    · exact wpAny_is_other rfl (fun z => e (Value.bool.inj z)) (fin false (by simp [e]))
  | non => cases (show v = Value.none from rx); exact wpAny_is_other rfl (by intro z; cases z) (fin false (by simp))
  | int i => obtain ⟨t, rfl⟩ := (show ∃ t, v = Value.int i t from rx); exact wpAny_is_other rfl (by intro z; cases z) (fin false (by simp))
  | str i => obtain ⟨t, rfl⟩ := (show ∃ t, v = Value.str i t from rx); exact wpAny_is_other rfl (by intro z; cases z) (fin false (by simp))
  | byt i => obtain ⟨t, rfl⟩ := (show ∃ t, v = Value.bytes i t from rx); exact wpAny_is_other rfl (by intro z; cases z) (fin false (by simp))
  | flt i => obtain ⟨t, rfl⟩ := (show ∃ t, v = Value.float i t from rx); exact wpAny_is_other rfl (by intro z; cases z) (fin false (by simp))
  | ref a => cases (show v = Value.ref a from rx); exact wpAny_is_other rfl (by intro z; cases z) (fin false (by simp))
  | ty n => cases (show v = Value.type n from rx); exact wpAny_is_other rfl (by intro z; cases z) (fin false (by simp))
end KQ
set_option Elab.async false
set_option maxRecDepth 100000
set_option maxHeartbeats 4000000
namespace KQ
open PySem PySem.Spec PyProof.Rows L2

/-! ### data as a whole, away from the places N that are written -/
mutual
inductive Rp (N : Addr → Prop) (H : Hp) : V → PyData → Prop
  | non : Rp N H .non .none
  | bl (b : Bool) : Rp N H (.bl b) (.bool b)
  | int (i : Int) : Rp N H (.int i) (.int i)
  | str (x : Str) : Rp N H (.str x) (.str x)
  | lst {a : Addr} {xs : List V} {ds : List PyData} : H a = some (.lst xs) → ¬ N a → RpAll N H xs ds → Rp N H (.ref a) (.list ds)
  | tup {a : Addr} {xs : List V} {ds : List PyData} : H a = some (.tup xs) → ¬ N a → RpAll N H xs ds → Rp N H (.ref a) (.tuple ds)
  | emp {a : Addr} : H a = some (.dK []) → ¬ N a → Rp N H (.ref a) (.dict [])
inductive RpAll (N : Addr → Prop) (H : Hp) : List V → List PyData → Prop
  | nil : RpAll N H [] []
  | cons {v : V} {vs : List V} {d : PyData} {ds : List PyData} : Rp N H v d → RpAll N H vs ds → RpAll N H (v :: vs) (d :: ds)
end
/-- all but what stands at N is kept -/
def Kp (N : Addr → Prop) (H H' : Hp) : Prop := ∀ a o, H a = some o → ¬ N a → H' a = some o
theorem Kp.refl {N : Addr → Prop} {H : Hp} : Kp N H H := fun _ _ e _ => e
theorem Kp.trans {N : Addr → Prop} {H H1 H2 : Hp} (a : Kp N H H1) (b : Kp N H1 H2) : Kp N H H2 := fun c o e n => b c o (a c o e n) n
theorem Kp.new {N : Addr → Prop} {H : Hp} {p : Addr} {o : HO} (h : H p = none) : Kp N H (upd H p o) := fun a u e _ => by rw [upd_ne (ne_of_none e h)]; exact e
theorem Kp.new' {N : Addr → Prop} {H0 H : Hp} {p : Addr} {o : HO} (k : Kp N H0 H) (h : H p = none) : Kp N H0 (upd H p o) := k.trans (Kp.new h)
theorem Kp.put {N : Addr → Prop} {H : Hp} {p : Addr} {o : HO} (h : N p) : Kp N H (upd H p o) := fun a u e n => by rw [upd_ne (fun z => n (by rw [z]; exact h))]; exact e
theorem Kp.put' {N : Addr → Prop} {H0 H : Hp} {p : Addr} {o : HO} (k : Kp N H0 H) (h : N p) : Kp N H0 (upd H p o) := k.trans (Kp.put h)
theorem Kp.of_same {N : Addr → Prop} {H H' : Hp} (h : Same H H') : Kp N H H' := fun a o e _ => h a o e
theorem Kp.wide {N N' : Addr → Prop} {H H' : Hp} (k : Kp N H H') (h : ∀ a, N a → N' a) : Kp N' H H' := fun a o e n => k a o e fun z => n (h a z)
/-- what is free behind was free ahead, if what is at N stays in being -/
theorem Kp.free {N : Addr → Prop} {H H' : Hp} (k : Kp N H H') (hn : ∀ a, N a → H' a ≠ none) {p : Addr} (h : H' p = none) : H p = none := by
  cases e : H p with
  | none => rfl
  | some o =>
    by_cases n : N p
    · exact absurd h (hn p n)
    · rw [k p o e n] at h; cases h
mutual
theorem Rp.kp {N N' : Addr → Prop} {H H' : Hp} (k : Kp N H H') (hN : ∀ a o, H a = some o → ¬ N a → ¬ N' a) : ∀ {v : V} {d : PyData}, Rp N H v d → Rp N' H' v d
  | _, _, .non => .non
  | _, _, .bl b => .bl b
  | _, _, .int i => .int i
  | _, _, .str x => .str x
  | _, _, .lst e n r => .lst (k _ _ e n) (hN _ _ e n) (r.kp k hN)
  | _, _, .tup e n r => .tup (k _ _ e n) (hN _ _ e n) (r.kp k hN)
  | _, _, .emp e n => .emp (k _ _ e n) (hN _ _ e n)
theorem RpAll.kp {N N' : Addr → Prop} {H H' : Hp} (k : Kp N H H') (hN : ∀ a o, H a = some o → ¬ N a → ¬ N' a) : ∀ {vs : List V} {ds : List PyData}, RpAll N H vs ds → RpAll N' H' vs ds
  | _, _, .nil => .nil
  | _, _, .cons r t => .cons (r.kp k hN) (t.kp k hN)
end
theorem Rp.to {N : Addr → Prop} {H H' : Hp} {v : V} {d : PyData} (r : Rp N H v d) (k : Kp N H H') : Rp N H' v d := r.kp k fun _ _ _ n => n
theorem RpAll.to {N : Addr → Prop} {H H' : Hp} {v : List V} {d : List PyData} (r : RpAll N H v d) (k : Kp N H H') : RpAll N H' v d := r.kp k fun _ _ _ n => n
/-- further places to be written, all new -/
theorem Rp.more {N N' : Addr → Prop} {H : Hp} {v : V} {d : PyData} (r : Rp N H v d) (h : ∀ a, N' a → N a ∨ H a = none) : Rp N' H v d :=
  r.kp Kp.refl fun a o e n z => (h a z).elim n fun q => by rw [q] at e; cases e
theorem RpAll.length {N : Addr → Prop} {H : Hp} : ∀ {vs : List V} {ds : List PyData}, RpAll N H vs ds → vs.length = ds.length
  | _, _, .nil => rfl
  | _, _, .cons _ t => congrArg (· + 1) t.length
theorem RpAll.get {N : Addr → Prop} {H : Hp} : ∀ {vs : List V} {ds : List PyData} {i : Nat} {v : V}, RpAll N H vs ds → vs[i]? = some v → ∃ d, ds[i]? = some d ∧ Rp N H v d
  | _, _, _, _, .nil, e => by simp at e
  | _, _, 0, _, .cons r _, e => by simp at e; subst e; exact ⟨_, rfl, r⟩
  | _, _, i + 1, _, .cons _ t, e => by simpa using t.get (i := i) (by simpa using e)
theorem RpAll.app {N : Addr → Prop} {H : Hp} : ∀ {vs ws : List V} {ds es : List PyData}, RpAll N H vs ds → RpAll N H ws es → RpAll N H (vs ++ ws) (ds ++ es)
  | _, _, _, _, .nil, s => s
  | _, _, _, _, .cons r t, s => .cons r (t.app s)
theorem RpAll.drop {N : Addr → Prop} {H : Hp} : ∀ {vs : List V} {ds : List PyData} (n : Nat), RpAll N H vs ds → RpAll N H (vs.drop n) (ds.drop n)
  | _, _, 0, r => r
  | _, _, _ + 1, .nil => .nil
  | _, _, n + 1, .cons _ t => RpAll.drop n t
theorem RpAll.take {N : Addr → Prop} {H : Hp} : ∀ {vs : List V} {ds : List PyData} (n : Nat), RpAll N H vs ds → RpAll N H (vs.take n) (ds.take n)
  | _, _, 0, _ => .nil
  | _, _, _ + 1, .nil => .nil
  | _, _, n + 1, .cons r t => .cons r (RpAll.take n t)
/-- the name of its type -/
def tyN : PyData → String
  | .none => "NoneType" | .bool _ => "bool" | .int _ => "int" | .str _ => "str" | .list _ => "list" | .tuple _ => "tuple" | .dict _ => "dict"
theorem Rp.ty {K : PySem.W.Frag} {N : Addr → Prop} {H : Hp} {v : V} {d : PyData} (r : Rp N H v d) : TyX K H v (.type (tyN d)) := by
  cases r with
  | non => exact .base .non
  | bl b => exact .base (.bl b)
  | int i => exact .base (.int i)
  | str x => exact .base (.str x)
  | lst e _ _ => exact .base (.lst e)
  | tup e _ _ => exact .base (.tup e)
  | emp e _ => exact .base (.dK e)
/-- is it of this kind (a flag is an int too) -/
def isT (T : String) (d : PyData) : Bool := tyN d == T || (T == "int" && tyN d == "bool")
def tyNs : List String := ["NoneType", "bool", "int", "str", "list", "tuple", "dict"]
theorem tyN_in (d : PyData) : tyN d ∈ tyNs := by cases d <;> simp [tyN, tyNs]
theorem kit_T {K : PySem.W.Frag} {T : String} (h : ∀ s ∈ tyNs, kitB s T = some (s == T || (T == "int" && s == "bool"))) (d : PyData) : PySem.W.kitOne K (.type (tyN d)) (.type T) = some (isT T d) := kit_ty (h _ (tyN_in d))
theorem kit_int {K : PySem.W.Frag} (d : PyData) : PySem.W.kitOne K (.type (tyN d)) (.type "int") = some (isT "int" d) := kit_T (by decide +kernel) d
theorem kit_bool {K : PySem.W.Frag} (d : PyData) : PySem.W.kitOne K (.type (tyN d)) (.type "bool") = some (isT "bool" d) := kit_T (by decide +kernel) d
theorem kit_str {K : PySem.W.Frag} (d : PyData) : PySem.W.kitOne K (.type (tyN d)) (.type "str") = some (isT "str" d) := kit_T (by decide +kernel) d
theorem kit_tuple {K : PySem.W.Frag} (d : PyData) : PySem.W.kitOne K (.type (tyN d)) (.type "tuple") = some (isT "tuple" d) := kit_T (by decide +kernel) d
theorem kit_list {K : PySem.W.Frag} (d : PyData) : PySem.W.kitOne K (.type (tyN d)) (.type "list") = some (isT "list" d) := kit_T (by decide +kernel) d
/-- isinstance(x, T) of a datum -/
theorem isi {K : PySem.W.Frag} {N : Addr → Prop} {H : Hp} {v : V} {d : PyData} {T : String} {Q : VK} (r : Rp N H v d) (k : PySem.W.kitOne K (.type (tyN d)) (.type T) = some (isT T d)) (q : Q (.bl (isT T d)) H) : rIsi K [v, .ty T] H Q :=
  ⟨v, .ty T, _, .type T, _, rfl, .ty T, r.ty, k, q⟩
/-- an integer, as the judges mean it -/
def intOf : PyData → Option Int
  | .int i => some i
  | _ => none
end KQ
set_option Elab.async false
set_option maxRecDepth 100000
set_option maxHeartbeats 4000000
namespace KQ
open PySem PySem.Spec PyProof.Rows L2

/-! ### an own error class without __init__: raised without arguments, caught by its name -/
section
variable {X : Cx} {C : Addr} {bmB : List Value} {B newId initId : String}
theorem pmk_bare {x : Str} {p pos : Pos} (F : ExcBaseFacts B newId initId bmB) (q : PySem.W.excIn X.K C bmB newId = true) (gC : X.mg x = some (.ref C)) (kC : PySem.W.keepIn X.K (.ref C) = true) (r : Raises X (.ref C)) (hg : Gl X x)
    (hdb : (x == ("__debug__" : Str)) = false := by decide) : PMk X (.Call (.Name x p) [] [] pos) (fun _ H Q => Q (.ref C) none H) := by
  intro pins s σ H Q I h
  refine wpAny_Call_Name_kw (ld_glob I hg gC ?_ hdb)
  refine PySem.W.callWith_K0 I.kIn kC ?_
  obtain ⟨bm, N, nm, qn, bs, hdct, sn, sub, ab, col, dd, k0, k1, k2, k3, k5, mN, hC, hN, hni, T⟩ := exc_obj I.kIn q
  obtain ⟨hp, g, d, t, os⟩ := s
  exact wpAny_call_exc_subT F T hC hN hni (rest := []) (fun h' e hm => mk_of I hm r h (I.hok.gone hm.new)) (Nat.zero_le _)
end
/-- what the written part says of such a class -/
structure ExcAt (K : PySem.W.Frag) (mg : Str → Option Value) (x : Str) (C : Addr) : Prop where
  g : mg x = some (.ref C)
  kp : PySem.W.keepIn K (.ref C) = true
  ex : PySem.W.excIn K C [.type "ValueError", .type "Exception", .type "BaseException", .type "object"] "ValueError.__new__" = true
  sub : PySem.W.subIn K (.ref C) (.type "BaseException") = some true
  ty : PySem.W.typeIn K (.ref C) = some (.type "type")
  own : PySem.W.subIn K (.ref C) (.ref C) = some true
  isC : PySem.W.isClsIn K C = true
theorem ExcAt.raises {X : Cx} {x : Str} {C : Addr} (T : ExcAt X.K X.mg x C) : Raises X (.ref C) := raises_own T.sub T.ty
theorem ExcAt.exm {K : PySem.W.Frag} {mg : Str → Option Value} {x : Str} {C : Addr} (T : ExcAt K mg x C) : PySem.W.exmOne K (.ref C) (.ref C) = some true := by
  unfold PySem.W.exmOne
  have e1 : (PySem.W.clsIn K C).isSome = true := T.isC
  simp [T.sub, PySem.W.kitCls, T.own, T.ty, e1]
theorem pmk_x {X : Cx} {x : Str} {C : Addr} {p pos : Pos} (T : ExcAt X.K X.mg x C) (hg : Gl X x) (hdb : (x == ("__debug__" : Str)) = false := by decide) : PMk X (.Call (.Name x p) [] [] pos) (fun _ H Q => Q (.ref C) none H) :=
  pmk_bare PySem.F.excBase_ValueError T.ex T.g T.kp T.raises hg hdb
/-- raise X() in a def that may raise it -/
def tRz (E : XK) (C : Addr) : TS := fun _ _ H => E (.ref C) none H
theorem ps_rz {X : Cx} {x : Str} {C : Addr} {W : WX} {p pos pos2 : Pos} (hc : X.calm = true) (tk : Takes X W) (T : ExcAt X.K X.mg x C) (hg : Gl X x) (hdb : (x == ("__debug__" : Str)) = false := by decide) :
    PS X (.Raise (some (.Call (.Name x p) [] [] pos)) none pos2) (fun _ σ H => W (.ref C) none σ H) := ps_raise hc tk (pmk_x T hg hdb)
end KQ
set_option Elab.async false
set_option maxRecDepth 100000
set_option maxHeartbeats 4000000
namespace KQ
open PySem PySem.Spec PyProof.Rows L2
/-! ### methods by their promises -/
/-- a method of the class at C as the top has left it -/
def MethAt (K : PySem.W.Frag) (C : Addr) (m qual : Str) (st : Stmt) : Prop := ∃ f fd, Fun K m qual st f fd ∧ Meth K C m f
def HasM (P : Program) (w : World) (K : PySem.W.Frag) (mg : Str → Option Value) (base : Heap) (k : Nat) (C : Addr) (m : Str) (ps : List Str) (sp : Sp) : Prop :=
  ∃ f fd, FnOk P w K mg base CX0 k f fd ps sp ∧ Meth K C m f ∧ Binds K fd ps []
def HasMX (P : Program) (w : World) (K : PySem.W.Frag) (mg : Str → Option Value) (base : Heap) (k : Nat) (C : Addr) (m : Str) (ps : List Str) (sp : Sp) : Prop :=
  ∃ f fd, FnOk P w K mg base (L2.CX P w) k f fd ps sp ∧ Meth K C m f ∧ Binds K fd ps []
/-- a class that is made by its own __init__ -/
def HasC (P : Program) (w : World) (K : PySem.W.Frag) (mg : Str → Option Value) (base : Heap) (k : Nat) (x : Str) (C : Addr) (ps : List Str) (sp : Sp) : Prop :=
  ∃ f fd, FnOk P w K mg base CX0 k f fd ps sp ∧ Mk K C f ∧ mg x = some (.ref C) ∧ Binds K fd ps []
def HasCX (P : Program) (w : World) (K : PySem.W.Frag) (mg : Str → Option Value) (base : Heap) (k : Nat) (x : Str) (C : Addr) (ps : List Str) (sp : Sp) : Prop :=
  ∃ f fd, FnOk P w K mg base (L2.CX P w) k f fd ps sp ∧ Mk K C f ∧ mg x = some (.ref C) ∧ Binds K fd ps []
abbrev BindsQ (st : Stmt) (x qual : Str) (ps : List Str) : Prop :=
  ∀ (kV doc pm : Value) (an : Option Addr) (cdv ct : Value) (us : List Value), us.length = ps.length → bindArgs (PySem.W.fnOf x qual (defArgs st) (defBody st) (defScope st) .none kV doc pm an cdv ct) ⟨us, []⟩ = pure (ps.zip us)
section
variable {P : Program} {w : World} {K : PySem.W.Frag} {mg : Str → Option Value} {base : Heap}
theorem mk_hasM {C : Addr} {x qual : Str} {st : Stmt} {N ps : List Str} {k : Nat} {sp : Sp} (F : MethAt K C x qual st) (S : FnScope N ps (defScope st)) (hb : BindsQ st x qual ps) (len : ∀ vs H Q E, sp vs H Q E → vs.length = ps.length)
    (body : ∀ (f : Addr) (cdv : Value) (A : Around) (outer : List Env) (s : Shared) (H : Hp) (vs : List V) (Q : VK) (E : XK), Room k (A.deeper (envOfC qual (defScope st) s.heap.objs.size f cdv)) → sp vs H Q E →
      ∃ t, PSs (cxOf CX0 P w K mg base N qual (defScope st) f cdv A outer s H E).nox (defBody st) t ∧ t { nx := fun _ H' => Q .non H', rt := Q } (start N vs) H) : HasM P w K mg base (k + 1) C x ps sp := by
  obtain ⟨f, fd, F, m⟩ := F
  exact ⟨f, fd, F.ok S len (fun cdv A outer s H vs Q E => body f cdv A outer s H vs Q E), m, F.binds hb⟩
theorem mk_hasMX {C : Addr} {x qual : Str} {st : Stmt} {N ps : List Str} {k : Nat} {sp : Sp} (F : MethAt K C x qual st) (S : FnScope N ps (defScope st)) (hb : BindsQ st x qual ps) (len : ∀ vs H Q E, sp vs H Q E → vs.length = ps.length)
    (body : ∀ (f : Addr) (cdv : Value) (A : Around) (outer : List Env) (s : Shared) (H : Hp) (vs : List V) (Q : VK) (E : XK), Room k (A.deeper (envOfC qual (defScope st) s.heap.objs.size f cdv)) → sp vs H Q E →
      ∃ t, PSs (cxOf (L2.CX P w) P w K mg base N qual (defScope st) f cdv A outer s H E) (defBody st) t ∧ t { nx := fun _ H' => Q .non H', rt := Q } (start N vs) H) : HasMX P w K mg base (k + 1) C x ps sp := by
  obtain ⟨f, fd, F, m⟩ := F
  exact ⟨f, fd, F.okX S len (fun cdv A outer s H vs Q E => body f cdv A outer s H vs Q E), m, F.binds hb⟩
/-- a class's __init__ -/
def InitAt (K : PySem.W.Frag) (mg : Str → Option Value) (x : Str) (C : Addr) (qual : Str) (st : Stmt) : Prop := ∃ f fd, Fun K "__init__" qual st f fd ∧ Mk K C f ∧ mg x = some (.ref C)
theorem mk_hasC {C : Addr} {x qual : Str} {st : Stmt} {N ps : List Str} {k : Nat} {sp : Sp} (F : InitAt K mg x C qual st) (S : FnScope N ps (defScope st)) (hb : BindsQ st "__init__" qual ps) (len : ∀ vs H Q E, sp vs H Q E → vs.length = ps.length)
    (body : ∀ (f : Addr) (cdv : Value) (A : Around) (outer : List Env) (s : Shared) (H : Hp) (vs : List V) (Q : VK) (E : XK), Room k (A.deeper (envOfC qual (defScope st) s.heap.objs.size f cdv)) → sp vs H Q E →
      ∃ t, PSs (cxOf CX0 P w K mg base N qual (defScope st) f cdv A outer s H E).nox (defBody st) t ∧ t { nx := fun _ H' => Q .non H', rt := Q } (start N vs) H) : HasC P w K mg base (k + 1) x C ps sp := by
  obtain ⟨f, fd, F, m, g⟩ := F
  exact ⟨f, fd, F.ok S len (fun cdv A outer s H vs Q E => body f cdv A outer s H vs Q E), m, g, F.binds hb⟩
theorem mk_hasCX {C : Addr} {x qual : Str} {st : Stmt} {N ps : List Str} {k : Nat} {sp : Sp} (F : InitAt K mg x C qual st) (S : FnScope N ps (defScope st)) (hb : BindsQ st "__init__" qual ps) (len : ∀ vs H Q E, sp vs H Q E → vs.length = ps.length)
    (body : ∀ (f : Addr) (cdv : Value) (A : Around) (outer : List Env) (s : Shared) (H : Hp) (vs : List V) (Q : VK) (E : XK), Room k (A.deeper (envOfC qual (defScope st) s.heap.objs.size f cdv)) → sp vs H Q E →
      ∃ t, PSs (cxOf (L2.CX P w) P w K mg base N qual (defScope st) f cdv A outer s H E) (defBody st) t ∧ t { nx := fun _ H' => Q .non H', rt := Q } (start N vs) H) : HasCX P w K mg base (k + 1) x C ps sp := by
  obtain ⟨f, fd, F, m, g⟩ := F
  exact ⟨f, fd, F.okX S len (fun cdv A outer s H vs Q E => body f cdv A outer s H vs Q E), m, g, F.binds hb⟩
end
section
variable {X : Cx} {k : Nat} {C : Addr} {x m : Str} {ps : List Str} {sp : Sp} {e o : Expr} {es : List Expr} {p pos apos : Pos} {ta : TE} {t : TA} {pl : Sem Bool}
theorem pe_m (D : HasM X.prog X.w X.K X.mg X.base k C m ps sp) (c : Cls X.K C) (hr : Room k X.A) (ho : PE X o ta) (ha : PA X (e :: es) t)
    (hst : starEach (e :: es) X.env = (false, eval e X.env) :: starEach es X.env := by rfl) (hpl : (backTo pos (starEach es X.env)).any (·.1) = false := by rfl)
    (ht : eval (.Call (.Attribute o m apos) (e :: es) [] pos) X.env = (do
      let ov ← eval o X.env
      standAt apos.atName
      let (f, first) ← holding [ov] (getMethod ov m pl)
      callWith pos f first (backTo pos (starEach (e :: es) X.env)) (backToKw pos (keywordEach [] X.env))) := by rfl) :
    PE X (.Call (.Attribute o m apos) (e :: es) [] pos) (tMeth C m sp [] E0 ta t) := by
  obtain ⟨f, fd, G, M, b⟩ := D
  exact pe_meth ho c M G hr b .nil pass0 ha hst hpl ht
theorem pe_m0 (D : HasM X.prog X.w X.K X.mg X.base k C m ps sp) (c : Cls X.K C) (hr : Room k X.A) (ho : PE X o ta)
    (ht : eval (.Call (.Attribute o m apos) [] [] pos) X.env = (do
      let ov ← eval o X.env
      standAt apos.atName
      let (f, first) ← holding [ov] (getMethod ov m pl)
      callWith pos f first (backTo pos (starEach [] X.env)) (backToKw pos (keywordEach [] X.env))) := by rfl) :
    PE X (.Call (.Attribute o m apos) [] [] pos) (tMeth C m sp [] E0 ta tNil) := by
  obtain ⟨f, fd, G, M, b⟩ := D
  exact pe_meth0 ho c M G hr b .nil pass0 ht
/-- a method that may raise, called where that is wished for (W) -/
def tMethW (C : Addr) (m : Str) (sp : Sp) (W : WX) (ta : TE) (t : TA) : TE := fun σ H Q => ta σ H fun x H1 => ∃ a dx fs, x = .ref a ∧ H1 a = some (.ins C dx fs) ∧ fs.lookup m = none ∧ t σ H1 fun vs H2 => sp (x :: vs) H2 Q (WE W σ)
theorem pe_mX {W : WX} (tk : Takes X W) (D : HasMX X.prog X.w X.K X.mg X.base k C m ps sp) (c : Cls X.K C) (hr : Room k X.A) (ho : PE X o ta) (ha : PA X (e :: es) t)
    (hst : starEach (e :: es) X.env = (false, eval e X.env) :: starEach es X.env := by rfl) (hpl : (backTo pos (starEach es X.env)).any (·.1) = false := by rfl)
    (ht : eval (.Call (.Attribute o m apos) (e :: es) [] pos) X.env = (do
      let ov ← eval o X.env
      standAt apos.atName
      let (f, first) ← holding [ov] (getMethod ov m pl)
      callWith pos f first (backTo pos (starEach (e :: es) X.env)) (backToKw pos (keywordEach [] X.env))) := by rfl) :
    PE X (.Call (.Attribute o m apos) (e :: es) [] pos) (tMethW C m sp W ta t) := by
  obtain ⟨f, fd, G, M, b⟩ := D
  constructor
  intro pins s σ H Q I h
  refine PySem.W.methodCall_KW (pl := pl) (thn (ho.run pins s σ H _ I h) ?_) ht
  rintro u s1 ⟨x, H1, I1, rx, a, dx, fs, rfl, ea, l, q⟩
  obtain rfl : u = Value.ref a := rx
  refine getmeth_ok I1 ea c M l (PySem.W.callWith_K (first := [.ref a]) (h₀ := X.base) I.ok.mod.kin M.kp (thn (ha.run pos pins s1 σ H1 _ I1 q) ?_) hst hpl)
  rintro us s2 ⟨vs, H2, I2, r, q2⟩
  exact ⟨I2.kIn, run_fnS (us := .ref a :: us) (vs := .ref a :: vs) G hr b (passAt tk σ) I2 (.cons rfl r) q2⟩
theorem pe_c (D : HasC X.prog X.w X.K X.mg X.base k x C ps sp) (hr : Room (k + 1) X.A) (hg : Gl X x) (ha : PA X (e :: es) t) (hdb : (x == ("__debug__" : Str)) = false := by decide)
    (he : starEach (e :: es) X.env = (false, eval e X.env) :: starEach es X.env := by rfl) (hpl : (backTo pos (starEach es X.env)).any (·.1) = false := by rfl) :
    PE X (.Call (.Name x p) (e :: es) [] pos) (tMake C sp [] E0 t) := by
  obtain ⟨f, fd, G, M, g, b⟩ := D
  exact pe_make M G hr hg g b .nil pass0 ha hdb he hpl
theorem pe_c0 (D : HasC X.prog X.w X.K X.mg X.base k x C ps sp) (hr : Room (k + 1) X.A) (hg : Gl X x) (hdb : (x == ("__debug__" : Str)) = false := by decide) :
    PE X (.Call (.Name x p) [] [] pos) (tMake C sp [] E0 tNil) := by
  obtain ⟨f, fd, G, M, g, b⟩ := D
  exact pe_make0 M G hr hg g b .nil pass0 hdb
end
end KQ
set_option Elab.async false
set_option maxRecDepth 100000
set_option maxHeartbeats 4000000
/-! B4: from the facts that the head finds to defs, methods, classes; the law's own end. -/
namespace KQ
open PySem PySem.Spec PyProof.Rows L2
section
variable {K : PySem.W.Frag} {h : Heap} {mg : Str → Option Value} {x m qual : Str} {st : Stmt} {f C : Addr} {oc : Value} {od an : Option Addr} {kV doc pm cdv ct : Value} {sl : Array (Option Value)}
theorem funAt_of (X : K.In h) (G : h.Ns mainGlobals mg) (a : PySem.W.nsIn K mainGlobals x = some (some (.ref f))) (l : K.lookup f = some ⟨oc, od, .func (PySem.W.fnOf x x (defArgs st) (defBody st) (defScope st) .none kV doc pm an cdv ct), sl⟩)
    (c : PySem.W.codeIn K cdv x = true) (k : PySem.W.keepIn K (.ref f) = true) : FunAt K mg x st := ⟨f, _, fun_mk l c k, PySem.W.mg_of X G a⟩
theorem methAt_of (a : PySem.W.findIn K (.ref C) m = some (some (.ref f))) (i : PySem.W.isFn K (.ref f) = true) (l : K.lookup f = some ⟨oc, od, .func (PySem.W.fnOf m qual (defArgs st) (defBody st) (defScope st) .none kV doc pm an cdv ct), sl⟩)
    (c : PySem.W.codeIn K cdv qual = true) (k : PySem.W.keepIn K (.ref f) = true) : MethAt K C m qual st := ⟨f, _, fun_mk l c k, ⟨a, i, k⟩⟩
theorem initAt_of (X : K.In h) (G : h.Ns mainGlobals mg) (aC : PySem.W.nsIn K mainGlobals x = some (some (.ref C))) (mk : PySem.W.makesIn K C = true) (kC : PySem.W.keepIn K (.ref C) = true)
    (a : PySem.W.findIn K (.ref C) "__init__" = some (some (.ref f))) (i : PySem.W.isFn K (.ref f) = true) (l : K.lookup f = some ⟨oc, od, .func (PySem.W.fnOf "__init__" qual (defArgs st) (defBody st) (defScope st) .none kV doc pm an cdv ct), sl⟩)
    (c : PySem.W.codeIn K cdv qual = true) (k : PySem.W.keepIn K (.ref f) = true) : InitAt K mg x C qual st := ⟨f, _, fun_mk l c k, ⟨mk, a, i, kC⟩, PySem.W.mg_of X G aC⟩
/-- a built-in name that the text leaves alone -/
theorem free_of (X : K.In h) (G : h.Ns mainGlobals mg) (e : PySem.W.nsIn K mainGlobals x = some none) : mg x = none := PySem.W.mg_none_of X G e
theorem excAt_of (X : K.In h) (G : h.Ns mainGlobals mg) (a : PySem.W.nsIn K mainGlobals x = some (some (.ref C))) (kp : PySem.W.keepIn K (.ref C) = true)
    (ex : PySem.W.excIn K C [.type "ValueError", .type "Exception", .type "BaseException", .type "object"] "ValueError.__new__" = true) (sub : PySem.W.subIn K (.ref C) (.type "BaseException") = some true)
    (ty : PySem.W.typeIn K (.ref C) = some (.type "type")) (own : PySem.W.subIn K (.ref C) (.ref C) = some true) (isC : PySem.W.isClsIn K C = true) : ExcAt K mg x C := ⟨PySem.W.mg_of X G a, kp, ex, sub, ty, own, isC⟩
end
theorem walkX {l : PySem.W.OpenLaw} {k : Nat} {q : Program} {loose : List Str} {XP : (Str → Option Value) → Heap → Prop} {YP : World → Heap → Prop} {d : DefRec} {K : Params → PySem.W.Frag} {sp : PySem.W.Frag → Sp} (hn : l.most = some 63) (hdf : d.params.defaults = []) (hr : Room k callerA)
    (hY : ∀ (w : World) (h : Heap), YP w h → (K w.params).In h)
    (F : ∀ (w : World) (mg : Str → Option Value) (fa : Addr) (h : Heap), (K w.params).In h → h.Ns mainGlobals mg → XP mg h → mg d.name = some (.ref fa) →
      ∃ fd : FuncData, (∀ (s : Shared) (u : Value), BindsTo s fd ⟨[u], []⟩ [("script", u)]) ∧ ∀ base : Heap, FnOk l.prog w (K w.params) mg base CX0 k fa fd ["script"] (sp (K w.params)))
    (hsp : ∀ (K : PySem.W.Frag) (H : Hp) (a : Addr) (ns : List Int), ns.length ≤ 63 → SqL K H a (ns.map V.int) → sp K [.ref a] H (fun v _ => v = .bl true) fun _ _ _ => False) :
    PySem.W.WalkO q loose XP YP l.row.toRowW d [] (fun f vs => PySem.call f vs) :=
  Att.attach_call hn hdf fun w _ s₁ mg _ fa _ _ _ _ a _ ns G Y _ _ _ hmg hobj hints hlen hg =>
    let ⟨_, hb, hF⟩ := F w mg fa _ (hY w _ Y) G.T.g G.X hmg
    law_call (CX := CX0) (hY w _ Y) G.T.g G.T.b G.T.builtins G.T.nolimit hg hobj hints (Nat.le_trans hlen (by decide)) hr (fun base _ _ => hF base) hb (fun H _ hS => hsp _ H a ns hlen hS) fun _ _ _ z => z
end KQ
set_option Elab.async false
set_option maxRecDepth 100000
set_option maxHeartbeats 4000000
/-! B5: enumerate of a tuple, walked. -/
namespace KQ
open PySem PySem.Spec PyProof.Rows L2
set_option maxHeartbeats 4000000 in
theorem enum_new {v : Value} {o : Obj} {Z : Heap → Prop} (B : Begins v o Z) :
    Meets (Builtin.«enumerate.__new__» ⟨[.type "enumerate", v], []⟩) (fun _ R s => Z s.heap ∧
      R (.ok (.ret (.ref (s.heap.push o).objs.size))) { s with heap := (s.heap.push o).push { cls := .type "enumerate", data := .fields #[.none, .bool false, .ref s.heap.objs.size, rawInt 0, .none, .none] } }) := by
  refine .of_wp fun prog w A R s h => ?_
  obtain ⟨hp, g, d, tk, os⟩ := s
  obtain ⟨h1, h⟩ := h
  have hsub := sub_enumerate
  have it : ∀ {A' : Around} {E Q : Value → Shared → Prop}, Q (.ref hp.objs.size) ⟨hp.push o, g, d, tk, os⟩ → wpAny (model prog w) A' (pyIter v) Q E ⟨hp, g, d, tk, os⟩ := fun q => B.iter prog w _ _ ⟨hp, g, d, tk, os⟩ _ h1 q
  wp_walk using it
  refine wpAny_stack_any fun st => wpAny_pure ?_
  split
  · rename_i c _ _ _ _ _
    cases (c == Value.type "enumerate") <;> (wp_walk using it) <;> exact ⟨_, rfl, h⟩
  · wp_walk using it
    exact ⟨_, rfl, h⟩
theorem enum_call {prog : Program} {w : World} {A : Around} {E : Value → Shared → Prop} {s : Shared} {v : Value} {o : Obj} {Z : Heap → Prop} {Q : Value → Shared → Prop} (B : Begins v o Z) (h1 : Z s.heap)
    (h : ∀ h', IsEnum h' (s.heap.objs.size + 1) s.heap.objs.size 0 .none → h'.get? s.heap.objs.size = some o → (∀ b o, s.heap.get? b = some o → h'.get? b = some o) → Q (.ref (s.heap.objs.size + 1)) { s with heap := h' }) :
    wpAny (model prog w) A (call (.type "enumerate") [v]) Q E s := by
  refine callType_new F.called_enumerate (by decide) (F.typeCall_enumerate_1 _) (F.newCall_enumerate_1 _) (fun obj => F.args_object_init_2 obj _) F.entry_enumerate_new (enum_new B) ⟨h1, ?_⟩
  have hz : (s.heap.push o).objs.size = s.heap.objs.size + 1 := Heap.size_push ..
  have he : IsEnum ((s.heap.push o).push { cls := .type "enumerate", data := .fields #[.none, .bool false, .ref s.heap.objs.size, rawInt 0, .none, .none] }) (s.heap.objs.size + 1) s.heap.objs.size 0 .none := by
    have q := Heap.get?_push_size (s.heap.push o) (o := { cls := .type "enumerate", data := .fields #[.none, .bool false, .ref s.heap.objs.size, rawInt 0, .none, .none] }) rfl
    rwa [hz] at q
  show _ ∧ _
  rw [hz]
  exact ⟨⟨_, he, rfl⟩, h _ he (Heap.get?_push_of_some _ (Heap.get?_push_size _ B.free)) fun b u x => Heap.get?_push_of_some _ (Heap.get?_push_of_some _ x)⟩
/-- the tuple at a, each item in a new pair with its number -/
def Iet (K : PySem.W.Frag) (a : Addr) : It :=
  ⟨fun i H => ∃ (xs : List V) (x : V), SqT K H a xs ∧ xs[i]? = some x, fun i H v H' => ∃ T x, v = .ref T ∧ H T = none ∧ H' = upd H T (.tup [.int (i : Nat), x]) ∧ ∀ xs, SqT K H a xs → xs[i]? = some x, fun i H => ∃ xs : List V, SqT K H a xs ∧ xs.length = i⟩
theorem turn_et {P : Program} {w : World} {K : PySem.W.Frag} {elts : List Expr} {kk : Nat} {tpos : Pos} (a e it : Addr) :
    Turn P w K (.Tuple elts kk tpos) (Iet K a) [e, it] e (fun i h => (∃ old, IsEnum h e it ((i : Nat) : Int) old) ∧ h.IsTupleIter it a i ∧ e ≠ it) := by
  refine ⟨by simp, fun i h st b hb => ?_, fun i h h' st k => ?_, ?_, ?_, fun A i s Q E st h => let ⟨⟨_, he⟩, _⟩ := st; wpAny_pyIter_enum he h⟩
  · obtain ⟨⟨old, he⟩, ⟨o, ho, hc, hd⟩, _⟩ := st
    have eb : b = e ∨ b = it := by simpa using hb
    rcases eb with z | z
    · rw [z]
      exact ⟨_, he, fun v q => nomatch q⟩
    · rw [z]
      exact ⟨o, ho, fun v q => by rw [hd] at q; cases q⟩
  · obtain ⟨⟨old, he⟩, hi, hne⟩ := st
    exact ⟨⟨old, k e (by simp) _ he⟩, hi.at fun o q => k it (by simp) o q, hne⟩
  · intro X hP hw hK hc i pins s σ H E I hf st hg
    subst hP hw hK
    obtain ⟨⟨old, he⟩, hit, hne⟩ := st
    obtain ⟨xs, x, hq, hx⟩ := hg
    obtain ⟨its, rv, p, hz⟩ := I.tuple hq
    obtain ⟨u, hu, ru⟩ := rv.get hx
    have hel : e < s.heap.objs.size := Heap.lt_size he
    have hil : it < s.heap.objs.size := by obtain ⟨_, q, _⟩ := hit; exact Heap.lt_size q
    have hai : a ≠ it := by
      rintro rfl
      obtain ⟨o1, q1, _, d1⟩ := hit
      obtain ⟨o2, q2, _, _, d2⟩ := p
      rw [q1] at q2
      cases q2
      rw [d1] at d2
      cases d2
    have hea : e ≠ a := by
      rintro rfl
      obtain ⟨o2, q2, _, _, d2⟩ := p
      have he' : s.heap.get? e = some _ := he
      rw [he'] at q2
      cases q2
      cases d2
    refine wpAny_pyNext_enum_itemD (Draws.tuple (A := X.A.in1) (I.ok.hd hc) it a hai its.toArray) he ⟨hit, p⟩ (by have := (List.getElem?_eq_some_iff.mp hu).1; simpa using this) hne (by simp [hne, hea]) fun y h' tk hy ho hst hT hsz hk => ?_
    have ey : y = u := by
      have hy' : its.toArray[i]? = some y := hy
      rw [List.getElem?_toArray, hu] at hy'
      exact (Option.some.inj hy').symm
    subst ey
    refine ⟨_, rfl, wpAny_letOwnedTupleGo_enum (s := { s with heap := h', toks := tk + 1 }) ho fun h'' he' sb => ?_⟩
    have hT2 : h''.get? s.heap.objs.size = some { cls := .type "tuple", data := .seq #[.int i tk, y] } := (sb.2 _ (Nat.ne_of_gt hel)).trans hT
    have new : ObjOk X.prog X.w (upd H s.heap.objs.size (.tup [.int (i : Nat), x])) h'' s.heap.objs.size (.tup [.int (i : Nat), x]) :=
      ⟨by show 2 ≤ sizeLine; decide, [.int i tk, y], .cons ⟨_, rfl⟩ (.cons ru .nil), ⟨_, hT2, rfl, _, rfl⟩⟩
    have I1 : Inv X pins σ (upd H s.heap.objs.size (.tup [.int (i : Nat), x])) { s with heap := h'', toks := tk + 1 } :=
      I.turnedNew (ch := [e, it]) (fun b ob hb q => (sb.2 b (fun z => hb (by simp [z]))).trans (hk b ob (fun z => hb (by simp [z])) (fun z => hb (by simp [z])) q)) hf (Nat.le_refl _) new
    refine ⟨.ref s.heap.objs.size, _, I1, rfl, ⟨_, x, rfl, I.hok.fresh (Nat.le_refl _), rfl, fun ys hy => by rw [I.tuple_inj hy hq]; exact hx⟩, ⟨⟨y, ?_⟩, hst.1.at fun o q => (sb.2 it (Ne.symm hne)).trans q, hne⟩, fun b hb => ?_⟩
    · rw [show ((i + 1 : Nat) : Int) = (i : Int) + 1 by omega]
      exact he'
    · have eb : b = e ∨ b = it := by simpa using hb
      have hb' : b < s.heap.objs.size := by rcases eb with z | z <;> rw [z] <;> assumption
      rw [upd_ne (Nat.ne_of_lt hb')]
      exact (hf b hb).1
  · intro X hP hw hK hc i pins s σ H E I hf st hg
    subst hP hw hK
    obtain ⟨⟨old, he⟩, hit, hne⟩ := st
    obtain ⟨xs, hq, hx⟩ := hg
    obtain ⟨its, rv, p, hz⟩ := I.tuple hq
    obtain ⟨f0, f1, f2, f3, f4, f5⟩ := hf it (by simp)
    have hl := rv.length
    have hai : a ≠ it := by
      rintro rfl
      obtain ⟨o1, q1, _, d1⟩ := hit
      obtain ⟨o2, q2, _, _, d2⟩ := p
      rw [q1] at q2
      cases q2
      rw [d1] at d2
      cases d2
    exact wpAny_pyNext_enum_endD (Draws.tuple (A := X.A.in1) (I.ok.hd hc) it a hai its.toArray) he ⟨by rw [show its.toArray.size = i by simp; omega]; exact hit, p⟩ fun h' eb => ⟨rfl, I.turned (t' := s.toks) (fun b o hb q => eb b o hb q) f0 f1 f3 f4 f5⟩
def iEt (K : PySem.W.Frag) (ta : TA) : TI := fun σ H R => ta σ H fun vs H1 => ∃ a xs, vs = [.ref a] ∧ SqT K H1 a xs ∧ R (Iet K a) H1
theorem pi_enumT {X : Cx} {e : Expr} {ta : TA} {p pos tpos : Pos} {elts : List Expr} {kk : Nat} (hg : Gl X "enumerate") (hm : X.mg "enumerate" = none) (ha : PA X [e] ta) (hs : starEach [e] X.env = [(false, eval e X.env)] := by rfl) :
    PI X (.Tuple elts kk tpos) (.Call (.Name "enumerate" p) [e] [] pos) (iEt X.K ta) := by
  constructor
  intro pins s σ H R I h
  refine Call_ (ld_blt I hg hm boot_enumerate (PyProof.Rows.callWith_type1 (thn (ha.run pos pins s σ H _ I h) ?_) hs rfl))
  rintro us s1 ⟨vs, H1, I1, r1, a, xs, rfl, hq, q⟩
  cases r1 with
  | cons r rr =>
    cases rr
    cases r
    obtain ⟨its, rv, p', hz⟩ := I1.tuple hq
    refine enum_call (begins_tuple a its.toArray) p' fun h' he hit hk => wpAny_pyIter_enum he ?_
    have I2 : Inv X pins σ H1 { s1 with heap := h' } := I1.kept (t' := s1.toks) hk
    refine ⟨s1.heap.objs.size + 1, [s1.heap.objs.size + 1, s1.heap.objs.size], _, _, H1, rfl, I2, turn_et a (s1.heap.objs.size + 1) s1.heap.objs.size, ⟨⟨.none, he⟩, ⟨_, hit, rfl, rfl⟩, Nat.succ_ne_self _⟩, fun b hb => ?_, q⟩
    have eb : b = s1.heap.objs.size + 1 ∨ b = s1.heap.objs.size := by simpa using hb
    have hle : s1.heap.objs.size ≤ b := by
      rcases eb with z | z <;> rw [z]
      · exact Nat.le_add_right _ _
      · exact Nat.le_refl _
    exact I1.fpOk hle (I1.hok.fresh hle)
theorem for_et {K : PySem.W.Frag} {a : Addr} {xs : List V} {g : TG} {tb : TS} {D : Ends} {σ : L2.St} {H : Hp} (Pv : Nat → L2.St → Hp → Prop) (h0 : Pv 0 σ H) (hq : ∀ i σ H, Pv i σ H → SqT K H a xs)
    (hs : ∀ (i : Nat) (x : V) (T : Addr) (σ : L2.St) (H : Hp), xs[i]? = some x → Pv i σ H → H T = none → g (.ref T) σ (upd H T (.tup [.int (i : Nat), x])) fun σ2 H2 => tb { D with nx := Pv (i + 1), ct := Pv (i + 1), bk := D.nx } σ2 H2) (hd : ∀ σ H, Pv xs.length σ H → D.nx σ H) :
    ∃ W : Nat → Nat → L2.St → Hp → Prop, (∃ m, W 0 m σ H) ∧ ∀ i m σ H, W i m σ H →
      ((Iet K a).stop i H ∧ D.nx σ H) ∨ ((Iet K a).go i H ∧ ∃ N : L2.St → Hp → Prop, (∀ σ' H', N σ' H' → ∃ m', m' < m ∧ W (i + 1) m' σ' H') ∧ ∀ x H', (Iet K a).yld i H x H' → g x σ H' fun σ2 H2 => tb { D with nx := N, ct := N, bk := D.nx } σ2 H2) := by
  refine ⟨fun i m σ H => m = xs.length - i ∧ i ≤ xs.length ∧ Pv i σ H, ⟨_, rfl, Nat.zero_le _, h0⟩, ?_⟩
  rintro i m σ H ⟨rfl, hi, pv⟩
  have q := hq i σ H pv
  rcases Nat.lt_or_eq_of_le hi with hlt | he
  · refine .inr ⟨⟨xs, xs[i], q, by simp [hlt]⟩, Pv (i + 1), fun σ' H' p' => ⟨_, by omega, rfl, hlt, p'⟩, ?_⟩
    rintro x H' ⟨T, y, rfl, nT, rfl, hy⟩
    have ey : xs[i]? = some y := hy xs q
    exact hs i y T σ H ey pv nT
  · subst he
    exact .inl ⟨⟨xs, q, rfl⟩, hd σ H pv⟩
end KQ
set_option Elab.async false
set_option maxRecDepth 100000
set_option maxHeartbeats 4000000
/-! B6: errors with a field; a class whose making may raise. -/
namespace KQ
open PySem PySem.Spec PyProof.Rows L2
/-- __init__ of an error with one field: it is stored -/
def spErrInit (C : Addr) (fld : Str) : Sp := fun vs H Q _ => ∃ (a : Addr) (v : V), vs = [.ref a, v] ∧ H a = some (exo a C none) ∧ ∀ dx, H dx = none → dx ≠ a → Q .non (upd (upd H dx (exd dx [(fld, v)])) a (exo a C (some dx)))
structure ErrAt (P : Program) (w : World) (K : PySem.W.Frag) (mg : Str → Option Value) (base : Heap) (x : Str) (C : Addr) (fld : Str) : Prop where
  g : mg x = some (.ref C)
  oex : OexC K C
  xf : XfC K C
  no : PySem.W.findIn K (.ref C) fld = some none
  exm : PySem.W.exmOne K (.ref C) (.ref C) = some true
  ini : ∃ f fd, PySem.W.findIn K (.ref C) "__init__" = some (some (.ref f)) ∧ PySem.W.typeIn K (.ref f) = some (.type "function") ∧ FnOk P w K mg base CX0 1 f fd ["self", fld] (spErrInit C fld) ∧ Binds K fd ["self", fld] []
/-- what is left to show of X(v), v already told -/
theorem mk_err {C : Addr} {fld : Str} {v : V} {H1 : Hp} {Q : XK} (h : ∀ d, H1 d = none → Q (.ref C) (some d) (upd H1 d (.xd [(fld, v)]))) :
    [v].length ≤ 1000 ∧ ∀ a, H1 a = none → spErrInit C fld (.ref a :: ([v] ++ [])) (upd H1 a (exo a C none)) (fun u H2 => u = .non ∧ ∃ (d : Addr) (fs : List (Str × V)), H2 a = some (exo a C (some d)) ∧ H2 d = some (exd d fs) ∧ H1 d = none ∧ Q (.ref C) (some d) (upd (del H2 a) d (.xd fs))) (fun _ _ _ => False) := by
  refine ⟨by show 1 ≤ 1000; decide, fun a ha => ⟨a, v, rfl, upd_same, fun dx hd ne => ⟨rfl, dx, [(fld, v)], upd_same, by rw [upd_ne ne]; exact upd_same, ?_, ?_⟩⟩⟩
  · rw [upd_ne ne] at hd
    exact hd
  · have hd1 : H1 dx = none := by
      rw [upd_ne ne] at hd
      exact hd
    have e : upd (del (upd (upd (upd H1 a (exo a C none)) dx (exd dx [(fld, v)])) a (exo a C (some dx))) a) dx (.xd [(fld, v)]) = upd H1 dx (.xd [(fld, v)]) := by
      funext b
      by_cases h1 : b = dx
      · rw [h1, upd_same, upd_same]
      · rw [upd_ne h1, upd_ne h1]
        by_cases h2 : b = a
        · rw [h2, del_same]
          exact ha.symm
        · rw [del_ne h2, upd_ne h2, upd_ne h1, upd_ne h2]
    rw [e]
    exact h dx hd1
section
variable {X : Cx} {x fld : Str} {C : Addr} {e : Expr} {ta : TA} {p pos pos2 : Pos}
/-- raise X(e) -/
theorem ps_rx {W : WX} (hc : X.calm = true) (tk : Takes X W) (T : ErrAt X.prog X.w X.K X.mg X.base x C fld) (hr : Room 2 X.A) (ha : PA X [e] ta) (hg : Gl X x) (hdb : (x == ("__debug__" : Str)) = false := by decide)
    (he : starEach (e :: []) X.env = (false, eval e X.env) :: starEach [] X.env := by rfl) (hpl : (backTo pos (starEach [] X.env)).any (·.1) = false := by rfl) :
    PS X (.Raise (some (.Call (.Name x p) [e] [] pos)) none pos2) (fun _ σ H => tMkO C (spErrInit C fld) [] ta σ H fun cls d H' => W cls d σ H') := by
  obtain ⟨f, fd, iC, tI, G, b⟩ := T.ini
  exact ps_raise hc tk (pmk_oex T.oex iC tI G hr b .nil pass0 hg T.g ha hdb he hpl)
/-- err.field in an except suite -/
theorem pe_ef {a : Addr} {oe : Obj} {cls : Value} {d : Option Addr} {pn : List (Addr × Obj)} {o : Expr} {te : TE} (T : ErrAt X.prog X.w X.K X.mg X.base x C fld) (hz : Zc cls d oe) (hf : ∃ vs, oe.data = .fields vs) (he : PE (X.suite a ((a, oe) :: pn)) o te)
    (hb : attributeBase o fld X.env (eval o X.env) = eval o X.env := by rfl) : PE (X.suite a ((a, oe) :: pn)) (.Attribute o fld pos) (tXf a cls d C fld te) := pe_xf T.xf T.no hz hf he hb
end
/-! ### C(e, ..) where __init__ may raise -/
section
variable {X : Cx} {k : Nat} {x : Str} {C : Addr} {ps : List Str} {sp : Sp} {e : Expr} {es : List Expr} {p pos : Pos} {t : TA}
def tMakeW (C : Addr) (sp : Sp) (W : WX) (t : TA) : TE := fun σ H Q => t σ H fun vs H1 => ∀ x dx, H1 x = none → H1 dx = none → dx ≠ x → sp (.ref x :: vs) (upd (upd H1 dx (.own x)) x (.ins C dx [])) (fun v H2 => v = .non ∧ Q (.ref x) H2) (WE W σ)
theorem pe_cX {W : WX} (tk : Takes X W) (D : HasCX X.prog X.w X.K X.mg X.base k x C ps sp) (hr : Room (k + 1) X.A) (hg : Gl X x) (ha : PA X (e :: es) t) (hdb : (x == ("__debug__" : Str)) = false := by decide)
    (he : starEach (e :: es) X.env = (false, eval e X.env) :: starEach es X.env := by rfl) (hpl : (backTo pos (starEach es X.env)).any (·.1) = false := by rfl) :
    PE X (.Call (.Name x p) (e :: es) [] pos) (tMakeW C sp W t) := by
  obtain ⟨f, fd, F, M, hm, hb⟩ := D
  constructor
  intro pins s0 σ H0 Q I0 h0
  refine wpAny_Call_Name_kw (ld_glob I0 hg hm (PySem.W.callWith_K (h₀ := X.base) I0.ok.mod.kin M.kp (thn (ha.run pos pins s0 σ H0 _ I0 h0) ?_) he hpl) hdb)
  rintro us s ⟨vs, H, I, r, h⟩
  refine ⟨I.kIn, ?_⟩
  have hq := h (s.heap.objs.size + 1) s.heap.objs.size (I.hok.fresh (Nat.le_succ _)) (I.hok.fresh (Nat.le_refl _)) (Nat.ne_of_lt (Nat.lt_succ_self _))
  have J := Inv.made (C := C) I
  have r2 : Vals (V.ref (s.heap.objs.size + 1) :: vs) (Value.ref (s.heap.objs.size + 1) :: us) := .cons rfl r
  have b := hb _ (Value.ref (s.heap.objs.size + 1) :: us) J.kIn (by
    rw [List.append_nil, ← r2.length]
    exact F.len _ _ _ _ hq)
  rw [List.append_nil] at b
  refine wpAny_call (make_map (f := f) I.kIn M.makes M.init (beq_iff_eq.mp M.fn) (codeAny_mono (F.run _ X.stack _ _ ⟨Value.ref (s.heap.objs.size + 1) :: us, []⟩ (Value.ref (s.heap.objs.size + 1) :: us) _ _ (WE W σ) (hr.make C us [])
    (J.env0.make C us []) b r2 hq) ?_))
  intro z s' hz
  match z, hz with
  | .error e, hz => exact passAt tk σ pins _ _ e s' J hz
  | .ok (.ret u), hz =>
    obtain ⟨v, H', I3, rv, rfl, q3⟩ := J.after hz
    exact ⟨rv, V.ref (s.heap.objs.size + 1), H', I3, rfl, q3⟩
  | .ok .next, hz => exact False.elim hz
  | .ok .brk, hz => exact False.elim hz
  | .ok .cont, hz => exact False.elim hz
/-- where it is known not to raise -/
theorem pe_cX0 (D : HasCX X.prog X.w X.K X.mg X.base k x C ps sp) (hr : Room (k + 1) X.A) (hg : Gl X x) (ha : PA X (e :: es) t) (hdb : (x == ("__debug__" : Str)) = false := by decide)
    (he : starEach (e :: es) X.env = (false, eval e X.env) :: starEach es X.env := by rfl) (hpl : (backTo pos (starEach es X.env)).any (·.1) = false := by rfl) :
    PE X (.Call (.Name x p) (e :: es) [] pos) (tMake C sp [] E0 t) := by
  obtain ⟨f, fd, F, M, hm, hb⟩ := D
  exact pe_make M F hr hg hm hb .nil passL ha hdb he hpl
theorem pe_hX0 (D : HasX X.prog X.w X.K X.mg X.base k x ps sp) (hr : Room k X.A) (hg : Gl X x) (ha : PA X (e :: es) t) (hdb : (x == ("__debug__" : Str)) = false := by decide)
    (he : starEach (e :: es) X.env = (false, eval e X.env) :: starEach es X.env := by rfl) (hpl : (backTo pos (starEach es X.env)).any (·.1) = false := by rfl) :
    PE X (.Call (.Name x p) (e :: es) [] pos) (tCall sp [] E0 t) := by
  obtain ⟨f, fd, G, m, kp, b⟩ := D
  exact pe_call G hr hg m kp b .nil passL ha hdb he hpl
end
end KQ
set_option Elab.async false
set_option maxRecDepth 100000
set_option maxHeartbeats 4000000
/-! B7: a == b by a's own __eq__, whatever it answers. -/
namespace KQ
open PySem PySem.Spec PyProof.Rows L2
/-- x == y, x of the class at C with the text's own ==, y another of it or a tuple -/
def rOwn (K : PySem.W.Frag) (C : Addr) (sp : Sp) : R2 := fun x y H Q => ∃ a dx fs b, x = .ref a ∧ y = .ref b ∧ H a = some (.ins C dx fs) ∧
  ((∃ dy gs, H b = some (.ins C dy gs)) ∨ ((∃ xs, SqT K H b xs) ∧ PySem.W.notFirst K C (.type "tuple") = true)) ∧ sp [.ref a, .ref b] H (fun v H' => ∃ c, v = .bl c ∧ Q v H') (fun _ _ _ => False)
theorem op_own {X : Cx} {n : Nat} {C : Addr} {sp : Sp} {ps : List Str} (D : HasM X.prog X.w X.K X.mg X.base n C "__eq__" ps sp) (hr : Room n X.A) : OpR X (compareOp .Eq) (rOwn X.K C sp) := by
  obtain ⟨f, fd, F, M, hb⟩ := D
  intro pins s σ H x y v u Q I rx ry h
  obtain ⟨a, dx, fs, b, rfl, rfl, ha, hy, hsp⟩ := h
  cases rx
  cases ry
  obtain ⟨mA, J, _⟩ := ins_get I.hok ha
  obtain ⟨od, J, _⟩ := J.look
  obtain ⟨m, hF⟩ := I.fr
  have hlook : ∃ tb, PySem.W.Looks (model X.prog X.w) s.heap (typeOf (.ref b)) tb ∧ PySem.W.notFirst X.K C tb = true := by
    rcases hy with ⟨dy, gs, hb'⟩ | ⟨⟨xs, hq⟩, nf⟩
    · obtain ⟨mB, J', _⟩ := ins_get I.hok hb'
      obtain ⟨od', J', _⟩ := J'.look
      exact ⟨.ref C, J'.type, by simp [PySem.W.notFirst]⟩
    · obtain ⟨its, r, ⟨o, ho, hc, n, hd⟩, hz⟩ := I.tuple hq
      refine ⟨.type "tuple", ?_, nf⟩
      exact hc ▸ (PySem.W.Looks.ld ho).andThen .now
  obtain ⟨tb, hl, nf⟩ := hlook
  show wpAny (model X.prog X.w) X.A (richCompare .Eq (.ref a) (.ref b)) (EP X pins σ Q) X.xe s
  refine PySem.W.cmp_K (op := .Eq) (tb := tb) hr.units0 hF I.ok.mod.kin J hl nf M.at_ M.fn ?_
  have e0 : Env0 X.prog X.w X.K X.mg X.base X.A X.stack s H := I.env0
  have hl := F.len _ _ _ _ hsp
  have r2 : Vals [V.ref a, V.ref b] [Value.ref a, Value.ref b] := .cons rfl (.cons rfl .nil)
  refine wpAny_call (codeAny_mono (F.run X.A X.stack s H ⟨[.ref a, .ref b], []⟩ [.ref a, .ref b] [.ref a, .ref b] _ _ hr e0 (by
    have := hb s [.ref a, .ref b] I.kIn (by simpa using hl)
    simpa using this) r2 hsp) fun r s' hq => ?_)
  cases r with
  | error e => exact hq.elim
  | ok fl =>
    cases fl with
    | ret w =>
      obtain ⟨z, H', I', rz, c, ez, q⟩ := I.after hq
      subst ez
      cases rz
      exact ⟨.bl c, H', I', rfl, q⟩
    | next => exact False.elim hq
    | brk => exact False.elim hq
    | cont => exact False.elim hq
end KQ
set_option Elab.async false
set_option maxRecDepth 100000
set_option maxHeartbeats 4000000
/-! B8: tuple * int, once and not at all too. -/
namespace KQ
open PySem PySem.Spec PyProof.Rows L2
theorem mul_one (l : Addr) (items : Array Value) (n : Nat) (dd : Option Addr) (sl : Array (Option Value)) (x : Int) (u : Tok) (c0 : (decide (x < -(2 ^ 63)) || decide (x ≥ 2 ^ 63)) = false) (c1 : (items.isEmpty || x == 1) = true) :
    Meets (Builtin.«tuple.__mul__» ⟨[.ref l, .int x u], []⟩) (fun _ R s => s.heap.get? l = some { cls := .type "tuple", dict := dd, data := .seq items n, slots := sl } ∧ R (.ok (.ret (Value.ref l))) { s with heap := s.heap, toks := s.toks }) :=
  .of_wp fun prog w A R s h => by
    obtain ⟨hp, g, d, tk, os⟩ := s
    obtain ⟨hl, h⟩ := h
    have f1 := AutoSeq1.idx_int
    wp_walk using wpAny_loadPart' hl
    repeat (first
      | (refine wpAny_ite_false (decide_eq_false (by rw [c0]; exact Bool.false_ne_true)) ?_; wp_walk using wpAny_loadPart' hl)
      | (refine wpAny_ite_true (decide_eq_true c1) ?_; wp_walk using wpAny_loadPart' hl))
    exact ⟨_, rfl, h⟩
theorem mul_none (l : Addr) (items : Array Value) (n : Nat) (dd : Option Addr) (sl : Array (Option Value)) (x : Int) (u : Tok) (c0 : (decide (x < -(2 ^ 63)) || decide (x ≥ 2 ^ 63)) = false) (c1 : (items.isEmpty || x == 1) = false) (c2 : (decide (x ≤ 0) || items.isEmpty) = true) :
    Meets (Builtin.«tuple.__mul__» ⟨[.ref l, .int x u], []⟩) (fun _ R s => s.heap.get? l = some { cls := .type "tuple", dict := dd, data := .seq items n, slots := sl } ∧
      R (.ok (.ret (Value.ref s.heap.objs.size))) { s with heap := s.heap.push { cls := Value.type "tuple", data := Data.seq #[] }, toks := s.toks }) :=
  .of_wp fun prog w A R s h => by
    obtain ⟨hp, g, d, tk, os⟩ := s
    obtain ⟨hl, h⟩ := h
    have f1 := AutoSeq1.idx_int
    wp_walk using wpAny_loadPart' hl
    repeat (first
      | (refine wpAny_ite_false (decide_eq_false (by rw [c0]; exact Bool.false_ne_true)) ?_; wp_walk using wpAny_loadPart' hl)
      | (refine wpAny_ite_false (decide_eq_false (by rw [c1]; exact Bool.false_ne_true)) ?_; wp_walk using wpAny_loadPart' hl)
      | (refine wpAny_ite_true (decide_eq_true c2) ?_; wp_walk using wpAny_loadPart' hl))
    exact ⟨_, rfl, h⟩
def rRepA (K : PySem.W.Frag) : R2 := fun x y H Q => ∃ l k xs, x = .ref l ∧ y = .int k ∧ SqT K H l xs ∧ xs ≠ [] ∧ 0 ≤ k ∧ k ≤ 1000 ∧ xs.length ≤ 1000 ∧ (k = 1 → Q (.ref l) H) ∧ (k ≠ 1 → ∀ p, H p = none → Q (.ref p) (upd H p (.tup (List.replicate k.toNat xs).flatten)))
theorem op_repA {X : Cx} : OpR X (binaryOp .Mult) (rRepA X.K) := by
  intro pins s σ H x y v u Q I rx ry h
  obtain ⟨l, k, xs, rfl, rfl, hT, hne, h1, h2, hz, q1, q2⟩ := h
  by_cases h3 : 2 ≤ k
  · exact op_repT pins s σ H _ _ v u Q I rx ry ⟨l, k, xs, rfl, rfl, hT, hne, h3, h2, hz, q2 (by omega)⟩
  cases rx
  obtain ⟨t, rfl⟩ := ry
  obtain ⟨its, r, ⟨⟨cls, dd, data, sl⟩, ho, hc, n, hd⟩, hs⟩ := I.tuple hT
  simp only at hc hd
  subst hc hd
  have hle : its.length = xs.length := r.length.symm
  have hi : its.toArray.isEmpty = false := by
    cases its with
    | nil => exact absurd (List.eq_nil_of_length_eq_zero hle.symm) hne
    | cons a b => rfl
  have c0 : (decide (k < -(2 ^ 63)) || decide (k ≥ 2 ^ 63)) = false := by
    rw [decide_eq_false (by omega), decide_eq_false (by omega)] <;> rfl
  by_cases k1 : k = 1
  · exact wpAny_binaryOp_repeat_ref (T := "tuple") (U := "int") (by decide) ⟨_, ho, rfl⟩ (fun s' => typeIs_int s' k t) noFill_tuple_mul F.fills_int_mul F.slot_int_rmul repeat_tuple F.slot_int_index.lookup
      (call_meets F.slot_int_rmul (typeIs_int s k t) F.entry_int_rmul (F.args_int_rmul_2 _ _) (int_rmul_tuple k t l its.toArray n dd sl)
        ⟨ho, rfl, ⟨_, ho, rfl⟩, call_meets F.slot_tuple_mul ⟨_, ho, rfl⟩ F.entry_tuple_mul (F.args_tuple_mul_2 _ _) (mul_one l its.toArray n dd sl k t c0 (by rw [hi, Bool.false_or]; exact beq_iff_eq.mpr k1)) ⟨ho, ⟨.ref l, H, I, rfl, q1 k1⟩⟩⟩)
  · have k0 : k = 0 := by omega
    subst k0
    refine wpAny_binaryOp_repeat_ref (T := "tuple") (U := "int") (by decide) ⟨_, ho, rfl⟩ (fun s' => typeIs_int s' 0 t) noFill_tuple_mul F.fills_int_mul F.slot_int_rmul repeat_tuple F.slot_int_index.lookup
      (call_meets F.slot_int_rmul (typeIs_int s 0 t) F.entry_int_rmul (F.args_int_rmul_2 _ _) (int_rmul_tuple 0 t l its.toArray n dd sl)
        ⟨ho, rfl, ⟨_, ho, rfl⟩, call_meets F.slot_tuple_mul ⟨_, ho, rfl⟩ F.entry_tuple_mul (F.args_tuple_mul_2 _ _) (mul_none l its.toArray n dd sl 0 t c0 (by rw [hi]; rfl) (by rfl)) ⟨ho, ?_⟩⟩)
    refine ⟨.ref s.heap.objs.size, _, I.laid (t' := s.toks) (o := .tup []) (fun b ob q => Heap.get?_push_of_some _ q) (Nat.le_refl _) ?_, rfl, q2 k1 _ (I.hok.fresh (Nat.le_refl _))⟩
    exact ⟨Nat.zero_le _, _, .nil, IsTup.new _ _⟩
end KQ
set_option Elab.async false
set_option maxRecDepth 100000
set_option maxHeartbeats 4000000
/-! B9: max(a list of numbers, default=0). -/
namespace KQ
open PySem
section
variable {prog : Program} {w : World} {A : Around} {R : Result → Shared → Prop} {I S : Addr} {fp wr : List Addr} {n : Nat} {P : Nat → Value → Prop} {St : Nat → Heap → Prop} {d : Value}
abbrev dkw (d : Value) : List (Str × Value) := [(Str.ofString "default", d)]
abbrev bestAt (c : Nat) (items : Array Value) : Obj := { cls := .type "list", dict := none, data := .seq items c, slots := #[] }
theorem mxd_loop (W : Walks prog w A.in1 I fp wr n P St) (bt : Nat → Nat → Bool) (hc : CmpOf prog w A.in1 .Gt P bt) (hf : S ∉ fp) : ∀ (k j : Nat) (s : Shared) (items : Array Value) (c : Nat), n - j = k → j ≤ n → St j s.heap →
    ((j = 0 ∧ items = #[]) ∨ ∃ vb, 0 < j ∧ items = #[vb, vb] ∧ P (argBest bt (j - 1)) vb) → s.heap.get? S = some (bestAt c items) →
    (∀ v h' tk, ((n = 0 ∧ v = d) ∨ (0 < n ∧ P (argBest bt (n - 1)) v)) → (∀ b o, b ∉ wr → b ≠ S → s.heap.get? b = some o → h'.get? b = some o) → R (.ok (.ret v)) { s with heap := h', toks := tk }) →
    codeAny (model prog w) A (.builtin "max.loop" ⟨[.ref I, .none, .ref S], dkw d⟩) R s := by
  have hw : S ∉ wr := fun h => hf (W.sub _ h)
  have hn : (toString "max" ++ toString ".loop" : String) = "max.loop" := by decide
  intro k
  induction k with
  | zero =>
    intro j s items c hk hj st hb hS hR
    have e : j = n := by omega
    refine codeAny_builtin F.entry_max_loop ?_; rw [Around.under_plainId F.plain_max_loop _]
    show wpAny _ A.in1 (seqItems? (.ref S) >>= _) _ _ s; refine wpAny_bind (wpAny_seqItems hS rfl ?_)
    show wpAny _ A.in1 (tryCatch (pyNext (.ref I)) _ >>= _) _ _ s; refine wpAny_bind (wpAny_tryCatch (W.done s _ _ (e ▸ st) fun h' tk k' => ?_))
    have hS' := k' S _ hw hS
    rcases hb with ⟨j0, rfl⟩ | ⟨vb, j0, rfl, pb⟩
    · show wpAny _ A.in1 (rule _ >>= _) _ _ _
      refine wpAny_bind (wpAny_rule (wpAny_pure (hR d _ tk (.inl ⟨by omega, rfl⟩) fun b o h1 _ q => k' b o h1 q)))
    · show wpAny _ A.in1 (updateSeq S (fun _ => #[]) >>= _) _ _ _; refine wpAny_bind ?_
      refine wpAny_updateSeq hS' rfl (wpAny_bind (wpAny_letGo (wpAny_pure (hR vb _ tk (.inr ⟨by omega, by rw [← e]; exact pb⟩) fun b o h1 h2 q => ?_))))
      exact (Heap.get?_update_other _ _ (Ne.symm h2)).trans (k' b o h1 q)
  | succ k ih =>
    intro j s items c hk hj st hb hS hR
    have hlt : j < n := by omega
    refine codeAny_builtin F.entry_max_loop ?_; rw [Around.under_plainId F.plain_max_loop _]
    show wpAny _ A.in1 (seqItems? (.ref S) >>= _) _ _ s; refine wpAny_bind (wpAny_seqItems hS rfl ?_)
    show wpAny _ A.in1 (tryCatch (pyNext (.ref I)) _ >>= _) _ _ s; refine wpAny_bind (wpAny_tryCatch (W.item j s _ _ hlt st fun v h' tk hP st' k' => ?_))
    have hS' := k' S _ hw hS
    rcases hb with ⟨j0, rfl⟩ | ⟨vb, j0, rfl, pb⟩
    · subst j0
      show wpAny _ A.in1 (updateSeq S (fun _ => #[v, v]) >>= _) _ _ _; refine wpAny_bind (wpAny_updateSeq hS' rfl ?_); rw [hn]
      refine wpAny_pure ⟨plainId_quiet F.plain_max_loop _, ih 1 _ #[v, v] _ (by omega) hlt (W.frame _ _ _ st' fun b hb o q => (Heap.get?_update_other _ _ (fun z : S = b => hf (by rw [z]; exact hb))).trans q) (.inr ⟨v, Nat.one_pos, rfl, hP⟩) (Heap.get?_update_self _ hS' rfl) fun v' h2 tk2 q2 k2 => ?_⟩
      exact hR v' h2 tk2 q2 fun b o h1 h2 q => k2 b o h1 h2 ((Heap.get?_update_other _ _ (Ne.symm h2)).trans (k' b o h1 q))
    · show wpAny _ A.in1 (tryCatch (holding [v, v] (richCompare .Gt v vb >>= _)) _ >>= _) _ _ _; refine wpAny_bind (wpAny_tryCatch (wpAny_holding (wpAny_bind (hc j (argBest bt (j - 1)) v vb _ _ _ hP pb ?_))))
      refine wpAny_bind (wpAny_holding (wpAny_truthy_bool (wpAny_bind (wpAny_letGo (wpAny_pure ?_)))))
      have ej : argBest bt (j + 1 - 1) = if bt j (argBest bt (j - 1)) then j else argBest bt (j - 1) := by
        obtain ⟨i, rfl⟩ : ∃ i, j = i + 1 := ⟨j - 1, by omega⟩
        rfl
      cases hb : bt j (argBest bt (j - 1)) with
      | true =>
        simp only [if_true]
        refine wpAny_bind (wpAny_updateSeq hS' rfl (wpAny_bind (wpAny_letGo ?_))); rw [hn]
        refine wpAny_pure ⟨plainId_quiet F.plain_max_loop _, ih (j + 1) _ #[v, v] _ (by omega) hlt (W.frame _ _ _ st' fun b hb o q => (Heap.get?_update_other _ _ (fun z : S = b => hf (by rw [z]; exact hb))).trans q) (.inr ⟨v, Nat.succ_pos _, rfl, by rw [ej, hb, if_pos rfl]; exact hP⟩) (Heap.get?_update_self _ hS' rfl) fun v' h2 tk2 q2 k2 => ?_⟩
        exact hR v' h2 tk2 q2 fun b o h1 h2 q => k2 b o h1 h2 ((Heap.get?_update_other _ _ (Ne.symm h2)).trans (k' b o h1 q))
      | false =>
        simp only [Bool.false_eq_true, if_false]
        refine wpAny_bind (wpAny_letGo ?_); rw [hn]
        refine wpAny_pure ⟨plainId_quiet F.plain_max_loop _, ih (j + 1) _ #[vb, vb] c (by omega) hlt st' (.inr ⟨vb, Nat.succ_pos _, rfl, by rw [ej, hb, if_neg Bool.false_ne_true]; exact pb⟩) hS' fun v' h2 tk2 q2 k2 => ?_⟩
        exact hR v' h2 tk2 q2 fun b o h1 h2 q => k2 b o h1 h2 (k' b o h1 q)
end
section
variable {prog : Program} {w : World} {A : Around} {E : Value → Shared → Prop} {s : Shared} {d : Value} {Q : Value → Shared → Prop}
theorem maxd_walk {x : Value} (h : wpAny (model prog w) A.in1 (pyIter x) (fun it s₂ => ∃ I fp wr n P St bt, it = .ref I ∧ Walks prog w A.in1 I fp wr n P St ∧ St 0 s₂.heap ∧ (∀ b ∈ fp, b < s₂.heap.objs.size) ∧ CmpOf prog w A.in1 .Gt P bt ∧
    ∀ v h' tk, ((n = 0 ∧ v = d) ∨ (0 < n ∧ P (argBest bt (n - 1)) v)) → (∀ b o, b ∉ wr → s₂.heap.get? b = some o → h'.get? b = some o) → Q v { s₂ with heap := h', toks := tk }) E s) (ha : argsOk "max" ⟨[x], dkw d⟩) :
    wpAny (model prog w) A (call (.builtin "max") [x] (dkw d)) Q E s := by
  have hn : (toString "max" ++ toString ".loop" : String) = "max.loop" := by decide
  refine PyProof.Rows.kmk_tree F.kind_max F.plain_max F.entry_max ha ?_
  show wpAny _ A.in1 (Builtin.Builtins.bindParams "max" ["key", "default"] 0 ⟨[], dkw d⟩ >>= _) _ _ s; refine wpAny_bind (wpAny_of_eq (show Builtin.Builtins.bindParams "max" ["key", "default"] 0 ⟨[], dkw d⟩ = pure [none, some d] from rfl) ?_)
  refine wpAny_bind (wpAny_pure (wpAny_bind (wpAny_mono h (fun it s₂ h₂ => ?_) fun _ _ e => e)))
  obtain ⟨I, fp, wr, n, P, St, bt, rfl, W, st, hfp, hc, hQ⟩ := h₂
  refine wpAny_bind (wpAny_newObj_type ?_); rw [hn]
  have hf : s₂.heap.objs.size ∉ fp := fun hm => Nat.lt_irrefl _ (hfp _ hm)
  refine wpAny_pure ⟨plainId_quiet F.plain_max_loop _, mxd_loop W bt hc hf _ 0 _ #[] _ rfl (Nat.zero_le _) (W.frame _ _ _ st fun b _ o e => Heap.get?_push_of_some _ e) (.inl ⟨rfl, rfl⟩) (Heap.get?_push_size _ rfl) fun v h' tk hP hk => ?_⟩
  exact hQ v h' tk hP fun b o hb e => hk b o hb (Nat.ne_of_lt (Heap.lt_size e)) (Heap.get?_push_of_some _ e)
end
open PySem.Spec PyProof.Rows L2
theorem args_maxd (a v : Value) : argsOk "max" ⟨[a], dkw v⟩ := by
  unfold argsOk
  kernel_rfl
def rMaxD0 (K : PySem.W.Frag) : List V → List V → Hp → VK → Prop := fun xs zs H Q => ∃ (a : Addr) (ns : List Int) (d : Int), xs = [.ref a] ∧ zs = [.int d] ∧ SqL K H a (ns.map V.int) ∧ (ns = [] → Q (.int d) H) ∧ ∀ m ∈ ns, (∀ y ∈ ns, y ≤ m) → Q (.int m) H
theorem cr_maxD0 {X : Cx} (hc : X.calm = true) : CallRK X (.builtin "max") [Str.ofString "default"] (rMaxD0 X.K) := by
  intro pins s σ H vs zs us ws Q I r1 r2 h
  obtain ⟨a, ns, d, rfl, rfl, hs, q0, q1⟩ := h
  obtain ⟨its, rv, hl, _⟩ := I.list hs
  rw [Vals.ref1 r1]
  cases r2 with
  | cons rd r2 =>
  cases r2
  obtain ⟨t, rfl⟩ := rd
  have hi := rv.ints
  obtain ⟨ys, e⟩ := hi.allInts.items
  have hn : numsOf (intItems ys).toList = ns := by rw [← e]; exact hi.numsOf
  rw [nums_intItems] at hn
  subst hn
  have hl' : s.heap.IsList a (intItems ys) := by rw [← e]; exact hl.isList
  show wpAny _ _ (call (.builtin "max") [.ref a] (dkw (.int d t))) _ _ _
  refine maxd_walk (iter_intList hl' fun s₂ e2 st hfp hlI => ?_) (args_maxd _ _)
  subst e2
  refine ⟨_, _, _, _, _, _, _, rfl, Walks.list (A := X.A.in1) (I.ok.hd hc) _ a hlI (intItems ys), st, hfp, CmpOf.ints_gt (numAt ys) (fun _ _ => intItems_at), fun v h' tk hP hk => ?_⟩
  have I' : Inv X pins σ H { s with heap := h', toks := tk } := I.kept (old_kept hk)
  have hsz : (intItems ys).size = ys.size := by simp [intItems]
  rw [hsz] at hP
  rcases hP with ⟨n0, rfl⟩ | ⟨n1, hP⟩
  · exact ⟨.int d, H, I', ⟨t, rfl⟩, q0 (List.eq_nil_of_length_eq_zero (by rw [List.length_map, Array.length_toList]; exact n0))⟩
  · obtain ⟨u, rfl⟩ := intItems_at hP
    obtain ⟨h1, h2⟩ := argBest_gt (numAt ys) (ys.size - 1)
    refine ⟨.int _, H, I', ⟨u, rfl⟩, q1 _ ?_ fun y hy => ?_⟩
    · rw [numAt_eq]; exact PySem.getD_mem (by rw [List.length_map, Array.length_toList]; omega)
    · obtain ⟨j, hj, rfl⟩ := mem_getD hy; rw [List.length_map, Array.length_toList] at hj; rw [← numAt_eq]; exact h2 j (by omega)
/-- a list's item, by values -/
theorem get_list {X : Cx} : PGet X fun x y H Q => 0 ≤ (match y with | .int i => i | _ => 0) ∧ rIxL X.K x y H Q := by
  intro pins s σ H o i ov iv Q I r1 r2 h
  obtain ⟨h0, p, xs, k, z, rfl, rfl, hq, he, q⟩ := h
  cases r1
  obtain ⟨t, rfl⟩ := r2
  obtain ⟨its, r, pl, hz⟩ := I.list hq
  obtain ⟨j, e1, e2, e3, e4, e5⟩ := atI_get he
  obtain ⟨u, eu, ru⟩ := r.get e2
  have hj : k.toNat = j := by
    rw [seqIndex_of h0 e5] at e1
    exact Option.some.inj e1
  have hl := r.length
  have hn := line63
  exact wpAny_getItem_list pl.isList h0 (by omega) (by rw [hj]; simpa using eu) ⟨z, H, I, ru, q⟩
/-- sum of a tuple of numbers -/
def rSumT (K : PySem.W.Frag) : List V → Hp → VK → Prop := fun vs H Q => ∃ (a : Addr) (ns : List Int), vs = [V.ref a] ∧ SqT K H a (ns.map V.int) ∧ Q (.int ns.sum) H
theorem cr_sumT {X : Cx} (hc : X.calm = true) : CallR X (.builtin "sum") (rSumT X.K) := by
  intro pins s σ H vs us Q I r h
  obtain ⟨a, ns, rfl, hs, q⟩ := h
  obtain ⟨its, rv, ht, _⟩ := I.tuple hs
  rw [Vals.ref1 r]
  have hi := rv.ints
  obtain ⟨ys, e⟩ := hi.allInts.items
  have hn : numsOf (intItems ys).toList = ns := by rw [← e]; exact hi.numsOf
  rw [nums_intItems] at hn
  have ht' : s.heap.IsTuple a (intItems ys) := by rw [← e]; exact ht
  have hlt : a < s.heap.objs.size := by obtain ⟨_, g, _⟩ := ht'; exact Heap.lt_size g
  refine call_sum_walkG (wpAny_pyIter_tuple ht' ?_)
  refine ⟨s.heap.objs.size, _, _, _, _, _, numAt ys, rfl, Walks.tuple (A := X.A.in1) (I.ok.hd hc) _ a (Nat.ne_of_lt hlt) (intItems ys), ⟨⟨_, Heap.get?_push_size _ rfl, rfl, rfl⟩, ?_⟩, fun b hb => ?_, (fun _ _ => intItems_at), fun h' tk t' hk => ?_⟩
  · obtain ⟨o, g, k1, k2⟩ := ht'
    exact ⟨o, Heap.get?_push_of_some _ g, k1, k2⟩
  · show b < (s.heap.push _).objs.size
    rw [Heap.size_push]
    have hb' : b = s.heap.objs.size ∨ b = a := by simpa using hb
    rcases hb' with z | z
    · rw [z]; exact Nat.lt_succ_self _
    · rw [z]; exact Nat.lt_succ_of_lt hlt
  · have kk : ∀ b o, s.heap.get? b = some o → h'.get? b = some o := fun b o g => hk b o (fun hm => by
      have : b = s.heap.objs.size := by simpa using hm
      rw [this] at g
      exact absurd (Heap.lt_size g) (Nat.lt_irrefl _)) (Heap.get?_push_of_some _ g)
    have I' : Inv X pins σ H { s with heap := h', toks := tk } := I.kept kk
    refine ⟨.int ns.sum, H, I', ⟨t', ?_⟩, q⟩
    have hsz : (intItems ys).size = ys.size := by simp [intItems]
    rw [hsz, preSum_eq, List.take_of_length_le (by simp), hn]
end KQ
set_option Elab.async false
set_option maxRecDepth 100000
set_option maxHeartbeats 4000000
/-! B10: a list grown by a tuple's items. -/
namespace KQ
open PySem PySem.Spec PyProof.Rows L2
theorem ext_tup (l b : Addr) (mine its : Array Value) (n n2 : Nat) (dd : Option Addr) (sl : Array (Option Value)) (c0 : ¬(!mine.isEmpty && Builtin.List.listTooLong (mine.size + its.size)) = true) (c1 : mine.size ≤ sizeLine) (c2 : (mine ++ its).size ≤ sizeLine + 1) :
    Meets (Builtin.«list.extend» ⟨[.ref l, .ref b], []⟩)
      (fun _ R s => s.heap.get? l = some { cls := .type "list", dict := none, data := .seq mine n, slots := #[] } ∧ s.heap.get? b = some { cls := .type "tuple", dict := dd, data := .seq its n2, slots := sl } ∧
        R (.ok (.ret Value.none)) { s with heap := s.heap.update l (Obj.mapSeq fun x => x ++ its), toks := s.toks }) := by
  refine .of_wp fun prog w A R s h => ?_
  obtain ⟨hp, g, d, tk, os⟩ := s
  obtain ⟨hl, hb, h⟩ := h
  have z1 := AutoSeq1.idx_int
  have z2 := AutoSeq1.sub_tuple_tuple
  have z3 := AutoSeq1.sub_list_list
  have z4 := AutoSeq1.sub_tuple_list
  have z5 := AutoSeq1.sub_list_tuple
  wp_walk using (wpAny_updateSeq hl rfl (hz := c1) (_hz' := c2)), wpAny_loadPart' hl, wpAny_loadPart' hb
  exact ⟨_, rfl, h⟩
section
variable {X : Cx}
def rExtendT (K : PySem.W.Frag) : V → List V → Hp → VK → Prop := fun x vs H Q => ∃ l b xs zs, x = .ref l ∧ vs = [.ref b] ∧ H l = some (.lst xs) ∧ SqT K H b zs ∧ xs.length + zs.length ≤ sizeLine ∧ Q .non (upd H l (.lst (xs ++ zs)))
theorem mt_extendT : MtM X "list.extend" (rExtendT X.K) := by
  intro pins s σ H x vs v us Q I rx rv h
  obtain ⟨l, b, xs, zs, rfl, rfl, hH, hB, hz, q⟩ := h
  cases rx
  obtain ⟨u, rfl, ru⟩ := rv.one
  cases ru
  obtain ⟨z, its, n, r, hl, e⟩ := I.lstM hH
  obtain ⟨its2, r2, ⟨⟨cls, dd, data, sl⟩, e2, hc, n2, hd⟩, hl2⟩ := I.tuple hB
  simp only at hc hd
  subst hc hd
  have l2 := r2.length
  have hsz : its.toArray.size + its2.toArray.size ≤ sizeLine := by rw [List.size_toArray, List.size_toArray]; omega
  have hlong : ¬ (!its.toArray.isEmpty && Builtin.List.listTooLong (its.toArray.size + its2.toArray.size)) = true := by
    rw [notLongL hsz, Bool.and_false]
    exact Bool.false_ne_true
  refine call_meets F.slot_list_extend ⟨_, e, rfl⟩ F.entry_list_extend (F.args_list_extend_2 _ _)
    (ext_tup l b its.toArray its2.toArray n n2 dd sl hlong (by rw [List.size_toArray]; omega) (by rw [Array.size_append]; omega)) ⟨e, e2, ?_⟩
  refine ⟨.non, _, I.lset (its' := its ++ its2) hH e (by simp) (r.append r2) ?_, rfl, q⟩
  rw [List.length_append]
  omega
end
end KQ
set_option Elab.async false
set_option maxRecDepth 100000
set_option maxHeartbeats 4000000
/-! B11: things by their types alone; max of a tuple. -/
namespace KQ
open PySem PySem.Spec PyProof.Rows L2
def rInt1 : List V → Hp → VK → Prop := fun xs H Q => (∃ i, xs = [.int i] ∧ Q (.int i) H) ∨ ∃ k, xs = [.bl k] ∧ Q (.int (if k then 1 else 0)) H
/-- a thing and the name of its type -/
inductive Dt (H : Hp) : V → String → Prop
  | non : Dt H .non "NoneType"
  | bl (b : Bool) : Dt H (.bl b) "bool"
  | int (i : Int) : Dt H (.int i) "int"
  | str (x : Str) : Dt H (.str x) "str"
  | lst {a : Addr} {xs : List V} (e : H a = some (.lst xs)) : Dt H (.ref a) "list"
  | tup {a : Addr} {xs : List V} (e : H a = some (.tup xs)) : Dt H (.ref a) "tuple"
  | dK {a : Addr} {kvs : List (Key × V)} (e : H a = some (.dK kvs)) : Dt H (.ref a) "dict"
theorem Dt.ty {K : PySem.W.Frag} {H : Hp} {v : V} {t : String} (d : Dt H v t) : TyX K H v (.type t) := by
  cases d with
  | non => exact .base .non
  | bl b => exact .base (.bl b)
  | int i => exact .base (.int i)
  | str x => exact .base (.str x)
  | lst e => exact .base (.lst e)
  | tup e => exact .base (.tup e)
  | dK e => exact .base (.dK e)
theorem Dt.in_ {H : Hp} {v : V} {t : String} (d : Dt H v t) : t ∈ tyNs := by cases d <;> simp [tyNs]
theorem Dt.kp {H H' : Hp} {v : V} {t : String} (d : Dt H v t) (k : ∀ a o, v = .ref a → H a = some o → H' a = some o) : Dt H' v t := by
  cases d with
  | non => exact .non
  | bl b => exact .bl b
  | int i => exact .int i
  | str x => exact .str x
  | lst e => exact .lst (k _ _ rfl e)
  | tup e => exact .tup (k _ _ rfl e)
  | dK e => exact .dK (k _ _ rfl e)
theorem Dt.same {H H' : Hp} {v : V} {t : String} (d : Dt H v t) (s : Same H H') : Dt H' v t := d.kp fun a o _ e => s a o e
abbrev isTy (T t : String) : Bool := t == T || (T == "int" && t == "bool")
theorem kd_T {K : PySem.W.Frag} {T : String} (h : ∀ s ∈ tyNs, kitB s T = some (s == T || (T == "int" && s == "bool"))) {H : Hp} {v : V} {t : String} (d : Dt H v t) : PySem.W.kitOne K (.type t) (.type T) = some (isTy T t) := kit_ty (h _ d.in_)
theorem Dt.kint {K : PySem.W.Frag} {H : Hp} {v : V} {t : String} (d : Dt H v t) : PySem.W.kitOne K (.type t) (.type "int") = some (isTy "int" t) := kd_T (by decide +kernel) d
theorem Dt.kbool {K : PySem.W.Frag} {H : Hp} {v : V} {t : String} (d : Dt H v t) : PySem.W.kitOne K (.type t) (.type "bool") = some (isTy "bool" t) := kd_T (by decide +kernel) d
theorem Dt.ktuple {K : PySem.W.Frag} {H : Hp} {v : V} {t : String} (d : Dt H v t) : PySem.W.kitOne K (.type t) (.type "tuple") = some (isTy "tuple" t) := kd_T (by decide +kernel) d
theorem Dt.klist {K : PySem.W.Frag} {H : Hp} {v : V} {t : String} (d : Dt H v t) : PySem.W.kitOne K (.type t) (.type "list") = some (isTy "list" t) := kd_T (by decide +kernel) d
theorem Dt.kstr {K : PySem.W.Frag} {H : Hp} {v : V} {t : String} (d : Dt H v t) : PySem.W.kitOne K (.type t) (.type "str") = some (isTy "str" t) := kd_T (by decide +kernel) d
theorem Rp.dt {N : Addr → Prop} {H : Hp} {v : V} {d : PyData} (r : Rp N H v d) : Dt H v (tyN d) := by
  cases r with
  | non => exact .non
  | bl b => exact .bl b
  | int i => exact .int i
  | str x => exact .str x
  | lst e _ _ => exact .lst e
  | tup e _ _ => exact .tup e
  | emp e _ => exact .dK e
/-- max of a tuple of numbers -/
def rMaxT (K : PySem.W.Frag) : List V → Hp → VK → Prop := fun vs H Q => ∃ (a : Addr) (ns : List Int), vs = [V.ref a] ∧ SqT K H a (ns.map V.int) ∧ 0 < ns.length ∧ ∀ m, m ∈ ns → (∀ y, y ∈ ns → y ≤ m) → Q (.int m) H
theorem cr_maxT {X : Cx} (hc : X.calm = true) : CallR X (.builtin "max") (rMaxT X.K) := by
  intro pins s σ H vs us Q I r h
  obtain ⟨a, ns, rfl, hs, hne, q⟩ := h
  obtain ⟨its, rv, ht, _⟩ := I.tuple hs
  rw [Vals.ref1 r]
  have hi := rv.ints
  obtain ⟨ys, e⟩ := hi.allInts.items
  have hn : numsOf (intItems ys).toList = ns := by rw [← e]; exact hi.numsOf
  rw [nums_intItems] at hn
  have ht' : s.heap.IsTuple a (intItems ys) := by rw [← e]; exact ht
  have hlt : a < s.heap.objs.size := by obtain ⟨_, g, _⟩ := ht'; exact Heap.lt_size g
  have hsz : (intItems ys).size = ys.size := by simp [intItems]
  have hpos : 0 < ys.size := by
    rw [← hn, List.length_map, Array.length_toList] at hne
    exact hne
  refine call_max_walk (wpAny_pyIter_tuple ht' ?_)
  refine ⟨s.heap.objs.size, _, _, _, _, _, _, rfl, Walks.tuple (A := X.A.in1) (I.ok.hd hc) _ a (Nat.ne_of_lt hlt) (intItems ys), ⟨⟨_, Heap.get?_push_size _ rfl, rfl, rfl⟩, ?_⟩, fun b hb => ?_, by rw [hsz]; exact hpos, CmpOf.ints_gt (numAt ys) (fun _ _ => intItems_at), fun v h' tk hP hk => ?_⟩
  · obtain ⟨o, g, k1, k2⟩ := ht'
    exact ⟨o, Heap.get?_push_of_some _ g, k1, k2⟩
  · show b < (s.heap.push _).objs.size
    rw [Heap.size_push]
    have hb' : b = s.heap.objs.size ∨ b = a := by simpa using hb
    rcases hb' with z | z
    · rw [z]; exact Nat.lt_succ_self _
    · rw [z]; exact Nat.lt_succ_of_lt hlt
  · have kk : ∀ b o, s.heap.get? b = some o → h'.get? b = some o := fun b o g => hk b o (fun hm => by
      have : b = s.heap.objs.size := by simpa using hm
      rw [this] at g
      exact absurd (Heap.lt_size g) (Nat.lt_irrefl _)) (Heap.get?_push_of_some _ g)
    have I' : Inv X pins σ H { s with heap := h', toks := tk } := I.kept kk
    rw [hsz] at hP
    obtain ⟨u, rfl⟩ := intItems_at hP
    obtain ⟨h1, h2⟩ := argBest_gt (numAt ys) (ys.size - 1)
    subst hn
    refine ⟨.int _, H, I', ⟨u, rfl⟩, q _ ?_ fun y hy => ?_⟩
    · rw [numAt_eq]; exact PySem.getD_mem (by rw [List.length_map, Array.length_toList]; omega)
    · obtain ⟨j, hj, rfl⟩ := mem_getD hy; rw [List.length_map, Array.length_toList] at hj; rw [← numAt_eq]; exact h2 j (by omega)
end KQ
namespace KQ
open PySem PySem.Spec PyProof.Rows L2
theorem same_new0 {H : Hp} {p : Addr} {o : HO} (h : H p = none) : Same H (upd H p o) := fun b u q => by rw [upd_ne (ne_of_none q h)]; exact q
theorem sput {H H1 : Hp} {x : Addr} {o : HO} (s : Same H H1) (h : H x = none) : Same H (upd H1 x o) := fun b u q => by
  rw [upd_ne (ne_of_none q h)]
  exact s b u q
theorem snew {H H1 : Hp} {x : Addr} {o : HO} (s : Same H H1) (h : H1 x = none) : Same H (upd H1 x o) := fun b u q => by
  rw [upd_ne (ne_of_none (s b u q) h)]
  exact s b u q
theorem kp_same {N : Addr → Prop} {H H1 : Hp} (s : Same H H1) : Kp N H H1 := fun a o e _ => s a o e
/-! ### a comprehension by the list that grows -/
structure Snoc (D : Addr) (Pn : Hp → Prop) (y : V) (H : Hp) : Prop where
  h : ∃ acc, H D = some (.lst acc) ∧ acc.length < sizeLine ∧ Pn (upd H D (.lst (acc ++ [y])))
theorem snoc_eq (D : Addr) (Pn : Hp → Prop) (y : V) (H : Hp) : Snoc D Pn y H = ∃ acc, H D = some (.lst acc) ∧ acc.length < sizeLine ∧ Pn (upd H D (.lst (acc ++ [y]))) := propext ⟨fun q => q.h, fun q => ⟨q⟩⟩
section
variable {J : It} {n : Nat} {G : Hp → Prop} {Y : Nat → Hp → V → Hp → Prop}
theorem lc_acc (w : Walk J n G Y) {g : TG} {tt : TT} {te : TE} {vs : List Nat} {σ : L2.St} {H1 : Hp} {D : Addr} {Qd : Hp → Prop} (acc : Nat → List V) (I : Nat → Hp → Prop) (N : Addr → Prop)
    (nN : ¬ N D) (nD : H1 D = none) (hsz : ∀ i, i < n → (acc i).length < sizeLine) (a0 : acc 0 = []) (i0 : I 0 (upd H1 D (.lst []))) (hI : ∀ i H xs, Kp N H1 H → I i H → I i (upd H D (.lst xs)))
    (hG : ∀ i H, i ≤ n → Kp N H1 H → I i H → G H)
    (hs : ∀ i x H H' (Pn : Hp → Prop), i < n → Kp N H1 H → H D = some (.lst (acc i)) → I i H → Y i H x H' → (∀ y H4, acc (i + 1) = acc i ++ [y] → Kp N H H4 → I (i + 1) H4 → Snoc D Pn y H4) → (∀ H4, acc (i + 1) = acc i → Kp N H H4 → I (i + 1) H4 → Pn H4) →
      g x (wipe σ vs) H' fun σ2 H2 => wipe σ2 vs = wipe σ vs ∧ tt σ2 H2 fun b H3 => if b = true then te σ2 H3 fun y H4 => Snoc D Pn y H4 else Pn H3)
    (hd : ∀ H, Kp N H1 H → H D = some (.lst (acc n)) → I n H → Qd H) :
    ∃ W : Nat → Nat → Hp → Prop, (∃ m, W 0 m (upd H1 D (.lst []))) ∧ ∀ i m H, W i m H →
      (J.stop i H ∧ Qd H) ∨ (J.go i H ∧ ∃ Nx : Hp → Prop, (∀ H', Nx H' → ∃ m', m' < m ∧ W (i + 1) m' H') ∧ ∀ x H', J.yld i H x H' → g x (wipe σ vs) H' fun σ2 H2 => wipe σ2 vs = wipe σ vs ∧ tt σ2 H2 fun b H3 =>
        if b = true then te σ2 H3 fun y H4 => ∃ acc, H4 D = some (.lst acc) ∧ acc.length < sizeLine ∧ Nx (upd H4 D (.lst (acc ++ [y]))) else Nx H3) := by
  have kD : ∀ {H xs}, Kp N H1 H → Kp N H1 (upd H D (.lst xs)) := fun {H xs} k a o e na => by
    rw [upd_ne (ne_of_none e nD)]
    exact k a o e na
  refine lc_it w (fun i H => Kp N H1 H ∧ H D = some (.lst (acc i)) ∧ I i H) ⟨kD Kp.refl, by rw [a0]; exact upd_same, i0⟩ (fun i H hi q => hG i H hi q.1 q.2.2) (fun i x H H' hi q y => ?_) fun H q => hd H q.1 q.2.1 q.2.2
  obtain ⟨q1, q2, q3⟩ := q
  have z := hs i x H H' (fun H => Kp N H1 H ∧ H D = some (.lst (acc (i + 1))) ∧ I (i + 1) H) hi q1 q2 q3 y
    (fun y H4 e k j => ⟨acc i, k D _ q2 nN, hsz i hi, kD (q1.trans k), by rw [upd_same, e], hI (i + 1) H4 _ (q1.trans k) j⟩) fun H4 e k j => ⟨q1.trans k, by rw [e]; exact k D _ q2 nN, j⟩
  simp only [snoc_eq] at z
  exact z
/-- .. each item gives one -/
theorem lc_map (w : Walk J n G Y) {g : TG} {te : TE} {vs : List Nat} {σ : L2.St} {H1 : Hp} {D : Addr} {Qd : Hp → Prop} (ys : List V) (hn : ys.length = n) (nD : H1 D = none) (hz : n ≤ 16777216)
    (hG : ∀ i H, i ≤ n → Same H1 H → G H)
    (hs : ∀ i x H H' (Pn : Hp → Prop), i < n → Same H1 H → Y i H x H' → (∀ y H4, ys[i]? = some y → Same H H4 → Snoc D Pn y H4) → g x (wipe σ vs) H' fun σ2 H2 => wipe σ2 vs = wipe σ vs ∧ te σ2 H2 fun y H4 => Snoc D Pn y H4)
    (hd : ∀ H, Same H1 H → H D = some (.lst ys) → Qd H) :
    ∃ W : Nat → Nat → Hp → Prop, (∃ m, W 0 m (upd H1 D (.lst []))) ∧ ∀ i m H, W i m H →
      (J.stop i H ∧ Qd H) ∨ (J.go i H ∧ ∃ Nx : Hp → Prop, (∀ H', Nx H' → ∃ m', m' < m ∧ W (i + 1) m' H') ∧ ∀ x H', J.yld i H x H' → g x (wipe σ vs) H' fun σ2 H2 => wipe σ2 vs = wipe σ vs ∧ tYes σ2 H2 fun b H3 =>
        if b = true then te σ2 H3 fun y H4 => ∃ acc, H4 D = some (.lst acc) ∧ acc.length < sizeLine ∧ Nx (upd H4 D (.lst (acc ++ [y]))) else Nx H3) := by
  have sm : ∀ {H H' : Hp}, Kp (fun _ => False) H H' → Same H H' := fun k a o e => k a o e (fun z => z)
  refine lc_acc w (fun i => ys.take i) (fun _ _ => True) (fun _ => False) (fun z => z) nD (fun i hi => ?_) rfl trivial (fun _ _ _ _ _ => trivial) (fun i H hi k _ => hG i H hi (sm k)) (fun i x H H' Pn hi k _ _ y fin _ => ?_) fun H k e _ => hd H (sm k) (by rw [← hn, List.take_length] at e; exact e)
  · rw [List.length_take, sizeLine_eq]
    omega
  · have z := hs i x H H' Pn hi (sm k) y fun y H4 e s => fin y H4 (by rw [List.take_add_one, e]; rfl) (kp_same s) trivial
    have e : (fun (σ2 : L2.St) (H2 : Hp) => wipe σ2 vs = wipe σ vs ∧ tYes σ2 H2 fun b H3 => if b = true then te σ2 H3 fun y H4 => Snoc D Pn y H4 else Pn H3) = fun σ2 H2 => wipe σ2 vs = wipe σ vs ∧ te σ2 H2 fun y H4 => Snoc D Pn y H4 := by
      funext σ2 H2
      have e2 : tYes σ2 H2 (fun b H3 => if b = true then te σ2 H3 fun y H4 => Snoc D Pn y H4 else Pn H3) = te σ2 H2 fun y H4 => Snoc D Pn y H4 := by
        show (if true = true then te σ2 H2 (fun y H4 => Snoc D Pn y H4) else Pn H2) = _
        exact if_pos rfl
      rw [e2]
    rw [e]
    exact z
end
theorem same_kpF {H H' : Hp} (k : Kp (fun _ => False) H H') : Same H H' := fun a o e => k a o e (fun z => z)
theorem sIx_none (n d : Nat) : HT.sIx n d none = d := rfl
theorem sIx_some (n d k : Nat) : HT.sIx n d (some (k : Int)) = min k n := HT.sIx_nat n d k
theorem cut_take {xs : List V} (k : Nat) : cutV xs none (some (k : Int)) = xs.take k := by
  rw [cutV, sIx_none, sIx_some, List.drop_zero, Nat.sub_zero]
  by_cases h : k ≤ xs.length
  · rw [Nat.min_eq_left h]
  · rw [Nat.min_eq_right (by omega), List.take_length, List.take_of_length_le (by omega)]
theorem cut_drop {xs : List V} (k : Nat) : cutV xs (some (k : Int)) none = xs.drop k := by
  rw [cutV, sIx_none, sIx_some]
  by_cases h : k ≤ xs.length
  · rw [Nat.min_eq_left h, List.take_of_length_le (by rw [List.length_drop]; omega)]
  · rw [Nat.min_eq_right (by omega), List.drop_length, List.drop_of_length_le (by omega), List.take_nil]
theorem walk_zipT {K : PySem.W.Frag} {a b : Addr} {xs ys : List V} {n : Nat} (hn : n = min xs.length ys.length) : Walk (RZ.ItzT K a b) n (fun H => SqT K H a xs ∧ SqT K H b ys) (YPair (fun i => xs[i]?) (fun i => ys[i]?)) := by
  subst hn
  refine ⟨fun i _ hi q => ?_, fun _ q => ⟨xs, ys, q.1, q.2, by omega⟩, fun i H v H' _ q y => ?_⟩
  · have h1 : i < xs.length := by omega
    have h2 : i < ys.length := by omega
    exact ⟨xs, ys, xs[i], ys[i], q.1, q.2, by simp [h1], by simp [h2]⟩
  · obtain ⟨T, x, z, h1, h2, h3, h4, h5⟩ := y
    exact ⟨T, x, z, h1, h2, h3, h4 xs q.1, h5 ys q.2⟩
/-- as a comprehension's turn over zip is met: a new pair -/
theorem ypair {xs ys : List V} {i : Nat} {H H' : Hp} {v : V} (y : YPair (fun i => xs[i]?) (fun i => ys[i]?) i H v H') : ∃ T x z, v = .ref T ∧ H T = none ∧ H' = upd H T (.tup [x, z]) ∧ xs[i]? = some x ∧ ys[i]? = some z := y
theorem cut_whole {xs : List V} {lo hi : Option Int} (h : HT.sIx xs.length 0 lo = 0 ∧ HT.sIx xs.length xs.length hi = xs.length) : cutV xs lo hi = xs := by
  rw [cutV, h.1, h.2, List.drop_zero, Nat.sub_zero, List.take_length]
theorem sl_go {K : PySem.W.Frag} {H : Hp} {a : Addr} {xs : List V} {lo hi : Option Int} {Q : VK} (ha : H a = some (.tup xs)) (h : ∀ b H1, Same H H1 → H1 b = some (.tup (cutV xs lo hi)) → Q (.ref b) H1) : rSlA K (.ref a) lo hi H Q :=
  ⟨a, xs, rfl, SqT.of ha, fun w => h a H (Same.refl H) (by rw [cut_whole w]; exact ha), fun _ p np => h p _ (same_new0 np) upd_same⟩
theorem cat_go {K : PySem.W.Frag} {H : Hp} {a b : Addr} {xs ys : List V} {Q : VK} (ha : H a = some (.tup xs)) (hb : H b = some (.tup ys)) (hz : xs.length + ys.length ≤ 16777216) (h : ∀ c H1, Same H H1 → H1 c = some (.tup (xs ++ ys)) → Q (.ref c) H1) : rCatA K (.ref a) (.ref b) H Q :=
  ⟨a, b, xs, ys, rfl, rfl, SqT.of ha, SqT.of hb, by rw [sizeLine_eq]; exact hz, fun e => h b H (Same.refl H) (by rw [e]; exact hb), fun _ e => h a H (Same.refl H) (by rw [e, List.append_nil]; exact ha), fun _ _ p np => h p _ (same_new0 np) upd_same⟩
theorem cut1 {xs : List V} : cutV xs (some 1) none = xs.drop 1 := cut_drop 1
end KQ
set_option Elab.async false
set_option maxRecDepth 100000
set_option maxHeartbeats 4000000
/-! B12: shares: the numbers that they are. -/
namespace KQ
open PySem PySem.Spec PyProof.Rows L2
/-- the places of a set below n as a number, place -1 first -/
def Vs (S : Int → Bool) : Nat → Nat
  | 0 => (S (-1)).toNat
  | j + 1 => 2 * Vs S j + (S (j : Int)).toNat
def put (S : Int → Bool) (p : Int) (b : Bool) : Int → Bool := fun q => if q = p then b else S q
theorem Vs_congr {S T : Int → Bool} : ∀ {n : Nat}, (∀ q : Int, -1 ≤ q → q < n → S q = T q) → S (-1) = T (-1) → Vs S n = Vs T n
  | 0, _, h => by simp only [Vs]; rw [h]
  | j + 1, h, h0 => by
    simp only [Vs]
    rw [Vs_congr (n := j) (fun q a b => h q a (by omega)) h0, h (j : Int) (by omega) (by omega)]
theorem Vs_put {S : Int → Bool} {p : Int} (h : S p = false) : ∀ {n : Nat}, -1 ≤ p → p < n → Vs (put S p true) n = Vs S n + 2 ^ (n - (p + 1).toNat)
  | 0, a, b => by
    obtain rfl : p = -1 := by omega
    simp [Vs, put, h]
  | j + 1, a, b => by
    simp only [Vs]
    by_cases e : p = j
    · subst e
      rw [Vs_congr (S := put S j true) (T := S) (fun q a b => by unfold put; rw [if_neg (by omega)]) (by unfold put; rw [if_neg (by omega)]), show put S (j : Int) true (j : Int) = true by simp [put], h]
      rw [show j + 1 - ((j : Int) + 1).toNat = 0 by omega]
      rfl
    · rw [Vs_put h (n := j) a (by omega), show put S p true (j : Int) = S (j : Int) by unfold put; rw [if_neg (fun z => e z.symm)]]
      rw [show j + 1 - (p + 1).toNat = (j - (p + 1).toNat) + 1 by omega, Nat.pow_succ]
      omega
theorem put_put {S : Int → Bool} {p : Int} (h : S p = true) : put (put S p false) p true = S := by
  funext q
  unfold put
  by_cases e : q = p
  · rw [if_pos e, e, h]
  · rw [if_neg e, if_neg e]
theorem Vs_del {S : Int → Bool} {p : Int} (h : S p = true) {n : Nat} (a : -1 ≤ p) (b : p < n) : Vs S n = Vs (put S p false) n + 2 ^ (n - (p + 1).toNat) := by
  have q := Vs_put (S := put S p false) (p := p) (by simp [put]) (n := n) a b
  rwa [put_put h] at q
theorem Vs_inj {S T : Int → Bool} : ∀ {n : Nat}, Vs S n = Vs T n → ∀ q : Int, -1 ≤ q → q < n → S q = T q
  | 0, e, q, a, b => by
    obtain rfl : q = -1 := by omega
    simp only [Vs] at e
    revert e
    cases S (-1) <;> cases T (-1) <;> simp
  | j + 1, e, q, a, b => by
    simp only [Vs] at e
    have h1 : (S (j : Int)).toNat ≤ 1 := by cases S (j : Int) <;> simp
    have h2 : (T (j : Int)).toNat ≤ 1 := by cases T (j : Int) <;> simp
    by_cases c : q = j
    · subst c
      have : (S (j : Int)).toNat = (T (j : Int)).toNat := by omega
      revert this
      cases S (j : Int) <;> cases T (j : Int) <;> simp
    · exact Vs_inj (n := j) (by omega) q a (by omega)
theorem Vs_neg {S : Int → Bool} (h : S (-1) = true) : ∀ n : Nat, 2 ^ n ≤ Vs S n
  | 0 => by simp [Vs, h]
  | j + 1 => by
    have := Vs_neg h j
    simp only [Vs, Nat.pow_succ]
    omega
theorem Vs_zero {S : Int → Bool} (h : S 0 = true) : ∀ j : Nat, 2 ^ j ≤ Vs S (j + 1)
  | 0 => by simp [Vs, h]
  | j + 1 => by
    have := Vs_zero h j
    rw [Vs, Nat.pow_succ]
    omega
theorem Vs_more {S : Int → Bool} (h : S 0 = true) {p : Int} (hp : 1 ≤ p) (hS : S p = true) : ∀ j : Nat, p < j + 1 → 2 ^ j < Vs S (j + 1)
  | 0, b => by omega
  | j + 1, b => by
    rw [Vs, Nat.pow_succ]
    by_cases c : p = j + 1
    · have q := Vs_zero h j
      have : (S ((j + 1 : Nat) : Int)).toNat = 1 := by rw [show ((j + 1 : Nat) : Int) = p by omega, hS]; rfl
      omega
    · have := Vs_more h hp hS j (by omega)
      omega
theorem Vs_lt {S : Int → Bool} (h : S (-1) = false) (h0 : S 0 = false) : ∀ j : Nat, Vs S (j + 1) + 1 ≤ 2 ^ j
  | 0 => by
    simp only [Vs, h]
    rw [show ((0 : Nat) : Int) = 0 from rfl, h0]
    decide
  | j + 1 => by
    have := Vs_lt h h0 j
    have : (S ((j + 1 : Nat) : Int)).toNat ≤ 1 := by cases S ((j + 1 : Nat) : Int) <;> simp
    rw [Vs, Nat.pow_succ]
    omega
theorem Vs_up {S : Int → Bool} {n : Nat} (h : ∀ q : Int, n ≤ q → S q = false) : ∀ k : Nat, Vs S (n + k) = 2 ^ k * Vs S n
  | 0 => by simp
  | k + 1 => by
    rw [show n + (k + 1) = (n + k) + 1 by omega, Vs, Vs_up h k, h _ (by omega), Nat.pow_succ]
    show 2 * (2 ^ k * Vs S n) + 0 = _
    rw [Nat.add_zero, ← Nat.mul_assoc, Nat.mul_comm 2]
/-- the set's places, ascending -/
def lotS (S : Int → Bool) : Nat → List Int
  | 0 => if S (-1) then [-1] else []
  | j + 1 => lotS S j ++ if S (j : Int) then [(j : Int)] else []
def lotV : Nat → Nat → List Int
  | 0, W => if W % 2 = 1 then [-1] else []
  | j + 1, W => lotV j (W / 2) ++ if W % 2 = 1 then [(j : Int)] else []
theorem lotV_Vs {S : Int → Bool} : ∀ n : Nat, lotV n (Vs S n) = lotS S n
  | 0 => by cases h : S (-1) <;> simp [lotV, lotS, Vs, h]
  | j + 1 => by
    cases h : S (j : Int)
    · simp only [lotV, lotS, Vs, h]
      rw [show (2 * Vs S j + false.toNat) / 2 = Vs S j by show (2 * Vs S j + 0) / 2 = _; omega, show (2 * Vs S j + false.toNat) % 2 = 0 by show (2 * Vs S j + 0) % 2 = _; omega, lotV_Vs j]
      rfl
    · simp only [lotV, lotS, Vs, h]
      rw [show (2 * Vs S j + true.toNat) / 2 = Vs S j by show (2 * Vs S j + 1) / 2 = _; omega, show (2 * Vs S j + true.toNat) % 2 = 1 by show (2 * Vs S j + 1) % 2 = _; omega, lotV_Vs j]
      rfl
theorem mem_lotS {S : Int → Bool} {q : Int} : ∀ {n : Nat}, q ∈ lotS S n ↔ (-1 ≤ q ∧ q < n ∧ S q = true)
  | 0 => by
    simp only [lotS]
    cases h : S (-1)
    · simp only [Bool.false_eq_true, if_false, List.not_mem_nil, false_iff]
      rintro ⟨a, b, c⟩
      rw [show q = -1 by omega, h] at c
      cases c
    · simp only [if_true, List.mem_singleton]
      exact ⟨fun e => by subst e; exact ⟨by omega, by omega, h⟩, fun ⟨a, b, c⟩ => by omega⟩
  | j + 1 => by
    simp only [lotS, List.mem_append, mem_lotS (n := j)]
    cases h : S (j : Int)
    · simp only [Bool.false_eq_true, if_false, List.not_mem_nil, or_false]
      constructor
      · rintro ⟨a, b, c⟩
        exact ⟨a, by omega, c⟩
      · rintro ⟨a, b, c⟩
        refine ⟨a, ?_, c⟩
        by_cases e : q = j
        · rw [e, h] at c; cases c
        · omega
    · simp only [if_true, List.mem_singleton]
      constructor
      · rintro (⟨a, b, c⟩ | e)
        · exact ⟨a, by omega, c⟩
        · subst e; exact ⟨by omega, by omega, h⟩
      · rintro ⟨a, b, c⟩
        by_cases e : q = j
        · exact .inr e
        · exact .inl ⟨a, by omega, c⟩
theorem lotS_asc {S : Int → Bool} : ∀ n : Nat, (lotS S n).Pairwise (· < ·)
  | 0 => by
    simp only [lotS]
    split <;> simp
  | j + 1 => by
    simp only [lotS]
    refine List.pairwise_append.mpr ⟨lotS_asc j, by split <;> simp, fun a ha b hb => ?_⟩
    have := (mem_lotS.mp ha).2.1
    split at hb
    · simp only [List.mem_singleton] at hb
      omega
    · simp at hb
theorem asc_ext : ∀ {l m : List Int}, l.Pairwise (· < ·) → m.Pairwise (· < ·) → (∀ q, q ∈ l ↔ q ∈ m) → l = m
  | [], [], _, _, _ => rfl
  | [], y :: m, _, _, h => absurd ((h y).mpr (List.mem_cons_self ..)) (List.not_mem_nil)
  | x :: l, [], _, _, h => absurd ((h x).mp (List.mem_cons_self ..)) (List.not_mem_nil)
  | x :: l, y :: m, hl, hm, h => by
    obtain ⟨a, hl'⟩ := List.pairwise_cons.mp hl
    obtain ⟨b, hm'⟩ := List.pairwise_cons.mp hm
    have e : x = y := by
      rcases List.mem_cons.mp ((h x).mp (List.mem_cons_self ..)) with e | e
      · exact e
      · rcases List.mem_cons.mp ((h y).mpr (List.mem_cons_self ..)) with e2 | e2
        · exact e2.symm
        · have := b x e
          have := a y e2
          omega
    subst e
    refine congrArg (x :: ·) (asc_ext hl' hm' fun q => ?_)
    constructor
    · intro hq
      rcases List.mem_cons.mp ((h q).mp (List.mem_cons_of_mem _ hq)) with e | e
      · have := a q hq; omega
      · exact e
    · intro hq
      rcases List.mem_cons.mp ((h q).mpr (List.mem_cons_of_mem _ hq)) with e | e
      · have := b q hq; omega
      · exact e
abbrev mS (ns : List Int) : Int → Bool := fun q => decide (q ∈ ns)
theorem lotS_mS {ns : List Int} {n : Nat} (h : ns.Pairwise (· < ·)) (hb : ∀ q ∈ ns, -1 ≤ q ∧ q < n) : lotS (mS ns) n = ns :=
  asc_ext (lotS_asc n) h fun q => mem_lotS.trans ⟨fun ⟨_, _, c⟩ => of_decide_eq_true c, fun c => ⟨(hb q c).1, (hb q c).2, decide_eq_true c⟩⟩
/-- a share's numbers -/
structure Sh (ns : List Int) : Prop where
  nn : ∀ q ∈ ns, 0 ≤ q
  asc : ns.Pairwise (· < ·)
  zero : 0 ∈ ns → ns = [0]
theorem Sh.le {ns : List Int} (h : Sh ns) {n : Nat} (hb : ∀ q ∈ ns, q < ((n + 1 : Nat) : Int)) : Vs (mS ns) (n + 1) ≤ 2 ^ n := by
  have h1 : mS ns (-1) = false := decide_eq_false fun z => by have := h.nn _ z; omega
  by_cases c : (0 : Int) ∈ ns
  · rw [h.zero c]
    have : ∀ j : Nat, Vs (mS [0]) (j + 1) = 2 ^ j := fun j => by
      induction j with
      | zero => rfl
      | succ j ih =>
        rw [Vs, ih, Nat.pow_succ, show mS [0] ((j + 1 : Nat) : Int) = false from decide_eq_false (by simp; omega)]
        show 2 * 2 ^ j + 0 = _
        omega
    rw [this]
    exact Nat.le_refl _
  · have := Vs_lt h1 (decide_eq_false c) n
    omega
/-- what is ascending within, and worth no more than the whole, is a share -/
theorem Sh.of {ns : List Int} {n : Nat} (h : ns.Pairwise (· < ·)) (hb : ∀ q ∈ ns, -1 ≤ q ∧ q < ((n + 1 : Nat) : Int)) (hv : Vs (mS ns) (n + 1) ≤ 2 ^ n) : Sh ns := by
  have p2 : 0 < 2 ^ n := Nat.pow_pos (by decide)
  have h1 : (-1 : Int) ∉ ns := fun z => by
    have := Vs_neg (S := mS ns) (decide_eq_true z) (n + 1)
    rw [Nat.pow_succ] at this
    omega
  refine ⟨fun q hq => ?_, h, fun z => asc_ext h (by simp) fun q => ⟨fun hq => ?_, fun e => ?_⟩⟩
  · have := (hb q hq).1
    by_cases e : q = -1
    · rw [e] at hq; exact absurd hq h1
    · omega
  · have b := hb q hq
    by_cases e : q = 0
    · simp [e]
    · by_cases e2 : q = -1
      · rw [e2] at hq; exact absurd hq h1
      · have := Vs_more (S := mS ns) (decide_eq_true z) (p := q) (by omega) (decide_eq_true hq) n (by omega)
        omega
  · simp only [List.mem_singleton] at e
    rw [e]; exact z
/-- the share that two come to -/
def addS (n : Nat) (ns ms : List Int) : Option (List Int) :=
  if Vs (mS ns) (n + 1) + Vs (mS ms) (n + 1) ≤ 2 ^ n then some (lotV (n + 1) (Vs (mS ns) (n + 1) + Vs (mS ms) (n + 1))) else none
abbrev Bd (n : Nat) (ns : List Int) : Prop := ∀ q ∈ ns, q < ((n + 1 : Nat) : Int)
theorem addS_comm {n : Nat} {ns ms : List Int} : addS n ns ms = addS n ms ns := by
  unfold addS
  rw [Nat.add_comm]
/-- what a set of that worth is -/
theorem addS_of {n : Nat} {ns ms ks : List Int} (h : ks.Pairwise (· < ·)) (hb : ∀ q ∈ ks, -1 ≤ q ∧ q < ((n + 1 : Nat) : Int)) (e : Vs (mS ks) (n + 1) = Vs (mS ns) (n + 1) + Vs (mS ms) (n + 1)) :
    (Sh ks ∧ addS n ns ms = some ks) ∨ (¬ Sh ks ∧ addS n ns ms = none) := by
  unfold addS
  rw [← e, lotV_Vs, lotS_mS h hb]
  by_cases c : Vs (mS ks) (n + 1) ≤ 2 ^ n
  · exact .inl ⟨Sh.of h hb c, if_pos c⟩
  · exact .inr ⟨fun s => c (s.le fun q hq => (hb q hq).2), if_neg c⟩
theorem lotV_ok {n W : Nat} (h : W < 2 ^ (n + 1)) : ∃ S : Int → Bool, Vs S n = W := by
  induction n generalizing W with
  | zero =>
    rcases (show W = 0 ∨ W = 1 by simp at h; omega) with rfl | rfl
    · exact ⟨fun _ => false, rfl⟩
    · exact ⟨fun _ => true, rfl⟩
  | succ n ih =>
    obtain ⟨S, hS⟩ := ih (W := W / 2) (by rw [Nat.pow_succ] at h; omega)
    refine ⟨put S n (decide (W % 2 = 1)), ?_⟩
    rw [Vs, Vs_congr (T := S) (fun q a b => by unfold put; rw [if_neg (by omega)]) (by unfold put; rw [if_neg (by omega)]), hS, show put S (n : Int) (decide (W % 2 = 1)) (n : Int) = decide (W % 2 = 1) by simp [put]]
    by_cases c : W % 2 = 1
    · simp [c]; omega
    · simp [c]; omega
theorem addS_some {n : Nat} {ns ms ks : List Int} (h : addS n ns ms = some ks) : Sh ks ∧ Bd n ks ∧ Vs (mS ks) (n + 1) = Vs (mS ns) (n + 1) + Vs (mS ms) (n + 1) ∧ Vs (mS ns) (n + 1) + Vs (mS ms) (n + 1) ≤ 2 ^ n := by
  unfold addS at h
  split at h
  · rename_i c
    cases h
    obtain ⟨S, hS⟩ := lotV_ok (n := n + 1) (W := Vs (mS ns) (n + 1) + Vs (mS ms) (n + 1)) (by rw [Nat.pow_succ, Nat.pow_succ]; have : 0 < 2 ^ n := Nat.pow_pos (by decide); omega)
    rw [← hS, lotV_Vs]
    have e : Vs (mS (lotS S (n + 1))) (n + 1) = Vs S (n + 1) := Vs_congr (fun q a b => by
      by_cases z : S q = true
      · rw [z]; exact decide_eq_true (mem_lotS.mpr ⟨a, b, z⟩)
      · rw [Bool.eq_false_iff.mpr z]; exact decide_eq_false fun y => z (mem_lotS.mp y).2.2) (by
      by_cases z : S (-1) = true
      · rw [z]; exact decide_eq_true (mem_lotS.mpr ⟨by omega, by omega, z⟩)
      · rw [Bool.eq_false_iff.mpr z]; exact decide_eq_false fun y => z (mem_lotS.mp y).2.2)
    have b : ∀ q ∈ lotS S (n + 1), -1 ≤ q ∧ q < ((n + 1 : Nat) : Int) := fun q hq => ⟨(mem_lotS.mp hq).1, (mem_lotS.mp hq).2.1⟩
    rw [e, hS]
    exact ⟨Sh.of (lotS_asc _) b (by rw [e, hS]; exact c), fun q hq => (b q hq).2, rfl, c⟩
  · cases h
/-- three in another order -/
theorem addS_third {n : Nat} {a b c d : List Int} (h : addS n a b = some d) (h2 : addS n d c ≠ none) : ∃ e, addS n a c = some e ∧ addS n e b = addS n d c ∧ addS n d c ≠ none := by
  obtain ⟨_, _, e1, _⟩ := addS_some h
  cases q : addS n d c with
  | none => exact absurd q h2
  | some r =>
    obtain ⟨_, _, e2, l2⟩ := addS_some q
    have l3 : Vs (mS a) (n + 1) + Vs (mS c) (n + 1) ≤ 2 ^ n := by omega
    have q3 : addS n a c = some (lotV (n + 1) (Vs (mS a) (n + 1) + Vs (mS c) (n + 1))) := if_pos l3
    refine ⟨_, q3, ?_, fun z => nomatch z⟩
    obtain ⟨_, _, e4, _⟩ := addS_some q3
    rw [← q]
    unfold addS
    rw [e4, e1, show Vs (mS a) (n + 1) + Vs (mS c) (n + 1) + Vs (mS b) (n + 1) = Vs (mS a) (n + 1) + Vs (mS b) (n + 1) + Vs (mS c) (n + 1) by omega]
theorem lotV_up : ∀ (k n W : Nat), lotV (n + k) (2 ^ k * W) = lotV n W
  | 0, n, W => by simp
  | k + 1, n, W => by
    rw [show n + (k + 1) = (n + k) + 1 by omega, lotV, show 2 ^ (k + 1) * W = 2 * (2 ^ k * W) by rw [Nat.pow_succ, Nat.mul_comm (2 ^ k) 2, Nat.mul_assoc], show 2 * (2 ^ k * W) / 2 = 2 ^ k * W by omega, show 2 * (2 ^ k * W) % 2 = 0 by omega, lotV_up k n W]
    simp
/-- more places make no difference -/
theorem addS_up {n k : Nat} {ns ms : List Int} (h1 : Bd n ns) (h2 : Bd n ms) : addS (n + k) ns ms = addS n ns ms := by
  have u : ∀ {l : List Int}, Bd n l → Vs (mS l) (n + 1 + k) = 2 ^ k * Vs (mS l) (n + 1) := fun h => Vs_up (fun q hq => decide_eq_false fun z => by have := h q z; omega) k
  unfold addS
  rw [show n + k + 1 = n + 1 + k by omega, u h1, u h2, ← Nat.mul_add, lotV_up, Nat.pow_add, Nat.mul_comm (2 ^ n)]
  have : 0 < 2 ^ k := Nat.pow_pos (by decide)
  by_cases c : Vs (mS ns) (n + 1) + Vs (mS ms) (n + 1) ≤ 2 ^ n
  · rw [if_pos c, if_pos (Nat.mul_le_mul_left _ c)]
  · rw [if_neg c, if_neg fun z => c (Nat.le_of_mul_le_mul_left z this)]
/-- two halves -/
theorem half_sh {ns : List Int} (h : Sh ns) : Sh (ns.map (· + 1)) :=
  ⟨fun q hq => by obtain ⟨p, hp, rfl⟩ := List.mem_map.mp hq; have := h.nn p hp; omega,
   List.pairwise_map.mpr (h.asc.imp fun h => by omega), fun z => by obtain ⟨p, hp, e⟩ := List.mem_map.mp z; have := h.nn p hp; omega⟩
theorem half_add {n : Nat} {ns : List Int} (h : Sh ns) (hb : ∀ q ∈ ns, q < n) : addS n (ns.map (· + 1)) (ns.map (· + 1)) = some ns := by
  have e : ∀ j : Nat, Vs (mS (ns.map (· + 1))) (j + 1) = Vs (mS ns) j := fun j => by
    have h1 : mS (ns.map (· + 1)) (-1) = false := decide_eq_false fun z => by obtain ⟨p, hp, e⟩ := List.mem_map.mp z; have := h.nn p hp; omega
    have h2 : ∀ q : Int, mS (ns.map (· + 1)) (q + 1) = mS ns q := fun q => by
      show decide _ = decide _
      congr 1
      exact propext ⟨fun z => by obtain ⟨p, hp, e⟩ := List.mem_map.mp z; rw [show q = p by omega]; exact hp, fun z => List.mem_map.mpr ⟨q, z, rfl⟩⟩
    induction j with
    | zero =>
      simp only [Vs, h1]
      have := h2 (-1)
      rw [show (-1 : Int) + 1 = 0 from rfl] at this
      rw [show ((0 : Nat) : Int) = 0 from rfl, this]
      show 2 * 0 + _ = _
      omega
    | succ j ih =>
      rw [Vs, ih, show ((j + 1 : Nat) : Int) = (j : Int) + 1 by omega, h2]
      rfl
  have b : ∀ q ∈ ns, -1 ≤ q ∧ q < ((n + 1 : Nat) : Int) := fun q hq => ⟨by have := h.nn q hq; omega, by have := hb q hq; omega⟩
  have v : Vs (mS ns) (n + 1) = Vs (mS (ns.map (· + 1))) (n + 1) + Vs (mS (ns.map (· + 1))) (n + 1) := by
    rw [e, Vs, show mS ns (n : Int) = false from decide_eq_false fun z => by have := hb _ z; omega]
    show 2 * Vs (mS ns) n + 0 = _
    omega
  rcases addS_of (ns := ns.map (· + 1)) (ms := ns.map (· + 1)) h.asc b v with q | q
  · exact q.2
  · exact absurd h q.1
end KQ
set_option Elab.async false
set_option maxRecDepth 100000
set_option maxHeartbeats 4000000
/-! B13: a tuple reversed by a slice. -/
namespace KQ
open PySem PySem.Spec PyProof.Rows L2
theorem adjust_rev (n : Nat) : Builtin.Slice.sliceAdjust none none (-1) (n : Int) = ((n : Int) - 1, -1) := by
  unfold Builtin.Slice.sliceAdjust
  simp
theorem places_rev (n : Nat) : Builtin.Slice.slicePlaces ((n : Int) - 1) (-1) (-1) = n := by
  unfold Builtin.Slice.slicePlaces
  have h1 : ¬ ((-1 : Int) > 0) := by omega
  simp only [h1, if_false]
  by_cases c : (n : Int) - 1 > -1
  · rw [if_pos c]
    have : ((n : Int) - 1 - -1 - 1) / (- -1) + 1 = n := by
      rw [show (- -1 : Int) = 1 by decide, Int.ediv_one]
      omega
    rw [this]
    omega
  · rw [if_neg c]
    omega
theorem pick_rev (xs : Array Value) : ((List.range xs.size).filterMap fun (m : Nat) => xs[(((xs.size : Int) - 1) + (m : Int) * (-1)).toNat]?).toArray = xs.toList.reverse.toArray := by
  congr 1
  apply List.ext_getElem?
  intro i
  have hm : ∀ l : List Nat, (∀ m ∈ l, m < xs.size) → (l.filterMap fun (m : Nat) => xs[(((xs.size : Int) - 1) + (m : Int) * (-1)).toNat]?) = l.map fun m => xs.toList.reverse.getD m Value.none := by
    intro l
    induction l with
    | nil => intro _; rfl
    | cons m l ih =>
      intro h
      have hm := h m (List.mem_cons_self ..)
      have e1 : (((xs.size : Int) - 1) + (m : Int) * (-1)).toNat = xs.size - 1 - m := by omega
      have e2 : xs[xs.size - 1 - m]? = some (xs.toList.reverse.getD m Value.none) := by
        have hl : m < xs.toList.reverse.length := by simp; omega
        rw [List.getD_eq_getElem?_getD, List.getElem?_reverse (by simpa using hm)]
        simp only [Array.length_toList, Array.getElem?_toList]
        rw [Array.getElem?_eq_getElem (by omega)]
        rfl
      rw [List.filterMap_cons, e1, e2, List.map_cons, ih fun m' h' => h m' (List.mem_cons_of_mem _ h')]
  rw [hm _ fun m h => List.mem_range.mp h, List.getElem?_map]
  by_cases c : i < xs.size
  · rw [List.getElem?_range c]
    have hl : i < xs.toList.reverse.length := by simpa using c
    simp only [Option.map_some, List.getD_eq_getElem?_getD]
    rw [List.getElem?_eq_getElem hl]
    rfl
  · rw [List.getElem?_eq_none (by simp; omega), List.getElem?_eq_none (by simp; omega)]
    rfl
section
variable {prog : Program} {w : World} {A : Around} {E : Value → Shared → Prop} {s : Shared}
theorem sliceApplied_rev {sl : Addr} {vs : Value} {n : Nat} {Q : Int × Int × Nat → Shared → Prop} (hs : s.heap.IsSliceOf sl .none .none vs) (ps : IsPart vs (some (-1)))
    (h : Q ((n : Int) - 1, -1, n) s) : wpAny (model prog w) A (Builtin.Slice.sliceApplied (.ref sl) (pure (n : Int))) Q E s := by
  obtain ⟨os, hos, hcs, hds⟩ := id hs
  unfold Builtin.Slice.sliceApplied Builtin.Slice.sliceFields
  refine wpAny_bind (wpAny_bind (wpAny_field hos hds (x := .none) rfl (wpAny_bind (wpAny_field hos hds (x := .none) rfl (wpAny_bind (wpAny_field hos hds (x := vs) rfl (wpAny_pure ?_)))))))
  refine wpAny_bind (HT.slicePart_ ps ?_)
  show wpAny _ _ (if ((-1 : Int) == 0) = true then _ else _) _ _ s
  rw [if_neg (by decide)]
  refine wpAny_bind (slicePart_none (wpAny_bind (slicePart_none (wpAny_bind (wpAny_pure ?_)))))
  show wpAny _ _ (match Builtin.Slice.sliceAdjust none none (-1) (n : Int) with | (lo, hi) => pure (lo, (-1 : Int), Builtin.Slice.slicePlaces lo hi (-1))) _ _ s
  rw [adjust_rev n]
  show wpAny _ _ (pure ((n : Int) - 1, (-1 : Int), Builtin.Slice.slicePlaces ((n : Int) - 1) (-1) (-1))) _ _ s
  rw [places_rev]
  exact wpAny_pure h
theorem getItem_tuple_rev {t sl : Addr} {items : Array Value} {vs : Value} {Q : Value → Shared → Prop} (ht : IsTup s.heap t items) (hs : s.heap.IsSliceOf sl .none .none vs) (ps : IsPart vs (some (-1)))
    (h : Q (.ref s.heap.objs.size) { s with heap := s.heap.push { cls := .type "tuple", data := .seq items.toList.reverse.toArray } })
    (hsz : items.size ≤ sizeLine) : wpAny (model prog w) A (getItem (.ref t) (.ref sl)) Q E s := by
  have htake : sizeOk (.seq items.toList.reverse.toArray) := by
    show items.toList.reverse.toArray.size ≤ sizeLine
    rw [List.size_toArray, List.length_reverse, Array.length_toList]
    exact hsz
  obtain ⟨os, hos, hcs, hds⟩ := id hs
  have hTs : s.TypeIs (.ref sl) "slice" := ⟨os, hos, hcs⟩
  unfold getItem
  try with_reducible refine wpAny_holding ?_
  first | refine wpAny_bind (wpAny_pure ?_) | skip
  refine wpAny_bind (wpAny_sequenceKey ht.typeIs (by decide) ?_)
  refine wpAny_bind (wpAny_callSpecial?_slot (name := Str.ofString "__getitem__") ht.typeIs PyProof.Rows.slot_tuple_getitem
    (wpAny_call_entry PyProof.Rows.slot_tuple_getitem ht.typeIs entry_tuple_getitem ?_ (args_tuple_getitem _ _)))
  show wpAny _ _ (Builtin.Tuple.tupleItemsOf (.ref t) >>= _) _ _ s
  refine wpAny_bind (tupleItemsOf_ ht ?_)
  refine wpAny_bind (wpAny_typeOf hTs ?_)
  rw [if_pos (by decide)]
  refine wpAny_bind (sliceApplied_rev hs ps ?_)
  have hno : ¬ (((((items.size : Nat) : Int) - 1) == 0 && (-1 : Int) == 1 && items.size == items.size) = true) := by simp
  show wpAny _ _ (if ((((items.size : Nat) : Int) - 1) == 0 && (-1 : Int) == 1 && items.size == items.size) = true then _ else _) _ _ s
  rw [if_neg hno, pick_rev]
  first
    | exact wpAny_bind (m := Builtin.Tuple.tupleExact _) (wpAny_newObj_type (wpAny_pure ⟨_, rfl, wpAny_pure h⟩) htake)
    | exact wpAny_bind (m := Builtin.Tuple.tupleExact _) (wpAny_newObj_type (wpAny_bind (wpAny_pure (wpAny_pure ⟨_, rfl, wpAny_pure h⟩))) htake)
    | exact wpAny_bind (wpAny_bind (m := Builtin.Tuple.tupleExact _) (wpAny_newObj_type (wpAny_pure (wpAny_pure ⟨_, rfl, wpAny_pure h⟩)) htake))
    | exact wpAny_bind (wpAny_bind (m := Builtin.Tuple.tupleExact _) (wpAny_newObj_type (wpAny_pure ⟨_, rfl, wpAny_pure h⟩) htake))
end
def tRevT (K : PySem.W.Frag) (te : TE) : TE := fun σ H Q => te σ H fun x H1 => ∃ a xs, x = .ref a ∧ SqT K H1 a xs ∧ ∀ p, H1 p = none → Q (.ref p) (upd H1 p (.tup xs.reverse))
theorem pe_revT {X : Cx} {e : Expr} {te : TE} {k : Nat} {p1 p2 p3 pos : Pos} (he : PE X e te) : PE X (.Subscript e (.Slice none none (some (.UnaryOp .USub (.Constant (.int 1) k p1) p2)) p3) pos) (tRevT X.K te) := by
  refine ⟨fun pins s σ H Q I h => ?_⟩
  refine Subscript_ (thn (he.run pins s σ H _ I h) fun v s1 ⟨x, H1, I1, r1, q1⟩ => ?_)
  obtain ⟨a, xs, ex, hx, q⟩ := q1
  subst ex
  cases r1
  have hst : PO X (some (.UnaryOp .USub (.Constant (.int 1) k p1) p2)) (tPart (tUn (rU fun i => .int (-i)) (tC (.int 1)))) := po_some (pe_un un_neg pe_int)
  refine wpAny_Slice (thn (po_none.run pins s1 σ H1 (fun o H2 => o = none ∧ H2 = H1) I1 ⟨rfl, rfl⟩) fun vl s2 ⟨l, H2, I2, pl, el, e2⟩ => ?_)
  subst el e2
  cases pl
  refine thn (po_none.run pins s2 σ H2 (fun o H3 => o = none ∧ H3 = H2) I2 ⟨rfl, rfl⟩) fun vu s3 ⟨u, H3, I3, pu, eu, e3⟩ => ?_
  subst eu e3
  cases pu
  refine thn (hst.run pins s3 σ H3 (fun o H4 => o = some (-1) ∧ H4 = H3) I3 ⟨1, rfl, -1, rfl, rfl, rfl⟩) fun vs s4 ⟨o, H4, I4, ps, eo, e4⟩ => ?_
  subst eo e4
  have I5 : Inv X pins σ H4 { s4 with heap := s4.heap.push { cls := .type "slice", data := .fields #[.none, .none, vs] } } := I4.kept (t' := s4.toks) fun b ob q => Heap.get?_push_of_some _ q
  obtain ⟨its, r, ht, hz⟩ := I5.tuple hx
  have hlen := r.length
  show wpAny (model X.prog X.w) X.A (subscriptTail e (.Slice none none (some (.UnaryOp .USub (.Constant (.int 1) k p1) p2)) p3) (.ref a) (.ref s4.heap.objs.size)) (EP X pins σ Q) X.xe { s4 with heap := s4.heap.push { cls := .type "slice", data := .fields #[.none, .none, vs] } }
  refine tail_any (ops := [.ref a, .ref s4.heap.objs.size]) ht.typeIs (PyProof.Rows.slot_tuple_getitem.lookup) ?_ (by with_unfolding_all rfl)
  refine getItem_tuple_rev ht (Heap.IsSliceOf.new _ .none .none vs) ps ?_ (by rw [List.size_toArray]; omega)
  refine ⟨.ref _, _, I5.laid (t' := s4.toks) (o := .tup xs.reverse) (fun b ob q => Heap.get?_push_of_some _ q) (Nat.le_refl _) ?_, rfl, q _ (I5.hok.fresh (Nat.le_refl _))⟩
  exact ⟨by rw [List.length_reverse]; exact hz, _, r.reverse, IsTup.new _ _⟩
/-- a text some times behind itself -/
def rRepS : R2 := fun x y H Q => ∃ (z : Str) (n : Nat), x = .str z ∧ y = .int (n : Int) ∧ 2 ≤ n ∧ n ≤ 1000 ∧ 0 < z.length ∧ z.length ≤ 1000 ∧ (⟨(List.replicate n z.cps).foldl (· ++ ·) #[]⟩ : Str).length ≤ 1000000 ∧ Q (.str ⟨(List.replicate n z.cps).foldl (· ++ ·) #[]⟩) H
theorem op_repS {X : Cx} : OpR X (binaryOp .Mult) rRepS := by
  intro pins s σ H x y v u Q I rx ry h
  obtain ⟨z, n, rfl, rfl, h2, h3, h4, h5, h6, q⟩ := h
  obtain ⟨t, rfl⟩ := rx
  obtain ⟨t', rfl⟩ := ry
  refine P.mul_str ?_ (fun _ _ => ?_) (fun _ _ => ?_) ?_
  · rw [decide_eq_false (by omega), decide_eq_false (by omega)]; rfl
  · have h9 : (2 ^ 63 - 1 : Int) / (n : Int) ≥ (2 ^ 63 - 1 : Int) / 1000 := by
      rw [ge_iff_le, Int.le_ediv_iff_mul_le (by omega)]
      have e : (2 ^ 63 - 1 : Int) / 1000 = 9223372036854775 := by decide
      rw [e]
      omega
    have e : (2 ^ 63 - 1 : Int) / 1000 = 9223372036854775 := by decide
    omega
  · have : z.length * (n : Int).toNat ≤ 1000000 := by
      rw [Int.toNat_natCast]
      exact Nat.le_trans (Nat.mul_le_mul h5 h3) (by decide)
    show decide (z.length * (n : Int).toNat > sizeLine) = false
    rw [sizeLine_eq]
    exact decide_eq_false (by omega)
  · rw [if_neg (by omega), if_neg (by simp; omega), Int.toNat_natCast]
    refine ⟨?_, ?_⟩
    · rw [sizeLine_eq]
      omega
    · exact ⟨.str _, H, I.tok _, ⟨_, rfl⟩, q⟩
/-- f(), f by its promise -/
theorem pe_h0 {X : Cx} {k : Nat} {x : Str} {ps : List Str} {sp : Sp} {p pos : Pos} (D : Has X.prog X.w X.K X.mg X.base k x ps sp) (hr : Room k X.A) (hg : Gl X x) (hdb : (x == ("__debug__" : Str)) = false := by decide) :
    PE X (.Call (.Name x p) [] [] pos) (tCall sp [] E0 tNil) := by
  obtain ⟨f, fd, G, m, kp, b⟩ := D
  exact pe_call0 G hr hg m kp b .nil pass0 hdb
end KQ
set_option Elab.async false
set_option maxRecDepth 100000
set_option maxHeartbeats 4000000
namespace KQ
open PySem PySem.Spec PyProof.Rows L2
def top (i : Nat) : Stmt := PySem.Challenge.pw_knownquiet_k05_plain_runs.main.body.getD i (.Pass ⟨0, 0, 0, 0⟩)
abbrev s_BadWorks___init__ : Stmt := inClass (top 2) 0
theorem sc_BadWorks___init__ : FnScope ["self", "part"] ["self", "part"] (defScope s_BadWorks___init__) := ⟨rfl, rfl, rfl, by decide +kernel, rfl, by decide +kernel, by decide +kernel⟩
abbrev s_TooMany___init__ : Stmt := inClass (top 6) 0
theorem sc_TooMany___init__ : FnScope ["self", "most"] ["self", "most"] (defScope s_TooMany___init__) := ⟨rfl, rfl, rfl, by decide +kernel, rfl, by decide +kernel, by decide +kernel⟩
abbrev s_is_number : Stmt := top 8
theorem sc_is_number : FnScope ["thing"] ["thing"] (defScope s_is_number) := ⟨rfl, rfl, rfl, by decide +kernel, rfl, by decide +kernel, by decide +kernel⟩
abbrev s_is_below : Stmt := top 9
theorem sc_is_below : FnScope ["bound", "thing"] ["bound", "thing"] (defScope s_is_below) := ⟨rfl, rfl, rfl, by decide +kernel, rfl, by decide +kernel, by decide +kernel⟩
abbrev s_is_tuple_of : Stmt := top 10
theorem sc_is_tuple_of : FnScope ["many", "thing"] ["many", "thing"] (defScope s_is_tuple_of) := ⟨rfl, rfl, rfl, by decide +kernel, rfl, by decide +kernel, by decide +kernel⟩
abbrev s_Works___init__ : Stmt := inClass (top 18) 0
theorem sc_Works___init__ : FnScope ["self", "many", "rules", "number", "rule"] ["self", "many", "rules"] (defScope s_Works___init__) := ⟨rfl, rfl, rfl, by decide +kernel, rfl, by decide +kernel, by decide +kernel⟩
abbrev s_Works___eq__ : Stmt := inClass (top 18) 1
theorem sc_Works___eq__ : FnScope ["self", "other"] ["self", "other"] (defScope s_Works___eq__) := ⟨rfl, rfl, rfl, by decide +kernel, rfl, by decide +kernel, by decide +kernel⟩
abbrev s_is_rule : Stmt := top 19
theorem sc_is_rule : FnScope ["many", "kinds", "thing", "pair"] ["many", "kinds", "thing"] (defScope s_is_rule) := ⟨rfl, rfl, rfl, by decide +kernel, rfl, by decide +kernel, by decide +kernel⟩
abbrev s_is_rule_pair : Stmt := top 20
theorem sc_is_rule_pair : FnScope ["many", "kinds", "thing"] ["many", "kinds", "thing"] (defScope s_is_rule_pair) := ⟨rfl, rfl, rfl, by decide +kernel, rfl, by decide +kernel, by decide +kernel⟩
abbrev s_is_house : Stmt := top 21
theorem sc_is_house : FnScope ["works", "thing"] ["works", "thing"] (defScope s_is_house) := ⟨rfl, rfl, rfl, by decide +kernel, rfl, by decide +kernel, by decide +kernel⟩
abbrev s_is_task : Stmt := top 22
theorem sc_is_task : FnScope ["works", "thing"] ["works", "thing"] (defScope s_is_task) := ⟨rfl, rfl, rfl, by decide +kernel, rfl, by decide +kernel, by decide +kernel⟩
abbrev s_are_tasks : Stmt := top 23
theorem sc_are_tasks : FnScope ["works", "thing", "item"] ["works", "thing"] (defScope s_are_tasks) := ⟨rfl, rfl, rfl, by decide +kernel, rfl, by decide +kernel, by decide +kernel⟩
abbrev s_is_given : Stmt := top 24
theorem sc_is_given : FnScope ["works", "thing"] ["works", "thing"] (defScope s_is_given) := ⟨rfl, rfl, rfl, by decide +kernel, rfl, by decide +kernel, by decide +kernel⟩
abbrev s_check_house : Stmt := top 25
theorem sc_check_house : FnScope ["works", "house"] ["works", "house"] (defScope s_check_house) := ⟨rfl, rfl, rfl, by decide +kernel, rfl, by decide +kernel, by decide +kernel⟩
abbrev s_check_task : Stmt := top 26
theorem sc_check_task : FnScope ["works", "task"] ["works", "task"] (defScope s_check_task) := ⟨rfl, rfl, rfl, by decide +kernel, rfl, by decide +kernel, by decide +kernel⟩
abbrev s_check_given : Stmt := top 27
theorem sc_check_given : FnScope ["works", "given"] ["works", "given"] (defScope s_check_given) := ⟨rfl, rfl, rfl, by decide +kernel, rfl, by decide +kernel, by decide +kernel⟩
abbrev s_sent_by : Stmt := top 28
theorem sc_sent_by : FnScope ["works", "house", "task", "kind", "fuel", "step", "sent"] ["works", "house", "task"] (defScope s_sent_by) := ⟨rfl, rfl, rfl, by decide +kernel, rfl, by decide +kernel, by decide +kernel⟩
abbrev s_many_by_fuel : Stmt := top 29
theorem sc_many_by_fuel : FnScope ["works", "rows", "_", "below", "pair", "rule"] ["works"] (defScope s_many_by_fuel) := ⟨rfl, rfl, rfl, by decide +kernel, rfl, by decide +kernel, by decide +kernel⟩
abbrev s_many_of_all : Stmt := top 30
theorem sc_many_of_all : FnScope ["works", "tasks", "rows", "kind", "fuel"] ["works", "tasks"] (defScope s_many_of_all) := ⟨rfl, rfl, rfl, by decide +kernel, rfl, by decide +kernel, by decide +kernel⟩
abbrev s_plain_run : Stmt := top 31
theorem sc_plain_run : FnScope ["works", "given", "bags", "_", "pairs", "house", "task", "to", "sent"] ["works", "given"] (defScope s_plain_run) := ⟨rfl, rfl, rfl, by decide +kernel, rfl, by decide +kernel, by decide +kernel⟩
abbrev s_least_busy : Stmt := top 32
theorem sc_least_busy : FnScope ["bags", "house", "bag"] ["bags"] (defScope s_least_busy) := ⟨rfl, rfl, rfl, by decide +kernel, rfl, by decide +kernel, by decide +kernel⟩
abbrev s_law_hand : Stmt := top 34
theorem sc_law_hand : FnScope ["script"] ["script"] (defScope s_law_hand) := ⟨rfl, rfl, rfl, by decide +kernel, rfl, by decide +kernel, by decide +kernel⟩
abbrev s_law_take : Stmt := top 35
theorem sc_law_take : FnScope ["hand", "many", "cell", "found", "number"] ["hand", "many"] (defScope s_law_take) := ⟨rfl, rfl, rfl, by decide +kernel, rfl, by decide +kernel, by decide +kernel⟩
abbrev s_law_pick : Stmt := top 36
theorem sc_law_pick : FnScope ["hand", "things"] ["hand", "things"] (defScope s_law_pick) := ⟨rfl, rfl, rfl, by decide +kernel, rfl, by decide +kernel, by decide +kernel⟩
abbrev s_law_is_integer : Stmt := top 37
theorem sc_law_is_integer : FnScope ["thing"] ["thing"] (defScope s_law_is_integer) := ⟨rfl, rfl, rfl, by decide +kernel, rfl, by decide +kernel, by decide +kernel⟩
abbrev s_law_same : Stmt := top 38
theorem sc_law_same : FnScope ["actual", "due", "one", "other"] ["actual", "due"] (defScope s_law_same) := ⟨rfl, rfl, rfl, by decide +kernel, rfl, by decide +kernel, by decide +kernel⟩
abbrev s_law_rules : Stmt := top 39
theorem sc_law_rules : FnScope ["hand", "many", "kinds", "most", "found", "k", "long", "j"] ["hand", "many", "kinds", "most"] (defScope s_law_rules) := ⟨rfl, rfl, rfl, by decide +kernel, rfl, by decide +kernel, by decide +kernel⟩
abbrev s_law_some_works : Stmt := top 40
theorem sc_law_some_works : FnScope ["hand", "many", "kinds"] ["hand"] (defScope s_law_some_works) := ⟨rfl, rfl, rfl, by decide +kernel, rfl, by decide +kernel, by decide +kernel⟩
abbrev s_law_sent : Stmt := top 41
theorem sc_law_sent : FnScope ["many", "rules", "house", "task", "found", "step", "kind"] ["many", "rules", "house", "task"] (defScope s_law_sent) := ⟨rfl, rfl, rfl, by decide +kernel, rfl, by decide +kernel, by decide +kernel⟩
abbrev s_law_counts : Stmt := top 42
theorem sc_law_counts : FnScope ["many", "rules", "kept", "house", "task", "key", "found", "to", "later", "some", "k"] ["many", "rules", "kept", "house", "task"] (defScope s_law_counts) := ⟨rfl, rfl, rfl, by decide +kernel, rfl, by decide +kernel, by decide +kernel⟩
abbrev s_law_total : Stmt := top 43
theorem sc_law_total : FnScope ["many", "rules", "kept", "tasks", "task"] ["many", "rules", "kept", "tasks"] (defScope s_law_total) := ⟨rfl, rfl, rfl, by decide +kernel, rfl, by decide +kernel, by decide +kernel⟩
abbrev s_law_task : Stmt := top 44
theorem sc_law_task : FnScope ["hand", "rules", "most"] ["hand", "rules", "most"] (defScope s_law_task) := ⟨rfl, rfl, rfl, by decide +kernel, rfl, by decide +kernel, by decide +kernel⟩
abbrev s_law_given : Stmt := top 45
theorem sc_law_given : FnScope ["hand", "many", "rules", "most", "kept", "found", "k", "task", "less", "later"] ["hand", "many", "rules", "most"] (defScope s_law_given) := ⟨rfl, rfl, rfl, by decide +kernel, rfl, by decide +kernel, by decide +kernel⟩
abbrev s_law_run : Stmt := top 46
theorem sc_law_run : FnScope ["many", "rules", "given", "most", "bags", "house", "found", "k", "working", "task", "to", "later", "some"] ["many", "rules", "given", "most"] (defScope s_law_run) := ⟨rfl, rfl, rfl, by decide +kernel, rfl, by decide +kernel, by decide +kernel⟩
abbrev s_law_told : Stmt := top 47
theorem sc_law_told : FnScope ["works", "given", "error"] ["works", "given"] (defScope s_law_told) := ⟨rfl, rfl, rfl, by decide +kernel, rfl, by decide +kernel, by decide +kernel⟩
abbrev s_law_edge : Stmt := top 48
theorem sc_law_edge : FnScope ["hand", "many", "rules", "given", "works", "told"] ["hand"] (defScope s_law_edge) := ⟨rfl, rfl, rfl, by decide +kernel, rfl, by decide +kernel, by decide +kernel⟩
abbrev s_law : Stmt := top 49
theorem sc_law : FnScope ["script", "hand", "many", "rules", "works", "kept", "k", "given", "j", "total"] ["script"] (defScope s_law) := ⟨rfl, rfl, rfl, by decide +kernel, rfl, by decide +kernel, by decide +kernel⟩
end KQ
set_option Elab.async false
set_option maxRecDepth 100000
set_option maxHeartbeats 4000000
namespace KQ
open PySem PySem.Spec PyProof.Rows L2

/-- the built-in names that no text of ours binds -/
structure Bi (mg : Str → Option Value) : Prop where
  len : mg "len" = none
  isinstance : mg "isinstance" = none
  int : mg "int" = none
  bool : mg "bool" = none
  tuple : mg "tuple" = none
  list : mg "list" = none
  str : mg "str" = none
  zip : mg "zip" = none
  range : mg "range" = none
  max : mg "max" = none
  sorted : mg "sorted" = none
  all : mg "all" = none
  sum : mg "sum" = none
  enumerate : mg "enumerate" = none
  abs : mg "abs" = none
  ord : mg "ord" = none
  min : mg "min" = none
  any : mg "any" = none
  dict : mg "dict" = none
  repr : mg "repr" = none
  reversed : mg "reversed" = none

/-! ### the drawing hand: the script's ints at l, four ints beside it -/
def HandOk (H : Hp) (h l : Addr) : Prop := ∃ (xs : List Int) (i b s c : Int), H h = some (.lst [.ref l, .int i, .int b, .int s, .int c]) ∧ H l = some (.lst (xs.map V.int)) ∧
  0 ≤ i ∧ i ≤ xs.length ∧ 0 ≤ b ∧ 0 ≤ s ∧ s < 2147483647 ∧ xs.length ≤ 1000
abbrev Nh (h : Addr) : Addr → Prop := fun a => a = h
theorem HandOk.same {H H' : Hp} {h l : Addr} (k : HandOk H h l) (e : Same H H') : HandOk H' h l := by
  obtain ⟨xs, i, b, s, c, h1, h2, r⟩ := k
  exact ⟨xs, i, b, s, c, e _ _ h1, e _ _ h2, r⟩
theorem same_new {H : Hp} {p : Addr} {o : HO} (h : H p = none) : Same H (upd H p o) := fun b u q => by rw [upd_ne (ne_of_none q h)]; exact q
theorem HandOk.new {H : Hp} {h l p : Addr} {o : HO} (k : HandOk H h l) (n : H p = none) : HandOk (upd H p o) h l := k.same (same_new n)
theorem HandOk.ne {H : Hp} {h l p : Addr} (k : HandOk H h l) (n : H p = none) : p ≠ h := by
  obtain ⟨xs, i, b, s, c, h1, _⟩ := k
  exact (ne_of_none h1 n).symm
theorem HandOk.ne0 {H : Hp} {h l p : Addr} (k : HandOk H h l) (n : H p = none) : p ≠ l := by
  obtain ⟨xs, i, b, s, c, _, h2, _⟩ := k
  exact (ne_of_none h2 n).symm
/-- what stands at the hand's two places is a list -/
theorem HandOk.lst {H : Hp} {h l : Addr} (k : HandOk H h l) : (∃ xs, H h = some (.lst xs)) ∧ ∃ xs, H l = some (.lst xs) := by
  obtain ⟨xs, i, b, s, c, h1, h2, _⟩ := k
  exact ⟨⟨_, h1⟩, _, h2⟩
/-- the hand's own list -/
abbrev hL (l : Addr) (i b s c : Int) : HO := .lst [.ref l, .int i, .int b, .int s, .int c]
def spHand (K : PySem.W.Frag) : Sp := fun vs H Q _ => ∃ (a : Addr) (ns : List Int), vs = [.ref a] ∧ SqL K H a (ns.map V.int) ∧ ns.length ≤ 1000 ∧ ∀ (h l : Addr) (H' : Hp), H h = none → H l = none → Same H H' → HandOk H' h l → Q (.ref h) H'
def spTake : Sp := fun vs H Q _ => ∃ (h l : Addr) (m : Int), vs = [.ref h, .int m] ∧ HandOk H h l ∧ 0 < m ∧ m < 1073741824 ∧
  ∀ (r : Int) (H' : Hp), 0 ≤ r → r < m → HandOk H' h l → (∀ a, a ≠ h → H' a = H a) → Q (.int r) H'
section
variable {P : Program} {w : World} {K : PySem.W.Frag} {mg : Str → Option Value} {base : Heap}
theorem d_law_hand (B : Bi mg) (F : FunAt K mg "_law_hand" s_law_hand) : Has P w K mg base 1 "_law_hand" ["script"] (spHand K) := by
  refine mk_has F sc_law_hand (fun _ _ _ _ _ _ us hl => match us, hl with | [_], _ => rfl) (fun vs H Q E h => ?_) fun f cdv A outer s H vs Q E hr h => ?_
  · obtain ⟨a, ns, rfl, _⟩ := h
    rfl
  obtain ⟨a, ns, rfl, hS, hl, k⟩ := h
  refine ⟨_, (pss_one (ps_ret (pe_lst (pa_cons (pe_callTy call_list_of rfl B.list (by decide +kernel) (pa_cons (pv 0) pa_nil)) (pa_cons pe_int (pa_cons pe_int (pa_cons pe_int (pa_cons pe_int pa_nil)))))))), ?_⟩
  refine ⟨_, rfl, a, _, rfl, .inl hS, fun l nl => ⟨(by show 5 ≤ sizeLine; decide), fun h nh => ?_⟩⟩
  have nlh : l ≠ h := ne_of_none upd_same nh
  have e1 : H h = none := by
    have q := nh
    rw [upd_ne nlh.symm] at q
    exact q
  exact k h l _ e1 nl ((same_new nl).trans (same_new nh)) ⟨ns, 0, 0, 1, 0, upd_same, by rw [upd_ne nlh]; exact upd_same, Int.le_refl 0, by omega, Int.le_refl 0, by omega, by omega, hl⟩
theorem fmod_lt' {a m : Int} (h : 0 < m) : 0 ≤ a.fmod m ∧ a.fmod m < m := by
  rw [Int.fmod_eq_emod_of_nonneg a (Int.le_of_lt h)]
  exact ⟨Int.emod_nonneg a (by omega), Int.emod_lt_of_pos a h⟩
theorem fdiv_nn {a m : Int} (h : 0 < m) (ha : 0 ≤ a) : 0 ≤ a.fdiv m := by
  rw [Int.fdiv_eq_ediv_of_nonneg a (Int.le_of_lt h)]
  exact Int.ediv_nonneg ha (Int.le_of_lt h)
theorem atI_map {xs : List Int} {i : Int} (h0 : 0 ≤ i) (h : i < xs.length) : ∃ v, atI (xs.map V.int) i = some (.int v) := by
  have hk : i.toNat < xs.length := by omega
  have q : atI (xs.map V.int) ((i.toNat : Nat) : Int) = some (.int xs[i.toNat]) := atI_nat (by rw [List.getElem?_map, List.getElem?_eq_getElem hk] <;> rfl)
  rw [show ((i.toNat : Nat) : Int) = i by omega] at q
  exact ⟨_, q⟩
theorem d_law_take (B : Bi mg) (F : FunAt K mg "_law_take" s_law_take) : Has P w K mg base 1 "_law_take" ["hand", "many"] spTake := by
  refine mk_has F sc_law_take (fun _ _ _ _ _ _ us hl => match us, hl with | [_, _], _ => rfl) (fun vs H Q E h => ?_) fun f cdv A outer s H vs Q E hr h => ?_
  · obtain ⟨a, l, m, rfl, _⟩ := h
    rfl
  obtain ⟨h, l, m, rfl, ⟨xs, i, b, sd, c, e1, e2, hi0, hi1, hb, hs0, hs1, hx⟩, hm0, hm1, k⟩ := h
  refine ⟨_, (pss_cons (ps_asg (pe_op op_add (pe_ix ix_list (pv 0) pe_int (fun _ _ => rfl)) pe_int) (pg_sub (pv 0) pe_int set_list))
    (C8.pss_cut (ps_if (PW.pt (pw_and (pt_cmpR op_eq (pe_ix ix_list (pv 0) pe_int (fun _ _ => rfl)) pe_int (nomark _)) (pw_and1 (pt_cmpR op_lt (pe_ix ix_list (pv 0) pe_int (fun _ _ => rfl)) (pe_callB call_len_seq rfl B.len PySem.boot_len (pa_cons (pe_ix ix_list (pv 0) pe_int (fun _ _ => rfl)) pa_nil)) (nomark _)))))
    (pss_cons (ps_set (i := 2) sc_law_take.nd rfl (Or.inl rfl) (pe_callTy call_int1 rfl B.int (by decide +kernel) (pa_cons (pe_ix ix_list (pe_ix ix_list (pv 0) pe_int (fun _ _ => rfl)) (pe_ix ix_list (pv 0) pe_int (fun _ _ => rfl)) (fun _ _ => rfl)) pa_nil)))
    (pss_cons (ps_asg (pe_op op_add (pe_ix ix_list (pv 0) pe_int (fun _ _ => rfl)) pe_int) (pg_sub (pv 0) pe_int set_list))
    (pss_one (ps_if (pt_cmpR op_ge (pv 2) (pe_op op_pow pe_int pe_int) (nomark _))
    (pss_one (ps_asg (pv 2) (pg_sub (pv 0) pe_int set_list)))
    (pss_one (ps_asg (pe_op op_mod (pe_callTy call_int1 rfl B.int (by decide +kernel) (pa_cons (pe_op op_add (pe_op op_add (pe_op op_mul (pe_ix ix_list (pv 0) pe_int (fun _ _ => rfl)) pe_int) (pe_op op_mod (pe_callTy call_int1 rfl B.int (by decide +kernel) (pa_cons (pv 2) pa_nil)) pe_int)) pe_int) pa_nil)) pe_int) (pg_sub (pv 0) pe_int set_list)))))))
    pss_nil)
    (pss_cons (ps_if (pt_cmpR op_gt (pe_ix ix_list (pv 0) pe_int (fun _ _ => rfl)) pe_int (nomark _))
    (pss_cons (ps_set (i := 3) sc_law_take.nd rfl (Or.inl rfl) (pe_op op_modN (pe_callTy call_int1 rfl B.int (by decide +kernel) (pa_cons (pe_ix ix_list (pv 0) pe_int (fun _ _ => rfl)) pa_nil)) (pv 1)))
    (pss_cons (ps_asg (pe_op op_fdivN (pe_callTy call_int1 rfl B.int (by decide +kernel) (pa_cons (pe_ix ix_list (pv 0) pe_int (fun _ _ => rfl)) pa_nil)) (pv 1)) (pg_sub (pv 0) pe_int set_list))
    (pss_one (ps_ret (pv 3)))))
    pss_nil)
    (pss_cons (ps_asg (pe_op op_mod (pe_callTy call_int1 rfl B.int (by decide +kernel) (pa_cons (pe_op op_add (pe_op op_mul (pe_ix ix_list (pv 0) pe_int (fun _ _ => rfl)) pe_int) (pe_op op_mul pe_int (pe_ix ix_list (pv 0) pe_int (fun _ _ => rfl)))) pa_nil)) pe_int) (pg_sub (pv 0) pe_int set_list))
    (pss_cons (ps_set (i := 4) sc_law_take.nd rfl (Or.inl rfl) (pe_op op_mod (pe_callTy call_int1 rfl B.int (by decide +kernel) (pa_cons (pe_op op_mul (pe_ix ix_list (pv 0) pe_int (fun _ _ => rfl)) (pe_op op_add (pe_op op_fdiv (pe_ix ix_list (pv 0) pe_int (fun _ _ => rfl)) pe_int) pe_int)) pa_nil)) pe_int))
    (pss_cons (ps_set (i := 4) sc_law_take.nd rfl (Or.inl rfl) (pe_op op_mod (pe_callTy call_int1 rfl B.int (by decide +kernel) (pa_cons (pe_op op_mul (pv 4) (pe_op op_add (pe_op op_fdiv (pv 4) pe_int) pe_int)) pa_nil)) pe_int))
    (pss_one (ps_ret (pe_op op_modN (pe_callTy call_int1 rfl B.int (by decide +kernel) (pa_cons (pe_op op_fdiv (pv 4) pe_int) pa_nil)) (pv 1)))))))))), ?_⟩
  have nlh : l ≠ h := ne_of e2 e1 (by intro z; injection z with z; cases xs <;> simp at z)
  have eL : ∀ o, (upd H h o) l = Option.some (.lst (xs.map V.int)) := fun o => by rw [upd_ne nlh]; exact e2
  -- the count is one more
  refine ⟨_, rfl, _, _, _, _, rfl, rfl, SqL.of e1, rfl, _, _, rfl, rfl, _, rfl, _, _, _, _, rfl, rfl, e1, rfl, ?_⟩
  -- what stands ahead of the draw, whatever was read
  refine ⟨fun σ H' => ∃ (i b sd c : Int) (v : Option V), σ = [Option.some (.ref h), Option.some (.int m), v, none, none] ∧ H' h = Option.some (hL l i b sd c) ∧ (∀ a, a ≠ h → H' a = H a) ∧ 0 ≤ i ∧ i ≤ xs.length ∧ 0 ≤ b ∧ 0 ≤ sd ∧ sd < 2147483647, ?_, ?_⟩
  · refine ⟨_, rfl, _, _, _, _, rfl, rfl, SqL.of upd_same, rfl, rfl, _, rfl, ?_⟩
    refine ite2 (fun c1 => ?_) (fun c1 => ?_)
    · refine ⟨_, rfl, _, _, _, _, rfl, rfl, SqL.of upd_same, rfl, _, rfl, _, _, _, _, rfl, rfl, SqL.of upd_same, rfl, _, _, rfl, .inl (SqL.of (eL _)), _, _, rfl, rfl, _, rfl, ?_⟩
      refine ite2 (fun c2 => ?_) (fun c2 => ?_)
      · have c2' := of_decide_eq_true c2
        rw [List.length_map] at c2'
        obtain ⟨v, hv⟩ := atI_map (xs := xs) hi0 c2'
        refine ⟨_, rfl, _, _, _, _, rfl, rfl, SqL.of upd_same, rfl, _, rfl, _, _, _, _, rfl, rfl, SqL.of upd_same, rfl, _, _, _, _, rfl, rfl, SqL.of (eL _), hv, .inl ⟨_, rfl, ?_⟩⟩
        refine ⟨_, rfl, _, _, _, _, rfl, rfl, SqL.of upd_same, rfl, _, _, rfl, rfl, _, rfl, _, _, _, _, rfl, rfl, upd_same, rfl, ?_⟩
        refine ⟨_, rfl, _, _, rfl, rfl, ⟨by decide, by decide, by decide⟩, _, _, rfl, rfl, _, rfl, ?_⟩
        refine ite2 (fun c3 => ?_) (fun c3 => ?_)
        · have c3' := of_decide_eq_true c3
          refine ⟨_, rfl, _, rfl, _, _, _, _, rfl, rfl, upd_same, rfl, ?_⟩
          refine ⟨i + 1, v, sd, c + 1, _, rfl, upd_same, fun a ha => by rw [upd_ne ha, upd_ne ha, upd_ne ha], by omega, by omega, ?_, hs0, hs1⟩
          have z : (0 : Int) ≤ 10 ^ (18 : Int).toNat := by decide
          omega
        · refine ⟨_, rfl, _, _, _, _, rfl, rfl, SqL.of upd_same, rfl, _, _, rfl, rfl, .inl ⟨by omega, by omega⟩, _, rfl, .inl ⟨_, rfl, _, _, rfl, rfl, (by show (0 : Int) < 2147483647; decide), _, _, rfl, rfl, _, _, rfl, rfl, .inl ⟨_, rfl, _, _, rfl, rfl, (by show (0 : Int) < 2147483647; decide), _, rfl, _, _, _, _, rfl, rfl, upd_same, rfl, ?_⟩⟩⟩
          refine ⟨i + 1, b, _, c + 1, _, rfl, upd_same, fun a ha => by rw [upd_ne ha, upd_ne ha, upd_ne ha], by omega, by omega, hb, Int.emod_nonneg _ (by decide), Int.emod_lt_of_pos _ (by decide)⟩
      · exact ⟨i, b, sd, c + 1, _, rfl, upd_same, fun a ha => by rw [upd_ne ha], hi0, hi1, hb, hs0, hs1⟩
    · exact ⟨i, b, sd, c + 1, _, rfl, upd_same, fun a ha => by rw [upd_ne ha], hi0, hi1, hb, hs0, hs1⟩
  · rintro σ H1 ⟨i, b, sd, c, v, rfl, g1, gk, hi0, hi1, hb, hs0, hs1⟩
    have gl : H1 l = Option.some (.lst (xs.map V.int)) := (gk l nlh).trans e2
    refine ⟨_, rfl, _, _, _, _, rfl, rfl, SqL.of g1, rfl, _, _, rfl, rfl, _, rfl, ?_⟩
    refine ite2 (fun c1 => ?_) (fun c1 => ?_)
    · refine ⟨_, rfl, _, _, _, _, rfl, rfl, SqL.of g1, rfl, .inl ⟨_, rfl, _, rfl, _, _, rfl, rfl, (by omega), ?_⟩⟩
      refine ⟨_, rfl, _, _, _, _, rfl, rfl, SqL.of g1, rfl, .inl ⟨_, rfl, _, rfl, _, _, rfl, rfl, ⟨by omega, by omega⟩, _, rfl, _, _, _, _, rfl, rfl, g1, rfl, ?_⟩⟩
      refine ⟨_, rfl, ?_⟩
      refine k _ _ (fmod_lt' hm0).1 (fmod_lt' hm0).2 ⟨xs, i, _, sd, c, upd_same, by rw [upd_ne nlh]; exact gl, hi0, hi1, fdiv_nn hm0 hb, hs0, hs1, hx⟩ fun a ha => by rw [upd_ne ha]; exact gk a ha
    · refine ⟨_, rfl, _, _, _, _, rfl, rfl, SqL.of g1, rfl, _, _, rfl, rfl, .inl ⟨by omega, by omega⟩, _, rfl, _, _, _, _, rfl, rfl, SqL.of g1, rfl, _, _, rfl, rfl, .inl ⟨by decide, by decide⟩, _, _, rfl, rfl, .inl ⟨_, rfl, _, _, rfl, rfl, (by show (0 : Int) < 2147483647; decide), _, rfl, _, _, _, _, rfl, rfl, g1, rfl, ?_⟩⟩
      refine ⟨_, rfl, _, _, _, _, rfl, rfl, SqL.of upd_same, rfl, _, rfl, _, _, _, _, rfl, rfl, SqL.of upd_same, rfl, ?_⟩
      have z0 : 0 ≤ (sd * 69621 + 7919 * c) % 2147483647 := Int.emod_nonneg _ (by decide)
      have z1 : (sd * 69621 + 7919 * c) % 2147483647 < 2147483647 := Int.emod_lt_of_pos _ (by decide)
      have y0 : ∀ y : Int, 0 ≤ y % 2147483647 := fun y => Int.emod_nonneg _ (by decide)
      have y1 : ∀ y : Int, y % 2147483647 < 2147483647 := fun y => Int.emod_lt_of_pos _ (by decide)
      refine ⟨_, _, rfl, rfl, ⟨by decide, by decide⟩, _, _, rfl, rfl, _, _, rfl, rfl, .inl ⟨?a1, ?a2⟩, .inl ⟨_, rfl, _, _, rfl, rfl, (by show (0 : Int) < 2147483647; decide), ?_⟩⟩
      case a1 => omega
      case a2 => omega
      refine ⟨_, rfl, _, rfl, _, _, rfl, rfl, ⟨by decide, by decide⟩, _, _, rfl, rfl, _, _, rfl, rfl, .inl ⟨?b1, ?b2⟩, .inl ⟨_, rfl, _, _, rfl, rfl, (by show (0 : Int) < 2147483399; decide), ?_⟩⟩
      case b1 => exact Int.lt_of_lt_of_le (by decide) (y0 _)
      case b2 => exact Int.lt_trans (y1 _) (by decide)
      refine ⟨_, rfl, _, _, rfl, rfl, ⟨by decide, by decide⟩, .inl ⟨_, rfl, _, rfl, _, _, rfl, rfl, (by omega), ?_⟩⟩
      exact k _ _ (fmod_lt' hm0).1 (fmod_lt' hm0).2 ⟨xs, i, b, _, c, upd_same, by rw [upd_ne nlh]; exact gl, hi0, hi1, hb, z0, z1, hx⟩ fun a ha => by rw [upd_ne ha]; exact gk a ha
end
end KQ
set_option Elab.async false
set_option maxRecDepth 100000
set_option maxHeartbeats 4000000
namespace KQ
open PySem PySem.Spec PyProof.Rows L2
theorem ifT {c : Bool} {A B : Prop} (h : c = true) (a : A) : if c = true then A else B := by rw [if_pos h]; exact a
theorem ifF {c : Bool} {A B : Prop} (h : c = false) (b : B) : if c = true then A else B := by rw [h, if_neg Bool.false_ne_true]; exact b
theorem atI_some {xs : List V} {i : Int} (h0 : 0 ≤ i) (h : i < xs.length) : ∃ v, atI xs i = some v ∧ v ∈ xs ∧ xs[i.toNat]? = some v := by
  have hk : i.toNat < xs.length := by omega
  have q : atI xs ((i.toNat : Nat) : Int) = some xs[i.toNat] := atI_nat (List.getElem?_eq_getElem hk)
  rw [show ((i.toNat : Nat) : Int) = i by omega] at q
  exact ⟨_, q, List.getElem_mem hk, List.getElem?_eq_getElem hk⟩
def spPick : Sp := fun vs H Q _ => ∃ (h l t : Addr) (xs : List V), vs = [.ref h, .ref t] ∧ HandOk H h l ∧ H t = some (.lst xs) ∧ t ≠ h ∧ 0 < xs.length ∧ xs.length < 1073741824 ∧
  ∀ (v : V) (H' : Hp), v ∈ xs → HandOk H' h l → (∀ a, a ≠ h → H' a = H a) → Q v H'
def spIsInt : Sp := fun vs H Q _ => ∃ (N : Addr → Prop) (v : V) (d : PyData), vs = [v] ∧ Rp N H v d ∧ Q (.bl (intOf d).isSome) H
def within (d : PyData) (lo hi : Int) : Bool := match intOf d with
  | some i => decide (lo ≤ i) && decide (i ≤ hi)
  | none => false
def spWithin : Sp := fun vs H Q _ => ∃ (N : Addr → Prop) (v : V) (d : PyData) (lo hi : Int), vs = [v, .int lo, .int hi] ∧ Rp N H v d ∧ Q (.bl (within d lo hi)) H
def spSame (n : Nat) : Sp := fun vs H Q _ => ∃ (N N' : Addr → Prop) (a b : V) (d : PyData), vs = [a, b] ∧ Rp N H a d ∧ Rp N' H b d ∧ d.depth ≤ n ∧ d.canLay0 = true ∧ ∀ H', Same H H' → Q (.bl true) H'
theorem isInt_is (d : PyData) : (isT "int" d && !isT "bool" d) = (intOf d).isSome := by cases d <;> rfl
section
variable {P : Program} {w : World} {K : PySem.W.Frag} {mg : Str → Option Value} {base : Heap}
theorem d_law_pick (B : Bi mg) (F : FunAt K mg "_law_pick" s_law_pick) (D_law_take : Has P w K mg base 1 "_law_take" ["hand", "many"] spTake) : Has P w K mg base 2 "_law_pick" ["hand", "things"] spPick := by
  refine mk_has F sc_law_pick (fun _ _ _ _ _ _ us hl => match us, hl with | [_, _], _ => rfl) (fun vs H Q E h => ?_) fun f cdv A outer s H vs Q E hr h => ?_
  · obtain ⟨h, l, t, xs, rfl, _⟩ := h
    rfl
  obtain ⟨h, l, t, xs, rfl, ho, ht, hth, l0, l1, k⟩ := h
  refine ⟨_, (pss_one (ps_ret (pe_ix ix_list (pv 1) (pe_h D_law_take (hr.mono (by decide)) rfl (pa_cons (pv 0) (pa_cons (pe_callB call_len_seq rfl B.len PySem.boot_len (pa_cons (pv 1) pa_nil)) pa_nil))) (fun _ _ => rfl)))), ?_⟩
  refine ⟨_, rfl, _, rfl, _, rfl, _, _, rfl, .inl (SqL.of ht), h, l, _, rfl, ho, by omega, by omega, fun r H' r0 r1 ho' hk => ?_⟩
  obtain ⟨v, hv, hm, _⟩ := atI_some (xs := xs) r0 r1
  exact ⟨_, _, _, _, rfl, rfl, SqL.of ((hk t hth).trans ht), hv, k v H' hm ho' hk⟩
theorem d_law_is_integer (B : Bi mg) (F : FunAt K mg "_law_is_integer" s_law_is_integer) : Has P w K mg base 1 "_law_is_integer" ["thing"] spIsInt := by
  refine mk_has F sc_law_is_integer (fun _ _ _ _ _ _ us hl => match us, hl with | [_], _ => rfl) (fun vs H Q E h => ?_) fun f cdv A outer s H vs Q E hr h => ?_
  · obtain ⟨N, v, d, rfl, _⟩ := h
    rfl
  obtain ⟨N, v, d, rfl, r, k⟩ := h
  refine ⟨_, (pss_one (ps_ret (pe_and (pe_callB call_isi rfl B.isinstance (by decide +kernel) (pa_cons (pv 0) (pa_cons (pe_bltn (v := .ty "int") rfl B.int (by decide +kernel) rfl) pa_nil))) (pe_one (pe_not (pe_callB call_isi rfl B.isinstance (by decide +kernel) (pa_cons (pv 0) (pa_cons (pe_bltn (v := .ty "bool") rfl B.bool (by decide +kernel) rfl) pa_nil)))))))), ?_⟩
  rw [← isInt_is] at k
  refine ⟨_, rfl, _, _, _, _, _, rfl, .ty "int", r.ty, kit_int d, _, rfl, ?_⟩
  cases e : isT "int" d with
  | true =>
    rw [e] at k
    exact ifT rfl ⟨_, rfl, _, _, _, _, _, rfl, .ty "bool", r.ty, kit_bool d, _, rfl, k⟩
  | false =>
    rw [e] at k
    exact ifF rfl k
end
end KQ
set_option Elab.async false
set_option maxRecDepth 100000
set_option maxHeartbeats 4000000
namespace KQ
open PySem PySem.Spec PyProof.Rows L2
theorem okB {c b : Bool} {Q : VK} {H : Hp} (h : c = b) (q : Q (.bl b) H) : Q (.bl c) H := by rw [h]; exact q
theorem Rp.notN {N : Addr → Prop} {H : Hp} {v : V} {d : PyData} (r : Rp N H v d) (h : d ≠ .none) : decide (v = .non) = false := by
  cases r <;> simp at h ⊢
theorem Rp.notB {N : Addr → Prop} {H : Hp} {v : V} {d : PyData} (r : Rp N H v d) {b : Bool} (h : d ≠ .bool b) : decide (v = .bl b) = false := by
  cases r <;> simp at h ⊢
  exact h
theorem RpAll.at_ {N : Addr → Prop} {H : Hp} : ∀ {vs : List V} {ds : List PyData} {i : Nat} {v : V}, RpAll N H vs ds → vs[i]? = some v → ∃ d, d ∈ ds ∧ ds[i]? = some d ∧ Rp N H v d
  | _, _, _, _, .nil, e => by simp at e
  | _, _, 0, _, .cons r _, e => by simp at e; subst e; exact ⟨_, List.mem_cons_self, rfl, r⟩
  | _, _, i + 1, _, .cons _ t, e => by
    obtain ⟨d, m, g, r⟩ := t.at_ (i := i) (by simpa using e)
    exact ⟨d, List.mem_cons_of_mem _ m, by simpa using g, r⟩
theorem depth_mem : ∀ {ds : List PyData} {d : PyData}, d ∈ ds → d.depth ≤ PyData.depthAll ds
  | x :: xs, d, h => by
    unfold PyData.depthAll
    rcases List.mem_cons.mp h with rfl | h
    · exact Nat.le_max_left _ _
    · exact Nat.le_trans (depth_mem h) (Nat.le_max_right _ _)
theorem lay_mem : ∀ {ds : List PyData} {d : PyData}, PyData.canLayAll0 ds = true → d ∈ ds → d.canLay0 = true
  | x :: xs, d, e, h => by
    unfold PyData.canLayAll0 at e
    rw [Bool.and_eq_true] at e
    rcases List.mem_cons.mp h with rfl | h
    · exact e.1
    · exact lay_mem e.2 h
section
variable {P : Program} {w : World} {K : PySem.W.Frag} {mg : Str → Option Value} {base : Heap}
/-- one step deeper -/
theorem same_step (B : Bi mg) (F : FunAt K mg "_law_same" s_law_same) (D_law_is_integer : Has P w K mg base 1 "_law_is_integer" ["thing"] spIsInt) (n : Nat) (D_law_same : Has P w K mg base (n + 1) "_law_same" ["actual", "due"] (fun vs H Q E => ∃ m, m + 1 = n ∧ spSame m vs H Q E)) :
    Has P w K mg base (n + 2) "_law_same" ["actual", "due"] (spSame n) := by
  refine mk_has F sc_law_same (fun _ _ _ _ _ _ us hl => match us, hl with | [_, _], _ => rfl) (fun vs H Q E h => ?_) fun f cdv A outer s H vs Q E hr h => ?_
  · obtain ⟨N, N', a, b, d, rfl, _⟩ := h
    rfl
  obtain ⟨N, N', a, b, d, rfl, ra, rb, hd, hc, k⟩ := h
  have k0 : Q (.bl true) H := k H (Same.refl H)
  refine ⟨_, (pss_cons (ps_if (pt_cmp (pc_isN (pv 1)))
    (pss_one (ps_ret (pe_cmp (pc_isN (pv 0)) rfl)))
    pss_nil)
    (pss_cons (ps_if (pt_cmpR op_isB (pv 1) pe_bl (nomark _))
    (pss_one (ps_ret (pe_cmpR op_isB (pv 0) pe_bl (nomark _))))
    pss_nil)
    (pss_cons (ps_if (pt_cmpR op_isB (pv 1) pe_bl (nomark _))
    (pss_one (ps_ret (pe_cmpR op_isB (pv 0) pe_bl (nomark _))))
    pss_nil)
    (pss_cons (ps_if (pt_val (pe_callB call_isi rfl B.isinstance (by decide +kernel) (pa_cons (pv 1) (pa_cons (pe_bltn (v := .ty "int") rfl B.int (by decide +kernel) rfl) pa_nil))))
    (pss_one (ps_ret (pe_and (pe_h D_law_is_integer (hr.mono (by omega)) rfl (pa_cons (pv 0) pa_nil)) (pe_one (pe_cmpR op_eq (pv 0) (pv 1) (nomark _))))))
    pss_nil)
    (pss_cons (ps_if (pt_val (pe_callB call_isi rfl B.isinstance (by decide +kernel) (pa_cons (pv 1) (pa_cons (pe_bltn (v := .ty "str") rfl B.str (by decide +kernel) rfl) pa_nil))))
    (pss_one (ps_ret (pe_and (pe_callB call_isi rfl B.isinstance (by decide +kernel) (pa_cons (pv 0) (pa_cons (pe_bltn (v := .ty "str") rfl B.str (by decide +kernel) rfl) pa_nil))) (pe_one (pe_cmpR op_eq (pv 0) (pv 1) (nomark _))))))
    pss_nil)
    (pss_cons (ps_if (PW.pt (pw_or (pt_cmpR op_ne (pe_callB call_isi rfl B.isinstance (by decide +kernel) (pa_cons (pv 1) (pa_cons (pe_bltn (v := .ty "tuple") rfl B.tuple (by decide +kernel) rfl) pa_nil))) (pe_callB call_isi rfl B.isinstance (by decide +kernel) (pa_cons (pv 0) (pa_cons (pe_bltn (v := .ty "tuple") rfl B.tuple (by decide +kernel) rfl) pa_nil))) (nomark _)) (pw_or1 (pt_cmpR op_ne (pe_callB call_isi rfl B.isinstance (by decide +kernel) (pa_cons (pv 1) (pa_cons (pe_bltn (v := .ty "list") rfl B.list (by decide +kernel) rfl) pa_nil))) (pe_callB call_isi rfl B.isinstance (by decide +kernel) (pa_cons (pv 0) (pa_cons (pe_bltn (v := .ty "list") rfl B.list (by decide +kernel) rfl) pa_nil))) (nomark _)))))
    (pss_one (ps_ret pe_bl))
    pss_nil)
    (pss_cons (ps_if (pt_cmpR op_ne (pe_callB call_len_seq rfl B.len PySem.boot_len (pa_cons (pv 0) pa_nil)) (pe_callB call_len_seq rfl B.len PySem.boot_len (pa_cons (pv 1) pa_nil)) (nomark _))
    (pss_one (ps_ret pe_bl))
    pss_nil)
    (pss_cons (ps_for PassesOwn.never rfl (RZ.pi_zipA rfl B.zip (pa_cons (pv 0) (pa_cons (pv 1) pa_nil))) (pg_tup rfl (pgs_cons (pg_name (i := 2) sc_law_same.nd rfl (Or.inl rfl)) (pgs_cons (pg_name (i := 3) sc_law_same.nd rfl (Or.inl rfl)) pgs_nil)))
    (pss_one (ps_if (pt_not (pt_val (pe_h D_law_same hr rfl (pa_cons (pv 2) (pa_cons (pv 3) pa_nil)))))
    (pss_one (ps_ret pe_bl))
    pss_nil)))
    (pss_one (ps_ret pe_bl)))))))))), ?_⟩
  refine ⟨_, rfl, _, rfl, ?_⟩
  by_cases d1 : d = .none
  · subst d1
    cases ra
    cases rb
    exact ifT (by decide) ⟨_, rfl, okB (by decide) k0⟩
  refine ifF (rb.notN d1) ⟨_, rfl, _, rfl, _, rfl, ?_⟩
  by_cases d2 : d = .bool true
  · subst d2
    cases ra
    cases rb
    exact ifT (by decide) ⟨_, rfl, _, rfl, okB (by decide) k0⟩
  refine ifF (rb.notB d2) ⟨_, rfl, _, rfl, _, rfl, ?_⟩
  by_cases d3 : d = .bool false
  · subst d3
    cases ra
    cases rb
    exact ifT (by decide) ⟨_, rfl, _, rfl, okB (by decide) k0⟩
  refine ifF (rb.notB d3) ⟨_, rfl, _, _, _, _, _, rfl, .ty "int", rb.ty, kit_int d, _, rfl, ?_⟩
  have step5 : ∀ {A Z : Prop} {T : String}, isT T d = false → Z → if isT T d = true then A else Z := fun e z => ifF e z
  cases d with
  | none => exact absurd rfl d1
  | bool y => cases y <;> first | exact absurd rfl d2 | exact absurd rfl d3
  | dict kvs => simp [PyData.canLay0] at hc
  | int i =>
    cases ra
    cases rb
    exact ifT rfl ⟨_, rfl, N, _, _, rfl, .int i, ⟨_, rfl, ifT rfl ⟨_, rfl, _, rfl, rfl, okB (by simp) k0⟩⟩⟩
  | str x =>
    refine step5 rfl ⟨_, rfl, _, _, _, _, _, rfl, .ty "str", rb.ty, kit_str _, _, rfl, ifT rfl ?_⟩
    refine ⟨_, rfl, _, _, _, _, _, rfl, .ty "str", ra.ty, kit_str _, _, rfl, ifT rfl ?_⟩
    cases ra
    cases rb
    exact ⟨_, rfl, _, rfl, rfl, okB (by simp) k0⟩
  | tuple ds =>
    refine step5 rfl ⟨_, rfl, _, _, _, _, _, rfl, .ty "str", rb.ty, kit_str _, _, rfl, ifF rfl ?_⟩
    refine ⟨_, rfl, _, _, _, _, _, rfl, .ty "tuple", rb.ty, kit_tuple _, _, rfl, _, _, _, _, _, rfl, .ty "tuple", ra.ty, kit_tuple _, rfl, _, rfl, ifF rfl ?_⟩
    refine ⟨_, rfl, _, _, _, _, _, rfl, .ty "list", rb.ty, kit_list _, _, rfl, _, _, _, _, _, rfl, .ty "list", ra.ty, kit_list _, rfl, _, rfl, ifF rfl ?_⟩
    cases ra with
    | @tup pa xs _ ha na aa =>
    cases rb with
    | @tup pb ys _ hb nb ab =>
    have el : xs.length = ys.length := aa.length.trans ab.length.symm
    refine ⟨_, rfl, _, _, rfl, .inr (SqT.of ha), _, rfl, _, _, rfl, .inr (SqT.of hb), rfl, _, rfl, ?_⟩
    refine ifF (by rw [el]; simp) ?_
    refine ⟨_, rfl, _, rfl, _, _, _, _, rfl, .inr ⟨SqT.of ha, SqT.of hb, ?_⟩⟩
    refine RZ.for_zipT el (fun i σ H' => ∃ v1 v2, σ = [some (.ref pa), some (.ref pb), v1, v2] ∧ Same H H') ⟨_, _, rfl, Same.refl H⟩ (fun i σ H' ⟨_, _, _, e⟩ => ⟨SqT.of (e _ _ ha), SqT.of (e _ _ hb)⟩) ?_ ?_
    · rintro i x y T σ H' hx hy ⟨v1, v2, rfl, e⟩ nT
      obtain ⟨dx, mx, gx, rx⟩ := aa.at_ hx
      obtain ⟨dy, my, gy, ry⟩ := ab.at_ hy
      rw [gx] at gy
      cases gy
      have e2 : Same H (upd H' T (.tup [x, y])) := e.trans (same_new nT)
      refine ⟨_, _, rfl, SqT.of upd_same, rfl, _, _, rfl, _, _, rfl, rfl, ?_⟩
      have hd' : dx.depth + 1 ≤ n := Nat.le_trans (Nat.succ_le_succ (depth_mem mx)) hd
      refine ⟨_, rfl, _, rfl, n - 1, by omega, N, N', x, y, dx, rfl, rx.to (Kp.of_same e2), ry.to (Kp.of_same e2), by omega, lay_mem hc mx, fun H3 e3 => ?_⟩
      exact ⟨_, rfl, ifF rfl ⟨_, _, rfl, e2.trans e3⟩⟩
    · rintro σ H' ⟨v1, v2, rfl, e⟩
      exact k H' e
  | list ds =>
    refine step5 rfl ⟨_, rfl, _, _, _, _, _, rfl, .ty "str", rb.ty, kit_str _, _, rfl, ifF rfl ?_⟩
    refine ⟨_, rfl, _, _, _, _, _, rfl, .ty "tuple", rb.ty, kit_tuple _, _, rfl, _, _, _, _, _, rfl, .ty "tuple", ra.ty, kit_tuple _, rfl, _, rfl, ifF rfl ?_⟩
    refine ⟨_, rfl, _, _, _, _, _, rfl, .ty "list", rb.ty, kit_list _, _, rfl, _, _, _, _, _, rfl, .ty "list", ra.ty, kit_list _, rfl, _, rfl, ifF rfl ?_⟩
    cases ra with
    | @lst pa xs _ ha na aa =>
    cases rb with
    | @lst pb ys _ hb nb ab =>
    have el : xs.length = ys.length := aa.length.trans ab.length.symm
    refine ⟨_, rfl, _, _, rfl, .inl (SqL.of ha), _, rfl, _, _, rfl, .inl (SqL.of hb), rfl, _, rfl, ?_⟩
    refine ifF (by rw [el]; simp) ?_
    refine ⟨_, rfl, _, rfl, _, _, _, _, rfl, .inl ⟨SqL.of ha, SqL.of hb, ?_⟩⟩
    refine RZ.for_zipL el (fun i σ H' => ∃ v1 v2, σ = [some (.ref pa), some (.ref pb), v1, v2] ∧ Same H H') ⟨_, _, rfl, Same.refl H⟩ (fun i σ H' ⟨_, _, _, e⟩ => ⟨SqL.of (e _ _ ha), SqL.of (e _ _ hb)⟩) ?_ ?_
    · rintro i x y T σ H' hx hy ⟨v1, v2, rfl, e⟩ nT
      obtain ⟨dx, mx, gx, rx⟩ := aa.at_ hx
      obtain ⟨dy, my, gy, ry⟩ := ab.at_ hy
      rw [gx] at gy
      cases gy
      have e2 : Same H (upd H' T (.tup [x, y])) := e.trans (same_new nT)
      refine ⟨_, _, rfl, SqT.of upd_same, rfl, _, _, rfl, _, _, rfl, rfl, ?_⟩
      have hd' : dx.depth + 1 ≤ n := Nat.le_trans (Nat.succ_le_succ (depth_mem mx)) hd
      refine ⟨_, rfl, _, rfl, n - 1, by omega, N, N', x, y, dx, rfl, rx.to (Kp.of_same e2), ry.to (Kp.of_same e2), by omega, lay_mem hc mx, fun H3 e3 => ?_⟩
      exact ⟨_, rfl, ifF rfl ⟨_, _, rfl, e2.trans e3⟩⟩
    · rintro σ H' ⟨v1, v2, rfl, e⟩
      exact k H' e
end
end KQ
set_option Elab.async false
set_option maxRecDepth 100000
set_option maxHeartbeats 4000000
namespace KQ
open PySem PySem.Spec PyProof.Rows L2
theorem has_none {P : Program} {w : World} {K : PySem.W.Frag} {mg : Str → Option Value} {base : Heap} {x : Str} {st : Stmt} {ps : List Str} {k : Nat} {sp : Sp} (F : FunAt K mg x st) (hb : BindsTo? st x ps) (no : ∀ vs H Q E, ¬ sp vs H Q E) : Has P w K mg base k x ps sp := by
  obtain ⟨f, fd, F, m⟩ := F
  exact ⟨f, fd, ⟨fun vs H Q E h => absurd h (no vs H Q E), fun A outer s H args us vs Q E _ _ _ _ h => absurd h (no vs H Q E)⟩, m, F.kp, F.binds hb⟩
/-- the odd things -/
def odds : List PyData := [.none, .bool true, .bool false, .str "", .str "do", .str "0", .tuple [], .list [], .dict [], .tuple [.int 0], .list [.int 0, .int 0], .tuple [.tuple []],
  .int (-1), .int 13, .int (10 ^ 20 - 1), .tuple [.int 0, .int 13], .tuple [.bool true, .int 0], .tuple [.int 0, .int 0, .int 0]]
def spOdd : Sp := fun vs H Q _ => ∃ h l : Addr, vs = [.ref h] ∧ HandOk H h l ∧ ∀ (v : V) (d : PyData) (H' : Hp), d ∈ odds → Rp (Nh h) H' v d → HandOk H' h l → Kp (Nh h) H H' → Q v H'
theorem lt6 {i : Int} (h0 : 0 ≤ i) (h : i < 6) : i = 0 ∨ i = 1 ∨ i = 2 ∨ i = 3 ∨ i = 4 ∨ i = 5 := by omega
theorem Kp.hand {H H' : Hp} {h : Addr} (k : ∀ a, a ≠ h → H' a = H a) : Kp (Nh h) H H' := fun a o e n => by rw [k a n]; exact e
theorem Kp.hn {H : Hp} {h p : Addr} {H0 : Hp} {o : HO} (k : Kp (Nh h) H0 H) (n : H p = none) : Kp (Nh h) H0 (upd H p o) := k.new' n
/-- a datum just laid -/
theorem Rp.tup0 {H : Hp} {h l p : Addr} {vs : List V} {ds : List PyData} (ho : HandOk H h l) (n : H p = none) (r : RpAll (Nh h) H vs ds) : Rp (Nh h) (upd H p (.tup vs)) (.ref p) (.tuple ds) :=
  .tup upd_same (ho.ne n) (r.to (Kp.new n))
theorem Rp.lst0 {H : Hp} {h l p : Addr} {vs : List V} {ds : List PyData} (ho : HandOk H h l) (n : H p = none) (r : RpAll (Nh h) H vs ds) : Rp (Nh h) (upd H p (.lst vs)) (.ref p) (.list ds) :=
  .lst upd_same (ho.ne n) (r.to (Kp.new n))
theorem Rp.emp0 {H : Hp} {h l p : Addr} (ho : HandOk H h l) (n : H p = none) : Rp (Nh h) (upd H p (.dK [])) (.ref p) (.dict []) :=
  .emp upd_same (ho.ne n)
abbrev rI1 {N : Addr → Prop} {H : Hp} (i : Int) : RpAll N H [.int i] [.int i] := .cons (.int i) .nil
section
variable {P : Program} {w : World} {K : PySem.W.Frag} {mg : Str → Option Value} {base : Heap}
theorem d_law_same (B : Bi mg) (F : FunAt K mg "_law_same" s_law_same) (D : Has P w K mg base 1 "_law_is_integer" ["thing"] spIsInt) : ∀ n : Nat, Has P w K mg base (n + 2) "_law_same" ["actual", "due"] (spSame n)
  | 0 => same_step B F D 0 (has_none F (fun _ _ _ _ _ _ us hl => match us, hl with | [_, _], _ => rfl) fun _ _ _ _ ⟨_, e, _⟩ => nomatch e)
  | n + 1 => same_step B F D (n + 1) ((d_law_same B F D n).imp fun _ _ _ _ ⟨m, e, q⟩ => by cases e; exact q)
end
end KQ
set_option Elab.async false
set_option maxRecDepth 100000
set_option maxHeartbeats 4000000
namespace KQ
open PySem PySem.Spec PyProof.Rows L2
def numOf (d : PyData) : Bool := match intOf d with
  | some i => decide (0 ≤ i)
  | none => false
def below (b : Int) (d : PyData) : Bool := match intOf d with
  | some i => decide (0 ≤ i) && decide (i < b)
  | none => false
def spIsNumber : Sp := fun vs H Q _ => ∃ (N : Addr → Prop) (v : V) (d : PyData), vs = [v] ∧ Rp N H v d ∧ Q (.bl (numOf d)) H
def spIsBelow : Sp := fun vs H Q _ => ∃ (N : Addr → Prop) (v : V) (d : PyData) (b : Int), vs = [.int b, v] ∧ Rp N H v d ∧ Q (.bl (below b d)) H
theorem lk_head {x : Str} {v : V} {r : List (Str × V)} : ((x, v) :: r).lookup x = some v := by simp [List.lookup]
theorem lk_next {x y : Str} {v : V} {r : List (Str × V)} (h : ¬ y = x) : ((x, v) :: r).lookup y = r.lookup y := by
  have e : (y == x) = false := by simpa using h
  simp [List.lookup, e]
def lenIs (m : Int) : PyData → Bool
  | .tuple ds => decide ((ds.length : Int) = m)
  | _ => false
def spTupOf : Sp := fun vs H Q _ => ∃ (N : Addr → Prop) (v : V) (d : PyData) (m : Int), vs = [.int m, v] ∧ Rp N H v d ∧ Q (.bl (lenIs m d)) H
section
variable {P : Program} {w : World} {K : PySem.W.Frag} {mg : Str → Option Value} {base : Heap}
theorem d_is_number (B : Bi mg) (F : FunAt K mg "is_number" s_is_number) : Has P w K mg base 1 "is_number" ["thing"] spIsNumber := by
  refine mk_has F sc_is_number (fun _ _ _ _ _ _ us hl => match us, hl with | [_], _ => rfl) (fun vs H Q E h => ?_) fun f cdv A outer s H vs Q E hr h => ?_
  · obtain ⟨N, v, d, rfl, _⟩ := h
    rfl
  obtain ⟨N, v, d, rfl, r, k⟩ := h
  refine ⟨_, (pss_one (ps_ret (pe_and (pe_callB call_isi rfl B.isinstance (by decide +kernel) (pa_cons (pv 0) (pa_cons (pe_bltn (v := .ty "int") rfl B.int (by decide +kernel) rfl) pa_nil))) (pe_and (pe_not (pe_callB call_isi rfl B.isinstance (by decide +kernel) (pa_cons (pv 0) (pa_cons (pe_bltn (v := .ty "bool") rfl B.bool (by decide +kernel) rfl) pa_nil)))) (pe_one (pe_cmpR op_ge (pv 0) pe_int (nomark _))))))), ?_⟩
  refine ⟨_, rfl, _, _, _, _, _, rfl, .ty "int", r.ty, kit_int d, _, rfl, ?_⟩
  unfold numOf at k
  cases d with
  | int i =>
    cases r
    refine ifT rfl ⟨_, rfl, _, _, _, _, _, rfl, .ty "bool", (Rp.int (N := N) i).ty, kit_bool _, _, rfl, _, rfl, ifT rfl ⟨_, rfl, _, _, rfl, rfl, k⟩⟩
  | bool b => exact ifT rfl ⟨_, rfl, _, _, _, _, _, rfl, .ty "bool", r.ty, kit_bool _, _, rfl, _, rfl, ifF rfl k⟩
  | none => exact ifF rfl k
  | str x => exact ifF rfl k
  | list x => exact ifF rfl k
  | tuple x => exact ifF rfl k
  | dict x => exact ifF rfl k
theorem d_is_below (F : FunAt K mg "is_below" s_is_below) (D_is_number : Has P w K mg base 1 "is_number" ["thing"] spIsNumber) : Has P w K mg base 2 "is_below" ["bound", "thing"] spIsBelow := by
  refine mk_has F sc_is_below (fun _ _ _ _ _ _ us hl => match us, hl with | [_, _], _ => rfl) (fun vs H Q E h => ?_) fun f cdv A outer s H vs Q E hr h => ?_
  · obtain ⟨N, v, d, b, rfl, _⟩ := h
    rfl
  obtain ⟨N, v, d, b, rfl, r, k⟩ := h
  refine ⟨_, (pss_one (ps_ret (pe_and (pe_h D_is_number (hr.mono (by decide)) rfl (pa_cons (pv 1) pa_nil)) (pe_one (pe_cmpR op_lt (pv 1) (pv 0) (nomark _)))))), ?_⟩
  refine ⟨_, rfl, N, v, d, rfl, r, _, rfl, ?_⟩
  unfold below at k
  unfold numOf
  cases e : intOf d with
  | none =>
    rw [e] at k
    exact ifF rfl k
  | some i =>
    rw [e] at k
    have ed : d = .int i := by cases d <;> simp_all [intOf]
    subst ed
    cases r
    have k' : Q (.bl (decide (0 ≤ i) && decide (i < b))) H := k
    show if decide (0 ≤ i) = true then _ else _
    cases e1 : decide (0 ≤ i) with
    | true =>
      rw [e1] at k'
      exact ifT rfl ⟨_, rfl, _, rfl, _, _, rfl, rfl, k'⟩
    | false =>
      rw [e1] at k'
      exact ifF rfl k'
theorem d_is_tuple_of (B : Bi mg) (F : FunAt K mg "is_tuple_of" s_is_tuple_of) : Has P w K mg base 1 "is_tuple_of" ["many", "thing"] spTupOf := by
  refine mk_has F sc_is_tuple_of (fun _ _ _ _ _ _ us hl => match us, hl with | [_, _], _ => rfl) (fun vs H Q E h => ?_) fun f cdv A outer s H vs Q E hr h => ?_
  · obtain ⟨N, v, d, m, rfl, _⟩ := h
    rfl
  obtain ⟨N, v, d, m, rfl, r, k⟩ := h
  refine ⟨_, (pss_one (ps_ret (pe_and (pe_callB call_isi rfl B.isinstance (by decide +kernel) (pa_cons (pv 1) (pa_cons (pe_bltn (v := .ty "tuple") rfl B.tuple (by decide +kernel) rfl) pa_nil))) (pe_one (pe_cmpR op_eq (pe_callB call_len_seq rfl B.len PySem.boot_len (pa_cons (pv 1) pa_nil)) (pv 0) (nomark _)))))), ?_⟩
  refine ⟨_, rfl, _, _, _, _, _, rfl, .ty "tuple", r.ty, kit_tuple d, _, rfl, ?_⟩
  cases d with
  | tuple ds =>
    cases r with
    | tup e n ra =>
    exact ifT rfl ⟨_, rfl, _, _, rfl, .inr (SqT.of e), _, rfl, rfl, okB (by rw [ra.length]; simp [lenIs]) k⟩
  | bool b => exact ifF rfl k
  | int b => exact ifF rfl k
  | none => exact ifF rfl k
  | str x => exact ifF rfl k
  | list x => exact ifF rfl k
  | dict x => exact ifF rfl k
end
end KQ
set_option Elab.async false
set_option maxRecDepth 100000
set_option maxHeartbeats 4000000
namespace KQ
open PySem PySem.Spec PyProof.Rows L2
/-! ### works: what is asked of rules and tasks -/
def isPair (m k : Int) : PyData → Bool
  | .tuple [a, b] => below m a && below k b
  | _ => false
def isRule (m k : Int) : PyData → Bool
  | .tuple ds => decide (ds.length ≤ 4) && ds.all (isPair m k)
  | _ => false
def spPair : Sp := fun vs H Q _ => ∃ (N : Addr → Prop) (v : V) (d : PyData) (m k : Int), vs = [.int m, .int k, v] ∧ Rp N H v d ∧ Q (.bl (isPair m k d)) H
def spRule : Sp := fun vs H Q _ => ∃ (N : Addr → Prop) (v : V) (d : PyData) (m k : Int), vs = [.int m, .int k, v] ∧ Rp N H v d ∧ ∀ H', Same H H' → Q (.bl (isRule m k d)) H'
theorem tYes_ok {σ : L2.St} {H : Hp} {Q : Bool → Hp → Prop} (h : Q true H) : tYes σ H Q := h
theorem map_take {α β : Type} {f : α → β} {ds : List α} {i : Nat} {d : α} (h : ds[i]? = some d) : (ds.take (i + 1)).map f = (ds.take i).map f ++ [f d] := by
  rw [List.take_add_one, h, List.map_append] <;> rfl
section
variable {P : Program} {w : World} {K : PySem.W.Frag} {mg : Str → Option Value} {base : Heap} {t1 t2 t3 t4 : Tok}
theorem d_is_rule_pair (F : FunAt K mg "is_rule_pair" s_is_rule_pair) (D_is_tuple_of : Has P w K mg base 1 "is_tuple_of" ["many", "thing"] spTupOf) (D_is_below : Has P w K mg base 2 "is_below" ["bound", "thing"] spIsBelow) : Has P w K mg base 3 "is_rule_pair" ["many", "kinds", "thing"] spPair := by
  refine mk_has F sc_is_rule_pair (fun _ _ _ _ _ _ us hl => match us, hl with | [_, _, _], _ => rfl) (fun vs H Q E h => ?_) fun f cdv A outer s H vs Q E hr h => ?_
  · obtain ⟨N, v, d, m, k, rfl, _⟩ := h
    rfl
  obtain ⟨N, v, d, m, n, rfl, r, k⟩ := h
  refine ⟨_, (pss_one (ps_ret (pe_and (pe_h D_is_tuple_of (hr.mono (by decide)) rfl (pa_cons pe_int (pa_cons (pv 2) pa_nil))) (pe_and (pe_h D_is_below (hr.mono (by decide)) rfl (pa_cons (pv 0) (pa_cons (pe_ix ix_tup (pv 2) pe_int (fun _ _ => rfl)) pa_nil))) (pe_one (pe_h D_is_below (hr.mono (by decide)) rfl (pa_cons (pv 1) (pa_cons (pe_ix ix_tup (pv 2) pe_int (fun _ _ => rfl)) pa_nil)))))))), ?_⟩
  refine ⟨_, rfl, N, v, d, 2, rfl, r, _, rfl, ?_⟩
  cases d with
  | tuple ds =>
    cases r with
    | tup e no ra =>
    cases ra with
    | nil => exact ifF rfl k
    | cons rx ra =>
    cases ra with
    | nil => exact ifF rfl k
    | cons ry ra =>
    cases ra with
    | nil =>
      rename_i x a y b
      refine ifT rfl ⟨_, rfl, _, rfl, _, _, _, _, rfl, rfl, SqT.of e, rfl, N, _, _, _, rfl, rx, _, rfl, ?_⟩
      cases e1 : below m a with
      | true => exact ifT rfl ⟨_, rfl, _, rfl, _, _, _, _, rfl, rfl, SqT.of e, rfl, N, _, _, _, rfl, ry, okB (by simp [isPair, e1]) k⟩
      | false => exact ifF rfl (okB (by simp [isPair, e1]) k)
    | cons rz ra => exact ifF (by simp [lenIs]; omega) k
  | bool b => exact ifF rfl k
  | int b => exact ifF rfl k
  | none => exact ifF rfl k
  | str x => exact ifF rfl k
  | list x => exact ifF rfl k
  | dict x => exact ifF rfl k
theorem d_is_rule (B : Bi mg) (F : FunAt K mg "is_rule" s_is_rule) (g_MOST_PAIRS : mg "MOST_PAIRS" = some (.int 4 t3)) (D_is_rule_pair : Has P w K mg base 3 "is_rule_pair" ["many", "kinds", "thing"] spPair) : Has P w K mg base 4 "is_rule" ["many", "kinds", "thing"] spRule := by
  refine mk_has F sc_is_rule (fun _ _ _ _ _ _ us hl => match us, hl with | [_, _, _], _ => rfl) (fun vs H Q E h => ?_) fun f cdv A outer s H vs Q E hr h => ?_
  · obtain ⟨N, v, d, m, k, rfl, _⟩ := h
    rfl
  obtain ⟨N, v, d, m, n, rfl, r, k⟩ := h
  refine ⟨_, (pss_cons (ps_if (PW.pt (pw_or (pt_not (pt_val (pe_callB call_isi rfl B.isinstance (by decide +kernel) (pa_cons (pv 2) (pa_cons (pe_bltn (v := .ty "tuple") rfl B.tuple (by decide +kernel) rfl) pa_nil))))) (pw_or1 (pt_cmpR op_gt (pe_callB call_len_seq rfl B.len PySem.boot_len (pa_cons (pv 2) pa_nil)) (pe_glob (v := .int 4) rfl g_MOST_PAIRS ⟨_, rfl⟩) (nomark _)))))
    (pss_one (ps_ret pe_bl))
    pss_nil)
    (pss_one (ps_ret (pe_callB (cr_all rfl) rfl B.all (by decide +kernel) (pa_cons (pe_lc (own := [("pair", 3)]) (g := gName 3) (tt := tYes) (te := (tCall spPair [] E0 (tCons (tVar 0) (tCons (tVar 1) (tCons (tVar 3) tNil))))) rfl sc_is_rule.nd (pi_tup (pv 2)) (blkOk_by (own := [("pair", 3)]) (N := ["many", "kinds", "thing", "pair"]) (sc := defScope s_is_rule) (by decide +kernel)) (fun _ _ _ _ _ => (pg_name (i := 3) sc_is_rule.nd rfl (Or.inl rfl))) (fun _ _ _ _ _ => pts_nil) (fun _ _ _ _ _ => (pe_h D_is_rule_pair (hr.mono (by decide)) rfl (pa_cons (pv 0) (pa_cons (pv 1) (pa_cons (pv 3) pa_nil)))))) pa_nil))))), ?_⟩
  refine ⟨_, rfl, _, _, _, _, _, rfl, .ty "tuple", r.ty, kit_tuple d, _, rfl, ?_⟩
  cases d with
  | tuple ds =>
    cases r with
    | @tup p xs _ e no ra =>
    refine ifF rfl ⟨_, rfl, _, _, rfl, .inr (SqT.of e), _, _, rfl, rfl, _, rfl, ?_⟩
    refine ite2 (fun c => ?_) (fun c => ?_)
    · have c' := of_decide_eq_true c
      rw [ra.length] at c'
      exact okB (by simp [isRule]; omega) (k H (Same.refl H))
    have hlen : ds.length ≤ 4 := by
      have c' : ¬ (4 < (xs.length : Int)) := fun z => c (decide_eq_true z)
      rw [ra.length] at c'
      omega
    refine ⟨_, rfl, _, rfl, ⟨xs, SqT.of e⟩, fun D nD => lc_tup (K := K) (a := p) (xs := xs) (fun i H' => Same H H' ∧ H' D = some (.lst ((ds.take i).map fun d => .bl (isPair m n d)))) ⟨same_new nD, upd_same⟩ (fun i H' _ z => SqT.of (z.1 _ _ e)) (fun i x H' hx z => ?_) fun H' z => ?_⟩
    · obtain ⟨d, md, gd, rd⟩ := ra.at_ hx
      refine ⟨rfl, ?_⟩
      refine tYes_ok ?_
      rw [if_pos rfl]
      refine ⟨_, rfl, _, rfl, _, rfl, N, x, d, m, n, rfl, rd.to (Kp.of_same z.1), _, z.2, ?_, ?_, ?_⟩
      · rw [List.length_map, List.length_take]
        exact Nat.lt_of_le_of_lt (Nat.le_trans (Nat.min_le_right _ _) hlen) (by decide)
      · exact fun b o q => by rw [upd_ne (ne_of_none q nD)]; exact z.1 b o q
      · rw [upd_same, map_take gd]
    · refine ⟨D, ds.map (isPair m n), rfl, SqL.of ?_, okB ?_ (k H' z.1)⟩
      · rw [z.2, List.map_map, ra.length, List.take_length]
        rfl
      · simp [isRule, hlen, List.all_map]
  | bool b => exact ifT rfl (k _ (Same.refl H))
  | int b => exact ifT rfl (k _ (Same.refl H))
  | none => exact ifT rfl (k _ (Same.refl H))
  | str x => exact ifT rfl (k _ (Same.refl H))
  | list x => exact ifT rfl (k _ (Same.refl H))
  | dict x => exact ifT rfl (k _ (Same.refl H))
end
end KQ
set_option Elab.async false
set_option maxRecDepth 100000
set_option maxHeartbeats 4000000
namespace KQ
open PySem PySem.Spec PyProof.Rows L2
/-! ### Works -/
mutual
theorem Rp.dp {K : PySem.W.Frag} {N : Addr → Prop} {H : Hp} : ∀ {v : V} {d : PyData}, Rp N H v d → d.canLay0 = true → Dp K H v d
  | _, _, .non, _ => .non
  | _, _, .bl b, _ => .bl b
  | _, _, .int i, _ => .int i
  | _, _, .str x, _ => .str x
  | _, _, .lst e _ r, c => .lst (SqL.of e) (r.dp (by simpa [PyData.canLay0] using c))
  | _, _, .tup e _ r, c => .tup (SqT.of e) (r.dp (by simpa [PyData.canLay0] using c))
  | _, _, .emp _ _, c => by simp [PyData.canLay0] at c
theorem RpAll.dp {K : PySem.W.Frag} {N : Addr → Prop} {H : Hp} : ∀ {vs : List V} {ds : List PyData}, RpAll N H vs ds → PyData.canLayAll0 ds = true → DpAll K H vs ds
  | _, _, .nil, _ => .nil
  | _, _, .cons r t, c => by
    unfold PyData.canLayAll0 at c
    rw [Bool.and_eq_true] at c
    exact .cons (r.dp c.1) (t.dp c.2)
end
theorem lay_of {d : PyData} (h : SeqAt.shaped d = true) : d.canLay0 = true := SeqAt.canLay_of_shaped h
def firstBad (f : PyData → Bool) : Nat → List PyData → Option Nat
  | _, [] => none
  | i, d :: ds => if f d then firstBad f (i + 1) ds else some i
theorem firstBad_at {f : PyData → Bool} {ds : List PyData} {i : Nat} {d : PyData} (h : ds[i]? = some d) : firstBad f i (ds.drop i) = if f d then firstBad f (i + 1) (ds.drop (i + 1)) else some i := by
  obtain ⟨hl, e⟩ := List.getElem?_eq_some_iff.mp h
  rw [List.drop_eq_getElem_cons hl, e]
  rfl
def num (d : PyData) : Int := (intOf d).getD 0
/-- what is wrong with many and rules -/
def badW (dm dr : PyData) : Option V :=
  if within dm 1 6 = false then some (.str "many") else match dr with
  | .tuple ds => if ds.length = 0 ∨ 6 < ds.length then some (.int (-1)) else (firstBad (isRule (num dm) ds.length) 0 ds).map fun i => .int (i : Nat)
  | _ => some (.int (-1))
def wF (vm vr : V) : List (Str × V) := [("many", vm), ("rules", vr)]
theorem fne3 : ¬ (("many" : Str) = "rules") := by decide +kernel
theorem wF_new {vm vr : V} : putF "rules" vr (putF "many" vm []) = wF vm vr := by
  show (if ("many" : Str) = "rules" then _ else (("many" : Str), vm) :: putF "rules" vr []) = _
  rw [if_neg fne3] <;> rfl
theorem wF_m {vm vr : V} : (wF vm vr).lookup ("many" : Str) = some vm := lk_head
theorem wF_r {vm vr : V} : (wF vm vr).lookup ("rules" : Str) = some vr := (lk_next (by decide +kernel)).trans lk_head
theorem wF_no {vm vr : V} {m : Str} (h1 : ¬ m = "many") (h2 : ¬ m = "rules") : (wF vm vr).lookup m = none := (lk_next h1).trans ((lk_next h2).trans rfl)
def WorksAt (C : Addr) (H : Hp) (p : Addr) (vm vr : V) : Prop := ∃ dx, H p = some (.ins C dx (wF vm vr))
theorem WorksAt.same {C : Addr} {H H' : Hp} {p : Addr} {vm vr : V} (o : WorksAt C H p vm vr) (k : Same H H') : WorksAt C H' p vm vr := ⟨o.choose, k _ _ o.choose_spec⟩
/-- what the written part says of the class Works -/
structure WorksC (K : PySem.W.Frag) (mg : Str → Option Value) (C : Addr) : Prop where
  g : mg "Works" = some (.ref C)
  cl : Cls K C
  n1 : NoAttr K C "many"
  n2 : NoAttr K C "rules"
  ha : PySem.W.findIn K (.ref C) "__class__" = some (some (.builtin "object.__class__"))
  hn : PySem.W.specialIn K (.builtin "object.__class__") "__get__" = some (some (.builtin "getset_descriptor.__get__"))
  htk : PySem.W.takesIn K (.builtin "object.__class__") = some true
  hm : PySem.W.mroIn K C (.type "object") = some true
  k1 : PySem.W.kitOne K (.ref C) (.ref C) = some true
  k0 : PySem.W.kitOne K (.type "tuple") (.ref C) = some false
  nf : PySem.W.notFirst K C (.type "tuple") = true
theorem WorksC.ty {K : PySem.W.Frag} {mg : Str → Option Value} {C : Addr} (T : WorksC K mg C) {H : Hp} {a dx : Addr} {fs : List (Str × V)} (h : H a = some (.ins C dx fs)) : TyX K H (.ref a) (.ref C) :=
  .base (.ins h T.cl T.ha T.hn T.htk T.hm)
def spWInit (C CB : Addr) : Sp := fun vs H Q E => ∃ (N : Addr → Prop) (p dx : Addr) (vm vr : V) (dm dr : PyData), vs = [.ref p, vm, vr] ∧ H p = some (.ins C dx []) ∧ Rp N H vm dm ∧ Rp N H vr dr ∧
  (∀ e, badW dm dr = some e → ∀ (d : Addr) (H' : Hp), Same H H' → H' d = none → E (.ref CB) (some d) (upd H' d (.xd [("part", e)]))) ∧
  (badW dm dr = none → ∀ H', H' p = some (.ins C dx (wF vm vr)) → Kp (Nh p) H H' → Q .non H')
def spWEq (C : Addr) : Sp := fun vs H Q _ => ∃ (a b : Addr) (vm vr : V), vs = [.ref a, .ref b] ∧ WorksAt C H a vm vr ∧
  (((∃ xs, H b = some (.tup xs)) ∧ Q (.bl false) H) ∨ ∃ (N : Addr → Prop) (vm' vr' : V) (dr dr' : PyData) (i j : Int), WorksAt C H b vm' vr' ∧ vm = .int i ∧ vm' = .int j ∧ Rp N H vr dr ∧ Rp N H vr' dr' ∧ SeqAt.shaped dr = true ∧ SeqAt.shaped dr' = true ∧ Q (.bl (decide (i = j) && PyData.eqv dr dr')) H)
def spIsHouse (C : Addr) : Sp := fun vs H Q _ => ∃ (N : Addr → Prop) (a : Addr) (m : Int) (vr v : V) (d : PyData), vs = [.ref a, v] ∧ WorksAt C H a (.int m) vr ∧ Rp N H v d ∧ Q (.bl (below m d)) H
def spIsTask (C : Addr) : Sp := fun vs H Q _ => ∃ (N : Addr → Prop) (a r : Addr) (vm v : V) (rs : List V) (d : PyData), vs = [.ref a, v] ∧ WorksAt C H a vm (.ref r) ∧ H r = some (.tup rs) ∧ Rp N H v d ∧ Q (.bl (isPair rs.length 13 d)) H
def spCheckHouse (C CN : Addr) : Sp := fun vs H Q E => ∃ (N : Addr → Prop) (a : Addr) (m : Int) (vr v : V) (d : PyData), vs = [.ref a, v] ∧ WorksAt C H a (.int m) vr ∧ Rp N H v d ∧ (below m d = false → E (.ref CN) none H) ∧ (below m d = true → Q .non H)
def spCheckTask (C CN : Addr) : Sp := fun vs H Q E => ∃ (N : Addr → Prop) (a r : Addr) (vm v : V) (rs : List V) (d : PyData), vs = [.ref a, v] ∧ WorksAt C H a vm (.ref r) ∧ H r = some (.tup rs) ∧ Rp N H v d ∧
  (isPair rs.length 13 d = false → E (.ref CN) none H) ∧ (isPair rs.length 13 d = true → Q .non H)
section
variable {P : Program} {w : World} {K : PySem.W.Frag} {mg : Str → Option Value} {base : Heap} {t1 t2 t3 t4 : Tok} {C CB CN : Addr}
theorem d_is_house (T : WorksC K mg C) (F : FunAt K mg "is_house" s_is_house) (D_is_below : Has P w K mg base 2 "is_below" ["bound", "thing"] spIsBelow) : Has P w K mg base 3 "is_house" ["works", "thing"] (spIsHouse C) := by
  refine mk_has F sc_is_house (fun _ _ _ _ _ _ us hl => match us, hl with | [_, _], _ => rfl) (fun vs H Q E h => ?_) fun f cdv A outer s H vs Q E hr h => ?_
  · obtain ⟨N, a, m, vr, v, d, rfl, _⟩ := h
    rfl
  obtain ⟨N, a, m, vr, v, d, rfl, ⟨dx, ha⟩, r, k⟩ := h
  refine ⟨_, (pss_one (ps_ret (pe_h D_is_below (hr.mono (by decide)) rfl (pa_cons (pe_fld (pv 0) rfl) (pa_cons (pv 1) pa_nil))))), ?_⟩
  exact ⟨_, rfl, a, C, dx, _, _, rfl, ha, T.cl, T.n1, wF_m, _, rfl, N, v, d, m, rfl, r, k⟩
theorem d_check_house (x_NoHouse : ExcAt K mg "NoHouse" CN) (F : FunAt K mg "check_house" s_check_house) (D_is_house : Has P w K mg base 3 "is_house" ["works", "thing"] (spIsHouse C)) : HasX P w K mg base 4 "check_house" ["works", "house"] (spCheckHouse C CN) := by
  refine mk_hasX F sc_check_house (fun _ _ _ _ _ _ us hl => match us, hl with | [_, _], _ => rfl) (fun vs H Q E h => ?_) fun f cdv A outer s H vs Q E hr h => ?_
  · obtain ⟨N, a, m, vr, v, d, rfl, _⟩ := h
    rfl
  obtain ⟨N, a, m, vr, v, d, rfl, ha, r, k1, k2⟩ := h
  refine ⟨_, (pss_one (ps_if (pt_not (pt_val (pe_h D_is_house (hr.mono (by decide)) rfl (pa_cons (pv 0) (pa_cons (pv 1) pa_nil)))))
    (pss_one (ps_rz rfl (takes_of rfl rfl rfl rfl) x_NoHouse rfl))
    pss_nil)), ?_⟩
  refine ⟨_, rfl, _, rfl, N, a, m, vr, v, d, rfl, ha, r, _, rfl, ?_⟩
  cases e : below m d with
  | true => exact ifF rfl (k2 e)
  | false => exact ifT rfl (k1 e)
theorem d_is_task (B : Bi mg) (T : WorksC K mg C) (F : FunAt K mg "is_task" s_is_task) (g_MOST_FUEL : mg "MOST_FUEL" = some (.int 12 t4)) (D_is_tuple_of : Has P w K mg base 1 "is_tuple_of" ["many", "thing"] spTupOf) (D_is_below : Has P w K mg base 2 "is_below" ["bound", "thing"] spIsBelow) : Has P w K mg base 3 "is_task" ["works", "thing"] (spIsTask C) := by
  refine mk_has F sc_is_task (fun _ _ _ _ _ _ us hl => match us, hl with | [_, _], _ => rfl) (fun vs H Q E h => ?_) fun f cdv A outer s H vs Q E hr h => ?_
  · obtain ⟨N, a, r, vm, v, rs, d, rfl, _⟩ := h
    rfl
  obtain ⟨N, a, r, vm, v, rs, d, rfl, ⟨dx, ha⟩, hrs, rd, k⟩ := h
  refine ⟨_, (pss_one (ps_ret (pe_and (pe_h D_is_tuple_of (hr.mono (by decide)) rfl (pa_cons pe_int (pa_cons (pv 1) pa_nil))) (pe_and (pe_h D_is_below (hr.mono (by decide)) rfl (pa_cons (pe_callB call_len_seq rfl B.len PySem.boot_len (pa_cons (pe_fld (pv 0) rfl) pa_nil)) (pa_cons (pe_ix ix_tup (pv 1) pe_int (fun _ _ => rfl)) pa_nil))) (pe_one (pe_h D_is_below (hr.mono (by decide)) rfl (pa_cons (pe_op op_add (pe_glob (v := .int 12) rfl g_MOST_FUEL ⟨_, rfl⟩) pe_int) (pa_cons (pe_ix ix_tup (pv 1) pe_int (fun _ _ => rfl)) pa_nil)))))))), ?_⟩
  refine ⟨_, rfl, N, v, d, 2, rfl, rd, _, rfl, ?_⟩
  cases d with
  | tuple ds =>
    cases rd with
    | tup e no ra =>
    cases ra with
    | nil => exact ifF rfl k
    | cons rx ra =>
    cases ra with
    | nil => exact ifF rfl k
    | cons ry ra =>
    cases ra with
    | nil =>
      rename_i x y1 y b
      refine ifT rfl ⟨_, rfl, a, C, dx, _, _, rfl, ha, T.cl, T.n2, wF_r, _, _, rfl, .inr (SqT.of hrs), _, rfl, _, _, _, _, rfl, rfl, SqT.of e, rfl, N, _, _, _, rfl, rx, _, rfl, ?_⟩
      cases e1 : below rs.length y1 with
      | true => exact ifT rfl ⟨_, _, rfl, rfl, _, rfl, _, _, _, _, rfl, rfl, SqT.of e, rfl, N, _, _, _, rfl, ry, okB (by simp [isPair, e1]) k⟩
      | false => exact ifF rfl (okB (by simp [isPair, e1]) k)
    | cons rz ra => exact ifF (by simp [lenIs]; omega) k
  | bool b => exact ifF rfl k
  | int b => exact ifF rfl k
  | none => exact ifF rfl k
  | str x => exact ifF rfl k
  | list x => exact ifF rfl k
  | dict x => exact ifF rfl k
theorem d_check_task (x_NoTask : ExcAt K mg "NoTask" CN) (F : FunAt K mg "check_task" s_check_task) (D_is_task : Has P w K mg base 3 "is_task" ["works", "thing"] (spIsTask C)) : HasX P w K mg base 4 "check_task" ["works", "task"] (spCheckTask C CN) := by
  refine mk_hasX F sc_check_task (fun _ _ _ _ _ _ us hl => match us, hl with | [_, _], _ => rfl) (fun vs H Q E h => ?_) fun f cdv A outer s H vs Q E hr h => ?_
  · obtain ⟨N, a, r, vm, v, rs, d, rfl, _⟩ := h
    rfl
  obtain ⟨N, a, r, vm, v, rs, d, rfl, ha, hrs, rd, k1, k2⟩ := h
  refine ⟨_, (pss_one (ps_if (pt_not (pt_val (pe_h D_is_task (hr.mono (by decide)) rfl (pa_cons (pv 0) (pa_cons (pv 1) pa_nil)))))
    (pss_one (ps_rz rfl (takes_of rfl rfl rfl rfl) x_NoTask rfl))
    pss_nil)), ?_⟩
  refine ⟨_, rfl, _, rfl, N, a, r, vm, v, rs, d, rfl, ha, hrs, rd, _, rfl, ?_⟩
  cases e : isPair rs.length 13 d with
  | true => exact ifF rfl (k2 e)
  | false => exact ifT rfl (k1 e)
theorem d_works_eq (B : Bi mg) (T : WorksC K mg C) (F : MethAt K C "__eq__" "Works.__eq__" s_Works___eq__) : HasM P w K mg base 1 C "__eq__" ["self", "other"] (spWEq C) := by
  refine mk_hasM F sc_Works___eq__ (fun _ _ _ _ _ _ us hl => match us, hl with | [_, _], _ => rfl) (fun vs H Q E h => ?_) fun f cdv A outer s H vs Q E hr h => ?_
  · obtain ⟨a, b, vm, vr, rfl, _⟩ := h
    rfl
  obtain ⟨a, b, vm, vr, rfl, ⟨dx, ha⟩, k⟩ := h
  have hu := hu_of hr
  refine ⟨_, (pss_one (ps_ret (pe_and (pe_callB call_isi rfl B.isinstance (by decide +kernel) (pa_cons (pv 1) (pa_cons (pe_glob (v := .ref C) rfl T.g rfl) pa_nil))) (pe_and (pe_cmpR op_eq (pe_fld (pv 0) rfl) (pe_fld (pv 1) rfl) (nomark _)) (pe_one (pe_cmpR (op_eqD hr.units) (pe_fld (pv 0) rfl) (pe_fld (pv 1) rfl) (nomark _))))))), ?_⟩
  rcases k with ⟨⟨xs, hb⟩, k⟩ | ⟨N, vm', vr', dr, dr', i, j, ⟨dy, hb⟩, rfl, rfl, r, r', sh, sh', k⟩
  · exact ⟨_, rfl, _, _, _, _, _, rfl, .own C, .base (.tup hb), T.k0, _, rfl, ifF rfl k⟩
  · refine ⟨_, rfl, _, _, _, _, _, rfl, .own C, T.ty hb, T.k1, _, rfl, ifT rfl ?_⟩
    refine ⟨_, rfl, a, C, dx, _, _, rfl, ha, T.cl, T.n1, wF_m, _, rfl, b, C, dy, _, _, rfl, hb, T.cl, T.n1, wF_m, rfl, _, rfl, ?_⟩
    cases e : decide (i = j) with
    | false =>
      rw [e] at k
      exact ifF (by show decide (V.int i = V.int j) = false; simp at e ⊢; exact e) k
    | true =>
      rw [e] at k
      exact ifT (by show decide (V.int i = V.int j) = true; simp at e ⊢; exact e) ⟨_, rfl, a, C, dx, _, _, rfl, ha, T.cl, T.n2, wF_r, _, rfl, b, C, dy, _, _, rfl, hb, T.cl, T.n2, wF_r, dr, dr', r.dp (lay_of sh), r'.dp (lay_of sh'), sh, sh', k⟩
end
end KQ
set_option Elab.async false
set_option maxRecDepth 100000
set_option maxHeartbeats 4000000
namespace KQ
open PySem PySem.Spec PyProof.Rows L2
theorem within_num {d : PyData} {lo hi : Int} (h : within d lo hi = true) : d = .int (num d) ∧ lo ≤ num d ∧ num d ≤ hi := by
  unfold within at h
  cases d <;> simp [intOf] at h
  exact ⟨rfl, h⟩
theorem below_int {d : PyData} {b : Int} (h : below b d = true) : d = .int (num d) := by
  unfold below at h
  cases d <;> simp [intOf] at h
  rfl
theorem below7 (d : PyData) : within d 1 6 = (below 7 d && !decide (num d = 0)) := by
  unfold within below num
  cases e : intOf d with
  | none => rfl
  | some i =>
    show (decide (1 ≤ i) && decide (i ≤ 6)) = (decide (0 ≤ i) && decide (i < 7) && !decide (i = 0))
    rw [Bool.eq_iff_iff]
    simp
    omega
section
variable {P : Program} {w : World} {K : PySem.W.Frag} {mg : Str → Option Value} {base : Heap} {t1 t2 t3 t4 : Tok} {C CB CN : Addr}
set_option maxHeartbeats 8000000 in
theorem d_works_init (B : Bi mg) (T : WorksC K mg C) (F : InitAt K mg "Works" C "Works.__init__" s_Works___init__) (g_MOST_HOUSES : mg "MOST_HOUSES" = some (.int 6 t1)) (g_MOST_KINDS : mg "MOST_KINDS" = some (.int 6 t2)) (x_BadWorks : ErrAt P w K mg base "BadWorks" CB "part")
    (D_is_below : Has P w K mg base 2 "is_below" ["bound", "thing"] spIsBelow) (D_is_rule : Has P w K mg base 4 "is_rule" ["many", "kinds", "thing"] spRule) : HasCX P w K mg base 5 "Works" C ["self", "many", "rules"] (spWInit C CB) := by
  refine mk_hasCX F sc_Works___init__ (fun _ _ _ _ _ _ us hl => match us, hl with | [_, _, _], _ => rfl) (fun vs H Q E h => ?_) fun f cdv A outer s H vs Q E hr h => ?_
  · obtain ⟨N, p, dx, vm, vr, dm, dr, rfl, _⟩ := h
    rfl
  obtain ⟨N, p, dx, vm, vr, dm, dr, rfl, hp, rm, rr, kE, kQ⟩ := h
  refine ⟨_, (pss_cons (ps_if (PW.pt (pw_or (pt_not (pt_val (pe_h D_is_below (hr.mono (by decide)) rfl (pa_cons (pe_op op_add (pe_glob (v := .int 6) rfl g_MOST_HOUSES ⟨_, rfl⟩) pe_int) (pa_cons (pv 1) pa_nil))))) (pw_or1 (pt_cmpR op_eq (pv 1) pe_int (nomark _)))))
    (pss_one (ps_rx rfl (takes_of rfl rfl rfl rfl) x_BadWorks (hr.mono (by decide)) (pa_cons pe_str pa_nil) rfl))
    pss_nil)
    (pss_cons (ps_if (PW.pt (pw_or (pt_not (pt_val (pe_callB call_isi rfl B.isinstance (by decide +kernel) (pa_cons (pv 2) (pa_cons (pe_bltn (v := .ty "tuple") rfl B.tuple (by decide +kernel) rfl) pa_nil))))) (pw_or (pt_cmpR op_eq (pe_callB call_len_seq rfl B.len PySem.boot_len (pa_cons (pv 2) pa_nil)) pe_int (nomark _)) (pw_or1 (pt_cmpR op_gt (pe_callB call_len_seq rfl B.len PySem.boot_len (pa_cons (pv 2) pa_nil)) (pe_glob (v := .int 6) rfl g_MOST_KINDS ⟨_, rfl⟩) (nomark _))))))
    (pss_one (ps_rx rfl (takes_of rfl rfl rfl rfl) x_BadWorks (hr.mono (by decide)) (pa_cons (pe_un un_neg pe_int) pa_nil) rfl))
    pss_nil)
    (pss_cons (ps_for (passes_of rfl) rfl (pi_enumT rfl B.enumerate (pa_cons (pv 2) pa_nil)) (pg_tup rfl (pgs_cons (pg_name (i := 3) sc_Works___init__.nd rfl (Or.inl rfl)) (pgs_cons (pg_name (i := 4) sc_Works___init__.nd rfl (Or.inl rfl)) pgs_nil)))
    (pss_one (ps_if (pt_not (pt_val (pe_h D_is_rule (hr.mono (by decide)) rfl (pa_cons (pv 1) (pa_cons (pe_callB call_len_seq rfl B.len PySem.boot_len (pa_cons (pv 2) pa_nil)) (pa_cons (pv 4) pa_nil))))))
    (pss_one (ps_rx rfl (takes_of rfl rfl rfl rfl) x_BadWorks (hr.mono (by decide)) (pa_cons (pv 3) pa_nil) rfl))
    pss_nil)))
    (pss_cons (ps_fld (pv 0) (pv 1) rfl)
    (pss_one (ps_fld (pv 0) (pv 2) rfl)))))), ?_⟩
  refine ⟨_, _, rfl, rfl, _, rfl, N, vm, dm, 7, rfl, rm, _, rfl, ?_⟩
  have e7 := below7 dm
  cases c1 : below 7 dm with
  | false =>
    rw [c1, Bool.false_and] at e7
    exact ifT rfl (mk_err fun d hd => kE _ (by unfold badW; rw [if_pos e7]) d H (Same.refl H) hd)
  | true =>
  refine ifF rfl ?_
  rw [c1, Bool.true_and] at e7
  have c1i := below_int c1
  rw [c1i] at rm
  have evm : vm = .int (num dm) := by cases rm; rfl
  subst evm
  refine ⟨_, rfl, rfl, _, rfl, ?_⟩
  by_cases z : num dm = 0
  · rw [decide_eq_true z, Bool.not_true] at e7
    exact ifT (by rw [z]; rfl) (mk_err fun d hd => kE _ (by unfold badW; rw [if_pos e7]) d H (Same.refl H) hd)
  rw [decide_eq_false z, Bool.not_false] at e7
  have n7 : ¬ within dm 1 6 = false := by rw [e7]; exact Bool.noConfusion
  refine ifF (by simpa using z) ?_
  refine ⟨_, rfl, _, _, _, _, _, rfl, .ty "tuple", rr.ty, kit_tuple dr, _, rfl, ?_⟩
  have other : (∀ ds, dr ≠ .tuple ds) → badW dm dr = some (.int (-1)) := fun h => by
    unfold badW
    rw [if_neg n7]
    cases dr <;> first | rfl | exact absurd rfl (h _)
  cases dr with
  | tuple ds =>
    cases rr with
    | @tup r xs _ er nr ra =>
    have ex : badW dm (.tuple ds) = if ds.length = 0 ∨ 6 < ds.length then some (.int (-1)) else (firstBad (isRule (num dm) ds.length) 0 ds).map fun i => .int (i : Nat) := by
      unfold badW
      rw [if_neg n7]
    refine ifF rfl ⟨_, rfl, _, _, rfl, .inr (SqT.of er), rfl, _, rfl, ?_⟩
    have hl := ra.length
    by_cases l0 : ds.length = 0
    · rw [if_pos (.inl l0)] at ex
      exact ifT (by rw [hl, l0]; rfl) ⟨_, rfl, mk_err fun d hd => kE _ ex d H (Same.refl H) hd⟩
    refine ifF (by rw [hl]; simpa using l0) ⟨_, rfl, _, _, rfl, .inr (SqT.of er), _, _, rfl, rfl, _, rfl, ?_⟩
    by_cases l6 : 6 < ds.length
    · rw [if_pos (.inr l6)] at ex
      exact ifT (by rw [hl]; simpa using (by omega : (6 : Int) < ds.length)) ⟨_, rfl, mk_err fun d hd => kE _ ex d H (Same.refl H) hd⟩
    refine ifF (by rw [hl]; simpa using (by omega : (ds.length : Int) ≤ 6)) ?_
    rw [if_neg (fun z => z.elim l0 l6)] at ex
    refine ⟨_, rfl, r, xs, rfl, SqT.of er, for_et (fun i σ H' => ∃ v3 v4, σ = [some (.ref p), some (.int (num dm)), some (.ref r), v3, v4] ∧ Same H H' ∧ badW dm (.tuple ds) = (firstBad (isRule (num dm) ds.length) i (ds.drop i)).map fun i => .int (i : Nat))
      ⟨none, none, rfl, Same.refl H, ex⟩ (fun i σ H' ⟨_, _, _, e, _⟩ => SqT.of (e _ _ er)) ?_ ?_⟩
    · rintro i x Ti σ H' hx ⟨v3, v4, rfl, e, eb⟩ nT
      obtain ⟨dx', mx, gx, rx⟩ := ra.at_ hx
      have e2 : Same H (upd H' Ti (.tup [.int (i : Nat), x])) := e.trans (same_new nT)
      rw [firstBad_at gx] at eb
      refine ⟨_, _, rfl, SqT.of upd_same, rfl, _, _, rfl, _, _, rfl, rfl, ?_⟩
      refine ⟨_, rfl, _, rfl, _, _, rfl, .inr (SqT.of (e2 _ _ er)), _, rfl, N, x, dx', num dm, _, rfl, rx.to (Kp.of_same e2), fun H3 e3 => ⟨_, rfl, ?_⟩⟩
      have e4 := e2.trans e3
      rw [hl]
      cases c : isRule (num dm) ds.length dx' with
      | true =>
        rw [c, if_pos rfl] at eb
        exact ifF rfl ⟨_, _, rfl, e4, eb⟩
      | false =>
        rw [c, if_neg Bool.false_ne_true] at eb
        exact ifT rfl ⟨_, rfl, mk_err fun d hd => kE _ eb d H3 e4 hd⟩
    · rintro σ H' ⟨v3, v4, rfl, e, eb⟩
      have el : ds.drop xs.length = [] := by rw [hl]; exact List.drop_length
      rw [el] at eb
      refine ⟨_, rfl, _, rfl, p, C, dx, [], rfl, e _ _ hp, T.cl, T.n1, (by show 0 < 1000; decide), ?_⟩
      refine ⟨_, rfl, _, rfl, p, C, dx, _, rfl, upd_same, T.cl, T.n2, (by show 1 < 1000; decide), ?_⟩
      refine kQ eb _ (by rw [upd_same, wF_new]) fun a o q n => ?_
      rw [upd_ne n, upd_ne n]
      exact e _ _ q
  | bool b => exact ifT rfl ⟨_, rfl, mk_err fun d hd => kE _ (other fun _ z => nomatch z) d H (Same.refl H) hd⟩
  | int b => exact ifT rfl ⟨_, rfl, mk_err fun d hd => kE _ (other fun _ z => nomatch z) d H (Same.refl H) hd⟩
  | none => exact ifT rfl ⟨_, rfl, mk_err fun d hd => kE _ (other fun _ z => nomatch z) d H (Same.refl H) hd⟩
  | str x => exact ifT rfl ⟨_, rfl, mk_err fun d hd => kE _ (other fun _ z => nomatch z) d H (Same.refl H) hd⟩
  | list x => exact ifT rfl ⟨_, rfl, mk_err fun d hd => kE _ (other fun _ z => nomatch z) d H (Same.refl H) hd⟩
  | dict x => exact ifT rfl ⟨_, rfl, mk_err fun d hd => kE _ (other fun _ z => nomatch z) d H (Same.refl H) hd⟩
end
end KQ
set_option Elab.async false
set_option maxRecDepth 100000
set_option maxHeartbeats 4000000
namespace KQ
open PySem PySem.Spec PyProof.Rows L2
/-! ### what a task sends -/
abbrev Rules := List (List (Int × Int))
def pairD (p : Int × Int) : PyData := .tuple [.int p.1, .int p.2]
def ruleD (ps : List (Int × Int)) : PyData := .tuple (ps.map pairD)
def rulesD (R : Rules) : PyData := .tuple (R.map ruleD)
def sentI (m h f : Int) (p : Int × Int) : PyData := .tuple [.int ((h + p.1).fmod m), .tuple [.int p.2, .int (f - 1)]]
def sentD (m : Int) (R : Rules) (h k f : Int) : List PyData := if f = 0 then [] else (R.getD k.toNat []).map (sentI m h f)
theorem below_inv {b : Int} {d : PyData} (h : below b d = true) : ∃ i, d = .int i ∧ 0 ≤ i ∧ i < b := by
  unfold below at h
  cases d <;> simp [intOf] at h
  exact ⟨_, rfl, h⟩
theorem isPair_inv {m k : Int} {d : PyData} (h : isPair m k d = true) : ∃ i j, d = .tuple [.int i, .int j] ∧ 0 ≤ i ∧ i < m ∧ 0 ≤ j ∧ j < k := by
  unfold isPair at h
  split at h
  · rw [Bool.and_eq_true] at h
    obtain ⟨i, rfl, i0, i1⟩ := below_inv h.1
    obtain ⟨j, rfl, j0, j1⟩ := below_inv h.2
    exact ⟨i, j, rfl, i0, i1, j0, j1⟩
  · exact absurd h (by decide)
abbrev NF : Addr → Prop := fun _ => False
def spSentBy (C CH CT : Addr) : Sp := fun vs H Q E => ∃ (N : Addr → Prop) (a r : Addr) (m : Int) (R : Rules) (v v' : V) (dh dt : PyData), vs = [.ref a, v, v'] ∧ WorksAt C H a (.int m) (.ref r) ∧ 0 < m ∧ Rp N H (.ref r) (rulesD R) ∧ (∀ ps ∈ R, ps.length ≤ 1000) ∧ Rp N H v dh ∧ Rp N H v' dt ∧
  (below m dh = false → E (.ref CH) none H) ∧ (below m dh = true → isPair R.length 13 dt = false → E (.ref CT) none H) ∧
  (∀ h k f, dh = .int h → dt = .tuple [.int k, .int f] → below m dh = true → isPair R.length 13 dt = true → ∀ T H', Same H H' → Rp NF H' (.ref T) (.tuple (sentD m R h k f)) → Q (.ref T) H')
section
variable {P : Program} {w : World} {K : PySem.W.Frag} {mg : Str → Option Value} {base : Heap} {t1 t2 t3 t4 : Tok} {C CB CH CT : Addr}
set_option maxHeartbeats 8000000 in
theorem d_sent_by (B : Bi mg) (T : WorksC K mg C) (F : FunAt K mg "sent_by" s_sent_by) (D_check_house : HasX P w K mg base 4 "check_house" ["works", "house"] (spCheckHouse C CH)) (D_check_task : HasX P w K mg base 4 "check_task" ["works", "task"] (spCheckTask C CT)) :
    HasX P w K mg base 5 "sent_by" ["works", "house", "task"] (spSentBy C CH CT) := by
  refine mk_hasX F sc_sent_by (fun _ _ _ _ _ _ us hl => match us, hl with | [_, _, _], _ => rfl) (fun vs H Q E h => ?_) fun f cdv A outer s H vs Q E hr h => ?_
  · obtain ⟨N, a, r, m, R, v, v', dh, dt, rfl, _⟩ := h
    rfl
  obtain ⟨N, a, r, m, R, v, v', dh, dt, rfl, ha, hm, rr, hps, rh, rt, kh, kt, kQ⟩ := h
  refine ⟨_, (pss_cons (ps_expr (pe_hX (takes_of rfl rfl rfl rfl) D_check_house (hr.mono (by decide)) rfl (pa_cons (pv 0) (pa_cons (pv 1) pa_nil))))
    (pss_cons (ps_expr (pe_hX (takes_of rfl rfl rfl rfl) D_check_task (hr.mono (by decide)) rfl (pa_cons (pv 0) (pa_cons (pv 2) pa_nil))))
    (pss_cons (ps_asg (pv 2) (pg_tup rfl (pgs_cons (pg_name (i := 3) sc_sent_by.nd rfl (Or.inl rfl)) (pgs_cons (pg_name (i := 4) sc_sent_by.nd rfl (Or.inr rfl)) pgs_nil))))
    (pss_cons (ps_if (pt_cmpR op_eq (pv 4) pe_int (nomark _))
    (pss_one (ps_ret (pe_tup pa_nil)))
    pss_nil)
    (pss_one (ps_ret (pe_callTy call_tuple_of rfl B.tuple (by decide +kernel) (pa_cons (pe_lc (own := [("step", 5), ("sent", 6)]) (g := gTup K 2 (gCons (gName 5) (gCons (gName 6) gNil))) (tt := tYes) (te := (tTup (tCons (tOp (rI (fun _ j => j ≠ 0) fun i j => .int (i.fmod j)) (tOp (rI0 fun i j => .int (i + j)) (tVar 1) (tVar 5)) (tFld K (tVar 0) "many")) (tCons (tTup (tCons (tVar 6) (tCons (tOp (rI0 fun i j => .int (i - j)) (tVar 4) (tC (.int 1))) tNil))) tNil)))) rfl sc_sent_by.nd (pi_tup (pe_ix ix_tup (pe_fld (pv 0) rfl) (pv 3) (fun _ _ => rfl))) (blkOk_by (own := [("step", 5), ("sent", 6)]) (N := ["works", "house", "task", "kind", "fuel", "step", "sent"]) (sc := defScope s_sent_by) (by decide +kernel)) (fun _ _ _ _ _ => (pg_tup rfl (pgs_cons (pg_name (i := 5) sc_sent_by.nd rfl (Or.inl rfl)) (pgs_cons (pg_name (i := 6) sc_sent_by.nd rfl (Or.inl rfl)) pgs_nil)))) (fun _ _ _ _ _ => pts_nil) (fun _ _ _ _ _ => (pe_tup (pa_cons (pe_op op_modN (pe_op op_add (pv 1) (pv 5)) (pe_fld (pv 0) rfl)) (pa_cons (pe_tup (pa_cons (pv 6) (pa_cons (pe_op op_sub (pv 4) pe_int) pa_nil))) pa_nil))))) pa_nil)))))))), ?_⟩
  cases rr with
  | @tup _ xs _ er nr ra =>
  have hl : xs.length = R.length := ra.length.trans (List.length_map _)
  refine ⟨_, rfl, _, rfl, N, a, m, .ref r, v, dh, rfl, ha, rh, fun e => kh e, fun eh => ?_⟩
  refine ⟨_, rfl, _, rfl, N, a, r, .int m, v', xs, dt, rfl, ha, er, rt, fun e => kt eh (by rw [← hl]; exact e), fun et => ?_⟩
  rw [hl] at et
  obtain ⟨hh, rfl, h0, h1⟩ := below_inv eh
  obtain ⟨kk, ff, rfl, k0, k1, f0, f1⟩ := isPair_inv et
  have fin := kQ hh kk ff rfl rfl eh et
  cases rh
  cases rt with
  | tup et' nt' rt' =>
  cases rt' with
  | cons rk rt' =>
  cases rt' with
  | cons rf rt' =>
  cases rt'
  cases rk
  cases rf
  refine ⟨_, rfl, _, _, rfl, SqT.of et', rfl, _, _, rfl, _, _, rfl, rfl, ?_⟩
  refine ⟨_, rfl, rfl, _, rfl, ?_⟩
  by_cases z : ff = 0
  · refine ifT (by rw [z]; rfl) ⟨(by show 0 ≤ sizeLine; decide), fun p np => fin p _ (same_new np) (.tup upd_same (fun z => z) ?_)⟩
    unfold sentD
    rw [if_pos z]
    exact .nil
  refine ifF (by simpa using z) ?_
  obtain ⟨x, hx, _, gx⟩ := atI_some (xs := xs) k0 (by rw [hl]; exact k1)
  obtain ⟨d, gd, rd⟩ := ra.get gx
  rw [List.getElem?_map] at gd
  obtain ⟨ps, gp, rfl⟩ := Option.map_eq_some_iff.mp gd
  have hsd : sentD m R hh kk ff = ps.map (sentI m hh ff) := by
    unfold sentD
    rw [if_neg z, List.getD_eq_getElem?_getD, gp] <;> rfl
  rw [hsd] at fin
  have hlen := hps ps (List.mem_of_getElem? gp)
  cases rd with
  | @tup q ys _ eq nq ry =>
  have hly : ys.length = ps.length := ry.length.trans (List.length_map _)
  obtain ⟨dx, hax⟩ := ha
  refine ⟨_, rfl, a, C, dx, _, _, rfl, hax, T.cl, T.n2, wF_r, _, rfl, _, _, _, _, rfl, rfl, SqT.of er, hx, q, rfl, ⟨ys, SqT.of eq⟩, fun D nD => ?_⟩
  refine lc_tup (K := K) (a := q) (xs := ys) (fun i H' => Same H H' ∧ ∃ acc, H' D = some (.lst acc) ∧ RpAll (fun b => b = D) H' acc ((ps.take i).map (sentI m hh ff))) ⟨same_new nD, [], upd_same, .nil⟩ (fun i H' _ z => SqT.of (z.1 _ _ eq)) (fun i y H' hy z => ?_) fun H' z => ?_
  · obtain ⟨d, gd, rd⟩ := ry.get hy
    rw [List.getElem?_map] at gd
    obtain ⟨p, gp', rfl⟩ := Option.map_eq_some_iff.mp gd
    have hil : i < ps.length := by
      obtain ⟨h1, _⟩ := List.getElem?_eq_some_iff.mp gp'
      exact h1
    obtain ⟨e1, acc, eD, rA⟩ := z
    cases rd with
    | @tup b zs _ eb nb rz =>
    cases rz with
    | cons r1 rz =>
    cases rz with
    | cons r2 rz =>
    cases rz
    cases r1
    cases r2
    refine ⟨_, _, rfl, SqT.of (e1 _ _ eb), rfl, _, _, rfl, _, _, rfl, rfl, rfl, ?_⟩
    refine tYes_ok ?_
    rw [if_pos rfl]
    refine ⟨_, rfl, _, rfl, _, _, rfl, rfl, _, rfl, a, C, dx, _, _, rfl, e1 _ _ hax, T.cl, T.n1, wF_m, _, _, rfl, rfl, by omega, ?_⟩
    refine ⟨_, rfl, _, rfl, _, _, rfl, rfl, (by show 2 ≤ sizeLine; decide), fun T1 n1 => ⟨(by show 2 ≤ sizeLine; decide), fun T2 n2 => ?_⟩⟩
    have s1 := same_new (o := .tup [.int p.2, .int (ff - 1)]) n1
    have s2 := s1.trans (same_new (o := .tup [.int ((hh + p.1).fmod m), .ref T1]) n2)
    refine ⟨acc, s2 _ _ eD, ?_, fun b o q => ?_, acc ++ [.ref T2], upd_same, ?_⟩
    · rw [rA.length, List.length_map, List.length_take]
      exact Nat.lt_of_le_of_lt (Nat.le_trans (Nat.min_le_right _ _) hlen) (by decide)
    · rw [upd_ne (ne_of_none q nD)]
      exact s2 _ _ (e1 b o q)
    · rw [map_take gp']
      have nD1 : ¬ T1 = D := fun z => by rw [z, eD] at n1; cases n1
      have nD2 : ¬ T2 = D := fun z => by rw [z, s1 _ _ eD] at n2; cases n2
      refine RpAll.to (.app (rA.to (Kp.of_same s2)) (.cons (.tup upd_same nD2 (.cons (.int _) (.cons (.tup ?_ nD1 (.cons (.int _) (.cons (.int _) .nil))) .nil))) .nil)) (Kp.put rfl)
      exact same_new n2 _ _ upd_same
  · obtain ⟨e1, acc, eD, rA⟩ := z
    rw [hly, List.take_length] at rA
    refine ⟨D, acc, rfl, .inl ⟨SqL.of eD, fun p np => fin p _ (e1.trans (same_new np)) (.tup upd_same (fun z => z) ?_)⟩⟩
    exact (rA.to (Kp.of_same (same_new np))).kp (N' := NF) Kp.refl fun _ _ _ _ z => z
end
end KQ
set_option Elab.async false
set_option maxRecDepth 100000
set_option maxHeartbeats 4000000
namespace KQ
open PySem PySem.Spec PyProof.Rows L2
/-! ### the law's own judges of works -/
theorem below_with (b : Int) (d : PyData) : within d 0 (b - 1) = below b d := by
  unfold within below
  cases intOf d with
  | none => rfl
  | some i =>
    show (decide (0 ≤ i) && decide (i ≤ b - 1)) = (decide (0 ≤ i) && decide (i < b))
    rw [Bool.eq_iff_iff]
    simp
    omega
def spLawRule : Sp := fun vs H Q _ => ∃ (N : Addr → Prop) (v : V) (d : PyData) (m k : Int), vs = [.int m, .int k, v] ∧ Rp N H v d ∧ Q (.bl (isRule m k d)) H
def spBad : Sp := fun vs H Q _ => ∃ (N : Addr → Prop) (vm vr : V) (dm dr : PyData), vs = [vm, vr] ∧ Rp N H vm dm ∧ Rp N H vr dr ∧ Q ((badW dm dr).getD .non) H
def spLawIsTask : Sp := fun vs H Q _ => ∃ (N : Addr → Prop) (r : Addr) (rs : List V) (v : V) (d : PyData), vs = [.ref r, v] ∧ H r = some (.tup rs) ∧ Rp N H v d ∧ Q (.bl (isPair rs.length 13 d)) H
def spLawTask : Sp := fun vs H Q _ => ∃ (h l r : Addr) (rs : List V) (o : Int), vs = [.ref h, .ref r, .int o] ∧ HandOk H h l ∧ H r = some (.tup rs) ∧ 0 < rs.length ∧ rs.length ≤ 1000 ∧ 0 ≤ o ∧ o ≤ 1000 ∧
  ∀ (T : Addr) (d : PyData) (H' : Hp), HandOk H' h l → Kp (Nh h) H H' → Rp (Nh h) H' (.ref T) d → Q (.ref T) H'
def spLawSent : Sp := fun vs H Q _ => ∃ (N : Addr → Prop) (r t : Addr) (m h k f : Int) (R : Rules), vs = [.int m, .ref r, .int h, .ref t] ∧ 0 < m ∧ Rp N H (.ref r) (rulesD R) ∧ (∀ ps ∈ R, ps.length ≤ 1000) ∧ H t = some (.tup [.int k, .int f]) ∧ 0 ≤ k ∧ k < R.length ∧ 0 ≤ f ∧
  ∀ (L : Addr) (acc : List V) (H' : Hp), H L = none → Same H H' → H' L = some (.lst acc) → RpAll (fun b => b = L) H' acc (sentD m R h k f) → Q (.ref L) H'
section
variable {P : Program} {w : World} {K : PySem.W.Frag} {mg : Str → Option Value} {base : Heap}
theorem d_law_task (B : Bi mg) (F : FunAt K mg "_law_task" s_law_task) (D_law_take : Has P w K mg base 1 "_law_take" ["hand", "many"] spTake) : Has P w K mg base 2 "_law_task" ["hand", "rules", "most"] spLawTask := by
  refine mk_has F sc_law_task (fun _ _ _ _ _ _ us hl => match us, hl with | [_, _, _], _ => rfl) (fun vs H Q E h => ?_) fun f cdv A outer s H vs Q E hr h => ?_
  · obtain ⟨h, l, r, rs, o, rfl, _⟩ := h
    rfl
  obtain ⟨h, l, r, rs, o, rfl, ho, er, r0, r1, o0, o1, k⟩ := h
  refine ⟨_, (pss_one (ps_ret (pe_tup (pa_cons (pe_h D_law_take (hr.mono (by decide)) rfl (pa_cons (pv 0) (pa_cons (pe_callB call_len_seq rfl B.len PySem.boot_len (pa_cons (pv 1) pa_nil)) pa_nil))) (pa_cons (pe_h D_law_take (hr.mono (by decide)) rfl (pa_cons (pv 0) (pa_cons (pe_op op_add (pv 2) pe_int) pa_nil))) pa_nil))))), ?_⟩
  refine ⟨_, rfl, _, rfl, _, _, rfl, .inr (SqT.of er), h, l, _, rfl, ho, by omega, by omega, fun i H1 _ _ ho1 k1 => ?_⟩
  refine ⟨_, rfl, _, rfl, _, _, rfl, rfl, h, l, _, rfl, ho1, by omega, by omega, fun j H2 _ _ ho2 k2 => ?_⟩
  refine ⟨(by show 2 ≤ sizeLine; decide), fun T nT => ?_⟩
  exact k T (.tuple [.int i, .int j]) _ (ho2.new nT) (((Kp.hand k1).trans (Kp.hand k2)).hn nT) (Rp.tup0 ho2 nT (.cons (.int i) (.cons (.int j) .nil)))
set_option maxHeartbeats 8000000 in
theorem d_law_sent (B : Bi mg) (F : FunAt K mg "_law_sent" s_law_sent) : Has P w K mg base 1 "_law_sent" ["many", "rules", "house", "task"] spLawSent := by
  refine mk_has F sc_law_sent (fun _ _ _ _ _ _ us hl => match us, hl with | [_, _, _, _], _ => rfl) (fun vs H Q E h => ?_) fun f cdv A outer s H vs Q E hr h => ?_
  · obtain ⟨N, r, t, m, h, k, f, R, rfl, _⟩ := h
    rfl
  obtain ⟨N, r, t, m, hh, kk, ff, R, rfl, hm, rr, hps, et, k0, k1, f0, k⟩ := h
  refine ⟨_, (pss_cons (ps_set (i := 4) sc_law_sent.nd rfl (Or.inl rfl) (pe_lst pa_nil))
    (C8.pss_cut (ps_if (pt_cmpR op_gt (pe_ix ix_tup (pv 3) pe_int (fun _ _ => rfl)) pe_int (nomark _))
    (pss_one (ps_for PassesOwn.never rfl (pi_tup (pe_ix ix_tup (pv 1) (pe_ix ix_tup (pv 3) pe_int (fun _ _ => rfl)) (fun _ _ => rfl))) (pg_tup rfl (pgs_cons (pg_name (i := 5) sc_law_sent.nd rfl (Or.inl rfl)) (pgs_cons (pg_name (i := 6) sc_law_sent.nd rfl (Or.inl rfl)) pgs_nil)))
    (pss_one (ps_expr (pe_bm PySem.F.plainAttrs_list PySem.F.slot_list_append PySem.F.type_list_append mt_append (pv 4) (pa_cons (pe_tup (pa_cons (pe_op op_modN (pe_callTy call_int1 rfl B.int (by decide +kernel) (pa_cons (pe_op op_add (pv 2) (pv 5)) pa_nil)) (pv 0)) (pa_cons (pe_tup (pa_cons (pv 6) (pa_cons (pe_op op_sub (pe_ix ix_tup (pv 3) pe_int (fun _ _ => rfl)) pe_int) pa_nil))) pa_nil))) pa_nil))))))
    pss_nil)
    (pss_one (ps_ret (pv 4))))), ?_⟩
  refine ⟨(by show 0 ≤ sizeLine; decide), fun L nL => ?_⟩
  have sL := same_new (o := .lst []) nL
  refine ⟨fun σ H' => ∃ v5 v6 acc, σ = [some (.int m), some (.ref r), some (.int hh), some (.ref t), some (.ref L), v5, v6] ∧ Same H H' ∧ H' L = some (.lst acc) ∧ RpAll (fun b => b = L) H' acc (sentD m R hh kk ff), ?_, ?_⟩
  · refine ⟨_, rfl, _, _, _, _, rfl, rfl, SqT.of (sL _ _ et), rfl, _, _, rfl, rfl, _, rfl, ?_⟩
    by_cases z : ff = 0
    · refine ifF (by rw [z]; rfl) ⟨none, none, [], rfl, sL, upd_same, ?_⟩
      unfold sentD
      rw [if_pos z]
      exact .nil
    refine ifT (by simp; omega) ?_
    cases rr with
    | @tup _ xs _ er nr ra =>
    have hl : xs.length = R.length := ra.length.trans (List.length_map _)
    obtain ⟨x, hx, _, gx⟩ := atI_some (xs := xs) k0 (by rw [hl]; exact k1)
    obtain ⟨d, gd, rd⟩ := ra.get gx
    rw [List.getElem?_map] at gd
    obtain ⟨ps, gp, rfl⟩ := Option.map_eq_some_iff.mp gd
    have hsd : sentD m R hh kk ff = ps.map (sentI m hh ff) := by
      unfold sentD
      rw [if_neg z, List.getD_eq_getElem?_getD, gp] <;> rfl
    have hlen := hps ps (List.mem_of_getElem? gp)
    cases rd with
    | @tup q ys _ eq nq ry =>
    have hly : ys.length = ps.length := ry.length.trans (List.length_map _)
    refine ⟨_, rfl, _, rfl, _, _, _, _, rfl, rfl, SqT.of (sL _ _ et), rfl, _, _, _, _, rfl, rfl, SqT.of (sL _ _ er), hx, q, rfl, ⟨ys, SqT.of (sL _ _ eq)⟩, ?_⟩
    refine for_tup (K := K) (a := q) (xs := ys) (fun i σ H' => ∃ v5 v6 acc, σ = [some (.int m), some (.ref r), some (.int hh), some (.ref t), some (.ref L), v5, v6] ∧ Same H H' ∧ H' L = some (.lst acc) ∧ RpAll (fun b => b = L) H' acc ((ps.take i).map (sentI m hh ff)))
      ⟨none, none, [], rfl, sL, upd_same, .nil⟩ (fun i σ H' _ ⟨_, _, _, _, e', _⟩ => SqT.of (e' _ _ eq)) ?_ ?_
    · rintro i y σ H' hy ⟨v5, v6, acc, rfl, e1, eL, rA⟩
      obtain ⟨d, gd, rd⟩ := ry.get hy
      rw [List.getElem?_map] at gd
      obtain ⟨p, gp', rfl⟩ := Option.map_eq_some_iff.mp gd
      have hil : i < ps.length := by
        obtain ⟨h1, _⟩ := List.getElem?_eq_some_iff.mp gp'
        exact h1
      cases rd with
      | @tup b zs _ eb nb rz =>
      cases rz with
      | cons r1 rz =>
      cases rz with
      | cons r2 rz =>
      cases rz
      cases r1
      cases r2
      refine ⟨_, _, rfl, SqT.of (e1 _ _ eb), rfl, _, _, rfl, _, _, rfl, rfl, ?_⟩
      refine ⟨_, rfl, .inl ⟨rfl, _, SqL.of eL⟩, ?_⟩
      refine ⟨_, rfl, _, rfl, _, _, rfl, rfl, ?_⟩
      refine .inl ⟨_, rfl, _, rfl, _, _, rfl, rfl, by omega, ?_⟩
      refine ⟨_, rfl, _, rfl, _, _, _, _, rfl, rfl, SqT.of (e1 _ _ et), rfl, _, _, rfl, rfl, (by show 2 ≤ sizeLine; decide), fun T1 n1 => ⟨(by show 2 ≤ sizeLine; decide), fun T2 n2 => ?_⟩⟩
      have s1 := same_new (o := .tup [.int p.2, .int (ff - 1)]) n1
      have s2 := s1.trans (same_new (o := .tup [.int ((hh + p.1).fmod m), .ref T1]) n2)
      have nD1 : ¬ T1 = L := fun z => by rw [z, eL] at n1; cases n1
      have nD2 : ¬ T2 = L := fun z => by rw [z, s1 _ _ eL] at n2; cases n2
      refine ⟨L, _, _, rfl, rfl, s2 _ _ eL, ?_, _, _, acc ++ [.ref T2], rfl, fun b o q => ?_, upd_same, ?_⟩
      · rw [rA.length, List.length_map, List.length_take]
        exact Nat.lt_of_le_of_lt (Nat.le_trans (Nat.min_le_right _ _) hlen) (by decide)
      · rw [upd_ne (ne_of_none q nL)]
        exact s2 _ _ (e1 b o q)
      · rw [map_take gp']
        refine RpAll.to (.app (rA.to (Kp.of_same s2)) (.cons (.tup upd_same nD2 (.cons (.int _) (.cons (.tup ?_ nD1 (.cons (.int _) (.cons (.int _) .nil))) .nil))) .nil)) (Kp.put rfl)
        exact same_new n2 _ _ upd_same
    · rintro σ H' ⟨v5, v6, acc, rfl, e1, eL, rA⟩
      rw [hly, List.take_length, ← hsd] at rA
      exact ⟨_, _, acc, rfl, e1, eL, rA⟩
  · rintro σ H' ⟨v5, v6, acc, rfl, e1, eL, rA⟩
    exact ⟨_, rfl, k L acc H' nL e1 eL rA⟩
end
end KQ
set_option Elab.async false
set_option maxRecDepth 100000
set_option maxHeartbeats 4000000
namespace KQ
open PySem PySem.Spec PyProof.Rows L2
/-! ### works of the law's own making -/
/-- a new instance, not yet filled -/
theorem ins_new {H : Hp} {x dx C : Addr} (nx : H x = none) (nd : H dx = none) (ne : dx ≠ x) : Same H (upd (upd H dx (.own x)) x (.ins C dx [])) := fun b o z => by
  rw [upd_ne (ne_of_none z nx), upd_ne (ne_of_none z nd)]
  exact z
theorem same_kp {H H1 H' : Hp} {x : Addr} (s : Same H H1) (nx : H x = none) (k : Kp (Nh x) H1 H') : Same H H' := fun b o z => k b o (s b o z) (ne_of_none z nx)
theorem Rp.nf {N : Addr → Prop} {H : Hp} {v : V} {d : PyData} (r : Rp N H v d) : Rp NF H v d := r.kp (N' := NF) Kp.refl fun _ _ _ _ z => z

structure OkRule (m n : Int) (o : Nat) (ps : List (Int × Int)) : Prop where
  len : ps.length ≤ o
  at_ : ∀ p ∈ ps, (0 ≤ p.1 ∧ p.1 < m) ∧ 0 ≤ p.2 ∧ p.2 < n
def spLawRules : Sp := fun vs H Q _ => ∃ (h l : Addr) (m n o : Int), vs = [.ref h, .int m, .int n, .int o] ∧ HandOk H h l ∧ 0 < m ∧ m ≤ 1000 ∧ 0 < n ∧ n ≤ 1000 ∧ 0 < o ∧ o ≤ 1000 ∧
  ∀ (R : Rules) (r : Addr) (H' : Hp), HandOk H' h l → Kp (Nh h) H H' → Rp (Nh h) H' (.ref r) (rulesD R) → (R.length : Int) = n → (∀ ps ∈ R, OkRule m n o.toNat ps) → Q (.ref r) H'
/-- works as the law makes them -/
structure OkWorks (m : Int) (R : Rules) : Prop where
  m1 : 1 ≤ m
  m6 : m ≤ 6
  r1 : 1 ≤ R.length
  r6 : R.length ≤ 6
  at_ : ∀ ps ∈ R, OkRule m R.length 4 ps
def spSome : Sp := fun vs H Q _ => ∃ h l : Addr, vs = [.ref h] ∧ HandOk H h l ∧
  ∀ (m : Int) (R : Rules) (T r : Addr) (H' : Hp), HandOk H' h l → Kp (Nh h) H H' → Rp (Nh h) H' (.ref r) (rulesD R) → OkWorks m R → H' T = some (.tup [.int m, .ref r]) → T ≠ h → Q (.ref T) H'
section
variable {P : Program} {w : World} {K : PySem.W.Frag} {mg : Str → Option Value} {base : Heap}
set_option maxHeartbeats 8000000 in
theorem d_law_rules (B : Bi mg) (F : FunAt K mg "_law_rules" s_law_rules) (D_law_take : Has P w K mg base 1 "_law_take" ["hand", "many"] spTake) : Has P w K mg base 2 "_law_rules" ["hand", "many", "kinds", "most"] spLawRules := by
  refine mk_has F sc_law_rules (fun _ _ _ _ _ _ us hl => match us, hl with | [_, _, _, _], _ => rfl) (fun vs H Q E h => ?_) fun f cdv A outer s H vs Q E hr h => ?_
  · obtain ⟨h, l, m, n, o, rfl, _⟩ := h
    rfl
  obtain ⟨h, l, m, n, o, rfl, ho, m0, m1, n0, n1, o0, o1, k⟩ := h
  refine ⟨_, (pss_cons (ps_set (i := 4) sc_law_rules.nd rfl (Or.inl rfl) (pe_lst pa_nil))
    (pss_cons (ps_for PassesOwn.never rfl (pi_range1 rfl B.range (pa_cons (pv 2) pa_nil)) (pg_name (i := 5) sc_law_rules.nd rfl (Or.inl rfl))
    (pss_cons (ps_set (i := 6) sc_law_rules.nd rfl (Or.inl rfl) (pe_op op_add pe_int (pe_h D_law_take (hr.mono (by decide)) rfl (pa_cons (pv 0) (pa_cons (pv 3) pa_nil)))))
    (C8.pss_cut (ps_if (pt_cmpR op_eq (pe_h D_law_take (hr.mono (by decide)) rfl (pa_cons (pv 0) (pa_cons pe_int pa_nil))) pe_int (nomark _))
    (pss_one (ps_set (i := 6) sc_law_rules.nd rfl (Or.inl rfl) pe_int))
    pss_nil)
    (pss_one (ps_expr (pe_bm PySem.F.plainAttrs_list PySem.F.slot_list_append PySem.F.type_list_append mt_append (pv 4) (pa_cons (pe_callTy call_tuple_of rfl B.tuple (by decide +kernel) (pa_cons (pe_lc (own := [("j", 7)]) (g := gName 7) (tt := tYes) (te := (tTup (tCons (tCall spTake [] E0 (tCons (tVar 0) (tCons (tVar 1) tNil))) (tCons (tCall spTake [] E0 (tCons (tVar 0) (tCons (tVar 2) tNil))) tNil)))) rfl sc_law_rules.nd (pi_range1 rfl B.range (pa_cons (pv 6) pa_nil)) (blkOk_by (own := [("j", 7)]) (N := ["hand", "many", "kinds", "most", "found", "k", "long", "j"]) (sc := defScope s_law_rules) (by decide +kernel)) (fun _ _ _ _ _ => (pg_name (i := 7) sc_law_rules.nd rfl (Or.inl rfl))) (fun _ _ _ _ _ => pts_nil) (fun _ _ _ _ _ => (pe_tup (pa_cons (pe_h D_law_take (hr.mono (by decide)) rfl (pa_cons (pv 0) (pa_cons (pv 1) pa_nil))) (pa_cons (pe_h D_law_take (hr.mono (by decide)) rfl (pa_cons (pv 0) (pa_cons (pv 2) pa_nil))) pa_nil))))) pa_nil)) pa_nil)))))))
    (pss_one (ps_ret (pe_callTy call_tuple_of rfl B.tuple (by decide +kernel) (pa_cons (pv 4) pa_nil)))))), ?_⟩
  refine ⟨(by show 0 ≤ sizeLine; decide), fun L nL => ?_⟩
  have hLh := ho.ne nL
  have hLl := ho.ne0 nL
  refine ⟨_, rfl, n, rfl, by omega, by omega, for_range (lo := 0) (n := n.toNat) (fun i σ H' => ∃ v5 v6 v7 acc R, σ = [some (.ref h), some (.int m), some (.int n), some (.int o), some (.ref L), v5, v6, v7] ∧ HandOk H' h l ∧ Kp (fun b => b = h) H H' ∧ H' L = some (.lst acc) ∧
      RpAll (fun b => b = h ∨ b = L) H' acc (R.map ruleD) ∧ R.length = i ∧ ∀ ps ∈ R, OkRule m n o.toNat ps)
    ⟨none, none, none, [], [], rfl, ho.new nL, Kp.new nL, upd_same, .nil, rfl, fun _ z => nomatch z⟩ ?_ ?_⟩
  · rintro i σ H1 hi ⟨v5, v6, v7, acc, R, rfl, ho1, k1, eL, rA, hR, hO⟩
    refine ⟨_, rfl, _, rfl, h, l, o, rfl, ho1, o0, by omega, fun g H2 g0 g1 ho2 k2 => ?_⟩
    refine ⟨_, _, rfl, rfl, ?_⟩
    refine ⟨fun σ H' => ∃ (q : Int), σ = [some (.ref h), some (.int m), some (.int n), some (.int o), some (.ref L), some (.int (0 + (i : Int))), some (.int q), v7] ∧ 0 ≤ q ∧ q ≤ o ∧ HandOk H' h l ∧ ∀ a, a ≠ h → H' a = H1 a, ?_, ?_⟩
    · refine ⟨_, rfl, h, l, 5, rfl, ho2, by decide, by decide, fun z H3 z0 z1 ho3 k3 => ?_⟩
      have k13 : ∀ a, a ≠ h → H3 a = H1 a := fun a n => (k3 a n).trans (k2 a n)
      refine ⟨rfl, _, rfl, ?_⟩
      refine ite2 (fun _ => ⟨0, rfl, Int.le_refl 0, by omega, ho3, k13⟩) fun _ => ⟨1 + g, rfl, by omega, by omega, ho3, k13⟩
    · rintro σ H3 ⟨q, rfl, q0, q1, ho3, k3⟩
      have eL3 : H3 L = some (.lst acc) := (k3 L hLh).trans eL
      have kL : Kp (fun b => b = h ∨ b = L) H1 H3 := fun b o z n => by rw [k3 b fun y => n (.inl y)]; exact z
      refine ⟨_, rfl, .inl ⟨rfl, _, SqL.of eL3⟩, _, rfl, q, rfl, by omega, by omega, fun D nD => ?_⟩
      refine lc_range (lo := 0) (n := q.toNat) (fun j H' => ∃ ac ps, HandOk H' h l ∧ Kp (fun b => b = h ∨ b = D) H3 H' ∧ H' D = some (.lst ac) ∧ RpAll (fun b => b = h ∨ b = L ∨ b = D) H' ac (ps.map pairD) ∧ ps.length = j ∧ ∀ p ∈ ps, (0 ≤ p.1 ∧ p.1 < m) ∧ 0 ≤ p.2 ∧ p.2 < n)
        ⟨[], [], ho3.new nD, Kp.new nD, upd_same, .nil, rfl, fun _ z => nomatch z⟩ (fun j H4 hj z => ?_) fun H4 z => ?_
      · obtain ⟨ac, ps, ho4, k4, eD, rD, lp, hp⟩ := z
        refine ⟨rfl, ?_⟩
        refine tYes_ok ?_
        rw [if_pos rfl]
        have hDh : D ≠ h := ho3.ne nD
        have hDl : D ≠ l := ho3.ne0 nD
        have hLD : L ≠ D := fun z => by rw [z, nD] at eL3; cases eL3
        refine ⟨_, rfl, _, rfl, h, l, m, rfl, ho4, m0, by omega, fun a H5 a0 a1 ho5 k5 => ?_⟩
        refine ⟨_, rfl, _, rfl, h, l, n, rfl, ho5, n0, by omega, fun b H6 b0 b1 ho6 k6 => ?_⟩
        refine ⟨(by show 2 ≤ sizeLine; decide), fun T nT => ?_⟩
        have eD6 : H6 D = some (.lst ac) := (k6 D hDh).trans ((k5 D hDh).trans eD)
        have eL6 : H6 L = some (.lst acc) := (k6 L hLh).trans ((k5 L hLh).trans (k4 L _ eL3 fun z => z.elim hLh hLD))
        have nTD : T ≠ D := fun z => by rw [z, eD6] at nT; cases nT
        have nTL : T ≠ L := fun z => by rw [z, eL6] at nT; cases nT
        have kk : Kp (fun b => b = h ∨ b = L ∨ b = D) H4 (upd H6 T (.tup [.int a, .int b])) := Kp.new' (fun c o z n => by rw [k6 c fun y => n (.inl y), k5 c fun y => n (.inl y)]; exact z) nT
        obtain ⟨xh, ih, bh, sh, ch, eh, el, rh⟩ := ho6.new (o := .tup [.int a, .int b]) nT
        refine ⟨ac, (by rw [upd_ne nTD.symm]; exact eD6), ?_, ac ++ [.ref T], ps ++ [(a, b)], ⟨xh, ih, bh, sh, ch, (by rw [upd_ne hDh.symm]; exact eh), (by rw [upd_ne hDl.symm]; exact el), rh⟩, fun c o z nc => ?_, upd_same, ?_, by rw [List.length_append, lp] <;> rfl, fun p hp' => ?_⟩
        · rw [rD.length, List.length_map, lp]
          exact Nat.lt_of_lt_of_le (show j < 1001 by omega) (by decide)
        · rw [upd_ne fun y => nc (.inr y)]
          have e6 : H6 c = some o := by rw [k6 c fun y => nc (.inl y), k5 c fun y => nc (.inl y)]; exact k4 c o z nc
          exact same_new nT _ _ e6
        · rw [List.map_append]
          refine RpAll.to (.app (rD.to kk) (.cons (.tup upd_same (fun z => ?_) (.cons (.int _) (.cons (.int _) .nil))) .nil)) (Kp.put (.inr (.inr rfl)))
          rcases z with z | z | z
          · exact ho6.ne nT z
          · exact nTL z
          · exact nTD z
        · rcases List.mem_append.mp hp' with z | z
          · exact hp p z
          · cases List.mem_singleton.mp z
            exact ⟨⟨a0, a1⟩, b0, b1⟩
      · obtain ⟨ac, ps, ho4, k4, eD, rD, lp, hp⟩ := z
        have hLD : L ≠ D := fun z => by rw [z, nD] at eL3; cases eL3
        have eL4 : H4 L = some (.lst acc) := k4 L _ eL3 fun z => z.elim hLh hLD
        have rA4 : RpAll (fun b => b = h ∨ b = L ∨ b = D) H4 acc (R.map ruleD) := (rA.to kL).kp (N' := fun b => b = h ∨ b = L ∨ b = D) (fun c o z nc => by
          by_cases y : c = D
          · rw [y, nD] at z; cases z
          · exact k4 c o z fun w => w.elim (fun w => nc (.inl w)) y) fun c o z nc => fun y => y.elim (fun y => nc (.inl y)) fun y => y.elim (fun y => nc (.inr y)) fun y => by rw [y, nD] at z; cases z
        have fin : ∀ (p : Addr) (H' : Hp), Kp (fun b => b = h ∨ b = L ∨ b = D) H4 H' → HandOk H' h l → Kp (fun b => b = h) H H' → H' L = some (.lst (acc ++ [.ref p])) → H' p = some (.tup ac) → ¬ (p = h ∨ p = L) →
            ∃ (u5 u6 u7 : Option V) (acc : List V) (R : Rules), [some (V.ref h), some (V.int m), some (V.int n), some (V.int o), some (V.ref L), some (V.int (0 + (i : Int))), some (V.int q), v7] = [some (V.ref h), some (V.int m), some (V.int n), some (V.int o), some (V.ref L), u5, u6, u7] ∧ HandOk H' h l ∧ Kp (fun b => b = h) H H' ∧ H' L = some (.lst acc) ∧
              RpAll (fun b => b = h ∨ b = L) H' acc (R.map ruleD) ∧ R.length = i + 1 ∧ ∀ ps ∈ R, OkRule m n o.toNat ps := fun p H' kp hk kh eL' ep np => by
          refine ⟨_, _, _, acc ++ [.ref p], R ++ [ps], rfl, hk, kh, eL', ?_, by rw [List.length_append, hR] <;> rfl, fun ps' hp' => ?_⟩
          · rw [List.map_append]
            have up : ∀ {vs ds}, RpAll (fun b => b = h ∨ b = L ∨ b = D) H4 vs ds → RpAll (fun b => b = h ∨ b = L) H' vs ds := fun r => (r.to kp).kp (N' := fun b => b = h ∨ b = L) Kp.refl fun c o _ nc y => nc (y.elim .inl fun y => .inr (.inl y))
            exact .app (up rA4) (.cons (.tup ep np (up rD)) .nil)
          · rcases List.mem_append.mp hp' with z | z
            · exact hO _ z
            · cases List.mem_singleton.mp z
              exact ⟨by omega, hp⟩
        refine ⟨D, ac, rfl, .inl ⟨SqL.of eD, fun p np => ?_⟩⟩
        have eLp : upd H4 p (.tup ac) L = some (.lst acc) := same_new np _ _ eL4
        refine ⟨L, acc, _, rfl, rfl, eLp, ?_, ?_⟩
        · rw [rA.length, List.length_map, hR]
          exact Nat.lt_of_lt_of_le (show i < 1001 by omega) (by decide)
        · have npL : p ≠ L := fun z => by rw [z, eL4] at np; cases np
          obtain ⟨xh, ih, bh, sh, ch, eh, el, rh⟩ := ho4.new (o := .tup ac) np
          refine fin p _ (fun c o z nc => ?_) ⟨xh, ih, bh, sh, ch, (by rw [upd_ne hLh.symm]; exact eh), (by rw [upd_ne hLl.symm]; exact el), rh⟩ (fun c o z nc => ?_) upd_same (by rw [upd_ne npL]; exact upd_same) fun z => z.elim (ho4.ne np) npL
          · rw [upd_ne fun y => nc (.inr (.inl y))]
            exact same_new np _ _ z
          · have ncL : c ≠ L := fun y => by rw [y, nL] at z; cases z
            have ncD : c ≠ D := fun y => by
              have e1 := k3 c (by rw [y]; exact ho3.ne nD)
              rw [k1 c o z nc] at e1
              rw [y, nD] at e1
              cases e1
            rw [upd_ne ncL]
            refine same_new np _ _ (k4 c o ?_ fun y => y.elim nc ncD)
            rw [k3 c nc]
            exact k1 c o z nc
  · rintro σ H1 ⟨v5, v6, v7, acc, R, rfl, ho1, k1, eL, rA, hR, hO⟩
    have hn : (R.length : Int) = n := by rw [hR]; omega
    refine ⟨_, rfl, L, acc, rfl, .inl ⟨SqL.of eL, fun p np => ?_⟩⟩
    refine k R p _ (ho1.new np) (k1.new' np) (.tup upd_same (ho1.ne np) ?_) hn hO
    exact (rA.to (Kp.new np)).kp (N' := Nh h) Kp.refl fun _ _ _ n z => n (.inl z)
theorem d_law_some_works (F : FunAt K mg "_law_some_works" s_law_some_works) (D_law_pick : Has P w K mg base 2 "_law_pick" ["hand", "things"] spPick) (D_law_rules : Has P w K mg base 2 "_law_rules" ["hand", "many", "kinds", "most"] spLawRules) : Has P w K mg base 3 "_law_some_works" ["hand"] spSome := by
  refine mk_has F sc_law_some_works (fun _ _ _ _ _ _ us hl => match us, hl with | [_], _ => rfl) (fun vs H Q E h => ?_) fun f cdv A outer s H vs Q E hr h => ?_
  · obtain ⟨h, l, rfl, _⟩ := h
    rfl
  obtain ⟨h, l, rfl, ho, k⟩ := h
  refine ⟨_, (pss_cons (ps_set (i := 1) sc_law_some_works.nd rfl (Or.inl rfl) (pe_h D_law_pick (hr.mono (by decide)) rfl (pa_cons (pv 0) (pa_cons (pe_lst (pa_cons pe_int (pa_cons pe_int (pa_cons pe_int (pa_cons pe_int (pa_cons pe_int (pa_cons pe_int (pa_cons pe_int pa_nil)))))))) pa_nil))))
    (pss_cons (ps_set (i := 2) sc_law_some_works.nd rfl (Or.inl rfl) (pe_h D_law_pick (hr.mono (by decide)) rfl (pa_cons (pv 0) (pa_cons (pe_lst (pa_cons pe_int (pa_cons pe_int (pa_cons pe_int (pa_cons pe_int (pa_cons pe_int (pa_cons pe_int pa_nil))))))) pa_nil))))
    (pss_one (ps_ret (pe_tup (pa_cons (pv 1) (pa_cons (pe_h D_law_rules (hr.mono (by decide)) rfl (pa_cons (pv 0) (pa_cons (pv 1) (pa_cons (pv 2) (pa_cons (pe_h D_law_pick (hr.mono (by decide)) rfl (pa_cons (pv 0) (pa_cons (pe_lst (pa_cons pe_int (pa_cons pe_int (pa_cons pe_int (pa_cons pe_int (pa_cons pe_int pa_nil)))))) pa_nil))) pa_nil))))) pa_nil))))))), ?_⟩
  refine ⟨_, rfl, (by show 7 ≤ sizeLine; decide), fun L1 n1 => ?_⟩
  refine ⟨h, l, L1, _, rfl, ho.new n1, upd_same, ho.ne n1, (by show 0 < 7; decide), (by show 7 < 1073741824; decide), fun v1 H1 hv1 ho1 k1 => ?_⟩
  refine ⟨_, rfl, (by show 6 ≤ sizeLine; decide), fun L2 n2 => ?_⟩
  refine ⟨h, l, L2, _, rfl, ho1.new n2, upd_same, ho1.ne n2, (by show 0 < 6; decide), (by show 6 < 1073741824; decide), fun v2 H2 hv2 ho2 k2 => ?_⟩
  refine ⟨_, rfl, _, rfl, _, rfl, _, rfl, _, rfl, (by show 5 ≤ sizeLine; decide), fun L3 n3 => ?_⟩
  refine ⟨h, l, L3, _, rfl, ho2.new n3, upd_same, ho2.ne n3, (by show 0 < 5; decide), (by show 5 < 1073741824; decide), fun v3 H3 hv3 ho3 k3 => ?_⟩
  obtain ⟨m, rfl, m1, m6⟩ : ∃ m : Int, v1 = .int m ∧ 1 ≤ m ∧ m ≤ 6 := by
    simp only [List.mem_cons, List.not_mem_nil, or_false] at hv1
    rcases hv1 with rfl | rfl | rfl | rfl | rfl | rfl | rfl <;> exact ⟨_, rfl, by decide, by decide⟩
  obtain ⟨n, rfl, n1', n6⟩ : ∃ n : Int, v2 = .int n ∧ 1 ≤ n ∧ n ≤ 6 := by
    simp only [List.mem_cons, List.not_mem_nil, or_false] at hv2
    rcases hv2 with rfl | rfl | rfl | rfl | rfl | rfl <;> exact ⟨_, rfl, by decide, by decide⟩
  obtain ⟨o, rfl, o1, o4⟩ : ∃ o : Int, v3 = .int o ∧ 1 ≤ o ∧ o ≤ 4 := by
    simp only [List.mem_cons, List.not_mem_nil, or_false] at hv3
    rcases hv3 with rfl | rfl | rfl | rfl | rfl <;> exact ⟨_, rfl, by decide, by decide⟩
  refine ⟨h, l, m, n, o, rfl, ho3, by omega, by omega, by omega, by omega, by omega, by omega, fun R r H4 ho4 k4 rR hR hO => ⟨(by show 2 ≤ sizeLine; decide), fun T nT => ?_⟩⟩
  have kk : Kp (Nh h) H H4 := ((((Kp.new (N := Nh h) n1).trans (Kp.hand k1)).trans ((Kp.new (N := Nh h) n2).trans (Kp.hand k2))).trans ((Kp.new (N := Nh h) n3).trans (Kp.hand k3))).trans k4
  refine k m R T r _ (ho4.new nT) (kk.new' nT) (rR.to (Kp.new nT)) ⟨m1, m6, by omega, by omega, fun ps hp => ?_⟩ upd_same (ho4.ne nT)
  have q := hO ps hp
  exact ⟨Nat.le_trans q.len (by omega), fun p hp => by rw [hR]; exact q.at_ p hp⟩
end
end KQ
set_option Elab.async false
set_option maxRecDepth 100000
set_option maxHeartbeats 4000000
namespace KQ
open PySem PySem.Spec PyProof.Rows L2
/-! ### data of good works -/
theorem pairD_dl (p : Int × Int) : (pairD p).depth = 1 ∧ (pairD p).canLay0 = true := by simp [pairD, PyData.depth, PyData.depthAll, PyData.canLay0, PyData.canLayAll0]
theorem pairsD_dl : ∀ ps : List (Int × Int), PyData.depthAll (ps.map pairD) ≤ 1 ∧ PyData.canLayAll0 (ps.map pairD) = true
  | [] => by simp [PyData.depthAll, PyData.canLayAll0]
  | p :: ps => by
    have h1 := pairD_dl p
    have h2 := pairsD_dl ps
    simp [PyData.depthAll, PyData.canLayAll0, h1.1, h1.2, h2.2]
    omega
theorem ruleD_dl (ps : List (Int × Int)) : (ruleD ps).depth ≤ 2 ∧ (ruleD ps).canLay0 = true := by
  have h := pairsD_dl ps
  simp only [ruleD, PyData.depth, PyData.canLay0]
  exact ⟨by omega, h.2⟩
theorem rulesD_dl' : ∀ R : Rules, PyData.depthAll (R.map ruleD) ≤ 2 ∧ PyData.canLayAll0 (R.map ruleD) = true
  | [] => by simp [PyData.depthAll, PyData.canLayAll0]
  | p :: ps => by
    have h1 := ruleD_dl p
    have h2 := rulesD_dl' ps
    simp [PyData.depthAll, PyData.canLayAll0, h1.2, h2.2]
    omega
theorem rulesD_dl (R : Rules) : (rulesD R).depth ≤ 3 ∧ (rulesD R).canLay0 = true := by
  have h := rulesD_dl' R
  simp only [rulesD, PyData.depth, PyData.canLay0]
  exact ⟨by omega, h.2⟩
theorem rulesD_sh (R : Rules) : SeqAt.shaped (rulesD R) = true := by
  have h := rulesD_dl R
  unfold SeqAt.shaped
  rw [h.2, Bool.true_and]
  exact decide_eq_true (by omega)
theorem sentI_dl (m h f : Int) (p : Int × Int) : (sentI m h f p).depth = 2 ∧ (sentI m h f p).canLay0 = true := by simp [sentI, PyData.depth, PyData.depthAll, PyData.canLay0, PyData.canLayAll0]
theorem sents_dl (m h f : Int) : ∀ ps : List (Int × Int), PyData.depthAll (ps.map (sentI m h f)) ≤ 2 ∧ PyData.canLayAll0 (ps.map (sentI m h f)) = true
  | [] => by simp [PyData.depthAll, PyData.canLayAll0]
  | p :: ps => by
    have h1 := sentI_dl m h f p
    have h2 := sents_dl m h f ps
    simp [PyData.depthAll, PyData.canLayAll0, h1.1, h1.2, h2.2]
    omega
theorem sentD_dl (m : Int) (R : Rules) (h k f : Int) : PyData.depthAll (sentD m R h k f) ≤ 2 ∧ PyData.canLayAll0 (sentD m R h k f) = true := by
  unfold sentD
  split
  · simp [PyData.depthAll, PyData.canLayAll0]
  · exact sents_dl _ _ _ _
theorem isPair_ok {m k : Int} {p : Int × Int} (h : (0 ≤ p.1 ∧ p.1 < m) ∧ 0 ≤ p.2 ∧ p.2 < k) : isPair m k (pairD p) = true := by
  simp only [pairD, isPair, below, intOf]
  simp [h.1.1, h.1.2, h.2.1, h.2.2]
theorem isRule_ok {m k : Int} {ps : List (Int × Int)} (h : OkRule m k 4 ps) : isRule m k (ruleD ps) = true := by
  simp only [ruleD, isRule, List.length_map]
  rw [Bool.and_eq_true, List.all_map, List.all_eq_true]
  exact ⟨decide_eq_true h.len, fun p hp => isPair_ok (h.at_ p hp)⟩
theorem firstBad_none {f : PyData → Bool} : ∀ {i : Nat} {ds : List PyData}, (∀ d ∈ ds, f d = true) → firstBad f i ds = none
  | _, [], _ => rfl
  | i, d :: ds, h => by
    show (if f d then firstBad f (i + 1) ds else some i) = none
    rw [if_pos (h d List.mem_cons_self)]
    exact firstBad_none fun e he => h e (List.mem_cons_of_mem _ he)
theorem firstBad_all {f : PyData → Bool} : ∀ {i : Nat} {ds : List PyData}, firstBad f i ds = none → ∀ d ∈ ds, f d = true
  | _, [], _, _, h => nomatch h
  | i, d :: ds, e, x, h => by
    have e' : (if f d then firstBad f (i + 1) ds else some i) = none := e
    by_cases c : f d = true
    · rw [if_pos c] at e'
      rcases List.mem_cons.mp h with rfl | h
      · exact c
      · exact firstBad_all e' x h
    · rw [if_neg c] at e'
      cases e'
theorem badW_ok {m : Int} {R : Rules} (h : OkWorks m R) : badW (.int m) (rulesD R) = none := by
  have c : ¬ within (.int m) 1 6 = false := by simp [within, intOf, h.m1, h.m6]
  have h1 := h.r1
  have h6 := h.r6
  unfold badW
  rw [if_neg c]
  simp only [rulesD, List.length_map]
  rw [if_neg (by omega), firstBad_none]
  · rfl
  intro d hd
  obtain ⟨ps, hp, rfl⟩ := List.mem_map.mp hd
  exact isRule_ok (h.at_ ps hp)
theorem isPair_inv' {m k : Int} {d : PyData} (h : isPair m k d = true) : ∃ p, d = pairD p := by
  obtain ⟨i, j, rfl, _⟩ := isPair_inv h
  exact ⟨(i, j), rfl⟩
theorem all_map {f : PyData → Bool} {α : Type} {g : α → PyData} (h : ∀ d, f d = true → ∃ a, d = g a) : ∀ ds : List PyData, (∀ d ∈ ds, f d = true) → ∃ as : List α, ds = as.map g
  | [], _ => ⟨[], rfl⟩
  | d :: ds, q => by
    obtain ⟨a, rfl⟩ := h d (q d List.mem_cons_self)
    obtain ⟨as, rfl⟩ := all_map h ds fun e he => q e (List.mem_cons_of_mem _ he)
    exact ⟨a :: as, rfl⟩
theorem isRule_inv {m k : Int} {d : PyData} (h : isRule m k d = true) : ∃ ps, d = ruleD ps := by
  cases d with
  | tuple ds =>
    simp only [isRule, Bool.and_eq_true, List.all_eq_true] at h
    obtain ⟨ps, rfl⟩ := all_map (fun d => isPair_inv') ds h.2
    exact ⟨ps, rfl⟩
  | bool b => cases h
  | int b => cases h
  | none => cases h
  | str x => cases h
  | list x => cases h
  | dict x => cases h
theorem badW_inv {dm dr : PyData} (h : badW dm dr = none) : dm = .int (num dm) ∧ ∃ R, dr = rulesD R := by
  unfold badW at h
  by_cases c : within dm 1 6 = false
  · rw [if_pos c] at h
    cases h
  rw [if_neg c] at h
  have c' : within dm 1 6 = true := by simpa using c
  refine ⟨(within_num c').1, ?_⟩
  cases dr with
  | tuple ds =>
    simp only at h
    by_cases c2 : ds.length = 0 ∨ 6 < ds.length
    · rw [if_pos c2] at h
      cases h
    rw [if_neg c2, Option.map_eq_none_iff] at h
    obtain ⟨R, rfl⟩ := all_map (fun d => isRule_inv) ds (firstBad_all h)
    exact ⟨R, rfl⟩
  | bool b => cases h
  | int b => cases h
  | none => cases h
  | str x => cases h
  | list x => cases h
  | dict x => cases h
/-- what is told of bad works is a word or a number -/
theorem badW_flat {dm dr : PyData} {e : V} (h : badW dm dr = some e) : ∃ d : PyData, (∀ N H, Rp N H e d) ∧ d.depth = 0 ∧ d.canLay0 = true := by
  unfold badW at h
  by_cases c : within dm 1 6 = false
  · rw [if_pos c] at h
    cases h
    exact ⟨.str "many", fun _ _ => .str _, rfl, by decide +kernel⟩
  rw [if_neg c] at h
  have neg : some (V.int (-1)) = some e → ∃ d : PyData, (∀ N H, Rp N H e d) ∧ d.depth = 0 ∧ d.canLay0 = true := fun z => by
    cases z
    exact ⟨_, fun _ _ => .int _, rfl, rfl⟩
  cases dr with
  | tuple ds =>
    simp only at h
    by_cases c2 : ds.length = 0 ∨ 6 < ds.length
    · rw [if_pos c2] at h
      exact neg h
    rw [if_neg c2] at h
    obtain ⟨i, _, rfl⟩ := Option.map_eq_some_iff.mp h
    exact ⟨_, fun _ _ => .int _, rfl, rfl⟩
  | bool b => exact neg h
  | int b => exact neg h
  | none => exact neg h
  | str x => exact neg h
  | list x => exact neg h
  | dict x => exact neg h
end KQ
set_option Elab.async false
set_option maxRecDepth 100000
set_option maxHeartbeats 4000000
namespace KQ
open PySem PySem.Spec PyProof.Rows L2
/-! ### tasks counted by their trees -/
def kin (R : Rules) (k : Int) : List (Int × Int) := R.getD k.toNat []
/-- done at d of the tree of k's task with fuel f, given to h -/
def lc (m : Int) (R : Rules) : Nat → Int → Int → Int → Int
  | 0, _, h, d => if d = h then 1 else 0
  | f + 1, k, h, d => (if d = h then 1 else 0) + ((kin R k).map fun p => lc m R f p.2 ((h + p.1).fmod m) d).sum
/-- a row of numbers, one a house -/
def fl (m : Int) (g : Int → Int) : List V := (List.range m.toNat).map fun (d : Nat) => .int (g (d : Int))
theorem fl_len {m : Int} {g : Int → Int} : (fl m g).length = m.toNat := by simp [fl]
theorem fl_get {m : Int} {g : Int → Int} {i : Nat} (h : i < m.toNat) : (fl m g)[i]? = some (.int (g i)) := by
  unfold fl
  rw [List.getElem?_map, List.getElem?_range h] <;> rfl
theorem fl_at {m : Int} {g : Int → Int} {i : Int} (h0 : 0 ≤ i) (h1 : i < m) : atI (fl m g) i = some (.int (g i)) := by
  have q : atI (fl m g) ((i.toNat : Nat) : Int) = some (.int (g ((i.toNat : Nat) : Int))) := atI_nat (fl_get (by omega))
  rw [show ((i.toNat : Nat) : Int) = i by omega] at q
  exact q
theorem fl_set {m : Int} {g : Int → Int} {i : Int} {x : Int} (h0 : 0 ≤ i) : (fl m g).set i.toNat (.int x) = fl m fun d => if d = i then x else g d := by
  apply List.ext_getElem?
  intro j
  rw [List.getElem?_set]
  by_cases hj : j < m.toNat
  · rw [fl_get hj, fl_get hj, fl_len]
    by_cases e : i.toNat = j
    · rw [if_pos e, if_pos (by omega), if_pos (by omega)]
    · rw [if_neg e, if_neg (by omega)]
  · have n1 : ∀ g, (fl m g)[j]? = none := fun g => List.getElem?_eq_none (by rw [fl_len]; omega)
    rw [n1, n1, fl_len]
    split <;> first | rfl | (split <;> first | omega | rfl)
theorem fl_congr {m : Int} {g g' : Int → Int} (h : ∀ d, 0 ≤ d → d < m → g d = g' d) : fl m g = fl m g' := by
  unfold fl
  apply List.map_congr_left
  intro d hd
  rw [List.mem_range] at hd
  rw [h d (by omega) (by omega)]
theorem fl_zero {m : Int} : (List.replicate m.toNat [V.int 0]).flatten = fl m fun _ => 0 := by
  unfold fl
  induction m.toNat with
  | zero => rfl
  | succ n ih => rw [List.replicate_succ, List.flatten_cons, ih, List.range_succ_eq_map, List.map_cons, List.map_map] <;> rfl
theorem ixN_ok {n : Nat} {i : Int} (h0 : 0 ≤ i) (h1 : i < n) : ixN n i = some i.toNat := by
  unfold ixN
  rw [if_pos h0, if_pos h1]
theorem nodup_le {α : Type} [DecidableEq α] : ∀ {l l' : List α}, l.Nodup → (∀ x ∈ l, x ∈ l') → l.length ≤ l'.length
  | [], _, _, _ => Nat.zero_le _
  | x :: xs, l', nd, h => by
    rw [List.nodup_cons] at nd
    have hx := h x List.mem_cons_self
    have q := nodup_le (l' := l'.erase x) nd.2 fun y hy => (List.mem_erase_of_ne fun (z : y = x) => nd.1 (z ▸ hy)).mpr (h y (List.mem_cons_of_mem _ hy))
    rw [List.length_erase_of_mem hx] at q
    have := List.length_pos_of_mem hx
    rw [List.length_cons]
    omega
def keyOf (h k f : Int) : List Key := [.inl h, .inl k, .inl f]
def keysAll : List (List Key) := (List.range 6).flatMap fun h => (List.range 6).flatMap fun k => (List.range 13).map fun f => keyOf (h : Nat) (k : Nat) (f : Nat)
theorem keysAll_len : keysAll.length = 468 := by decide +kernel
theorem keyOf_in {h k f : Int} (h0 : 0 ≤ h) (h1 : h < 6) (k0 : 0 ≤ k) (k1 : k < 6) (f0 : 0 ≤ f) (f1 : f < 13) : keyOf h k f ∈ keysAll := by
  unfold keysAll
  rw [List.mem_flatMap]
  refine ⟨h.toNat, List.mem_range.mpr (by omega), List.mem_flatMap.mpr ⟨k.toNat, List.mem_range.mpr (by omega), List.mem_map.mpr ⟨f.toNat, List.mem_range.mpr (by omega), ?_⟩⟩⟩
  rw [Int.toNat_of_nonneg h0, Int.toNat_of_nonneg k0, Int.toNat_of_nonneg f0]
/-- what was counted before -/
structure Kept (m : Int) (R : Rules) (H : Hp) (kp : Addr) (kvs : List (List Key × V)) : Prop where
  at_ : H kp = some (.dT kvs)
  nd : (kvs.map (·.1)).Nodup
  ok : ∀ e ∈ kvs, ∃ (h k : Int) (f : Nat) (a : Addr), e = (keyOf h k f, .ref a) ∧ (0 ≤ h ∧ h < m) ∧ (0 ≤ k ∧ k < R.length) ∧ f ≤ 12 ∧ H a = some (.tup (fl m (lc m R f k h)))
abbrev Nk (kp : Addr) : Addr → Prop := fun a => a = kp
theorem Kept.len {m : Int} {R : Rules} {H : Hp} {kp : Addr} {kvs : List (List Key × V)} (K : Kept m R H kp kvs) (hm : m ≤ 6) (hR : R.length ≤ 6) : kvs.length ≤ 468 := by
  rw [← keysAll_len, ← List.length_map (f := (·.1))]
  refine nodup_le K.nd fun x hx => ?_
  obtain ⟨e, he, rfl⟩ := List.mem_map.mp hx
  obtain ⟨h, k, f, a, rfl, hh, hk, hf, _⟩ := K.ok e he
  exact keyOf_in hh.1 (by omega) hk.1 (by omega) (by omega) (by omega)
theorem Kept.kp {m : Int} {R : Rules} {H H' : Hp} {kp : Addr} {kvs : List (List Key × V)} (K : Kept m R H kp kvs) (k : Same H H') : Kept m R H' kp kvs :=
  ⟨k _ _ K.at_, K.nd, fun e he => let ⟨h, x, f, a, q1, q2, q3, q4, q5⟩ := K.ok e he; ⟨h, x, f, a, q1, q2, q3, q4, k _ _ q5⟩⟩
theorem Kept.but {m : Int} {R : Rules} {H H' : Hp} {kp Fd : Addr} {kvs : List (List Key × V)} {xs : List V} (K : Kept m R H kp kvs) (e : H Fd = some (.lst xs)) (k : ∀ a, a ≠ Fd → H' a = H a) : Kept m R H' kp kvs :=
  ⟨(k _ (ne_of K.at_ e (by intro z; cases z))).trans K.at_, K.nd, fun x he => let ⟨h, y, f, a, q1, q2, q3, q4, q5⟩ := K.ok x he; ⟨h, y, f, a, q1, q2, q3, q4, (k _ (ne_of q5 e (by intro z; cases z))).trans q5⟩⟩
/-- .. and what is found there -/
theorem Kept.get {m : Int} {R : Rules} {H : Hp} {kp : Addr} {kvs : List (List Key × V)} (K : Kept m R H kp kvs) {h k : Int} {f : Nat} {v : V} (e : valV kvs (keyOf h k f) = some v) : ∃ a, v = .ref a ∧ H a = some (.tup (fl m (lc m R f k h))) := by
  unfold valV at e
  obtain ⟨x, hx, rfl⟩ := Option.map_eq_some_iff.mp e
  have hk := List.find?_some hx
  obtain ⟨h', k', f', a, rfl, _, _, _, ea⟩ := K.ok x (List.mem_of_find?_eq_some hx)
  have hk' : keyOf h' k' f' = keyOf h k f := of_decide_eq_true hk
  simp only [keyOf, List.cons.injEq, Sum.inl.injEq, and_true] at hk'
  obtain ⟨rfl, rfl, e3⟩ := hk'
  have e4 : f' = f := by omega
  subst e4
  exact ⟨a, rfl, ea⟩
theorem Kept.put {m : Int} {R : Rules} {H : Hp} {kp : Addr} {kvs : List (List Key × V)} (K : Kept m R H kp kvs) {h k : Int} {f : Nat} {a : Addr} (hh : 0 ≤ h ∧ h < m) (hk : 0 ≤ k ∧ k < R.length) (hf : f ≤ 12) (ea : H a = some (.tup (fl m (lc m R f k h)))) :
    Kept m R (upd H kp (.dT (putK kvs (keyOf h k f) (.ref a)))) kp (putK kvs (keyOf h k f) (.ref a)) := by
  have nk : ∀ {b xs}, H b = some (.tup xs) → b ≠ kp := fun e => ne_of e K.at_ (by intro z; cases z)
  have old : ∀ e ∈ kvs, ∃ (h' k' : Int) (f' : Nat) (a' : Addr), e = (keyOf h' k' f', .ref a') ∧ (0 ≤ h' ∧ h' < m) ∧ (0 ≤ k' ∧ k' < R.length) ∧ f' ≤ 12 ∧ upd H kp (.dT (putK kvs (keyOf h k f) (.ref a))) a' = some (.tup (fl m (lc m R f' k' h'))) := fun e he => by
    obtain ⟨h', k', f', a', q1, q2, q3, q4, q5⟩ := K.ok e he
    exact ⟨h', k', f', a', q1, q2, q3, q4, by rw [upd_ne (nk q5)]; exact q5⟩
  have new : ∃ (h' k' : Int) (f' : Nat) (a' : Addr), (keyOf h k f, V.ref a) = (keyOf h' k' f', .ref a') ∧ (0 ≤ h' ∧ h' < m) ∧ (0 ≤ k' ∧ k' < R.length) ∧ f' ≤ 12 ∧ upd H kp (.dT (putK kvs (keyOf h k f) (.ref a))) a' = some (.tup (fl m (lc m R f' k' h'))) :=
    ⟨h, k, f, a, rfl, hh, hk, hf, by rw [upd_ne (nk ea)]; exact ea⟩
  refine ⟨upd_same, ?_, ?_⟩
  · unfold putK
    split
    · rw [List.map_map]
      have : (fun x : List Key × V => x.1) ∘ (fun kv : List Key × V => if kv.1 = keyOf h k f then (kv.1, V.ref a) else kv) = fun x => x.1 := by
        funext x
        show (if x.1 = keyOf h k f then (x.1, V.ref a) else x).1 = x.1
        split <;> rfl
      rw [this]
      exact K.nd
    · rename_i c
      rw [List.map_append, List.nodup_append]
      refine ⟨K.nd, by simp, fun x hx y hy z => c ?_⟩
      rw [List.any_eq_true]
      obtain ⟨e, he, rfl⟩ := List.mem_map.mp hx
      have hy' : y = keyOf h k f := by simpa using hy
      exact ⟨e, he, decide_eq_true (z.trans hy')⟩
  · intro e he
    unfold putK at he
    split at he
    · obtain ⟨x, hx, rfl⟩ := List.mem_map.mp he
      split
      · rename_i q
        rw [q]
        exact new
      · exact old x hx
    · rcases List.mem_append.mp he with z | z
      · exact old e z
      · cases List.mem_singleton.mp z
        exact new
def spCounts (n : Nat) : Sp := fun vs H Q _ => ∃ (kp r t : Addr) (m h k : Int) (f : Nat) (R : Rules) (kvs : List (List Key × V)), vs = [.int m, .ref r, .ref kp, .int h, .ref t] ∧ OkWorks m R ∧ Rp (Nk kp) H (.ref r) (rulesD R) ∧ Kept m R H kp kvs ∧
  (0 ≤ h ∧ h < m) ∧ (0 ≤ k ∧ k < R.length) ∧ f ≤ n ∧ n ≤ 12 ∧ H t = some (.tup [.int k, .int (f : Int)]) ∧
  ∀ (a : Addr) (kvs' : List (List Key × V)) (H' : Hp), Kept m R H' kp kvs' → Kp (Nk kp) H H' → H' a = some (.tup (fl m (lc m R f k h))) → Q (.ref a) H'
section
variable {P : Program} {w : World} {K : PySem.W.Frag} {mg : Str → Option Value} {base : Heap}
set_option maxHeartbeats 16000000 in
theorem counts_step (B : Bi mg) (F : FunAt K mg "_law_counts" s_law_counts) (D_law_sent : Has P w K mg base 1 "_law_sent" ["many", "rules", "house", "task"] spLawSent) (n : Nat) (D_law_counts : Has P w K mg base (n + 1) "_law_counts" ["many", "rules", "kept", "house", "task"] (fun vs H Q E => ∃ m, m + 1 = n ∧ spCounts m vs H Q E)) :
    Has P w K mg base (n + 2) "_law_counts" ["many", "rules", "kept", "house", "task"] (spCounts n) := by
  refine mk_has F sc_law_counts (fun _ _ _ _ _ _ us hl => match us, hl with | [_, _, _, _, _], _ => rfl) (fun vs H Q E h => ?_) fun f cdv A outer s H vs Q E hr h => ?_
  · obtain ⟨kp, r, t, m, h, k, f, R, kvs, rfl, _⟩ := h
    rfl
  obtain ⟨kp, r, t, m, hh, kk, ff, R, kvs, rfl, ok, rr, KT, hh', kk', hf, hn, et, k⟩ := h
  have hu := hu_of hr
  refine ⟨_, (pss_cons (ps_set (i := 5) sc_law_counts.nd rfl (Or.inl rfl) (pe_op op_catA (pe_tup (pa_cons (pv 3) pa_nil)) (pv 4)))
    (C8.pss_cut (ps_if (pt_cmp (pc_dnotin hu (pv 5) (pv 2)))
    (pss_cons (ps_set (i := 6) sc_law_counts.nd rfl (Or.inl rfl) (pe_op op_rep (pe_lst (pa_cons pe_int pa_nil)) (pv 0)))
    (pss_cons (ps_asg pe_int (pg_sub (pv 6) (pv 3) set_list))
    (pss_cons (ps_for PassesOwn.never rfl (pi_list (pe_h D_law_sent (hr.mono (by omega)) rfl (pa_cons (pv 0) (pa_cons (pv 1) (pa_cons (pv 3) (pa_cons (pv 4) pa_nil)))))) (pg_tup rfl (pgs_cons (pg_name (i := 7) sc_law_counts.nd rfl (Or.inl rfl)) (pgs_cons (pg_name (i := 8) sc_law_counts.nd rfl (Or.inl rfl)) pgs_nil)))
    (pss_cons (ps_set (i := 9) sc_law_counts.nd rfl (Or.inl rfl) (pe_h D_law_counts hr rfl (pa_cons (pv 0) (pa_cons (pv 1) (pa_cons (pv 2) (pa_cons (pv 7) (pa_cons (pv 8) pa_nil)))))))
    (pss_one (ps_for PassesOwn.never rfl (pi_range1 rfl B.range (pa_cons (pv 0) pa_nil)) (pg_name (i := 10) sc_law_counts.nd rfl (Or.inl rfl))
    (pss_one (ps_asg (pe_op op_add (pe_ix ix_list (pv 6) (pv 10) (fun _ _ => rfl)) (pe_ix ix_tup (pv 9) (pv 10) (fun _ _ => rfl))) (pg_sub (pv 6) (pv 10) set_list)))))))
    (pss_one (ps_dput hu (pv 2) (pv 5) (pe_callTy call_tuple_of rfl B.tuple (by decide +kernel) (pa_cons (pv 6) pa_nil)) rfl)))))
    pss_nil)
    (pss_one (ps_ret (pe_dget hu (pv 2) (pv 5) (fun _ _ => rfl)))))), ?_⟩
  refine ⟨_, rfl, (by show 1 ≤ sizeLine; decide), fun p1 n1 => ?_⟩
  have s1 := same_new (o := .tup [.int hh]) n1
  refine ⟨_, rfl, p1, t, [.int hh], [.int kk, .int ff], rfl, rfl, SqT.of upd_same, SqT.of (s1 _ _ et), (by show 3 ≤ sizeLine; decide), (fun z => nomatch z), (fun _ z => nomatch z), fun _ _ p2 n2 => ?_⟩
  have s2 := s1.trans (same_new (o := .tup ([.int hh] ++ [.int kk, .int (ff : Int)])) n2)
  have e2 : upd (upd H p1 (.tup [.int hh])) p2 (.tup ([.int hh] ++ [.int kk, .int (ff : Int)])) p2 = some (.tup [.int hh, .int kk, .int ff]) := upd_same
  generalize upd (upd H p1 (.tup [.int hh])) p2 (.tup ([.int hh] ++ [.int kk, .int (ff : Int)])) = G2 at s2 e2 ⊢
  refine ⟨fun σ H' => ∃ v6 v7 v8 v9 v10 a kvs', σ = [some (.int m), some (.ref r), some (.ref kp), some (.int hh), some (.ref t), some (.ref p2), v6, v7, v8, v9, v10] ∧ Kept m R H' kp kvs' ∧ Kp (Nk kp) H H' ∧ H' p2 = some (.tup [.int hh, .int kk, .int ff]) ∧ valV kvs' (keyOf hh kk ff) = some (.ref a) ∧ H' a = some (.tup (fl m (lc m R ff kk hh))), ?_, ?_⟩
  · refine ⟨_, rfl, _, rfl, kp, _, rfl, DGet.t (s2 _ _ KT.at_) (k := keyOf hh kk ff) e2, _, rfl, ?_⟩
    cases ev : valV kvs (keyOf hh kk ff) with
    | some v =>
      obtain ⟨a, rfl, ea⟩ := KT.get ev
      exact ifF rfl ⟨_, _, _, _, _, a, kvs, rfl, KT.kp s2, Kp.of_same s2, e2, ev, s2 _ _ ea⟩
    | none =>
    refine ifT rfl ?_
    have m1 := ok.m1
    have m6 := ok.m6
    refine ⟨(by show 1 ≤ sizeLine; decide), fun L0 nL0 => ?_⟩
    have s3 := same_new (o := .lst [.int 0]) nL0
    refine ⟨_, rfl, L0, m, [.int 0], rfl, rfl, upd_same, by omega, by omega, ?_, fun Fd nF => ?_⟩
    · exact Nat.le_trans (show 1 * m.toNat ≤ 6 by omega) (by decide)
    rw [fl_zero]
    refine ⟨_, rfl, _, rfl, Fd, _, hh, hh.toNat, rfl, rfl, upd_same, ixN_ok hh'.1 (by rw [fl_len]; omega), ?_⟩
    rw [fl_set hh'.1]
    have nG : ∀ a o, G2 a = some o → a ≠ Fd := fun a o z => ne_of_none (s3 _ _ z) nF
    generalize hH5 : upd (upd (upd G2 L0 (.lst [.int 0])) Fd (.lst (fl m fun _ => 0))) Fd (.lst (fl m fun d => if d = hh then 1 else 0)) = H5
    have s5 : Same G2 H5 := fun a o z => by
      rw [← hH5, upd_ne (nG a o z), upd_ne (nG a o z)]
      exact s3 a o z
    have e5 : H5 Fd = some (.lst (fl m fun d => if d = hh then 1 else 0)) := by rw [← hH5]; exact upd_same
    have s25 := s2.trans s5
    have nFd : H Fd = none := s2.free ((same_new nL0).free nF)
    clear hH5
    refine ⟨_, rfl, _, rfl, _, rfl, _, rfl, Nk kp, r, t, m, hh, kk, (ff : Int), R, rfl, by omega, rr.to (Kp.of_same s25), (fun ps hp => Nat.le_trans (ok.at_ ps hp).len (by decide)), s25 _ _ et, kk'.1, kk'.2, by omega, fun L acc HL nL sL eL rA => ?_⟩
    have K5 := (KT.kp s25).kp sL
    have eF := sL _ _ e5
    have hLF : L ≠ Fd := (ne_of_none e5 nL).symm
    have hLk : L ≠ kp := (ne_of_none ((KT.kp s25).at_) nL).symm
    have hkF : kp ≠ Fd := ne_of_none KT.at_ nFd
    obtain ⟨ps, hps, hsub⟩ : ∃ ps : List (Int × Int), sentD m R hh kk ff = ps.map (sentI m hh ff) ∧ (ps = [] ∧ ff = 0 ∨ ∃ g, ff = g + 1 ∧ ps = kin R kk) := by
      unfold sentD
      cases ff with
      | zero => exact ⟨[], by simp, .inl ⟨rfl, rfl⟩⟩
      | succ g => exact ⟨kin R kk, by rw [if_neg (by omega)]; rfl, .inr ⟨g, rfl, rfl⟩⟩
    rw [hps] at rA
    have hla : acc.length = ps.length := rA.length.trans (List.length_map _)
    refine ⟨L, rfl, ⟨acc, SqL.of eL⟩, ?_⟩
    refine for_list (K := K) (a := L) (xs := acc) (fun i σ H' => ∃ v7 v8 v9 v10 kvs1, σ = [some (.int m), some (.ref r), some (.ref kp), some (.int hh), some (.ref t), some (.ref p2), some (.ref Fd), v7, v8, v9, v10] ∧ Kept m R H' kp kvs1 ∧ Kp (fun b => b = kp ∨ b = Fd) HL H' ∧
      H' Fd = some (.lst (fl m fun d => (if d = hh then 1 else 0) + ((ps.take i).map fun p => lc m R (ff - 1) p.2 ((hh + p.1).fmod m) d).sum)))
      ⟨_, _, _, _, kvs, rfl, K5, Kp.refl, by rw [eF]; simp⟩ (fun i σ H' _ ⟨_, _, _, _, _, _, _, e', _⟩ => SqL.of (e' _ _ eL fun z => z.elim hLk hLF)) ?_ ?_
    · rintro i x σ H' hx ⟨v7, v8, v9, v10, kvs1, rfl, K1, kp1, eFi⟩
      obtain ⟨d, gd, rd⟩ := rA.get hx
      rw [List.getElem?_map] at gd
      obtain ⟨p, gp, rfl⟩ := Option.map_eq_some_iff.mp gd
      obtain ⟨g, rfl, eps⟩ : ∃ g, ff = g + 1 ∧ ps = kin R kk := by
        rcases hsub with ⟨e, _⟩ | h
        · rw [e] at gp
          cases gp
        · exact h
      cases rd with
      | @tup b1 ys _ eb1 nb1 ry =>
      cases ry with
      | cons r1 ry =>
      cases ry with
      | cons r2 ry =>
      cases ry
      cases r1
      cases r2 with
      | @tup b2 zs _ eb2 nb2 rz =>
      cases rz with
      | cons r3 rz =>
      cases rz with
      | cons r4 rz =>
      cases rz
      cases r3
      cases r4
      have bk : ∀ {b xs}, HL b = some (.tup xs) → H' b = some (.tup xs) := fun e => kp1 _ _ e fun z => z.elim (ne_of e K5.at_ (by intro z; cases z)) (ne_of e eF (by intro z; cases z))
      refine ⟨_, _, rfl, SqT.of (bk eb1), rfl, _, _, rfl, _, _, rfl, rfl, ?_⟩
      have rF : Rp (fun b => b = kp ∨ b = Fd) H (.ref r) (rulesD R) := rr.more fun a z => z.elim .inl fun z => .inr (z ▸ nFd)
      have rr1 : Rp (Nk kp) H' (.ref r) (rulesD R) := (((rF.to (Kp.of_same s25)).to (Kp.of_same sL)).to kp1).kp (N' := Nk kp) Kp.refl fun a o _ n z => n (.inl z)
      have hin : kin R kk ∈ R := by
        unfold kin
        rw [List.getD_eq_getElem?_getD, List.getElem?_eq_getElem (by omega : kk.toNat < R.length)]
        exact List.getElem_mem _
      have hp := (ok.at_ _ hin).at_ p (eps ▸ List.mem_of_getElem? gp)
      have hto := fmod_lt' (a := hh + p.1) (m := m) (by omega)
      have e2g : H' b2 = some (.tup [.int p.2, .int (g : Int)]) := by
        have := bk eb2
        rwa [show (((g + 1 : Nat) : Int) - 1) = (g : Int) by omega] at this
      refine ⟨_, rfl, _, rfl, _, rfl, _, rfl, _, rfl, n - 1, by omega, kp, r, b2, m, (hh + p.1).fmod m, p.2, g, R, kvs1, rfl, ok, rr1, K1, hto, hp.2, by omega, by omega, e2g, fun a kvs2 H2 K2 kp2 ea => ?_⟩
      have eF2 := kp2 _ _ eFi (Ne.symm hkF)
      have haF : a ≠ Fd := ne_of ea eF2 (by intro z; cases z)
      refine ⟨_, rfl, m, rfl, by omega, by omega, for_range (lo := 0) (n := m.toNat) (fun j σ H'' => ∃ v10, σ = [some (.int m), some (.ref r), some (.ref kp), some (.int hh), some (.ref t), some (.ref p2), some (.ref Fd), some (.int ((hh + p.1).fmod m)), some (.ref b2), some (.ref a), v10] ∧ (∀ a, a ≠ Fd → H'' a = H2 a) ∧
          H'' Fd = some (.lst (fl m fun d => (if d = hh then 1 else 0) + ((ps.take i).map fun p => lc m R (g + 1 - 1) p.2 ((hh + p.1).fmod m) d).sum + if d < j then lc m R g p.2 ((hh + p.1).fmod m) d else 0)))
        ⟨_, rfl, fun _ _ => rfl, ?_⟩ ?_ ?_⟩
      · rw [eF2]
        refine congrArg (fun x => some (HO.lst x)) (fl_congr fun d d0 _ => ?_)
        rw [if_neg (show ¬ d < ((0 : Nat) : Int) by omega), Int.add_zero]
      · rintro j σ H3 hj ⟨v10, rfl, k3, eF3⟩
        have ea3 := (k3 a haF).trans ea
        refine ⟨_, rfl, _, rfl, Fd, _, _, _, rfl, rfl, SqL.of eF3, fl_at (by omega) (by omega), _, rfl, _, rfl, a, _, _, _, rfl, rfl, SqT.of ea3, fl_at (by omega) (by omega), _, _, rfl, rfl, ?_⟩
        refine ⟨_, rfl, _, rfl, Fd, _, _, _, rfl, rfl, eF3, ixN_ok (by omega) (by rw [fl_len]; omega), ?_⟩
        refine ⟨_, rfl, fun b hb => by rw [upd_ne hb]; exact k3 b hb, ?_⟩
        rw [upd_same, fl_set (by omega)]
        refine congrArg (fun x => some (HO.lst x)) (fl_congr fun d d0 d1 => ?_)
        by_cases e : d = 0 + (j : Int)
        · rw [if_pos e, ← e, if_neg (show ¬ d < (j : Int) by omega), if_pos (show d < ((j + 1 : Nat) : Int) by omega), Int.add_zero]
        · rw [if_neg e]
          by_cases e' : d < (j : Int)
          · rw [if_pos e', if_pos (show d < ((j + 1 : Nat) : Int) by omega)]
          · rw [if_neg e', if_neg (show ¬ d < ((j + 1 : Nat) : Int) by omega)]
      · rintro σ H3 ⟨v10, rfl, k3, eF3⟩
        refine ⟨_, _, _, _, kvs2, rfl, K2.but eF2 k3, fun b o z nb => ?_, ?_⟩
        · rw [k3 b fun y => nb (.inr y)]
          exact kp2 b o (kp1 b o z nb) fun y => nb (.inl y)
        · rw [eF3]
          refine congrArg (fun x => some (HO.lst x)) (fl_congr fun d d0 d1 => ?_)
          rw [if_pos (show d < ((m.toNat : Nat) : Int) by omega), map_take gp, List.sum_append, List.sum_singleton]
          show _ + _ + _ = _ + (_ + _)
          rw [Int.add_assoc]
          rfl
    · rintro σ H' ⟨v7, v8, v9, v10, kvs1, rfl, K1, kp1, eFi⟩
      have eFl : H' Fd = some (.lst (fl m (lc m R ff kk hh))) := by
        rw [eFi]
        refine congrArg (fun x => some (HO.lst x)) (fl_congr fun d d0 d1 => ?_)
        rw [hla, List.take_length]
        rcases hsub with ⟨e, e'⟩ | ⟨g, e, e'⟩
        · subst e
          subst e'
          show _ + 0 = _
          rw [Int.add_zero]
          rfl
        · subst e
          subst e'
          rfl
      have e2' : H' p2 = some (.tup [.int hh, .int kk, .int (ff : Int)]) := kp1 _ _ (sL _ _ (s5 _ _ e2)) fun z => z.elim (ne_of (s5 _ _ e2) ((KT.kp s25).at_) (by intro z; cases z)) (nG _ _ e2)
      refine ⟨_, rfl, Fd, _, rfl, .inl ⟨SqL.of eFl, fun p np => ?_⟩⟩
      have sp := same_new (o := .tup (fl m (lc m R ff kk hh))) np
      have K3 := K1.kp sp
      have nkp : p ≠ kp := (ne_of_none K1.at_ np).symm
      refine ⟨_, rfl, _, rfl, kp, _, rfl, DPut.t (k := keyOf hh kk ff) K3.at_ (sp _ _ e2') (Nat.lt_of_le_of_lt (K1.len m6 ok.r6) (by decide)), ?_⟩
      refine ⟨_, _, _, _, _, p, _, rfl, K3.put hh' kk' (by omega) upd_same, fun b o z nb => ?_, ?_, ?_, ?_⟩
      · rw [upd_ne nb]
        exact sp _ _ (kp1 b o (sL _ _ (s25 b o z)) fun y => y.elim nb fun y => by rw [y, nFd] at z; cases z)
      · rw [upd_ne (ne_of e2' K1.at_ (by intro z; cases z))]
        exact sp _ _ e2'
      · rw [valV_put, if_pos rfl]
      · rw [upd_ne nkp]
        exact upd_same
  · rintro σ H' ⟨v6, v7, v8, v9, v10, a, kvs', rfl, KT', kp', e2, ev, ea⟩
    exact ⟨_, rfl, _, rfl, kp, _, rfl, by rw [← ev]; exact DGet.t KT'.at_ (k := keyOf hh kk ff) e2, k a kvs' H' KT' kp' ea⟩
end
end KQ
set_option Elab.async false
set_option maxRecDepth 100000
set_option maxHeartbeats 4000000
namespace KQ
open PySem PySem.Spec PyProof.Rows L2
section
variable {P : Program} {w : World} {K : PySem.W.Frag} {mg : Str → Option Value} {base : Heap}
theorem d_law_counts (B : Bi mg) (F : FunAt K mg "_law_counts" s_law_counts) (D : Has P w K mg base 1 "_law_sent" ["many", "rules", "house", "task"] spLawSent) : ∀ n : Nat, Has P w K mg base (n + 2) "_law_counts" ["many", "rules", "kept", "house", "task"] (spCounts n)
  | 0 => counts_step B F D 0 (has_none F (fun _ _ _ _ _ _ us hl => match us, hl with | [_, _, _, _, _], _ => rfl) fun _ _ _ _ ⟨_, e, _⟩ => nomatch e)
  | n + 1 => counts_step B F D (n + 1) ((d_law_counts B F D n).imp fun _ _ _ _ ⟨m, e, q⟩ => by cases e; exact q)
end
/-! ### all tasks of a tree -/
def tot (R : Rules) : Nat → Int → Int
  | 0, _ => 1
  | f + 1, k => 1 + ((kin R k).map fun p => tot R f p.2).sum
def lg (R : Rules) : Nat → Int → Int
  | 0, _ => 1
  | f + 1, k => 1 + ((kin R k).map fun p => lg R f p.2).foldl max 0
theorem fl_snoc {i : Nat} {g : Int → Int} : fl (i : Int) g ++ [.int (g (i : Int))] = fl ((i + 1 : Nat) : Int) g := by
  unfold fl
  rw [Int.toNat_natCast, Int.toNat_natCast, List.range_succ, List.map_append] <;> rfl
theorem at_last {xs : List V} {i : Nat} (h : xs.length = i + 1) : atI xs (-1) = xs[i]? := by
  unfold atI ixN
  rw [if_neg (by decide), if_pos (by omega)]
  show xs[((-1 : Int) + xs.length).toNat]? = _
  rw [show ((-1 : Int) + xs.length).toNat = i by omega]
def spRows (C : Addr) : Sp := fun vs H Q _ => ∃ (N : Addr → Prop) (a r : Addr) (vm : V) (m : Int) (R : Rules), vs = [.ref a] ∧ WorksAt C H a vm (.ref r) ∧ Rp N H (.ref r) (rulesD R) ∧ OkWorks m R ∧
  ∀ (L : Addr) (rows : List Addr) (H' : Hp), Same H H' → H' L = some (.lst (rows.map V.ref)) → rows.length = 13 → (∀ (f : Nat) (x : Addr), rows[f]? = some x → H' x = some (.lst (fl R.length (tot R f)))) → Q (.ref L) H'
theorem kin_get {R : Rules} {i : Nat} {ps : List (Int × Int)} (h : R[i]? = some ps) : kin R (i : Int) = ps := by
  unfold kin
  rw [Int.toNat_natCast, List.getD_eq_getElem?_getD, h] <;> rfl
section
variable {P : Program} {w : World} {K : PySem.W.Frag} {mg : Str → Option Value} {base : Heap} {t4 : Tok} {C : Addr}
set_option maxHeartbeats 16000000 in
theorem d_many_by_fuel (B : Bi mg) (T : WorksC K mg C) (F : FunAt K mg "many_by_fuel" s_many_by_fuel) (g_MOST_FUEL : mg "MOST_FUEL" = some (.int 12 t4)) : Has P w K mg base 1 "many_by_fuel" ["works"] (spRows C) := by
  refine mk_has F sc_many_by_fuel (fun _ _ _ _ _ _ us hl => match us, hl with | [_], _ => rfl) (fun vs H Q E h => ?_) fun f cdv A outer s H vs Q E hr h => ?_
  · obtain ⟨N, a, r, vm, m, R, rfl, _⟩ := h
    rfl
  obtain ⟨N, a, r, vm, m, R, rfl, ⟨dx, ha⟩, rr, ok, k⟩ := h
  refine ⟨_, (pss_cons (ps_set (i := 1) sc_many_by_fuel.nd rfl (Or.inl rfl) (pe_lst (pa_cons (pe_lc (own := [("_", 2)]) (g := gName 2) (tt := tYes) (te := (tC (.int 1))) rfl sc_many_by_fuel.nd (pi_tup (pe_fld (pv 0) rfl)) (blkOk_by (own := [("_", 2)]) (N := ["works", "rows", "_", "below", "pair", "rule"]) (sc := defScope s_many_by_fuel) (by decide +kernel)) (fun _ _ _ _ _ => (pg_name (i := 2) sc_many_by_fuel.nd rfl (Or.inl rfl))) (fun _ _ _ _ _ => pts_nil) (fun _ _ _ _ _ => pe_int)) pa_nil)))
    (pss_cons (ps_for PassesOwn.never rfl (pi_range1 rfl B.range (pa_cons (pe_glob (v := .int 12) rfl g_MOST_FUEL ⟨_, rfl⟩) pa_nil)) (pg_name (i := 2) sc_many_by_fuel.nd rfl (Or.inl rfl))
    (pss_cons (ps_set (i := 3) sc_many_by_fuel.nd rfl (Or.inr rfl) (pe_ix ix_list (pv 1) (pe_un un_neg pe_int) (fun _ _ => rfl)))
    (pss_one (ps_expr (pe_bm PySem.F.plainAttrs_list PySem.F.slot_list_append PySem.F.type_list_append mt_append (pv 1) (pa_cons (pe_lc (own := [("rule", 5)]) (g := gName 5) (tt := tYes) (te := (tOp (rI0 fun i j => .int (i + j)) (tC (.int 1)) (tCB (rSum K) (tCons (tLc (iTup K (tVar 5)) (gName 4) tYes (tOp (rIxL K) (tVar 3) (tOp (rIxT K) (tVar 4) (tC (.int 1)))) [4]) tNil)))) rfl sc_many_by_fuel.nd (pi_tup (pe_fld (pv 0) rfl)) (blkOk_by (own := [("rule", 5)]) (N := ["works", "rows", "_", "below", "pair", "rule"]) (sc := defScope s_many_by_fuel) (by decide +kernel)) (fun _ _ _ _ _ => (pg_name (i := 5) sc_many_by_fuel.nd rfl (Or.inl rfl))) (fun _ _ _ _ _ => pts_nil) (fun _ _ _ _ _ => (pe_op op_add pe_int (pe_callB (cr_sum rfl) rfl B.sum (by decide +kernel) (pa_cons (pe_lc (own := [("pair", 4)]) (g := gName 4) (tt := tYes) (te := (tOp (rIxL K) (tVar 3) (tOp (rIxT K) (tVar 4) (tC (.int 1))))) rfl sc_many_by_fuel.nd (pi_tup (pv 5)) (blkOk_by (own := [("pair", 4)]) (N := ["works", "rows", "_", "below", "pair", "rule"]) (by rfl)) (fun _ _ _ _ _ => (pg_name (i := 4) sc_many_by_fuel.nd rfl (Or.inl rfl))) (fun _ _ _ _ _ => pts_nil) (fun _ _ _ _ _ => (pe_ix ix_list (pv 3) (pe_ix ix_tup (pv 4) pe_int (fun _ _ => rfl)) (fun _ _ => rfl)))) pa_nil))))) pa_nil))))))
    (pss_one (ps_ret (pv 1))))), ?_⟩
  cases rr with
  | @tup _ xs _ er nr ra =>
  have hl : xs.length = R.length := ra.length.trans (List.length_map _)
  have o6 := ok.r6
  have o1 := ok.r1
  refine ⟨_, rfl, a, C, dx, _, _, rfl, ha, T.cl, T.n2, wF_r, r, rfl, ⟨xs, SqT.of er⟩, fun D nD => ?_⟩
  refine lc_tup (K := K) (a := r) (xs := xs) (fun i H' => Same H H' ∧ H' D = some (.lst (fl i fun _ => 1))) ⟨same_new nD, upd_same⟩ (fun i H' _ z => SqT.of (z.1 _ _ er)) (fun i y H' hy z => ?_) fun H' z => ?_
  · refine ⟨rfl, ?_⟩
    refine tYes_ok ?_
    rw [if_pos rfl]
    refine ⟨_, z.2, ?_, fun b o q => by rw [upd_ne (ne_of_none q nD)]; exact z.1 b o q, ?_⟩
    · rw [fl_len]
      have := (List.getElem?_eq_some_iff.mp hy).1
      exact Nat.lt_of_lt_of_le (show (i : Int).toNat < 7 by omega) (by decide)
    · rw [upd_same, fl_snoc (g := fun _ => 1)]
  obtain ⟨s1, eD⟩ := z
  rw [hl] at eD
  refine ⟨(by show 1 ≤ sizeLine; decide), fun L nL => ?_⟩
  have hDL : D ≠ L := ne_of_none eD nL
  have nL0 : H L = none := s1.free nL
  have sL := same_new (o := .lst [.ref D]) nL
  refine ⟨12, rfl, by decide, by decide, for_range (lo := 0) (n := 12) (fun i σ H' => ∃ v2 v3 v4 v5 rows, σ = [some (.ref a), some (.ref L), v2, v3, v4, v5] ∧ Same H H' ∧ H' L = some (.lst (rows.map V.ref)) ∧ rows.length = i + 1 ∧ ∀ (f : Nat) (x : Addr), rows[f]? = some x → x ≠ L ∧ H' x = some (.lst (fl R.length (tot R f))))
    ⟨_, _, _, _, [D], rfl, s1.trans sL, upd_same, rfl, fun f x hx => ?_⟩ ?_ ?_⟩
  · cases f with
    | zero =>
      simp at hx
      subst hx
      refine ⟨hDL, (sL _ _ eD).trans ?_⟩
      exact congrArg (fun x => some (HO.lst x)) (fl_congr fun d _ _ => rfl)
    | succ f => simp at hx
  · rintro i σ H1 hi ⟨v2, v3, v4, v5, rows, rfl, s1, eL, lr, hrow⟩
    obtain ⟨x, hx⟩ : ∃ x, rows[i]? = some x := ⟨_, List.getElem?_eq_getElem (by omega)⟩
    obtain ⟨hxL, ex⟩ := hrow i x hx
    refine ⟨_, rfl, _, rfl, L, _, _, .ref x, rfl, rfl, SqL.of eL, (by rw [at_last (i := i) (by rw [List.length_map, lr]), List.getElem?_map, hx]; rfl), ?_⟩
    refine ⟨_, rfl, .inl ⟨rfl, _, SqL.of eL⟩, _, rfl, a, C, dx, _, _, rfl, s1 _ _ ha, T.cl, T.n2, wF_r, r, rfl, ⟨xs, SqT.of (s1 _ _ er)⟩, fun E nE => ?_⟩
    refine lc_tup (K := K) (a := r) (xs := xs) (fun j H2 => Same H1 H2 ∧ H2 E = some (.lst (fl (j : Int) (tot R (i + 1))))) ⟨same_new nE, upd_same⟩ (fun j H2 _ z => SqT.of (z.1 _ _ (s1 _ _ er))) (fun j y H2 hy z => ?_) fun H2 z => ?_
    · obtain ⟨s2, eE⟩ := z
      have hjx := (List.getElem?_eq_some_iff.mp hy).1
      obtain ⟨d, gd, rd⟩ := ra.get hy
      rw [List.getElem?_map] at gd
      obtain ⟨ps, gp, rfl⟩ := Option.map_eq_some_iff.mp gd
      have hps := ok.at_ ps (List.mem_of_getElem? gp)
      have s02 := s1.trans s2
      cases rd with
      | @tup q ys _ eq nq ry =>
      have hly : ys.length = ps.length := ry.length.trans (List.length_map _)
      refine ⟨rfl, ?_⟩
      refine tYes_ok ?_
      rw [if_pos rfl]
      try unfold tC
      refine ⟨_, rfl, q, rfl, ⟨ys, SqT.of (s02 _ _ eq)⟩, fun G nG => ?_⟩
      refine lc_tup (K := K) (a := q) (xs := ys) (fun l H3 => Same H2 H3 ∧ H3 G = some (.lst ((ps.take l).map fun p => .int (tot R i p.2)))) ⟨same_new nG, upd_same⟩ (fun l H3 _ z => SqT.of (z.1 _ _ (s02 _ _ eq))) (fun l y' H3 hy' z => ?_) fun H3 z => ?_
      · obtain ⟨s3, eG⟩ := z
        have hlx := (List.getElem?_eq_some_iff.mp hy').1
        obtain ⟨d, gd, rd⟩ := ry.get hy'
        rw [List.getElem?_map] at gd
        obtain ⟨p, gp', rfl⟩ := Option.map_eq_some_iff.mp gd
        have hp := hps.at_ p (List.mem_of_getElem? gp')
        have s03 := s02.trans s3
        cases rd with
        | @tup b zs _ eb nb rz =>
        cases rz with
        | cons r1 rz =>
        cases rz with
        | cons r2 rz =>
        cases rz
        cases r1
        cases r2
        refine ⟨rfl, ?_⟩
        refine tYes_ok ?_
        rw [if_pos rfl]
        refine ⟨_, rfl, _, rfl, b, _, _, _, rfl, rfl, SqT.of (s03 _ _ eb), rfl, x, _, _, _, rfl, rfl, SqL.of (s3 _ _ (s2 _ _ ex)), fl_at hp.2.1 hp.2.2, _, eG, ?_, fun b o q => by rw [upd_ne (ne_of_none q nG)]; exact s3 b o q, ?_⟩
        · rw [List.length_map, List.length_take]
          have := hps.len
          exact Nat.lt_of_le_of_lt (show min l ps.length ≤ 4 by omega) (by decide)
        · rw [upd_same, map_take gp']
      · obtain ⟨s3, eG⟩ := z
        rw [hly, List.take_length] at eG
        refine ⟨G, ps.map fun p => tot R i p.2, rfl, SqL.of ?_, _, _, rfl, rfl, _, s3 _ _ eE, ?_, fun b o q => ?_, ?_⟩
        · rw [eG, List.map_map]
          rfl
        · rw [fl_len]
          exact Nat.lt_of_lt_of_le (show (j : Int).toNat < 7 by omega) (by decide)
        · rw [upd_ne (ne_of_none q nE)]
          exact s3 b o (s2 b o q)
        · rw [upd_same, ← fl_snoc]
          refine congrArg (fun x => some (HO.lst (fl (j : Int) (tot R (i + 1)) ++ [.int x]))) ?_
          show 1 + _ = 1 + _
          rw [kin_get gp]
    · obtain ⟨s2, eE⟩ := z
      have eL2 := s2 _ _ eL
      have hEL : E ≠ L := (ne_of_none eL nE).symm
      refine ⟨L, _, _, rfl, rfl, eL2, ?_, ?_⟩
      · rw [List.length_map, lr]
        exact Nat.lt_of_lt_of_le (show i + 1 < 14 by omega) (by decide)
      refine ⟨_, _, _, _, rows ++ [E], rfl, fun b o q => ?_, ?_, by rw [List.length_append, lr] <;> rfl, fun f x' hx' => ?_⟩
      · have hb : b ≠ L := fun z => by
          rw [z, nL0] at q
          cases q
        rw [upd_ne hb]
        exact s2 b o (s1 b o q)
      · rw [upd_same, List.map_append]
        rfl
      · by_cases hf : f < rows.length
        · rw [List.getElem?_append_left hf] at hx'
          obtain ⟨h1, h2⟩ := hrow f x' hx'
          exact ⟨h1, by rw [upd_ne h1]; exact s2 _ _ h2⟩
        · rw [List.getElem?_append_right (by omega)] at hx'
          have e0 : f - rows.length = 0 := by
            rcases Nat.eq_zero_or_pos (f - rows.length) with z | z
            · exact z
            · rw [List.getElem?_eq_none (by show 1 ≤ _; omega)] at hx'
              cases hx'
          rw [e0] at hx'
          cases hx'
          have ef : f = i + 1 := by omega
          subst ef
          refine ⟨hEL, ?_⟩
          rw [upd_ne hEL, eE, hl]
  · rintro σ H1 ⟨v2, v3, v4, v5, rows, rfl, s1, eL, lr, hrow⟩
    exact ⟨_, rfl, k L rows H1 s1 eL lr fun f x hx => (hrow f x hx).2⟩
end
end KQ
set_option Elab.async false
set_option maxRecDepth 100000
set_option maxHeartbeats 4000000
namespace KQ
open PySem PySem.Spec PyProof.Rows L2
/-- enumerate of a list, turn by turn -/
theorem for_el {K : PySem.W.Frag} {a : Addr} {xs : List V} {g : TG} {tb : TS} {D : Ends} {σ : L2.St} {H : Hp} (Pv : Nat → L2.St → Hp → Prop) (h0 : Pv 0 σ H) (hq : ∀ i σ H, Pv i σ H → SqL K H a xs)
    (hs : ∀ (i : Nat) (x : V) (T : Addr) (σ : L2.St) (H : Hp), xs[i]? = some x → Pv i σ H → H T = none → g (.ref T) σ (upd H T (.tup [.int (i : Nat), x])) fun σ2 H2 => tb { D with nx := Pv (i + 1), ct := Pv (i + 1), bk := D.nx } σ2 H2) (hd : ∀ σ H, Pv xs.length σ H → D.nx σ H) :
    ∃ W : Nat → Nat → L2.St → Hp → Prop, (∃ m, W 0 m σ H) ∧ ∀ i m σ H, W i m σ H →
      ((Ite K a).stop i H ∧ D.nx σ H) ∨ ((Ite K a).go i H ∧ ∃ N : L2.St → Hp → Prop, (∀ σ' H', N σ' H' → ∃ m', m' < m ∧ W (i + 1) m' σ' H') ∧ ∀ x H', (Ite K a).yld i H x H' → g x σ H' fun σ2 H2 => tb { D with nx := N, ct := N, bk := D.nx } σ2 H2) := by
  refine ⟨fun i m σ H => m = xs.length - i ∧ i ≤ xs.length ∧ Pv i σ H, ⟨_, rfl, Nat.zero_le _, h0⟩, ?_⟩
  rintro i m σ H ⟨rfl, hi, pv⟩
  have q := hq i σ H pv
  rcases Nat.lt_or_eq_of_le hi with hlt | he
  · refine .inr ⟨⟨xs, xs[i], q, by simp [hlt]⟩, Pv (i + 1), fun σ' H' p' => ⟨_, by omega, rfl, hlt, p'⟩, ?_⟩
    rintro x H' ⟨T, y, rfl, nT, rfl, hy⟩
    exact hs i y T σ H (hy xs q) pv nT
  · subst he
    exact .inl ⟨⟨xs, q, Nat.le_refl _⟩, hd σ H pv⟩
/-! ### counts by how far -/
def cn (m : Int) (R : Rules) : Nat → Int → Int → Int
  | 0, _, d => if d = 0 then 1 else 0
  | f + 1, k, d => (if d = 0 then 1 else 0) + ((kin R k).map fun p => cn m R f p.2 ((d - p.1).fmod m)).sum
theorem fm {m : Int} (h : 0 < m) (a : Int) : a.fmod m = a % m := Int.fmod_eq_emod_of_nonneg a (Int.le_of_lt h)
theorem shift {m s j d : Int} (hm : 0 < m) (j0 : 0 ≤ j) (j1 : j < m) (d0 : 0 ≤ d) (d1 : d < m) : d = (s + j).fmod m ↔ (d - s).fmod m = j := by
  rw [fm hm, fm hm]
  constructor
  · rintro rfl
    rw [Int.sub_emod, Int.emod_emod, ← Int.sub_emod, show s + j - s = j by omega]
    exact Int.emod_eq_of_lt j0 j1
  · intro e
    rw [← e, Int.add_emod, Int.emod_emod, ← Int.add_emod, show s + (d - s) = d by omega]
    exact (Int.emod_eq_of_lt d0 d1).symm
theorem lc_cn {m : Int} {R : Rules} (hm : 0 < m) : ∀ (f : Nat) (k h d : Int), 0 ≤ h → h < m → 0 ≤ d → d < m → lc m R f k h d = cn m R f k ((d - h).fmod m) := by
  have z : ∀ h d : Int, 0 ≤ h → h < m → 0 ≤ d → d < m → (d = h ↔ (d - h).fmod m = 0) := fun h d h0 h1 d0 d1 => by
    rw [← shift hm (Int.le_refl 0) hm d0 d1, Int.add_zero, fm hm, Int.emod_eq_of_lt h0 h1]
  intro f
  induction f with
  | zero =>
    intro k h d h0 h1 d0 d1
    show (if d = h then (1 : Int) else 0) = if (d - h).fmod m = 0 then 1 else 0
    simp only [z h d h0 h1 d0 d1]
  | succ f ih =>
    intro k h d h0 h1 d0 d1
    show (if d = h then (1 : Int) else 0) + _ = (if (d - h).fmod m = 0 then 1 else 0) + _
    simp only [z h d h0 h1 d0 d1]
    congr 2
    apply List.map_congr_left
    intro p _
    have q := fmod_lt' (a := h + p.1) hm
    rw [ih p.2 _ d q.1 q.2 d0 d1]
    congr 1
    rw [fm hm, fm hm, fm hm, fm hm, Int.sub_emod, Int.emod_emod, ← Int.sub_emod, Int.sub_emod ((d - h) % m), Int.emod_emod, ← Int.sub_emod, show d - (h + p.1) = d - h - p.1 by omega]
/-- rows of counts as spread has laid them -/
def RowsAt (m : Int) (R : Rules) (H : Hp) (b : Addr) (f : Nat) : Prop := ∃ xs : List Addr, H b = some (.lst (xs.map V.ref)) ∧ xs.length = R.length ∧ ∀ (k : Nat) (x : Addr), xs[k]? = some x → H x = some (.lst (fl m (cn m R f k)))
theorem RowsAt.same {m : Int} {R : Rules} {H H' : Hp} {b : Addr} {f : Nat} (r : RowsAt m R H b f) (k : Same H H') : RowsAt m R H' b f :=
  let ⟨xs, e, l, q⟩ := r
  ⟨xs, k _ _ e, l, fun i x h => k _ _ (q i x h)⟩
def spSpread (C : Addr) : Sp := fun vs H Q _ => ∃ (N : Addr → Prop) (a q b : Addr) (m : Int) (vr : V) (ps : List (Int × Int)) (R : Rules) (f : Nat), vs = [.ref a, .ref q, .ref b] ∧ WorksAt C H a (.int m) vr ∧ 1 ≤ m ∧ m ≤ 6 ∧ Rp N H (.ref q) (ruleD ps) ∧ (ps = [] ∨ (RowsAt m R H b f ∧ ∀ p ∈ ps, 0 ≤ p.2 ∧ p.2 < R.length)) ∧
  ∀ (L : Addr) (H' : Hp), H L = none → Same H H' → H' L = some (.lst (fl m fun d => (if d = 0 then 1 else 0) + (ps.map fun p => cn m R f p.2 ((d - p.1).fmod m)).sum)) → Q (.ref L) H'
section
variable {P : Program} {w : World} {K : PySem.W.Frag} {mg : Str → Option Value} {base : Heap} {t4 : Tok} {C : Addr}
end
end KQ
set_option Elab.async false
set_option maxRecDepth 100000
set_option maxHeartbeats 4000000
namespace KQ
open PySem PySem.Spec PyProof.Rows L2
theorem maxf {ns : List Int} {m : Int} (h0 : ∀ y ∈ ns, 0 ≤ y) (hm : m ∈ ns) (h : ∀ y ∈ ns, y ≤ m) : ns.foldl max 0 = m := by
  have g : ∀ (l : List Int) (z : Int), z ≤ l.foldl max z ∧ (∀ y ∈ l, y ≤ l.foldl max z) ∧ (l.foldl max z = z ∨ l.foldl max z ∈ l) := by
    intro l
    induction l with
    | nil => intro z; exact ⟨Int.le_refl _, (fun _ h => nomatch h), Or.inl rfl⟩
    | cons a l ih =>
      intro z
      obtain ⟨i1, i2, i3⟩ := ih (max z a)
      have l1 : z ≤ max z a := Int.le_max_left z a
      have l2 : a ≤ max z a := Int.le_max_right z a
      refine ⟨Int.le_trans l1 i1, fun y hy => ?_, ?_⟩
      · rcases List.mem_cons.mp hy with rfl | hy
        · exact Int.le_trans l2 i1
        · exact i2 y hy
      · rcases i3 with i3 | i3
        · rw [List.foldl_cons, i3]
          by_cases c : z ≤ a
          · exact .inr (by rw [Int.max_eq_right c]; exact List.mem_cons_self)
          · exact .inl (Int.max_eq_left (by omega))
        · exact .inr (List.mem_cons_of_mem _ i3)
  obtain ⟨g1, g2, g3⟩ := g ns 0
  have a1 := g2 m hm
  have a2 : ns.foldl max 0 ≤ m := by
    rcases g3 with e | e
    · rw [e]; exact h0 m hm
    · exact h _ e
  omega
theorem lg_pos {R : Rules} : ∀ (f : Nat) (k : Int), 0 ≤ lg R f k
  | 0, _ => by show (0 : Int) ≤ 1; decide
  | f + 1, k => by
    have g : ∀ (l : List Int) (z : Int), 0 ≤ z → 0 ≤ l.foldl max z := by
      intro l
      induction l with
      | nil => intro z h; exact h
      | cons a l ih => intro z h; exact ih _ (Int.le_trans h (Int.le_max_left z a))
    have := g ((kin R k).map fun p => lg R f p.2) 0 (Int.le_refl 0)
    show 0 ≤ 1 + _
    omega
theorem fl_app {n i : Nat} {g : Int → Int} (h : i < n) : (fl (n : Int) g)[i]? = some (.int (g i)) := fl_get (by omega)
/-- a task of these works -/
def spTaskX (C CT : Addr) (g : Rules → Nat → Int → Int) : Sp := fun vs H Q E => ∃ (N : Addr → Prop) (a r : Addr) (vm v : V) (m : Int) (R : Rules) (dt : PyData), vs = [.ref a, v] ∧ WorksAt C H a vm (.ref r) ∧ Rp N H (.ref r) (rulesD R) ∧ OkWorks m R ∧ Rp N H v dt ∧
  (isPair R.length 13 dt = false → E (.ref CT) none H) ∧ (∀ k f, dt = .tuple [.int k, .int f] → isPair R.length 13 dt = true → ∀ H', Same H H' → Q (.int (g R f.toNat k)) H')
section
variable {P : Program} {w : World} {K : PySem.W.Frag} {mg : Str → Option Value} {base : Heap} {t4 : Tok} {C CH CT : Addr}
end
end KQ
set_option Elab.async false
set_option maxRecDepth 100000
set_option maxHeartbeats 4000000
namespace KQ
open PySem PySem.Spec PyProof.Rows L2
/-- rows on their way -/
def RowsUp (m : Int) (R : Rules) (H : Hp) (E : Addr) (f j : Nat) : Prop := ∃ ys : List Addr, H E = some (.lst (ys.map V.ref)) ∧ ys.length = j ∧ ∀ (k : Nat) (x : Addr), ys[k]? = some x → x ≠ E ∧ H x = some (.lst (fl m (cn m R f k)))
theorem RowsUp.at_ {m : Int} {R : Rules} {H : Hp} {E : Addr} {f : Nat} (r : RowsUp m R H E f R.length) : RowsAt m R H E f :=
  let ⟨ys, e, l, q⟩ := r
  ⟨ys, e, l, fun k x h => (q k x h).2⟩
theorem RowsUp.snoc {m : Int} {R : Rules} {H H' : Hp} {E L : Addr} {f j : Nat} (r : RowsUp m R H E f j) (s : Same H H') (nL : L ≠ E) (eL : H' L = some (.lst (fl m (cn m R f j)))) :
    ∃ acc, H' E = some (.lst acc) ∧ acc.length = j ∧ RowsUp m R (upd H' E (.lst (acc ++ [.ref L]))) E f (j + 1) := by
  obtain ⟨ys, e, l, q⟩ := r
  refine ⟨_, s _ _ e, by rw [List.length_map, l], ys ++ [L], by rw [upd_same, List.map_append] <;> rfl, by rw [List.length_append, l] <;> rfl, fun k x h => ?_⟩
  by_cases hk : k < ys.length
  · rw [List.getElem?_append_left hk] at h
    obtain ⟨h1, h2⟩ := q k x h
    exact ⟨h1, by rw [upd_ne h1]; exact s _ _ h2⟩
  · rw [List.getElem?_append_right (by omega)] at h
    have e0 : k - ys.length = 0 := by
      rcases Nat.eq_zero_or_pos (k - ys.length) with z | z
      · exact z
      · rw [List.getElem?_eq_none (by show 1 ≤ _; omega)] at h
        cases h
    rw [e0] at h
    cases h
    have ek : k = j := by omega
    subst ek
    exact ⟨nL, by rw [upd_ne nL]; exact eL⟩
def spTasksOf (C CH CT : Addr) : Sp := fun vs H Q E => ∃ (N : Addr → Prop) (a r : Addr) (m : Int) (R : Rules) (v v' : V) (dh dt : PyData), vs = [.ref a, v, v'] ∧ WorksAt C H a (.int m) (.ref r) ∧ OkWorks m R ∧ Rp N H (.ref r) (rulesD R) ∧ Rp N H v dh ∧ Rp N H v' dt ∧
  (below m dh = false → E (.ref CH) none H) ∧ (below m dh = true → isPair R.length 13 dt = false → E (.ref CT) none H) ∧
  (∀ h k f, dh = .int h → dt = .tuple [.int k, .int f] → below m dh = true → isPair R.length 13 dt = true → ∀ T H', H T = none → Same H H' → H' T = some (.tup (fl m (lc m R f.toNat k h))) → Q (.ref T) H')
section
variable {P : Program} {w : World} {K : PySem.W.Frag} {mg : Str → Option Value} {base : Heap} {C CH CT : Addr}
end
end KQ
set_option Elab.async false
set_option maxRecDepth 100000
set_option maxHeartbeats 4000000
namespace KQ
open PySem PySem.Spec PyProof.Rows L2
/-! ### sums over the houses -/
def fs (m : Int) (g : Int → Int) : Int := ((List.range m.toNat).map fun (d : Nat) => g (d : Int)).sum
theorem fl_ints {m : Int} {g : Int → Int} : fl m g = ((List.range m.toNat).map fun (d : Nat) => g (d : Int)).map V.int := by
  rw [List.map_map]
  rfl
theorem lsum_add {α : Type} {f g : α → Int} : ∀ l : List α, (l.map fun x => f x + g x).sum = (l.map f).sum + (l.map g).sum
  | [] => rfl
  | x :: l => by
    simp only [List.map_cons, List.sum_cons, lsum_add l]
    omega
theorem fs_add {m : Int} {f g : Int → Int} : fs m (fun d => f d + g d) = fs m f + fs m g := lsum_add _
theorem fs_zero {m : Int} : fs m (fun _ => 0) = 0 := by
  unfold fs
  induction m.toNat with
  | zero => rfl
  | succ n ih =>
    rw [List.range_succ, List.map_append, List.sum_append, ih]
    rfl
theorem fs_list {α : Type} {m : Int} {F : α → Int → Int} : ∀ l : List α, fs m (fun d => (l.map fun p => F p d).sum) = (l.map fun p => fs m (F p)).sum
  | [] => fs_zero
  | p :: l => by
    simp only [List.map_cons, List.sum_cons]
    rw [fs_add, fs_list l]
theorem fs_one {m h : Int} (h0 : 0 ≤ h) (h1 : h < m) : fs m (fun d => if d = h then 1 else 0) = 1 := by
  unfold fs
  have g : ∀ n : Nat, ((List.range n).map fun (d : Nat) => if (d : Int) = h then (1 : Int) else 0).sum = if h < n then 1 else 0 := by
    intro n
    induction n with
    | zero => rw [if_neg (by omega)]; rfl
    | succ n ih =>
      rw [List.range_succ, List.map_append, List.sum_append, ih]
      show _ + ((if (n : Int) = h then (1 : Int) else 0) + 0) = _
      by_cases c : (n : Int) = h
      · rw [if_pos c, if_neg (show ¬ h < (n : Int) by omega), if_pos (show h < ((n + 1 : Nat) : Int) by omega)]
        rfl
      · rw [if_neg c]
        by_cases e : h < (n : Int)
        · rw [if_pos e, if_pos (show h < ((n + 1 : Nat) : Int) by omega)]
          rfl
        · rw [if_neg e, if_neg (show ¬ h < ((n + 1 : Nat) : Int) by omega)]
          rfl
  rw [g, if_pos (by omega)]
theorem fs_lc {m : Int} {R : Rules} (hm : 0 < m) : ∀ (f : Nat) (k h : Int), 0 ≤ h → h < m → fs m (lc m R f k h) = tot R f k
  | 0, k, h, h0, h1 => fs_one h0 h1
  | f + 1, k, h, h0, h1 => by
    show fs m (fun d => (if d = h then 1 else 0) + ((kin R k).map fun p => lc m R f p.2 ((h + p.1).fmod m) d).sum) = 1 + _
    rw [fs_add, fs_one h0 h1, fs_list (F := fun (p : Int × Int) d => lc m R f p.2 ((h + p.1).fmod m) d)]
    congr 2
    apply List.map_congr_left
    intro p _
    have q := fmod_lt' (a := h + p.1) hm
    exact fs_lc hm f p.2 _ q.1 q.2
theorem tot_pos {R : Rules} : ∀ (f : Nat) (k : Int), 1 ≤ tot R f k
  | 0, _ => by show (1 : Int) ≤ 1; decide
  | f + 1, k => by
    have g : ∀ l : List (Int × Int), 0 ≤ (l.map fun p => tot R f p.2).sum := by
      intro l
      induction l with
      | nil => exact Int.le_refl 0
      | cons p l ih =>
        have := tot_pos (R := R) f p.2
        rw [List.map_cons, List.sum_cons]
        omega
    have := g (kin R k)
    show 1 ≤ 1 + _
    omega
theorem fl_const {n : Nat} {c : Int} : (List.replicate n [V.int c]).flatten = fl (n : Int) fun _ => c := by
  unfold fl
  rw [Int.toNat_natCast]
  induction n with
  | zero => rfl
  | succ n ih => rw [List.replicate_succ, List.flatten_cons, ih, List.range_succ_eq_map, List.map_cons, List.map_map] <;> rfl
def spLawLong : Sp := fun vs H Q _ => ∃ (N : Addr → Prop) (r t : Addr) (m k : Int) (f : Nat) (R : Rules), vs = [.ref r, .ref t] ∧ Rp N H (.ref r) (rulesD R) ∧ OkWorks m R ∧ H t = some (.tup [.int k, .int (f : Int)]) ∧ (0 ≤ k ∧ k < R.length) ∧ f ≤ 12 ∧ ∀ H', Same H H' → Q (.int (lg R f k)) H'
def spLawTask2 : Sp := fun vs H Q _ => ∃ (h l r : Addr) (rs : List V) (o : Int), vs = [.ref h, .ref r, .int o] ∧ HandOk H h l ∧ H r = some (.tup rs) ∧ 0 < rs.length ∧ rs.length ≤ 1000 ∧ 0 ≤ o ∧ o ≤ 1000 ∧
  ∀ (T : Addr) (i j : Int) (H' : Hp), HandOk H' h l → Kp (Nh h) H H' → 0 ≤ i → i < rs.length → 0 ≤ j → j ≤ o → H' T = some (.tup [.int i, .int j]) → T ≠ h → Q (.ref T) H'
section
variable {P : Program} {w : World} {K : PySem.W.Frag} {mg : Str → Option Value} {base : Heap}
theorem d_law_task2 (B : Bi mg) (F : FunAt K mg "_law_task" s_law_task) (D_law_take : Has P w K mg base 1 "_law_take" ["hand", "many"] spTake) : Has P w K mg base 2 "_law_task" ["hand", "rules", "most"] spLawTask2 := by
  refine mk_has F sc_law_task (fun _ _ _ _ _ _ us hl => match us, hl with | [_, _, _], _ => rfl) (fun vs H Q E h => ?_) fun f cdv A outer s H vs Q E hr h => ?_
  · obtain ⟨h, l, r, rs, o, rfl, _⟩ := h
    rfl
  obtain ⟨h, l, r, rs, o, rfl, ho, er, r0, r1, o0, o1, k⟩ := h
  refine ⟨_, (pss_one (ps_ret (pe_tup (pa_cons (pe_h D_law_take (hr.mono (by decide)) rfl (pa_cons (pv 0) (pa_cons (pe_callB call_len_seq rfl B.len PySem.boot_len (pa_cons (pv 1) pa_nil)) pa_nil))) (pa_cons (pe_h D_law_take (hr.mono (by decide)) rfl (pa_cons (pv 0) (pa_cons (pe_op op_add (pv 2) pe_int) pa_nil))) pa_nil))))), ?_⟩
  refine ⟨_, rfl, _, rfl, _, _, rfl, .inr (SqT.of er), h, l, _, rfl, ho, by omega, by omega, fun i H1 i0 i1 ho1 k1 => ?_⟩
  refine ⟨_, rfl, _, rfl, _, _, rfl, rfl, h, l, _, rfl, ho1, by omega, by omega, fun j H2 j0 j1 ho2 k2 => ?_⟩
  refine ⟨(by show 2 ≤ sizeLine; decide), fun T nT => ?_⟩
  exact k T i j _ (ho2.new nT) (((Kp.hand k1).trans (Kp.hand k2)).hn nT) i0 i1 j0 (by omega) upd_same (ho2.ne nT)
end
end KQ
set_option Elab.async false
set_option maxRecDepth 100000
set_option maxHeartbeats 4000000
namespace KQ
open PySem PySem.Spec PyProof.Rows L2
/-! ### given tasks -/
def areT (n : Int) : PyData → Bool
  | .tuple ds => ds.all (isPair n 13)
  | _ => false
def isGiven (n : Int) : PyData → Bool
  | .tuple ds => ds.all (isPair n 13) && decide (ds.length ≤ 20)
  | _ => false
/-- not too long to be looked at -/
def Short (d : PyData) : Prop := ∀ ds, d = .tuple ds → ds.length ≤ 1000
def spAreTasks (C : Addr) : Sp := fun vs H Q _ => ∃ (N : Addr → Prop) (a r : Addr) (vm v : V) (rs : List V) (d : PyData), vs = [.ref a, v] ∧ WorksAt C H a vm (.ref r) ∧ H r = some (.tup rs) ∧ Rp N H v d ∧ Short d ∧ ∀ H', Same H H' → Q (.bl (areT rs.length d)) H'
def spIsGiven (C : Addr) : Sp := fun vs H Q _ => ∃ (N : Addr → Prop) (a r : Addr) (vm v : V) (rs : List V) (d : PyData), vs = [.ref a, v] ∧ WorksAt C H a vm (.ref r) ∧ H r = some (.tup rs) ∧ Rp N H v d ∧ Short d ∧ ∀ H', Same H H' → Q (.bl (isGiven rs.length d)) H'
def spCheckGiven (C CN : Addr) : Sp := fun vs H Q E => ∃ (N : Addr → Prop) (a r : Addr) (vm v : V) (rs : List V) (d : PyData), vs = [.ref a, v] ∧ WorksAt C H a vm (.ref r) ∧ H r = some (.tup rs) ∧ Rp N H v d ∧ Short d ∧
  (isGiven rs.length d = false → ∀ H', Same H H' → E (.ref CN) none H') ∧ (isGiven rs.length d = true → ∀ H', Same H H' → Q .non H')
section
variable {P : Program} {w : World} {K : PySem.W.Frag} {mg : Str → Option Value} {base : Heap} {t5 : Tok} {C CN : Addr}
theorem d_are_tasks (B : Bi mg) (F : FunAt K mg "are_tasks" s_are_tasks) (D_is_task : Has P w K mg base 3 "is_task" ["works", "thing"] (spIsTask C)) : Has P w K mg base 4 "are_tasks" ["works", "thing"] (spAreTasks C) := by
  refine mk_has F sc_are_tasks (fun _ _ _ _ _ _ us hl => match us, hl with | [_, _], _ => rfl) (fun vs H Q E h => ?_) fun f cdv A outer s H vs Q E hr h => ?_
  · obtain ⟨N, a, r, vm, v, rs, d, rfl, _⟩ := h
    rfl
  obtain ⟨N, a, r, vm, v, rs, d, rfl, ha, er, rd, hs, k⟩ := h
  refine ⟨_, (pss_one (ps_ret (pe_and (pe_callB call_isi rfl B.isinstance (by decide +kernel) (pa_cons (pv 1) (pa_cons (pe_bltn (v := .ty "tuple") rfl B.tuple (by decide +kernel) rfl) pa_nil))) (pe_one (pe_callB (cr_all rfl) rfl B.all (by decide +kernel) (pa_cons (pe_lc (own := [("item", 2)]) (g := gName 2) (tt := tYes) (te := (tCall (spIsTask C) [] E0 (tCons (tVar 0) (tCons (tVar 2) tNil)))) rfl sc_are_tasks.nd (pi_tup (pv 1)) (blkOk_by (own := [("item", 2)]) (N := ["works", "thing", "item"]) (sc := defScope s_are_tasks) (by decide +kernel)) (fun _ _ _ _ _ => (pg_name (i := 2) sc_are_tasks.nd rfl (Or.inl rfl))) (fun _ _ _ _ _ => pts_nil) (fun _ _ _ _ _ => (pe_h D_is_task (hr.mono (by decide)) rfl (pa_cons (pv 0) (pa_cons (pv 2) pa_nil))))) pa_nil)))))), ?_⟩
  refine ⟨_, rfl, _, _, _, _, _, rfl, .ty "tuple", rd.ty, kit_tuple d, _, rfl, ?_⟩
  have k0 := k H (Same.refl H)
  cases d with
  | tuple ds =>
    cases rd with
    | @tup p xs _ e no ra =>
    have hlen := hs ds rfl
    refine ifT rfl ⟨_, rfl, _, rfl, ⟨xs, SqT.of e⟩, fun D nD => lc_tup (K := K) (a := p) (xs := xs) (fun i H' => Same H H' ∧ H' D = some (.lst ((ds.take i).map fun d => .bl (isPair rs.length 13 d)))) ⟨same_new nD, upd_same⟩ (fun i H' _ z => SqT.of (z.1 _ _ e)) (fun i x H' hx z => ?_) fun H' z => ?_⟩
    · obtain ⟨d, md, gd, rd⟩ := ra.at_ hx
      refine ⟨rfl, ?_⟩
      refine tYes_ok ?_
      rw [if_pos rfl]
      refine ⟨_, rfl, _, rfl, N, a, r, vm, x, rs, d, rfl, ha.same z.1, z.1 _ _ er, rd.to (Kp.of_same z.1), _, z.2, ?_, ?_, ?_⟩
      · rw [List.length_map, List.length_take]
        exact Nat.lt_of_le_of_lt (Nat.le_trans (Nat.min_le_right _ _) hlen) (by decide)
      · exact fun b o q => by rw [upd_ne (ne_of_none q nD)]; exact z.1 b o q
      · rw [upd_same, map_take gd]
    · refine ⟨D, ds.map (isPair rs.length 13), rfl, SqL.of ?_, okB ?_ (k H' z.1)⟩
      · rw [z.2, List.map_map, ra.length, List.take_length]
        rfl
      · simp [areT, List.all_map]
  | bool b => exact ifF rfl k0
  | int b => exact ifF rfl k0
  | none => exact ifF rfl k0
  | str x => exact ifF rfl k0
  | list x => exact ifF rfl k0
  | dict x => exact ifF rfl k0
theorem d_is_given (B : Bi mg) (F : FunAt K mg "is_given" s_is_given) (g_MOST_GIVEN : mg "MOST_GIVEN" = some (.int 20 t5)) (D_are_tasks : Has P w K mg base 4 "are_tasks" ["works", "thing"] (spAreTasks C)) : Has P w K mg base 5 "is_given" ["works", "thing"] (spIsGiven C) := by
  refine mk_has F sc_is_given (fun _ _ _ _ _ _ us hl => match us, hl with | [_, _], _ => rfl) (fun vs H Q E h => ?_) fun f cdv A outer s H vs Q E hr h => ?_
  · obtain ⟨N, a, r, vm, v, rs, d, rfl, _⟩ := h
    rfl
  obtain ⟨N, a, r, vm, v, rs, d, rfl, ha, er, rd, hs, k⟩ := h
  refine ⟨_, (pss_one (ps_ret (pe_and (pe_h D_are_tasks (hr.mono (by decide)) rfl (pa_cons (pv 0) (pa_cons (pv 1) pa_nil))) (pe_one (pe_cmpR op_le (pe_callB call_len_seq rfl B.len PySem.boot_len (pa_cons (pv 1) pa_nil)) (pe_glob (v := .int 20) rfl g_MOST_GIVEN ⟨_, rfl⟩) (nomark _)))))), ?_⟩
  refine ⟨_, rfl, _, rfl, N, a, r, vm, v, rs, d, rfl, ha, er, rd, hs, fun H1 s1 => ⟨_, rfl, ?_⟩⟩
  have k1 := k H1 s1
  cases d with
  | tuple ds =>
    cases rd with
    | @tup p xs _ e no ra =>
    cases c : ds.all (isPair rs.length 13) with
    | false => exact ifF c (okB (by simp only [isGiven, c]; rfl) k1)
    | true => exact ifT c ⟨_, rfl, p, xs, rfl, .inr (SqT.of (s1 _ _ e)), _, _, rfl, rfl, okB (by simp only [isGiven, c, Bool.true_and]; rw [ra.length]; simp; omega) k1⟩
  | bool b => exact ifF rfl k1
  | int b => exact ifF rfl k1
  | none => exact ifF rfl k1
  | str x => exact ifF rfl k1
  | list x => exact ifF rfl k1
  | dict x => exact ifF rfl k1
theorem d_check_given (x_NoGiven : ExcAt K mg "NoGiven" CN) (F : FunAt K mg "check_given" s_check_given) (D_is_given : Has P w K mg base 5 "is_given" ["works", "thing"] (spIsGiven C)) : HasX P w K mg base 6 "check_given" ["works", "given"] (spCheckGiven C CN) := by
  refine mk_hasX F sc_check_given (fun _ _ _ _ _ _ us hl => match us, hl with | [_, _], _ => rfl) (fun vs H Q E h => ?_) fun f cdv A outer s H vs Q E hr h => ?_
  · obtain ⟨N, a, r, vm, v, rs, d, rfl, _⟩ := h
    rfl
  obtain ⟨N, a, r, vm, v, rs, d, rfl, ha, er, rd, hs, k1, k2⟩ := h
  refine ⟨_, (pss_one (ps_if (pt_not (pt_val (pe_h D_is_given (hr.mono (by decide)) rfl (pa_cons (pv 0) (pa_cons (pv 1) pa_nil)))))
    (pss_one (ps_rz rfl (takes_of rfl rfl rfl rfl) x_NoGiven rfl))
    pss_nil)), ?_⟩
  refine ⟨_, rfl, _, rfl, N, a, r, vm, v, rs, d, rfl, ha, er, rd, hs, fun H1 s1 => ⟨_, rfl, ?_⟩⟩
  cases e : isGiven rs.length d with
  | true => exact ifF rfl (k2 e H1 s1)
  | false => exact ifT rfl (k1 e H1 s1)
end
/-! ### tasks given, as data -/
abbrev Tsk := Int × Nat
def tskD (p : Tsk) : PyData := .tuple [.int p.1, .int (p.2 : Int)]
def spManyAll (C : Addr) : Sp := fun vs H Q _ => ∃ (N : Addr → Prop) (a r g : Addr) (vm : V) (m : Int) (R : Rules) (ts : List Tsk), vs = [.ref a, .ref g] ∧ WorksAt C H a vm (.ref r) ∧ Rp N H (.ref r) (rulesD R) ∧ OkWorks m R ∧ Rp N H (.ref g) (.tuple (ts.map tskD)) ∧ ts.length ≤ 1000 ∧ (∀ p ∈ ts, (0 ≤ p.1 ∧ p.1 < R.length) ∧ p.2 ≤ 12) ∧
  ∀ H', Same H H' → Q (.int (ts.map fun p => tot R p.2 p.1).sum) H'
/-- bags of waiting tasks, one a house -/
def spLeast : Sp := fun vs H Q _ => ∃ (b : Addr) (bs : List Addr) (xss : List (List V)), vs = [.ref b] ∧ H b = some (.lst (bs.map V.ref)) ∧ bs.length = xss.length ∧ (∀ (i : Nat) (x : Addr) (xs : List V), bs[i]? = some x → xss[i]? = some xs → H x = some (.lst xs)) ∧
  (∀ (i : Nat) (xs : List V) (H' : Hp), xss[i]? = some xs → xs ≠ [] → (∀ (j : Nat) (ys : List V), j < i → xss[j]? = some ys → ys = []) → Same H H' → Q (.int (i : Int)) H') ∧ ((∀ xs ∈ xss, xs = []) → ∀ H', Same H H' → Q .non H')
section
variable {P : Program} {w : World} {K : PySem.W.Frag} {mg : Str → Option Value} {base : Heap} {C CN : Addr}
set_option maxHeartbeats 8000000 in
theorem d_many_of_all (B : Bi mg) (F : FunAt K mg "many_of_all" s_many_of_all) (D_many_by_fuel : Has P w K mg base 1 "many_by_fuel" ["works"] (spRows C)) : Has P w K mg base 2 "many_of_all" ["works", "tasks"] (spManyAll C) := by
  refine mk_has F sc_many_of_all (fun _ _ _ _ _ _ us hl => match us, hl with | [_, _], _ => rfl) (fun vs H Q E h => ?_) fun f cdv A outer s H vs Q E hr h => ?_
  · obtain ⟨N, a, r, g, vm, m, R, ts, rfl, _⟩ := h
    rfl
  obtain ⟨N, a, r, g, vm, m, R, ts, rfl, ha, rr, ok, rg, hl, ht, k⟩ := h
  refine ⟨_, (pss_cons (ps_set (i := 2) sc_many_of_all.nd rfl (Or.inr rfl) (pe_h D_many_by_fuel (hr.mono (by decide)) rfl (pa_cons (pv 0) pa_nil)))
    (pss_one (ps_ret (pe_callB (cr_sum rfl) rfl B.sum (by decide +kernel) (pa_cons (pe_lc (own := [("kind", 3), ("fuel", 4)]) (g := gTup K 2 (gCons (gName 3) (gCons (gName 4) gNil))) (tt := tYes) (te := (tOp (rIxL K) (tOp (rIxL K) (tVar 2) (tVar 4)) (tVar 3))) rfl sc_many_of_all.nd (pi_tup (pv 1)) (blkOk_by (own := [("kind", 3), ("fuel", 4)]) (N := ["works", "tasks", "rows", "kind", "fuel"]) (sc := defScope s_many_of_all) (by decide +kernel)) (fun _ _ _ _ _ => (pg_tup rfl (pgs_cons (pg_name (i := 3) sc_many_of_all.nd rfl (Or.inl rfl)) (pgs_cons (pg_name (i := 4) sc_many_of_all.nd rfl (Or.inl rfl)) pgs_nil)))) (fun _ _ _ _ _ => pts_nil) (fun _ _ _ _ _ => (pe_ix ix_list (pe_ix ix_list (pv 2) (pv 4) (fun _ _ => rfl)) (pv 3) (fun _ _ => rfl)))) pa_nil))))), ?_⟩
  cases rg with
  | @tup _ xs _ eg ng ra =>
  have hx : xs.length = ts.length := ra.length.trans (List.length_map _)
  refine ⟨_, rfl, N, a, r, vm, m, R, rfl, ha, rr, ok, fun L rows H1 s1 eL lr hrow => ?_⟩
  refine ⟨_, rfl, g, rfl, ⟨xs, SqT.of (s1 _ _ eg)⟩, fun D nD => ?_⟩
  refine lc_tup (K := K) (a := g) (xs := xs) (fun i H' => Same H1 H' ∧ H' D = some (.lst ((ts.take i).map fun p => .int (tot R p.2 p.1)))) ⟨same_new nD, upd_same⟩ (fun i H' _ z => SqT.of (z.1 _ _ (s1 _ _ eg))) (fun i y H' hy z => ?_) fun H' z => ?_
  · obtain ⟨sj, eD⟩ := z
    obtain ⟨d, gd, rd⟩ := ra.get hy
    rw [List.getElem?_map] at gd
    obtain ⟨p, gp, rfl⟩ := Option.map_eq_some_iff.mp gd
    have hp := ht p (List.mem_of_getElem? gp)
    cases rd with
    | @tup b ys _ eb nb ry =>
    cases ry with
    | cons q1 ry =>
    cases ry with
    | cons q2 ry =>
    cases ry
    cases q1
    cases q2
    obtain ⟨x, hxr⟩ : ∃ x, rows[p.2]? = some x := ⟨_, List.getElem?_eq_getElem (by omega)⟩
    have ex := hrow _ _ hxr
    have hat : atI (rows.map V.ref) (p.2 : Int) = some (.ref x) := atI_nat (by rw [List.getElem?_map, hxr]; rfl)
    refine ⟨_, _, rfl, SqT.of (sj _ _ (s1 _ _ eb)), rfl, _, _, rfl, _, _, rfl, rfl, rfl, ?_⟩
    refine tYes_ok ?_
    rw [if_pos rfl]
    refine ⟨_, rfl, _, rfl, L, _, _, _, rfl, rfl, SqL.of (sj _ _ eL), hat, _, rfl, x, _, _, _, rfl, rfl, SqL.of (sj _ _ ex), fl_at hp.1.1 hp.1.2, _, eD, ?_, fun b o q => by rw [upd_ne (ne_of_none q nD)]; exact sj b o q, ?_⟩
    · rw [List.length_map, List.length_take]
      exact Nat.lt_of_le_of_lt (Nat.le_trans (Nat.min_le_right _ _) hl) (by decide)
    · rw [upd_same, map_take gp]
  · obtain ⟨sj, eD⟩ := z
    rw [hx, List.take_length] at eD
    exact ⟨D, ts.map fun p => tot R p.2 p.1, rfl, SqL.of (by rw [eD, List.map_map]; rfl), k H' (s1.trans sj)⟩
end
end KQ
set_option Elab.async false
set_option maxRecDepth 100000
set_option maxHeartbeats 4000000
namespace KQ
open PySem PySem.Spec PyProof.Rows L2
section
variable {P : Program} {w : World} {K : PySem.W.Frag} {mg : Str → Option Value} {base : Heap}
theorem d_least_busy (B : Bi mg) (F : FunAt K mg "least_busy" s_least_busy) : Has P w K mg base 1 "least_busy" ["bags"] spLeast := by
  refine mk_has F sc_least_busy (fun _ _ _ _ _ _ us hl => match us, hl with | [_], _ => rfl) (fun vs H Q E h => ?_) fun f cdv A outer s H vs Q E hr h => ?_
  · obtain ⟨b, bs, xss, rfl, _⟩ := h
    rfl
  obtain ⟨b, bs, xss, rfl, eb, hl, hbag, k1, k2⟩ := h
  refine ⟨_, (pss_cons (ps_for PassesOwn.never rfl (pi_enum rfl B.enumerate (pa_cons (pv 0) pa_nil)) (pg_tup rfl (pgs_cons (pg_name (i := 1) sc_least_busy.nd rfl (Or.inl rfl)) (pgs_cons (pg_name (i := 2) sc_least_busy.nd rfl (Or.inl rfl)) pgs_nil)))
    (pss_one (ps_if (pt_cmpR op_gt (pe_callB call_len_seq rfl B.len PySem.boot_len (pa_cons (pv 2) pa_nil)) pe_int (nomark _))
    (pss_one (ps_ret (pv 1)))
    pss_nil)))
    (pss_one (ps_ret pe_non))), ?_⟩
  refine ⟨_, rfl, b, _, rfl, SqL.of eb, for_el (K := K) (a := b) (xs := bs.map V.ref) (fun i σ H' => ∃ v1 v2, σ = [some (.ref b), v1, v2] ∧ Same H H' ∧ ∀ (j : Nat) (ys : List V), j < i → xss[j]? = some ys → ys = []) ⟨_, _, rfl, Same.refl H, fun _ _ z => absurd z (Nat.not_lt_zero _)⟩ (fun i σ H' ⟨_, _, _, e, _⟩ => SqL.of (e _ _ eb)) ?_ ?_⟩
  · rintro i x T σ H1 hx ⟨v1, v2, rfl, s1, hz⟩ nT
    rw [List.getElem?_map] at hx
    obtain ⟨y, hy, rfl⟩ := Option.map_eq_some_iff.mp hx
    have hi : i < bs.length := (List.getElem?_eq_some_iff.mp hy).1
    obtain ⟨xs, hxs⟩ : ∃ xs, xss[i]? = some xs := ⟨_, List.getElem?_eq_getElem (by omega)⟩
    have s2 := s1.trans (same_new (o := .tup [.int (i : Nat), .ref y]) nT)
    have ey := s2 _ _ (hbag i y xs hy hxs)
    refine ⟨_, _, rfl, SqT.of upd_same, rfl, _, _, rfl, _, _, rfl, rfl, ?_⟩
    refine ⟨_, rfl, y, xs, rfl, .inl (SqL.of ey), _, _, rfl, rfl, _, rfl, ?_⟩
    cases xs with
    | nil =>
      refine ifF rfl ⟨_, _, rfl, s2, fun j ys hj hjs => ?_⟩
      by_cases e : j = i
      · subst e
        rw [hxs] at hjs
        cases hjs
        rfl
      · exact hz j ys (by omega) hjs
    | cons z zs => exact ifT (decide_eq_true (by rw [List.length_cons]; omega)) ⟨_, rfl, k1 i _ _ hxs (fun z => nomatch z) hz s2⟩
  · rintro σ H1 ⟨v1, v2, rfl, s1, hz⟩
    refine k2 (fun xs hx => ?_) H1 s1
    obtain ⟨i, hi⟩ := List.mem_iff_getElem?.mp hx
    have : i < xss.length := (List.getElem?_eq_some_iff.mp hi).1
    exact hz i xs (by rw [List.length_map]; omega) hi
end
end KQ
set_option Elab.async false
set_option maxRecDepth 100000
set_option maxHeartbeats 4000000
namespace KQ
open PySem PySem.Spec PyProof.Rows L2
/-! ### runs as lists -/
/-- what a done task sends -/
def kidsT (m : Int) (R : Rules) (h : Int) (t : Tsk) : List (Int × Tsk) := match t.2 with
  | 0 => []
  | g + 1 => (kin R t.1).map fun p => ((h + p.1).fmod m, (p.2, g))
def itemD (x : Int × Tsk) : PyData := .tuple [.int x.1, tskD x.2]
theorem sentD_kids {m : Int} {R : Rules} {h : Int} {t : Tsk} : sentD m R h t.1 (t.2 : Int) = (kidsT m R h t).map itemD := by
  obtain ⟨k, f⟩ := t
  unfold sentD kidsT
  cases f with
  | zero => rfl
  | succ g =>
    show (if ((g + 1 : Nat) : Int) = 0 then _ else _) = _
    rw [if_neg (by omega), List.map_map]
    refine List.map_congr_left fun p _ => ?_
    show sentI m h ((g + 1 : Nat) : Int) p = itemD _
    simp only [sentI, itemD, tskD]
    rw [show (((g + 1 : Nat) : Int) - 1) = (g : Int) by omega]
abbrev Bags := List (List Tsk)
def push (B : Bags) (x : Int × Tsk) : Bags := B.set x.1.toNat (B.getD x.1.toNat [] ++ [x.2])
def least : Bags → Option Nat
  | [] => none
  | [] :: B => (least B).map (· + 1)
  | (_ :: _) :: _ => some 0
theorem least_none : ∀ {B : Bags}, (∀ xs ∈ B, xs = []) → least B = none
  | [], _ => rfl
  | [] :: B, h => by
    show (least B).map _ = none
    rw [least_none fun xs hx => h xs (List.mem_cons_of_mem _ hx)]
    rfl
  | (x :: xs) :: B, h => absurd (h _ List.mem_cons_self) (by simp)
theorem least_at : ∀ {B : Bags} {i : Nat} {xs : List Tsk}, B[i]? = some xs → xs ≠ [] → (∀ (j : Nat) (ys : List Tsk), j < i → B[j]? = some ys → ys = []) → least B = some i
  | [], _, _, h, _, _ => by simp at h
  | (y :: ys) :: B, 0, _, _, _, _ => rfl
  | (y :: ys) :: B, i + 1, _, _, _, h => absurd (h 0 _ (Nat.succ_pos _) rfl) (by simp)
  | [] :: B, 0, xs, h, n, _ => by
    simp at h
    exact absurd h n
  | [] :: B, i + 1, xs, h, n, z => by
    show (least B).map _ = _
    rw [least_at (B := B) (i := i) (xs := xs) (by simpa using h) n fun j ys hj hy => z (j + 1) ys (by omega) (by simpa using hy)]
    rfl
theorem least_some : ∀ {B : Bags} {i : Nat}, least B = some i → ∃ t ts, B[i]? = some (t :: ts)
  | [], _, h => by simp [least] at h
  | (y :: ys) :: B, i, h => by
    simp only [least, Option.some.injEq] at h
    subst h
    exact ⟨y, ys, rfl⟩
  | [] :: B, i, h => by
    have h' : (least B).map (· + 1) = some i := h
    obtain ⟨j, hj, rfl⟩ := Option.map_eq_some_iff.mp h'
    obtain ⟨t, ts, e⟩ := least_some hj
    exact ⟨t, ts, by simpa using e⟩
theorem least_no : ∀ {B : Bags}, least B = none → ∀ xs ∈ B, xs = []
  | [], _, _, h => nomatch h
  | (y :: ys) :: B, h, _, _ => by simp [least] at h
  | [] :: B, h, xs, hx => by
    have h' : (least B).map (· + 1) = none := h
    rw [Option.map_eq_none_iff] at h'
    rcases List.mem_cons.mp hx with z | z
    · exact z
    · exact least_no h' xs z
/-- how many are done, all in all -/
def wt (R : Rules) (ts : List Tsk) : Int := (ts.map fun p => tot R p.2 p.1).sum
def wb (R : Rules) (B : Bags) : Int := (B.map (wt R)).sum
theorem wt_app {R : Rules} {a b : List Tsk} : wt R (a ++ b) = wt R a + wt R b := by simp [wt]
theorem wt_nn {R : Rules} : ∀ a : List Tsk, (a.length : Int) ≤ wt R a
  | [] => Int.le_refl 0
  | p :: a => by
    have := tot_pos (R := R) p.2 p.1
    have := wt_nn (R := R) a
    show _ ≤ tot R p.2 p.1 + wt R a
    rw [List.length_cons]
    omega
theorem wb_nn {R : Rules} : ∀ B : Bags, 0 ≤ wb R B
  | [] => Int.le_refl 0
  | a :: B => by
    have := wt_nn (R := R) a
    have := wb_nn (R := R) B
    show 0 ≤ wt R a + wb R B
    omega
theorem wb_set {R : Rules} : ∀ {B : Bags} {i : Nat} {a b : List Tsk}, B[i]? = some a → wb R (B.set i b) = wb R B - wt R a + wt R b
  | [], _, _, _, h => by simp at h
  | x :: B, 0, a, b, h => by
    simp at h
    subst h
    show wt R b + wb R B = wt R x + wb R B - wt R x + wt R b
    omega
  | x :: B, i + 1, a, b, h => by
    have := wb_set (R := R) (B := B) (i := i) (a := a) (b := b) (by simpa using h)
    show wt R x + wb R (B.set i b) = wt R x + wb R B - wt R a + wt R b
    omega
theorem get_getD {B : Bags} {i : Nat} (h : i < B.length) : B[i]? = some (B.getD i []) := by
  rw [List.getD_eq_getElem?_getD, List.getElem?_eq_getElem h] <;> rfl
theorem push_len {B : Bags} {x : Int × Tsk} : (push B x).length = B.length := by simp [push]
theorem pushs_len : ∀ (l : List (Int × Tsk)) {B : Bags}, (l.foldl push B).length = B.length
  | [], _ => rfl
  | x :: l, B => (pushs_len l).trans push_len
theorem wb_push {R : Rules} {B : Bags} {x : Int × Tsk} (h0 : 0 ≤ x.1) (h1 : x.1 < B.length) : wb R (push B x) = wb R B + tot R x.2.2 x.2.1 := by
  unfold push
  rw [wb_set (get_getD (by omega : x.1.toNat < B.length)), wt_app]
  have e : wt R [x.2] = tot R x.2.2 x.2.1 := Int.add_zero _
  rw [e]
  omega
theorem wb_pushs {R : Rules} : ∀ (l : List (Int × Tsk)) {B : Bags}, (∀ x ∈ l, 0 ≤ x.1 ∧ x.1 < (B.length : Int)) → wb R (l.foldl push B) = wb R B + (l.map fun x => tot R x.2.2 x.2.1).sum
  | [], _, _ => (Int.add_zero _).symm
  | x :: l, B, h => by
    have hx := h x List.mem_cons_self
    rw [List.foldl_cons, wb_pushs l fun y hy => by rw [push_len]; exact h y (List.mem_cons_of_mem _ hy), wb_push hx.1 hx.2, List.map_cons, List.sum_cons]
    omega
theorem kids_tot {m : Int} {R : Rules} {h : Int} {t : Tsk} : tot R t.2 t.1 = 1 + ((kidsT m R h t).map fun x => tot R x.2.2 x.2.1).sum := by
  obtain ⟨k, f⟩ := t
  cases f with
  | zero => rfl
  | succ g =>
    show 1 + _ = 1 + _
    simp only [kidsT, List.map_map]
    rfl
def stepB (m : Int) (R : Rules) (B : Bags) (i : Nat) (t : Tsk) (ts : List Tsk) : Bags := (kidsT m R i t).foldl push (B.set i ts)
theorem kids_in {m : Int} {R : Rules} {h : Int} {t : Tsk} (hm : 0 < m) : ∀ x ∈ kidsT m R h t, 0 ≤ x.1 ∧ x.1 < m := by
  obtain ⟨k, f⟩ := t
  intro x hx
  cases f with
  | zero => nomatch hx
  | succ g =>
    obtain ⟨p, _, rfl⟩ := List.mem_map.mp (show x ∈ (kin R k).map fun p => ((h + p.1).fmod m, (p.2, g)) from hx)
    exact fmod_lt' hm
theorem step_len {m : Int} {R : Rules} {B : Bags} {i : Nat} {t : Tsk} {ts : List Tsk} : (stepB m R B i t ts).length = B.length := by
  unfold stepB
  rw [pushs_len, List.length_set]
theorem step_wb {m : Int} {R : Rules} {B : Bags} {i : Nat} {t : Tsk} {ts : List Tsk} (hm : 0 < m) (hB : (B.length : Int) = m) (e : B[i]? = some (t :: ts)) : wb R (stepB m R B i t ts) = wb R B - 1 := by
  unfold stepB
  rw [wb_pushs _ fun x hx => by rw [List.length_set, hB]; exact kids_in hm x hx, wb_set e]
  have := kids_tot (m := m) (R := R) (h := (i : Int)) (t := t)
  show wb R B - (tot R t.2 t.1 + wt R ts) + wt R ts + _ = _
  omega
def runN (m : Int) (R : Rules) : Nat → Bags → List (Int × Tsk)
  | 0, _ => []
  | n + 1, B => match least B with
    | none => []
    | some i => match B.getD i [] with
      | [] => []
      | t :: ts => ((i : Int), t) :: runN m R n (stepB m R B i t ts)
def run (m : Int) (R : Rules) (B : Bags) : List (Int × Tsk) := runN m R (wb R B).toNat B
theorem run_none {m : Int} {R : Rules} {B : Bags} (h : least B = none) : run m R B = [] := by
  unfold run
  cases (wb R B).toNat with
  | zero => rfl
  | succ n =>
    show (match least B with | none => [] | some i => _) = _
    rw [h]
theorem wb_pos {R : Rules} : ∀ {B : Bags} {i : Nat} {t : Tsk} {ts : List Tsk}, B[i]? = some (t :: ts) → 1 ≤ wb R B
  | [], _, _, _, h => by simp at h
  | x :: B, 0, t, ts, h => by
    simp at h
    subst h
    have := tot_pos (R := R) t.2 t.1
    have := wt_nn (R := R) ts
    have := wb_nn (R := R) B
    show 1 ≤ (tot R t.2 t.1 + wt R ts) + wb R B
    omega
  | x :: B, i + 1, t, ts, h => by
    have := wb_pos (R := R) (B := B) (i := i) (by simpa using h)
    have := wt_nn (R := R) x
    show 1 ≤ wt R x + wb R B
    omega
theorem run_step {m : Int} {R : Rules} {B : Bags} {i : Nat} {t : Tsk} {ts : List Tsk} (hm : 0 < m) (hB : (B.length : Int) = m) (h : least B = some i) (e : B[i]? = some (t :: ts)) : run m R B = ((i : Int), t) :: run m R (stepB m R B i t ts) := by
  have hw := wb_pos (R := R) e
  have hs := step_wb (R := R) hm hB e
  unfold run
  obtain ⟨n, hn⟩ : ∃ n, (wb R B).toNat = n + 1 := ⟨(wb R B).toNat - 1, by omega⟩
  have hn' : (wb R (stepB m R B i t ts)).toNat = n := by omega
  rw [hn, hn']
  show (match least B with | none => [] | some i => _) = _
  rw [h]
  show (match B.getD i [] with | [] => [] | t :: ts => _) = _
  rw [List.getD_eq_getElem?_getD, e]
  rfl
theorem all_empty {R : Rules} : ∀ {B : Bags}, (∀ xs ∈ B, xs = []) → wb R B = 0
  | [], _ => rfl
  | x :: B, h => by
    have := all_empty (R := R) (B := B) fun xs hx => h xs (List.mem_cons_of_mem _ hx)
    have e := h x List.mem_cons_self
    subst e
    show (0 : Int) + wb R B = 0
    omega
theorem run_len {m : Int} {R : Rules} (hm : 0 < m) : ∀ (n : Nat) (B : Bags), (B.length : Int) = m → wb R B = n → (run m R B).length = n
  | 0, B, hB, hw => by
    unfold run
    rw [hw]
    rfl
  | n + 1, B, hB, hw => by
    cases h : least B with
    | none =>
      have := all_empty (R := R) (least_no h)
      omega
    | some i =>
      obtain ⟨t, ts, e⟩ := least_some h
      have hs := step_wb (R := R) hm hB e
      rw [run_step hm hB h e, List.length_cons, run_len hm n _ (by rw [step_len]; exact hB) (by omega)]
/-- all tasks are such of these works -/
def OkB (R : Rules) (B : Bags) : Prop := ∀ ts ∈ B, ∀ t ∈ ts, (0 ≤ t.1 ∧ t.1 < R.length) ∧ t.2 ≤ 12
theorem kids_ok {m : Int} {R : Rules} {h : Int} {t : Tsk} (ok : OkWorks m R) (ht : (0 ≤ t.1 ∧ t.1 < R.length) ∧ t.2 ≤ 12) : ∀ x ∈ kidsT m R h t, (0 ≤ x.2.1 ∧ x.2.1 < R.length) ∧ x.2.2 ≤ 12 := by
  obtain ⟨k, f⟩ := t
  intro x hx
  cases f with
  | zero => nomatch hx
  | succ g =>
    obtain ⟨p, hp, rfl⟩ := List.mem_map.mp (show x ∈ (kin R k).map fun p => ((h + p.1).fmod m, (p.2, g)) from hx)
    have hin : kin R k ∈ R := by
      unfold kin
      have := ht.1
      rw [List.getD_eq_getElem?_getD, List.getElem?_eq_getElem (by omega : k.toNat < R.length)]
      exact List.getElem_mem _
    have := ht.2
    exact ⟨((ok.at_ _ hin).at_ p hp).2, by show g ≤ 12; omega⟩
theorem kids_len {m : Int} {R : Rules} {h : Int} {t : Tsk} (ok : OkWorks m R) (ht : (0 ≤ t.1 ∧ t.1 < R.length) ∧ t.2 ≤ 12) : (kidsT m R h t).length ≤ 4 := by
  obtain ⟨k, f⟩ := t
  cases f with
  | zero => exact Nat.zero_le _
  | succ g =>
    have hin : kin R k ∈ R := by
      unfold kin
      have := ht.1
      rw [List.getD_eq_getElem?_getD, List.getElem?_eq_getElem (by omega : k.toNat < R.length)]
      exact List.getElem_mem _
    show ((kin R k).map _).length ≤ 4
    rw [List.length_map]
    exact (ok.at_ _ hin).len
theorem okB_set {R : Rules} {B : Bags} {i : Nat} {a : List Tsk} (o : OkB R B) (ha : ∀ t ∈ a, (0 ≤ t.1 ∧ t.1 < R.length) ∧ t.2 ≤ 12) : OkB R (B.set i a) := fun ts hts t ht => by
  rcases List.mem_or_eq_of_mem_set hts with z | z
  · exact o ts z t ht
  · rw [z] at ht
    exact ha t ht
theorem okB_push {R : Rules} {B : Bags} {x : Int × Tsk} (o : OkB R B) (hx : (0 ≤ x.2.1 ∧ x.2.1 < R.length) ∧ x.2.2 ≤ 12) : OkB R (push B x) := by
  refine okB_set o fun t ht => ?_
  rcases List.mem_append.mp ht with z | z
  · rw [List.getD_eq_getElem?_getD] at z
    cases e : B[x.1.toNat]? with
    | none =>
      rw [e] at z
      nomatch z
    | some ys =>
      rw [e] at z
      exact o ys (List.mem_of_getElem? e) t z
  · cases List.mem_singleton.mp z
    exact hx
end KQ
set_option Elab.async false
set_option maxRecDepth 100000
set_option maxHeartbeats 4000000
namespace KQ
open PySem PySem.Spec PyProof.Rows L2
/-! ### tasks, and pairs of a number and a task, on the heap -/
inductive TsAt (H : Hp) : List V → List Tsk → Prop
  | nil : TsAt H [] []
  | cons {a : Addr} {vs : List V} {t : Tsk} {ts : List Tsk} : H a = some (.tup [.int t.1, .int (t.2 : Int)]) → TsAt H vs ts → TsAt H (.ref a :: vs) (t :: ts)
inductive ItAt (H : Hp) : List V → List (Int × Tsk) → Prop
  | nil : ItAt H [] []
  | cons {a b : Addr} {vs : List V} {x : Int × Tsk} {xs : List (Int × Tsk)} : H b = some (.tup [.int x.1, .ref a]) → H a = some (.tup [.int x.2.1, .int (x.2.2 : Int)]) → ItAt H vs xs → ItAt H (.ref b :: vs) (x :: xs)
abbrev TupK (H H' : Hp) : Prop := ∀ b xs, H b = some (.tup xs) → H' b = some (.tup xs)
theorem TupK.of_same {H H' : Hp} (s : Same H H') : TupK H H' := fun b xs e => s b _ e
theorem tupK_lst {H : Hp} {L : Addr} {xs ys : List V} (e : H L = some (.lst xs)) : TupK H (upd H L (.lst ys)) := fun b zs h => by
  rw [upd_ne (ne_of h e (by intro z; cases z))]
  exact h
theorem TsAt.kp {H H' : Hp} {vs : List V} {ts : List Tsk} (t : TsAt H vs ts) (k : TupK H H') : TsAt H' vs ts := by
  induction t with
  | nil => exact .nil
  | cons e _ ih => exact .cons (k _ _ e) ih
theorem ItAt.kp {H H' : Hp} {vs : List V} {ts : List (Int × Tsk)} (t : ItAt H vs ts) (k : TupK H H') : ItAt H' vs ts := by
  induction t with
  | nil => exact .nil
  | cons e f _ ih => exact .cons (k _ _ e) (k _ _ f) ih
theorem TsAt.app {H : Hp} {vs ws : List V} {ts us : List Tsk} (t : TsAt H vs ts) (u : TsAt H ws us) : TsAt H (vs ++ ws) (ts ++ us) := by
  induction t with
  | nil => exact u
  | cons e _ ih => exact .cons e ih
theorem ItAt.app {H : Hp} {vs ws : List V} {ts us : List (Int × Tsk)} (t : ItAt H vs ts) (u : ItAt H ws us) : ItAt H (vs ++ ws) (ts ++ us) := by
  induction t with
  | nil => exact u
  | cons e f _ ih => exact .cons e f ih
theorem TsAt.len {H : Hp} {vs : List V} {ts : List Tsk} (t : TsAt H vs ts) : vs.length = ts.length := by
  induction t with
  | nil => rfl
  | cons _ _ ih => rw [List.length_cons, List.length_cons, ih]
theorem ItAt.len {H : Hp} {vs : List V} {ts : List (Int × Tsk)} (t : ItAt H vs ts) : vs.length = ts.length := by
  induction t with
  | nil => rfl
  | cons _ _ _ ih => rw [List.length_cons, List.length_cons, ih]
theorem TsAt.of_rp {N : Addr → Prop} {H : Hp} : ∀ {ts : List Tsk} {vs : List V}, RpAll N H vs (ts.map tskD) → TsAt H vs ts
  | [], _, .nil => .nil
  | t :: ts, _, .cons r rs => by
    cases r with
    | tup e _ ra =>
    cases ra with
    | cons r1 ra =>
    cases ra with
    | cons r2 ra =>
    cases ra
    cases r1
    cases r2
    exact .cons e (TsAt.of_rp rs)
theorem ItAt.of_rp {N : Addr → Prop} {H : Hp} : ∀ {ts : List (Int × Tsk)} {vs : List V}, RpAll N H vs (ts.map itemD) → ItAt H vs ts
  | [], _, .nil => .nil
  | t :: ts, _, .cons r rs => by
    cases r with
    | tup e _ ra =>
    cases ra with
    | cons r1 ra =>
    cases ra with
    | cons r2 ra =>
    cases ra
    cases r1
    cases r2 with
    | tup e' _ rb =>
    cases rb with
    | cons r3 rb =>
    cases rb with
    | cons r4 rb =>
    cases rb
    cases r3
    cases r4
    exact .cons e e' (ItAt.of_rp rs)
theorem ItAt.rp {H : Hp} {vs : List V} {ts : List (Int × Tsk)} (t : ItAt H vs ts) : RpAll NF H vs (ts.map itemD) := by
  induction t with
  | nil => exact .nil
  | cons e f _ ih => exact .cons (.tup e (fun z => z) (.cons (.int _) (.cons (.tup f (fun z => z) (.cons (.int _) (.cons (.int _) .nil))) .nil))) ih
theorem ItAt.get {H : Hp} {vs : List V} {ts : List (Int × Tsk)} (t : ItAt H vs ts) : ∀ {i : Nat} {v : V}, vs[i]? = some v → ∃ (b a : Addr) (x : Int × Tsk), v = .ref b ∧ ts[i]? = some x ∧ H b = some (.tup [.int x.1, .ref a]) ∧ H a = some (.tup [.int x.2.1, .int (x.2.2 : Int)]) := by
  induction t with
  | nil => intro i v h; simp at h
  | @cons a b vs x xs e f _ ih =>
    intro i v h
    cases i with
    | zero =>
      simp at h
      subst h
      exact ⟨b, a, x, rfl, rfl, e, f⟩
    | succ i => simpa using ih (by simpa using h)
/-- bags of waiting tasks, one a house -/
structure BagsAt (H : Hp) (b : Addr) (bs : List Addr) (B : Bags) : Prop where
  at_ : H b = some (.lst (bs.map V.ref))
  nd : bs.Nodup
  nb : b ∉ bs
  len : bs.length = B.length
  bag : ∀ (i : Nat) (x : Addr) (ts : List Tsk), bs[i]? = some x → B[i]? = some ts → ∃ xs, H x = some (.lst xs) ∧ TsAt H xs ts
theorem BagsAt.keep {H H' : Hp} {b : Addr} {bs : List Addr} {B : Bags} (A : BagsAt H b bs B) (k : ∀ a, a = b ∨ a ∈ bs → ∀ o, H a = some o → H' a = some o) (t : TupK H H') : BagsAt H' b bs B :=
  ⟨k _ (.inl rfl) _ A.at_, A.nd, A.nb, A.len, fun i x ts h1 h2 => let ⟨xs, e, q⟩ := A.bag i x ts h1 h2; ⟨xs, k _ (.inr (List.mem_of_getElem? h1)) _ e, q.kp t⟩⟩
theorem BagsAt.same {H H' : Hp} {b : Addr} {bs : List Addr} {B : Bags} (A : BagsAt H b bs B) (s : Same H H') : BagsAt H' b bs B := A.keep (fun a _ o e => s a o e) (TupK.of_same s)
theorem BagsAt.get {H : Hp} {b : Addr} {bs : List Addr} {B : Bags} (A : BagsAt H b bs B) {i : Nat} {ts : List Tsk} (h : B[i]? = some ts) : ∃ x xs, bs[i]? = some x ∧ H x = some (.lst xs) ∧ TsAt H xs ts := by
  have hi := (List.getElem?_eq_some_iff.mp h).1
  have hl := A.len
  obtain ⟨x, e⟩ : ∃ x, bs[i]? = some x := ⟨_, List.getElem?_eq_getElem (by omega)⟩
  obtain ⟨xs, e1, e2⟩ := A.bag i _ ts e h
  exact ⟨_, xs, e, e1, e2⟩
theorem nodup_idx {α : Type} : ∀ {l : List α} {i j : Nat} {x : α}, l.Nodup → l[i]? = some x → l[j]? = some x → i = j
  | [], _, _, _, _, h, _ => by simp at h
  | a :: l, 0, 0, _, _, _, _ => rfl
  | a :: l, 0, j + 1, x, nd, h, h' => by
    simp at h
    subst h
    rw [List.nodup_cons] at nd
    exact absurd (List.mem_of_getElem? (show l[j]? = some a by simpa using h')) nd.1
  | a :: l, i + 1, 0, x, nd, h, h' => by
    simp at h'
    subst h'
    rw [List.nodup_cons] at nd
    exact absurd (List.mem_of_getElem? (show l[i]? = some a by simpa using h)) nd.1
  | a :: l, i + 1, j + 1, x, nd, h, h' => by
    rw [List.nodup_cons] at nd
    exact congrArg (· + 1) (nodup_idx nd.2 (show l[i]? = some x by simpa using h) (by simpa using h'))
theorem BagsAt.put {H : Hp} {b x : Addr} {bs : List Addr} {B : Bags} {i : Nat} {xs0 xs : List V} {ts : List Tsk} (A : BagsAt H b bs B) (h : bs[i]? = some x) (e : H x = some (.lst xs0)) (t : TsAt H xs ts) : BagsAt (upd H x (.lst xs)) b bs (B.set i ts) := by
  have k := tupK_lst (ys := xs) e
  have nx : b ≠ x := fun z => A.nb (z ▸ List.mem_of_getElem? h)
  refine ⟨by rw [upd_ne nx]; exact A.at_, A.nd, A.nb, by rw [List.length_set]; exact A.len, fun j y us h1 h2 => ?_⟩
  rw [List.getElem?_set] at h2
  by_cases c : i = j
  · subst c
    rw [h] at h1
    cases h1
    rw [if_pos rfl] at h2
    split at h2
    · cases h2
      exact ⟨xs, upd_same, t.kp k⟩
    · cases h2
  · rw [if_neg c] at h2
    obtain ⟨ys, e1, e2⟩ := A.bag j y us h1 h2
    have ny : y ≠ x := fun z => c (nodup_idx A.nd h (z ▸ h1))
    exact ⟨ys, by rw [upd_ne ny]; exact e1, e2.kp k⟩
def leastV (B : Bags) : V := match least B with
  | none => .non
  | some i => .int (i : Int)
def spLeastB : Sp := fun vs H Q _ => ∃ (b : Addr) (bs : List Addr) (B : Bags), vs = [.ref b] ∧ BagsAt H b bs B ∧ ∀ H', Same H H' → Q (leastV B) H'
theorem least_imp (vs : List V) (H : Hp) (Q : VK) (E : XK) (h : spLeastB vs H Q E) : spLeast vs H Q E := by
  obtain ⟨b, bs, B, rfl, A, k⟩ := h
  refine ⟨b, bs, bs.map (fun x => match H x with | some (.lst xs) => xs | _ => []), rfl, A.at_, by rw [List.length_map], fun i x xs h1 h2 => ?_, fun i xs H' h1 hne hz s => ?_, fun hz H' s => ?_⟩
  · rw [List.getElem?_map, h1] at h2
    have hi := (List.getElem?_eq_some_iff.mp h1).1
    obtain ⟨ys, e, _⟩ := A.bag i x _ h1 (get_getD (B := B) (by rw [← A.len]; exact hi))
    simp only [e, Option.map_some, Option.some.injEq] at h2
    rw [e, h2]
  · have hi : i < bs.length := by
      have := (List.getElem?_eq_some_iff.mp h1).1
      rwa [List.length_map] at this
    have hx : bs[i]? = some bs[i] := List.getElem?_eq_getElem hi
    have hB := get_getD (B := B) (i := i) (by rw [← A.len]; exact hi)
    obtain ⟨ys, e, t⟩ := A.bag i _ _ hx hB
    rw [List.getElem?_map, hx] at h1
    simp only [e, Option.map_some, Option.some.injEq] at h1
    subst h1
    have el : least B = some i := by
      refine least_at hB (fun z => hne ?_) fun j zs hj hzs => ?_
      · have := t.len
        rw [z] at this
        exact List.eq_nil_of_length_eq_zero this
      · have hjl : j < bs.length := by omega
        have hxj : bs[j]? = some bs[j] := List.getElem?_eq_getElem hjl
        obtain ⟨us, e', t'⟩ := A.bag j _ _ hxj hzs
        have q := hz j us hj (by rw [List.getElem?_map, hxj]; simp only [e', Option.map_some])
        have := t'.len
        rw [q] at this
        exact List.eq_nil_of_length_eq_zero this.symm
    have := k H' s
    unfold leastV at this
    rw [el] at this
    exact this
  · have el : least B = none := by
      refine least_none fun xs hx => ?_
      obtain ⟨i, hi⟩ := List.mem_iff_getElem?.mp hx
      obtain ⟨x, ys, e1, e2, t⟩ := A.get hi
      have q : ys = [] := hz ys (by
        refine List.mem_map.mpr ⟨x, List.mem_of_getElem? e1, ?_⟩
        simp only [e2])
      have := t.len
      rw [q] at this
      exact List.eq_nil_of_length_eq_zero this.symm
    have := k H' s
    unfold leastV at this
    rw [el] at this
    exact this
def startB (m : Int) (ts : List Tsk) : Bags := ts :: List.replicate (m.toNat - 1) []
theorem startB_len {m : Int} {ts : List Tsk} (h : 0 < m) : ((startB m ts).length : Int) = m := by
  simp only [startB, List.length_cons, List.length_replicate]
  omega
theorem startB_set {m : Int} {ts : List Tsk} (h : 0 < m) : (List.replicate m.toNat ([] : List Tsk)).set 0 ts = startB m ts := by
  obtain ⟨n, hn⟩ : ∃ n, m.toNat = n + 1 := ⟨m.toNat - 1, by omega⟩
  unfold startB
  rw [hn]
  rfl
theorem startB_wb {m : Int} {R : Rules} {ts : List Tsk} : wb R (startB m ts) = wt R ts := by
  have g : ∀ n : Nat, wb R (List.replicate n []) = 0 := fun n => all_empty fun xs hx => (List.mem_replicate.mp hx).2
  show wt R ts + wb R _ = _
  rw [g]
  exact Int.add_zero _
theorem startB_ok {m : Int} {R : Rules} {ts : List Tsk} (h : ∀ p ∈ ts, (0 ≤ p.1 ∧ p.1 < R.length) ∧ p.2 ≤ 12) : OkB R (startB m ts) := fun us hus t ht => by
  rcases List.mem_cons.mp hus with z | z
  · exact h t (z ▸ ht)
  · rw [(List.mem_replicate.mp z).2] at ht
    nomatch ht
theorem same_put {H H1 : Hp} {x : Addr} {o : HO} (s : Same H H1) (h : H x = none) : Same H (upd H1 x o) := fun b u q => by
  rw [upd_ne (ne_of_none q h)]
  exact s b u q
end KQ
set_option Elab.async false
set_option maxRecDepth 100000
set_option maxHeartbeats 4000000
namespace KQ
open PySem PySem.Spec PyProof.Rows L2
def spPlain (C CM : Addr) : Sp := fun vs H Q E => ∃ (N : Addr → Prop) (a r g : Addr) (m : Int) (R : Rules) (ts : List Tsk), vs = [.ref a, .ref g] ∧ WorksAt C H a (.int m) (.ref r) ∧ OkWorks m R ∧ Rp N H (.ref r) (rulesD R) ∧ Rp N H (.ref g) (.tuple (ts.map tskD)) ∧ ts.length ≤ 20 ∧ (∀ p ∈ ts, (0 ≤ p.1 ∧ p.1 < R.length) ∧ p.2 ≤ 12) ∧
  (20000 < wt R ts → ∀ (d : Addr) (H' : Hp), Same H H' → H' d = none → E (.ref CM) (some d) (upd H' d (.xd [("most", .int 20000)]))) ∧
  (wt R ts ≤ 20000 → ∀ (L : Addr) (vs : List V) (H' : Hp), Same H H' → H' L = some (.lst vs) → ItAt H' vs (run m R (startB m ts)) → Q (.ref L) H')
/-- the run's state when so many are to be done still -/
def PRun (m : Int) (R : Rules) (ts : List Tsk) (H : Hp) (a g b L : Addr) (bs : List Addr) (n : Nat) (σ : L2.St) (H' : Hp) : Prop :=
  ∃ (v3 v6 v7 v8 : Option V) (Bg : Bags) (acc : List V) (ps : List (Int × Tsk)), n = (wb R Bg).toNat ∧ σ = [some (.ref a), some (.ref g), some (.ref b), v3, some (.ref L), some (leastV Bg), v6, v7, v8] ∧ Same H H' ∧ BagsAt H' b bs Bg ∧ H' L = some (.lst acc) ∧ ItAt H' acc ps ∧ OkB R Bg ∧ (Bg.length : Int) = m ∧ ps ++ run m R Bg = run m R (startB m ts)
theorem wb_mem {R : Rules} : ∀ {B : Bags} {xs : List Tsk}, xs ∈ B → (xs.length : Int) ≤ wb R B
  | x :: B, xs, h => by
    have a1 := wt_nn (R := R) x
    have a2 := wb_nn (R := R) B
    show _ ≤ wt R x + wb R B
    rcases List.mem_cons.mp h with rfl | z
    · omega
    · have := wb_mem (R := R) z
      omega
theorem push_mem {B : Bags} {y : Int × Tsk} {n : Nat} (h : ∀ xs ∈ B, xs.length ≤ n) : ∀ xs ∈ push B y, xs.length ≤ n + 1 := fun xs hx => by
  rcases List.mem_or_eq_of_mem_set hx with z | z
  · have := h xs z
    omega
  · rw [z, List.length_append, List.getD_eq_getElem?_getD]
    cases e : B[y.1.toNat]? with
    | none => exact Nat.add_le_add_right (Nat.zero_le n) 1
    | some ys => exact Nat.add_le_add_right (h ys (List.mem_of_getElem? e)) 1
section
variable {P : Program} {w : World} {K : PySem.W.Frag} {mg : Str → Option Value} {base : Heap} {t6 : Tok} {C CG CH CT CM : Addr}
set_option maxHeartbeats 16000000 in
theorem d_plain_run (B : Bi mg) (T : WorksC K mg C) (F : FunAt K mg "plain_run" s_plain_run) (g_MOST_DONE : mg "MOST_DONE" = some (.int 20000 t6)) (x_TooMany : ErrAt P w K mg base "TooMany" CM "most")
    (D_check_given : HasX P w K mg base 6 "check_given" ["works", "given"] (spCheckGiven C CG)) (D_many_of_all : Has P w K mg base 2 "many_of_all" ["works", "tasks"] (spManyAll C)) (D_least_busy : Has P w K mg base 1 "least_busy" ["bags"] spLeastB)
    (D_sent_by : HasX P w K mg base 5 "sent_by" ["works", "house", "task"] (spSentBy C CH CT)) : HasX P w K mg base 7 "plain_run" ["works", "given"] (spPlain C CM) := by
  refine mk_hasX F sc_plain_run (fun _ _ _ _ _ _ us hl => match us, hl with | [_, _], _ => rfl) (fun vs H Q E h => ?_) fun f cdv A outer s H vs Q E hr h => ?_
  · obtain ⟨N, a, r, g, m, R, ts, rfl, _⟩ := h
    rfl
  obtain ⟨N, a, r, g, m, R, ts, rfl, ha, ok, rr, rg, hl, ht, kE, kQ⟩ := h
  refine ⟨_, (pss_cons (ps_expr (pe_hX (takes_of rfl rfl rfl rfl) D_check_given (hr.mono (by decide)) rfl (pa_cons (pv 0) (pa_cons (pv 1) pa_nil))))
    (pss_cons (ps_if (pt_cmpR op_gt (pe_h D_many_of_all (hr.mono (by decide)) rfl (pa_cons (pv 0) (pa_cons (pv 1) pa_nil))) (pe_glob (v := .int 20000) rfl g_MOST_DONE ⟨_, rfl⟩) (nomark _))
    (pss_one (ps_rx rfl (takes_of rfl rfl rfl rfl) x_TooMany (hr.mono (by decide)) (pa_cons (pe_glob (v := .int 20000) rfl g_MOST_DONE ⟨_, rfl⟩) pa_nil) rfl))
    pss_nil)
    (pss_cons (ps_setLc (i := 2) (own := [("_", 3)]) (g := gName 3) (tt := tYes) (te := (tLst tNil)) rfl sc_plain_run.nd rfl rfl (sw_true rfl rfl rfl (by decide +kernel)) (pi_range1 rfl B.range (pa_cons (pe_fld (pv 0) rfl) pa_nil)) (blkOk_by (own := [("_", 3)]) (N := ["works", "given", "bags", "_", "pairs", "house", "task", "to", "sent"]) (sc := defScope s_plain_run) (by decide +kernel)) (fun _ _ _ _ _ => (pg_name (i := 3) sc_plain_run.nd rfl (Or.inl rfl))) (fun _ _ _ _ _ => pts_nil) (fun _ _ _ _ _ => (pe_lst pa_nil)))
    (pss_cons (ps_expr (pe_bm PySem.F.plainAttrs_list PySem.F.slot_list_extend PySem.F.type_list_extend mt_extendT (pe_ix ix_list (pv 2) pe_int (fun _ _ => rfl)) (pa_cons (pv 1) pa_nil)))
    (pss_cons (ps_set (i := 4) sc_plain_run.nd rfl (Or.inl rfl) (pe_lst pa_nil))
    (pss_cons (ps_set (i := 5) sc_plain_run.nd rfl (Or.inl rfl) (pe_h D_least_busy (hr.mono (by decide)) rfl (pa_cons (pv 2) pa_nil)))
    (pss_cons (ps_while (passes_of rfl) (pt_cmp (pc_notN (pv 5)))
    (pss_cons (ps_set (i := 6) sc_plain_run.nd rfl (Or.inl rfl) (pe_bm PySem.F.plainAttrs_list PySem.F.slot_list_pop PySem.F.type_list_pop mt_popAt (pe_ix ix_list (pv 2) (pv 5) (fun _ _ => rfl)) (pa_cons pe_int pa_nil)))
    (pss_cons (ps_expr (pe_bm PySem.F.plainAttrs_list PySem.F.slot_list_append PySem.F.type_list_append mt_append (pv 4) (pa_cons (pe_tup (pa_cons (pv 5) (pa_cons (pv 6) pa_nil))) pa_nil)))
    (pss_cons (ps_for (passes_of rfl) rfl (pi_tup (pe_hX (takes_of rfl rfl rfl rfl) D_sent_by (hr.mono (by decide)) rfl (pa_cons (pv 0) (pa_cons (pv 5) (pa_cons (pv 6) pa_nil))))) (pg_tup rfl (pgs_cons (pg_name (i := 7) sc_plain_run.nd rfl (Or.inl rfl)) (pgs_cons (pg_name (i := 8) sc_plain_run.nd rfl (Or.inl rfl)) pgs_nil)))
    (pss_one (ps_expr (pe_bm PySem.F.plainAttrs_list PySem.F.slot_list_append PySem.F.type_list_append mt_append (pe_ix ix_list (pv 2) (pv 7) (fun _ _ => rfl)) (pa_cons (pv 8) pa_nil)))))
    (pss_one (ps_set (i := 5) sc_plain_run.nd rfl (Or.inl rfl) (pe_h D_least_busy (hr.mono (by decide)) rfl (pa_cons (pv 2) pa_nil))))))))
    (pss_one (ps_ret (pv 4)))))))))), ?_⟩
  have m1 := ok.m1
  have m6 := ok.m6
  obtain ⟨rs, er, lr⟩ : ∃ rs, H r = some (.tup rs) ∧ rs.length = R.length := by
    cases rr with
    | tup e n ra => exact ⟨_, e, ra.length.trans (List.length_map _)⟩
  have hg : isGiven rs.length (.tuple (ts.map tskD)) = true := by
    simp only [isGiven, List.length_map, Bool.and_eq_true, List.all_map, List.all_eq_true, decide_eq_true_eq]
    refine ⟨fun p hp => ?_, hl⟩
    have q := ht p hp
    show isPair rs.length 13 (.tuple [.int p.1, .int (p.2 : Int)]) = true
    simp only [isPair, below, intOf, lr]
    simp [q.1.1, q.1.2]
    omega
  refine ⟨_, rfl, _, rfl, N, a, r, .int m, .ref g, rs, .tuple (ts.map tskD), rfl, ha, er, rg, (fun ds e => by cases e; rw [List.length_map]; omega), (fun e => by rw [hg] at e; cases e), fun _ H1 s1 => ?_⟩
  refine ⟨_, rfl, _, rfl, N, a, r, g, .int m, m, R, ts, rfl, ha.same s1, rr.to (Kp.of_same s1), ok, rg.to (Kp.of_same s1), by omega, ht, fun H2 s2 => ?_⟩
  have s02 := s1.trans s2
  refine ⟨_, _, rfl, rfl, _, rfl, ?_⟩
  by_cases c : 20000 < wt R ts
  · exact ifT (decide_eq_true c) (mk_err fun d hd => kE c d H2 s02 hd)
  refine ifF (decide_eq_false c) ?_
  have fin := kQ (by omega)
  clear kE kQ
  obtain ⟨dx, ha⟩ := ha
  refine ⟨_, rfl, a, C, dx, _, _, rfl, s02 _ _ ha, T.cl, T.n1, wF_m, m, rfl, by omega, by omega, fun b nb => ?_⟩
  refine lc_range (lo := 0) (n := m.toNat) (fun i H' => Same H2 H' ∧ ∃ bs : List Addr, H' b = some (.lst (bs.map V.ref)) ∧ bs.length = i ∧ bs.Nodup ∧ b ∉ bs ∧ ∀ x ∈ bs, H2 x = none ∧ H' x = some (.lst [])) ⟨same_new nb, [], upd_same, rfl, List.nodup_nil, (by simp), fun _ z => nomatch z⟩ (fun i H' hi z => ?_) fun H' z => ?_
  · obtain ⟨s3, bs, eb, lb, nd, nbb, hx⟩ := z
    refine ⟨rfl, ?_⟩
    refine tYes_ok ?_
    rw [if_pos rfl]
    refine ⟨(by show 0 ≤ sizeLine; decide), fun y ny => ?_⟩
    have s4 := same_new (o := .lst []) ny
    have hyb : b ≠ y := ne_of_none eb ny
    refine ⟨_, s4 _ _ eb, ?_, same_put (s3.trans s4) nb, bs ++ [y], by rw [upd_same, List.map_append] <;> rfl, by rw [List.length_append, lb] <;> rfl, ?_, ?_, fun x hx' => ?_⟩
    · rw [List.length_map, lb]
      exact Nat.lt_of_lt_of_le (show i < 7 by omega) (by decide)
    · rw [List.nodup_append]
      refine ⟨nd, by simp, fun x hx' z hz e => ?_⟩
      cases List.mem_singleton.mp hz
      have q := (hx x hx').2
      rw [e, ny] at q
      cases q
    · intro z
      rcases List.mem_append.mp z with z | z
      · exact nbb z
      · exact hyb (List.mem_singleton.mp z)
    · rcases List.mem_append.mp hx' with z | z
      · exact ⟨(hx x z).1, by rw [upd_ne fun e : x = b => nbb (e ▸ z)]; exact s4 _ _ (hx x z).2⟩
      · cases List.mem_singleton.mp z
        exact ⟨s3.free ny, by rw [upd_ne hyb.symm]; exact upd_same⟩
  obtain ⟨s3, bs, eb, lb, nd, nbb, hx⟩ := z
  have fresh : ∀ x ∈ bs, H x = none := fun x h => s02.free (hx x h).1
  have A0 : BagsAt H' b bs (List.replicate m.toNat []) := ⟨eb, nd, nbb, by rw [lb, List.length_replicate], fun i x us h1 h2 => ⟨[], (hx x (List.mem_of_getElem? h1)).2, by
    cases (List.mem_replicate.mp (List.mem_of_getElem? h2)).2
    exact .nil⟩⟩
  have s03 := s02.trans s3
  obtain ⟨gs, eg, tg⟩ : ∃ gs, H g = some (.tup gs) ∧ TsAt H gs ts := by
    cases rg with
    | tup e n ra => exact ⟨_, e, TsAt.of_rp ra⟩
  obtain ⟨x0, xs0, hx0, ex0, tx0⟩ := A0.get (i := 0) (ts := []) (by rw [List.getElem?_replicate, if_pos (by omega)])
  cases tx0
  have s0x : ∀ x ∈ bs, Same H2 (upd H' x (.lst ([] ++ gs))) := fun x h => same_put s3 (hx x h).1
  have atx : ∀ {i : Nat} {x : Addr}, bs[i]? = some x → atI (bs.map V.ref) (i : Int) = some (.ref x) := fun h => atI_nat (by rw [List.getElem?_map, h]; rfl)
  refine ⟨_, rfl, b, _, _, .ref x0, rfl, rfl, SqL.of eb, atx (i := 0) hx0, .inl ⟨rfl, _, SqL.of ex0⟩, _, rfl, x0, g, [], gs, rfl, rfl, ex0, SqT.of (s03 _ _ eg), ?_, ?_⟩
  · rw [tg.len]
    exact Nat.le_trans (show 0 + ts.length ≤ 20 by omega) (by decide)
  have A1 := A0.put (xs := [] ++ gs) (ts := ts) hx0 ex0 (tg.kp (TupK.of_same s03))
  rw [startB_set (by omega)] at A1
  have s4 : Same H (upd H' x0 (.lst ([] ++ gs))) := same_put s03 (fresh _ (List.mem_of_getElem? hx0))
  generalize upd H' x0 (.lst ([] ++ gs)) = H4 at A1 s4 ⊢
  refine ⟨(by show 0 ≤ sizeLine; decide), fun L nL => ?_⟩
  have sL := same_new (o := .lst []) nL
  have s5 := s4.trans sL
  have A2 := A1.same sL
  have LH : H L = none := s4.free nL
  have Lb : L ≠ b := (ne_of_none A1.at_ nL).symm
  have Lbs : L ∉ bs := fun z => by
    obtain ⟨i, hi⟩ := List.mem_iff_getElem?.mp z
    have hl := A1.len
    have := (List.getElem?_eq_some_iff.mp hi).1
    obtain ⟨ys, e, _⟩ := A1.bag i L _ hi (get_getD (by omega))
    rw [nL] at e
    cases e
  have eL : upd H4 L (.lst []) L = some (.lst []) := upd_same
  generalize upd H4 L (.lst []) = H5 at A2 s5 eL ⊢
  refine ⟨_, rfl, b, bs, _, rfl, A2, fun H6 s6 => ?_⟩
  have bsf : ∀ x ∈ bs, H x = none := fresh
  refine ⟨PRun m R ts H a g b L bs, ⟨_, none, none, none, none, startB m ts, [], [], rfl, rfl, s5.trans s6, A2.same s6, s6 _ _ eL, .nil, startB_ok ht, startB_len (by omega), rfl⟩, ?_⟩
  rintro n σ H7 ⟨v3, v6, v7, v8, Bg, acc, ps, rfl, rfl, s7, A7, eL7, it7, ok7, lB7, rn7⟩
  refine ⟨_, rfl, _, rfl, ?_⟩
  cases el : least Bg with
  | none =>
    have hv : leastV Bg = .non := by unfold leastV; rw [el]
    rw [hv]
    refine ifF rfl ⟨_, rfl, ?_⟩
    rw [run_none el, List.append_nil] at rn7
    subst rn7
    exact fin L acc H7 s7 eL7 it7
  | some i =>
  obtain ⟨t, us, eB⟩ := least_some el
  obtain ⟨x, xs, hxi, exs, txs⟩ := A7.get eB
  cases txs with
  | @cons ta vs' _ _ et tvs =>
  have hi : i < m.toNat := by
    have := (List.getElem?_eq_some_iff.mp eB).1
    omega
  have hrun := run_step (m := m) (R := R) (by omega) lB7 el eB
  have hwb := step_wb (m := m) (R := R) (by omega) lB7 eB
  have hwp := wb_pos (R := R) eB
  have hv : leastV Bg = .int (i : Int) := by unfold leastV; rw [el]
  rw [hv]
  have xb : x ∈ bs := List.mem_of_getElem? hxi
  refine ifT rfl ⟨fun σ' H' => ∃ k, k < (wb R Bg).toNat ∧ PRun m R ts H a g b L bs k σ' H', fun _ _ z => z, ?_⟩
  refine ⟨_, rfl, _, rfl, b, _, _, .ref x, rfl, rfl, SqL.of A7.at_, atx hxi, .inl ⟨rfl, _, SqL.of exs⟩, x, _, 0, 0, .ref ta, rfl, rfl, exs, by decide, by decide, (by rw [seqIndex_of (by decide) (by rw [List.length_cons]; omega)]; rfl), rfl, ?_⟩
  have A8 := A7.put (xs := (V.ref ta :: vs').eraseIdx 0) hxi exs tvs
  have k8 := tupK_lst (ys := (V.ref ta :: vs').eraseIdx 0) exs
  have s8 : Same H (upd H7 x (.lst ((V.ref ta :: vs').eraseIdx 0))) := same_put s7 (bsf x xb)
  have eL8 : upd H7 x (.lst ((V.ref ta :: vs').eraseIdx 0)) L = some (.lst acc) := by rw [upd_ne fun e : L = x => Lbs (e ▸ xb)]; exact eL7
  generalize upd H7 x (.lst ((V.ref ta :: vs').eraseIdx 0)) = H8 at A8 k8 s8 eL8 ⊢
  have okt := ok7 _ (List.mem_of_getElem? eB) t List.mem_cons_self
  have oku : ∀ u ∈ us, (0 ≤ u.1 ∧ u.1 < R.length) ∧ u.2 ≤ 12 := fun u hu => ok7 _ (List.mem_of_getElem? eB) u (List.mem_cons_of_mem _ hu)
  have hla : acc.length + wb R Bg ≤ 20000 := by
    have q := congrArg List.length rn7
    rw [List.length_append, run_len (by omega) (wb R Bg).toNat Bg lB7 (by omega), run_len (by omega) (wb R (startB m ts)).toNat _ (startB_len (by omega)) (by have := wb_nn (R := R) (startB m ts); omega)] at q
    have := it7.len
    have := startB_wb (m := m) (R := R) (ts := ts)
    have := wb_nn (R := R) Bg
    omega
  refine ⟨_, rfl, .inl ⟨rfl, _, SqL.of eL8⟩, _, rfl, _, rfl, (by show 2 ≤ sizeLine; decide), fun T nT => ?_⟩
  have sT := same_new (o := .tup [.int (i : Int), .ref ta]) nT
  have eLT := sT _ _ eL8
  refine ⟨L, _, _, rfl, rfl, eLT, ?_, ?_⟩
  · exact Nat.lt_of_lt_of_le (show acc.length < 20001 by omega) (by decide)
  have k9 := tupK_lst (ys := acc ++ [.ref T]) eLT
  have A9 : BagsAt (upd (upd H8 T (.tup [.int (i : Int), .ref ta])) L (.lst (acc ++ [.ref T]))) b bs (Bg.set i us) := (A8.same sT).keep (fun c hc o e => by
    rw [upd_ne fun z : c = L => hc.elim (fun y => Lb (z ▸ y)) fun y => Lbs (z ▸ y)]
    exact e) k9
  have s9 : Same H (upd (upd H8 T (.tup [.int (i : Int), .ref ta])) L (.lst (acc ++ [.ref T]))) := same_put (s8.trans sT) LH
  have eL9 : upd (upd H8 T (.tup [.int (i : Int), .ref ta])) L (.lst (acc ++ [.ref T])) L = some (.lst (acc ++ [.ref T])) := upd_same
  have eT9 := k9 _ _ (upd_same (H := H8) (a := T) (o := .tup [.int (i : Int), .ref ta]))
  have et9 := k9 _ _ (sT _ _ (k8 _ _ et))
  have it9 := (it7.kp fun c ys e => k9 _ _ (sT _ _ (k8 _ _ e))).app (.cons (x := ((i : Int), t)) eT9 et9 .nil)
  generalize upd (upd H8 T (.tup [.int (i : Int), .ref ta])) L (.lst (acc ++ [.ref T])) = H9 at A9 s9 eL9 it9 eT9 et9 ⊢
  clear k8 k9 sT eLT
  have hbl : below m (.int (i : Int)) = true := by simp [below, intOf]; omega
  have htk : isPair R.length 13 (.tuple [.int t.1, .int (t.2 : Int)]) = true := by
    simp only [isPair, below, intOf]
    simp [okt.1.1, okt.1.2]
    omega
  refine ⟨_, rfl, _, rfl, _, rfl, NF, a, r, m, R, _, _, .int (i : Int), .tuple [.int t.1, .int (t.2 : Int)], rfl, ⟨dx, s9 _ _ ha⟩, by omega, (rr.to (Kp.of_same s9)).nf, (fun ps hp => Nat.le_trans (ok.at_ ps hp).len (by decide)), .int _, .tup et9 (fun z => z) (.cons (.int _) (.cons (.int _) .nil)), (fun e => by rw [hbl] at e; cases e), (fun _ e => by rw [htk] at e; cases e), fun h' k' f' e1 e2 _ _ Ts HA sA rTs => ?_⟩
  cases e1
  cases e2
  rw [sentD_kids] at rTs
  have sAH := s9.trans sA
  have AA := A9.same sA
  cases rTs with
  | @tup _ ws _ eTs _ ra =>
  have iw := ItAt.of_rp ra
  have hwl := iw.len
  have hk4 := kids_len (h := (i : Int)) ok okt
  refine ⟨Ts, rfl, ⟨ws, SqT.of eTs⟩, for_tup (K := K) (a := Ts) (xs := ws) (fun j σ H' => ∃ v7 v8 Bj, σ = [some (.ref a), some (.ref g), some (.ref b), v3, some (.ref L), some (.int (i : Int)), some (.ref ta), v7, v8] ∧ Same H H' ∧ TupK HA H' ∧ BagsAt H' b bs Bj ∧ H' L = some (.lst (acc ++ [.ref T])) ∧ OkB R Bj ∧ (∀ xs ∈ Bj, xs.length ≤ 21000 + j) ∧ Bj = ((kidsT m R i t).take j).foldl push (Bg.set i us))
    ⟨_, _, _, rfl, sAH, (fun _ _ e => e), AA, sA _ _ eL9, okB_set ok7 oku, ?_, rfl⟩ (fun j σ H' _ ⟨_, _, _, _, _, k, _⟩ => SqT.of (k _ _ eTs)) ?_ ?_⟩
  · intro xs hxs
    have e1 := wb_mem (R := R) hxs
    rw [wb_set eB] at e1
    have e2 : wt R (t :: us) = tot R t.2 t.1 + wt R us := rfl
    have := tot_pos (R := R) t.2 t.1
    omega
  · rintro j v σ HB hv' ⟨v7, v8, Bj, rfl, sB, kB, AB, eLB, okj, hlj, ej⟩
    obtain ⟨b1, a1, y, rfl, hy, f1, f2⟩ := iw.get hv'
    have hyk := List.mem_of_getElem? hy
    have hin := kids_in (m := m) (by omega) y hyk
    have hjl := (List.getElem?_eq_some_iff.mp hy).1
    have hBl : (Bj.length : Int) = m := by rw [ej, pushs_len, List.length_set]; exact lB7
    have hto : y.1.toNat < Bj.length := by omega
    obtain ⟨z, zs, hz, ez, tz⟩ := AB.get (get_getD hto)
    have zb : z ∈ bs := List.mem_of_getElem? hz
    have hat : atI (bs.map V.ref) y.1 = some (.ref z) := by
      have q := atx hz
      rwa [Int.toNat_of_nonneg hin.1] at q
    have hzl : zs.length ≤ 21000 + j := by
      rw [tz.len]
      exact hlj _ (List.mem_of_getElem? (get_getD hto))
    refine ⟨_, _, rfl, SqT.of (kB _ _ f1), rfl, _, _, rfl, _, _, rfl, rfl, ?_⟩
    refine ⟨_, rfl, _, rfl, b, _, _, .ref z, rfl, rfl, SqL.of AB.at_, hat, .inl ⟨rfl, _, SqL.of ez⟩, _, rfl, z, _, _, rfl, rfl, ez, ?_, ?_⟩
    · exact Nat.lt_of_lt_of_le (show zs.length < 21005 by omega) (by decide)
    have kz := tupK_lst (ys := zs ++ [.ref a1]) ez
    refine ⟨_, _, push Bj y, rfl, same_put sB (bsf z zb), (fun c ys e => kz _ _ (kB _ _ e)), ?_, by rw [upd_ne fun e : L = z => Lbs (e ▸ zb)]; exact eLB, okB_push okj (kids_ok ok okt y hyk), push_mem hlj, ?_⟩
    · exact AB.put hz ez (tz.app (.cons (kB _ _ f2) .nil))
    · rw [List.take_add_one, hy, ej, List.foldl_append]
      rfl
  · rintro σ HB ⟨v7, v8, Bj, rfl, sB, kB, AB, eLB, okj, hlj, ej⟩
    rw [hwl, List.take_length] at ej
    have ej' : Bj = stepB m R Bg i t us := ej
    refine ⟨_, rfl, b, bs, Bj, rfl, AB, fun HC sC => ?_⟩
    refine ⟨_, ?_, v3, _, _, _, Bj, acc ++ [.ref T], ps ++ [((i : Int), t)], rfl, rfl, sB.trans sC, AB.same sC, sC _ _ eLB, ?_, okj, by rw [ej', step_len]; exact lB7, ?_⟩
    · rw [ej', hwb]
      omega
    · exact it9.kp fun c ys e => sC _ _ (kB _ _ (sA _ _ e))
    · rw [← rn7, hrun, ej', List.append_assoc]
      rfl
end
end KQ
set_option Elab.async false
set_option maxRecDepth 100000
set_option maxHeartbeats 4000000
namespace KQ
open PySem PySem.Spec PyProof.Rows L2
def OkT (R : Rules) (ts : List Tsk) : Prop := ∀ p ∈ ts, (0 ≤ p.1 ∧ p.1 < R.length) ∧ p.2 ≤ 12
theorem TsAt.get {H : Hp} {vs : List V} {ts : List Tsk} (t : TsAt H vs ts) : ∀ {i : Nat} {v : V}, vs[i]? = some v → ∃ (a : Addr) (x : Tsk), v = .ref a ∧ ts[i]? = some x ∧ H a = some (.tup [.int x.1, .int (x.2 : Int)]) := by
  induction t with
  | nil => intro i v h; simp at h
  | @cons a vs x xs e _ ih =>
    intro i v h
    cases i with
    | zero =>
      simp at h
      subst h
      exact ⟨a, x, rfl, rfl, e⟩
    | succ i => simpa using ih (by simpa using h)
theorem kept_tupK {m : Int} {R : Rules} {H H' : Hp} {kp : Addr} {kvs : List (List Key × V)} (K : Kept m R H kp kvs) (k : Kp (Nk kp) H H') : TupK H H' := fun b xs e => k _ _ e (ne_of e K.at_ (by intro z; cases z))
def spTotal (lt : Bool) : Sp := fun vs H Q _ => ∃ (kp r g : Addr) (m : Int) (R : Rules) (kvs : List (List Key × V)) (gs : List V) (ts : List Tsk), vs = [.int m, .ref r, .ref kp, .ref g] ∧ OkWorks m R ∧ Rp (Nk kp) H (.ref r) (rulesD R) ∧ Kept m R H kp kvs ∧
  H g = some (if lt then .lst gs else .tup gs) ∧ TsAt H gs ts ∧ OkT R ts ∧ ts.length ≤ 1000 ∧ ∀ (kvs' : List (List Key × V)) (H' : Hp), Kept m R H' kp kvs' → Kp (Nk kp) H H' → Q (.int (wt R ts)) H'
section
variable {P : Program} {w : World} {K : PySem.W.Frag} {mg : Str → Option Value} {base : Heap}
theorem total_turn {m : Int} {R : Rules} {kp r D : Addr} {H : Hp} {ts : List Tsk} {gs : List V} (ok : OkWorks m R) (rr : Rp (Nk kp) H (.ref r) (rulesD R)) (tg : TsAt H gs ts) (oT : OkT R ts) (hlen : ts.length ≤ 1000) (nD : H D = none) (i : Nat) (x : V) (H' : Hp) (kvs1 : List (List Key × V)) (hx : gs[i]? = some x) (K1 : Kept m R H' kp kvs1) (k1 : Kp (Nk kp) H H') (kt : TupK H H') (eD : H' D = some (.lst ((ts.take i).map fun p => .int (tot R p.2 p.1)))) :
    spCounts 12 [.int m, .ref r, .ref kp, .int 0, x] H' (fun v H2 => rSumT K [v] H2 fun y H4 => ∃ acc, H4 D = some (.lst acc) ∧ acc.length < sizeLine ∧ (∃ kvs2, Kept m R (upd H4 D (.lst (acc ++ [y]))) kp kvs2 ∧ Kp (Nk kp) H (upd H4 D (.lst (acc ++ [y]))) ∧ TupK H (upd H4 D (.lst (acc ++ [y]))) ∧ upd H4 D (.lst (acc ++ [y])) D = some (.lst ((ts.take (i + 1)).map fun p => .int (tot R p.2 p.1))))) (fun _ _ _ => False) := by
  obtain ⟨a, t, rfl, ht, ea⟩ := tg.get hx
  have okt := oT t (List.mem_of_getElem? ht)
  have m1 := ok.m1
  have hDk : D ≠ kp := fun z => by
    rw [z, K1.at_] at eD
    cases eD
  refine ⟨kp, r, a, m, 0, t.1, t.2, R, kvs1, rfl, ok, rr.to k1, K1, ⟨Int.le_refl 0, by omega⟩, okt.1, okt.2, Nat.le_refl _, kt _ _ ea, fun ad kvs2 H4 K4 k4 e4 => ?_⟩
  have e5 : H4 ad = some (.tup (((List.range m.toNat).map fun (d : Nat) => lc m R t.2 t.1 0 (d : Int)).map V.int)) := by rw [← fl_ints]; exact e4
  refine ⟨ad, _, rfl, SqT.of e5, ?_⟩
  have es : ((List.range m.toNat).map fun (d : Nat) => lc m R t.2 t.1 0 (d : Int)).sum = tot R t.2 t.1 := fs_lc (by omega) _ _ _ (Int.le_refl 0) (by omega)
  rw [es]
  have eD4 := k4 _ _ eD hDk
  have K5 := K4.but eD4 (H' := upd H4 D (.lst (((ts.take i).map fun p => V.int (tot R p.2 p.1)) ++ [.int (tot R t.2 t.1)]))) fun b hb => upd_ne hb
  refine ⟨_, eD4, ?_, kvs2, K5, fun b o e n => ?_, fun b ys e => ?_, ?_⟩
  · rw [List.length_map, List.length_take]
    exact Nat.lt_of_le_of_lt (show min i ts.length ≤ 1000 by omega) (by decide)
  · rw [upd_ne (ne_of_none e nD)]
    exact k4 _ _ (k1 _ _ e n) n
  · rw [upd_ne (ne_of_none e nD)]
    have e' := kt _ _ e
    exact k4 _ _ e' (ne_of e' K1.at_ (by intro z; cases z))
  · rw [upd_same, map_take ht]
set_option maxHeartbeats 8000000 in
theorem d_law_total (B : Bi mg) (F : FunAt K mg "_law_total" s_law_total) (D_law_counts : Has P w K mg base 14 "_law_counts" ["many", "rules", "kept", "house", "task"] (spCounts 12)) : Has P w K mg base 15 "_law_total" ["many", "rules", "kept", "tasks"] (spTotal true) := by
  refine mk_has F sc_law_total (fun _ _ _ _ _ _ us hl => match us, hl with | [_, _, _, _], _ => rfl) (fun vs H Q E h => ?_) fun f cdv A outer s H vs Q E hr h => ?_
  · obtain ⟨kp, r, g, m, R, kvs, gs, ts, rfl, _⟩ := h
    rfl
  obtain ⟨kp, r, g, m, R, kvs, gs, ts, rfl, ok, rr, KT, eg, tg, oT, hlen, k⟩ := h
  refine ⟨_, (pss_one (ps_ret (pe_callB (cr_sum rfl) rfl B.sum (by decide +kernel) (pa_cons (pe_lc (own := [("task", 4)]) (g := gName 4) (tt := tYes) (te := (tCB (rSumT K) (tCons (tCall (spCounts 12) [] E0 (tCons (tVar 0) (tCons (tVar 1) (tCons (tVar 2) (tCons (tC (.int 0)) (tCons (tVar 4) tNil)))))) tNil))) rfl sc_law_total.nd (pi_list (pv 3)) (blkOk_by (own := [("task", 4)]) (N := ["many", "rules", "kept", "tasks", "task"]) (sc := defScope s_law_total) (by decide +kernel)) (fun _ _ _ _ _ => (pg_name (i := 4) sc_law_total.nd rfl (Or.inl rfl))) (fun _ _ _ _ _ => pts_nil) (fun _ _ _ _ _ => (pe_callB (cr_sumT rfl) rfl B.sum (by decide +kernel) (pa_cons (pe_h D_law_counts (hr.mono (by decide)) rfl (pa_cons (pv 0) (pa_cons (pv 1) (pa_cons (pv 2) (pa_cons pe_int (pa_cons (pv 4) pa_nil)))))) pa_nil)))) pa_nil)))), ?_⟩
  have eg' : H g = some (.lst gs) := eg
  have hl := tg.len
  refine ⟨_, rfl, g, rfl, ⟨gs, SqL.of eg'⟩, fun D nD => ?_⟩
  have sD := same_new (o := .lst []) nD
  have hgD : g ≠ D := ne_of_none eg' nD
  have hgk : g ≠ kp := ne_of eg' KT.at_ (by intro z; cases z)
  refine lc_list (K := K) (a := g) (xs := gs) (fun i H' => ∃ kvs1, Kept m R H' kp kvs1 ∧ Kp (Nk kp) H H' ∧ TupK H H' ∧ H' D = some (.lst ((ts.take i).map fun p => .int (tot R p.2 p.1)))) ⟨kvs, KT.kp sD, Kp.of_same sD, TupK.of_same sD, upd_same⟩ (fun i H' _ ⟨_, _, k1, _⟩ => SqL.of (k1 _ _ eg' hgk)) (fun i x H' hx z => ?_) fun H' z => ?_
  · obtain ⟨kvs1, K1, k1, kt, eD⟩ := z
    refine ⟨rfl, ?_⟩
    refine tYes_ok ?_
    rw [if_pos rfl]
    refine ⟨_, rfl, _, rfl, _, rfl, _, rfl, ?_⟩
    exact total_turn (K := K) ok rr tg oT hlen nD i x H' kvs1 hx K1 k1 kt eD
  · obtain ⟨kvs1, K1, k1, kt, eD⟩ := z
    rw [hl, List.take_length] at eD
    exact ⟨D, ts.map fun p : Tsk => tot R p.2 p.1, rfl, SqL.of (by rw [eD, List.map_map]; rfl), k kvs1 H' K1 k1⟩
set_option maxHeartbeats 8000000 in
theorem d_law_totalT (B : Bi mg) (F : FunAt K mg "_law_total" s_law_total) (D_law_counts : Has P w K mg base 14 "_law_counts" ["many", "rules", "kept", "house", "task"] (spCounts 12)) : Has P w K mg base 15 "_law_total" ["many", "rules", "kept", "tasks"] (spTotal false) := by
  refine mk_has F sc_law_total (fun _ _ _ _ _ _ us hl => match us, hl with | [_, _, _, _], _ => rfl) (fun vs H Q E h => ?_) fun f cdv A outer s H vs Q E hr h => ?_
  · obtain ⟨kp, r, g, m, R, kvs, gs, ts, rfl, _⟩ := h
    rfl
  obtain ⟨kp, r, g, m, R, kvs, gs, ts, rfl, ok, rr, KT, eg, tg, oT, hlen, k⟩ := h
  refine ⟨_, (pss_one (ps_ret (pe_callB (cr_sum rfl) rfl B.sum (by decide +kernel) (pa_cons (pe_lc (own := [("task", 4)]) (g := gName 4) (tt := tYes) (te := (tCB (rSumT K) (tCons (tCall (spCounts 12) [] E0 (tCons (tVar 0) (tCons (tVar 1) (tCons (tVar 2) (tCons (tC (.int 0)) (tCons (tVar 4) tNil)))))) tNil))) rfl sc_law_total.nd (pi_tup (pv 3)) (blkOk_by (own := [("task", 4)]) (N := ["many", "rules", "kept", "tasks", "task"]) (sc := defScope s_law_total) (by decide +kernel)) (fun _ _ _ _ _ => (pg_name (i := 4) sc_law_total.nd rfl (Or.inl rfl))) (fun _ _ _ _ _ => pts_nil) (fun _ _ _ _ _ => (pe_callB (cr_sumT rfl) rfl B.sum (by decide +kernel) (pa_cons (pe_h D_law_counts (hr.mono (by decide)) rfl (pa_cons (pv 0) (pa_cons (pv 1) (pa_cons (pv 2) (pa_cons pe_int (pa_cons (pv 4) pa_nil)))))) pa_nil)))) pa_nil)))), ?_⟩
  have eg' : H g = some (.tup gs) := eg
  have hl := tg.len
  refine ⟨_, rfl, g, rfl, ⟨gs, SqT.of eg'⟩, fun D nD => ?_⟩
  have sD := same_new (o := .lst []) nD
  refine lc_tup (K := K) (a := g) (xs := gs) (fun i H' => ∃ kvs1, Kept m R H' kp kvs1 ∧ Kp (Nk kp) H H' ∧ TupK H H' ∧ H' D = some (.lst ((ts.take i).map fun p => .int (tot R p.2 p.1)))) ⟨kvs, KT.kp sD, Kp.of_same sD, TupK.of_same sD, upd_same⟩ (fun i H' _ ⟨_, _, _, kt, _⟩ => SqT.of (kt _ _ eg')) (fun i x H' hx z => ?_) fun H' z => ?_
  · obtain ⟨kvs1, K1, k1, kt, eD⟩ := z
    refine ⟨rfl, ?_⟩
    refine tYes_ok ?_
    rw [if_pos rfl]
    refine ⟨_, rfl, _, rfl, _, rfl, _, rfl, ?_⟩
    exact total_turn (K := K) ok rr tg oT hlen nD i x H' kvs1 hx K1 k1 kt eD
  · obtain ⟨kvs1, K1, k1, kt, eD⟩ := z
    rw [hl, List.take_length] at eD
    exact ⟨D, ts.map fun p : Tsk => tot R p.2 p.1, rfl, SqL.of (by rw [eD, List.map_map]; rfl), k kvs1 H' K1 k1⟩
end
end KQ
set_option Elab.async false
set_option maxRecDepth 100000
set_option maxHeartbeats 4000000
namespace KQ
open PySem PySem.Spec PyProof.Rows L2
def spLGiven : Sp := fun vs H Q _ => ∃ (h l r : Addr) (m : Int) (R : Rules), vs = [.ref h, .int m, .ref r, .int 300] ∧ HandOk H h l ∧ OkWorks m R ∧ Rp (Nh h) H (.ref r) (rulesD R) ∧
  ∀ (T : Addr) (gs : List V) (ts : List Tsk) (H' : Hp), HandOk H' h l → Kp (Nh h) H H' → H' T = some (.tup gs) → TsAt H' gs ts → OkT R ts → ts.length ≤ 20 → Q (.ref T) H'
theorem hand_tupK {H H' : Hp} {h l : Addr} (o : HandOk H h l) (k : Kp (Nh h) H H') : TupK H H' := fun b xs e => by
  obtain ⟨⟨ys, eh⟩, _⟩ := o.lst
  exact k _ _ e (ne_of e eh (by intro z; cases z))
/-- a hand, rules, counts kept, and tasks found so far -/
structure G7 (H0 H : Hp) (h l r kp : Addr) (m : Int) (R : Rules) (L : Addr) (i : Nat) : Prop where
  ho : HandOk H h l
  rr : Rp (fun b => b = h ∨ b = kp) H (.ref r) (rulesD R)
  kt : ∃ kvs, Kept m R H kp kvs
  k0 : Kp (Nh h) H0 H
  nk : H0 kp = none
  f : ∃ vs ts, H L = some (.lst vs) ∧ TsAt H vs ts ∧ OkT R ts ∧ ts.length ≤ i
  nL : L ≠ h
section
variable {H0 H H' : Hp} {h l r kp L : Addr} {m : Int} {R : Rules} {i : Nat}
theorem G7.hk (G : G7 H0 H h l r kp m R L i) : kp ≠ h := by
  obtain ⟨kvs, K⟩ := G.kt
  obtain ⟨⟨xs, eh⟩, _⟩ := G.ho.lst
  exact ne_of K.at_ eh (by intro z; cases z)
theorem G7.same (G : G7 H0 H h l r kp m R L i) (s : Same H H') : G7 H0 H' h l r kp m R L i :=
  ⟨G.ho.same s, G.rr.to (Kp.of_same s), let ⟨kvs, K⟩ := G.kt; ⟨kvs, K.kp s⟩, G.k0.trans (Kp.of_same s), G.nk, let ⟨vs, ts, e, t, o, q⟩ := G.f; ⟨vs, ts, s _ _ e, t.kp (TupK.of_same s), o, q⟩, G.nL⟩
theorem G7.hand (G : G7 H0 H h l r kp m R L i) (ho : HandOk H' h l) (k : Kp (Nh h) H H') : G7 H0 H' h l r kp m R L i := by
  have t := hand_tupK G.ho k
  obtain ⟨⟨ys, eh⟩, _⟩ := G.ho.lst
  obtain ⟨kvs, K⟩ := G.kt
  obtain ⟨vs, ts, e, tt, o, q⟩ := G.f
  refine ⟨ho, G.rr.to (k.wide fun a z => .inl z), ⟨kvs, k _ _ K.at_ G.hk, K.nd, fun x hx => ?_⟩, G.k0.trans k, G.nk, ⟨vs, ts, k _ _ e G.nL, tt.kp t, o, q⟩, G.nL⟩
  obtain ⟨h', y, f, a, q1, q2, q3, q4, q5⟩ := K.ok x hx
  exact ⟨h', y, f, a, q1, q2, q3, q4, t _ _ q5⟩
theorem G7.cnt {kvs kvs' : List (List Key × V)} (G : G7 H0 H h l r kp m R L i) (K0 : Kept m R H kp kvs) (K : Kept m R H' kp kvs') (k : Kp (Nk kp) H H') : G7 H0 H' h l r kp m R L i := by
  have t := kept_tupK K0 k
  obtain ⟨xs, i', b, s, c, e1, e2, rest⟩ := G.ho
  obtain ⟨vs, ts, e, tt, o, q⟩ := G.f
  have ne : ∀ {a ys}, H a = some (.lst ys) → a ≠ kp := fun e => ne_of e K0.at_ (by intro z; cases z)
  refine ⟨⟨xs, i', b, s, c, k _ _ e1 (ne e1), k _ _ e2 (ne e2), rest⟩, G.rr.to (k.wide fun a z => .inr z), ⟨kvs', K⟩, fun a u ea n => ?_, G.nk, ⟨vs, ts, k _ _ e (ne e), tt.kp t, o, q⟩, G.nL⟩
  exact k _ _ (G.k0 _ _ ea n) fun z => by
    rw [show a = kp from z, G.nk] at ea
    cases ea
end
section
variable {P : Program} {w : World} {K : PySem.W.Frag} {mg : Str → Option Value} {base : Heap}
set_option maxHeartbeats 16000000 in
theorem d_law_given (B : Bi mg) (F : FunAt K mg "_law_given" s_law_given) (D_law_pick : Has P w K mg base 2 "_law_pick" ["hand", "things"] spPick) (D_law_task : Has P w K mg base 2 "_law_task" ["hand", "rules", "most"] spLawTask2) (D_law_total : Has P w K mg base 15 "_law_total" ["many", "rules", "kept", "tasks"] (spTotal true)) :
    Has P w K mg base 16 "_law_given" ["hand", "many", "rules", "most"] spLGiven := by
  refine mk_has F sc_law_given (fun _ _ _ _ _ _ us hl => match us, hl with | [_, _, _, _], _ => rfl) (fun vs H Q E h => ?_) fun f cdv A outer s H vs Q E hr h => ?_
  · obtain ⟨h, l, r, m, R, rfl, _⟩ := h
    rfl
  obtain ⟨h, l, r, m, R, rfl, ho, ok, rr, fin⟩ := h
  refine ⟨_, (pss_cons (ps_set (i := 4) sc_law_given.nd rfl (Or.inl rfl) pe_dnewT)
    (pss_cons (ps_set (i := 5) sc_law_given.nd rfl (Or.inl rfl) (pe_lst pa_nil))
    (pss_cons (ps_for PassesOwn.never rfl (pi_range1 rfl B.range (pa_cons (pe_h D_law_pick (hr.mono (by decide)) rfl (pa_cons (pv 0) (pa_cons (pe_lst (pa_cons pe_int (pa_cons pe_int (pa_cons pe_int (pa_cons pe_int (pa_cons pe_int (pa_cons pe_int (pa_cons pe_int (pa_cons pe_int pa_nil))))))))) pa_nil))) pa_nil)) (pg_name (i := 6) sc_law_given.nd rfl (Or.inl rfl))
    (pss_cons (ps_set (i := 7) sc_law_given.nd rfl (Or.inl rfl) (pe_h D_law_task (hr.mono (by decide)) rfl (pa_cons (pv 0) (pa_cons (pv 2) (pa_cons pe_int pa_nil)))))
    (pss_one (ps_for PassesOwn.never rfl (pi_range1 rfl B.range (pa_cons (pe_op op_add (pe_ix ix_tup (pv 7) pe_int (fun _ _ => rfl)) pe_int) pa_nil)) (pg_name (i := 8) sc_law_given.nd rfl (Or.inl rfl))
    (pss_cons (ps_set (i := 9) sc_law_given.nd rfl (Or.inl rfl) (pe_op op_cat (pv 5) (pe_lst (pa_cons (pe_tup (pa_cons (pe_ix ix_tup (pv 7) pe_int (fun _ _ => rfl)) (pa_cons (pe_op op_sub (pe_ix ix_tup (pv 7) pe_int (fun _ _ => rfl)) (pv 8)) pa_nil))) pa_nil))))
    (pss_one (ps_if (pt_cmpR op_le (pe_h D_law_total (hr.mono (by decide)) rfl (pa_cons (pv 1) (pa_cons (pv 2) (pa_cons (pv 4) (pa_cons (pv 9) pa_nil))))) (pv 3) (nomark _))
    (pss_cons (ps_set (i := 5) sc_law_given.nd rfl (Or.inl rfl) (pv 9))
    (pss_one ps_break))
    pss_nil)))))))
    (pss_one (ps_ret (pe_callTy call_tuple_of rfl B.tuple (by decide +kernel) (pa_cons (pv 5) pa_nil))))))), ?_⟩
  have m1 := ok.m1
  have r1 := ok.r1
  have r6 := ok.r6
  refine fun kp nk => ⟨(by show 0 ≤ sizeLine; decide), fun L nL => ?_⟩
  have sk := same_new (o := .dT []) nk
  have s2 := sk.trans (same_new (o := .lst []) nL)
  have hLh : L ≠ h := (ho.new nk).ne nL
  have G0 : G7 H (upd (upd H kp (.dT [])) L (.lst [])) h l r kp m R L 0 := ⟨ho.same s2, (rr.more (N' := fun b => b = h ∨ b = kp) fun a z => z.elim .inl fun z => .inr (z ▸ nk)).to (Kp.of_same s2), ⟨[], same_new nL _ _ upd_same, List.nodup_nil, fun _ z => nomatch z⟩, Kp.of_same s2, nk, ⟨[], [], upd_same, .nil, (fun _ z => nomatch z), Nat.le_refl _⟩, hLh⟩
  generalize upd (upd H kp (.dT [])) L (.lst []) = H2 at G0 ⊢
  refine ⟨_, rfl, (by show 8 ≤ sizeLine; decide), fun p np => ?_⟩
  have G1 := G0.same (same_new (o := .lst [.int 0, .int 1, .int 1, .int 2, .int 2, .int 3, .int 5, .int 20]) np)
  refine ⟨h, l, p, _, rfl, G1.ho, upd_same, G0.ho.ne np, (by show 0 < 8; decide), (by show 8 < 1073741824; decide), fun v H3 hv ho3 k3 => ?_⟩
  have G3 := G1.hand ho3 (Kp.hand k3)
  obtain ⟨q, rfl, q0, q1⟩ : ∃ q : Int, v = .int q ∧ 0 ≤ q ∧ q ≤ 20 := by
    simp only [List.mem_cons, List.not_mem_nil, or_false] at hv
    rcases hv with rfl | rfl | rfl | rfl | rfl | rfl | rfl | rfl <;> exact ⟨_, rfl, by decide, by decide⟩
  refine ⟨q, rfl, by omega, by omega, for_range (lo := 0) (n := q.toNat) (fun i σ H' => ∃ L v6 v7 v8 v9, σ = [some (.ref h), some (.int m), some (.ref r), some (.int 300), some (.ref kp), some (.ref L), v6, v7, v8, v9] ∧ G7 H H' h l r kp m R L i) ⟨L, _, _, _, _, rfl, G3⟩ ?_ ?_⟩
  · rintro i σ H4 hi ⟨L, v6, v7, v8, v9, rfl, G4⟩
    obtain ⟨rs, er, lr⟩ : ∃ rs, H4 r = some (.tup rs) ∧ rs.length = R.length := by
      have r4 := G4.rr
      cases r4 with
      | tup e n ra => exact ⟨_, e, ra.length.trans (List.length_map _)⟩
    refine ⟨_, rfl, _, rfl, h, l, r, rs, 12, rfl, G4.ho, er, by omega, by omega, by decide, by decide, fun T kk ff H5 ho5 k5 k0 k1 f0 f1 eT nT => ?_⟩
    rw [lr] at k1
    have G5 := G4.hand ho5 k5
    refine ⟨_, rfl, T, _, _, _, rfl, rfl, SqT.of eT, rfl, _, _, rfl, rfl, ff + 1, rfl, by omega, by omega, ?_⟩
    refine for_range (lo := 0) (n := (ff + 1).toNat) (fun j σ H' => ∃ v8 v9, σ = [some (.ref h), some (.int m), some (.ref r), some (.int 300), some (.ref kp), some (.ref L), some (.int (0 + (i : Int))), some (.ref T), v8, v9] ∧ G7 H H' h l r kp m R L i ∧ H' T = some (.tup [.int kk, .int ff])) ⟨_, _, rfl, G5, eT⟩ ?_ ?_
    · rintro j σ H6 hj ⟨v8, v9, rfl, G6, eT6⟩
      obtain ⟨vs, ts, eL, tL, oL, lL⟩ := G6.f
      refine ⟨_, rfl, _, rfl, T, _, _, _, rfl, rfl, SqT.of eT6, rfl, _, rfl, T, _, _, _, rfl, rfl, SqT.of eT6, rfl, _, rfl, _, _, rfl, rfl, (by show 2 ≤ sizeLine; decide), fun p1 n1 => ⟨(by show 1 ≤ sizeLine; decide), fun p2 n2 => ?_⟩⟩
      have s1 := same_new (o := .tup [.int kk, .int (ff - (0 + (j : Int)))]) n1
      have s2 := s1.trans (same_new (o := .lst [.ref p1]) n2)
      refine ⟨L, p2, vs, [.ref p1], rfl, rfl, s2 _ _ eL, upd_same, ?_, fun p3 n3 => ?_⟩
      · rw [tL.len]
        exact Nat.le_trans (show ts.length + 1 ≤ 21 by omega) (by decide)
      have s3 := s2.trans (same_new (o := .lst (vs ++ [.ref p1])) n3)
      have ep1 := (same_new (o := .lst (vs ++ [.ref p1])) n3) _ _ ((same_new (o := .lst [.ref p1]) n2) _ _ (upd_same (H := H6) (a := p1) (o := .tup [.int kk, .int (ff - (0 + (j : Int)))])))
      have ep3 : upd (upd (upd H6 p1 (.tup [.int kk, .int (ff - (0 + (j : Int)))])) p2 (.lst [.ref p1])) p3 (.lst (vs ++ [.ref p1])) p3 = some (.lst (vs ++ [.ref p1])) := upd_same
      have h3 : p3 ≠ h := (G6.same s2).ho.ne n3
      have G7' := G6.same s3
      have eT7 := s3 _ _ eT6
      generalize upd (upd (upd H6 p1 (.tup [.int kk, .int (ff - (0 + (j : Int)))])) p2 (.lst [.ref p1])) p3 (.lst (vs ++ [.ref p1])) = H7 at s3 ep1 ep3 G7' eT7 ⊢
      obtain ⟨kvs, K7⟩ := G7'.kt
      have hfj : 0 ≤ ff - (0 + (j : Int)) ∧ ff - (0 + (j : Int)) ≤ 12 := ⟨by omega, by omega⟩
      have t7 : TsAt H7 (vs ++ [.ref p1]) (ts ++ [(kk, (ff - (0 + (j : Int))).toNat)]) := (tL.kp (TupK.of_same s3)).app (.cons (by rw [Int.toNat_of_nonneg hfj.1]; exact ep1) .nil)
      have o7 : OkT R (ts ++ [(kk, (ff - (0 + (j : Int))).toNat)]) := fun p hp => by
        rcases List.mem_append.mp hp with z | z
        · exact oL p z
        · cases List.mem_singleton.mp z
          exact ⟨⟨k0, k1⟩, by show (ff - (0 + (j : Int))).toNat ≤ 12; omega⟩
      refine ⟨_, rfl, _, rfl, _, rfl, _, rfl, kp, r, p3, m, R, kvs, _, _, rfl, ok, G7'.rr.kp (N' := Nk kp) Kp.refl (fun a o _ n z => n (.inr z)), K7, ep3, t7, o7, by rw [List.length_append]; show _ + 1 ≤ 1000; omega, fun kvs' H8 K8 k8 => ?_⟩
      have G8 := G7'.cnt K7 K8 k8
      have t8 := kept_tupK K7 k8
      refine ⟨_, rfl, _, _, rfl, rfl, _, rfl, ite2 (fun c => ?_) (fun c => ?_)⟩
      · refine ⟨_, rfl, ?_⟩
        exact ⟨p3, _, _, _, _, rfl, G8.ho, G8.rr, G8.kt, G8.k0, G8.nk, ⟨_, _, k8 _ _ ep3 (ne_of ep3 K7.at_ (by intro z; cases z)), t7.kp t8, o7, by rw [List.length_append]; show _ + 1 ≤ i + 1; omega⟩, h3⟩
      · exact ⟨_, _, rfl, G8, t8 _ _ eT7⟩
    · rintro σ H6 ⟨v8, v9, rfl, G6, eT6⟩
      exact ⟨L, _, _, _, _, rfl, G6.ho, G6.rr, G6.kt, G6.k0, G6.nk, let ⟨vs, ts, e, t, o, q⟩ := G6.f; ⟨vs, ts, e, t, o, Nat.le_succ_of_le q⟩, G6.nL⟩
  · rintro σ H4 ⟨L, v6, v7, v8, v9, rfl, G4⟩
    obtain ⟨vs, ts, eL, tL, oL, lL⟩ := G4.f
    refine ⟨_, rfl, L, vs, rfl, .inl ⟨SqL.of eL, fun p np => ?_⟩⟩
    have sp := same_new (o := .tup vs) np
    exact fin p vs ts _ (G4.ho.same sp) (G4.k0.trans (Kp.of_same sp)) upd_same (tL.kp (TupK.of_same sp)) oL (by omega)
end
end KQ
set_option Elab.async false
set_option maxRecDepth 100000
set_option maxHeartbeats 4000000
namespace KQ
open PySem PySem.Spec PyProof.Rows L2
theorem least_lt : ∀ {B : Bags} {i : Nat}, least B = some i → ∀ (j : Nat), j < i → B.getD j [] = []
  | [], i, h, _, _ => by simp [least] at h
  | (y :: ys) :: B, i, h, j, hj => by
    simp only [least, Option.some.injEq] at h
    omega
  | [] :: B, i, h, j, hj => by
    have h' : (least B).map (· + 1) = some i := h
    obtain ⟨k, hk, rfl⟩ := Option.map_eq_some_iff.mp h'
    cases j with
    | zero => rfl
    | succ j => exact least_lt hk j (by omega)
/-- who works -/
def wk (B : Bags) (n : Nat) : List Nat := (List.range n).filter fun j => !(B.getD j []).isEmpty
theorem wk_succ {B : Bags} {n : Nat} : wk B (n + 1) = if (B.getD n []).isEmpty then wk B n else wk B n ++ [n] := by
  unfold wk
  rw [List.range_succ, List.filter_append]
  cases h : (B.getD n []).isEmpty with
  | true => rw [List.filter_cons, h, if_neg (by decide), if_pos rfl] <;> exact List.append_nil _
  | false => rw [List.filter_cons, h, if_pos (by decide), if_neg (by decide)] <;> rfl
theorem wk_nil {B : Bags} : ∀ {n : Nat}, (∀ j, j < n → B.getD j [] = []) → wk B n = []
  | 0, _ => rfl
  | n + 1, h => by
    rw [wk_succ, h n (Nat.lt_succ_self n), wk_nil fun j hj => h j (Nat.lt_succ_of_lt hj)]
    rfl
theorem wk_some {B : Bags} {i : Nat} {t : Tsk} {ts : List Tsk} (h : least B = some i) (e : B[i]? = some (t :: ts)) : ∀ k : Nat, ∃ r, wk B (i + 1 + k) = i :: r
  | 0 => by
    have g : B.getD i [] = t :: ts := by rw [List.getD_eq_getElem?_getD, e]; rfl
    rw [show i + 1 + 0 = i + 1 by rfl, wk_succ, g, wk_nil (least_lt h)]
    exact ⟨[], rfl⟩
  | k + 1 => by
    obtain ⟨r, hr⟩ := wk_some h e k
    rw [show i + 1 + (k + 1) = (i + 1 + k) + 1 by omega, wk_succ, hr]
    split
    · exact ⟨r, rfl⟩
    · exact ⟨r ++ [i + 1 + k], rfl⟩
theorem wk_none {B : Bags} {n : Nat} (h : least B = none) : wk B n = [] := wk_nil fun j _ => by
  rw [List.getD_eq_getElem?_getD]
  cases e : B[j]? with
  | none => rfl
  | some ys => exact least_no h ys (List.mem_of_getElem? e)
theorem wk_len {B : Bags} : ∀ n : Nat, (wk B n).length ≤ n := fun n => Nat.le_trans (List.length_filter_le _ _) (by rw [List.length_range]; exact Nat.le_refl n)
abbrev rLn (K : PySem.W.Frag) : List V → Hp → VK → Prop := fun xs H Q => ∃ p ys, xs = [.ref p] ∧ (SqL K H p ys ∨ SqT K H p ys) ∧ Q (.int ys.length) H
def spLawRun : Sp := fun vs H Q _ => ∃ (N : Addr → Prop) (r g : Addr) (m : Int) (R : Rules) (gs : List V) (ts : List Tsk), vs = [.int m, .ref r, .ref g, .int 400] ∧ OkWorks m R ∧ Rp N H (.ref r) (rulesD R) ∧ H g = some (.tup gs) ∧ TsAt H gs ts ∧ OkT R ts ∧ ts.length ≤ 20 ∧ wt R ts ≤ 400 ∧
  ∀ (L : Addr) (vs : List V) (H' : Hp), Same H H' → H' L = some (.lst vs) → ItAt H' vs (run m R (startB m ts)) → Q (.ref L) H'
section
variable {P : Program} {w : World} {K : PySem.W.Frag} {mg : Str → Option Value} {base : Heap}
set_option maxHeartbeats 16000000 in
theorem d_law_run (B : Bi mg) (F : FunAt K mg "_law_run" s_law_run) (D_law_sent : Has P w K mg base 1 "_law_sent" ["many", "rules", "house", "task"] spLawSent) : Has P w K mg base 2 "_law_run" ["many", "rules", "given", "most"] spLawRun := by
  refine mk_has F sc_law_run (fun _ _ _ _ _ _ us hl => match us, hl with | [_, _, _, _], _ => rfl) (fun vs H Q E h => ?_) fun f cdv A outer s H vs Q E hr h => ?_
  · obtain ⟨N, r, g, m, R, gs, ts, rfl, _⟩ := h
    rfl
  obtain ⟨N, r, g, m, R, gs, ts, rfl, ok, rr, eg, tg, ht, hl, hw, fin⟩ := h
  refine ⟨_, (pss_cons (ps_set (i := 4) sc_law_run.nd rfl (Or.inr rfl) (pe_op op_cat (pe_lst (pa_cons (pe_callTy call_list_of rfl B.list (by decide +kernel) (pa_cons (pv 2) pa_nil)) pa_nil)) (pe_lc (own := [("house", 5)]) (g := gName 5) (tt := tYes) (te := (tLst tNil)) rfl sc_law_run.nd (pi_range1 rfl B.range (pa_cons (pe_op op_sub (pv 0) pe_int) pa_nil)) (blkOk_by (own := [("house", 5)]) (N := ["many", "rules", "given", "most", "bags", "house", "found", "k", "working", "task", "to", "later", "some"]) (sc := defScope s_law_run) (by decide +kernel)) (fun _ _ _ _ _ => (pg_name (i := 5) sc_law_run.nd rfl (Or.inl rfl))) (fun _ _ _ _ _ => pts_nil) (fun _ _ _ _ _ => (pe_lst pa_nil)))))
    (pss_cons (ps_set (i := 6) sc_law_run.nd rfl (Or.inl rfl) (pe_lst pa_nil))
    (pss_cons (ps_for PassesOwn.never rfl (pi_range1 rfl B.range (pa_cons (pe_op op_add (pv 3) pe_int) pa_nil)) (pg_name (i := 7) sc_law_run.nd rfl (Or.inl rfl))
    (pss_cons (ps_setLc (i := 8) (own := [("house", 5)]) (g := gName 5) (tt := (tTest (tOp (rI0 fun i j => .bl (decide (j < i))) (tCB (rLn K) (tCons (tOp (rIxL K) (tVar 4) (tVar 5)) tNil)) (tC (.int 0))))) (te := (tVar 5)) rfl sc_law_run.nd rfl rfl (sw_true rfl rfl rfl (by decide +kernel)) (pi_range1 rfl B.range (pa_cons (pv 0) pa_nil)) (blkOk_by (own := [("house", 5)]) (N := ["many", "rules", "given", "most", "bags", "house", "found", "k", "working", "task", "to", "later", "some"]) (sc := defScope s_law_run) (by decide +kernel)) (fun _ _ _ _ _ => (pg_name (i := 5) sc_law_run.nd rfl (Or.inl rfl))) (fun _ _ _ _ _ => (pts_one (pt_cmpR op_gt (pe_callB call_len_seq rfl B.len PySem.boot_len (pa_cons (pe_ix ix_list (pv 4) (pv 5) (fun _ _ => rfl)) pa_nil)) pe_int (nomark _)))) (fun _ _ _ _ _ => (pv 5)))
    (pss_cons (ps_if (pt_cmpR op_eq (pe_callB call_len_seq rfl B.len PySem.boot_len (pa_cons (pv 8) pa_nil)) pe_int (nomark _))
    (pss_one (ps_ret (pv 6)))
    pss_nil)
    (pss_cons (ps_set (i := 5) sc_law_run.nd rfl (Or.inl rfl) (pe_ix ix_list (pv 8) pe_int (fun _ _ => rfl)))
    (pss_cons (ps_set (i := 9) sc_law_run.nd rfl (Or.inl rfl) (pe_bm PySem.F.plainAttrs_list PySem.F.slot_list_pop PySem.F.type_list_pop mt_popAt (pe_ix ix_list (pv 4) (pv 5) (fun _ _ => rfl)) (pa_cons pe_int pa_nil)))
    (pss_cons (ps_expr (pe_bm PySem.F.plainAttrs_list PySem.F.slot_list_append PySem.F.type_list_append mt_append (pv 6) (pa_cons (pe_tup (pa_cons (pv 5) (pa_cons (pv 9) pa_nil))) pa_nil)))
    (pss_one (ps_for PassesOwn.never rfl (pi_list (pe_h D_law_sent (hr.mono (by decide)) rfl (pa_cons (pv 0) (pa_cons (pv 1) (pa_cons (pv 5) (pa_cons (pv 9) pa_nil)))))) (pg_tup rfl (pgs_cons (pg_name (i := 10) sc_law_run.nd rfl (Or.inl rfl)) (pgs_cons (pg_name (i := 11) sc_law_run.nd rfl (Or.inl rfl)) pgs_nil)))
    (pss_cons (ps_set (i := 12) sc_law_run.nd rfl (Or.inl rfl) (pe_ix ix_list (pv 4) (pv 10) (fun _ _ => rfl)))
    (pss_one (ps_expr (pe_bm PySem.F.plainAttrs_list PySem.F.slot_list_append PySem.F.type_list_append mt_append (pv 12) (pa_cons (pv 11) pa_nil)))))))))))))
    (pss_one (ps_ret pe_non))))), ?_⟩
  have m1 := ok.m1
  have m6 := ok.m6
  refine ⟨_, rfl, g, gs, rfl, .inr (SqT.of eg), fun x0 n0 => ⟨(by show 1 ≤ sizeLine; decide), fun q nq => ?_⟩⟩
  have s1 := same_new (o := .lst gs) n0
  have s2 := s1.trans (same_new (o := .lst [.ref x0]) nq)
  have e0 := (same_new (o := .lst [.ref x0]) nq) _ _ (upd_same (H := H) (a := x0) (o := .lst gs))
  have eq0 : upd (upd H x0 (.lst gs)) q (.lst [.ref x0]) q = some (.lst [.ref x0]) := upd_same
  generalize upd (upd H x0 (.lst gs)) q (.lst [.ref x0]) = H2 at s2 e0 eq0 ⊢
  refine ⟨_, rfl, _, _, rfl, rfl, m - 1, rfl, by omega, by omega, fun b nb => ?_⟩
  refine lc_range (lo := 0) (n := (m - 1).toNat) (fun i H' => Same H2 H' ∧ ∃ bs : List Addr, H' b = some (.lst (bs.map V.ref)) ∧ bs.length = i ∧ bs.Nodup ∧ b ∉ bs ∧ ∀ x ∈ bs, H2 x = none ∧ H' x = some (.lst [])) ⟨same_new nb, [], upd_same, rfl, List.nodup_nil, (by simp), fun _ z => nomatch z⟩ (fun i H' hi z => ?_) fun H' z => ?_
  · obtain ⟨s3, bs, eb, lb, nd, nbb, hx⟩ := z
    refine ⟨rfl, ?_⟩
    refine tYes_ok ?_
    rw [if_pos rfl]
    refine ⟨(by show 0 ≤ sizeLine; decide), fun y ny => ?_⟩
    have s4 := same_new (o := .lst []) ny
    have hyb : b ≠ y := ne_of_none eb ny
    refine ⟨_, s4 _ _ eb, ?_, same_put (s3.trans s4) nb, bs ++ [y], by rw [upd_same, List.map_append] <;> rfl, by rw [List.length_append, lb] <;> rfl, ?_, ?_, fun x hx' => ?_⟩
    · rw [List.length_map, lb]
      exact Nat.lt_of_lt_of_le (show i < 7 by omega) (by decide)
    · rw [List.nodup_append]
      refine ⟨nd, by simp, fun x hx' z hz e => ?_⟩
      cases List.mem_singleton.mp hz
      have q := (hx x hx').2
      rw [e, ny] at q
      cases q
    · intro z
      rcases List.mem_append.mp z with z | z
      · exact nbb z
      · exact hyb (List.mem_singleton.mp z)
    · rcases List.mem_append.mp hx' with z | z
      · exact ⟨(hx x z).1, by rw [upd_ne fun e : x = b => nbb (e ▸ z)]; exact s4 _ _ (hx x z).2⟩
      · cases List.mem_singleton.mp z
        exact ⟨s3.free ny, by rw [upd_ne hyb.symm]; exact upd_same⟩
  obtain ⟨s3, ys, eb, lb, nd, nbb, hx⟩ := z
  refine ⟨q, b, [.ref x0], ys.map V.ref, rfl, rfl, s3 _ _ eq0, eb, ?_, fun bb nbb' => ?_⟩
  · rw [List.length_map, lb]
    exact Nat.le_trans (show 1 + (m - 1).toNat ≤ 7 by omega) (by decide)
  have s4 := same_new (o := .lst ([.ref x0] ++ ys.map V.ref)) nbb'
  have x0ys : x0 ∉ ys := fun z => by
    have := (hx x0 z).1
    rw [e0] at this
    cases this
  have A0 : BagsAt (upd H' bb (.lst ([.ref x0] ++ ys.map V.ref))) bb (x0 :: ys) (startB m ts) := by
    refine ⟨upd_same, List.nodup_cons.mpr ⟨x0ys, nd⟩, fun z => ?_, ?_, fun i x us h1 h2 => ?_⟩
    · rcases List.mem_cons.mp z with z | z
      · rw [z, s3 _ _ e0] at nbb'
        cases nbb'
      · rw [(hx _ z).2] at nbb'
        cases nbb'
    · simp only [startB, List.length_cons, lb, List.length_replicate]
      omega
    · cases i with
      | zero =>
        cases h1
        cases h2
        exact ⟨gs, s4 _ _ (s3 _ _ e0), tg.kp (TupK.of_same ((s2.trans s3).trans s4))⟩
      | succ i =>
        have h1' : ys[i]? = some x := h1
        have h2' : (List.replicate (m.toNat - 1) ([] : List Tsk))[i]? = some us := h2
        cases (List.mem_replicate.mp (List.mem_of_getElem? h2')).2
        exact ⟨[], s4 _ _ (hx x (List.mem_of_getElem? h1')).2, .nil⟩
  have bsf : ∀ x ∈ x0 :: ys, H x = none := fun x z => by
    rcases List.mem_cons.mp z with z | z
    · rw [z]
      exact n0
    · exact s2.free (hx x z).1
  have s05 : Same H (upd H' bb (.lst ([.ref x0] ++ ys.map V.ref))) := (s2.trans s3).trans s4
  generalize upd H' bb (.lst ([.ref x0] ++ ys.map V.ref)) = H5 at A0 s05 ⊢
  clear s4 nbb' eb hx nb e0 eq0 s3 s2 s1
  generalize (x0 :: ys) = bs at A0 bsf
  refine ⟨(by show 0 ≤ sizeLine; decide), fun L nL => ?_⟩
  have sL := same_new (o := .lst []) nL
  have s06 := s05.trans sL
  have A2 := A0.same sL
  have LH : H L = none := s05.free nL
  have Lb : L ≠ bb := (ne_of_none A0.at_ nL).symm
  have Lbs : L ∉ bs := fun z => by
    obtain ⟨i, hi⟩ := List.mem_iff_getElem?.mp z
    have hl := A0.len
    have := (List.getElem?_eq_some_iff.mp hi).1
    obtain ⟨ys, e, _⟩ := A0.bag i L _ hi (get_getD (by omega))
    rw [nL] at e
    cases e
  have eL : upd H5 L (.lst []) L = some (.lst []) := upd_same
  generalize upd H5 L (.lst []) = H6 at A2 s06 eL ⊢
  have atx : ∀ {i : Nat} {x : Addr}, bs[i]? = some x → atI (bs.map V.ref) (i : Int) = some (.ref x) := fun h => atI_nat (by rw [List.getElem?_map, h]; rfl)
  have hrl : (run m R (startB m ts)).length ≤ 400 := by
    have := startB_wb (m := m) (R := R) (ts := ts)
    have := wb_nn (R := R) (startB m ts)
    rw [run_len (by omega) (wb R (startB m ts)).toNat _ (startB_len (by omega)) (by omega)]
    omega
  refine ⟨_, rfl, _, _, rfl, rfl, 401, rfl, by decide, by decide, for_range (lo := 0) (n := (401 : Int).toNat) (fun i σ H' => ∃ v5 v7 v8 v9 v10 v11 v12 Bg acc ps, σ = [some (.int m), some (.ref r), some (.ref g), some (.int 400), some (.ref bb), v5, some (.ref L), v7, v8, v9, v10, v11, v12] ∧ Same H H' ∧ BagsAt H' bb bs Bg ∧ H' L = some (.lst acc) ∧ ItAt H' acc ps ∧ OkB R Bg ∧ (Bg.length : Int) = m ∧ ps ++ run m R Bg = run m R (startB m ts) ∧ ps.length = i)
    ⟨_, _, _, _, _, _, _, startB m ts, [], [], rfl, s06, A2, eL, .nil, startB_ok ht, startB_len (by omega), rfl, rfl⟩ ?_ ?_⟩
  · rintro k σ H7 hk ⟨v5, v7, v8, v9, v10, v11, v12, Bg, acc, ps, rfl, s7, A7, eL7, it7, ok7, lB7, rn7, lps⟩
    refine ⟨_, rfl, m, rfl, by omega, by omega, fun D nD => ?_⟩
    have sD := same_new (o := .lst []) nD
    refine lc_range (lo := 0) (n := m.toNat) (fun i H' => Same H7 H' ∧ H' D = some (.lst ((wk Bg i).map fun (j : Nat) => .int (j : Int)))) ⟨sD, upd_same⟩ (fun i H' hi z => ?_) fun H8 z => ?_
    · obtain ⟨s8, eD⟩ := z
      have hB := get_getD (B := Bg) (i := i) (by omega)
      obtain ⟨x, xs, hxi, exs, txs⟩ := A7.get hB
      refine ⟨rfl, ?_⟩
      refine ⟨_, rfl, _, rfl, bb, _, _, .ref x, rfl, rfl, SqL.of (s8 _ _ A7.at_), (by rw [Int.zero_add]; exact atx hxi), x, xs, rfl, .inl (SqL.of (s8 _ _ exs)), _, _, rfl, rfl, _, rfl, ?_⟩
      have hle := txs.len
      rw [wk_succ]
      cases hz : (Bg.getD i []) with
      | nil =>
        rw [hz] at hle
        refine ifF (decide_eq_false (by rw [hle]; decide)) ⟨s8, ?_⟩
        exact eD
      | cons y ys =>
        rw [hz, List.length_cons] at hle
        refine ifT (decide_eq_true (by omega)) ⟨_, rfl, _, eD, ?_, same_put s8 nD, ?_⟩
        · rw [List.length_map]
          exact Nat.lt_of_le_of_lt (wk_len i) (Nat.lt_of_lt_of_le (show i < 7 by omega) (by decide))
        · rw [upd_same, Int.zero_add]
          show some (HO.lst _) = some (HO.lst (List.map _ (wk Bg i ++ [i])))
          rw [List.map_append]
          rfl
    obtain ⟨s8, eD⟩ := z
    refine ⟨_, rfl, D, _, rfl, .inl (SqL.of eD), rfl, _, rfl, ?_⟩
    cases el : least Bg with
    | none =>
      refine ifT (by rw [wk_none el]; rfl) ⟨_, rfl, ?_⟩
      rw [run_none el, List.append_nil] at rn7
      subst rn7
      exact fin L acc H8 (s7.trans s8) (s8 _ _ eL7) (it7.kp (TupK.of_same s8))
    | some i =>
    obtain ⟨t, us, eB⟩ := least_some el
    have hi : i < m.toNat := by
      have := (List.getElem?_eq_some_iff.mp eB).1
      omega
    obtain ⟨wr, hwr⟩ := wk_some el eB (m.toNat - (i + 1))
    rw [show i + 1 + (m.toNat - (i + 1)) = m.toNat by omega] at hwr
    rw [hwr] at eD ⊢
    refine ifF (by rw [List.length_map, List.length_cons]; simp; omega) ?_
    have A8 := A7.same s8
    have s08 := s7.trans s8
    have eL8 := s8 _ _ eL7
    have it8 := it7.kp (TupK.of_same s8)
    obtain ⟨x, xs, hxi, exs, txs⟩ := A8.get eB
    cases txs with
    | @cons ta vs' _ _ et tvs =>
    have hrun := run_step (m := m) (R := R) (by omega) lB7 el eB
    have hwb := step_wb (m := m) (R := R) (by omega) lB7 eB
    have hwp := wb_pos (R := R) eB
    have xb : x ∈ bs := List.mem_of_getElem? hxi
    have hla : acc.length + (run m R Bg).length ≤ 400 := by
      have q := congrArg List.length rn7
      rw [List.length_append] at q
      have := it7.len
      omega
    have hrb : (run m R Bg).length = (wb R Bg).toNat := run_len (by omega) (wb R Bg).toNat Bg lB7 (by omega)
    refine ⟨_, rfl, D, _, _, .int (i : Int), rfl, rfl, SqL.of eD, atI_nat (j := 0) rfl, ?_⟩
    refine ⟨_, rfl, _, rfl, bb, _, _, .ref x, rfl, rfl, SqL.of A8.at_, atx hxi, .inl ⟨rfl, _, SqL.of exs⟩, x, _, 0, 0, .ref ta, rfl, rfl, exs, by decide, by decide, (by rw [seqIndex_of (by decide) (by rw [List.length_cons]; omega)]; rfl), rfl, ?_⟩
    have A9 := A8.put (xs := (V.ref ta :: vs').eraseIdx 0) hxi exs tvs
    have k9 := tupK_lst (ys := (V.ref ta :: vs').eraseIdx 0) exs
    have s09 : Same H (upd H8 x (.lst ((V.ref ta :: vs').eraseIdx 0))) := same_put s08 (bsf x xb)
    have eL9 : upd H8 x (.lst ((V.ref ta :: vs').eraseIdx 0)) L = some (.lst acc) := by rw [upd_ne fun e : L = x => Lbs (e ▸ xb)]; exact eL8
    generalize upd H8 x (.lst ((V.ref ta :: vs').eraseIdx 0)) = H9 at A9 k9 s09 eL9 ⊢
    have okt := ok7 _ (List.mem_of_getElem? eB) t List.mem_cons_self
    have oku : ∀ u ∈ us, (0 ≤ u.1 ∧ u.1 < R.length) ∧ u.2 ≤ 12 := fun u hu => ok7 _ (List.mem_of_getElem? eB) u (List.mem_cons_of_mem _ hu)
    refine ⟨_, rfl, .inl ⟨rfl, _, SqL.of eL9⟩, _, rfl, _, rfl, (by show 2 ≤ sizeLine; decide), fun T nT => ?_⟩
    have sT := same_new (o := .tup [.int (i : Int), .ref ta]) nT
    have eLT := sT _ _ eL9
    refine ⟨L, _, _, rfl, rfl, eLT, ?_, ?_⟩
    · exact Nat.lt_of_lt_of_le (show acc.length < 401 by omega) (by decide)
    have kA := tupK_lst (ys := acc ++ [.ref T]) eLT
    have AA : BagsAt (upd (upd H9 T (.tup [.int (i : Int), .ref ta])) L (.lst (acc ++ [.ref T]))) bb bs (Bg.set i us) := (A9.same sT).keep (fun c hc o e => by
      rw [upd_ne fun z : c = L => hc.elim (fun y => Lb (z ▸ y)) fun y => Lbs (z ▸ y)]
      exact e) kA
    have sA : Same H (upd (upd H9 T (.tup [.int (i : Int), .ref ta])) L (.lst (acc ++ [.ref T]))) := same_put (s09.trans sT) LH
    have eLA : upd (upd H9 T (.tup [.int (i : Int), .ref ta])) L (.lst (acc ++ [.ref T])) L = some (.lst (acc ++ [.ref T])) := upd_same
    have eTA := kA _ _ (upd_same (H := H9) (a := T) (o := .tup [.int (i : Int), .ref ta]))
    have etA := kA _ _ (sT _ _ (k9 _ _ et))
    have itA := (it8.kp fun c ys e => kA _ _ (sT _ _ (k9 _ _ e))).app (.cons (x := ((i : Int), t)) eTA etA .nil)
    generalize upd (upd H9 T (.tup [.int (i : Int), .ref ta])) L (.lst (acc ++ [.ref T])) = HA at AA sA eLA itA eTA etA ⊢
    clear k9 kA sT eLT
    refine ⟨_, rfl, _, rfl, _, rfl, _, rfl, NF, r, ta, m, (i : Int), t.1, (t.2 : Int), R, rfl, by omega, (rr.to (Kp.of_same sA)).nf, (fun ps hp => Nat.le_trans (ok.at_ ps hp).len (by decide)), etA, okt.1.1, okt.1.2, by omega, fun Ts ws HB nTs sB eTs ra => ?_⟩
    rw [sentD_kids] at ra
    have sAB := sA.trans sB
    have AB := AA.same sB
    have iw := ItAt.of_rp ra
    have hwl := iw.len
    have TsL : Ts ≠ L := (ne_of_none eLA nTs).symm
    have Tsb : Ts ∉ bs := fun z => by
      obtain ⟨j, hj⟩ := List.mem_iff_getElem?.mp z
      have hl := AA.len
      have := (List.getElem?_eq_some_iff.mp hj).1
      obtain ⟨ys, e, _⟩ := AA.bag j Ts _ hj (get_getD (by omega))
      rw [nTs] at e
      cases e
    refine ⟨Ts, rfl, ⟨ws, SqL.of eTs⟩, for_list (K := K) (a := Ts) (xs := ws) (fun j σ H' => ∃ v10 v11 v12 Bj, σ = [some (.int m), some (.ref r), some (.ref g), some (.int 400), some (.ref bb), some (.int (i : Int)), some (.ref L), some (.int (0 + (k : Int))), some (.ref D), some (.ref ta), v10, v11, v12] ∧ Same H H' ∧ TupK HB H' ∧ H' Ts = some (.lst ws) ∧ BagsAt H' bb bs Bj ∧ H' L = some (.lst (acc ++ [.ref T])) ∧ OkB R Bj ∧ (∀ xs ∈ Bj, xs.length ≤ 21000 + j) ∧ Bj = ((kidsT m R i t).take j).foldl push (Bg.set i us))
      ⟨_, _, _, _, rfl, sAB, (fun _ _ e => e), eTs, AB, sB _ _ eLA, okB_set ok7 oku, ?_, rfl⟩ (fun j σ H' _ ⟨_, _, _, _, _, _, _, e, _⟩ => SqL.of e) ?_ ?_⟩
    · intro xs hxs
      have e1 := wb_mem (R := R) hxs
      rw [wb_set eB] at e1
      have e2 : wt R (t :: us) = tot R t.2 t.1 + wt R us := rfl
      have := tot_pos (R := R) t.2 t.1
      omega
    · rintro j v σ HC hv' ⟨v10, v11, v12, Bj, rfl, sC, kC, eTC, AC, eLC, okj, hlj, ej⟩
      obtain ⟨b1, a1, y, rfl, hy, f1, f2⟩ := iw.get hv'
      have hyk := List.mem_of_getElem? hy
      have hin := kids_in (m := m) (by omega) y hyk
      have hjl := (List.getElem?_eq_some_iff.mp hy).1
      have hk4 := kids_len (h := (i : Int)) ok okt
      have hBl : (Bj.length : Int) = m := by rw [ej, pushs_len, List.length_set]; exact lB7
      have hto : y.1.toNat < Bj.length := by omega
      obtain ⟨z, zs, hz, ez, tz⟩ := AC.get (get_getD hto)
      have zb : z ∈ bs := List.mem_of_getElem? hz
      have hat : atI (bs.map V.ref) y.1 = some (.ref z) := by
        have q := atx hz
        rwa [Int.toNat_of_nonneg hin.1] at q
      have hzl : zs.length ≤ 21000 + j := by
        rw [tz.len]
        exact hlj _ (List.mem_of_getElem? (get_getD hto))
      refine ⟨_, _, rfl, SqT.of (kC _ _ f1), rfl, _, _, rfl, _, _, rfl, rfl, ?_⟩
      refine ⟨_, rfl, _, rfl, bb, _, _, .ref z, rfl, rfl, SqL.of AC.at_, hat, ?_⟩
      refine ⟨_, rfl, .inl ⟨rfl, _, SqL.of ez⟩, _, rfl, z, _, _, rfl, rfl, ez, ?_, ?_⟩
      · exact Nat.lt_of_lt_of_le (show zs.length < 21005 by omega) (by decide)
      have kz := tupK_lst (ys := zs ++ [.ref a1]) ez
      refine ⟨_, _, _, push Bj y, rfl, same_put sC (bsf z zb), (fun c ys e => kz _ _ (kC _ _ e)), by rw [upd_ne fun e : Ts = z => Tsb (e ▸ zb)]; exact eTC, ?_, by rw [upd_ne fun e : L = z => Lbs (e ▸ zb)]; exact eLC, okB_push okj (kids_ok ok okt y hyk), push_mem hlj, ?_⟩
      · exact AC.put hz ez (tz.app (.cons (kC _ _ f2) .nil))
      · rw [List.take_add_one, hy, ej, List.foldl_append]
        rfl
    · rintro σ HC ⟨v10, v11, v12, Bj, rfl, sC, kC, eTC, AC, eLC, okj, hlj, ej⟩
      rw [hwl, List.take_length] at ej
      have ej' : Bj = stepB m R Bg i t us := ej
      refine ⟨_, _, _, _, _, _, _, Bj, acc ++ [.ref T], ps ++ [((i : Int), t)], rfl, sC, AC, eLC, itA.kp fun c ys e => kC _ _ (sB _ _ e), okj, by rw [ej', step_len]; exact lB7, ?_, by rw [List.length_append, lps] <;> rfl⟩
      rw [← rn7, hrun, ej', List.append_assoc]
      rfl
  · rintro σ H7 ⟨v5, v7, v8, v9, v10, v11, v12, Bg, acc, ps, rfl, s7, A7, eL7, it7, ok7, lB7, rn7, lps⟩
    have q := congrArg List.length rn7
    rw [List.length_append, lps] at q
    have : (401 : Int).toNat = 401 := rfl
    omega
end
end KQ
set_option Elab.async false
set_option maxRecDepth 100000
set_option maxHeartbeats 4000000
namespace KQ
open PySem PySem.Spec PyProof.Rows L2
def spTold (C : Addr) : Sp := fun vs H Q _ => ∃ (N : Addr → Prop) (a r g : Addr) (m : Int) (R : Rules) (gs : List V) (ts : List Tsk), vs = [.ref a, .ref g] ∧ WorksAt C H a (.int m) (.ref r) ∧ OkWorks m R ∧ Rp N H (.ref r) (rulesD R) ∧ H g = some (.tup gs) ∧ TsAt H gs ts ∧ ts.length ≤ 20 ∧ OkT R ts ∧
  (20000 < wt R ts → ∀ (T : Addr) (H' : Hp), Same H H' → H' T = some (.tup [.str "TooMany", .int 20000]) → Q (.ref T) H') ∧
  (wt R ts ≤ 20000 → ∀ (T L : Addr) (vs : List V) (H' : Hp), Same H H' → H' T = some (.tup [.str "told", .ref L]) → H' L = some (.lst vs) → ItAt H' vs (run m R (startB m ts)) → Q (.ref T) H')
theorem TsAt.rp {H : Hp} {vs : List V} {ts : List Tsk} (t : TsAt H vs ts) : RpAll NF H vs (ts.map tskD) := by
  induction t with
  | nil => exact .nil
  | cons e _ ih => exact .cons (.tup e (fun z => z) (.cons (.int _) (.cons (.int _) .nil))) ih
/-- an expression that makes a tuple of these tasks -/
def Mk5 (te : TE) (σ : L2.St) (ts : List Tsk) : Prop := ∀ (H : Hp) (Q : VK), (∀ (p : Addr) (xs : List V) (H' : Hp), Same H H' → H' p = some (.tup xs) → TsAt H' xs ts → Q (.ref p) H') → te σ H Q
theorem Mk5.one {σ : L2.St} {f : Nat} : Mk5 (tTup (tCons (tTup (tCons (tC (.int 0)) (tCons (tC (.int (f : Int))) tNil))) tNil)) σ [(0, f)] := fun H Q k => by
  refine ⟨(by show 2 ≤ sizeLine; decide), fun p1 n1 => ⟨(by show 1 ≤ sizeLine; decide), fun p2 n2 => ?_⟩⟩
  exact k p2 _ _ ((same_new n1).trans (same_new n2)) upd_same (.cons (t := (0, f)) (same_new n2 _ _ upd_same) .nil)
theorem Mk5.rep {K : PySem.W.Frag} {σ : L2.St} {te : TE} {t : Tsk} {n : Nat} (m : Mk5 te σ [t]) (h2 : 2 ≤ n) (h : n ≤ 1000) : Mk5 (tOp (rRepA K) te (tC (.int (n : Int)))) σ (List.replicate n t) := fun H Q k => by
  refine m H _ fun p xs H1 s1 e1 t1 => ?_
  cases t1 with
  | @cons a _ _ _ ea t0 =>
  cases t0
  refine ⟨p, _, [.ref a], rfl, rfl, SqT.of e1, (fun z => nomatch z), by omega, by omega, (by show 1 ≤ 1000; decide), (fun z => by omega), fun hk q nq => ?_⟩
  have sq := same_new (o := .tup (List.replicate ((n : Int)).toNat [V.ref a]).flatten) nq
  refine k q _ _ (s1.trans sq) upd_same ?_
  rw [Int.toNat_natCast]
  have ea' := sq _ _ ea
  rw [Int.toNat_natCast] at ea'
  generalize upd H1 q (.tup (List.replicate n [V.ref a]).flatten) = H2 at ea' ⊢
  clear sq h2 h k hk
  induction n with
  | zero => exact .nil
  | succ n ih =>
    rw [List.replicate_succ, List.replicate_succ, List.flatten_cons]
    exact .cons ea' ih
theorem Mk5.cat {K : PySem.W.Frag} {σ : L2.St} {ta tb : TE} {ts us : List Tsk} (a : Mk5 ta σ ts) (b : Mk5 tb σ us) (h : ts.length + us.length ≤ 1000) : Mk5 (tOp (rCatA K) ta tb) σ (ts ++ us) := fun H Q k => by
  refine a H _ fun p xs H1 s1 e1 t1 => b H1 _ fun q ys H2 s2 e2 t2 => ?_
  have l1 := t1.len
  have l2 := t2.len
  have t1' := t1.kp (TupK.of_same s2)
  have s := s1.trans s2
  refine ⟨p, q, xs, ys, rfl, rfl, SqT.of (s2 _ _ e1), SqT.of e2, Nat.le_trans (show _ ≤ 1000 by omega) (by decide), fun z => ?_, fun _ z => ?_, fun _ _ r nr => ?_⟩
  · subst z
    cases t1'
    exact k q ys H2 s e2 t2
  · subst z
    cases t2
    refine k p xs H2 s (s2 _ _ e1) ?_
    rw [List.append_nil]
    exact t1'
  · have sr := same_new (o := .tup (xs ++ ys)) nr
    exact k r _ _ (s.trans sr) upd_same ((t1'.app t2).kp (TupK.of_same sr))
section
variable {P : Program} {w : World} {K : PySem.W.Frag} {mg : Str → Option Value} {base : Heap} {C CB CM : Addr}
theorem d_law_told (F : FunAt K mg "_law_told" s_law_told) (x_TooMany : ErrAt P w K mg base "TooMany" CM "most") (D_plain_run : HasX P w K mg base 7 "plain_run" ["works", "given"] (spPlain C CM)) : Has P w K mg base 8 "_law_told" ["works", "given"] (spTold C) := by
  refine mk_has F sc_law_told (fun _ _ _ _ _ _ us hl => match us, hl with | [_, _], _ => rfl) (fun vs H Q E h => ?_) fun f cdv A outer s H vs Q E hr h => ?_
  · obtain ⟨N, a, r, g, m, R, gs, ts, rfl, _⟩ := h
    rfl
  obtain ⟨N, a, r, g, m, R, gs, ts, rfl, ha, ok, rr, eg, tg, hl, ht, k1, k2⟩ := h
  refine ⟨_, (pss_one (ps_try_as (i := 2) (tb := fun W => tRet (tTup (tCons (tC (.str "told")) (tCons (tCallS (spPlain C CM) (WE W) (tCons (tVar 0) (tCons (tVar 1) tNil))) tNil))))
    (ts := fun a cls d => tRet (tTup (tCons (tC (.str "TooMany")) (tCons (tXf a cls d CM "most" (tVar 2)) tNil)))) (Wout := fun _ _ _ _ => False) rfl rfl sc_law_told.nd rfl rfl ⟨rfl, by decide, .inl x_TooMany.g⟩ takes0
    (fun W pn xe tk _ => (pss_one (ps_ret (pe_tup (pa_cons pe_str (pa_cons (pe_hX tk D_plain_run (hr.mono (by decide)) rfl (pa_cons (pv 0) (pa_cons (pv 1) pa_nil))) pa_nil))))))
    (fun a oe cls d pn hz hf => (pss_one (ps_ret (pe_tup (pa_cons pe_str (pa_cons (pe_ef x_TooMany hz hf (pv 2)) pa_nil)))))))), ?_⟩
  refine ⟨_, rfl, _, rfl, NF, a, r, g, m, R, ts, rfl, ha, ok, rr.nf, .tup eg (fun z => z) tg.rp, hl, ht, fun c d H1 s1 nd => ?_, fun c L vs H1 s1 eL it => ?_⟩
  · refine ⟨true, x_TooMany.exm, fun _ a0 _ => ?_, fun z => nomatch z⟩
    refine ⟨_, rfl, rfl, rfl, _, _, _, rfl, upd_same, lk_head, (by show 2 ≤ sizeLine; decide), fun T nT => ?_⟩
    exact k1 c T _ (s1.trans ((same_new nd).trans (same_new nT))) upd_same
  · refine ⟨(by show 2 ≤ sizeLine; decide), fun T nT => ?_⟩
    have sT := same_new (o := .tup [.str "told", .ref L]) nT
    exact k2 c T L vs _ (s1.trans sT) upd_same (sT _ _ eL) (it.kp (TupK.of_same sT))
end
def edgeR (m : Int) : Rules := [[(0, 0), (m - 1, 0), (0, 0), (0, 0)]]
theorem edge_tot {m : Int} : ∀ f : Nat, tot (edgeR m) (f + 1) 0 = 1 + 4 * tot (edgeR m) f 0 := fun f => by
  show 1 + (tot (edgeR m) f 0 + (tot (edgeR m) f 0 + (tot (edgeR m) f 0 + (tot (edgeR m) f 0 + 0)))) = _
  omega
def edgeT : List Tsk := List.replicate 3 (0, 6) ++ List.replicate 2 (0, 5) ++ List.replicate 2 (0, 4) ++ List.replicate 2 (0, 3) ++ [(0, 2)] ++ List.replicate 2 (0, 1) ++ List.replicate 4 (0, 0)
theorem edge_wt {m : Int} : wt (edgeR m) edgeT = 20000 := by
  have e0 : tot (edgeR m) 0 0 = 1 := rfl
  have e1 : tot (edgeR m) 1 0 = 1 + 4 * tot (edgeR m) 0 0 := edge_tot 0
  have e2 : tot (edgeR m) 2 0 = 1 + 4 * tot (edgeR m) 1 0 := edge_tot 1
  have e3 : tot (edgeR m) 3 0 = 1 + 4 * tot (edgeR m) 2 0 := edge_tot 2
  have e4 : tot (edgeR m) 4 0 = 1 + 4 * tot (edgeR m) 3 0 := edge_tot 3
  have e5 : tot (edgeR m) 5 0 = 1 + 4 * tot (edgeR m) 4 0 := edge_tot 4
  have e6 : tot (edgeR m) 6 0 = 1 + 4 * tot (edgeR m) 5 0 := edge_tot 5
  unfold edgeT
  simp only [wt_app]
  simp only [wt, List.replicate, List.sum_cons, List.sum_nil, List.map_cons, List.map_nil]
  omega
theorem edge_ok {m : Int} (h1 : 1 ≤ m) (h2 : m ≤ 2) : OkWorks m (edgeR m) := by
  refine ⟨h1, by omega, (by show 1 ≤ 1; decide), (by show 1 ≤ 6; decide), fun ps hp => ?_⟩
  cases List.mem_singleton.mp hp
  refine ⟨(by show 4 ≤ 4; decide), fun p hp => ?_⟩
  simp only [List.mem_cons, List.not_mem_nil, or_false] at hp
  show (0 ≤ p.1 ∧ p.1 < m) ∧ 0 ≤ p.2 ∧ p.2 < 1
  rcases hp with rfl | rfl | rfl | rfl <;> refine ⟨⟨?_, ?_⟩, ?_, ?_⟩ <;> simp <;> omega
theorem edgeT_ok {m : Int} {us : List Tsk} (h : us ⊆ [(0, 0)]) : OkT (edgeR m) (edgeT ++ us) := fun p hp => by
  have g : p ∈ [((0 : Int), 6), (0, 5), (0, 4), (0, 3), (0, 2), (0, 1), (0, (0 : Nat))] := by
    rcases List.mem_append.mp hp with z | z
    · simp only [edgeT, List.mem_append, List.mem_replicate, List.mem_cons, List.not_mem_nil, or_false] at z ⊢
      rcases z with (((((⟨_, z⟩ | ⟨_, z⟩) | ⟨_, z⟩) | ⟨_, z⟩) | z) | ⟨_, z⟩) | ⟨_, z⟩ <;> simp [z]
    · have := h z
      simp only [List.mem_cons, List.not_mem_nil, or_false] at this
      simp [this]
  simp only [List.mem_cons, List.not_mem_nil, or_false] at g
  show (0 ≤ p.1 ∧ p.1 < 1) ∧ p.2 ≤ 12
  rcases g with rfl | rfl | rfl | rfl | rfl | rfl | rfl <;> decide
def spEdge : Sp := fun vs H Q _ => ∃ h l : Addr, vs = [.ref h] ∧ HandOk H h l ∧ ∀ H', Q (.bl true) H'
section
variable {P : Program} {w : World} {K : PySem.W.Frag} {mg : Str → Option Value} {base : Heap} {C CB CM : Addr}
set_option maxHeartbeats 16000000 in
theorem d_law_edge (B : Bi mg) (F : FunAt K mg "_law_edge" s_law_edge) (D_law_take : Has P w K mg base 1 "_law_take" ["hand", "many"] spTake) (D_Works : HasCX P w K mg base 5 "Works" C ["self", "many", "rules"] (spWInit C CB)) (D_law_told : Has P w K mg base 8 "_law_told" ["works", "given"] (spTold C)) :
    Has P w K mg base 9 "_law_edge" ["hand"] spEdge := by
  refine mk_has F sc_law_edge (fun _ _ _ _ _ _ us hl => match us, hl with | [_], _ => rfl) (fun vs H Q E h => ?_) fun f cdv A outer s H vs Q E hr h => ?_
  · obtain ⟨h, l, rfl, _⟩ := h
    rfl
  obtain ⟨h, l, rfl, ho, fin⟩ := h
  refine ⟨_, (pss_cons (ps_set (i := 1) sc_law_edge.nd rfl (Or.inl rfl) (pe_op op_add pe_int (pe_h D_law_take (hr.mono (by decide)) rfl (pa_cons (pv 0) (pa_cons pe_int pa_nil)))))
    (pss_cons (ps_set (i := 2) sc_law_edge.nd rfl (Or.inl rfl) (pe_tup (pa_cons (pe_tup (pa_cons (pe_tup (pa_cons pe_int (pa_cons pe_int pa_nil))) (pa_cons (pe_tup (pa_cons (pe_op op_sub (pv 1) pe_int) (pa_cons pe_int pa_nil))) (pa_cons (pe_tup (pa_cons pe_int (pa_cons pe_int pa_nil))) (pa_cons (pe_tup (pa_cons pe_int (pa_cons pe_int pa_nil))) pa_nil))))) pa_nil)))
    (pss_cons (ps_set (i := 3) sc_law_edge.nd rfl (Or.inl rfl) (pe_op op_catA (pe_op op_catA (pe_op op_catA (pe_op op_catA (pe_op op_catA (pe_op op_catA (pe_op op_repA (pe_tup (pa_cons (pe_tup (pa_cons pe_int (pa_cons pe_int pa_nil))) pa_nil)) pe_int) (pe_op op_repA (pe_tup (pa_cons (pe_tup (pa_cons pe_int (pa_cons pe_int pa_nil))) pa_nil)) pe_int)) (pe_op op_repA (pe_tup (pa_cons (pe_tup (pa_cons pe_int (pa_cons pe_int pa_nil))) pa_nil)) pe_int)) (pe_op op_repA (pe_tup (pa_cons (pe_tup (pa_cons pe_int (pa_cons pe_int pa_nil))) pa_nil)) pe_int)) (pe_tup (pa_cons (pe_tup (pa_cons pe_int (pa_cons pe_int pa_nil))) pa_nil))) (pe_op op_repA (pe_tup (pa_cons (pe_tup (pa_cons pe_int (pa_cons pe_int pa_nil))) pa_nil)) pe_int)) (pe_op op_repA (pe_tup (pa_cons (pe_tup (pa_cons pe_int (pa_cons pe_int pa_nil))) pa_nil)) pe_int)))
    (pss_cons (ps_set (i := 4) sc_law_edge.nd rfl (Or.inl rfl) (pe_cX0 D_Works (hr.mono (by decide)) rfl (pa_cons (pv 1) (pa_cons (pv 2) pa_nil))))
    (pss_cons (ps_if (pt_cmpR (op_neD hr.units) (pe_h D_law_told (hr.mono (by decide)) rfl (pa_cons (pv 4) (pa_cons (pe_op op_catA (pv 3) (pe_tup (pa_cons (pe_tup (pa_cons pe_int (pa_cons pe_int pa_nil))) pa_nil))) pa_nil))) (pe_tup (pa_cons pe_str (pa_cons pe_int pa_nil))) (nomark _))
    (pss_one (ps_ret pe_bl))
    pss_nil)
    (pss_cons (ps_if (pt_cmpR op_gt (pe_h D_law_take (hr.mono (by decide)) rfl (pa_cons (pv 0) (pa_cons pe_int pa_nil))) pe_int (nomark _))
    (pss_one (ps_ret pe_bl))
    pss_nil)
    (pss_cons (ps_set (i := 5) sc_law_edge.nd rfl (Or.inl rfl) (pe_h D_law_told (hr.mono (by decide)) rfl (pa_cons (pv 4) (pa_cons (pv 3) pa_nil))))
    (pss_one (ps_ret (pe_and (pe_cmpR op_eq (pe_ix ix_tup (pv 5) pe_int (fun _ _ => rfl)) pe_str (nomark _)) (pe_one (pe_cmpR op_eq (pe_callB call_len_seq rfl B.len PySem.boot_len (pa_cons (pe_ix ix_tup (pv 5) pe_int (fun _ _ => rfl)) pa_nil)) pe_int (nomark _))))))))))))), ?_⟩
  refine ⟨_, rfl, h, l, 2, rfl, ho, by decide, by decide, fun q H1 q0 q1 ho1 k1 => ⟨_, _, rfl, rfl, ?_⟩⟩
  have m1 : 1 ≤ 1 + q := by omega
  have m2 : 1 + q ≤ 2 := by omega
  have ok := edge_ok m1 m2
  refine ⟨(by show 2 ≤ sizeLine; decide), fun p1 n1 => ⟨_, rfl, _, _, rfl, rfl, (by show 2 ≤ sizeLine; decide), fun p2 n2 => ⟨(by show 2 ≤ sizeLine; decide), fun p3 n3 => ⟨(by show 2 ≤ sizeLine; decide), fun p4 n4 => ⟨(by show 4 ≤ sizeLine; decide), fun p5 n5 => ⟨(by show 1 ≤ sizeLine; decide), fun p6 n6 => ?_⟩⟩⟩⟩⟩⟩
  generalize hH2 : upd _ p6 (HO.tup [V.ref p5]) = H2
  have s16 : Same H1 H2 := by
    rw [← hH2]
    exact (same_new n1).trans ((same_new n2).trans ((same_new n3).trans ((same_new n4).trans ((same_new n5).trans (same_new n6)))))
  obtain ⟨m, em⟩ : ∃ m, 1 + q = m := ⟨_, rfl⟩
  have rr : Rp NF H2 (.ref p6) (rulesD (edgeR m)) := by
    rw [← hH2, ← em]
    have t1 : ∀ {H : Hp} {p : Addr} {i : Int}, Rp NF (upd H p (.tup [.int i, .int 0])) (.ref p) (pairD (i, 0)) := .tup upd_same (fun z => z) (.cons (.int _) (.cons (.int _) .nil))
    have g6 := same_new (o := .tup [.ref p5]) n6
    have g5 := (same_new (o := .tup [.ref p1, .ref p2, .ref p3, .ref p4]) n5).trans g6
    have g4 := (same_new (o := .tup [.int 0, .int 0]) n4).trans g5
    have g3 := (same_new (o := .tup [.int 0, .int 0]) n3).trans g4
    have g2 := (same_new (o := .tup [.int (1 + q - 1), .int 0]) n2).trans g3
    exact .tup upd_same (fun z => z) (.cons (.tup (g6 _ _ upd_same) (fun z => z) (.cons (t1.to (Kp.of_same g2)) (.cons (t1.to (Kp.of_same g3)) (.cons (t1.to (Kp.of_same g4)) (.cons (t1.to (Kp.of_same g5)) .nil))))) .nil)
  clear hH2
  rw [em] at m1 m2 ok
  have ho2 := ho1.same s16
  refine (Mk5.cat (Mk5.cat (Mk5.cat (Mk5.cat (Mk5.cat (Mk5.cat (Mk5.rep (Mk5.one (f := 6)) (n := 3) (by decide) (by decide)) (Mk5.rep (Mk5.one (f := 5)) (n := 2) (by decide) (by decide)) (by decide)) (Mk5.rep (Mk5.one (f := 4)) (n := 2) (by decide) (by decide)) (by decide))
    (Mk5.rep (Mk5.one (f := 3)) (n := 2) (by decide) (by decide)) (by decide)) (Mk5.one (f := 2)) (by decide)) (Mk5.rep (Mk5.one (f := 1)) (n := 2) (by decide) (by decide)) (by decide)) (Mk5.rep (Mk5.one (f := 0)) (n := 4) (by decide) (by decide)) (by decide)) _ _ fun g gs H3 s3 eg tg => ?_
  have tg' : TsAt H3 gs edgeT := tg
  clear tg
  have ho3 := ho2.same s3
  have rr3 := rr.to (Kp.of_same s3)
  have b0 := badW_ok ok
  refine ⟨_, rfl, _, rfl, fun x dx nx nd ne => ?_⟩
  have sx := ins_new (C := C) nx nd ne
  refine ⟨NF, x, dx, _, _, .int m, rulesD (edgeR m), rfl, upd_same, (by show Rp _ _ (.int (1 + q)) _; rw [em]; exact .int m), rr3.to (Kp.of_same sx), fun e eb => (by rw [b0] at eb; cases eb), fun _ H4 eH kH => ⟨rfl, ?_⟩⟩
  have s4 := same_kp sx nx kH
  have W4 : WorksAt C H4 x (.int m) (.ref p6) := ⟨dx, by rw [← em]; exact eH⟩
  have rr4 := rr3.to (Kp.of_same s4)
  have ho4 := ho3.same s4
  have eg4 := s4 _ _ eg
  have tg4 := tg'.kp (TupK.of_same s4)
  have ew := edge_wt (m := m)
  -- one more than may be
  have lg := tg4.len
  refine ⟨_, rfl, _, rfl, ?_⟩
  refine (Mk5.one (f := 0)) _ _ fun g1 gs1 H5 s5 eg5 tg5 => ?_
  have l1 := tg5.len
  refine ⟨g, g1, gs, gs1, rfl, rfl, SqT.of (s5 _ _ eg4), SqT.of eg5, ?_, (fun z => by rw [z] at lg; exact absurd lg (by decide)), (fun _ z => by rw [z] at l1; exact absurd l1 (by decide)), fun _ _ g2 ng2 => ?_⟩
  · rw [lg, l1]
    exact Nat.le_trans (show 16 + 1 ≤ 17 by omega) (by decide)
  have s6 := s5.trans (same_new (o := .tup (gs ++ gs1)) ng2)
  have t6 := ((tg4.kp (TupK.of_same s5)).app tg5).kp (TupK.of_same (same_new (o := .tup (gs ++ gs1)) ng2))
  have ew1 : wt (edgeR m) (edgeT ++ [(0, 0)]) = 20001 := by
    rw [wt_app, ew]
    rfl
  refine ⟨NF, x, p6, g2, m, edgeR m, _, _, rfl, W4.same s6, ok, rr4.to (Kp.of_same s6), upd_same, t6, (by decide), edgeT_ok (us := [(0, 0)]) (fun _ h => h), fun _ T H7 s7 eT => ?_, fun c => by rw [ew1] at c; exact absurd c (by decide)⟩
  have s47 := s6.trans s7
  refine ⟨(by show 2 ≤ sizeLine; decide), fun p7 n7 => ?_⟩
  have s8 := same_new (o := .tup [.str "TooMany", .int 20000]) n7
  have rT : ∀ {H : Hp} {p : Addr}, H p = some (.tup [.str "TooMany", .int 20000]) → Dp K H (.ref p) (.tuple [.str "TooMany", .int 20000]) := fun e => Rp.dp (N := NF) (.tup e (fun z => z) (.cons (.str _) (.cons (.int _) .nil))) (by decide +kernel)
  refine ⟨_, _, rT (s8 _ _ eT), rT upd_same, (by decide +kernel), (by decide +kernel), ?_⟩
  rw [SeqAt.eqv_refl _ (by decide +kernel)]
  refine ⟨_, rfl, ifF rfl ?_⟩
  have s48 := s47.trans s8
  refine ⟨_, rfl, h, l, 80, rfl, ho4.same s48, by decide, by decide, fun z H9 z0 z1 ho9 k9 => ⟨_, _, rfl, rfl, _, rfl, ite2 (fun _ => fin _) fun _ => ?_⟩⟩
  have kk : Kp (Nh h) H4 H9 := (Kp.of_same s48).trans (Kp.hand k9)
  have t9 := hand_tupK ho4 kk
  obtain ⟨⟨xh, eh⟩, _⟩ := ho4.lst
  have W9 : WorksAt C H9 x (.int m) (.ref p6) := by
    obtain ⟨dy, ey⟩ := W4
    exact ⟨dy, kk _ _ ey (ne_of ey eh (by intro z; cases z))⟩
  have rr9 : Rp NF H9 (.ref p6) (rulesD (edgeR m)) := by
    cases rr4 with
    | @tup _ xs _ e1 _ ra =>
    cases ra with
    | cons r1 ra =>
    cases ra
    cases r1 with
    | @tup b ys _ e2 _ rb =>
    cases rb with
    | cons q1 rb =>
    cases rb with
    | cons q2 rb =>
    cases rb with
    | cons q3 rb =>
    cases rb with
    | cons q4 rb =>
    cases rb
    have g : ∀ {v : V} {p : Int × Int}, Rp NF H4 v (pairD p) → Rp NF H9 v (pairD p) := fun r => by
      cases r with
      | tup e _ ra =>
      cases ra with
      | cons r1 ra =>
      cases ra with
      | cons r2 ra =>
      cases ra
      cases r1
      cases r2
      exact .tup (t9 _ _ e) (fun z => z) (.cons (.int _) (.cons (.int _) .nil))
    exact .tup (t9 _ _ e1) (fun z => z) (.cons (.tup (t9 _ _ e2) (fun z => z) (.cons (g q1) (.cons (g q2) (.cons (g q3) (.cons (g q4) .nil))))) .nil)
  refine ⟨_, rfl, _, rfl, NF, x, p6, g, m, edgeR m, gs, edgeT, rfl, W9, ok, rr9, t9 _ _ eg4, tg4.kp t9, (by decide), (by have := edgeT_ok (m := m) (us := []) (fun _ h => nomatch h); rwa [List.append_nil] at this), (fun c => by rw [ew] at c; exact absurd c (by decide)), fun _ T L vs HA sA eT eL it => ?_⟩
  have hl : (vs.length : Int) = 20000 := by
    rw [it.len, run_len (by omega) 20000 (startB m edgeT) (startB_len (by omega)) (by rw [startB_wb, ew]; rfl)]
    rfl
  refine ⟨_, rfl, T, _, _, _, rfl, rfl, SqT.of eT, rfl, rfl, ?_⟩
  refine ⟨_, rfl, ifT rfl ⟨_, rfl, T, _, _, _, rfl, rfl, SqT.of eT, rfl, L, vs, rfl, .inl (SqL.of eL), rfl, ?_⟩⟩
  rw [hl]
  exact fin _
end
end KQ
set_option Elab.async false
set_option maxRecDepth 100000
set_option maxHeartbeats 4000000
namespace KQ
open PySem PySem.Spec PyProof.Rows L2
def spLaw (K : PySem.W.Frag) : Sp := fun vs H Q _ => ∃ (a : Addr) (ns : List Int), vs = [.ref a] ∧ SqL K H a (ns.map V.int) ∧ ns.length ≤ 63 ∧ ∀ H', Q (.bl true) H'
structure S5 (C : Addr) (H : Hp) (h l x r kp : Addr) (m : Int) (R : Rules) : Prop where
  ho : HandOk H h l
  wk : WorksAt C H x (.int m) (.ref r)
  rr : Rp (fun b => b = h ∨ b = kp) H (.ref r) (rulesD R)
  kt : ∃ kvs, Kept m R H kp kvs
section
variable {C h l x r kp : Addr} {H H' : Hp} {m : Int} {R : Rules}
theorem S5.same (S : S5 C H h l x r kp m R) (s : Same H H') : S5 C H' h l x r kp m R := ⟨S.ho.same s, S.wk.same s, S.rr.to (Kp.of_same s), let ⟨kvs, K⟩ := S.kt; ⟨kvs, K.kp s⟩⟩
theorem S5.hand (S : S5 C H h l x r kp m R) (ho : HandOk H' h l) (k : Kp (Nh h) H H') : S5 C H' h l x r kp m R := by
  obtain ⟨⟨xs, eh⟩, _⟩ := S.ho.lst
  obtain ⟨dx, ex⟩ := S.wk
  obtain ⟨kvs, K⟩ := S.kt
  refine ⟨ho, ⟨dx, k _ _ ex (ne_of ex eh (by intro z; cases z))⟩, S.rr.to (k.wide fun a z => .inl z), kvs, k _ _ K.at_ (ne_of K.at_ eh (by intro z; cases z)), K.nd, fun e he => ?_⟩
  obtain ⟨h', y, f, a, q1, q2, q3, q4, q5⟩ := K.ok e he
  exact ⟨h', y, f, a, q1, q2, q3, q4, k _ _ q5 (ne_of q5 eh (by intro z; cases z))⟩
theorem S5.cnt {kvs kvs' : List (List Key × V)} (S : S5 C H h l x r kp m R) (K0 : Kept m R H kp kvs) (kt : Kept m R H' kp kvs') (k : Kp (Nk kp) H H') : S5 C H' h l x r kp m R := by
  obtain ⟨dx, ex⟩ := S.wk
  obtain ⟨xs, i, b, s, c, e1, e2, rest⟩ := S.ho
  exact ⟨⟨xs, i, b, s, c, k _ _ e1 (ne_of e1 K0.at_ (by intro z; cases z)), k _ _ e2 (ne_of e2 K0.at_ (by intro z; cases z)), rest⟩, ⟨dx, k _ _ ex (ne_of ex K0.at_ (by intro z; cases z))⟩, S.rr.to (k.wide fun a z => .inr z), kvs', kt⟩
theorem S5.rls (S : S5 C H h l x r kp m R) : ∃ rs, H r = some (.tup rs) ∧ rs.length = R.length := by
  obtain ⟨_, _, rr, _⟩ := S
  cases rr with
  | tup e n ra => exact ⟨_, e, ra.length.trans (List.length_map _)⟩
end
/-- rules are all tuples -/
theorem pairs_kp {N : Addr → Prop} {H H' : Hp} (k : TupK H H') : ∀ {ps : List (Int × Int)} {vs : List V}, RpAll N H vs (ps.map pairD) → RpAll N H' vs (ps.map pairD)
  | [], _, .nil => .nil
  | p :: ps, _, .cons r rs => by
    cases r with
    | tup e n ra =>
    cases ra with
    | cons r1 ra =>
    cases ra with
    | cons r2 ra =>
    cases ra
    cases r1
    cases r2
    exact .cons (.tup (k _ _ e) n (.cons (.int _) (.cons (.int _) .nil))) (pairs_kp k rs)
theorem rules_kp {N : Addr → Prop} {H H' : Hp} (k : TupK H H') : ∀ {R : Rules} {vs : List V}, RpAll N H vs (R.map ruleD) → RpAll N H' vs (R.map ruleD)
  | [], _, .nil => .nil
  | p :: ps, _, .cons r rs => by
    cases r with
    | tup e n ra => exact .cons (.tup (k _ _ e) n (pairs_kp k ra)) (rules_kp k rs)
theorem itemD_dl (p : Int × Tsk) : (itemD p).depth = 2 ∧ (itemD p).canLay0 = true := by simp [itemD, tskD, PyData.depth, PyData.depthAll, PyData.canLay0, PyData.canLayAll0]
theorem itemsD_dl : ∀ ps : List (Int × Tsk), PyData.depthAll (ps.map itemD) ≤ 2 ∧ PyData.canLayAll0 (ps.map itemD) = true
  | [] => by simp [PyData.depthAll, PyData.canLayAll0]
  | p :: ps => by
    have h1 := itemD_dl p
    have h2 := itemsD_dl ps
    simp [PyData.depthAll, PyData.canLayAll0, h1.1, h1.2, h2.2]
    omega
def toldD (ps : List (Int × Tsk)) : PyData := .tuple [.str "told", .list (ps.map itemD)]
theorem toldD_dl (ps : List (Int × Tsk)) : (toldD ps).depth ≤ 4 ∧ (toldD ps).canLay0 = true := by
  have h := itemsD_dl ps
  have h0 : (PyData.str "told").canLay0 = true := by decide +kernel
  have h1 : (PyData.str "told").depth = 0 := rfl
  simp only [toldD, PyData.depth, PyData.canLay0, PyData.depthAll, PyData.canLayAll0, h.2, h0, h1, Bool.and_true]
  refine ⟨by omega, ?_⟩
  trivial
section
variable {P : Program} {w : World} {K : PySem.W.Frag} {mg : Str → Option Value} {base : Heap} {C CB CM : Addr}
set_option maxHeartbeats 16000000 in
theorem d_law {f0 : Addr} {fd0 : FuncData} (B : Bi mg) (F : Fun K "law" "law" s_law f0 fd0)
    (D_law_hand : Has P w K mg base 1 "_law_hand" ["script"] (spHand K)) (D_law_take : Has P w K mg base 1 "_law_take" ["hand", "many"] spTake)
    (D_law_same : Has P w K mg base 6 "_law_same" ["actual", "due"] (spSame 4)) (D_law_some_works : Has P w K mg base 3 "_law_some_works" ["hand"] spSome)
    (D_Works : HasCX P w K mg base 5 "Works" C ["self", "many", "rules"] (spWInit C CB)) (D_law_task : Has P w K mg base 2 "_law_task" ["hand", "rules", "most"] spLawTask2)
    (D_law_given : Has P w K mg base 16 "_law_given" ["hand", "many", "rules", "most"] spLGiven) (D_law_total : Has P w K mg base 15 "_law_total" ["many", "rules", "kept", "tasks"] (spTotal false))
    (D_law_told : Has P w K mg base 8 "_law_told" ["works", "given"] (spTold C)) (D_law_run : Has P w K mg base 2 "_law_run" ["many", "rules", "given", "most"] spLawRun) (D_law_edge : Has P w K mg base 9 "_law_edge" ["hand"] spEdge) : FnOk P w K mg base CX0 17 f0 fd0 ["script"] (spLaw K) := by
  refine F.ok sc_law (fun vs H Q E h => ?_) fun cdv A outer s H vs Q E hr h => ?_
  · obtain ⟨a, ns, rfl, _⟩ := h
    rfl
  obtain ⟨a, ns, rfl, hS, hlen, kQ⟩ := h
  refine ⟨_, (pss_cons (ps_set (i := 1) sc_law.nd rfl (Or.inr rfl) (pe_h D_law_hand (hr.mono (by decide)) rfl (pa_cons (pv 0) pa_nil)))
    (pss_cons (ps_asg (pe_h D_law_some_works (hr.mono (by decide)) rfl (pa_cons (pv 1) pa_nil)) (pg_tup rfl (pgs_cons (pg_name (i := 2) sc_law.nd rfl (Or.inl rfl)) (pgs_cons (pg_name (i := 3) sc_law.nd rfl (Or.inr rfl)) pgs_nil))))
    (pss_cons (ps_set (i := 4) sc_law.nd rfl (Or.inl rfl) (pe_cX0 D_Works (hr.mono (by decide)) rfl (pa_cons (pv 2) (pa_cons (pv 3) pa_nil))))
    (pss_cons (ps_set (i := 5) sc_law.nd rfl (Or.inl rfl) pe_dnewT)
    (pss_cons (ps_for PassesOwn.never rfl (pi_range1 rfl B.range (pa_cons pe_int pa_nil)) (pg_name (i := 6) sc_law.nd rfl (Or.inl rfl))
    (pss_cons (ps_set (i := 7) sc_law.nd rfl (Or.inl rfl) (pe_h D_law_given (hr.mono (by decide)) rfl (pa_cons (pv 1) (pa_cons (pv 2) (pa_cons (pv 3) (pa_cons pe_int pa_nil))))))
    (C8.pss_cut (ps_if (pt_cmpR op_eq (pe_h D_law_take (hr.mono (by decide)) rfl (pa_cons (pv 1) (pa_cons pe_int pa_nil))) pe_int (nomark _))
    (pss_one (ps_set (i := 7) sc_law.nd rfl (Or.inl rfl) (pe_callTy call_tuple_of rfl B.tuple (by decide +kernel) (pa_cons (pe_lc (own := [("j", 8)]) (g := gName 8) (tt := tYes) (te := (tCall spLawTask2 [] E0 (tCons (tVar 1) (tCons (tVar 3) (tCons (tC (.int 12)) tNil))))) rfl sc_law.nd (pi_range1 rfl B.range (pa_cons (pe_h D_law_take (hr.mono (by decide)) rfl (pa_cons (pv 1) (pa_cons pe_int pa_nil))) pa_nil)) (blkOk_by (own := [("j", 8)]) (N := ["script", "hand", "many", "rules", "works", "kept", "k", "given", "j", "total"]) (sc := defScope s_law) (by decide +kernel)) (fun _ _ _ _ _ => (pg_name (i := 8) sc_law.nd rfl (Or.inl rfl))) (fun _ _ _ _ _ => pts_nil) (fun _ _ _ _ _ => (pe_h D_law_task (hr.mono (by decide)) rfl (pa_cons (pv 1) (pa_cons (pv 3) (pa_cons pe_int pa_nil)))))) pa_nil))))
    pss_nil)
    (pss_cons (ps_set (i := 9) sc_law.nd rfl (Or.inl rfl) (pe_h D_law_total (hr.mono (by decide)) rfl (pa_cons (pv 2) (pa_cons (pv 3) (pa_cons (pv 5) (pa_cons (pv 7) pa_nil))))))
    (pss_one (ps_if (pt_cmpR op_gt (pv 9) pe_int (nomark _))
    (pss_one (ps_if (pt_cmpR (op_neD hr.units) (pe_h D_law_told (hr.mono (by decide)) rfl (pa_cons (pv 4) (pa_cons (pv 7) pa_nil))) (pe_tup (pa_cons pe_str (pa_cons pe_int pa_nil))) (nomark _))
    (pss_one (ps_ret pe_bl))
    pss_nil))
    (pss_one (ps_if (pt_cmpR op_le (pv 9) pe_int (nomark _))
    (pss_one (ps_if (pt_not (pt_val (pe_h D_law_same (hr.mono (by decide)) rfl (pa_cons (pe_h D_law_told (hr.mono (by decide)) rfl (pa_cons (pv 4) (pa_cons (pv 7) pa_nil))) (pa_cons (pe_tup (pa_cons pe_str (pa_cons (pe_h D_law_run (hr.mono (by decide)) rfl (pa_cons (pv 2) (pa_cons (pv 3) (pa_cons (pv 7) (pa_cons pe_int pa_nil))))) pa_nil))) pa_nil)))))
    (pss_one (ps_ret pe_bl))
    pss_nil))
    pss_nil))))))))
    (pss_one (ps_ret (pe_h D_law_edge (hr.mono (by decide)) rfl (pa_cons (pv 1) pa_nil))))))))), ?_⟩
  refine ⟨_, rfl, a, ns, rfl, hS, by omega, fun h l H1 nh nl s1 ho1 => ?_⟩
  refine ⟨_, rfl, h, l, rfl, ho1, fun m R T1 r H2 ho2 k2 rR ok eT nTh => ?_⟩
  refine ⟨_, _, rfl, SqT.of eT, rfl, _, _, rfl, _, _, rfl, rfl, ?_⟩
  have b0 := badW_ok ok
  refine ⟨_, rfl, _, rfl, fun x dx nx nd ne => ?_⟩
  have sx := ins_new (C := C) nx nd ne
  refine ⟨Nh h, x, dx, _, _, .int m, rulesD R, rfl, upd_same, .int m, rR.to (Kp.of_same sx), fun e eb => (by rw [b0] at eb; cases eb), fun _ H3 eH kH => ⟨rfl, ?_⟩⟩
  have s3 := same_kp sx nx kH
  refine fun kp nk => ?_
  have sk := same_new (o := .dT []) nk
  have St : S5 C (upd H3 kp (.dT [])) h l x r kp m R := ⟨(ho2.same s3).same sk, ⟨dx, sk _ _ eH⟩, ((rR.to (Kp.of_same s3)).more (N' := fun b => b = h ∨ b = kp) fun a z => z.elim .inl fun z => .inr (z ▸ nk)).to (Kp.of_same sk), [], upd_same, List.nodup_nil, fun _ z => nomatch z⟩
  have m1 := ok.m1
  have m6 := ok.m6
  have r1 := ok.r1
  have r6 := ok.r6
  refine ⟨2, rfl, by decide, by decide, for_range (lo := 0) (n := 2) (fun i σ H => ∃ v6 v7 v8 v9, σ = [some (.ref a), some (.ref h), some (.int m), some (.ref r), some (.ref x), some (.ref kp), v6, v7, v8, v9] ∧ S5 C H h l x r kp m R) ⟨_, _, _, _, rfl, St⟩ ?_ ?_⟩
  · rintro i σ H4 hi ⟨v6, v7, v8, v9, rfl, S4⟩
    have nh4 : Rp (Nh h) H4 (.ref r) (rulesD R) := S4.rr.kp (N' := Nh h) Kp.refl fun a o _ n z => n (.inl z)
    refine ⟨_, rfl, _, rfl, _, rfl, h, l, r, m, R, rfl, S4.ho, ok, nh4, fun T gs ts H5 ho5 k5 eT5 t5 o5 l5 => ?_⟩
    have S5' := S4.hand ho5 k5
    refine ⟨fun σ H' => ∃ v6 v8 v9 T gs ts, σ = [some (.ref a), some (.ref h), some (.int m), some (.ref r), some (.ref x), some (.ref kp), v6, some (.ref T), v8, v9] ∧ S5 C H' h l x r kp m R ∧ H' T = some (.tup gs) ∧ TsAt H' gs ts ∧ OkT R ts ∧ ts.length ≤ 20, ?_, ?_⟩
    · refine ⟨_, rfl, h, l, 3, rfl, S5'.ho, by decide, by decide, fun q H6 q0 q1 ho6 k6 => ⟨rfl, _, rfl, ?_⟩⟩
      have S6 := S5'.hand ho6 (Kp.hand k6)
      refine ite2 (fun _ => ?_) fun _ => ?_
      · refine ⟨_, rfl, h, l, 21, rfl, S6.ho, by decide, by decide, fun n H7 n0 n1 ho7 k7 => ⟨n, rfl, by omega, by omega, fun D nD => ?_⟩⟩
        have S7 := S6.hand ho7 (Kp.hand k7)
        refine lc_range (lo := 0) (n := n.toNat) (fun j H' => S5 C H' h l x r kp m R ∧ ∃ gs ts, H' D = some (.lst gs) ∧ D ≠ h ∧ TsAt H' gs ts ∧ OkT R ts ∧ ts.length = j) ⟨S7.same (same_new nD), [], [], upd_same, ho7.ne nD, .nil, (fun _ z => nomatch z), rfl⟩ (fun j H8 hj z => ?_) fun H8 z => ?_
        · obtain ⟨S8, gs, ts, eD, nDh, tD, oD, lD⟩ := z
          refine ⟨rfl, ?_⟩
          refine tYes_ok ?_
          rw [if_pos rfl]
          obtain ⟨rs, er, lr⟩ := S8.rls
          refine ⟨_, rfl, _, rfl, h, l, r, rs, 12, rfl, S8.ho, er, by omega, by omega, by decide, by decide, fun T kk ff H9 ho9 k9 k0 k1 f0 f1 eT nT => ?_⟩
          rw [lr] at k1
          have S9 := S8.hand ho9 k9
          have t9 := hand_tupK S8.ho k9
          have eD9 := k9 _ _ eD nDh
          have kD := tupK_lst (ys := gs ++ [.ref T]) eD9
          refine ⟨gs, eD9, ?_, ?_, gs ++ [.ref T], ts ++ [(kk, ff.toNat)], upd_same, nDh, ?_, fun p hp => ?_, by rw [List.length_append, lD] <;> rfl⟩
          · rw [tD.len, lD]
            exact Nat.lt_of_lt_of_le (show j < 21 by omega) (by decide)
          · obtain ⟨xs, i', b, s', c, e1, e2, rest⟩ := S9.ho
            obtain ⟨kvs, K9⟩ := S9.kt
            obtain ⟨dy, ey⟩ := S9.wk
            have nl : l ≠ D := by
              obtain ⟨xs, i', b, s', c, e1', e2', rest⟩ := S7.ho
              exact (ne_of_none e2' nD)
            have nkD : kp ≠ D := ne_of K9.at_ eD9 (by intro z; cases z)
            refine ⟨⟨xs, i', b, s', c, by rw [upd_ne nDh.symm]; exact e1, by rw [upd_ne nl]; exact e2, rest⟩, ⟨dy, by rw [upd_ne (ne_of ey eD9 (by intro z; cases z))]; exact ey⟩, ?_, kvs, K9.but eD9 fun b hb => upd_ne hb⟩
            have q := S9.rr
            cases q with
            | @tup _ ys _ e1 n1 ra =>
            refine .tup (kD _ _ e1) n1 ?_
            exact rules_kp kD ra
          · exact ((tD.kp t9).app (.cons (t := (kk, ff.toNat)) (by show _ = some (HO.tup [.int kk, .int (ff.toNat : Int)]); rw [Int.toNat_of_nonneg f0]; exact eT) .nil)).kp kD
          · rcases List.mem_append.mp hp with z | z
            · exact oD p z
            · cases List.mem_singleton.mp z
              exact ⟨⟨k0, k1⟩, by show ff.toNat ≤ 12; omega⟩
        · obtain ⟨S8, gs, ts, eD, nDh, tD, oD, lD⟩ := z
          refine ⟨D, gs, rfl, .inl ⟨SqL.of eD, fun p np => ?_⟩⟩
          have sp := same_new (o := .tup gs) np
          exact ⟨_, _, _, p, gs, ts, rfl, S8.same sp, upd_same, tD.kp (TupK.of_same sp), oD, by omega⟩
      · have t6 := hand_tupK S5'.ho (Kp.hand k6)
        exact ⟨_, _, _, T, gs, ts, rfl, S6, t6 _ _ eT5, t5.kp t6, o5, l5⟩
    · rintro σ H6 ⟨v6, v8, v9, T, gs, ts, rfl, S6, eT, tT, oT, lT⟩
      obtain ⟨kvs, K6⟩ := S6.kt
      refine ⟨_, rfl, _, rfl, _, rfl, _, rfl, kp, r, T, m, R, kvs, gs, ts, rfl, ok, S6.rr.kp (N' := Nk kp) Kp.refl (fun a o _ n z => n (.inr z)), K6, eT, tT, oT, by omega, fun kvs' H7 K7 k7 => ?_⟩
      have S7 := S6.cnt K6 K7 k7
      have t7 := kept_tupK K6 k7
      have eT7 := t7 _ _ eT
      have tT7 := tT.kp t7
      refine ⟨_, rfl, _, _, rfl, rfl, _, rfl, ?_⟩
      by_cases c : 20000 < wt R ts
      · refine ifT (decide_eq_true c) ?_
        refine ⟨_, rfl, _, rfl, _, x, r, T, m, R, gs, ts, rfl, S7.wk, ok, S7.rr.nf, eT7, tT7, lT, oT, fun _ T2 H8 s8 e8 => ?_, fun c' => by omega⟩
        refine ⟨(by show 2 ≤ sizeLine; decide), fun p7 n7 => ?_⟩
        have s9 := same_new (o := .tup [.str "TooMany", .int 20000]) n7
        have rT : ∀ {H : Hp} {p : Addr}, H p = some (.tup [.str "TooMany", .int 20000]) → Dp K H (.ref p) (.tuple [.str "TooMany", .int 20000]) := fun e => Rp.dp (N := NF) (.tup e (fun z => z) (.cons (.str _) (.cons (.int _) .nil))) (by decide +kernel)
        refine ⟨_, _, rT (s9 _ _ e8), rT upd_same, (by decide +kernel), (by decide +kernel), ?_⟩
        rw [SeqAt.eqv_refl _ (by decide +kernel)]
        exact ⟨_, rfl, ifF rfl ⟨_, _, _, _, rfl, S7.same (s8.trans s9)⟩⟩
      refine ifF (decide_eq_false c) ?_
      refine ⟨_, rfl, _, _, rfl, rfl, _, rfl, ?_⟩
      by_cases c4 : wt R ts ≤ 400
      · refine ifT (decide_eq_true c4) ?_
        refine ⟨_, rfl, _, rfl, _, x, r, T, m, R, gs, ts, rfl, S7.wk, ok, S7.rr.nf, eT7, tT7, lT, oT, (fun c' => absurd c' c), fun _ T2 L vs H8 s8 e8 eL it => ?_⟩
        refine ⟨_, rfl, _, rfl, _, rfl, _, r, T, m, R, gs, ts, rfl, ok, (S7.rr.to (Kp.of_same s8)).nf, s8 _ _ eT7, tT7.kp (TupK.of_same s8), oT, lT, c4, fun L2 vs2 H9 s9 eL2 it2 => ?_⟩
        refine ⟨(by show 2 ≤ sizeLine; decide), fun p7 n7 => ?_⟩
        have sX := same_new (o := .tup [.str "told", .ref L2]) n7
        have dl := toldD_dl (run m R (startB m ts))
        refine ⟨NF, NF, _, _, toldD (run m R (startB m ts)), rfl, .tup ((s9.trans sX) _ _ e8) (fun z => z) (.cons (.str _) (.cons (.lst ((s9.trans sX) _ _ eL) (fun z => z) (it.kp (TupK.of_same (s9.trans sX))).rp) .nil)),
          .tup upd_same (fun z => z) (.cons (.str _) (.cons (.lst (sX _ _ eL2) (fun z => z) (it2.kp (TupK.of_same sX)).rp) .nil)), dl.1, dl.2, fun HA sA => ⟨_, rfl, ifF rfl ⟨_, _, _, _, rfl, S7.same ((s8.trans s9).trans (sX.trans sA))⟩⟩⟩
      · exact ifF (decide_eq_false c4) ⟨_, _, _, _, rfl, S7⟩
  · rintro σ H4 ⟨v6, v7, v8, v9, rfl, S4⟩
    exact ⟨_, rfl, h, l, rfl, S4.ho, kQ⟩
end
end KQ
set_option Elab.async false
set_option maxRecDepth 100000
set_option maxHeartbeats 4000000
namespace KQ
open PySem PySem.Spec PyProof.Rows L2
/-- the error's __init__ that keeps its one field -/
theorem err_init {P : Program} {w : World} {K : PySem.W.Frag} {mg : Str → Option Value} {base : Heap} {C f : Addr} {fd : FuncData} (F : Fun K "__init__" "BadWorks.__init__" s_BadWorks___init__ f fd) (T : OexC K C) (no : PySem.W.findIn K (.ref C) "part" = some none) :
    FnOk P w K mg base CX0 1 f fd ["self", "part"] (spErrInit C "part") := by
  refine F.ok sc_BadWorks___init__ (fun vs H Q E h => ?_) fun cdv A outer s H vs Q E hr h => ?_
  · obtain ⟨a, v, rfl, _⟩ := h
    rfl
  obtain ⟨a, v, rfl, ha, k⟩ := h
  refine ⟨_, (pss_one (ps_ost (pv 0) (pv 1))), ?_⟩
  exact ⟨_, rfl, _, rfl, a, C, rfl, T, no, .inl ⟨ha, fun dx hd ne => k dx hd ne⟩⟩
/-- the error's __init__ that keeps its one field -/
theorem err_init2 {P : Program} {w : World} {K : PySem.W.Frag} {mg : Str → Option Value} {base : Heap} {C f : Addr} {fd : FuncData} (F : Fun K "__init__" "TooMany.__init__" s_TooMany___init__ f fd) (T : OexC K C) (no : PySem.W.findIn K (.ref C) "most" = some none) :
    FnOk P w K mg base CX0 1 f fd ["self", "most"] (spErrInit C "most") := by
  refine F.ok sc_TooMany___init__ (fun vs H Q E h => ?_) fun cdv A outer s H vs Q E hr h => ?_
  · obtain ⟨a, v, rfl, _⟩ := h
    rfl
  obtain ⟨a, v, rfl, ha, k⟩ := h
  refine ⟨_, (pss_one (ps_ost (pv 0) (pv 1))), ?_⟩
  exact ⟨_, rfl, _, rfl, a, C, rfl, T, no, .inl ⟨ha, fun dx hd ne => k dx hd ne⟩⟩
theorem oex_of {K : PySem.W.Frag} {C : Addr} {o : Obj} (l : K.lookup C = some o) (e : ∃ nm q N bs bm sn sub ab col dd k0 k1 k2 k3 k5, o = excClassObj nm q C N bs bm true sn sub ab col dd k0 k1 k2 k3 k5 "ValueError.__new__" ∧ PySem.HandSPX.refsVE bm = true) (sa : PySem.W.findIn K (.ref C) "__setattr__" = some (some (.builtin "object.__setattr__")))
    (exC : PySem.W.subIn K (.ref C) (.type "BaseException") = some true) (tyC : PySem.W.typeIn K (.ref C) = some (.type "type")) (kC : PySem.W.keepIn K (.ref C) = true) : OexC K C := by
  obtain ⟨nm, q, N, bs, bm, sn, sub, ab, col, dd, k0, k1, k2, k3, k5, e, r⟩ := e
  exact ⟨⟨nm, q, N, bs, bm, sn, sub, ab, col, dd, k0, k1, k2, k3, k5, by rw [l, e], r⟩, sa, exC, tyC, kC⟩
theorem err_at {P : Program} {w : World} {K : PySem.W.Frag} {mg : Str → Option Value} {base h : Heap} {C f : Addr} {oc : Value} {od an : Option Addr} {kV doc pm cdv ct : Value} {sl : Array (Option Value)} (X : K.In h) (G : h.Ns mainGlobals mg)
    (a : PySem.W.nsIn K mainGlobals "BadWorks" = some (some (.ref C))) (T : OexC K C) (U : XfC K C) (no : PySem.W.findIn K (.ref C) "part" = some none) (own : PySem.W.subIn K (.ref C) (.ref C) = some true) (isC : PySem.W.isClsIn K C = true)
    (iC : PySem.W.findIn K (.ref C) "__init__" = some (some (.ref f))) (tI : PySem.W.typeIn K (.ref f) = some (.type "function"))
    (l : K.lookup f = some ⟨oc, od, .func (PySem.W.fnOf "__init__" "BadWorks.__init__" (defArgs s_BadWorks___init__) (defBody s_BadWorks___init__) (defScope s_BadWorks___init__) .none kV doc pm an cdv ct), sl⟩)
    (c : PySem.W.codeIn K cdv "BadWorks.__init__" = true) (k : PySem.W.keepIn K (.ref f) = true) : ErrAt P w K mg base "BadWorks" C "part" := by
  have F := fun_mk l c k
  refine ⟨PySem.W.mg_of X G a, T, U, no, ?_, f, _, iC, tI, err_init F T no, F.binds fun _ _ _ _ _ _ us hl => match us, hl with | [_, _], _ => rfl⟩
  unfold PySem.W.exmOne
  have e1 : (PySem.W.clsIn K C).isSome = true := isC
  simp [T.exC, PySem.W.kitCls, own, T.tyC, e1]
theorem err_at2 {P : Program} {w : World} {K : PySem.W.Frag} {mg : Str → Option Value} {base h : Heap} {C f : Addr} {oc : Value} {od an : Option Addr} {kV doc pm cdv ct : Value} {sl : Array (Option Value)} (X : K.In h) (G : h.Ns mainGlobals mg)
    (a : PySem.W.nsIn K mainGlobals "TooMany" = some (some (.ref C))) (T : OexC K C) (U : XfC K C) (no : PySem.W.findIn K (.ref C) "most" = some none) (own : PySem.W.subIn K (.ref C) (.ref C) = some true) (isC : PySem.W.isClsIn K C = true)
    (iC : PySem.W.findIn K (.ref C) "__init__" = some (some (.ref f))) (tI : PySem.W.typeIn K (.ref f) = some (.type "function"))
    (l : K.lookup f = some ⟨oc, od, .func (PySem.W.fnOf "__init__" "TooMany.__init__" (defArgs s_TooMany___init__) (defBody s_TooMany___init__) (defScope s_TooMany___init__) .none kV doc pm an cdv ct), sl⟩)
    (c : PySem.W.codeIn K cdv "TooMany.__init__" = true) (k : PySem.W.keepIn K (.ref f) = true) : ErrAt P w K mg base "TooMany" C "most" := by
  have F := fun_mk l c k
  refine ⟨PySem.W.mg_of X G a, T, U, no, ?_, f, _, iC, tI, err_init2 F T no, F.binds fun _ _ _ _ _ _ us hl => match us, hl with | [_, _], _ => rfl⟩
  unfold PySem.W.exmOne
  have e1 : (PySem.W.clsIn K C).isSome = true := isC
  simp [T.exC, PySem.W.kitCls, own, T.tyC, e1]
theorem works_of {K : PySem.W.Frag} {mg : Str → Option Value} {C : Addr} (g : mg "Works" = some (.ref C)) (cl : Cls K C) (n1 : NoAttr K C "many") (n2 : NoAttr K C "rules") (ha : PySem.W.findIn K (.ref C) "__class__" = some (some (.builtin "object.__class__")))
    (hn : PySem.W.specialIn K (.builtin "object.__class__") "__get__" = some (some (.builtin "getset_descriptor.__get__"))) (htk : PySem.W.takesIn K (.builtin "object.__class__") = some true) (hm : PySem.W.mroIn K C (.type "object") = some true)
    (isC : PySem.W.isClsIn K C = true) (tyC : PySem.W.typeIn K (.ref C) = some (.type "type")) (s0 : PySem.W.subIn K (.type "tuple") (.ref C) = some false) : WorksC K mg C := by
  have e1 : (PySem.W.clsIn K C).isSome = true := isC
  refine ⟨g, cl, n1, n2, ha, hn, htk, hm, by simp [PySem.W.kitOne], ?_, by simp [PySem.W.notFirst, s0]⟩
  unfold PySem.W.kitOne PySem.W.kitCls
  simp [e1, tyC, s0]
theorem exm_no {K : PySem.W.Frag} {mg : Str → Option Value} {x : Str} {A B : Addr} (TA : ExcAt K mg x A) (n : PySem.W.subIn K (.ref B) (.ref A) = some false) : PySem.W.exmOne K (.ref B) (.ref A) = some false := by
  unfold PySem.W.exmOne
  have e1 : (PySem.W.clsIn K A).isSome = true := TA.isC
  simp [TA.sub, PySem.W.kitCls, n, TA.ty, e1]
theorem fin {P : Program} {w : World} {K : PySem.W.Frag} {mg : Str → Option Value} {h : Heap} {fa : Addr} {C CB CH CT CG CM : Addr} {t1 t2 t3 t4 t5 t6 : Tok} (X : K.In h) (G : h.Ns mainGlobals mg) (hfa : mg "law" = some (.ref fa)) (B : Bi mg)
    (xB : ∀ base : Heap, ErrAt P w K mg base "BadWorks" CB "part") (xM : ∀ base : Heap, ErrAt P w K mg base "TooMany" CM "most") (xH : ExcAt K mg "NoHouse" CH) (xT : ExcAt K mg "NoTask" CT) (xG : ExcAt K mg "NoGiven" CG) (T : WorksC K mg C)
    (g1 : PySem.W.nsIn K mainGlobals "MOST_HOUSES" = some (some (.int 6 t1))) (g2 : PySem.W.nsIn K mainGlobals "MOST_KINDS" = some (some (.int 6 t2))) (g3 : PySem.W.nsIn K mainGlobals "MOST_PAIRS" = some (some (.int 4 t3))) (g4 : PySem.W.nsIn K mainGlobals "MOST_FUEL" = some (some (.int 12 t4)))
    (g5 : PySem.W.nsIn K mainGlobals "MOST_GIVEN" = some (some (.int 20 t5))) (g6 : PySem.W.nsIn K mainGlobals "MOST_DONE" = some (some (.int 20000 t6)))
    (I0 : InitAt K mg "Works" C "Works.__init__" s_Works___init__)
    (F1 : FunAt K mg "is_number" s_is_number)
    (F2 : FunAt K mg "is_below" s_is_below)
    (F3 : FunAt K mg "is_tuple_of" s_is_tuple_of)
    (F4 : FunAt K mg "is_rule_pair" s_is_rule_pair)
    (F5 : FunAt K mg "is_rule" s_is_rule)
    (F6 : FunAt K mg "is_house" s_is_house)
    (F7 : FunAt K mg "is_task" s_is_task)
    (F8 : FunAt K mg "check_house" s_check_house)
    (F9 : FunAt K mg "check_task" s_check_task)
    (F10 : FunAt K mg "sent_by" s_sent_by)
    (F11 : FunAt K mg "are_tasks" s_are_tasks)
    (F12 : FunAt K mg "is_given" s_is_given)
    (F13 : FunAt K mg "check_given" s_check_given)
    (F14 : FunAt K mg "many_by_fuel" s_many_by_fuel)
    (F15 : FunAt K mg "many_of_all" s_many_of_all)
    (F16 : FunAt K mg "plain_run" s_plain_run)
    (F17 : FunAt K mg "least_busy" s_least_busy)
    (L1 : FunAt K mg "_law_hand" s_law_hand)
    (L2 : FunAt K mg "_law_take" s_law_take)
    (L3 : FunAt K mg "_law_pick" s_law_pick)
    (L4 : FunAt K mg "_law_is_integer" s_law_is_integer)
    (L6 : FunAt K mg "_law_same" s_law_same)
    (M1 : FunAt K mg "_law_rules" s_law_rules)
    (M2 : FunAt K mg "_law_some_works" s_law_some_works)
    (M6 : FunAt K mg "_law_sent" s_law_sent)
    (M7 : FunAt K mg "_law_task" s_law_task)
    (M8 : FunAt K mg "_law_counts" s_law_counts)
    (M9 : FunAt K mg "_law_total" s_law_total)
    (M10 : FunAt K mg "_law_given" s_law_given)
    (M12 : FunAt K mg "_law_run" s_law_run)
    (M13 : FunAt K mg "_law_told" s_law_told)
    (M14 : FunAt K mg "_law_edge" s_law_edge)
    (M11 : FunAt K mg "law" s_law) :
    ∃ fd : FuncData, (∀ (s : Shared) (u : Value), BindsTo s fd ⟨[u], []⟩ [("script", u)]) ∧ ∀ base : Heap, FnOk P w K mg base CX0 17 fa fd ["script"] (spLaw K) := by
  obtain ⟨f0, fd0, F0, m0⟩ := M11
  rw [hfa] at m0
  cases m0
  have h1 := PySem.W.mg_of X G g1
  have h2 := PySem.W.mg_of X G g2
  have h3 := PySem.W.mg_of X G g3
  have h4 := PySem.W.mg_of X G g4
  have h5 := PySem.W.mg_of X G g5
  have h6 := PySem.W.mg_of X G g6
  refine ⟨fd0, fun s u => ?_, fun base => ?_⟩
  · obtain ⟨oc, od, kV, doc, pm, an, cdv, ct, osl, rfl, _, _⟩ := F0.ex
    exact .of_eq rfl
  have D1 := d_law_hand (P := P) (w := w) (mg := mg) (base := base) B L1
  have D2 := d_law_take (P := P) (w := w) (mg := mg) (base := base) B L2
  have D3 := d_law_pick (P := P) (w := w) (mg := mg) (base := base) B L3 D2
  have D4 := d_law_is_integer (P := P) (w := w) (mg := mg) (base := base) B L4
  have D6 := d_law_same (P := P) (w := w) (mg := mg) (base := base) B L6 D4 4
  have E1 := d_is_number (P := P) (w := w) (mg := mg) (base := base) B F1
  have E2 := d_is_below (P := P) (w := w) (mg := mg) (base := base) F2 E1
  have E3 := d_is_tuple_of (P := P) (w := w) (mg := mg) (base := base) B F3
  have E4 := d_is_rule_pair (P := P) (w := w) (mg := mg) (base := base) F4 E3 E2
  have E5 := d_is_rule (P := P) (w := w) (mg := mg) (base := base) B F5 h3 E4
  have W0 := d_works_init (P := P) (w := w) (mg := mg) (base := base) B T I0 h1 h2 (xB base) E2 E5
  have E6 := d_is_house (P := P) (w := w) (mg := mg) (base := base) T F6 E2
  have E7 := d_is_task (P := P) (w := w) (mg := mg) (base := base) B T F7 h4 E3 E2
  have E8 := d_check_house (P := P) (w := w) (mg := mg) (base := base) xH F8 E6
  have E9 := d_check_task (P := P) (w := w) (mg := mg) (base := base) xT F9 E7
  have E10 := d_sent_by (P := P) (w := w) (mg := mg) (base := base) B T F10 E8 E9
  have E11 := d_are_tasks (P := P) (w := w) (mg := mg) (base := base) B F11 E7
  have E12 := d_is_given (P := P) (w := w) (mg := mg) (base := base) B F12 h5 E11
  have E13 := d_check_given (P := P) (w := w) (mg := mg) (base := base) xG F13 E12
  have E14 := d_many_by_fuel (P := P) (w := w) (mg := mg) (base := base) B T F14 h4
  have E15 := d_many_of_all (P := P) (w := w) (mg := mg) (base := base) B F15 E14
  have E17 := d_least_busy (P := P) (w := w) (mg := mg) (base := base) B F17
  have E16 := d_plain_run (P := P) (w := w) (mg := mg) (base := base) B T F16 h6 (xM base) E13 E15 (E17.imp least_imp) E10
  have N1 := d_law_rules (P := P) (w := w) (mg := mg) (base := base) B M1 D2
  have N2 := d_law_some_works (P := P) (w := w) (mg := mg) (base := base) M2 D3 N1
  have N6 := d_law_sent (P := P) (w := w) (mg := mg) (base := base) B M6
  have N7 := d_law_task2 (P := P) (w := w) (mg := mg) (base := base) B M7 D2
  have N8 := d_law_counts (P := P) (w := w) (mg := mg) (base := base) B M8 N6 12
  have N9 := d_law_total (P := P) (w := w) (mg := mg) (base := base) B M9 N8
  have N9b := d_law_totalT (P := P) (w := w) (mg := mg) (base := base) B M9 N8
  have N10 := d_law_given (P := P) (w := w) (mg := mg) (base := base) B M10 D3 N7 N9
  have N12 := d_law_run (P := P) (w := w) (mg := mg) (base := base) B M12 N6
  have N13 := d_law_told (P := P) (w := w) (mg := mg) (base := base) M13 (xM base) E16
  have N14 := d_law_edge (P := P) (w := w) (mg := mg) (base := base) B M14 D2 W0 N13
  exact d_law B F0 D1 D2 D6 N2 W0 N7 N10 N9b N13 N12 N14
end KQ
local macro_rules | `(tactic| walk_at "kq fun") => `(tactic| (refine' KQ.funAt_of (by assumption) (by assumption) ?a ?l ?c ?k; (case a => k_is); (case l => k_is); (case c => k_is); (case k => k_is)))
local macro_rules | `(tactic| walk_at "kq meth") => `(tactic| (refine' KQ.methAt_of ?a ?i ?l ?c ?k; (case a => k_is); (case i => k_is); (case l => k_is); (case c => k_is); (case k => k_is)))
local macro_rules | `(tactic| walk_at "kq init") => `(tactic| (refine' KQ.initAt_of (by assumption) (by assumption) ?aC ?mk ?kC ?a ?i ?l ?c ?k; (case aC => k_is); (case mk => k_is); (case kC => k_is); (case a => k_is); (case i => k_is); (case l => k_is); (case c => k_is); (case k => k_is)))
local macro_rules | `(tactic| walk_at "kq free") => `(tactic| (refine' KQ.free_of (by assumption) (by assumption) ?e; (case e => k_is)))
local macro_rules | `(tactic| walk_at "kq cls") => `(tactic| (refine' ⟨?a, ?b, ?c, ?d⟩; (case a => k_is); (case b => k_is); (case c => k_is); (case d => k_is)))
local macro_rules | `(tactic| walk_at "kq exc") => `(tactic| (refine' KQ.excAt_of (by assumption) (by assumption) ?a ?kp ?ex ?sub ?ty ?own ?isC; (case a => k_is); (case kp => k_is); (case ex => k_exc); (case sub => k_is); (case ty => k_is); (case own => first | rfl | k_is); (case isC => k_is)))
local macro_rules | `(tactic| walk_at "kq err") => `(tactic| (intro base; refine' KQ.err_at (by assumption) (by assumption) ?a ?T ?U ?no ?own ?isC ?iC ?tI ?l ?c ?k; (case a => k_is); (case T => (refine' KQ.oex_of ?x ?y ?sa ?exC ?tyC ?kC; (case x => k_is); (case y => exact ⟨_, _, _, _, _, _, _, _, _, _, _, _, _, _, _, rfl, by decide +kernel⟩); (case sa => k_is); (case exC => k_is); (case tyC => k_is); (case kC => k_is))); (case U => (refine' ⟨?ga, ?gg, ?exC, ?hdC⟩; (case ga => k_is); (case gg => k_is); (case exC => k_is); (case hdC => k_is))); (case no => k_is); (case own => first | rfl | k_is); (case isC => k_is); (case iC => k_is); (case tI => k_is); (case l => k_is); (case c => k_is); (case k => k_is)))
local macro_rules | `(tactic| walk_at "kq err2") => `(tactic| (intro base; refine' KQ.err_at2 (by assumption) (by assumption) ?a ?T ?U ?no ?own ?isC ?iC ?tI ?l ?c ?k; (case a => k_is); (case T => (refine' KQ.oex_of ?x ?y ?sa ?exC ?tyC ?kC; (case x => k_is); (case y => exact ⟨_, _, _, _, _, _, _, _, _, _, _, _, _, _, _, rfl, by decide +kernel⟩); (case sa => k_is); (case exC => k_is); (case tyC => k_is); (case kC => k_is))); (case U => (refine' ⟨?ga, ?gg, ?exC, ?hdC⟩; (case ga => k_is); (case gg => k_is); (case exC => k_is); (case hdC => k_is))); (case no => k_is); (case own => first | rfl | k_is); (case isC => k_is); (case iC => k_is); (case tI => k_is); (case l => k_is); (case c => k_is); (case k => k_is)))
local macro_rules | `(tactic| walk_at "kq works") => `(tactic| (refine' KQ.works_of (PySem.W.mg_of (by assumption) (by assumption) ?g) ?cl ?n1 ?n2 ?ha ?hn ?htk ?hm ?isC ?tyC ?s0; (case g => k_is); (case cl => walk_at "kq cls"); (case n1 => (show PySem.W.findIn _ (.ref _) _ = some none; k_is)); (case n2 => (show PySem.W.findIn _ (.ref _) _ = some none; k_is)); (case ha => k_is); (case hn => k_is); (case htk => k_is); (case hm => k_is); (case isC => k_is); (case tyC => k_is); (case s0 => k_is)))
open PySem PySem.W PyProof.Rows
set_option maxRecDepth 100000 in
set_option maxHeartbeats 0 in
theorem PySem.Challenge.cw_knownquiet_k05_plain_runs_holds : PySem.Challenge.rw_knownquiet_k05_plain_runs.Holds := by
  w_on; o_law; k_head; (case hw => w_witness2)
  k_fill
  refine KQ.walkX (l := PySem.Challenge.rw_knownquiet_k05_plain_runs) (k := 17) (sp := KQ.spLaw) rfl rfl ⟨rfl, by decide, by decide⟩ (fun w h Y => PySem.W.kIn_of Y) ?F fun K H a ns hl hS => ⟨a, ns, rfl, hS, hl, fun _ => rfl⟩
  case F =>
    intro w mg fa h KX G hX hmg
    refine' KQ.fin KX G hmg ?B ?xB ?xM ?xH ?xT ?xG ?T ?g1 ?g2 ?g3 ?g4 ?g5 ?g6 ?I0 ?F1 ?F2 ?F3 ?F4 ?F5 ?F6 ?F7 ?F8 ?F9 ?F10 ?F11 ?F12 ?F13 ?F14 ?F15 ?F16 ?F17 ?L1 ?L2 ?L3 ?L4 ?L6 ?M1 ?M2 ?M6 ?M7 ?M8 ?M9 ?M10 ?M12 ?M13 ?M14 ?M11
    case B => constructor <;> walk_at "kq free"
    case xB => walk_at "kq err"
    case xM => walk_at "kq err2"
    case xH => walk_at "kq exc"
    case xT => walk_at "kq exc"
    case xG => walk_at "kq exc"
    case T => walk_at "kq works"
    case g1 => k_is
    case g2 => k_is
    case g3 => k_is
    case g4 => k_is
    case g5 => k_is
    case g6 => k_is
    case I0 => walk_at "kq init"
    all_goals walk_at "kq fun"
#print axioms PySem.Challenge.cw_knownquiet_k05_plain_runs_holds
