import PyProof.Rows.All
import Wide.All
import OpenK.AllK
import Wide.FinOn
import HandS.ForMost
import HandS.ForExc
import HandS.IsInst
import HandS.Style
import HandS.Small
import HandS.Zip
import HandS.TryMany
import HandS.Codes
import HandS.More
import KE.GoesEnumKw
import HandS.ExcInit
import HandS.ExcField
import HandS.OwnEq
import HandS.TupAny
import HandS.TupMul
import KE.KMinKey
import HandS.SortKw
import HandS.Walk
import PyProof.StrOps2
import PySem.Challenge.RW_knownquiet_k11_whole_shares_by_fractions
set_option Elab.async false
set_option maxRecDepth 100000
set_option maxHeartbeats 4000000
/-! B0: what all our texts share: a def and its promise in one word, data as a whole, the drawing hand. -/
namespace KQ
open PySem PySem.Spec PyProof.Rows L2

/-! ### a def behind the top, a def that keeps a promise -/
def FunAt (K : PySem.W.Frag) (mg : Str → Option Value) (x : Str) (st : Stmt) : Prop := ∃ f fd, Fun K x x st f fd ∧ mg x = some (.ref f)
def Has (P : Program) (w : World) (K : PySem.W.Frag) (mg : Str → Option Value) (base : Heap) (k : Nat) (x : Str) (ps : List Str) (sp : Sp) : Prop :=
  ∃ f fd, FnOk P w K mg base CX0 k f fd ps sp ∧ mg x = some (.ref f) ∧ PySem.W.keepIn K (.ref f) = true ∧ Binds K fd ps []
/-- .. one that may raise -/
def HasX (P : Program) (w : World) (K : PySem.W.Frag) (mg : Str → Option Value) (base : Heap) (k : Nat) (x : Str) (ps : List Str) (sp : Sp) : Prop :=
  ∃ f fd, FnOk P w K mg base (L2.CX P w) k f fd ps sp ∧ mg x = some (.ref f) ∧ PySem.W.keepIn K (.ref f) = true ∧ Binds K fd ps []
abbrev BindsTo? (st : Stmt) (x : Str) (ps : List Str) : Prop :=
  ∀ (kV doc pm : Value) (an : Option Addr) (cdv ct : Value) (us : List Value), us.length = ps.length → bindArgs (PySem.W.fnOf x x (defArgs st) (defBody st) (defScope st) .none kV doc pm an cdv ct) ⟨us, []⟩ = pure (ps.zip us)
section
variable {P : Program} {w : World} {K : PySem.W.Frag} {mg : Str → Option Value} {base : Heap}
theorem mk_has {x : Str} {st : Stmt} {N ps : List Str} {k : Nat} {sp : Sp} (F : FunAt K mg x st) (S : FnScope N ps (defScope st)) (hb : BindsTo? st x ps) (len : ∀ vs H Q E, sp vs H Q E → vs.length = ps.length)
    (body : ∀ (f : Addr) (cdv : Value) (A : Around) (outer : List Env) (s : Shared) (H : Hp) (vs : List V) (Q : VK) (E : XK), Room k (A.deeper (envOfC x (defScope st) s.heap.objs.size f cdv)) → sp vs H Q E →
      ∃ t, PSs (cxOf CX0 P w K mg base N x (defScope st) f cdv A outer s H E).nox (defBody st) t ∧ t { nx := fun _ H' => Q .non H', rt := Q } (start N vs) H) : Has P w K mg base (k + 1) x ps sp := by
  obtain ⟨f, fd, F, m⟩ := F
  exact ⟨f, fd, F.ok S len (fun cdv A outer s H vs Q E => body f cdv A outer s H vs Q E), m, F.kp, F.binds hb⟩
theorem mk_hasX {x : Str} {st : Stmt} {N ps : List Str} {k : Nat} {sp : Sp} (F : FunAt K mg x st) (S : FnScope N ps (defScope st)) (hb : BindsTo? st x ps) (len : ∀ vs H Q E, sp vs H Q E → vs.length = ps.length)
    (body : ∀ (f : Addr) (cdv : Value) (A : Around) (outer : List Env) (s : Shared) (H : Hp) (vs : List V) (Q : VK) (E : XK), Room k (A.deeper (envOfC x (defScope st) s.heap.objs.size f cdv)) → sp vs H Q E →
      ∃ t, PSs (cxOf (L2.CX P w) P w K mg base N x (defScope st) f cdv A outer s H E) (defBody st) t ∧ t { nx := fun _ H' => Q .non H', rt := Q } (start N vs) H) : HasX P w K mg base (k + 1) x ps sp := by
  obtain ⟨f, fd, F, m⟩ := F
  exact ⟨f, fd, F.okX S len (fun cdv A outer s H vs Q E => body f cdv A outer s H vs Q E), m, F.kp, F.binds hb⟩
theorem Has.mono {x : Str} {ps : List Str} {j k : Nat} {sp : Sp} (D : Has P w K mg base j x ps sp) (h : j ≤ k) : Has P w K mg base k x ps sp := by
  obtain ⟨f, fd, G, r⟩ := D
  exact ⟨f, fd, G.mono h, r⟩
theorem Has.imp {x : Str} {ps : List Str} {k : Nat} {sp sp' : Sp} (D : Has P w K mg base k x ps sp) (h : ∀ vs H Q E, sp' vs H Q E → sp vs H Q E) : Has P w K mg base k x ps sp' := by
  obtain ⟨f, fd, G, r⟩ := D
  exact ⟨f, fd, G.imp h, r⟩
end
section
variable {X : Cx} {k : Nat} {x : Str} {ps : List Str} {sp : Sp} {e : Expr} {es : List Expr} {p pos : Pos} {t : TA}
/-- f(e, ..), f by its promise -/
theorem pe_h (D : Has X.prog X.w X.K X.mg X.base k x ps sp) (hr : Room k X.A) (hg : Gl X x) (ha : PA X (e :: es) t) (hdb : (x == ("__debug__" : Str)) = false := by decide)
    (he : starEach (e :: es) X.env = (false, eval e X.env) :: starEach es X.env := by rfl) (hpl : (backTo pos (starEach es X.env)).any (·.1) = false := by rfl) :
    PE X (.Call (.Name x p) (e :: es) [] pos) (tCall sp [] E0 t) := by
  obtain ⟨f, fd, G, m, kp, b⟩ := D
  exact pe_call G hr hg m kp b .nil pass0 ha hdb he hpl
/-- .. one that may raise, in a try's body -/
theorem pe_hX {W : WX} (tk : Takes X W) (D : HasX X.prog X.w X.K X.mg X.base k x ps sp) (hr : Room k X.A) (hg : Gl X x) (ha : PA X (e :: es) t) (hdb : (x == ("__debug__" : Str)) = false := by decide)
    (he : starEach (e :: es) X.env = (false, eval e X.env) :: starEach es X.env := by rfl) (hpl : (backTo pos (starEach es X.env)).any (·.1) = false := by rfl) :
    PE X (.Call (.Name x p) (e :: es) [] pos) (tCallS sp (WE W) t) := by
  obtain ⟨f, fd, G, m, kp, b⟩ := D
  exact pe_callS G hr hg m kp b (passAt tk) ha hdb he hpl
end

/-! ### x is True, x is False, for any x -/
def rIsAny : R2 := fun x y H Q => ∃ b : Bool, y = .bl b ∧ Q (.bl (decide (x = .bl b))) H
theorem op_isB {X : Cx} : OpR X (compareOp .Is) rIsAny := by
  intro pins s σ H x y v u Q I rx ry h
  obtain ⟨b, rfl, q⟩ := h
  cases (show u = Value.bool b from ry)
  have fin : ∀ c : Bool, decide (x = V.bl b) = c → EP X pins σ Q (Value.bool c) s := fun c e => ⟨.bl c, H, I, rfl, by rw [← e]; exact q⟩
  cases x with
  | bl a =>
    cases (show v = Value.bool a from rx)
    by_cases e : a = b
    · subst e
      exact wpAny_is_self rfl (fin true (by simp))
    · exact wpAny_is_other rfl (fun z => e (Value.bool.inj z)) (fin false (by simp [e]))
  | non => cases (show v = Value.none from rx); exact wpAny_is_other rfl (by intro z; cases z) (fin false (by simp))
  | int i => obtain ⟨t, rfl⟩ := (show ∃ t, v = Value.int i t from rx); exact wpAny_is_other rfl (by intro z; cases z) (fin false (by simp))
  | str i => obtain ⟨t, rfl⟩ := (show ∃ t, v = Value.str i t from rx); exact wpAny_is_other rfl (by intro z; cases z) (fin false (by simp))
  | byt i => obtain ⟨t, rfl⟩ := (show ∃ t, v = Value.bytes i t from rx); exact wpAny_is_other rfl (by intro z; cases z) (fin false (by simp))
  | flt i => obtain ⟨t, rfl⟩ := (show ∃ t, v = Value.float i t from rx); exact wpAny_is_other rfl (by intro z; cases z) (fin false (by simp))
  | ref a => cases (show v = Value.ref a from rx); exact wpAny_is_other rfl (by intro z; cases z) (fin false (by simp))
  | ty n => cases (show v = Value.type n from rx); exact wpAny_is_other rfl (by intro z; cases z) (fin false (by simp))
end KQ
set_option Elab.async false
set_option maxRecDepth 100000
set_option maxHeartbeats 4000000
namespace KQ
open PySem PySem.Spec PyProof.Rows L2

/-! ### data as a whole, away from the places N that are written -/
mutual
inductive Rp (N : Addr → Prop) (H : Hp) : V → PyData → Prop
  | non : Rp N H .non .none
  | bl (b : Bool) : Rp N H (.bl b) (.bool b)
  | int (i : Int) : Rp N H (.int i) (.int i)
  | str (x : Str) : Rp N H (.str x) (.str x)
  | lst {a : Addr} {xs : List V} {ds : List PyData} : H a = some (.lst xs) → ¬ N a → RpAll N H xs ds → Rp N H (.ref a) (.list ds)
  | tup {a : Addr} {xs : List V} {ds : List PyData} : H a = some (.tup xs) → ¬ N a → RpAll N H xs ds → Rp N H (.ref a) (.tuple ds)
  | emp {a : Addr} : H a = some (.dK []) → ¬ N a → Rp N H (.ref a) (.dict [])
inductive RpAll (N : Addr → Prop) (H : Hp) : List V → List PyData → Prop
  | nil : RpAll N H [] []
  | cons {v : V} {vs : List V} {d : PyData} {ds : List PyData} : Rp N H v d → RpAll N H vs ds → RpAll N H (v :: vs) (d :: ds)
end
/-- all but what stands at N is kept -/
def Kp (N : Addr → Prop) (H H' : Hp) : Prop := ∀ a o, H a = some o → ¬ N a → H' a = some o
theorem Kp.refl {N : Addr → Prop} {H : Hp} : Kp N H H := fun _ _ e _ => e
theorem Kp.trans {N : Addr → Prop} {H H1 H2 : Hp} (a : Kp N H H1) (b : Kp N H1 H2) : Kp N H H2 := fun c o e n => b c o (a c o e n) n
theorem Kp.new {N : Addr → Prop} {H : Hp} {p : Addr} {o : HO} (h : H p = none) : Kp N H (upd H p o) := fun a u e _ => by rw [upd_ne (ne_of_none e h)]; exact e
theorem Kp.new' {N : Addr → Prop} {H0 H : Hp} {p : Addr} {o : HO} (k : Kp N H0 H) (h : H p = none) : Kp N H0 (upd H p o) := k.trans (Kp.new h)
theorem Kp.put {N : Addr → Prop} {H : Hp} {p : Addr} {o : HO} (h : N p) : Kp N H (upd H p o) := fun a u e n => by rw [upd_ne (fun z => n (by rw [z]; exact h))]; exact e
theorem Kp.put' {N : Addr → Prop} {H0 H : Hp} {p : Addr} {o : HO} (k : Kp N H0 H) (h : N p) : Kp N H0 (upd H p o) := k.trans (Kp.put h)
theorem Kp.of_same {N : Addr → Prop} {H H' : Hp} (h : Same H H') : Kp N H H' := fun a o e _ => h a o e
theorem Kp.wide {N N' : Addr → Prop} {H H' : Hp} (k : Kp N H H') (h : ∀ a, N a → N' a) : Kp N' H H' := fun a o e n => k a o e fun z => n (h a z)
/-- what is free behind was free ahead, if what is at N stays in being -/
theorem Kp.free {N : Addr → Prop} {H H' : Hp} (k : Kp N H H') (hn : ∀ a, N a → H' a ≠ none) {p : Addr} (h : H' p = none) : H p = none := by
  cases e : H p with
  | none => rfl
  | some o =>
    by_cases n : N p
    · exact absurd h (hn p n)
    · rw [k p o e n] at h; cases h
mutual
theorem Rp.kp {N N' : Addr → Prop} {H H' : Hp} (k : Kp N H H') (hN : ∀ a o, H a = some o → ¬ N a → ¬ N' a) : ∀ {v : V} {d : PyData}, Rp N H v d → Rp N' H' v d
  | _, _, .non => .non
  | _, _, .bl b => .bl b
  | _, _, .int i => .int i
  | _, _, .str x => .str x
  | _, _, .lst e n r => .lst (k _ _ e n) (hN _ _ e n) (r.kp k hN)
  | _, _, .tup e n r => .tup (k _ _ e n) (hN _ _ e n) (r.kp k hN)
  | _, _, .emp e n => .emp (k _ _ e n) (hN _ _ e n)
theorem RpAll.kp {N N' : Addr → Prop} {H H' : Hp} (k : Kp N H H') (hN : ∀ a o, H a = some o → ¬ N a → ¬ N' a) : ∀ {vs : List V} {ds : List PyData}, RpAll N H vs ds → RpAll N' H' vs ds
  | _, _, .nil => .nil
  | _, _, .cons r t => .cons (r.kp k hN) (t.kp k hN)
end
theorem Rp.to {N : Addr → Prop} {H H' : Hp} {v : V} {d : PyData} (r : Rp N H v d) (k : Kp N H H') : Rp N H' v d := r.kp k fun _ _ _ n => n
theorem RpAll.to {N : Addr → Prop} {H H' : Hp} {v : List V} {d : List PyData} (r : RpAll N H v d) (k : Kp N H H') : RpAll N H' v d := r.kp k fun _ _ _ n => n
/-- further places to be written, all new -/
theorem Rp.more {N N' : Addr → Prop} {H : Hp} {v : V} {d : PyData} (r : Rp N H v d) (h : ∀ a, N' a → N a ∨ H a = none) : Rp N' H v d :=
  r.kp Kp.refl fun a o e n z => (h a z).elim n fun q => by rw [q] at e; cases e
theorem RpAll.length {N : Addr → Prop} {H : Hp} : ∀ {vs : List V} {ds : List PyData}, RpAll N H vs ds → vs.length = ds.length
  | _, _, .nil => rfl
  | _, _, .cons _ t => congrArg (· + 1) t.length
theorem RpAll.get {N : Addr → Prop} {H : Hp} : ∀ {vs : List V} {ds : List PyData} {i : Nat} {v : V}, RpAll N H vs ds → vs[i]? = some v → ∃ d, ds[i]? = some d ∧ Rp N H v d
  | _, _, _, _, .nil, e => by simp at e
  | _, _, 0, _, .cons r _, e => by simp at e; subst e; exact ⟨_, rfl, r⟩
  | _, _, i + 1, _, .cons _ t, e => by simpa using t.get (i := i) (by simpa using e)
theorem RpAll.app {N : Addr → Prop} {H : Hp} : ∀ {vs ws : List V} {ds es : List PyData}, RpAll N H vs ds → RpAll N H ws es → RpAll N H (vs ++ ws) (ds ++ es)
  | _, _, _, _, .nil, s => s
  | _, _, _, _, .cons r t, s => .cons r (t.app s)
theorem RpAll.drop {N : Addr → Prop} {H : Hp} : ∀ {vs : List V} {ds : List PyData} (n : Nat), RpAll N H vs ds → RpAll N H (vs.drop n) (ds.drop n)
  | _, _, 0, r => r
  | _, _, _ + 1, .nil => .nil
  | _, _, n + 1, .cons _ t => RpAll.drop n t
theorem RpAll.take {N : Addr → Prop} {H : Hp} : ∀ {vs : List V} {ds : List PyData} (n : Nat), RpAll N H vs ds → RpAll N H (vs.take n) (ds.take n)
  | _, _, 0, _ => .nil
  | _, _, _ + 1, .nil => .nil
  | _, _, n + 1, .cons r t => .cons r (RpAll.take n t)
/-- the name of its type -/
def tyN : PyData → String
  | .none => "NoneType" | .bool _ => "bool" | .int _ => "int" | .str _ => "str" | .list _ => "list" | .tuple _ => "tuple" | .dict _ => "dict"
theorem Rp.ty {K : PySem.W.Frag} {N : Addr → Prop} {H : Hp} {v : V} {d : PyData} (r : Rp N H v d) : TyX K H v (.type (tyN d)) := by
  cases r with
  | non => exact .base .non
  | bl b => exact .base (.bl b)
  | int i => exact .base (.int i)
  | str x => exact .base (.str x)
  | lst e _ _ => exact .base (.lst e)
  | tup e _ _ => exact .base (.tup e)
  | emp e _ => exact .base (.dK e)
/-- is it of this kind (a flag is an int too) -/
def isT (T : String) (d : PyData) : Bool := tyN d == T || (T == "int" && tyN d == "bool")
def tyNs : List String := ["NoneType", "bool", "int", "str", "list", "tuple", "dict"]
theorem tyN_in (d : PyData) : tyN d ∈ tyNs := by cases d <;> simp [tyN, tyNs]
theorem kit_T {K : PySem.W.Frag} {T : String} (h : ∀ s ∈ tyNs, kitB s T = some (s == T || (T == "int" && s == "bool"))) (d : PyData) : PySem.W.kitOne K (.type (tyN d)) (.type T) = some (isT T d) := kit_ty (h _ (tyN_in d))
theorem kit_int {K : PySem.W.Frag} (d : PyData) : PySem.W.kitOne K (.type (tyN d)) (.type "int") = some (isT "int" d) := kit_T (by decide +kernel) d
theorem kit_bool {K : PySem.W.Frag} (d : PyData) : PySem.W.kitOne K (.type (tyN d)) (.type "bool") = some (isT "bool" d) := kit_T (by decide +kernel) d
theorem kit_str {K : PySem.W.Frag} (d : PyData) : PySem.W.kitOne K (.type (tyN d)) (.type "str") = some (isT "str" d) := kit_T (by decide +kernel) d
theorem kit_tuple {K : PySem.W.Frag} (d : PyData) : PySem.W.kitOne K (.type (tyN d)) (.type "tuple") = some (isT "tuple" d) := kit_T (by decide +kernel) d
theorem kit_list {K : PySem.W.Frag} (d : PyData) : PySem.W.kitOne K (.type (tyN d)) (.type "list") = some (isT "list" d) := kit_T (by decide +kernel) d
/-- isinstance(x, T) of a datum -/
theorem isi {K : PySem.W.Frag} {N : Addr → Prop} {H : Hp} {v : V} {d : PyData} {T : String} {Q : VK} (r : Rp N H v d) (k : PySem.W.kitOne K (.type (tyN d)) (.type T) = some (isT T d)) (q : Q (.bl (isT T d)) H) : rIsi K [v, .ty T] H Q :=
  ⟨v, .ty T, _, .type T, _, rfl, .ty T, r.ty, k, q⟩
/-- an integer, as the judges mean it -/
def intOf : PyData → Option Int
  | .int i => some i
  | _ => none
end KQ
set_option Elab.async false
set_option maxRecDepth 100000
set_option maxHeartbeats 4000000
namespace KQ
open PySem PySem.Spec PyProof.Rows L2

/-! ### an own error class without __init__: raised without arguments, caught by its name -/
section
variable {X : Cx} {C : Addr} {bmB : List Value} {B newId initId : String}
theorem pmk_bare {x : Str} {p pos : Pos} (F : ExcBaseFacts B newId initId bmB) (q : PySem.W.excIn X.K C bmB newId = true) (gC : X.mg x = some (.ref C)) (kC : PySem.W.keepIn X.K (.ref C) = true) (r : Raises X (.ref C)) (hg : Gl X x)
    (hdb : (x == ("__debug__" : Str)) = false := by decide) : PMk X (.Call (.Name x p) [] [] pos) (fun _ H Q => Q (.ref C) none H) := by
  intro pins s σ H Q I h
  refine wpAny_Call_Name_kw (ld_glob I hg gC ?_ hdb)
  refine PySem.W.callWith_K0 I.kIn kC ?_
  obtain ⟨bm, N, nm, qn, bs, hdct, sn, sub, ab, col, dd, k0, k1, k2, k3, k5, mN, hC, hN, hni, T⟩ := exc_obj I.kIn q
  obtain ⟨hp, g, d, t, os⟩ := s
  exact wpAny_call_exc_subT F T hC hN hni (rest := []) (fun h' e hm => mk_of I hm r h (I.hok.gone hm.new)) (Nat.zero_le _)
end
/-- what the written part says of such a class -/
structure ExcAt (K : PySem.W.Frag) (mg : Str → Option Value) (x : Str) (C : Addr) : Prop where
  g : mg x = some (.ref C)
  kp : PySem.W.keepIn K (.ref C) = true
  ex : PySem.W.excIn K C [.type "ValueError", .type "Exception", .type "BaseException", .type "object"] "ValueError.__new__" = true
  sub : PySem.W.subIn K (.ref C) (.type "BaseException") = some true
  ty : PySem.W.typeIn K (.ref C) = some (.type "type")
  own : PySem.W.subIn K (.ref C) (.ref C) = some true
  isC : PySem.W.isClsIn K C = true
theorem ExcAt.raises {X : Cx} {x : Str} {C : Addr} (T : ExcAt X.K X.mg x C) : Raises X (.ref C) := raises_own T.sub T.ty
theorem ExcAt.exm {K : PySem.W.Frag} {mg : Str → Option Value} {x : Str} {C : Addr} (T : ExcAt K mg x C) : PySem.W.exmOne K (.ref C) (.ref C) = some true := by
  unfold PySem.W.exmOne
  have e1 : (PySem.W.clsIn K C).isSome = true := T.isC
  simp [T.sub, PySem.W.kitCls, T.own, T.ty, e1]
theorem pmk_x {X : Cx} {x : Str} {C : Addr} {p pos : Pos} (T : ExcAt X.K X.mg x C) (hg : Gl X x) (hdb : (x == ("__debug__" : Str)) = false := by decide) : PMk X (.Call (.Name x p) [] [] pos) (fun _ H Q => Q (.ref C) none H) :=
  pmk_bare PySem.F.excBase_ValueError T.ex T.g T.kp T.raises hg hdb
/-- raise X() in a def that may raise it -/
def tRz (E : XK) (C : Addr) : TS := fun _ _ H => E (.ref C) none H
theorem ps_rz {X : Cx} {x : Str} {C : Addr} {W : WX} {p pos pos2 : Pos} (hc : X.calm = true) (tk : Takes X W) (T : ExcAt X.K X.mg x C) (hg : Gl X x) (hdb : (x == ("__debug__" : Str)) = false := by decide) :
    PS X (.Raise (some (.Call (.Name x p) [] [] pos)) none pos2) (fun _ σ H => W (.ref C) none σ H) := ps_raise hc tk (pmk_x T hg hdb)
end KQ
set_option Elab.async false
set_option maxRecDepth 100000
set_option maxHeartbeats 4000000
namespace KQ
open PySem PySem.Spec PyProof.Rows L2
/-! ### methods by their promises -/
/-- a method of the class at C as the top has left it -/
def MethAt (K : PySem.W.Frag) (C : Addr) (m qual : Str) (st : Stmt) : Prop := ∃ f fd, Fun K m qual st f fd ∧ Meth K C m f
def HasM (P : Program) (w : World) (K : PySem.W.Frag) (mg : Str → Option Value) (base : Heap) (k : Nat) (C : Addr) (m : Str) (ps : List Str) (sp : Sp) : Prop :=
  ∃ f fd, FnOk P w K mg base CX0 k f fd ps sp ∧ Meth K C m f ∧ Binds K fd ps []
def HasMX (P : Program) (w : World) (K : PySem.W.Frag) (mg : Str → Option Value) (base : Heap) (k : Nat) (C : Addr) (m : Str) (ps : List Str) (sp : Sp) : Prop :=
  ∃ f fd, FnOk P w K mg base (L2.CX P w) k f fd ps sp ∧ Meth K C m f ∧ Binds K fd ps []
/-- a class that is made by its own __init__ -/
def HasC (P : Program) (w : World) (K : PySem.W.Frag) (mg : Str → Option Value) (base : Heap) (k : Nat) (x : Str) (C : Addr) (ps : List Str) (sp : Sp) : Prop :=
  ∃ f fd, FnOk P w K mg base CX0 k f fd ps sp ∧ Mk K C f ∧ mg x = some (.ref C) ∧ Binds K fd ps []
def HasCX (P : Program) (w : World) (K : PySem.W.Frag) (mg : Str → Option Value) (base : Heap) (k : Nat) (x : Str) (C : Addr) (ps : List Str) (sp : Sp) : Prop :=
  ∃ f fd, FnOk P w K mg base (L2.CX P w) k f fd ps sp ∧ Mk K C f ∧ mg x = some (.ref C) ∧ Binds K fd ps []
abbrev BindsQ (st : Stmt) (x qual : Str) (ps : List Str) : Prop :=
  ∀ (kV doc pm : Value) (an : Option Addr) (cdv ct : Value) (us : List Value), us.length = ps.length → bindArgs (PySem.W.fnOf x qual (defArgs st) (defBody st) (defScope st) .none kV doc pm an cdv ct) ⟨us, []⟩ = pure (ps.zip us)
section
variable {P : Program} {w : World} {K : PySem.W.Frag} {mg : Str → Option Value} {base : Heap}
theorem mk_hasM {C : Addr} {x qual : Str} {st : Stmt} {N ps : List Str} {k : Nat} {sp : Sp} (F : MethAt K C x qual st) (S : FnScope N ps (defScope st)) (hb : BindsQ st x qual ps) (len : ∀ vs H Q E, sp vs H Q E → vs.length = ps.length)
    (body : ∀ (f : Addr) (cdv : Value) (A : Around) (outer : List Env) (s : Shared) (H : Hp) (vs : List V) (Q : VK) (E : XK), Room k (A.deeper (envOfC qual (defScope st) s.heap.objs.size f cdv)) → sp vs H Q E →
      ∃ t, PSs (cxOf CX0 P w K mg base N qual (defScope st) f cdv A outer s H E).nox (defBody st) t ∧ t { nx := fun _ H' => Q .non H', rt := Q } (start N vs) H) : HasM P w K mg base (k + 1) C x ps sp := by
  obtain ⟨f, fd, F, m⟩ := F
  exact ⟨f, fd, F.ok S len (fun cdv A outer s H vs Q E => body f cdv A outer s H vs Q E), m, F.binds hb⟩
theorem mk_hasMX {C : Addr} {x qual : Str} {st : Stmt} {N ps : List Str} {k : Nat} {sp : Sp} (F : MethAt K C x qual st) (S : FnScope N ps (defScope st)) (hb : BindsQ st x qual ps) (len : ∀ vs H Q E, sp vs H Q E → vs.length = ps.length)
    (body : ∀ (f : Addr) (cdv : Value) (A : Around) (outer : List Env) (s : Shared) (H : Hp) (vs : List V) (Q : VK) (E : XK), Room k (A.deeper (envOfC qual (defScope st) s.heap.objs.size f cdv)) → sp vs H Q E →
      ∃ t, PSs (cxOf (L2.CX P w) P w K mg base N qual (defScope st) f cdv A outer s H E) (defBody st) t ∧ t { nx := fun _ H' => Q .non H', rt := Q } (start N vs) H) : HasMX P w K mg base (k + 1) C x ps sp := by
  obtain ⟨f, fd, F, m⟩ := F
  exact ⟨f, fd, F.okX S len (fun cdv A outer s H vs Q E => body f cdv A outer s H vs Q E), m, F.binds hb⟩
/-- a class's __init__ -/
def InitAt (K : PySem.W.Frag) (mg : Str → Option Value) (x : Str) (C : Addr) (qual : Str) (st : Stmt) : Prop := ∃ f fd, Fun K "__init__" qual st f fd ∧ Mk K C f ∧ mg x = some (.ref C)
theorem mk_hasC {C : Addr} {x qual : Str} {st : Stmt} {N ps : List Str} {k : Nat} {sp : Sp} (F : InitAt K mg x C qual st) (S : FnScope N ps (defScope st)) (hb : BindsQ st "__init__" qual ps) (len : ∀ vs H Q E, sp vs H Q E → vs.length = ps.length)
    (body : ∀ (f : Addr) (cdv : Value) (A : Around) (outer : List Env) (s : Shared) (H : Hp) (vs : List V) (Q : VK) (E : XK), Room k (A.deeper (envOfC qual (defScope st) s.heap.objs.size f cdv)) → sp vs H Q E →
      ∃ t, PSs (cxOf CX0 P w K mg base N qual (defScope st) f cdv A outer s H E).nox (defBody st) t ∧ t { nx := fun _ H' => Q .non H', rt := Q } (start N vs) H) : HasC P w K mg base (k + 1) x C ps sp := by
  obtain ⟨f, fd, F, m, g⟩ := F
  exact ⟨f, fd, F.ok S len (fun cdv A outer s H vs Q E => body f cdv A outer s H vs Q E), m, g, F.binds hb⟩
theorem mk_hasCX {C : Addr} {x qual : Str} {st : Stmt} {N ps : List Str} {k : Nat} {sp : Sp} (F : InitAt K mg x C qual st) (S : FnScope N ps (defScope st)) (hb : BindsQ st "__init__" qual ps) (len : ∀ vs H Q E, sp vs H Q E → vs.length = ps.length)
    (body : ∀ (f : Addr) (cdv : Value) (A : Around) (outer : List Env) (s : Shared) (H : Hp) (vs : List V) (Q : VK) (E : XK), Room k (A.deeper (envOfC qual (defScope st) s.heap.objs.size f cdv)) → sp vs H Q E →
      ∃ t, PSs (cxOf (L2.CX P w) P w K mg base N qual (defScope st) f cdv A outer s H E) (defBody st) t ∧ t { nx := fun _ H' => Q .non H', rt := Q } (start N vs) H) : HasCX P w K mg base (k + 1) x C ps sp := by
  obtain ⟨f, fd, F, m, g⟩ := F
  exact ⟨f, fd, F.okX S len (fun cdv A outer s H vs Q E => body f cdv A outer s H vs Q E), m, g, F.binds hb⟩
end
section
variable {X : Cx} {k : Nat} {C : Addr} {x m : Str} {ps : List Str} {sp : Sp} {e o : Expr} {es : List Expr} {p pos apos : Pos} {ta : TE} {t : TA} {pl : Sem Bool}
theorem pe_m (D : HasM X.prog X.w X.K X.mg X.base k C m ps sp) (c : Cls X.K C) (hr : Room k X.A) (ho : PE X o ta) (ha : PA X (e :: es) t)
    (hst : starEach (e :: es) X.env = (false, eval e X.env) :: starEach es X.env := by rfl) (hpl : (backTo pos (starEach es X.env)).any (·.1) = false := by rfl)
    (ht : eval (.Call (.Attribute o m apos) (e :: es) [] pos) X.env = (do
      let ov ← eval o X.env
      standAt apos.atName
      let (f, first) ← holding [ov] (getMethod ov m pl)
      callWith pos f first (backTo pos (starEach (e :: es) X.env)) (backToKw pos (keywordEach [] X.env))) := by rfl) :
    PE X (.Call (.Attribute o m apos) (e :: es) [] pos) (tMeth C m sp [] E0 ta t) := by
  obtain ⟨f, fd, G, M, b⟩ := D
  exact pe_meth ho c M G hr b .nil pass0 ha hst hpl ht
theorem pe_m0 (D : HasM X.prog X.w X.K X.mg X.base k C m ps sp) (c : Cls X.K C) (hr : Room k X.A) (ho : PE X o ta)
    (ht : eval (.Call (.Attribute o m apos) [] [] pos) X.env = (do
      let ov ← eval o X.env
      standAt apos.atName
      let (f, first) ← holding [ov] (getMethod ov m pl)
      callWith pos f first (backTo pos (starEach [] X.env)) (backToKw pos (keywordEach [] X.env))) := by rfl) :
    PE X (.Call (.Attribute o m apos) [] [] pos) (tMeth C m sp [] E0 ta tNil) := by
  obtain ⟨f, fd, G, M, b⟩ := D
  exact pe_meth0 ho c M G hr b .nil pass0 ht
/-- a method that may raise, called where that is wished for (W) -/
def tMethW (C : Addr) (m : Str) (sp : Sp) (W : WX) (ta : TE) (t : TA) : TE := fun σ H Q => ta σ H fun x H1 => ∃ a dx fs, x = .ref a ∧ H1 a = some (.ins C dx fs) ∧ fs.lookup m = none ∧ t σ H1 fun vs H2 => sp (x :: vs) H2 Q (WE W σ)
theorem pe_mX {W : WX} (tk : Takes X W) (D : HasMX X.prog X.w X.K X.mg X.base k C m ps sp) (c : Cls X.K C) (hr : Room k X.A) (ho : PE X o ta) (ha : PA X (e :: es) t)
    (hst : starEach (e :: es) X.env = (false, eval e X.env) :: starEach es X.env := by rfl) (hpl : (backTo pos (starEach es X.env)).any (·.1) = false := by rfl)
    (ht : eval (.Call (.Attribute o m apos) (e :: es) [] pos) X.env = (do
      let ov ← eval o X.env
      standAt apos.atName
      let (f, first) ← holding [ov] (getMethod ov m pl)
      callWith pos f first (backTo pos (starEach (e :: es) X.env)) (backToKw pos (keywordEach [] X.env))) := by rfl) :
    PE X (.Call (.Attribute o m apos) (e :: es) [] pos) (tMethW C m sp W ta t) := by
  obtain ⟨f, fd, G, M, b⟩ := D
  constructor
  intro pins s σ H Q I h
  refine PySem.W.methodCall_KW (pl := pl) (thn (ho.run pins s σ H _ I h) ?_) ht
  rintro u s1 ⟨x, H1, I1, rx, a, dx, fs, rfl, ea, l, q⟩
  obtain rfl : u = Value.ref a := rx
  refine getmeth_ok I1 ea c M l (PySem.W.callWith_K (first := [.ref a]) (h₀ := X.base) I.ok.mod.kin M.kp (thn (ha.run pos pins s1 σ H1 _ I1 q) ?_) hst hpl)
  rintro us s2 ⟨vs, H2, I2, r, q2⟩
  exact ⟨I2.kIn, run_fnS (us := .ref a :: us) (vs := .ref a :: vs) G hr b (passAt tk σ) I2 (.cons rfl r) q2⟩
theorem pe_c (D : HasC X.prog X.w X.K X.mg X.base k x C ps sp) (hr : Room (k + 1) X.A) (hg : Gl X x) (ha : PA X (e :: es) t) (hdb : (x == ("__debug__" : Str)) = false := by decide)
    (he : starEach (e :: es) X.env = (false, eval e X.env) :: starEach es X.env := by rfl) (hpl : (backTo pos (starEach es X.env)).any (·.1) = false := by rfl) :
    PE X (.Call (.Name x p) (e :: es) [] pos) (tMake C sp [] E0 t) := by
  obtain ⟨f, fd, G, M, g, b⟩ := D
  exact pe_make M G hr hg g b .nil pass0 ha hdb he hpl
theorem pe_c0 (D : HasC X.prog X.w X.K X.mg X.base k x C ps sp) (hr : Room (k + 1) X.A) (hg : Gl X x) (hdb : (x == ("__debug__" : Str)) = false := by decide) :
    PE X (.Call (.Name x p) [] [] pos) (tMake C sp [] E0 tNil) := by
  obtain ⟨f, fd, G, M, g, b⟩ := D
  exact pe_make0 M G hr hg g b .nil pass0 hdb
end
end KQ
set_option Elab.async false
set_option maxRecDepth 100000
set_option maxHeartbeats 4000000
/-! B4: from the facts that the head finds to defs, methods, classes; the law's own end. -/
namespace KQ
open PySem PySem.Spec PyProof.Rows L2
section
variable {K : PySem.W.Frag} {h : Heap} {mg : Str → Option Value} {x m qual : Str} {st : Stmt} {f C : Addr} {oc : Value} {od an : Option Addr} {kV doc pm cdv ct : Value} {sl : Array (Option Value)}
theorem funAt_of (X : K.In h) (G : h.Ns mainGlobals mg) (a : PySem.W.nsIn K mainGlobals x = some (some (.ref f))) (l : K.lookup f = some ⟨oc, od, .func (PySem.W.fnOf x x (defArgs st) (defBody st) (defScope st) .none kV doc pm an cdv ct), sl⟩)
    (c : PySem.W.codeIn K cdv x = true) (k : PySem.W.keepIn K (.ref f) = true) : FunAt K mg x st := ⟨f, _, fun_mk l c k, PySem.W.mg_of X G a⟩
theorem methAt_of (a : PySem.W.findIn K (.ref C) m = some (some (.ref f))) (i : PySem.W.isFn K (.ref f) = true) (l : K.lookup f = some ⟨oc, od, .func (PySem.W.fnOf m qual (defArgs st) (defBody st) (defScope st) .none kV doc pm an cdv ct), sl⟩)
    (c : PySem.W.codeIn K cdv qual = true) (k : PySem.W.keepIn K (.ref f) = true) : MethAt K C m qual st := ⟨f, _, fun_mk l c k, ⟨a, i, k⟩⟩
theorem initAt_of (X : K.In h) (G : h.Ns mainGlobals mg) (aC : PySem.W.nsIn K mainGlobals x = some (some (.ref C))) (mk : PySem.W.makesIn K C = true) (kC : PySem.W.keepIn K (.ref C) = true)
    (a : PySem.W.findIn K (.ref C) "__init__" = some (some (.ref f))) (i : PySem.W.isFn K (.ref f) = true) (l : K.lookup f = some ⟨oc, od, .func (PySem.W.fnOf "__init__" qual (defArgs st) (defBody st) (defScope st) .none kV doc pm an cdv ct), sl⟩)
    (c : PySem.W.codeIn K cdv qual = true) (k : PySem.W.keepIn K (.ref f) = true) : InitAt K mg x C qual st := ⟨f, _, fun_mk l c k, ⟨mk, a, i, kC⟩, PySem.W.mg_of X G aC⟩
/-- a built-in name that the text leaves alone -/
theorem free_of (X : K.In h) (G : h.Ns mainGlobals mg) (e : PySem.W.nsIn K mainGlobals x = some none) : mg x = none := PySem.W.mg_none_of X G e
theorem excAt_of (X : K.In h) (G : h.Ns mainGlobals mg) (a : PySem.W.nsIn K mainGlobals x = some (some (.ref C))) (kp : PySem.W.keepIn K (.ref C) = true)
    (ex : PySem.W.excIn K C [.type "ValueError", .type "Exception", .type "BaseException", .type "object"] "ValueError.__new__" = true) (sub : PySem.W.subIn K (.ref C) (.type "BaseException") = some true)
    (ty : PySem.W.typeIn K (.ref C) = some (.type "type")) (own : PySem.W.subIn K (.ref C) (.ref C) = some true) (isC : PySem.W.isClsIn K C = true) : ExcAt K mg x C := ⟨PySem.W.mg_of X G a, kp, ex, sub, ty, own, isC⟩
end
theorem walkX {l : PySem.W.OpenLaw} {k : Nat} {q : Program} {loose : List Str} {XP : (Str → Option Value) → Heap → Prop} {YP : World → Heap → Prop} {d : DefRec} {K : Params → PySem.W.Frag} {sp : PySem.W.Frag → Sp} (hn : l.most = some 63) (hdf : d.params.defaults = []) (hr : Room k callerA)
    (hY : ∀ (w : World) (h : Heap), YP w h → (K w.params).In h)
    (F : ∀ (w : World) (mg : Str → Option Value) (fa : Addr) (h : Heap), (K w.params).In h → h.Ns mainGlobals mg → XP mg h → mg d.name = some (.ref fa) →
      ∃ fd : FuncData, (∀ (s : Shared) (u : Value), BindsTo s fd ⟨[u], []⟩ [("script", u)]) ∧ ∀ base : Heap, FnOk l.prog w (K w.params) mg base CX0 k fa fd ["script"] (sp (K w.params)))
    (hsp : ∀ (K : PySem.W.Frag) (H : Hp) (a : Addr) (ns : List Int), ns.length ≤ 63 → SqL K H a (ns.map V.int) → sp K [.ref a] H (fun v _ => v = .bl true) fun _ _ _ => False) :
    PySem.W.WalkO q loose XP YP l.row.toRowW d [] (fun f vs => PySem.call f vs) :=
  Att.attach_call hn hdf fun w _ s₁ mg _ fa _ _ _ _ a _ ns G Y _ _ _ hmg hobj hints hlen hg =>
    let ⟨_, hb, hF⟩ := F w mg fa _ (hY w _ Y) G.T.g G.X hmg
    law_call (CX := CX0) (hY w _ Y) G.T.g G.T.b G.T.builtins G.T.nolimit hg hobj hints (Nat.le_trans hlen (by decide)) hr (fun base _ _ => hF base) hb (fun H _ hS => hsp _ H a ns hlen hS) fun _ _ _ z => z
end KQ
set_option Elab.async false
set_option maxRecDepth 100000
set_option maxHeartbeats 4000000
/-! B5: enumerate of a tuple, walked. -/
namespace KQ
open PySem PySem.Spec PyProof.Rows L2
set_option maxHeartbeats 4000000 in
theorem enum_new {v : Value} {o : Obj} {Z : Heap → Prop} (B : Begins v o Z) :
    Meets (Builtin.«enumerate.__new__» ⟨[.type "enumerate", v], []⟩) (fun _ R s => Z s.heap ∧
      R (.ok (.ret (.ref (s.heap.push o).objs.size))) { s with heap := (s.heap.push o).push { cls := .type "enumerate", data := .fields #[.none, .bool false, .ref s.heap.objs.size, rawInt 0, .none, .none] } }) := by
  refine .of_wp fun prog w A R s h => ?_
  obtain ⟨hp, g, d, tk, os⟩ := s
  obtain ⟨h1, h⟩ := h
  have hsub := sub_enumerate
  have it : ∀ {A' : Around} {E Q : Value → Shared → Prop}, Q (.ref hp.objs.size) ⟨hp.push o, g, d, tk, os⟩ → wpAny (model prog w) A' (pyIter v) Q E ⟨hp, g, d, tk, os⟩ := fun q => B.iter prog w _ _ ⟨hp, g, d, tk, os⟩ _ h1 q
  wp_walk using it
  refine wpAny_stack_any fun st => wpAny_pure ?_
  split
  · rename_i c _ _ _ _ _
    cases (c == Value.type "enumerate") <;> (wp_walk using it) <;> exact ⟨_, rfl, h⟩
  · wp_walk using it
    exact ⟨_, rfl, h⟩
theorem enum_call {prog : Program} {w : World} {A : Around} {E : Value → Shared → Prop} {s : Shared} {v : Value} {o : Obj} {Z : Heap → Prop} {Q : Value → Shared → Prop} (B : Begins v o Z) (h1 : Z s.heap)
    (h : ∀ h', IsEnum h' (s.heap.objs.size + 1) s.heap.objs.size 0 .none → h'.get? s.heap.objs.size = some o → (∀ b o, s.heap.get? b = some o → h'.get? b = some o) → Q (.ref (s.heap.objs.size + 1)) { s with heap := h' }) :
    wpAny (model prog w) A (call (.type "enumerate") [v]) Q E s := by
  refine callType_new F.called_enumerate (by decide) (F.typeCall_enumerate_1 _) (F.newCall_enumerate_1 _) (fun obj => F.args_object_init_2 obj _) F.entry_enumerate_new (enum_new B) ⟨h1, ?_⟩
  have hz : (s.heap.push o).objs.size = s.heap.objs.size + 1 := Heap.size_push ..
  have he : IsEnum ((s.heap.push o).push { cls := .type "enumerate", data := .fields #[.none, .bool false, .ref s.heap.objs.size, rawInt 0, .none, .none] }) (s.heap.objs.size + 1) s.heap.objs.size 0 .none := by
    have q := Heap.get?_push_size (s.heap.push o) (o := { cls := .type "enumerate", data := .fields #[.none, .bool false, .ref s.heap.objs.size, rawInt 0, .none, .none] }) rfl
    rwa [hz] at q
  show _ ∧ _
  rw [hz]
  exact ⟨⟨_, he, rfl⟩, h _ he (Heap.get?_push_of_some _ (Heap.get?_push_size _ B.free)) fun b u x => Heap.get?_push_of_some _ (Heap.get?_push_of_some _ x)⟩
/-- the tuple at a, each item in a new pair with its number -/
def Iet (K : PySem.W.Frag) (a : Addr) : It :=
  ⟨fun i H => ∃ (xs : List V) (x : V), SqT K H a xs ∧ xs[i]? = some x, fun i H v H' => ∃ T x, v = .ref T ∧ H T = none ∧ H' = upd H T (.tup [.int (i : Nat), x]) ∧ ∀ xs, SqT K H a xs → xs[i]? = some x, fun i H => ∃ xs : List V, SqT K H a xs ∧ xs.length = i⟩
theorem turn_et {P : Program} {w : World} {K : PySem.W.Frag} {elts : List Expr} {kk : Nat} {tpos : Pos} (a e it : Addr) :
    Turn P w K (.Tuple elts kk tpos) (Iet K a) [e, it] e (fun i h => (∃ old, IsEnum h e it ((i : Nat) : Int) old) ∧ h.IsTupleIter it a i ∧ e ≠ it) := by
  refine ⟨by simp, fun i h st b hb => ?_, fun i h h' st k => ?_, ?_, ?_, fun A i s Q E st h => let ⟨⟨_, he⟩, _⟩ := st; wpAny_pyIter_enum he h⟩
  · obtain ⟨⟨old, he⟩, ⟨o, ho, hc, hd⟩, _⟩ := st
    have eb : b = e ∨ b = it := by simpa using hb
    rcases eb with z | z
    · rw [z]
      exact ⟨_, he, fun v q => nomatch q⟩
    · rw [z]
      exact ⟨o, ho, fun v q => by rw [hd] at q; cases q⟩
  · obtain ⟨⟨old, he⟩, hi, hne⟩ := st
    exact ⟨⟨old, k e (by simp) _ he⟩, hi.at fun o q => k it (by simp) o q, hne⟩
  · intro X hP hw hK hc i pins s σ H E I hf st hg
    subst hP hw hK
    obtain ⟨⟨old, he⟩, hit, hne⟩ := st
    obtain ⟨xs, x, hq, hx⟩ := hg
    obtain ⟨its, rv, p, hz⟩ := I.tuple hq
    obtain ⟨u, hu, ru⟩ := rv.get hx
    have hel : e < s.heap.objs.size := Heap.lt_size he
    have hil : it < s.heap.objs.size := by obtain ⟨_, q, _⟩ := hit; exact Heap.lt_size q
    have hai : a ≠ it := by
      rintro rfl
      obtain ⟨o1, q1, _, d1⟩ := hit
      obtain ⟨o2, q2, _, _, d2⟩ := p
      rw [q1] at q2
      cases q2
      rw [d1] at d2
      cases d2
    have hea : e ≠ a := by
      rintro rfl
      obtain ⟨o2, q2, _, _, d2⟩ := p
      have he' : s.heap.get? e = some _ := he
      rw [he'] at q2
      cases q2
      cases d2
    refine wpAny_pyNext_enum_itemD (Draws.tuple (A := X.A.in1) (I.ok.hd hc) it a hai its.toArray) he ⟨hit, p⟩ (by have := (List.getElem?_eq_some_iff.mp hu).1; simpa using this) hne (by simp [hne, hea]) fun y h' tk hy ho hst hT hsz hk => ?_
    have ey : y = u := by
      have hy' : its.toArray[i]? = some y := hy
      rw [List.getElem?_toArray, hu] at hy'
      exact (Option.some.inj hy').symm
    subst ey
    refine ⟨_, rfl, wpAny_letOwnedTupleGo_enum (s := { s with heap := h', toks := tk + 1 }) ho fun h'' he' sb => ?_⟩
    have hT2 : h''.get? s.heap.objs.size = some { cls := .type "tuple", data := .seq #[.int i tk, y] } := (sb.2 _ (Nat.ne_of_gt hel)).trans hT
    have new : ObjOk X.prog X.w (upd H s.heap.objs.size (.tup [.int (i : Nat), x])) h'' s.heap.objs.size (.tup [.int (i : Nat), x]) :=
      ⟨by show 2 ≤ sizeLine; decide, [.int i tk, y], .cons ⟨_, rfl⟩ (.cons ru .nil), ⟨_, hT2, rfl, _, rfl⟩⟩
    have I1 : Inv X pins σ (upd H s.heap.objs.size (.tup [.int (i : Nat), x])) { s with heap := h'', toks := tk + 1 } :=
      I.turnedNew (ch := [e, it]) (fun b ob hb q => (sb.2 b (fun z => hb (by simp [z]))).trans (hk b ob (fun z => hb (by simp [z])) (fun z => hb (by simp [z])) q)) hf (Nat.le_refl _) new
    refine ⟨.ref s.heap.objs.size, _, I1, rfl, ⟨_, x, rfl, I.hok.fresh (Nat.le_refl _), rfl, fun ys hy => by rw [I.tuple_inj hy hq]; exact hx⟩, ⟨⟨y, ?_⟩, hst.1.at fun o q => (sb.2 it (Ne.symm hne)).trans q, hne⟩, fun b hb => ?_⟩
    · rw [show ((i + 1 : Nat) : Int) = (i : Int) + 1 by omega]
      exact he'
    · have eb : b = e ∨ b = it := by simpa using hb
      have hb' : b < s.heap.objs.size := by rcases eb with z | z <;> rw [z] <;> assumption
      rw [upd_ne (Nat.ne_of_lt hb')]
      exact (hf b hb).1
  · intro X hP hw hK hc i pins s σ H E I hf st hg
    subst hP hw hK
    obtain ⟨⟨old, he⟩, hit, hne⟩ := st
    obtain ⟨xs, hq, hx⟩ := hg
    obtain ⟨its, rv, p, hz⟩ := I.tuple hq
    obtain ⟨f0, f1, f2, f3, f4, f5⟩ := hf it (by simp)
    have hl := rv.length
    have hai : a ≠ it := by
      rintro rfl
      obtain ⟨o1, q1, _, d1⟩ := hit
      obtain ⟨o2, q2, _, _, d2⟩ := p
      rw [q1] at q2
      cases q2
      rw [d1] at d2
      cases d2
    exact wpAny_pyNext_enum_endD (Draws.tuple (A := X.A.in1) (I.ok.hd hc) it a hai its.toArray) he ⟨by rw [show its.toArray.size = i by simp; omega]; exact hit, p⟩ fun h' eb => ⟨rfl, I.turned (t' := s.toks) (fun b o hb q => eb b o hb q) f0 f1 f3 f4 f5⟩
def iEt (K : PySem.W.Frag) (ta : TA) : TI := fun σ H R => ta σ H fun vs H1 => ∃ a xs, vs = [.ref a] ∧ SqT K H1 a xs ∧ R (Iet K a) H1
theorem pi_enumT {X : Cx} {e : Expr} {ta : TA} {p pos tpos : Pos} {elts : List Expr} {kk : Nat} (hg : Gl X "enumerate") (hm : X.mg "enumerate" = none) (ha : PA X [e] ta) (hs : starEach [e] X.env = [(false, eval e X.env)] := by rfl) :
    PI X (.Tuple elts kk tpos) (.Call (.Name "enumerate" p) [e] [] pos) (iEt X.K ta) := by
  constructor
  intro pins s σ H R I h
  refine Call_ (ld_blt I hg hm boot_enumerate (PyProof.Rows.callWith_type1 (thn (ha.run pos pins s σ H _ I h) ?_) hs rfl))
  rintro us s1 ⟨vs, H1, I1, r1, a, xs, rfl, hq, q⟩
  cases r1 with
  | cons r rr =>
    cases rr
    cases r
    obtain ⟨its, rv, p', hz⟩ := I1.tuple hq
    refine enum_call (begins_tuple a its.toArray) p' fun h' he hit hk => wpAny_pyIter_enum he ?_
    have I2 : Inv X pins σ H1 { s1 with heap := h' } := I1.kept (t' := s1.toks) hk
    refine ⟨s1.heap.objs.size + 1, [s1.heap.objs.size + 1, s1.heap.objs.size], _, _, H1, rfl, I2, turn_et a (s1.heap.objs.size + 1) s1.heap.objs.size, ⟨⟨.none, he⟩, ⟨_, hit, rfl, rfl⟩, Nat.succ_ne_self _⟩, fun b hb => ?_, q⟩
    have eb : b = s1.heap.objs.size + 1 ∨ b = s1.heap.objs.size := by simpa using hb
    have hle : s1.heap.objs.size ≤ b := by
      rcases eb with z | z <;> rw [z]
      · exact Nat.le_add_right _ _
      · exact Nat.le_refl _
    exact I1.fpOk hle (I1.hok.fresh hle)
theorem for_et {K : PySem.W.Frag} {a : Addr} {xs : List V} {g : TG} {tb : TS} {D : Ends} {σ : L2.St} {H : Hp} (Pv : Nat → L2.St → Hp → Prop) (h0 : Pv 0 σ H) (hq : ∀ i σ H, Pv i σ H → SqT K H a xs)
    (hs : ∀ (i : Nat) (x : V) (T : Addr) (σ : L2.St) (H : Hp), xs[i]? = some x → Pv i σ H → H T = none → g (.ref T) σ (upd H T (.tup [.int (i : Nat), x])) fun σ2 H2 => tb { D with nx := Pv (i + 1), ct := Pv (i + 1), bk := D.nx } σ2 H2) (hd : ∀ σ H, Pv xs.length σ H → D.nx σ H) :
    ∃ W : Nat → Nat → L2.St → Hp → Prop, (∃ m, W 0 m σ H) ∧ ∀ i m σ H, W i m σ H →
      ((Iet K a).stop i H ∧ D.nx σ H) ∨ ((Iet K a).go i H ∧ ∃ N : L2.St → Hp → Prop, (∀ σ' H', N σ' H' → ∃ m', m' < m ∧ W (i + 1) m' σ' H') ∧ ∀ x H', (Iet K a).yld i H x H' → g x σ H' fun σ2 H2 => tb { D with nx := N, ct := N, bk := D.nx } σ2 H2) := by
  refine ⟨fun i m σ H => m = xs.length - i ∧ i ≤ xs.length ∧ Pv i σ H, ⟨_, rfl, Nat.zero_le _, h0⟩, ?_⟩
  rintro i m σ H ⟨rfl, hi, pv⟩
  have q := hq i σ H pv
  rcases Nat.lt_or_eq_of_le hi with hlt | he
  · refine .inr ⟨⟨xs, xs[i], q, by simp [hlt]⟩, Pv (i + 1), fun σ' H' p' => ⟨_, by omega, rfl, hlt, p'⟩, ?_⟩
    rintro x H' ⟨T, y, rfl, nT, rfl, hy⟩
    have ey : xs[i]? = some y := hy xs q
    exact hs i y T σ H ey pv nT
  · subst he
    exact .inl ⟨⟨xs, q, rfl⟩, hd σ H pv⟩
end KQ
set_option Elab.async false
set_option maxRecDepth 100000
set_option maxHeartbeats 4000000
/-! B6: errors with a field; a class whose making may raise. -/
namespace KQ
open PySem PySem.Spec PyProof.Rows L2
/-- __init__ of an error with one field: it is stored -/
def spErrInit (C : Addr) (fld : Str) : Sp := fun vs H Q _ => ∃ (a : Addr) (v : V), vs = [.ref a, v] ∧ H a = some (exo a C none) ∧ ∀ dx, H dx = none → dx ≠ a → Q .non (upd (upd H dx (exd dx [(fld, v)])) a (exo a C (some dx)))
structure ErrAt (P : Program) (w : World) (K : PySem.W.Frag) (mg : Str → Option Value) (base : Heap) (x : Str) (C : Addr) (fld : Str) : Prop where
  g : mg x = some (.ref C)
  oex : OexC K C
  xf : XfC K C
  no : PySem.W.findIn K (.ref C) fld = some none
  exm : PySem.W.exmOne K (.ref C) (.ref C) = some true
  ini : ∃ f fd, PySem.W.findIn K (.ref C) "__init__" = some (some (.ref f)) ∧ PySem.W.typeIn K (.ref f) = some (.type "function") ∧ FnOk P w K mg base CX0 1 f fd ["self", fld] (spErrInit C fld) ∧ Binds K fd ["self", fld] []
/-- what is left to show of X(v), v already told -/
theorem mk_err {C : Addr} {fld : Str} {v : V} {H1 : Hp} {Q : XK} (h : ∀ d, H1 d = none → Q (.ref C) (some d) (upd H1 d (.xd [(fld, v)]))) :
    [v].length ≤ 1000 ∧ ∀ a, H1 a = none → spErrInit C fld (.ref a :: ([v] ++ [])) (upd H1 a (exo a C none)) (fun u H2 => u = .non ∧ ∃ (d : Addr) (fs : List (Str × V)), H2 a = some (exo a C (some d)) ∧ H2 d = some (exd d fs) ∧ H1 d = none ∧ Q (.ref C) (some d) (upd (del H2 a) d (.xd fs))) (fun _ _ _ => False) := by
  refine ⟨by show 1 ≤ 1000; decide, fun a ha => ⟨a, v, rfl, upd_same, fun dx hd ne => ⟨rfl, dx, [(fld, v)], upd_same, by rw [upd_ne ne]; exact upd_same, ?_, ?_⟩⟩⟩
  · rw [upd_ne ne] at hd
    exact hd
  · have hd1 : H1 dx = none := by
      rw [upd_ne ne] at hd
      exact hd
    have e : upd (del (upd (upd (upd H1 a (exo a C none)) dx (exd dx [(fld, v)])) a (exo a C (some dx))) a) dx (.xd [(fld, v)]) = upd H1 dx (.xd [(fld, v)]) := by
      funext b
      by_cases h1 : b = dx
      · rw [h1, upd_same, upd_same]
      · rw [upd_ne h1, upd_ne h1]
        by_cases h2 : b = a
        · rw [h2, del_same]
          exact ha.symm
        · rw [del_ne h2, upd_ne h2, upd_ne h1, upd_ne h2]
    rw [e]
    exact h dx hd1
section
variable {X : Cx} {x fld : Str} {C : Addr} {e : Expr} {ta : TA} {p pos pos2 : Pos}
/-- raise X(e) -/
theorem ps_rx {W : WX} (hc : X.calm = true) (tk : Takes X W) (T : ErrAt X.prog X.w X.K X.mg X.base x C fld) (hr : Room 2 X.A) (ha : PA X [e] ta) (hg : Gl X x) (hdb : (x == ("__debug__" : Str)) = false := by decide)
    (he : starEach (e :: []) X.env = (false, eval e X.env) :: starEach [] X.env := by rfl) (hpl : (backTo pos (starEach [] X.env)).any (·.1) = false := by rfl) :
    PS X (.Raise (some (.Call (.Name x p) [e] [] pos)) none pos2) (fun _ σ H => tMkO C (spErrInit C fld) [] ta σ H fun cls d H' => W cls d σ H') := by
  obtain ⟨f, fd, iC, tI, G, b⟩ := T.ini
  exact ps_raise hc tk (pmk_oex T.oex iC tI G hr b .nil pass0 hg T.g ha hdb he hpl)
/-- err.field in an except suite -/
theorem pe_ef {a : Addr} {oe : Obj} {cls : Value} {d : Option Addr} {pn : List (Addr × Obj)} {o : Expr} {te : TE} (T : ErrAt X.prog X.w X.K X.mg X.base x C fld) (hz : Zc cls d oe) (hf : ∃ vs, oe.data = .fields vs) (he : PE (X.suite a ((a, oe) :: pn)) o te)
    (hb : attributeBase o fld X.env (eval o X.env) = eval o X.env := by rfl) : PE (X.suite a ((a, oe) :: pn)) (.Attribute o fld pos) (tXf a cls d C fld te) := pe_xf T.xf T.no hz hf he hb
end
/-! ### C(e, ..) where __init__ may raise -/
section
variable {X : Cx} {k : Nat} {x : Str} {C : Addr} {ps : List Str} {sp : Sp} {e : Expr} {es : List Expr} {p pos : Pos} {t : TA}
def tMakeW (C : Addr) (sp : Sp) (W : WX) (t : TA) : TE := fun σ H Q => t σ H fun vs H1 => ∀ x dx, H1 x = none → H1 dx = none → dx ≠ x → sp (.ref x :: vs) (upd (upd H1 dx (.own x)) x (.ins C dx [])) (fun v H2 => v = .non ∧ Q (.ref x) H2) (WE W σ)
theorem pe_cX {W : WX} (tk : Takes X W) (D : HasCX X.prog X.w X.K X.mg X.base k x C ps sp) (hr : Room (k + 1) X.A) (hg : Gl X x) (ha : PA X (e :: es) t) (hdb : (x == ("__debug__" : Str)) = false := by decide)
    (he : starEach (e :: es) X.env = (false, eval e X.env) :: starEach es X.env := by rfl) (hpl : (backTo pos (starEach es X.env)).any (·.1) = false := by rfl) :
    PE X (.Call (.Name x p) (e :: es) [] pos) (tMakeW C sp W t) := by
  obtain ⟨f, fd, F, M, hm, hb⟩ := D
  constructor
  intro pins s0 σ H0 Q I0 h0
  refine wpAny_Call_Name_kw (ld_glob I0 hg hm (PySem.W.callWith_K (h₀ := X.base) I0.ok.mod.kin M.kp (thn (ha.run pos pins s0 σ H0 _ I0 h0) ?_) he hpl) hdb)
  rintro us s ⟨vs, H, I, r, h⟩
  refine ⟨I.kIn, ?_⟩
  have hq := h (s.heap.objs.size + 1) s.heap.objs.size (I.hok.fresh (Nat.le_succ _)) (I.hok.fresh (Nat.le_refl _)) (Nat.ne_of_lt (Nat.lt_succ_self _))
  have J := Inv.made (C := C) I
  have r2 : Vals (V.ref (s.heap.objs.size + 1) :: vs) (Value.ref (s.heap.objs.size + 1) :: us) := .cons rfl r
  have b := hb _ (Value.ref (s.heap.objs.size + 1) :: us) J.kIn (by
    rw [List.append_nil, ← r2.length]
    exact F.len _ _ _ _ hq)
  rw [List.append_nil] at b
  refine wpAny_call (make_map (f := f) I.kIn M.makes M.init (beq_iff_eq.mp M.fn) (codeAny_mono (F.run _ X.stack _ _ ⟨Value.ref (s.heap.objs.size + 1) :: us, []⟩ (Value.ref (s.heap.objs.size + 1) :: us) _ _ (WE W σ) (hr.make C us [])
    (J.env0.make C us []) b r2 hq) ?_))
  intro z s' hz
  match z, hz with
  | .error e, hz => exact passAt tk σ pins _ _ e s' J hz
  | .ok (.ret u), hz =>
    obtain ⟨v, H', I3, rv, rfl, q3⟩ := J.after hz
    exact ⟨rv, V.ref (s.heap.objs.size + 1), H', I3, rfl, q3⟩
  | .ok .next, hz => exact False.elim hz
  | .ok .brk, hz => exact False.elim hz
  | .ok .cont, hz => exact False.elim hz
/-- where it is known not to raise -/
theorem pe_cX0 (D : HasCX X.prog X.w X.K X.mg X.base k x C ps sp) (hr : Room (k + 1) X.A) (hg : Gl X x) (ha : PA X (e :: es) t) (hdb : (x == ("__debug__" : Str)) = false := by decide)
    (he : starEach (e :: es) X.env = (false, eval e X.env) :: starEach es X.env := by rfl) (hpl : (backTo pos (starEach es X.env)).any (·.1) = false := by rfl) :
    PE X (.Call (.Name x p) (e :: es) [] pos) (tMake C sp [] E0 t) := by
  obtain ⟨f, fd, F, M, hm, hb⟩ := D
  exact pe_make M F hr hg hm hb .nil passL ha hdb he hpl
theorem pe_hX0 (D : HasX X.prog X.w X.K X.mg X.base k x ps sp) (hr : Room k X.A) (hg : Gl X x) (ha : PA X (e :: es) t) (hdb : (x == ("__debug__" : Str)) = false := by decide)
    (he : starEach (e :: es) X.env = (false, eval e X.env) :: starEach es X.env := by rfl) (hpl : (backTo pos (starEach es X.env)).any (·.1) = false := by rfl) :
    PE X (.Call (.Name x p) (e :: es) [] pos) (tCall sp [] E0 t) := by
  obtain ⟨f, fd, G, m, kp, b⟩ := D
  exact pe_call G hr hg m kp b .nil passL ha hdb he hpl
end
end KQ
set_option Elab.async false
set_option maxRecDepth 100000
set_option maxHeartbeats 4000000
/-! B7: a == b by a's own __eq__, whatever it answers. -/
namespace KQ
open PySem PySem.Spec PyProof.Rows L2
/-- x == y, x of the class at C with the text's own ==, y another of it or a tuple -/
def rOwn (K : PySem.W.Frag) (C : Addr) (sp : Sp) : R2 := fun x y H Q => ∃ a dx fs b, x = .ref a ∧ y = .ref b ∧ H a = some (.ins C dx fs) ∧
  ((∃ dy gs, H b = some (.ins C dy gs)) ∨ ((∃ xs, SqT K H b xs) ∧ PySem.W.notFirst K C (.type "tuple") = true)) ∧ sp [.ref a, .ref b] H (fun v H' => ∃ c, v = .bl c ∧ Q v H') (fun _ _ _ => False)
theorem op_own {X : Cx} {n : Nat} {C : Addr} {sp : Sp} {ps : List Str} (D : HasM X.prog X.w X.K X.mg X.base n C "__eq__" ps sp) (hr : Room n X.A) : OpR X (compareOp .Eq) (rOwn X.K C sp) := by
  obtain ⟨f, fd, F, M, hb⟩ := D
  intro pins s σ H x y v u Q I rx ry h
  obtain ⟨a, dx, fs, b, rfl, rfl, ha, hy, hsp⟩ := h
  cases rx
  cases ry
  obtain ⟨mA, J, _⟩ := ins_get I.hok ha
  obtain ⟨od, J, _⟩ := J.look
  obtain ⟨m, hF⟩ := I.fr
  have hlook : ∃ tb, PySem.W.Looks (model X.prog X.w) s.heap (typeOf (.ref b)) tb ∧ PySem.W.notFirst X.K C tb = true := by
    rcases hy with ⟨dy, gs, hb'⟩ | ⟨⟨xs, hq⟩, nf⟩
    · obtain ⟨mB, J', _⟩ := ins_get I.hok hb'
      obtain ⟨od', J', _⟩ := J'.look
      exact ⟨.ref C, J'.type, by simp [PySem.W.notFirst]⟩
    · obtain ⟨its, r, ⟨o, ho, hc, n, hd⟩, hz⟩ := I.tuple hq
      refine ⟨.type "tuple", ?_, nf⟩
      exact hc ▸ (PySem.W.Looks.ld ho).andThen .now
  obtain ⟨tb, hl, nf⟩ := hlook
  show wpAny (model X.prog X.w) X.A (richCompare .Eq (.ref a) (.ref b)) (EP X pins σ Q) X.xe s
  refine PySem.W.cmp_K (op := .Eq) (tb := tb) hr.units0 hF I.ok.mod.kin J hl nf M.at_ M.fn ?_
  have e0 : Env0 X.prog X.w X.K X.mg X.base X.A X.stack s H := I.env0
  have hl := F.len _ _ _ _ hsp
  have r2 : Vals [V.ref a, V.ref b] [Value.ref a, Value.ref b] := .cons rfl (.cons rfl .nil)
  refine wpAny_call (codeAny_mono (F.run X.A X.stack s H ⟨[.ref a, .ref b], []⟩ [.ref a, .ref b] [.ref a, .ref b] _ _ hr e0 (by
    have := hb s [.ref a, .ref b] I.kIn (by simpa using hl)
    simpa using this) r2 hsp) fun r s' hq => ?_)
  cases r with
  | error e => exact hq.elim
  | ok fl =>
    cases fl with
    | ret w =>
      obtain ⟨z, H', I', rz, c, ez, q⟩ := I.after hq
      subst ez
      cases rz
      exact ⟨.bl c, H', I', rfl, q⟩
    | next => exact False.elim hq
    | brk => exact False.elim hq
    | cont => exact False.elim hq
end KQ
set_option Elab.async false
set_option maxRecDepth 100000
set_option maxHeartbeats 4000000
/-! B8: tuple * int, once and not at all too. -/
namespace KQ
open PySem PySem.Spec PyProof.Rows L2
theorem mul_one (l : Addr) (items : Array Value) (n : Nat) (dd : Option Addr) (sl : Array (Option Value)) (x : Int) (u : Tok) (c0 : (decide (x < -(2 ^ 63)) || decide (x ≥ 2 ^ 63)) = false) (c1 : (items.isEmpty || x == 1) = true) :
    Meets (Builtin.«tuple.__mul__» ⟨[.ref l, .int x u], []⟩) (fun _ R s => s.heap.get? l = some { cls := .type "tuple", dict := dd, data := .seq items n, slots := sl } ∧ R (.ok (.ret (Value.ref l))) { s with heap := s.heap, toks := s.toks }) :=
  .of_wp fun prog w A R s h => by
    obtain ⟨hp, g, d, tk, os⟩ := s
    obtain ⟨hl, h⟩ := h
    have f1 := AutoSeq1.idx_int
    wp_walk using wpAny_loadPart' hl
    repeat (first
      | (refine wpAny_ite_false (decide_eq_false (by rw [c0]; exact Bool.false_ne_true)) ?_; wp_walk using wpAny_loadPart' hl)
      | (refine wpAny_ite_true (decide_eq_true c1) ?_; wp_walk using wpAny_loadPart' hl))
    exact ⟨_, rfl, h⟩
theorem mul_none (l : Addr) (items : Array Value) (n : Nat) (dd : Option Addr) (sl : Array (Option Value)) (x : Int) (u : Tok) (c0 : (decide (x < -(2 ^ 63)) || decide (x ≥ 2 ^ 63)) = false) (c1 : (items.isEmpty || x == 1) = false) (c2 : (decide (x ≤ 0) || items.isEmpty) = true) :
    Meets (Builtin.«tuple.__mul__» ⟨[.ref l, .int x u], []⟩) (fun _ R s => s.heap.get? l = some { cls := .type "tuple", dict := dd, data := .seq items n, slots := sl } ∧
      R (.ok (.ret (Value.ref s.heap.objs.size))) { s with heap := s.heap.push { cls := Value.type "tuple", data := Data.seq #[] }, toks := s.toks }) :=
  .of_wp fun prog w A R s h => by
    obtain ⟨hp, g, d, tk, os⟩ := s
    obtain ⟨hl, h⟩ := h
    have f1 := AutoSeq1.idx_int
    wp_walk using wpAny_loadPart' hl
    repeat (first
      | (refine wpAny_ite_false (decide_eq_false (by rw [c0]; exact Bool.false_ne_true)) ?_; wp_walk using wpAny_loadPart' hl)
      | (refine wpAny_ite_false (decide_eq_false (by rw [c1]; exact Bool.false_ne_true)) ?_; wp_walk using wpAny_loadPart' hl)
      | (refine wpAny_ite_true (decide_eq_true c2) ?_; wp_walk using wpAny_loadPart' hl))
    exact ⟨_, rfl, h⟩
def rRepA (K : PySem.W.Frag) : R2 := fun x y H Q => ∃ l k xs, x = .ref l ∧ y = .int k ∧ SqT K H l xs ∧ xs ≠ [] ∧ 0 ≤ k ∧ k ≤ 1000 ∧ xs.length ≤ 1000 ∧ (k = 1 → Q (.ref l) H) ∧ (k ≠ 1 → ∀ p, H p = none → Q (.ref p) (upd H p (.tup (List.replicate k.toNat xs).flatten)))
theorem op_repA {X : Cx} : OpR X (binaryOp .Mult) (rRepA X.K) := by
  intro pins s σ H x y v u Q I rx ry h
  obtain ⟨l, k, xs, rfl, rfl, hT, hne, h1, h2, hz, q1, q2⟩ := h
  by_cases h3 : 2 ≤ k
  · exact op_repT pins s σ H _ _ v u Q I rx ry ⟨l, k, xs, rfl, rfl, hT, hne, h3, h2, hz, q2 (by omega)⟩
  cases rx
  obtain ⟨t, rfl⟩ := ry
  obtain ⟨its, r, ⟨⟨cls, dd, data, sl⟩, ho, hc, n, hd⟩, hs⟩ := I.tuple hT
  simp only at hc hd
  subst hc hd
  have hle : its.length = xs.length := r.length.symm
  have hi : its.toArray.isEmpty = false := by
    cases its with
    | nil => exact absurd (List.eq_nil_of_length_eq_zero hle.symm) hne
    | cons a b => rfl
  have c0 : (decide (k < -(2 ^ 63)) || decide (k ≥ 2 ^ 63)) = false := by
    rw [decide_eq_false (by omega), decide_eq_false (by omega)] <;> rfl
  by_cases k1 : k = 1
  · exact wpAny_binaryOp_repeat_ref (T := "tuple") (U := "int") (by decide) ⟨_, ho, rfl⟩ (fun s' => typeIs_int s' k t) noFill_tuple_mul F.fills_int_mul F.slot_int_rmul repeat_tuple F.slot_int_index.lookup
      (call_meets F.slot_int_rmul (typeIs_int s k t) F.entry_int_rmul (F.args_int_rmul_2 _ _) (int_rmul_tuple k t l its.toArray n dd sl)
        ⟨ho, rfl, ⟨_, ho, rfl⟩, call_meets F.slot_tuple_mul ⟨_, ho, rfl⟩ F.entry_tuple_mul (F.args_tuple_mul_2 _ _) (mul_one l its.toArray n dd sl k t c0 (by rw [hi, Bool.false_or]; exact beq_iff_eq.mpr k1)) ⟨ho, ⟨.ref l, H, I, rfl, q1 k1⟩⟩⟩)
  · have k0 : k = 0 := by omega
    subst k0
    refine wpAny_binaryOp_repeat_ref (T := "tuple") (U := "int") (by decide) ⟨_, ho, rfl⟩ (fun s' => typeIs_int s' 0 t) noFill_tuple_mul F.fills_int_mul F.slot_int_rmul repeat_tuple F.slot_int_index.lookup
      (call_meets F.slot_int_rmul (typeIs_int s 0 t) F.entry_int_rmul (F.args_int_rmul_2 _ _) (int_rmul_tuple 0 t l its.toArray n dd sl)
        ⟨ho, rfl, ⟨_, ho, rfl⟩, call_meets F.slot_tuple_mul ⟨_, ho, rfl⟩ F.entry_tuple_mul (F.args_tuple_mul_2 _ _) (mul_none l its.toArray n dd sl 0 t c0 (by rw [hi]; rfl) (by rfl)) ⟨ho, ?_⟩⟩)
    refine ⟨.ref s.heap.objs.size, _, I.laid (t' := s.toks) (o := .tup []) (fun b ob q => Heap.get?_push_of_some _ q) (Nat.le_refl _) ?_, rfl, q2 k1 _ (I.hok.fresh (Nat.le_refl _))⟩
    exact ⟨Nat.zero_le _, _, .nil, IsTup.new _ _⟩
end KQ
set_option Elab.async false
set_option maxRecDepth 100000
set_option maxHeartbeats 4000000
/-! B9: max(a list of numbers, default=0). -/
namespace KQ
open PySem
section
variable {prog : Program} {w : World} {A : Around} {R : Result → Shared → Prop} {I S : Addr} {fp wr : List Addr} {n : Nat} {P : Nat → Value → Prop} {St : Nat → Heap → Prop} {d : Value}
abbrev dkw (d : Value) : List (Str × Value) := [(Str.ofString "default", d)]
abbrev bestAt (c : Nat) (items : Array Value) : Obj := { cls := .type "list", dict := none, data := .seq items c, slots := #[] }
theorem mxd_loop (W : Walks prog w A.in1 I fp wr n P St) (bt : Nat → Nat → Bool) (hc : CmpOf prog w A.in1 .Gt P bt) (hf : S ∉ fp) : ∀ (k j : Nat) (s : Shared) (items : Array Value) (c : Nat), n - j = k → j ≤ n → St j s.heap →
    ((j = 0 ∧ items = #[]) ∨ ∃ vb, 0 < j ∧ items = #[vb, vb] ∧ P (argBest bt (j - 1)) vb) → s.heap.get? S = some (bestAt c items) →
    (∀ v h' tk, ((n = 0 ∧ v = d) ∨ (0 < n ∧ P (argBest bt (n - 1)) v)) → (∀ b o, b ∉ wr → b ≠ S → s.heap.get? b = some o → h'.get? b = some o) → R (.ok (.ret v)) { s with heap := h', toks := tk }) →
    codeAny (model prog w) A (.builtin "max.loop" ⟨[.ref I, .none, .ref S], dkw d⟩) R s := by
  have hw : S ∉ wr := fun h => hf (W.sub _ h)
  have hn : (toString "max" ++ toString ".loop" : String) = "max.loop" := by decide
  intro k
  induction k with
  | zero =>
    intro j s items c hk hj st hb hS hR
    have e : j = n := by omega
    refine codeAny_builtin F.entry_max_loop ?_; rw [Around.under_plainId F.plain_max_loop _]
    show wpAny _ A.in1 (seqItems? (.ref S) >>= _) _ _ s; refine wpAny_bind (wpAny_seqItems hS rfl ?_)
    show wpAny _ A.in1 (tryCatch (pyNext (.ref I)) _ >>= _) _ _ s; refine wpAny_bind (wpAny_tryCatch (W.done s _ _ (e ▸ st) fun h' tk k' => ?_))
    have hS' := k' S _ hw hS
    rcases hb with ⟨j0, rfl⟩ | ⟨vb, j0, rfl, pb⟩
    · show wpAny _ A.in1 (rule _ >>= _) _ _ _
      refine wpAny_bind (wpAny_rule (wpAny_pure (hR d _ tk (.inl ⟨by omega, rfl⟩) fun b o h1 _ q => k' b o h1 q)))
    · show wpAny _ A.in1 (updateSeq S (fun _ => #[]) >>= _) _ _ _; refine wpAny_bind ?_
      refine wpAny_updateSeq hS' rfl (wpAny_bind (wpAny_letGo (wpAny_pure (hR vb _ tk (.inr ⟨by omega, by rw [← e]; exact pb⟩) fun b o h1 h2 q => ?_))))
      exact (Heap.get?_update_other _ _ (Ne.symm h2)).trans (k' b o h1 q)
  | succ k ih =>
    intro j s items c hk hj st hb hS hR
    have hlt : j < n := by omega
    refine codeAny_builtin F.entry_max_loop ?_; rw [Around.under_plainId F.plain_max_loop _]
    show wpAny _ A.in1 (seqItems? (.ref S) >>= _) _ _ s; refine wpAny_bind (wpAny_seqItems hS rfl ?_)
    show wpAny _ A.in1 (tryCatch (pyNext (.ref I)) _ >>= _) _ _ s; refine wpAny_bind (wpAny_tryCatch (W.item j s _ _ hlt st fun v h' tk hP st' k' => ?_))
    have hS' := k' S _ hw hS
    rcases hb with ⟨j0, rfl⟩ | ⟨vb, j0, rfl, pb⟩
    · subst j0
      show wpAny _ A.in1 (updateSeq S (fun _ => #[v, v]) >>= _) _ _ _; refine wpAny_bind (wpAny_updateSeq hS' rfl ?_); rw [hn]
      refine wpAny_pure ⟨plainId_quiet F.plain_max_loop _, ih 1 _ #[v, v] _ (by omega) hlt (W.frame _ _ _ st' fun b hb o q => (Heap.get?_update_other _ _ (fun z : S = b => hf (by rw [z]; exact hb))).trans q) (.inr ⟨v, Nat.one_pos, rfl, hP⟩) (Heap.get?_update_self _ hS' rfl) fun v' h2 tk2 q2 k2 => ?_⟩
      exact hR v' h2 tk2 q2 fun b o h1 h2 q => k2 b o h1 h2 ((Heap.get?_update_other _ _ (Ne.symm h2)).trans (k' b o h1 q))
    · show wpAny _ A.in1 (tryCatch (holding [v, v] (richCompare .Gt v vb >>= _)) _ >>= _) _ _ _; refine wpAny_bind (wpAny_tryCatch (wpAny_holding (wpAny_bind (hc j (argBest bt (j - 1)) v vb _ _ _ hP pb ?_))))
      refine wpAny_bind (wpAny_holding (wpAny_truthy_bool (wpAny_bind (wpAny_letGo (wpAny_pure ?_)))))
      have ej : argBest bt (j + 1 - 1) = if bt j (argBest bt (j - 1)) then j else argBest bt (j - 1) := by
        obtain ⟨i, rfl⟩ : ∃ i, j = i + 1 := ⟨j - 1, by omega⟩
        rfl
      cases hb : bt j (argBest bt (j - 1)) with
      | true =>
        simp only [if_true]
        refine wpAny_bind (wpAny_updateSeq hS' rfl (wpAny_bind (wpAny_letGo ?_))); rw [hn]
        refine wpAny_pure ⟨plainId_quiet F.plain_max_loop _, ih (j + 1) _ #[v, v] _ (by omega) hlt (W.frame _ _ _ st' fun b hb o q => (Heap.get?_update_other _ _ (fun z : S = b => hf (by rw [z]; exact hb))).trans q) (.inr ⟨v, Nat.succ_pos _, rfl, by rw [ej, hb, if_pos rfl]; exact hP⟩) (Heap.get?_update_self _ hS' rfl) fun v' h2 tk2 q2 k2 => ?_⟩
        exact hR v' h2 tk2 q2 fun b o h1 h2 q => k2 b o h1 h2 ((Heap.get?_update_other _ _ (Ne.symm h2)).trans (k' b o h1 q))
      | false =>
        simp only [Bool.false_eq_true, if_false]
        refine wpAny_bind (wpAny_letGo ?_); rw [hn]
        refine wpAny_pure ⟨plainId_quiet F.plain_max_loop _, ih (j + 1) _ #[vb, vb] c (by omega) hlt st' (.inr ⟨vb, Nat.succ_pos _, rfl, by rw [ej, hb, if_neg Bool.false_ne_true]; exact pb⟩) hS' fun v' h2 tk2 q2 k2 => ?_⟩
        exact hR v' h2 tk2 q2 fun b o h1 h2 q => k2 b o h1 h2 (k' b o h1 q)
end
section
variable {prog : Program} {w : World} {A : Around} {E : Value → Shared → Prop} {s : Shared} {d : Value} {Q : Value → Shared → Prop}
theorem maxd_walk {x : Value} (h : wpAny (model prog w) A.in1 (pyIter x) (fun it s₂ => ∃ I fp wr n P St bt, it = .ref I ∧ Walks prog w A.in1 I fp wr n P St ∧ St 0 s₂.heap ∧ (∀ b ∈ fp, b < s₂.heap.objs.size) ∧ CmpOf prog w A.in1 .Gt P bt ∧
    ∀ v h' tk, ((n = 0 ∧ v = d) ∨ (0 < n ∧ P (argBest bt (n - 1)) v)) → (∀ b o, b ∉ wr → s₂.heap.get? b = some o → h'.get? b = some o) → Q v { s₂ with heap := h', toks := tk }) E s) (ha : argsOk "max" ⟨[x], dkw d⟩) :
    wpAny (model prog w) A (call (.builtin "max") [x] (dkw d)) Q E s := by
  have hn : (toString "max" ++ toString ".loop" : String) = "max.loop" := by decide
  refine PyProof.Rows.kmk_tree F.kind_max F.plain_max F.entry_max ha ?_
  show wpAny _ A.in1 (Builtin.Builtins.bindParams "max" ["key", "default"] 0 ⟨[], dkw d⟩ >>= _) _ _ s; refine wpAny_bind (wpAny_of_eq (show Builtin.Builtins.bindParams "max" ["key", "default"] 0 ⟨[], dkw d⟩ = pure [none, some d] from rfl) ?_)
  refine wpAny_bind (wpAny_pure (wpAny_bind (wpAny_mono h (fun it s₂ h₂ => ?_) fun _ _ e => e)))
  obtain ⟨I, fp, wr, n, P, St, bt, rfl, W, st, hfp, hc, hQ⟩ := h₂
  refine wpAny_bind (wpAny_newObj_type ?_); rw [hn]
  have hf : s₂.heap.objs.size ∉ fp := fun hm => Nat.lt_irrefl _ (hfp _ hm)
  refine wpAny_pure ⟨plainId_quiet F.plain_max_loop _, mxd_loop W bt hc hf _ 0 _ #[] _ rfl (Nat.zero_le _) (W.frame _ _ _ st fun b _ o e => Heap.get?_push_of_some _ e) (.inl ⟨rfl, rfl⟩) (Heap.get?_push_size _ rfl) fun v h' tk hP hk => ?_⟩
  exact hQ v h' tk hP fun b o hb e => hk b o hb (Nat.ne_of_lt (Heap.lt_size e)) (Heap.get?_push_of_some _ e)
end
open PySem.Spec PyProof.Rows L2
theorem args_maxd (a v : Value) : argsOk "max" ⟨[a], dkw v⟩ := by
  unfold argsOk
  kernel_rfl
def rMaxD0 (K : PySem.W.Frag) : List V → List V → Hp → VK → Prop := fun xs zs H Q => ∃ (a : Addr) (ns : List Int) (d : Int), xs = [.ref a] ∧ zs = [.int d] ∧ SqL K H a (ns.map V.int) ∧ (ns = [] → Q (.int d) H) ∧ ∀ m ∈ ns, (∀ y ∈ ns, y ≤ m) → Q (.int m) H
theorem cr_maxD0 {X : Cx} (hc : X.calm = true) : CallRK X (.builtin "max") [Str.ofString "default"] (rMaxD0 X.K) := by
  intro pins s σ H vs zs us ws Q I r1 r2 h
  obtain ⟨a, ns, d, rfl, rfl, hs, q0, q1⟩ := h
  obtain ⟨its, rv, hl, _⟩ := I.list hs
  rw [Vals.ref1 r1]
  cases r2 with
  | cons rd r2 =>
  cases r2
  obtain ⟨t, rfl⟩ := rd
  have hi := rv.ints
  obtain ⟨ys, e⟩ := hi.allInts.items
  have hn : numsOf (intItems ys).toList = ns := by rw [← e]; exact hi.numsOf
  rw [nums_intItems] at hn
  subst hn
  have hl' : s.heap.IsList a (intItems ys) := by rw [← e]; exact hl.isList
  show wpAny _ _ (call (.builtin "max") [.ref a] (dkw (.int d t))) _ _ _
  refine maxd_walk (iter_intList hl' fun s₂ e2 st hfp hlI => ?_) (args_maxd _ _)
  subst e2
  refine ⟨_, _, _, _, _, _, _, rfl, Walks.list (A := X.A.in1) (I.ok.hd hc) _ a hlI (intItems ys), st, hfp, CmpOf.ints_gt (numAt ys) (fun _ _ => intItems_at), fun v h' tk hP hk => ?_⟩
  have I' : Inv X pins σ H { s with heap := h', toks := tk } := I.kept (old_kept hk)
  have hsz : (intItems ys).size = ys.size := by simp [intItems]
  rw [hsz] at hP
  rcases hP with ⟨n0, rfl⟩ | ⟨n1, hP⟩
  · exact ⟨.int d, H, I', ⟨t, rfl⟩, q0 (List.eq_nil_of_length_eq_zero (by rw [List.length_map, Array.length_toList]; exact n0))⟩
  · obtain ⟨u, rfl⟩ := intItems_at hP
    obtain ⟨h1, h2⟩ := argBest_gt (numAt ys) (ys.size - 1)
    refine ⟨.int _, H, I', ⟨u, rfl⟩, q1 _ ?_ fun y hy => ?_⟩
    · rw [numAt_eq]; exact PySem.getD_mem (by rw [List.length_map, Array.length_toList]; omega)
    · obtain ⟨j, hj, rfl⟩ := mem_getD hy; rw [List.length_map, Array.length_toList] at hj; rw [← numAt_eq]; exact h2 j (by omega)
/-- a list's item, by values -/
theorem get_list {X : Cx} : PGet X fun x y H Q => 0 ≤ (match y with | .int i => i | _ => 0) ∧ rIxL X.K x y H Q := by
  intro pins s σ H o i ov iv Q I r1 r2 h
  obtain ⟨h0, p, xs, k, z, rfl, rfl, hq, he, q⟩ := h
  cases r1
  obtain ⟨t, rfl⟩ := r2
  obtain ⟨its, r, pl, hz⟩ := I.list hq
  obtain ⟨j, e1, e2, e3, e4, e5⟩ := atI_get he
  obtain ⟨u, eu, ru⟩ := r.get e2
  have hj : k.toNat = j := by
    rw [seqIndex_of h0 e5] at e1
    exact Option.some.inj e1
  have hl := r.length
  have hn := line63
  exact wpAny_getItem_list pl.isList h0 (by omega) (by rw [hj]; simpa using eu) ⟨z, H, I, ru, q⟩
/-- sum of a tuple of numbers -/
def rSumT (K : PySem.W.Frag) : List V → Hp → VK → Prop := fun vs H Q => ∃ (a : Addr) (ns : List Int), vs = [V.ref a] ∧ SqT K H a (ns.map V.int) ∧ Q (.int ns.sum) H
theorem cr_sumT {X : Cx} (hc : X.calm = true) : CallR X (.builtin "sum") (rSumT X.K) := by
  intro pins s σ H vs us Q I r h
  obtain ⟨a, ns, rfl, hs, q⟩ := h
  obtain ⟨its, rv, ht, _⟩ := I.tuple hs
  rw [Vals.ref1 r]
  have hi := rv.ints
  obtain ⟨ys, e⟩ := hi.allInts.items
  have hn : numsOf (intItems ys).toList = ns := by rw [← e]; exact hi.numsOf
  rw [nums_intItems] at hn
  have ht' : s.heap.IsTuple a (intItems ys) := by rw [← e]; exact ht
  have hlt : a < s.heap.objs.size := by obtain ⟨_, g, _⟩ := ht'; exact Heap.lt_size g
  refine call_sum_walkG (wpAny_pyIter_tuple ht' ?_)
  refine ⟨s.heap.objs.size, _, _, _, _, _, numAt ys, rfl, Walks.tuple (A := X.A.in1) (I.ok.hd hc) _ a (Nat.ne_of_lt hlt) (intItems ys), ⟨⟨_, Heap.get?_push_size _ rfl, rfl, rfl⟩, ?_⟩, fun b hb => ?_, (fun _ _ => intItems_at), fun h' tk t' hk => ?_⟩
  · obtain ⟨o, g, k1, k2⟩ := ht'
    exact ⟨o, Heap.get?_push_of_some _ g, k1, k2⟩
  · show b < (s.heap.push _).objs.size
    rw [Heap.size_push]
    have hb' : b = s.heap.objs.size ∨ b = a := by simpa using hb
    rcases hb' with z | z
    · rw [z]; exact Nat.lt_succ_self _
    · rw [z]; exact Nat.lt_succ_of_lt hlt
  · have kk : ∀ b o, s.heap.get? b = some o → h'.get? b = some o := fun b o g => hk b o (fun hm => by
      have : b = s.heap.objs.size := by simpa using hm
      rw [this] at g
      exact absurd (Heap.lt_size g) (Nat.lt_irrefl _)) (Heap.get?_push_of_some _ g)
    have I' : Inv X pins σ H { s with heap := h', toks := tk } := I.kept kk
    refine ⟨.int ns.sum, H, I', ⟨t', ?_⟩, q⟩
    have hsz : (intItems ys).size = ys.size := by simp [intItems]
    rw [hsz, preSum_eq, List.take_of_length_le (by simp), hn]
end KQ
set_option Elab.async false
set_option maxRecDepth 100000
set_option maxHeartbeats 4000000
/-! B10: a list grown by a tuple's items. -/
namespace KQ
open PySem PySem.Spec PyProof.Rows L2
theorem ext_tup (l b : Addr) (mine its : Array Value) (n n2 : Nat) (dd : Option Addr) (sl : Array (Option Value)) (c0 : ¬(!mine.isEmpty && Builtin.List.listTooLong (mine.size + its.size)) = true) (c1 : mine.size ≤ sizeLine) (c2 : (mine ++ its).size ≤ sizeLine + 1) :
    Meets (Builtin.«list.extend» ⟨[.ref l, .ref b], []⟩)
      (fun _ R s => s.heap.get? l = some { cls := .type "list", dict := none, data := .seq mine n, slots := #[] } ∧ s.heap.get? b = some { cls := .type "tuple", dict := dd, data := .seq its n2, slots := sl } ∧
        R (.ok (.ret Value.none)) { s with heap := s.heap.update l (Obj.mapSeq fun x => x ++ its), toks := s.toks }) := by
  refine .of_wp fun prog w A R s h => ?_
  obtain ⟨hp, g, d, tk, os⟩ := s
  obtain ⟨hl, hb, h⟩ := h
  have z1 := AutoSeq1.idx_int
  have z2 := AutoSeq1.sub_tuple_tuple
  have z3 := AutoSeq1.sub_list_list
  have z4 := AutoSeq1.sub_tuple_list
  have z5 := AutoSeq1.sub_list_tuple
  wp_walk using (wpAny_updateSeq hl rfl (hz := c1) (_hz' := c2)), wpAny_loadPart' hl, wpAny_loadPart' hb
  exact ⟨_, rfl, h⟩
section
variable {X : Cx}
def rExtendT (K : PySem.W.Frag) : V → List V → Hp → VK → Prop := fun x vs H Q => ∃ l b xs zs, x = .ref l ∧ vs = [.ref b] ∧ H l = some (.lst xs) ∧ SqT K H b zs ∧ xs.length + zs.length ≤ sizeLine ∧ Q .non (upd H l (.lst (xs ++ zs)))
theorem mt_extendT : MtM X "list.extend" (rExtendT X.K) := by
  intro pins s σ H x vs v us Q I rx rv h
  obtain ⟨l, b, xs, zs, rfl, rfl, hH, hB, hz, q⟩ := h
  cases rx
  obtain ⟨u, rfl, ru⟩ := rv.one
  cases ru
  obtain ⟨z, its, n, r, hl, e⟩ := I.lstM hH
  obtain ⟨its2, r2, ⟨⟨cls, dd, data, sl⟩, e2, hc, n2, hd⟩, hl2⟩ := I.tuple hB
  simp only at hc hd
  subst hc hd
  have l2 := r2.length
  have hsz : its.toArray.size + its2.toArray.size ≤ sizeLine := by rw [List.size_toArray, List.size_toArray]; omega
  have hlong : ¬ (!its.toArray.isEmpty && Builtin.List.listTooLong (its.toArray.size + its2.toArray.size)) = true := by
    rw [notLongL hsz, Bool.and_false]
    exact Bool.false_ne_true
  refine call_meets F.slot_list_extend ⟨_, e, rfl⟩ F.entry_list_extend (F.args_list_extend_2 _ _)
    (ext_tup l b its.toArray its2.toArray n n2 dd sl hlong (by rw [List.size_toArray]; omega) (by rw [Array.size_append]; omega)) ⟨e, e2, ?_⟩
  refine ⟨.non, _, I.lset (its' := its ++ its2) hH e (by simp) (r.append r2) ?_, rfl, q⟩
  rw [List.length_append]
  omega
end
end KQ
set_option Elab.async false
set_option maxRecDepth 100000
set_option maxHeartbeats 4000000
/-! B11: things by their types alone; max of a tuple. -/
namespace KQ
open PySem PySem.Spec PyProof.Rows L2
def rInt1 : List V → Hp → VK → Prop := fun xs H Q => (∃ i, xs = [.int i] ∧ Q (.int i) H) ∨ ∃ k, xs = [.bl k] ∧ Q (.int (if k then 1 else 0)) H
/-- a thing and the name of its type -/
inductive Dt (H : Hp) : V → String → Prop
  | non : Dt H .non "NoneType"
  | bl (b : Bool) : Dt H (.bl b) "bool"
  | int (i : Int) : Dt H (.int i) "int"
  | str (x : Str) : Dt H (.str x) "str"
  | lst {a : Addr} {xs : List V} (e : H a = some (.lst xs)) : Dt H (.ref a) "list"
  | tup {a : Addr} {xs : List V} (e : H a = some (.tup xs)) : Dt H (.ref a) "tuple"
  | dK {a : Addr} {kvs : List (Key × V)} (e : H a = some (.dK kvs)) : Dt H (.ref a) "dict"
theorem Dt.ty {K : PySem.W.Frag} {H : Hp} {v : V} {t : String} (d : Dt H v t) : TyX K H v (.type t) := by
  cases d with
  | non => exact .base .non
  | bl b => exact .base (.bl b)
  | int i => exact .base (.int i)
  | str x => exact .base (.str x)
  | lst e => exact .base (.lst e)
  | tup e => exact .base (.tup e)
  | dK e => exact .base (.dK e)
theorem Dt.in_ {H : Hp} {v : V} {t : String} (d : Dt H v t) : t ∈ tyNs := by cases d <;> simp [tyNs]
theorem Dt.kp {H H' : Hp} {v : V} {t : String} (d : Dt H v t) (k : ∀ a o, v = .ref a → H a = some o → H' a = some o) : Dt H' v t := by
  cases d with
  | non => exact .non
  | bl b => exact .bl b
  | int i => exact .int i
  | str x => exact .str x
  | lst e => exact .lst (k _ _ rfl e)
  | tup e => exact .tup (k _ _ rfl e)
  | dK e => exact .dK (k _ _ rfl e)
theorem Dt.same {H H' : Hp} {v : V} {t : String} (d : Dt H v t) (s : Same H H') : Dt H' v t := d.kp fun a o _ e => s a o e
abbrev isTy (T t : String) : Bool := t == T || (T == "int" && t == "bool")
theorem kd_T {K : PySem.W.Frag} {T : String} (h : ∀ s ∈ tyNs, kitB s T = some (s == T || (T == "int" && s == "bool"))) {H : Hp} {v : V} {t : String} (d : Dt H v t) : PySem.W.kitOne K (.type t) (.type T) = some (isTy T t) := kit_ty (h _ d.in_)
theorem Dt.kint {K : PySem.W.Frag} {H : Hp} {v : V} {t : String} (d : Dt H v t) : PySem.W.kitOne K (.type t) (.type "int") = some (isTy "int" t) := kd_T (by decide +kernel) d
theorem Dt.kbool {K : PySem.W.Frag} {H : Hp} {v : V} {t : String} (d : Dt H v t) : PySem.W.kitOne K (.type t) (.type "bool") = some (isTy "bool" t) := kd_T (by decide +kernel) d
theorem Dt.ktuple {K : PySem.W.Frag} {H : Hp} {v : V} {t : String} (d : Dt H v t) : PySem.W.kitOne K (.type t) (.type "tuple") = some (isTy "tuple" t) := kd_T (by decide +kernel) d
theorem Dt.klist {K : PySem.W.Frag} {H : Hp} {v : V} {t : String} (d : Dt H v t) : PySem.W.kitOne K (.type t) (.type "list") = some (isTy "list" t) := kd_T (by decide +kernel) d
theorem Dt.kstr {K : PySem.W.Frag} {H : Hp} {v : V} {t : String} (d : Dt H v t) : PySem.W.kitOne K (.type t) (.type "str") = some (isTy "str" t) := kd_T (by decide +kernel) d
theorem Rp.dt {N : Addr → Prop} {H : Hp} {v : V} {d : PyData} (r : Rp N H v d) : Dt H v (tyN d) := by
  cases r with
  | non => exact .non
  | bl b => exact .bl b
  | int i => exact .int i
  | str x => exact .str x
  | lst e _ _ => exact .lst e
  | tup e _ _ => exact .tup e
  | emp e _ => exact .dK e
/-- max of a tuple of numbers -/
def rMaxT (K : PySem.W.Frag) : List V → Hp → VK → Prop := fun vs H Q => ∃ (a : Addr) (ns : List Int), vs = [V.ref a] ∧ SqT K H a (ns.map V.int) ∧ 0 < ns.length ∧ ∀ m, m ∈ ns → (∀ y, y ∈ ns → y ≤ m) → Q (.int m) H
theorem cr_maxT {X : Cx} (hc : X.calm = true) : CallR X (.builtin "max") (rMaxT X.K) := by
  intro pins s σ H vs us Q I r h
  obtain ⟨a, ns, rfl, hs, hne, q⟩ := h
  obtain ⟨its, rv, ht, _⟩ := I.tuple hs
  rw [Vals.ref1 r]
  have hi := rv.ints
  obtain ⟨ys, e⟩ := hi.allInts.items
  have hn : numsOf (intItems ys).toList = ns := by rw [← e]; exact hi.numsOf
  rw [nums_intItems] at hn
  have ht' : s.heap.IsTuple a (intItems ys) := by rw [← e]; exact ht
  have hlt : a < s.heap.objs.size := by obtain ⟨_, g, _⟩ := ht'; exact Heap.lt_size g
  have hsz : (intItems ys).size = ys.size := by simp [intItems]
  have hpos : 0 < ys.size := by
    rw [← hn, List.length_map, Array.length_toList] at hne
    exact hne
  refine call_max_walk (wpAny_pyIter_tuple ht' ?_)
  refine ⟨s.heap.objs.size, _, _, _, _, _, _, rfl, Walks.tuple (A := X.A.in1) (I.ok.hd hc) _ a (Nat.ne_of_lt hlt) (intItems ys), ⟨⟨_, Heap.get?_push_size _ rfl, rfl, rfl⟩, ?_⟩, fun b hb => ?_, by rw [hsz]; exact hpos, CmpOf.ints_gt (numAt ys) (fun _ _ => intItems_at), fun v h' tk hP hk => ?_⟩
  · obtain ⟨o, g, k1, k2⟩ := ht'
    exact ⟨o, Heap.get?_push_of_some _ g, k1, k2⟩
  · show b < (s.heap.push _).objs.size
    rw [Heap.size_push]
    have hb' : b = s.heap.objs.size ∨ b = a := by simpa using hb
    rcases hb' with z | z
    · rw [z]; exact Nat.lt_succ_self _
    · rw [z]; exact Nat.lt_succ_of_lt hlt
  · have kk : ∀ b o, s.heap.get? b = some o → h'.get? b = some o := fun b o g => hk b o (fun hm => by
      have : b = s.heap.objs.size := by simpa using hm
      rw [this] at g
      exact absurd (Heap.lt_size g) (Nat.lt_irrefl _)) (Heap.get?_push_of_some _ g)
    have I' : Inv X pins σ H { s with heap := h', toks := tk } := I.kept kk
    rw [hsz] at hP
    obtain ⟨u, rfl⟩ := intItems_at hP
    obtain ⟨h1, h2⟩ := argBest_gt (numAt ys) (ys.size - 1)
    subst hn
    refine ⟨.int _, H, I', ⟨u, rfl⟩, q _ ?_ fun y hy => ?_⟩
    · rw [numAt_eq]; exact PySem.getD_mem (by rw [List.length_map, Array.length_toList]; omega)
    · obtain ⟨j, hj, rfl⟩ := mem_getD hy; rw [List.length_map, Array.length_toList] at hj; rw [← numAt_eq]; exact h2 j (by omega)
end KQ
namespace KQ
open PySem PySem.Spec PyProof.Rows L2
theorem same_new0 {H : Hp} {p : Addr} {o : HO} (h : H p = none) : Same H (upd H p o) := fun b u q => by rw [upd_ne (ne_of_none q h)]; exact q
theorem sput {H H1 : Hp} {x : Addr} {o : HO} (s : Same H H1) (h : H x = none) : Same H (upd H1 x o) := fun b u q => by
  rw [upd_ne (ne_of_none q h)]
  exact s b u q
theorem snew {H H1 : Hp} {x : Addr} {o : HO} (s : Same H H1) (h : H1 x = none) : Same H (upd H1 x o) := fun b u q => by
  rw [upd_ne (ne_of_none (s b u q) h)]
  exact s b u q
theorem kp_same {N : Addr → Prop} {H H1 : Hp} (s : Same H H1) : Kp N H H1 := fun a o e _ => s a o e
/-! ### a comprehension by the list that grows -/
structure Snoc (D : Addr) (Pn : Hp → Prop) (y : V) (H : Hp) : Prop where
  h : ∃ acc, H D = some (.lst acc) ∧ acc.length < sizeLine ∧ Pn (upd H D (.lst (acc ++ [y])))
theorem snoc_eq (D : Addr) (Pn : Hp → Prop) (y : V) (H : Hp) : Snoc D Pn y H = ∃ acc, H D = some (.lst acc) ∧ acc.length < sizeLine ∧ Pn (upd H D (.lst (acc ++ [y]))) := propext ⟨fun q => q.h, fun q => ⟨q⟩⟩
section
variable {J : It} {n : Nat} {G : Hp → Prop} {Y : Nat → Hp → V → Hp → Prop}
theorem lc_acc (w : Walk J n G Y) {g : TG} {tt : TT} {te : TE} {vs : List Nat} {σ : L2.St} {H1 : Hp} {D : Addr} {Qd : Hp → Prop} (acc : Nat → List V) (I : Nat → Hp → Prop) (N : Addr → Prop)
    (nN : ¬ N D) (nD : H1 D = none) (hsz : ∀ i, i < n → (acc i).length < sizeLine) (a0 : acc 0 = []) (i0 : I 0 (upd H1 D (.lst []))) (hI : ∀ i H xs, Kp N H1 H → I i H → I i (upd H D (.lst xs)))
    (hG : ∀ i H, i ≤ n → Kp N H1 H → I i H → G H)
    (hs : ∀ i x H H' (Pn : Hp → Prop), i < n → Kp N H1 H → H D = some (.lst (acc i)) → I i H → Y i H x H' → (∀ y H4, acc (i + 1) = acc i ++ [y] → Kp N H H4 → I (i + 1) H4 → Snoc D Pn y H4) → (∀ H4, acc (i + 1) = acc i → Kp N H H4 → I (i + 1) H4 → Pn H4) →
      g x (wipe σ vs) H' fun σ2 H2 => wipe σ2 vs = wipe σ vs ∧ tt σ2 H2 fun b H3 => if b = true then te σ2 H3 fun y H4 => Snoc D Pn y H4 else Pn H3)
    (hd : ∀ H, Kp N H1 H → H D = some (.lst (acc n)) → I n H → Qd H) :
    ∃ W : Nat → Nat → Hp → Prop, (∃ m, W 0 m (upd H1 D (.lst []))) ∧ ∀ i m H, W i m H →
      (J.stop i H ∧ Qd H) ∨ (J.go i H ∧ ∃ Nx : Hp → Prop, (∀ H', Nx H' → ∃ m', m' < m ∧ W (i + 1) m' H') ∧ ∀ x H', J.yld i H x H' → g x (wipe σ vs) H' fun σ2 H2 => wipe σ2 vs = wipe σ vs ∧ tt σ2 H2 fun b H3 =>
        if b = true then te σ2 H3 fun y H4 => ∃ acc, H4 D = some (.lst acc) ∧ acc.length < sizeLine ∧ Nx (upd H4 D (.lst (acc ++ [y]))) else Nx H3) := by
  have kD : ∀ {H xs}, Kp N H1 H → Kp N H1 (upd H D (.lst xs)) := fun {H xs} k a o e na => by
    rw [upd_ne (ne_of_none e nD)]
    exact k a o e na
  refine lc_it w (fun i H => Kp N H1 H ∧ H D = some (.lst (acc i)) ∧ I i H) ⟨kD Kp.refl, by rw [a0]; exact upd_same, i0⟩ (fun i H hi q => hG i H hi q.1 q.2.2) (fun i x H H' hi q y => ?_) fun H q => hd H q.1 q.2.1 q.2.2
  obtain ⟨q1, q2, q3⟩ := q
  have z := hs i x H H' (fun H => Kp N H1 H ∧ H D = some (.lst (acc (i + 1))) ∧ I (i + 1) H) hi q1 q2 q3 y
    (fun y H4 e k j => ⟨acc i, k D _ q2 nN, hsz i hi, kD (q1.trans k), by rw [upd_same, e], hI (i + 1) H4 _ (q1.trans k) j⟩) fun H4 e k j => ⟨q1.trans k, by rw [e]; exact k D _ q2 nN, j⟩
  simp only [snoc_eq] at z
  exact z
/-- .. each item gives one -/
theorem lc_map (w : Walk J n G Y) {g : TG} {te : TE} {vs : List Nat} {σ : L2.St} {H1 : Hp} {D : Addr} {Qd : Hp → Prop} (ys : List V) (hn : ys.length = n) (nD : H1 D = none) (hz : n ≤ 16777216)
    (hG : ∀ i H, i ≤ n → Same H1 H → G H)
    (hs : ∀ i x H H' (Pn : Hp → Prop), i < n → Same H1 H → Y i H x H' → (∀ y H4, ys[i]? = some y → Same H H4 → Snoc D Pn y H4) → g x (wipe σ vs) H' fun σ2 H2 => wipe σ2 vs = wipe σ vs ∧ te σ2 H2 fun y H4 => Snoc D Pn y H4)
    (hd : ∀ H, Same H1 H → H D = some (.lst ys) → Qd H) :
    ∃ W : Nat → Nat → Hp → Prop, (∃ m, W 0 m (upd H1 D (.lst []))) ∧ ∀ i m H, W i m H →
      (J.stop i H ∧ Qd H) ∨ (J.go i H ∧ ∃ Nx : Hp → Prop, (∀ H', Nx H' → ∃ m', m' < m ∧ W (i + 1) m' H') ∧ ∀ x H', J.yld i H x H' → g x (wipe σ vs) H' fun σ2 H2 => wipe σ2 vs = wipe σ vs ∧ tYes σ2 H2 fun b H3 =>
        if b = true then te σ2 H3 fun y H4 => ∃ acc, H4 D = some (.lst acc) ∧ acc.length < sizeLine ∧ Nx (upd H4 D (.lst (acc ++ [y]))) else Nx H3) := by
  have sm : ∀ {H H' : Hp}, Kp (fun _ => False) H H' → Same H H' := fun k a o e => k a o e (fun z => z)
  refine lc_acc w (fun i => ys.take i) (fun _ _ => True) (fun _ => False) (fun z => z) nD (fun i hi => ?_) rfl trivial (fun _ _ _ _ _ => trivial) (fun i H hi k _ => hG i H hi (sm k)) (fun i x H H' Pn hi k _ _ y fin _ => ?_) fun H k e _ => hd H (sm k) (by rw [← hn, List.take_length] at e; exact e)
  · rw [List.length_take, sizeLine_eq]
    omega
  · have z := hs i x H H' Pn hi (sm k) y fun y H4 e s => fin y H4 (by rw [List.take_add_one, e]; rfl) (kp_same s) trivial
    have e : (fun (σ2 : L2.St) (H2 : Hp) => wipe σ2 vs = wipe σ vs ∧ tYes σ2 H2 fun b H3 => if b = true then te σ2 H3 fun y H4 => Snoc D Pn y H4 else Pn H3) = fun σ2 H2 => wipe σ2 vs = wipe σ vs ∧ te σ2 H2 fun y H4 => Snoc D Pn y H4 := by
      funext σ2 H2
      have e2 : tYes σ2 H2 (fun b H3 => if b = true then te σ2 H3 fun y H4 => Snoc D Pn y H4 else Pn H3) = te σ2 H2 fun y H4 => Snoc D Pn y H4 := by
        show (if true = true then te σ2 H2 (fun y H4 => Snoc D Pn y H4) else Pn H2) = _
        exact if_pos rfl
      rw [e2]
    rw [e]
    exact z
end
theorem same_kpF {H H' : Hp} (k : Kp (fun _ => False) H H') : Same H H' := fun a o e => k a o e (fun z => z)
theorem sIx_none (n d : Nat) : HT.sIx n d none = d := rfl
theorem sIx_some (n d k : Nat) : HT.sIx n d (some (k : Int)) = min k n := HT.sIx_nat n d k
theorem cut_take {xs : List V} (k : Nat) : cutV xs none (some (k : Int)) = xs.take k := by
  rw [cutV, sIx_none, sIx_some, List.drop_zero, Nat.sub_zero]
  by_cases h : k ≤ xs.length
  · rw [Nat.min_eq_left h]
  · rw [Nat.min_eq_right (by omega), List.take_length, List.take_of_length_le (by omega)]
theorem cut_drop {xs : List V} (k : Nat) : cutV xs (some (k : Int)) none = xs.drop k := by
  rw [cutV, sIx_none, sIx_some]
  by_cases h : k ≤ xs.length
  · rw [Nat.min_eq_left h, List.take_of_length_le (by rw [List.length_drop]; omega)]
  · rw [Nat.min_eq_right (by omega), List.drop_length, List.drop_of_length_le (by omega), List.take_nil]
theorem walk_zipT {K : PySem.W.Frag} {a b : Addr} {xs ys : List V} {n : Nat} (hn : n = min xs.length ys.length) : Walk (RZ.ItzT K a b) n (fun H => SqT K H a xs ∧ SqT K H b ys) (YPair (fun i => xs[i]?) (fun i => ys[i]?)) := by
  subst hn
  refine ⟨fun i _ hi q => ?_, fun _ q => ⟨xs, ys, q.1, q.2, by omega⟩, fun i H v H' _ q y => ?_⟩
  · have h1 : i < xs.length := by omega
    have h2 : i < ys.length := by omega
    exact ⟨xs, ys, xs[i], ys[i], q.1, q.2, by simp [h1], by simp [h2]⟩
  · obtain ⟨T, x, z, h1, h2, h3, h4, h5⟩ := y
    exact ⟨T, x, z, h1, h2, h3, h4 xs q.1, h5 ys q.2⟩
/-- as a comprehension's turn over zip is met: a new pair -/
theorem ypair {xs ys : List V} {i : Nat} {H H' : Hp} {v : V} (y : YPair (fun i => xs[i]?) (fun i => ys[i]?) i H v H') : ∃ T x z, v = .ref T ∧ H T = none ∧ H' = upd H T (.tup [x, z]) ∧ xs[i]? = some x ∧ ys[i]? = some z := y
theorem cut_whole {xs : List V} {lo hi : Option Int} (h : HT.sIx xs.length 0 lo = 0 ∧ HT.sIx xs.length xs.length hi = xs.length) : cutV xs lo hi = xs := by
  rw [cutV, h.1, h.2, List.drop_zero, Nat.sub_zero, List.take_length]
theorem sl_go {K : PySem.W.Frag} {H : Hp} {a : Addr} {xs : List V} {lo hi : Option Int} {Q : VK} (ha : H a = some (.tup xs)) (h : ∀ b H1, Same H H1 → H1 b = some (.tup (cutV xs lo hi)) → Q (.ref b) H1) : rSlA K (.ref a) lo hi H Q :=
  ⟨a, xs, rfl, SqT.of ha, fun w => h a H (Same.refl H) (by rw [cut_whole w]; exact ha), fun _ p np => h p _ (same_new0 np) upd_same⟩
theorem cat_go {K : PySem.W.Frag} {H : Hp} {a b : Addr} {xs ys : List V} {Q : VK} (ha : H a = some (.tup xs)) (hb : H b = some (.tup ys)) (hz : xs.length + ys.length ≤ 16777216) (h : ∀ c H1, Same H H1 → H1 c = some (.tup (xs ++ ys)) → Q (.ref c) H1) : rCatA K (.ref a) (.ref b) H Q :=
  ⟨a, b, xs, ys, rfl, rfl, SqT.of ha, SqT.of hb, by rw [sizeLine_eq]; exact hz, fun e => h b H (Same.refl H) (by rw [e]; exact hb), fun _ e => h a H (Same.refl H) (by rw [e, List.append_nil]; exact ha), fun _ _ p np => h p _ (same_new0 np) upd_same⟩
theorem cut1 {xs : List V} : cutV xs (some 1) none = xs.drop 1 := cut_drop 1
end KQ
set_option Elab.async false
set_option maxRecDepth 100000
set_option maxHeartbeats 4000000
/-! B12: shares: the numbers that they are. -/
namespace KQ
open PySem PySem.Spec PyProof.Rows L2
/-- the places of a set below n as a number, place -1 first -/
def Vs (S : Int → Bool) : Nat → Nat
  | 0 => (S (-1)).toNat
  | j + 1 => 2 * Vs S j + (S (j : Int)).toNat
def put (S : Int → Bool) (p : Int) (b : Bool) : Int → Bool := fun q => if q = p then b else S q
theorem Vs_congr {S T : Int → Bool} : ∀ {n : Nat}, (∀ q : Int, -1 ≤ q → q < n → S q = T q) → S (-1) = T (-1) → Vs S n = Vs T n
  | 0, _, h => by simp only [Vs]; rw [h]
  | j + 1, h, h0 => by
    simp only [Vs]
    rw [Vs_congr (n := j) (fun q a b => h q a (by omega)) h0, h (j : Int) (by omega) (by omega)]
theorem Vs_put {S : Int → Bool} {p : Int} (h : S p = false) : ∀ {n : Nat}, -1 ≤ p → p < n → Vs (put S p true) n = Vs S n + 2 ^ (n - (p + 1).toNat)
  | 0, a, b => by
    obtain rfl : p = -1 := by omega
    simp [Vs, put, h]
  | j + 1, a, b => by
    simp only [Vs]
    by_cases e : p = j
    · subst e
      rw [Vs_congr (S := put S j true) (T := S) (fun q a b => by unfold put; rw [if_neg (by omega)]) (by unfold put; rw [if_neg (by omega)]), show put S (j : Int) true (j : Int) = true by simp [put], h]
      rw [show j + 1 - ((j : Int) + 1).toNat = 0 by omega]
      rfl
    · rw [Vs_put h (n := j) a (by omega), show put S p true (j : Int) = S (j : Int) by unfold put; rw [if_neg (fun z => e z.symm)]]
      rw [show j + 1 - (p + 1).toNat = (j - (p + 1).toNat) + 1 by omega, Nat.pow_succ]
      omega
theorem put_put {S : Int → Bool} {p : Int} (h : S p = true) : put (put S p false) p true = S := by
  funext q
  unfold put
  by_cases e : q = p
  · rw [if_pos e, e, h]
  · rw [if_neg e, if_neg e]
theorem Vs_del {S : Int → Bool} {p : Int} (h : S p = true) {n : Nat} (a : -1 ≤ p) (b : p < n) : Vs S n = Vs (put S p false) n + 2 ^ (n - (p + 1).toNat) := by
  have q := Vs_put (S := put S p false) (p := p) (by simp [put]) (n := n) a b
  rwa [put_put h] at q
theorem Vs_inj {S T : Int → Bool} : ∀ {n : Nat}, Vs S n = Vs T n → ∀ q : Int, -1 ≤ q → q < n → S q = T q
  | 0, e, q, a, b => by
    obtain rfl : q = -1 := by omega
    simp only [Vs] at e
    revert e
    cases S (-1) <;> cases T (-1) <;> simp
  | j + 1, e, q, a, b => by
    simp only [Vs] at e
    have h1 : (S (j : Int)).toNat ≤ 1 := by cases S (j : Int) <;> simp
    have h2 : (T (j : Int)).toNat ≤ 1 := by cases T (j : Int) <;> simp
    by_cases c : q = j
    · subst c
      have : (S (j : Int)).toNat = (T (j : Int)).toNat := by omega
      revert this
      cases S (j : Int) <;> cases T (j : Int) <;> simp
    · exact Vs_inj (n := j) (by omega) q a (by omega)
theorem Vs_neg {S : Int → Bool} (h : S (-1) = true) : ∀ n : Nat, 2 ^ n ≤ Vs S n
  | 0 => by simp [Vs, h]
  | j + 1 => by
    have := Vs_neg h j
    simp only [Vs, Nat.pow_succ]
    omega
theorem Vs_zero {S : Int → Bool} (h : S 0 = true) : ∀ j : Nat, 2 ^ j ≤ Vs S (j + 1)
  | 0 => by simp [Vs, h]
  | j + 1 => by
    have := Vs_zero h j
    rw [Vs, Nat.pow_succ]
    omega
theorem Vs_more {S : Int → Bool} (h : S 0 = true) {p : Int} (hp : 1 ≤ p) (hS : S p = true) : ∀ j : Nat, p < j + 1 → 2 ^ j < Vs S (j + 1)
  | 0, b => by omega
  | j + 1, b => by
    rw [Vs, Nat.pow_succ]
    by_cases c : p = j + 1
    · have q := Vs_zero h j
      have : (S ((j + 1 : Nat) : Int)).toNat = 1 := by rw [show ((j + 1 : Nat) : Int) = p by omega, hS]; rfl
      omega
    · have := Vs_more h hp hS j (by omega)
      omega
theorem Vs_lt {S : Int → Bool} (h : S (-1) = false) (h0 : S 0 = false) : ∀ j : Nat, Vs S (j + 1) + 1 ≤ 2 ^ j
  | 0 => by
    simp only [Vs, h]
    rw [show ((0 : Nat) : Int) = 0 from rfl, h0]
    decide
  | j + 1 => by
    have := Vs_lt h h0 j
    have : (S ((j + 1 : Nat) : Int)).toNat ≤ 1 := by cases S ((j + 1 : Nat) : Int) <;> simp
    rw [Vs, Nat.pow_succ]
    omega
theorem Vs_up {S : Int → Bool} {n : Nat} (h : ∀ q : Int, n ≤ q → S q = false) : ∀ k : Nat, Vs S (n + k) = 2 ^ k * Vs S n
  | 0 => by simp
  | k + 1 => by
    rw [show n + (k + 1) = (n + k) + 1 by omega, Vs, Vs_up h k, h _ (by omega), Nat.pow_succ]
    show 2 * (2 ^ k * Vs S n) + 0 = _
    rw [Nat.add_zero, ← Nat.mul_assoc, Nat.mul_comm 2]
/-- the set's places, ascending -/
def lotS (S : Int → Bool) : Nat → List Int
  | 0 => if S (-1) then [-1] else []
  | j + 1 => lotS S j ++ if S (j : Int) then [(j : Int)] else []
def lotV : Nat → Nat → List Int
  | 0, W => if W % 2 = 1 then [-1] else []
  | j + 1, W => lotV j (W / 2) ++ if W % 2 = 1 then [(j : Int)] else []
theorem lotV_Vs {S : Int → Bool} : ∀ n : Nat, lotV n (Vs S n) = lotS S n
  | 0 => by cases h : S (-1) <;> simp [lotV, lotS, Vs, h]
  | j + 1 => by
    cases h : S (j : Int)
    · simp only [lotV, lotS, Vs, h]
      rw [show (2 * Vs S j + false.toNat) / 2 = Vs S j by show (2 * Vs S j + 0) / 2 = _; omega, show (2 * Vs S j + false.toNat) % 2 = 0 by show (2 * Vs S j + 0) % 2 = _; omega, lotV_Vs j]
      rfl
    · simp only [lotV, lotS, Vs, h]
      rw [show (2 * Vs S j + true.toNat) / 2 = Vs S j by show (2 * Vs S j + 1) / 2 = _; omega, show (2 * Vs S j + true.toNat) % 2 = 1 by show (2 * Vs S j + 1) % 2 = _; omega, lotV_Vs j]
      rfl
theorem mem_lotS {S : Int → Bool} {q : Int} : ∀ {n : Nat}, q ∈ lotS S n ↔ (-1 ≤ q ∧ q < n ∧ S q = true)
  | 0 => by
    simp only [lotS]
    cases h : S (-1)
    · simp only [Bool.false_eq_true, if_false, List.not_mem_nil, false_iff]
      rintro ⟨a, b, c⟩
      rw [show q = -1 by omega, h] at c
      cases c
    · simp only [if_true, List.mem_singleton]
      exact ⟨fun e => by subst e; exact ⟨by omega, by omega, h⟩, fun ⟨a, b, c⟩ => by omega⟩
  | j + 1 => by
    simp only [lotS, List.mem_append, mem_lotS (n := j)]
    cases h : S (j : Int)
    · simp only [Bool.false_eq_true, if_false, List.not_mem_nil, or_false]
      constructor
      · rintro ⟨a, b, c⟩
        exact ⟨a, by omega, c⟩
      · rintro ⟨a, b, c⟩
        refine ⟨a, ?_, c⟩
        by_cases e : q = j
        · rw [e, h] at c; cases c
        · omega
    · simp only [if_true, List.mem_singleton]
      constructor
      · rintro (⟨a, b, c⟩ | e)
        · exact ⟨a, by omega, c⟩
        · subst e; exact ⟨by omega, by omega, h⟩
      · rintro ⟨a, b, c⟩
        by_cases e : q = j
        · exact .inr e
        · exact .inl ⟨a, by omega, c⟩
theorem lotS_asc {S : Int → Bool} : ∀ n : Nat, (lotS S n).Pairwise (· < ·)
  | 0 => by
    simp only [lotS]
    split <;> simp
  | j + 1 => by
    simp only [lotS]
    refine List.pairwise_append.mpr ⟨lotS_asc j, by split <;> simp, fun a ha b hb => ?_⟩
    have := (mem_lotS.mp ha).2.1
    split at hb
    · simp only [List.mem_singleton] at hb
      omega
    · simp at hb
theorem asc_ext : ∀ {l m : List Int}, l.Pairwise (· < ·) → m.Pairwise (· < ·) → (∀ q, q ∈ l ↔ q ∈ m) → l = m
  | [], [], _, _, _ => rfl
  | [], y :: m, _, _, h => absurd ((h y).mpr (List.mem_cons_self ..)) (List.not_mem_nil)
  | x :: l, [], _, _, h => absurd ((h x).mp (List.mem_cons_self ..)) (List.not_mem_nil)
  | x :: l, y :: m, hl, hm, h => by
    obtain ⟨a, hl'⟩ := List.pairwise_cons.mp hl
    obtain ⟨b, hm'⟩ := List.pairwise_cons.mp hm
    have e : x = y := by
      rcases List.mem_cons.mp ((h x).mp (List.mem_cons_self ..)) with e | e
      · exact e
      · rcases List.mem_cons.mp ((h y).mpr (List.mem_cons_self ..)) with e2 | e2
        · exact e2.symm
        · have := b x e
          have := a y e2
          omega
    subst e
    refine congrArg (x :: ·) (asc_ext hl' hm' fun q => ?_)
    constructor
    · intro hq
      rcases List.mem_cons.mp ((h q).mp (List.mem_cons_of_mem _ hq)) with e | e
      · have := a q hq; omega
      · exact e
    · intro hq
      rcases List.mem_cons.mp ((h q).mpr (List.mem_cons_of_mem _ hq)) with e | e
      · have := b q hq; omega
      · exact e
abbrev mS (ns : List Int) : Int → Bool := fun q => decide (q ∈ ns)
theorem lotS_mS {ns : List Int} {n : Nat} (h : ns.Pairwise (· < ·)) (hb : ∀ q ∈ ns, -1 ≤ q ∧ q < n) : lotS (mS ns) n = ns :=
  asc_ext (lotS_asc n) h fun q => mem_lotS.trans ⟨fun ⟨_, _, c⟩ => of_decide_eq_true c, fun c => ⟨(hb q c).1, (hb q c).2, decide_eq_true c⟩⟩
/-- a share's numbers -/
structure Sh (ns : List Int) : Prop where
  nn : ∀ q ∈ ns, 0 ≤ q
  asc : ns.Pairwise (· < ·)
  zero : 0 ∈ ns → ns = [0]
theorem Sh.le {ns : List Int} (h : Sh ns) {n : Nat} (hb : ∀ q ∈ ns, q < ((n + 1 : Nat) : Int)) : Vs (mS ns) (n + 1) ≤ 2 ^ n := by
  have h1 : mS ns (-1) = false := decide_eq_false fun z => by have := h.nn _ z; omega
  by_cases c : (0 : Int) ∈ ns
  · rw [h.zero c]
    have : ∀ j : Nat, Vs (mS [0]) (j + 1) = 2 ^ j := fun j => by
      induction j with
      | zero => rfl
      | succ j ih =>
        rw [Vs, ih, Nat.pow_succ, show mS [0] ((j + 1 : Nat) : Int) = false from decide_eq_false (by simp; omega)]
        show 2 * 2 ^ j + 0 = _
        omega
    rw [this]
    exact Nat.le_refl _
  · have := Vs_lt h1 (decide_eq_false c) n
    omega
/-- what is ascending within, and worth no more than the whole, is a share -/
theorem Sh.of {ns : List Int} {n : Nat} (h : ns.Pairwise (· < ·)) (hb : ∀ q ∈ ns, -1 ≤ q ∧ q < ((n + 1 : Nat) : Int)) (hv : Vs (mS ns) (n + 1) ≤ 2 ^ n) : Sh ns := by
  have p2 : 0 < 2 ^ n := Nat.pow_pos (by decide)
  have h1 : (-1 : Int) ∉ ns := fun z => by
    have := Vs_neg (S := mS ns) (decide_eq_true z) (n + 1)
    rw [Nat.pow_succ] at this
    omega
  refine ⟨fun q hq => ?_, h, fun z => asc_ext h (by simp) fun q => ⟨fun hq => ?_, fun e => ?_⟩⟩
  · have := (hb q hq).1
    by_cases e : q = -1
    · rw [e] at hq; exact absurd hq h1
    · omega
  · have b := hb q hq
    by_cases e : q = 0
    · simp [e]
    · by_cases e2 : q = -1
      · rw [e2] at hq; exact absurd hq h1
      · have := Vs_more (S := mS ns) (decide_eq_true z) (p := q) (by omega) (decide_eq_true hq) n (by omega)
        omega
  · simp only [List.mem_singleton] at e
    rw [e]; exact z
/-- the share that two come to -/
def addS (n : Nat) (ns ms : List Int) : Option (List Int) :=
  if Vs (mS ns) (n + 1) + Vs (mS ms) (n + 1) ≤ 2 ^ n then some (lotV (n + 1) (Vs (mS ns) (n + 1) + Vs (mS ms) (n + 1))) else none
abbrev Bd (n : Nat) (ns : List Int) : Prop := ∀ q ∈ ns, q < ((n + 1 : Nat) : Int)
theorem addS_comm {n : Nat} {ns ms : List Int} : addS n ns ms = addS n ms ns := by
  unfold addS
  rw [Nat.add_comm]
/-- what a set of that worth is -/
theorem addS_of {n : Nat} {ns ms ks : List Int} (h : ks.Pairwise (· < ·)) (hb : ∀ q ∈ ks, -1 ≤ q ∧ q < ((n + 1 : Nat) : Int)) (e : Vs (mS ks) (n + 1) = Vs (mS ns) (n + 1) + Vs (mS ms) (n + 1)) :
    (Sh ks ∧ addS n ns ms = some ks) ∨ (¬ Sh ks ∧ addS n ns ms = none) := by
  unfold addS
  rw [← e, lotV_Vs, lotS_mS h hb]
  by_cases c : Vs (mS ks) (n + 1) ≤ 2 ^ n
  · exact .inl ⟨Sh.of h hb c, if_pos c⟩
  · exact .inr ⟨fun s => c (s.le fun q hq => (hb q hq).2), if_neg c⟩
theorem lotV_ok {n W : Nat} (h : W < 2 ^ (n + 1)) : ∃ S : Int → Bool, Vs S n = W := by
  induction n generalizing W with
  | zero =>
    rcases (show W = 0 ∨ W = 1 by simp at h; omega) with rfl | rfl
    · exact ⟨fun _ => false, rfl⟩
    · exact ⟨fun _ => true, rfl⟩
  | succ n ih =>
    obtain ⟨S, hS⟩ := ih (W := W / 2) (by rw [Nat.pow_succ] at h; omega)
    refine ⟨put S n (decide (W % 2 = 1)), ?_⟩
    rw [Vs, Vs_congr (T := S) (fun q a b => by unfold put; rw [if_neg (by omega)]) (by unfold put; rw [if_neg (by omega)]), hS, show put S (n : Int) (decide (W % 2 = 1)) (n : Int) = decide (W % 2 = 1) by simp [put]]
    by_cases c : W % 2 = 1
    · simp [c]; omega
    · simp [c]; omega
theorem addS_some {n : Nat} {ns ms ks : List Int} (h : addS n ns ms = some ks) : Sh ks ∧ Bd n ks ∧ Vs (mS ks) (n + 1) = Vs (mS ns) (n + 1) + Vs (mS ms) (n + 1) ∧ Vs (mS ns) (n + 1) + Vs (mS ms) (n + 1) ≤ 2 ^ n := by
  unfold addS at h
  split at h
  · rename_i c
    cases h
    obtain ⟨S, hS⟩ := lotV_ok (n := n + 1) (W := Vs (mS ns) (n + 1) + Vs (mS ms) (n + 1)) (by rw [Nat.pow_succ, Nat.pow_succ]; have : 0 < 2 ^ n := Nat.pow_pos (by decide); omega)
    rw [← hS, lotV_Vs]
    have e : Vs (mS (lotS S (n + 1))) (n + 1) = Vs S (n + 1) := Vs_congr (fun q a b => by
      by_cases z : S q = true
      · rw [z]; exact decide_eq_true (mem_lotS.mpr ⟨a, b, z⟩)
      · rw [Bool.eq_false_iff.mpr z]; exact decide_eq_false fun y => z (mem_lotS.mp y).2.2) (by
      by_cases z : S (-1) = true
      · rw [z]; exact decide_eq_true (mem_lotS.mpr ⟨by omega, by omega, z⟩)
      · rw [Bool.eq_false_iff.mpr z]; exact decide_eq_false fun y => z (mem_lotS.mp y).2.2)
    have b : ∀ q ∈ lotS S (n + 1), -1 ≤ q ∧ q < ((n + 1 : Nat) : Int) := fun q hq => ⟨(mem_lotS.mp hq).1, (mem_lotS.mp hq).2.1⟩
    rw [e, hS]
    exact ⟨Sh.of (lotS_asc _) b (by rw [e, hS]; exact c), fun q hq => (b q hq).2, rfl, c⟩
  · cases h
/-- three in another order -/
theorem addS_third {n : Nat} {a b c d : List Int} (h : addS n a b = some d) (h2 : addS n d c ≠ none) : ∃ e, addS n a c = some e ∧ addS n e b = addS n d c ∧ addS n d c ≠ none := by
  obtain ⟨_, _, e1, _⟩ := addS_some h
  cases q : addS n d c with
  | none => exact absurd q h2
  | some r =>
    obtain ⟨_, _, e2, l2⟩ := addS_some q
    have l3 : Vs (mS a) (n + 1) + Vs (mS c) (n + 1) ≤ 2 ^ n := by omega
    have q3 : addS n a c = some (lotV (n + 1) (Vs (mS a) (n + 1) + Vs (mS c) (n + 1))) := if_pos l3
    refine ⟨_, q3, ?_, fun z => nomatch z⟩
    obtain ⟨_, _, e4, _⟩ := addS_some q3
    rw [← q]
    unfold addS
    rw [e4, e1, show Vs (mS a) (n + 1) + Vs (mS c) (n + 1) + Vs (mS b) (n + 1) = Vs (mS a) (n + 1) + Vs (mS b) (n + 1) + Vs (mS c) (n + 1) by omega]
theorem lotV_up : ∀ (k n W : Nat), lotV (n + k) (2 ^ k * W) = lotV n W
  | 0, n, W => by simp
  | k + 1, n, W => by
    rw [show n + (k + 1) = (n + k) + 1 by omega, lotV, show 2 ^ (k + 1) * W = 2 * (2 ^ k * W) by rw [Nat.pow_succ, Nat.mul_comm (2 ^ k) 2, Nat.mul_assoc], show 2 * (2 ^ k * W) / 2 = 2 ^ k * W by omega, show 2 * (2 ^ k * W) % 2 = 0 by omega, lotV_up k n W]
    simp
/-- more places make no difference -/
theorem addS_up {n k : Nat} {ns ms : List Int} (h1 : Bd n ns) (h2 : Bd n ms) : addS (n + k) ns ms = addS n ns ms := by
  have u : ∀ {l : List Int}, Bd n l → Vs (mS l) (n + 1 + k) = 2 ^ k * Vs (mS l) (n + 1) := fun h => Vs_up (fun q hq => decide_eq_false fun z => by have := h q z; omega) k
  unfold addS
  rw [show n + k + 1 = n + 1 + k by omega, u h1, u h2, ← Nat.mul_add, lotV_up, Nat.pow_add, Nat.mul_comm (2 ^ n)]
  have : 0 < 2 ^ k := Nat.pow_pos (by decide)
  by_cases c : Vs (mS ns) (n + 1) + Vs (mS ms) (n + 1) ≤ 2 ^ n
  · rw [if_pos c, if_pos (Nat.mul_le_mul_left _ c)]
  · rw [if_neg c, if_neg fun z => c (Nat.le_of_mul_le_mul_left z this)]
/-- two halves -/
theorem half_sh {ns : List Int} (h : Sh ns) : Sh (ns.map (· + 1)) :=
  ⟨fun q hq => by obtain ⟨p, hp, rfl⟩ := List.mem_map.mp hq; have := h.nn p hp; omega,
   List.pairwise_map.mpr (h.asc.imp fun h => by omega), fun z => by obtain ⟨p, hp, e⟩ := List.mem_map.mp z; have := h.nn p hp; omega⟩
theorem half_add {n : Nat} {ns : List Int} (h : Sh ns) (hb : ∀ q ∈ ns, q < n) : addS n (ns.map (· + 1)) (ns.map (· + 1)) = some ns := by
  have e : ∀ j : Nat, Vs (mS (ns.map (· + 1))) (j + 1) = Vs (mS ns) j := fun j => by
    have h1 : mS (ns.map (· + 1)) (-1) = false := decide_eq_false fun z => by obtain ⟨p, hp, e⟩ := List.mem_map.mp z; have := h.nn p hp; omega
    have h2 : ∀ q : Int, mS (ns.map (· + 1)) (q + 1) = mS ns q := fun q => by
      show decide _ = decide _
      congr 1
      exact propext ⟨fun z => by obtain ⟨p, hp, e⟩ := List.mem_map.mp z; rw [show q = p by omega]; exact hp, fun z => List.mem_map.mpr ⟨q, z, rfl⟩⟩
    induction j with
    | zero =>
      simp only [Vs, h1]
      have := h2 (-1)
      rw [show (-1 : Int) + 1 = 0 from rfl] at this
      rw [show ((0 : Nat) : Int) = 0 from rfl, this]
      show 2 * 0 + _ = _
      omega
    | succ j ih =>
      rw [Vs, ih, show ((j + 1 : Nat) : Int) = (j : Int) + 1 by omega, h2]
      rfl
  have b : ∀ q ∈ ns, -1 ≤ q ∧ q < ((n + 1 : Nat) : Int) := fun q hq => ⟨by have := h.nn q hq; omega, by have := hb q hq; omega⟩
  have v : Vs (mS ns) (n + 1) = Vs (mS (ns.map (· + 1))) (n + 1) + Vs (mS (ns.map (· + 1))) (n + 1) := by
    rw [e, Vs, show mS ns (n : Int) = false from decide_eq_false fun z => by have := hb _ z; omega]
    show 2 * Vs (mS ns) n + 0 = _
    omega
  rcases addS_of (ns := ns.map (· + 1)) (ms := ns.map (· + 1)) h.asc b v with q | q
  · exact q.2
  · exact absurd h q.1
end KQ
set_option Elab.async false
set_option maxRecDepth 100000
set_option maxHeartbeats 4000000
/-! B13: a tuple reversed by a slice. -/
namespace KQ
open PySem PySem.Spec PyProof.Rows L2
theorem adjust_rev (n : Nat) : Builtin.Slice.sliceAdjust none none (-1) (n : Int) = ((n : Int) - 1, -1) := by
  unfold Builtin.Slice.sliceAdjust
  simp
theorem places_rev (n : Nat) : Builtin.Slice.slicePlaces ((n : Int) - 1) (-1) (-1) = n := by
  unfold Builtin.Slice.slicePlaces
  have h1 : ¬ ((-1 : Int) > 0) := by omega
  simp only [h1, if_false]
  by_cases c : (n : Int) - 1 > -1
  · rw [if_pos c]
    have : ((n : Int) - 1 - -1 - 1) / (- -1) + 1 = n := by
      rw [show (- -1 : Int) = 1 by decide, Int.ediv_one]
      omega
    rw [this]
    omega
  · rw [if_neg c]
    omega
theorem pick_rev (xs : Array Value) : ((List.range xs.size).filterMap fun (m : Nat) => xs[(((xs.size : Int) - 1) + (m : Int) * (-1)).toNat]?).toArray = xs.toList.reverse.toArray := by
  congr 1
  apply List.ext_getElem?
  intro i
  have hm : ∀ l : List Nat, (∀ m ∈ l, m < xs.size) → (l.filterMap fun (m : Nat) => xs[(((xs.size : Int) - 1) + (m : Int) * (-1)).toNat]?) = l.map fun m => xs.toList.reverse.getD m Value.none := by
    intro l
    induction l with
    | nil => intro _; rfl
    | cons m l ih =>
      intro h
      have hm := h m (List.mem_cons_self ..)
      have e1 : (((xs.size : Int) - 1) + (m : Int) * (-1)).toNat = xs.size - 1 - m := by omega
      have e2 : xs[xs.size - 1 - m]? = some (xs.toList.reverse.getD m Value.none) := by
        have hl : m < xs.toList.reverse.length := by simp; omega
        rw [List.getD_eq_getElem?_getD, List.getElem?_reverse (by simpa using hm)]
        simp only [Array.length_toList, Array.getElem?_toList]
        rw [Array.getElem?_eq_getElem (by omega)]
        rfl
      rw [List.filterMap_cons, e1, e2, List.map_cons, ih fun m' h' => h m' (List.mem_cons_of_mem _ h')]
  rw [hm _ fun m h => List.mem_range.mp h, List.getElem?_map]
  by_cases c : i < xs.size
  · rw [List.getElem?_range c]
    have hl : i < xs.toList.reverse.length := by simpa using c
    simp only [Option.map_some, List.getD_eq_getElem?_getD]
    rw [List.getElem?_eq_getElem hl]
    rfl
  · rw [List.getElem?_eq_none (by simp; omega), List.getElem?_eq_none (by simp; omega)]
    rfl
section
variable {prog : Program} {w : World} {A : Around} {E : Value → Shared → Prop} {s : Shared}
theorem sliceApplied_rev {sl : Addr} {vs : Value} {n : Nat} {Q : Int × Int × Nat → Shared → Prop} (hs : s.heap.IsSliceOf sl .none .none vs) (ps : IsPart vs (some (-1)))
    (h : Q ((n : Int) - 1, -1, n) s) : wpAny (model prog w) A (Builtin.Slice.sliceApplied (.ref sl) (pure (n : Int))) Q E s := by
  obtain ⟨os, hos, hcs, hds⟩ := id hs
  unfold Builtin.Slice.sliceApplied Builtin.Slice.sliceFields
  refine wpAny_bind (wpAny_bind (wpAny_field hos hds (x := .none) rfl (wpAny_bind (wpAny_field hos hds (x := .none) rfl (wpAny_bind (wpAny_field hos hds (x := vs) rfl (wpAny_pure ?_)))))))
  refine wpAny_bind (HT.slicePart_ ps ?_)
  show wpAny _ _ (if ((-1 : Int) == 0) = true then _ else _) _ _ s
  rw [if_neg (by decide)]
  refine wpAny_bind (slicePart_none (wpAny_bind (slicePart_none (wpAny_bind (wpAny_pure ?_)))))
  show wpAny _ _ (match Builtin.Slice.sliceAdjust none none (-1) (n : Int) with | (lo, hi) => pure (lo, (-1 : Int), Builtin.Slice.slicePlaces lo hi (-1))) _ _ s
  rw [adjust_rev n]
  show wpAny _ _ (pure ((n : Int) - 1, (-1 : Int), Builtin.Slice.slicePlaces ((n : Int) - 1) (-1) (-1))) _ _ s
  rw [places_rev]
  exact wpAny_pure h
theorem getItem_tuple_rev {t sl : Addr} {items : Array Value} {vs : Value} {Q : Value → Shared → Prop} (ht : IsTup s.heap t items) (hs : s.heap.IsSliceOf sl .none .none vs) (ps : IsPart vs (some (-1)))
    (h : Q (.ref s.heap.objs.size) { s with heap := s.heap.push { cls := .type "tuple", data := .seq items.toList.reverse.toArray } })
    (hsz : items.size ≤ sizeLine) : wpAny (model prog w) A (getItem (.ref t) (.ref sl)) Q E s := by
  have htake : sizeOk (.seq items.toList.reverse.toArray) := by
    show items.toList.reverse.toArray.size ≤ sizeLine
    rw [List.size_toArray, List.length_reverse, Array.length_toList]
    exact hsz
  obtain ⟨os, hos, hcs, hds⟩ := id hs
  have hTs : s.TypeIs (.ref sl) "slice" := ⟨os, hos, hcs⟩
  unfold getItem
  try with_reducible refine wpAny_holding ?_
  first | refine wpAny_bind (wpAny_pure ?_) | skip
  refine wpAny_bind (wpAny_sequenceKey ht.typeIs (by decide) ?_)
  refine wpAny_bind (wpAny_callSpecial?_slot (name := Str.ofString "__getitem__") ht.typeIs PyProof.Rows.slot_tuple_getitem
    (wpAny_call_entry PyProof.Rows.slot_tuple_getitem ht.typeIs entry_tuple_getitem ?_ (args_tuple_getitem _ _)))
  show wpAny _ _ (Builtin.Tuple.tupleItemsOf (.ref t) >>= _) _ _ s
  refine wpAny_bind (tupleItemsOf_ ht ?_)
  refine wpAny_bind (wpAny_typeOf hTs ?_)
  rw [if_pos (by decide)]
  refine wpAny_bind (sliceApplied_rev hs ps ?_)
  have hno : ¬ (((((items.size : Nat) : Int) - 1) == 0 && (-1 : Int) == 1 && items.size == items.size) = true) := by simp
  show wpAny _ _ (if ((((items.size : Nat) : Int) - 1) == 0 && (-1 : Int) == 1 && items.size == items.size) = true then _ else _) _ _ s
  rw [if_neg hno, pick_rev]
  first
    | exact wpAny_bind (m := Builtin.Tuple.tupleExact _) (wpAny_newObj_type (wpAny_pure ⟨_, rfl, wpAny_pure h⟩) htake)
    | exact wpAny_bind (m := Builtin.Tuple.tupleExact _) (wpAny_newObj_type (wpAny_bind (wpAny_pure (wpAny_pure ⟨_, rfl, wpAny_pure h⟩))) htake)
    | exact wpAny_bind (wpAny_bind (m := Builtin.Tuple.tupleExact _) (wpAny_newObj_type (wpAny_pure (wpAny_pure ⟨_, rfl, wpAny_pure h⟩)) htake))
    | exact wpAny_bind (wpAny_bind (m := Builtin.Tuple.tupleExact _) (wpAny_newObj_type (wpAny_pure ⟨_, rfl, wpAny_pure h⟩) htake))
end
def tRevT (K : PySem.W.Frag) (te : TE) : TE := fun σ H Q => te σ H fun x H1 => ∃ a xs, x = .ref a ∧ SqT K H1 a xs ∧ ∀ p, H1 p = none → Q (.ref p) (upd H1 p (.tup xs.reverse))
theorem pe_revT {X : Cx} {e : Expr} {te : TE} {k : Nat} {p1 p2 p3 pos : Pos} (he : PE X e te) : PE X (.Subscript e (.Slice none none (some (.UnaryOp .USub (.Constant (.int 1) k p1) p2)) p3) pos) (tRevT X.K te) := by
  refine ⟨fun pins s σ H Q I h => ?_⟩
  refine Subscript_ (thn (he.run pins s σ H _ I h) fun v s1 ⟨x, H1, I1, r1, q1⟩ => ?_)
  obtain ⟨a, xs, ex, hx, q⟩ := q1
  subst ex
  cases r1
  have hst : PO X (some (.UnaryOp .USub (.Constant (.int 1) k p1) p2)) (tPart (tUn (rU fun i => .int (-i)) (tC (.int 1)))) := po_some (pe_un un_neg pe_int)
  refine wpAny_Slice (thn (po_none.run pins s1 σ H1 (fun o H2 => o = none ∧ H2 = H1) I1 ⟨rfl, rfl⟩) fun vl s2 ⟨l, H2, I2, pl, el, e2⟩ => ?_)
  subst el e2
  cases pl
  refine thn (po_none.run pins s2 σ H2 (fun o H3 => o = none ∧ H3 = H2) I2 ⟨rfl, rfl⟩) fun vu s3 ⟨u, H3, I3, pu, eu, e3⟩ => ?_
  subst eu e3
  cases pu
  refine thn (hst.run pins s3 σ H3 (fun o H4 => o = some (-1) ∧ H4 = H3) I3 ⟨1, rfl, -1, rfl, rfl, rfl⟩) fun vs s4 ⟨o, H4, I4, ps, eo, e4⟩ => ?_
  subst eo e4
  have I5 : Inv X pins σ H4 { s4 with heap := s4.heap.push { cls := .type "slice", data := .fields #[.none, .none, vs] } } := I4.kept (t' := s4.toks) fun b ob q => Heap.get?_push_of_some _ q
  obtain ⟨its, r, ht, hz⟩ := I5.tuple hx
  have hlen := r.length
  show wpAny (model X.prog X.w) X.A (subscriptTail e (.Slice none none (some (.UnaryOp .USub (.Constant (.int 1) k p1) p2)) p3) (.ref a) (.ref s4.heap.objs.size)) (EP X pins σ Q) X.xe { s4 with heap := s4.heap.push { cls := .type "slice", data := .fields #[.none, .none, vs] } }
  refine tail_any (ops := [.ref a, .ref s4.heap.objs.size]) ht.typeIs (PyProof.Rows.slot_tuple_getitem.lookup) ?_ (by with_unfolding_all rfl)
  refine getItem_tuple_rev ht (Heap.IsSliceOf.new _ .none .none vs) ps ?_ (by rw [List.size_toArray]; omega)
  refine ⟨.ref _, _, I5.laid (t' := s4.toks) (o := .tup xs.reverse) (fun b ob q => Heap.get?_push_of_some _ q) (Nat.le_refl _) ?_, rfl, q _ (I5.hok.fresh (Nat.le_refl _))⟩
  exact ⟨by rw [List.length_reverse]; exact hz, _, r.reverse, IsTup.new _ _⟩
/-- a text some times behind itself -/
def rRepS : R2 := fun x y H Q => ∃ (z : Str) (n : Nat), x = .str z ∧ y = .int (n : Int) ∧ 2 ≤ n ∧ n ≤ 1000 ∧ 0 < z.length ∧ z.length ≤ 1000 ∧ (⟨(List.replicate n z.cps).foldl (· ++ ·) #[]⟩ : Str).length ≤ 1000000 ∧ Q (.str ⟨(List.replicate n z.cps).foldl (· ++ ·) #[]⟩) H
theorem op_repS {X : Cx} : OpR X (binaryOp .Mult) rRepS := by
  intro pins s σ H x y v u Q I rx ry h
  obtain ⟨z, n, rfl, rfl, h2, h3, h4, h5, h6, q⟩ := h
  obtain ⟨t, rfl⟩ := rx
  obtain ⟨t', rfl⟩ := ry
  refine P.mul_str ?_ (fun _ _ => ?_) (fun _ _ => ?_) ?_
  · rw [decide_eq_false (by omega), decide_eq_false (by omega)]; rfl
  · have h9 : (2 ^ 63 - 1 : Int) / (n : Int) ≥ (2 ^ 63 - 1 : Int) / 1000 := by
      rw [ge_iff_le, Int.le_ediv_iff_mul_le (by omega)]
      have e : (2 ^ 63 - 1 : Int) / 1000 = 9223372036854775 := by decide
      rw [e]
      omega
    have e : (2 ^ 63 - 1 : Int) / 1000 = 9223372036854775 := by decide
    omega
  · have : z.length * (n : Int).toNat ≤ 1000000 := by
      rw [Int.toNat_natCast]
      exact Nat.le_trans (Nat.mul_le_mul h5 h3) (by decide)
    show decide (z.length * (n : Int).toNat > sizeLine) = false
    rw [sizeLine_eq]
    exact decide_eq_false (by omega)
  · rw [if_neg (by omega), if_neg (by simp; omega), Int.toNat_natCast]
    refine ⟨?_, ?_⟩
    · rw [sizeLine_eq]
      omega
    · exact ⟨.str _, H, I.tok _, ⟨_, rfl⟩, q⟩
/-- f(), f by its promise -/
theorem pe_h0 {X : Cx} {k : Nat} {x : Str} {ps : List Str} {sp : Sp} {p pos : Pos} (D : Has X.prog X.w X.K X.mg X.base k x ps sp) (hr : Room k X.A) (hg : Gl X x) (hdb : (x == ("__debug__" : Str)) = false := by decide) :
    PE X (.Call (.Name x p) [] [] pos) (tCall sp [] E0 tNil) := by
  obtain ⟨f, fd, G, m, kp, b⟩ := D
  exact pe_call0 G hr hg m kp b .nil pass0 hdb
end KQ
set_option Elab.async false
set_option maxRecDepth 100000
set_option maxHeartbeats 4000000
namespace KQ
open PySem PySem.Spec PyProof.Rows L2
def top (i : Nat) : Stmt := PySem.Challenge.pw_knownquiet_k11_whole_shares_by_fractions.main.body.getD i (.Pass ⟨0, 0, 0, 0⟩)
abbrev s_is_number : Stmt := top 4
theorem sc_is_number : FnScope ["thing"] ["thing"] (defScope s_is_number) := ⟨rfl, rfl, rfl, by decide +kernel, rfl, by decide +kernel, by decide +kernel⟩
abbrev s_rises : Stmt := top 5
theorem sc_rises : FnScope ["items", "one", "other"] ["items"] (defScope s_rises) := ⟨rfl, rfl, rfl, by decide +kernel, rfl, by decide +kernel, by decide +kernel⟩
abbrev s_is_lot : Stmt := top 6
theorem sc_is_lot : FnScope ["thing", "item"] ["thing"] (defScope s_is_lot) := ⟨rfl, rfl, rfl, by decide +kernel, rfl, by decide +kernel, by decide +kernel⟩
abbrev s_is_share : Stmt := top 8
theorem sc_is_share : FnScope ["thing"] ["thing"] (defScope s_is_share) := ⟨rfl, rfl, rfl, by decide +kernel, rfl, by decide +kernel, by decide +kernel⟩
abbrev s_is_some_share : Stmt := top 9
theorem sc_is_some_share : FnScope ["thing"] ["thing"] (defScope s_is_some_share) := ⟨rfl, rfl, rfl, by decide +kernel, rfl, by decide +kernel, by decide +kernel⟩
abbrev s_check_share : Stmt := top 10
theorem sc_check_share : FnScope ["share"] ["share"] (defScope s_check_share) := ⟨rfl, rfl, rfl, by decide +kernel, rfl, by decide +kernel, by decide +kernel⟩
abbrev s_sum_of : Stmt := top 11
theorem sc_sum_of : FnScope ["one", "other", "share"] ["one", "other"] (defScope s_sum_of) := ⟨rfl, rfl, rfl, by decide +kernel, rfl, by decide +kernel, by decide +kernel⟩
abbrev s_added : Stmt := top 12
theorem sc_added : FnScope ["one", "other", "both"] ["one", "other"] (defScope s_added) := ⟨rfl, rfl, rfl, by decide +kernel, rfl, by decide +kernel, by decide +kernel⟩
abbrev s_merged : Stmt := top 13
theorem sc_merged : FnScope ["shares", "there", "share", "number", "place"] ["shares"] (defScope s_merged) := ⟨rfl, rfl, rfl, by decide +kernel, rfl, by decide +kernel, by decide +kernel⟩
abbrev s_half : Stmt := top 14
theorem sc_half : FnScope ["share"] ["share"] (defScope s_half) := ⟨rfl, rfl, rfl, by decide +kernel, rfl, by decide +kernel, by decide +kernel⟩
abbrev s_halved : Stmt := top 15
theorem sc_halved : FnScope ["share", "number"] ["share"] (defScope s_halved) := ⟨rfl, rfl, rfl, by decide +kernel, rfl, by decide +kernel, by decide +kernel⟩
abbrev s_law_hand : Stmt := top 17
theorem sc_law_hand : FnScope ["script", "cell"] ["script"] (defScope s_law_hand) := ⟨rfl, rfl, rfl, by decide +kernel, rfl, by decide +kernel, by decide +kernel⟩
abbrev s_law_draw : Stmt := top 18
theorem sc_law_draw : FnScope ["hand", "many", "cell", "digit", "number"] ["hand", "many"] (defScope s_law_draw) := ⟨rfl, rfl, rfl, by decide +kernel, rfl, by decide +kernel, by decide +kernel⟩
abbrev s_law_is : Stmt := top 19
theorem sc_law_is : FnScope ["told", "due", "one", "two"] ["told", "due"] (defScope s_law_is) := ⟨rfl, rfl, rfl, by decide +kernel, rfl, by decide +kernel, by decide +kernel⟩
abbrev s_law_deep : Stmt := top 20
theorem sc_law_deep : FnScope ["hand", "found", "turn"] ["hand"] (defScope s_law_deep) := ⟨rfl, rfl, rfl, by decide +kernel, rfl, by decide +kernel, by decide +kernel⟩
abbrev s_law_number : Stmt := top 21
theorem sc_law_number : FnScope ["thing", "least", "most"] ["thing", "least", "most"] (defScope s_law_number) := ⟨rfl, rfl, rfl, by decide +kernel, rfl, by decide +kernel, by decide +kernel⟩
abbrev s_law_worth : Stmt := top 22
theorem sc_law_worth : FnScope ["share", "top", "found", "place"] ["share", "top"] (defScope s_law_worth) := ⟨rfl, rfl, rfl, by decide +kernel, rfl, by decide +kernel, by decide +kernel⟩
abbrev s_law_lot_of : Stmt := top 23
theorem sc_law_lot_of : FnScope ["worth", "top", "found", "left", "turn"] ["worth", "top"] (defScope s_law_lot_of) := ⟨rfl, rfl, rfl, by decide +kernel, rfl, by decide +kernel, by decide +kernel⟩
abbrev s_law_sum : Stmt := top 24
theorem sc_law_sum : FnScope ["one", "other", "top", "worth"] ["one", "other"] (defScope s_law_sum) := ⟨rfl, rfl, rfl, by decide +kernel, rfl, by decide +kernel, by decide +kernel⟩
abbrev s_law_is_share : Stmt := top 25
theorem sc_law_is_share : FnScope ["thing", "item", "one", "other"] ["thing"] (defScope s_law_is_share) := ⟨rfl, rfl, rfl, by decide +kernel, rfl, by decide +kernel, by decide +kernel⟩
abbrev s_law_drawn_share : Stmt := top 26
theorem sc_law_drawn_share : FnScope ["hand", "most", "found", "turn", "place"] ["hand"] (defScope s_law_drawn_share) := ⟨rfl, rfl, rfl, by decide +kernel, rfl, by decide +kernel, by decide +kernel⟩
abbrev s_law_summed : Stmt := top 27
theorem sc_law_summed : FnScope ["one", "other"] ["one", "other"] (defScope s_law_summed) := ⟨rfl, rfl, rfl, by decide +kernel, rfl, by decide +kernel, by decide +kernel⟩
abbrev s_law_half : Stmt := top 28
theorem sc_law_half : FnScope ["share"] ["share"] (defScope s_law_half) := ⟨rfl, rfl, rfl, by decide +kernel, rfl, by decide +kernel, by decide +kernel⟩
abbrev s_law_some : Stmt := top 29
theorem sc_law_some : FnScope ["hand", "kind", "odd"] ["hand"] (defScope s_law_some) := ⟨rfl, rfl, rfl, by decide +kernel, rfl, by decide +kernel, by decide +kernel⟩
abbrev s_law_due : Stmt := top 30
theorem sc_law_due : FnScope ["one", "other", "found"] ["one", "other"] (defScope s_law_due) := ⟨rfl, rfl, rfl, by decide +kernel, rfl, by decide +kernel, by decide +kernel⟩
abbrev s_law : Stmt := top 31
theorem sc_law : FnScope ["script", "hand", "turn", "one", "other", "due", "part", "place", "third"] ["script"] (defScope s_law) := ⟨rfl, rfl, rfl, by decide +kernel, rfl, by decide +kernel, by decide +kernel⟩
end KQ
set_option Elab.async false
set_option maxRecDepth 100000
set_option maxHeartbeats 4000000
namespace KQ
open PySem PySem.Spec PyProof.Rows L2

/-- the built-in names that no text of ours binds -/
structure Bi (mg : Str → Option Value) : Prop where
  len : mg "len" = none
  isinstance : mg "isinstance" = none
  int : mg "int" = none
  bool : mg "bool" = none
  tuple : mg "tuple" = none
  list : mg "list" = none
  str : mg "str" = none
  zip : mg "zip" = none
  range : mg "range" = none
  max : mg "max" = none
  sorted : mg "sorted" = none
  all : mg "all" = none
  sum : mg "sum" = none
  enumerate : mg "enumerate" = none
  abs : mg "abs" = none
  ord : mg "ord" = none
  min : mg "min" = none
  any : mg "any" = none
  dict : mg "dict" = none
  repr : mg "repr" = none
  reversed : mg "reversed" = none

/-! ### the drawing hand: the script's ints at l, four ints beside it -/
def HandOk (H : Hp) (h l : Addr) : Prop := ∃ (xs : List Int) (i b s c : Int), H h = some (.lst [.ref l, .int i, .int b, .int s, .int c]) ∧ H l = some (.lst (xs.map V.int)) ∧
  0 ≤ i ∧ i ≤ xs.length ∧ 0 ≤ b ∧ 0 ≤ s ∧ s < 2147483647 ∧ xs.length ≤ 1000
abbrev Nh (h : Addr) : Addr → Prop := fun a => a = h
theorem HandOk.same {H H' : Hp} {h l : Addr} (k : HandOk H h l) (e : Same H H') : HandOk H' h l := by
  obtain ⟨xs, i, b, s, c, h1, h2, r⟩ := k
  exact ⟨xs, i, b, s, c, e _ _ h1, e _ _ h2, r⟩
theorem same_new {H : Hp} {p : Addr} {o : HO} (h : H p = none) : Same H (upd H p o) := fun b u q => by rw [upd_ne (ne_of_none q h)]; exact q
theorem HandOk.new {H : Hp} {h l p : Addr} {o : HO} (k : HandOk H h l) (n : H p = none) : HandOk (upd H p o) h l := k.same (same_new n)
theorem HandOk.ne {H : Hp} {h l p : Addr} (k : HandOk H h l) (n : H p = none) : p ≠ h := by
  obtain ⟨xs, i, b, s, c, h1, _⟩ := k
  exact (ne_of_none h1 n).symm
theorem HandOk.ne0 {H : Hp} {h l p : Addr} (k : HandOk H h l) (n : H p = none) : p ≠ l := by
  obtain ⟨xs, i, b, s, c, _, h2, _⟩ := k
  exact (ne_of_none h2 n).symm
/-- what stands at the hand's two places is a list -/
theorem HandOk.lst {H : Hp} {h l : Addr} (k : HandOk H h l) : (∃ xs, H h = some (.lst xs)) ∧ ∃ xs, H l = some (.lst xs) := by
  obtain ⟨xs, i, b, s, c, h1, h2, _⟩ := k
  exact ⟨⟨_, h1⟩, _, h2⟩
/-- the hand's own list -/
abbrev hL (l : Addr) (i b s c : Int) : HO := .lst [.ref l, .int i, .int b, .int s, .int c]
def spHand (K : PySem.W.Frag) : Sp := fun vs H Q _ => ∃ (a : Addr) (ns : List Int), vs = [.ref a] ∧ SqL K H a (ns.map V.int) ∧ ns.length ≤ 1000 ∧ ∀ (h l : Addr) (H' : Hp), H h = none → H l = none → Same H H' → HandOk H' h l → Q (.ref h) H'
def spTake : Sp := fun vs H Q _ => ∃ (h l : Addr) (m : Int), vs = [.ref h, .int m] ∧ HandOk H h l ∧ 0 < m ∧ m < 1073741824 ∧
  ∀ (r : Int) (H' : Hp), 0 ≤ r → r < m → HandOk H' h l → (∀ a, a ≠ h → H' a = H a) → Q (.int r) H'
section
variable {P : Program} {w : World} {K : PySem.W.Frag} {mg : Str → Option Value} {base : Heap}
theorem fmod_lt' {a m : Int} (h : 0 < m) : 0 ≤ a.fmod m ∧ a.fmod m < m := by
  rw [Int.fmod_eq_emod_of_nonneg a (Int.le_of_lt h)]
  exact ⟨Int.emod_nonneg a (by omega), Int.emod_lt_of_pos a h⟩
theorem fdiv_nn {a m : Int} (h : 0 < m) (ha : 0 ≤ a) : 0 ≤ a.fdiv m := by
  rw [Int.fdiv_eq_ediv_of_nonneg a (Int.le_of_lt h)]
  exact Int.ediv_nonneg ha (Int.le_of_lt h)
theorem atI_map {xs : List Int} {i : Int} (h0 : 0 ≤ i) (h : i < xs.length) : ∃ v, atI (xs.map V.int) i = some (.int v) := by
  have hk : i.toNat < xs.length := by omega
  have q : atI (xs.map V.int) ((i.toNat : Nat) : Int) = some (.int xs[i.toNat]) := atI_nat (by rw [List.getElem?_map, List.getElem?_eq_getElem hk] <;> rfl)
  rw [show ((i.toNat : Nat) : Int) = i by omega] at q
  exact ⟨_, q⟩
end
end KQ
set_option Elab.async false
set_option maxRecDepth 100000
set_option maxHeartbeats 4000000
namespace KQ
open PySem PySem.Spec PyProof.Rows L2
theorem ifT {c : Bool} {A B : Prop} (h : c = true) (a : A) : if c = true then A else B := by rw [if_pos h]; exact a
theorem ifF {c : Bool} {A B : Prop} (h : c = false) (b : B) : if c = true then A else B := by rw [h, if_neg Bool.false_ne_true]; exact b
theorem atI_some {xs : List V} {i : Int} (h0 : 0 ≤ i) (h : i < xs.length) : ∃ v, atI xs i = some v ∧ v ∈ xs ∧ xs[i.toNat]? = some v := by
  have hk : i.toNat < xs.length := by omega
  have q : atI xs ((i.toNat : Nat) : Int) = some xs[i.toNat] := atI_nat (List.getElem?_eq_getElem hk)
  rw [show ((i.toNat : Nat) : Int) = i by omega] at q
  exact ⟨_, q, List.getElem_mem hk, List.getElem?_eq_getElem hk⟩
def spPick : Sp := fun vs H Q _ => ∃ (h l t : Addr) (xs : List V), vs = [.ref h, .ref t] ∧ HandOk H h l ∧ H t = some (.lst xs) ∧ t ≠ h ∧ 0 < xs.length ∧ xs.length < 1073741824 ∧
  ∀ (v : V) (H' : Hp), v ∈ xs → HandOk H' h l → (∀ a, a ≠ h → H' a = H a) → Q v H'
def spIsInt : Sp := fun vs H Q _ => ∃ (N : Addr → Prop) (v : V) (d : PyData), vs = [v] ∧ Rp N H v d ∧ Q (.bl (intOf d).isSome) H
def within (d : PyData) (lo hi : Int) : Bool := match intOf d with
  | some i => decide (lo ≤ i) && decide (i ≤ hi)
  | none => false
def spWithin : Sp := fun vs H Q _ => ∃ (N : Addr → Prop) (v : V) (d : PyData) (lo hi : Int), vs = [v, .int lo, .int hi] ∧ Rp N H v d ∧ Q (.bl (within d lo hi)) H
def spSame (n : Nat) : Sp := fun vs H Q _ => ∃ (N N' : Addr → Prop) (a b : V) (d : PyData), vs = [a, b] ∧ Rp N H a d ∧ Rp N' H b d ∧ d.depth ≤ n ∧ d.canLay0 = true ∧ ∀ H', Same H H' → Q (.bl true) H'
theorem isInt_is (d : PyData) : (isT "int" d && !isT "bool" d) = (intOf d).isSome := by cases d <;> rfl
section
variable {P : Program} {w : World} {K : PySem.W.Frag} {mg : Str → Option Value} {base : Heap}
end
end KQ
set_option Elab.async false
set_option maxRecDepth 100000
set_option maxHeartbeats 4000000
namespace KQ
open PySem PySem.Spec PyProof.Rows L2
local macro_rules | `(tactic| trivial) => `(tactic| repeat (first | (apply And.intro; focus (first | rfl | assumption | exact upd_same | exact SqL.of (by (first | assumption | exact upd_same | (rw [upd_ne (by first | assumption | exact Ne.symm (by assumption))]; first | assumption | exact upd_same | (rw [upd_ne (by first | assumption | exact Ne.symm (by assumption))]; first | assumption | exact upd_same)))) | exact SqT.of (by (first | assumption | exact upd_same | (rw [upd_ne (by first | assumption | exact Ne.symm (by assumption))]; first | assumption | exact upd_same | (rw [upd_ne (by first | assumption | exact Ne.symm (by assumption))]; first | assumption | exact upd_same)))) | exact Or.inl (SqL.of (by (first | assumption | exact upd_same | (rw [upd_ne (by first | assumption | exact Ne.symm (by assumption))]; first | assumption | exact upd_same | (rw [upd_ne (by first | assumption | exact Ne.symm (by assumption))]; first | assumption | exact upd_same))))) | exact Or.inr (SqT.of (by (first | assumption | exact upd_same | (rw [upd_ne (by first | assumption | exact Ne.symm (by assumption))]; first | assumption | exact upd_same | (rw [upd_ne (by first | assumption | exact Ne.symm (by assumption))]; first | assumption | exact upd_same))))) | exact Or.inl ⟨rfl, _, SqL.of (by (first | assumption | exact upd_same | (rw [upd_ne (by first | assumption | exact Ne.symm (by assumption))]; first | assumption | exact upd_same | (rw [upd_ne (by first | assumption | exact Ne.symm (by assumption))]; first | assumption | exact upd_same))))⟩ | (first | assumption | exact upd_same | (rw [upd_ne (by first | assumption | exact Ne.symm (by assumption))]; first | assumption | exact upd_same | (rw [upd_ne (by first | assumption | exact Ne.symm (by assumption))]; first | assumption | exact upd_same))) | decide | exact Nat.le_of_ble_eq_true rfl | omega | (show ∃ xs, SqL _ _ _ xs; exact ⟨_, SqL.of (by (first | assumption | exact upd_same | (rw [upd_ne (by first | assumption | exact Ne.symm (by assumption))]; first | assumption | exact upd_same | (rw [upd_ne (by first | assumption | exact Ne.symm (by assumption))]; first | assumption | exact upd_same))))⟩) | (show ∃ xs, SqT _ _ _ xs; exact ⟨_, SqT.of (by (first | assumption | exact upd_same | (rw [upd_ne (by first | assumption | exact Ne.symm (by assumption))]; first | assumption | exact upd_same | (rw [upd_ne (by first | assumption | exact Ne.symm (by assumption))]; first | assumption | exact upd_same))))⟩) | exact DGet.k (k := Sum.inl _) (by (first | assumption | exact upd_same | (rw [upd_ne (by first | assumption | exact Ne.symm (by assumption))]; first | assumption | exact upd_same | (rw [upd_ne (by first | assumption | exact Ne.symm (by assumption))]; first | assumption | exact upd_same)))) | (show V.int _ = kV (Sum.inl _); rfl) | (show ∃ z, V.str _ = V.str z; exact ⟨_, rfl⟩) | exact Or.inl ⟨by (first | decide | omega), by (first | decide | omega)⟩ | exact Or.inr ⟨by (first | decide | omega), by (first | decide | omega)⟩ | exact ⟨by (first | decide | omega), by (first | decide | omega)⟩ | exact ⟨by decide, by decide, by decide⟩ | exact L2.ClsV.ty _ | exact Dt.ty (by assumption) | exact Dt.kint (by assumption) | exact Dt.kbool (by assumption) | exact Dt.ktuple (by assumption) | exact Dt.klist (by assumption) | exact Dt.kstr (by assumption))) | (apply Exists.intro; apply And.intro; focus (first | rfl | assumption | exact upd_same | exact SqL.of (by (first | assumption | exact upd_same | (rw [upd_ne (by first | assumption | exact Ne.symm (by assumption))]; first | assumption | exact upd_same | (rw [upd_ne (by first | assumption | exact Ne.symm (by assumption))]; first | assumption | exact upd_same)))) | exact SqT.of (by (first | assumption | exact upd_same | (rw [upd_ne (by first | assumption | exact Ne.symm (by assumption))]; first | assumption | exact upd_same | (rw [upd_ne (by first | assumption | exact Ne.symm (by assumption))]; first | assumption | exact upd_same)))) | exact Or.inl (SqL.of (by (first | assumption | exact upd_same | (rw [upd_ne (by first | assumption | exact Ne.symm (by assumption))]; first | assumption | exact upd_same | (rw [upd_ne (by first | assumption | exact Ne.symm (by assumption))]; first | assumption | exact upd_same))))) | exact Or.inr (SqT.of (by (first | assumption | exact upd_same | (rw [upd_ne (by first | assumption | exact Ne.symm (by assumption))]; first | assumption | exact upd_same | (rw [upd_ne (by first | assumption | exact Ne.symm (by assumption))]; first | assumption | exact upd_same))))) | exact Or.inl ⟨rfl, _, SqL.of (by (first | assumption | exact upd_same | (rw [upd_ne (by first | assumption | exact Ne.symm (by assumption))]; first | assumption | exact upd_same | (rw [upd_ne (by first | assumption | exact Ne.symm (by assumption))]; first | assumption | exact upd_same))))⟩ | (first | assumption | exact upd_same | (rw [upd_ne (by first | assumption | exact Ne.symm (by assumption))]; first | assumption | exact upd_same | (rw [upd_ne (by first | assumption | exact Ne.symm (by assumption))]; first | assumption | exact upd_same))) | decide | exact Nat.le_of_ble_eq_true rfl | omega | (show ∃ xs, SqL _ _ _ xs; exact ⟨_, SqL.of (by (first | assumption | exact upd_same | (rw [upd_ne (by first | assumption | exact Ne.symm (by assumption))]; first | assumption | exact upd_same | (rw [upd_ne (by first | assumption | exact Ne.symm (by assumption))]; first | assumption | exact upd_same))))⟩) | (show ∃ xs, SqT _ _ _ xs; exact ⟨_, SqT.of (by (first | assumption | exact upd_same | (rw [upd_ne (by first | assumption | exact Ne.symm (by assumption))]; first | assumption | exact upd_same | (rw [upd_ne (by first | assumption | exact Ne.symm (by assumption))]; first | assumption | exact upd_same))))⟩) | exact DGet.k (k := Sum.inl _) (by (first | assumption | exact upd_same | (rw [upd_ne (by first | assumption | exact Ne.symm (by assumption))]; first | assumption | exact upd_same | (rw [upd_ne (by first | assumption | exact Ne.symm (by assumption))]; first | assumption | exact upd_same)))) | (show V.int _ = kV (Sum.inl _); rfl) | (show ∃ z, V.str _ = V.str z; exact ⟨_, rfl⟩) | exact Or.inl ⟨by (first | decide | omega), by (first | decide | omega)⟩ | exact Or.inr ⟨by (first | decide | omega), by (first | decide | omega)⟩ | exact ⟨by (first | decide | omega), by (first | decide | omega)⟩ | exact ⟨by decide, by decide, by decide⟩ | exact L2.ClsV.ty _ | exact Dt.ty (by assumption) | exact Dt.kint (by assumption) | exact Dt.kbool (by assumption) | exact Dt.ktuple (by assumption) | exact Dt.klist (by assumption) | exact Dt.kstr (by assumption))) | (apply Exists.intro; apply Exists.intro; apply And.intro; focus (first | rfl | assumption | exact upd_same | exact SqL.of (by (first | assumption | exact upd_same | (rw [upd_ne (by first | assumption | exact Ne.symm (by assumption))]; first | assumption | exact upd_same | (rw [upd_ne (by first | assumption | exact Ne.symm (by assumption))]; first | assumption | exact upd_same)))) | exact SqT.of (by (first | assumption | exact upd_same | (rw [upd_ne (by first | assumption | exact Ne.symm (by assumption))]; first | assumption | exact upd_same | (rw [upd_ne (by first | assumption | exact Ne.symm (by assumption))]; first | assumption | exact upd_same)))) | exact Or.inl (SqL.of (by (first | assumption | exact upd_same | (rw [upd_ne (by first | assumption | exact Ne.symm (by assumption))]; first | assumption | exact upd_same | (rw [upd_ne (by first | assumption | exact Ne.symm (by assumption))]; first | assumption | exact upd_same))))) | exact Or.inr (SqT.of (by (first | assumption | exact upd_same | (rw [upd_ne (by first | assumption | exact Ne.symm (by assumption))]; first | assumption | exact upd_same | (rw [upd_ne (by first | assumption | exact Ne.symm (by assumption))]; first | assumption | exact upd_same))))) | exact Or.inl ⟨rfl, _, SqL.of (by (first | assumption | exact upd_same | (rw [upd_ne (by first | assumption | exact Ne.symm (by assumption))]; first | assumption | exact upd_same | (rw [upd_ne (by first | assumption | exact Ne.symm (by assumption))]; first | assumption | exact upd_same))))⟩ | (first | assumption | exact upd_same | (rw [upd_ne (by first | assumption | exact Ne.symm (by assumption))]; first | assumption | exact upd_same | (rw [upd_ne (by first | assumption | exact Ne.symm (by assumption))]; first | assumption | exact upd_same))) | decide | exact Nat.le_of_ble_eq_true rfl | omega | (show ∃ xs, SqL _ _ _ xs; exact ⟨_, SqL.of (by (first | assumption | exact upd_same | (rw [upd_ne (by first | assumption | exact Ne.symm (by assumption))]; first | assumption | exact upd_same | (rw [upd_ne (by first | assumption | exact Ne.symm (by assumption))]; first | assumption | exact upd_same))))⟩) | (show ∃ xs, SqT _ _ _ xs; exact ⟨_, SqT.of (by (first | assumption | exact upd_same | (rw [upd_ne (by first | assumption | exact Ne.symm (by assumption))]; first | assumption | exact upd_same | (rw [upd_ne (by first | assumption | exact Ne.symm (by assumption))]; first | assumption | exact upd_same))))⟩) | exact DGet.k (k := Sum.inl _) (by (first | assumption | exact upd_same | (rw [upd_ne (by first | assumption | exact Ne.symm (by assumption))]; first | assumption | exact upd_same | (rw [upd_ne (by first | assumption | exact Ne.symm (by assumption))]; first | assumption | exact upd_same)))) | (show V.int _ = kV (Sum.inl _); rfl) | (show ∃ z, V.str _ = V.str z; exact ⟨_, rfl⟩) | exact Or.inl ⟨by (first | decide | omega), by (first | decide | omega)⟩ | exact Or.inr ⟨by (first | decide | omega), by (first | decide | omega)⟩ | exact ⟨by (first | decide | omega), by (first | decide | omega)⟩ | exact ⟨by decide, by decide, by decide⟩ | exact L2.ClsV.ty _ | exact Dt.ty (by assumption) | exact Dt.kint (by assumption) | exact Dt.kbool (by assumption) | exact Dt.ktuple (by assumption) | exact Dt.klist (by assumption) | exact Dt.kstr (by assumption))) | (apply Exists.intro; apply Exists.intro; apply Exists.intro; apply And.intro; focus (first | rfl | assumption | exact upd_same | exact SqL.of (by (first | assumption | exact upd_same | (rw [upd_ne (by first | assumption | exact Ne.symm (by assumption))]; first | assumption | exact upd_same | (rw [upd_ne (by first | assumption | exact Ne.symm (by assumption))]; first | assumption | exact upd_same)))) | exact SqT.of (by (first | assumption | exact upd_same | (rw [upd_ne (by first | assumption | exact Ne.symm (by assumption))]; first | assumption | exact upd_same | (rw [upd_ne (by first | assumption | exact Ne.symm (by assumption))]; first | assumption | exact upd_same)))) | exact Or.inl (SqL.of (by (first | assumption | exact upd_same | (rw [upd_ne (by first | assumption | exact Ne.symm (by assumption))]; first | assumption | exact upd_same | (rw [upd_ne (by first | assumption | exact Ne.symm (by assumption))]; first | assumption | exact upd_same))))) | exact Or.inr (SqT.of (by (first | assumption | exact upd_same | (rw [upd_ne (by first | assumption | exact Ne.symm (by assumption))]; first | assumption | exact upd_same | (rw [upd_ne (by first | assumption | exact Ne.symm (by assumption))]; first | assumption | exact upd_same))))) | exact Or.inl ⟨rfl, _, SqL.of (by (first | assumption | exact upd_same | (rw [upd_ne (by first | assumption | exact Ne.symm (by assumption))]; first | assumption | exact upd_same | (rw [upd_ne (by first | assumption | exact Ne.symm (by assumption))]; first | assumption | exact upd_same))))⟩ | (first | assumption | exact upd_same | (rw [upd_ne (by first | assumption | exact Ne.symm (by assumption))]; first | assumption | exact upd_same | (rw [upd_ne (by first | assumption | exact Ne.symm (by assumption))]; first | assumption | exact upd_same))) | decide | exact Nat.le_of_ble_eq_true rfl | omega | (show ∃ xs, SqL _ _ _ xs; exact ⟨_, SqL.of (by (first | assumption | exact upd_same | (rw [upd_ne (by first | assumption | exact Ne.symm (by assumption))]; first | assumption | exact upd_same | (rw [upd_ne (by first | assumption | exact Ne.symm (by assumption))]; first | assumption | exact upd_same))))⟩) | (show ∃ xs, SqT _ _ _ xs; exact ⟨_, SqT.of (by (first | assumption | exact upd_same | (rw [upd_ne (by first | assumption | exact Ne.symm (by assumption))]; first | assumption | exact upd_same | (rw [upd_ne (by first | assumption | exact Ne.symm (by assumption))]; first | assumption | exact upd_same))))⟩) | exact DGet.k (k := Sum.inl _) (by (first | assumption | exact upd_same | (rw [upd_ne (by first | assumption | exact Ne.symm (by assumption))]; first | assumption | exact upd_same | (rw [upd_ne (by first | assumption | exact Ne.symm (by assumption))]; first | assumption | exact upd_same)))) | (show V.int _ = kV (Sum.inl _); rfl) | (show ∃ z, V.str _ = V.str z; exact ⟨_, rfl⟩) | exact Or.inl ⟨by (first | decide | omega), by (first | decide | omega)⟩ | exact Or.inr ⟨by (first | decide | omega), by (first | decide | omega)⟩ | exact ⟨by (first | decide | omega), by (first | decide | omega)⟩ | exact ⟨by decide, by decide, by decide⟩ | exact L2.ClsV.ty _ | exact Dt.ty (by assumption) | exact Dt.kint (by assumption) | exact Dt.kbool (by assumption) | exact Dt.ktuple (by assumption) | exact Dt.klist (by assumption) | exact Dt.kstr (by assumption))) | (apply Exists.intro; apply Exists.intro; apply Exists.intro; apply Exists.intro; apply And.intro; focus (first | rfl | assumption | exact upd_same | exact SqL.of (by (first | assumption | exact upd_same | (rw [upd_ne (by first | assumption | exact Ne.symm (by assumption))]; first | assumption | exact upd_same | (rw [upd_ne (by first | assumption | exact Ne.symm (by assumption))]; first | assumption | exact upd_same)))) | exact SqT.of (by (first | assumption | exact upd_same | (rw [upd_ne (by first | assumption | exact Ne.symm (by assumption))]; first | assumption | exact upd_same | (rw [upd_ne (by first | assumption | exact Ne.symm (by assumption))]; first | assumption | exact upd_same)))) | exact Or.inl (SqL.of (by (first | assumption | exact upd_same | (rw [upd_ne (by first | assumption | exact Ne.symm (by assumption))]; first | assumption | exact upd_same | (rw [upd_ne (by first | assumption | exact Ne.symm (by assumption))]; first | assumption | exact upd_same))))) | exact Or.inr (SqT.of (by (first | assumption | exact upd_same | (rw [upd_ne (by first | assumption | exact Ne.symm (by assumption))]; first | assumption | exact upd_same | (rw [upd_ne (by first | assumption | exact Ne.symm (by assumption))]; first | assumption | exact upd_same))))) | exact Or.inl ⟨rfl, _, SqL.of (by (first | assumption | exact upd_same | (rw [upd_ne (by first | assumption | exact Ne.symm (by assumption))]; first | assumption | exact upd_same | (rw [upd_ne (by first | assumption | exact Ne.symm (by assumption))]; first | assumption | exact upd_same))))⟩ | (first | assumption | exact upd_same | (rw [upd_ne (by first | assumption | exact Ne.symm (by assumption))]; first | assumption | exact upd_same | (rw [upd_ne (by first | assumption | exact Ne.symm (by assumption))]; first | assumption | exact upd_same))) | decide | exact Nat.le_of_ble_eq_true rfl | omega | (show ∃ xs, SqL _ _ _ xs; exact ⟨_, SqL.of (by (first | assumption | exact upd_same | (rw [upd_ne (by first | assumption | exact Ne.symm (by assumption))]; first | assumption | exact upd_same | (rw [upd_ne (by first | assumption | exact Ne.symm (by assumption))]; first | assumption | exact upd_same))))⟩) | (show ∃ xs, SqT _ _ _ xs; exact ⟨_, SqT.of (by (first | assumption | exact upd_same | (rw [upd_ne (by first | assumption | exact Ne.symm (by assumption))]; first | assumption | exact upd_same | (rw [upd_ne (by first | assumption | exact Ne.symm (by assumption))]; first | assumption | exact upd_same))))⟩) | exact DGet.k (k := Sum.inl _) (by (first | assumption | exact upd_same | (rw [upd_ne (by first | assumption | exact Ne.symm (by assumption))]; first | assumption | exact upd_same | (rw [upd_ne (by first | assumption | exact Ne.symm (by assumption))]; first | assumption | exact upd_same)))) | (show V.int _ = kV (Sum.inl _); rfl) | (show ∃ z, V.str _ = V.str z; exact ⟨_, rfl⟩) | exact Or.inl ⟨by (first | decide | omega), by (first | decide | omega)⟩ | exact Or.inr ⟨by (first | decide | omega), by (first | decide | omega)⟩ | exact ⟨by (first | decide | omega), by (first | decide | omega)⟩ | exact ⟨by decide, by decide, by decide⟩ | exact L2.ClsV.ty _ | exact Dt.ty (by assumption) | exact Dt.kint (by assumption) | exact Dt.kbool (by assumption) | exact Dt.ktuple (by assumption) | exact Dt.klist (by assumption) | exact Dt.kstr (by assumption))) | (apply Exists.intro; apply Exists.intro; apply Exists.intro; apply Exists.intro; apply Exists.intro; apply And.intro; focus (first | rfl | assumption | exact upd_same | exact SqL.of (by (first | assumption | exact upd_same | (rw [upd_ne (by first | assumption | exact Ne.symm (by assumption))]; first | assumption | exact upd_same | (rw [upd_ne (by first | assumption | exact Ne.symm (by assumption))]; first | assumption | exact upd_same)))) | exact SqT.of (by (first | assumption | exact upd_same | (rw [upd_ne (by first | assumption | exact Ne.symm (by assumption))]; first | assumption | exact upd_same | (rw [upd_ne (by first | assumption | exact Ne.symm (by assumption))]; first | assumption | exact upd_same)))) | exact Or.inl (SqL.of (by (first | assumption | exact upd_same | (rw [upd_ne (by first | assumption | exact Ne.symm (by assumption))]; first | assumption | exact upd_same | (rw [upd_ne (by first | assumption | exact Ne.symm (by assumption))]; first | assumption | exact upd_same))))) | exact Or.inr (SqT.of (by (first | assumption | exact upd_same | (rw [upd_ne (by first | assumption | exact Ne.symm (by assumption))]; first | assumption | exact upd_same | (rw [upd_ne (by first | assumption | exact Ne.symm (by assumption))]; first | assumption | exact upd_same))))) | exact Or.inl ⟨rfl, _, SqL.of (by (first | assumption | exact upd_same | (rw [upd_ne (by first | assumption | exact Ne.symm (by assumption))]; first | assumption | exact upd_same | (rw [upd_ne (by first | assumption | exact Ne.symm (by assumption))]; first | assumption | exact upd_same))))⟩ | (first | assumption | exact upd_same | (rw [upd_ne (by first | assumption | exact Ne.symm (by assumption))]; first | assumption | exact upd_same | (rw [upd_ne (by first | assumption | exact Ne.symm (by assumption))]; first | assumption | exact upd_same))) | decide | exact Nat.le_of_ble_eq_true rfl | omega | (show ∃ xs, SqL _ _ _ xs; exact ⟨_, SqL.of (by (first | assumption | exact upd_same | (rw [upd_ne (by first | assumption | exact Ne.symm (by assumption))]; first | assumption | exact upd_same | (rw [upd_ne (by first | assumption | exact Ne.symm (by assumption))]; first | assumption | exact upd_same))))⟩) | (show ∃ xs, SqT _ _ _ xs; exact ⟨_, SqT.of (by (first | assumption | exact upd_same | (rw [upd_ne (by first | assumption | exact Ne.symm (by assumption))]; first | assumption | exact upd_same | (rw [upd_ne (by first | assumption | exact Ne.symm (by assumption))]; first | assumption | exact upd_same))))⟩) | exact DGet.k (k := Sum.inl _) (by (first | assumption | exact upd_same | (rw [upd_ne (by first | assumption | exact Ne.symm (by assumption))]; first | assumption | exact upd_same | (rw [upd_ne (by first | assumption | exact Ne.symm (by assumption))]; first | assumption | exact upd_same)))) | (show V.int _ = kV (Sum.inl _); rfl) | (show ∃ z, V.str _ = V.str z; exact ⟨_, rfl⟩) | exact Or.inl ⟨by (first | decide | omega), by (first | decide | omega)⟩ | exact Or.inr ⟨by (first | decide | omega), by (first | decide | omega)⟩ | exact ⟨by (first | decide | omega), by (first | decide | omega)⟩ | exact ⟨by decide, by decide, by decide⟩ | exact L2.ClsV.ty _ | exact Dt.ty (by assumption) | exact Dt.kint (by assumption) | exact Dt.kbool (by assumption) | exact Dt.ktuple (by assumption) | exact Dt.klist (by assumption) | exact Dt.kstr (by assumption))) | (apply Exists.intro; apply Exists.intro; apply Exists.intro; apply Exists.intro; apply Exists.intro; apply Exists.intro; apply And.intro; focus (first | rfl | assumption | exact upd_same | exact SqL.of (by (first | assumption | exact upd_same | (rw [upd_ne (by first | assumption | exact Ne.symm (by assumption))]; first | assumption | exact upd_same | (rw [upd_ne (by first | assumption | exact Ne.symm (by assumption))]; first | assumption | exact upd_same)))) | exact SqT.of (by (first | assumption | exact upd_same | (rw [upd_ne (by first | assumption | exact Ne.symm (by assumption))]; first | assumption | exact upd_same | (rw [upd_ne (by first | assumption | exact Ne.symm (by assumption))]; first | assumption | exact upd_same)))) | exact Or.inl (SqL.of (by (first | assumption | exact upd_same | (rw [upd_ne (by first | assumption | exact Ne.symm (by assumption))]; first | assumption | exact upd_same | (rw [upd_ne (by first | assumption | exact Ne.symm (by assumption))]; first | assumption | exact upd_same))))) | exact Or.inr (SqT.of (by (first | assumption | exact upd_same | (rw [upd_ne (by first | assumption | exact Ne.symm (by assumption))]; first | assumption | exact upd_same | (rw [upd_ne (by first | assumption | exact Ne.symm (by assumption))]; first | assumption | exact upd_same))))) | exact Or.inl ⟨rfl, _, SqL.of (by (first | assumption | exact upd_same | (rw [upd_ne (by first | assumption | exact Ne.symm (by assumption))]; first | assumption | exact upd_same | (rw [upd_ne (by first | assumption | exact Ne.symm (by assumption))]; first | assumption | exact upd_same))))⟩ | (first | assumption | exact upd_same | (rw [upd_ne (by first | assumption | exact Ne.symm (by assumption))]; first | assumption | exact upd_same | (rw [upd_ne (by first | assumption | exact Ne.symm (by assumption))]; first | assumption | exact upd_same))) | decide | exact Nat.le_of_ble_eq_true rfl | omega | (show ∃ xs, SqL _ _ _ xs; exact ⟨_, SqL.of (by (first | assumption | exact upd_same | (rw [upd_ne (by first | assumption | exact Ne.symm (by assumption))]; first | assumption | exact upd_same | (rw [upd_ne (by first | assumption | exact Ne.symm (by assumption))]; first | assumption | exact upd_same))))⟩) | (show ∃ xs, SqT _ _ _ xs; exact ⟨_, SqT.of (by (first | assumption | exact upd_same | (rw [upd_ne (by first | assumption | exact Ne.symm (by assumption))]; first | assumption | exact upd_same | (rw [upd_ne (by first | assumption | exact Ne.symm (by assumption))]; first | assumption | exact upd_same))))⟩) | exact DGet.k (k := Sum.inl _) (by (first | assumption | exact upd_same | (rw [upd_ne (by first | assumption | exact Ne.symm (by assumption))]; first | assumption | exact upd_same | (rw [upd_ne (by first | assumption | exact Ne.symm (by assumption))]; first | assumption | exact upd_same)))) | (show V.int _ = kV (Sum.inl _); rfl) | (show ∃ z, V.str _ = V.str z; exact ⟨_, rfl⟩) | exact Or.inl ⟨by (first | decide | omega), by (first | decide | omega)⟩ | exact Or.inr ⟨by (first | decide | omega), by (first | decide | omega)⟩ | exact ⟨by (first | decide | omega), by (first | decide | omega)⟩ | exact ⟨by decide, by decide, by decide⟩ | exact L2.ClsV.ty _ | exact Dt.ty (by assumption) | exact Dt.kint (by assumption) | exact Dt.kbool (by assumption) | exact Dt.ktuple (by assumption) | exact Dt.klist (by assumption) | exact Dt.kstr (by assumption))) | (apply Exists.intro; apply Exists.intro; apply Exists.intro; apply Exists.intro; apply Exists.intro; apply Exists.intro; apply Exists.intro; apply And.intro; focus (first | rfl | assumption | exact upd_same | exact SqL.of (by (first | assumption | exact upd_same | (rw [upd_ne (by first | assumption | exact Ne.symm (by assumption))]; first | assumption | exact upd_same | (rw [upd_ne (by first | assumption | exact Ne.symm (by assumption))]; first | assumption | exact upd_same)))) | exact SqT.of (by (first | assumption | exact upd_same | (rw [upd_ne (by first | assumption | exact Ne.symm (by assumption))]; first | assumption | exact upd_same | (rw [upd_ne (by first | assumption | exact Ne.symm (by assumption))]; first | assumption | exact upd_same)))) | exact Or.inl (SqL.of (by (first | assumption | exact upd_same | (rw [upd_ne (by first | assumption | exact Ne.symm (by assumption))]; first | assumption | exact upd_same | (rw [upd_ne (by first | assumption | exact Ne.symm (by assumption))]; first | assumption | exact upd_same))))) | exact Or.inr (SqT.of (by (first | assumption | exact upd_same | (rw [upd_ne (by first | assumption | exact Ne.symm (by assumption))]; first | assumption | exact upd_same | (rw [upd_ne (by first | assumption | exact Ne.symm (by assumption))]; first | assumption | exact upd_same))))) | exact Or.inl ⟨rfl, _, SqL.of (by (first | assumption | exact upd_same | (rw [upd_ne (by first | assumption | exact Ne.symm (by assumption))]; first | assumption | exact upd_same | (rw [upd_ne (by first | assumption | exact Ne.symm (by assumption))]; first | assumption | exact upd_same))))⟩ | (first | assumption | exact upd_same | (rw [upd_ne (by first | assumption | exact Ne.symm (by assumption))]; first | assumption | exact upd_same | (rw [upd_ne (by first | assumption | exact Ne.symm (by assumption))]; first | assumption | exact upd_same))) | decide | exact Nat.le_of_ble_eq_true rfl | omega | (show ∃ xs, SqL _ _ _ xs; exact ⟨_, SqL.of (by (first | assumption | exact upd_same | (rw [upd_ne (by first | assumption | exact Ne.symm (by assumption))]; first | assumption | exact upd_same | (rw [upd_ne (by first | assumption | exact Ne.symm (by assumption))]; first | assumption | exact upd_same))))⟩) | (show ∃ xs, SqT _ _ _ xs; exact ⟨_, SqT.of (by (first | assumption | exact upd_same | (rw [upd_ne (by first | assumption | exact Ne.symm (by assumption))]; first | assumption | exact upd_same | (rw [upd_ne (by first | assumption | exact Ne.symm (by assumption))]; first | assumption | exact upd_same))))⟩) | exact DGet.k (k := Sum.inl _) (by (first | assumption | exact upd_same | (rw [upd_ne (by first | assumption | exact Ne.symm (by assumption))]; first | assumption | exact upd_same | (rw [upd_ne (by first | assumption | exact Ne.symm (by assumption))]; first | assumption | exact upd_same)))) | (show V.int _ = kV (Sum.inl _); rfl) | (show ∃ z, V.str _ = V.str z; exact ⟨_, rfl⟩) | exact Or.inl ⟨by (first | decide | omega), by (first | decide | omega)⟩ | exact Or.inr ⟨by (first | decide | omega), by (first | decide | omega)⟩ | exact ⟨by (first | decide | omega), by (first | decide | omega)⟩ | exact ⟨by decide, by decide, by decide⟩ | exact L2.ClsV.ty _ | exact Dt.ty (by assumption) | exact Dt.kint (by assumption) | exact Dt.kbool (by assumption) | exact Dt.ktuple (by assumption) | exact Dt.klist (by assumption) | exact Dt.kstr (by assumption))) | (apply Exists.intro; apply Exists.intro; apply Exists.intro; apply Exists.intro; apply Exists.intro; apply Exists.intro; apply Exists.intro; apply Exists.intro; apply And.intro; focus (first | rfl | assumption | exact upd_same | exact SqL.of (by (first | assumption | exact upd_same | (rw [upd_ne (by first | assumption | exact Ne.symm (by assumption))]; first | assumption | exact upd_same | (rw [upd_ne (by first | assumption | exact Ne.symm (by assumption))]; first | assumption | exact upd_same)))) | exact SqT.of (by (first | assumption | exact upd_same | (rw [upd_ne (by first | assumption | exact Ne.symm (by assumption))]; first | assumption | exact upd_same | (rw [upd_ne (by first | assumption | exact Ne.symm (by assumption))]; first | assumption | exact upd_same)))) | exact Or.inl (SqL.of (by (first | assumption | exact upd_same | (rw [upd_ne (by first | assumption | exact Ne.symm (by assumption))]; first | assumption | exact upd_same | (rw [upd_ne (by first | assumption | exact Ne.symm (by assumption))]; first | assumption | exact upd_same))))) | exact Or.inr (SqT.of (by (first | assumption | exact upd_same | (rw [upd_ne (by first | assumption | exact Ne.symm (by assumption))]; first | assumption | exact upd_same | (rw [upd_ne (by first | assumption | exact Ne.symm (by assumption))]; first | assumption | exact upd_same))))) | exact Or.inl ⟨rfl, _, SqL.of (by (first | assumption | exact upd_same | (rw [upd_ne (by first | assumption | exact Ne.symm (by assumption))]; first | assumption | exact upd_same | (rw [upd_ne (by first | assumption | exact Ne.symm (by assumption))]; first | assumption | exact upd_same))))⟩ | (first | assumption | exact upd_same | (rw [upd_ne (by first | assumption | exact Ne.symm (by assumption))]; first | assumption | exact upd_same | (rw [upd_ne (by first | assumption | exact Ne.symm (by assumption))]; first | assumption | exact upd_same))) | decide | exact Nat.le_of_ble_eq_true rfl | omega | (show ∃ xs, SqL _ _ _ xs; exact ⟨_, SqL.of (by (first | assumption | exact upd_same | (rw [upd_ne (by first | assumption | exact Ne.symm (by assumption))]; first | assumption | exact upd_same | (rw [upd_ne (by first | assumption | exact Ne.symm (by assumption))]; first | assumption | exact upd_same))))⟩) | (show ∃ xs, SqT _ _ _ xs; exact ⟨_, SqT.of (by (first | assumption | exact upd_same | (rw [upd_ne (by first | assumption | exact Ne.symm (by assumption))]; first | assumption | exact upd_same | (rw [upd_ne (by first | assumption | exact Ne.symm (by assumption))]; first | assumption | exact upd_same))))⟩) | exact DGet.k (k := Sum.inl _) (by (first | assumption | exact upd_same | (rw [upd_ne (by first | assumption | exact Ne.symm (by assumption))]; first | assumption | exact upd_same | (rw [upd_ne (by first | assumption | exact Ne.symm (by assumption))]; first | assumption | exact upd_same)))) | (show V.int _ = kV (Sum.inl _); rfl) | (show ∃ z, V.str _ = V.str z; exact ⟨_, rfl⟩) | exact Or.inl ⟨by (first | decide | omega), by (first | decide | omega)⟩ | exact Or.inr ⟨by (first | decide | omega), by (first | decide | omega)⟩ | exact ⟨by (first | decide | omega), by (first | decide | omega)⟩ | exact ⟨by decide, by decide, by decide⟩ | exact L2.ClsV.ty _ | exact Dt.ty (by assumption) | exact Dt.kint (by assumption) | exact Dt.kbool (by assumption) | exact Dt.ktuple (by assumption) | exact Dt.klist (by assumption) | exact Dt.kstr (by assumption))) | (apply Exists.intro; apply Exists.intro; apply Exists.intro; apply Exists.intro; apply Exists.intro; apply Exists.intro; apply Exists.intro; apply Exists.intro; apply Exists.intro; apply And.intro; focus (first | rfl | assumption | exact upd_same | exact SqL.of (by (first | assumption | exact upd_same | (rw [upd_ne (by first | assumption | exact Ne.symm (by assumption))]; first | assumption | exact upd_same | (rw [upd_ne (by first | assumption | exact Ne.symm (by assumption))]; first | assumption | exact upd_same)))) | exact SqT.of (by (first | assumption | exact upd_same | (rw [upd_ne (by first | assumption | exact Ne.symm (by assumption))]; first | assumption | exact upd_same | (rw [upd_ne (by first | assumption | exact Ne.symm (by assumption))]; first | assumption | exact upd_same)))) | exact Or.inl (SqL.of (by (first | assumption | exact upd_same | (rw [upd_ne (by first | assumption | exact Ne.symm (by assumption))]; first | assumption | exact upd_same | (rw [upd_ne (by first | assumption | exact Ne.symm (by assumption))]; first | assumption | exact upd_same))))) | exact Or.inr (SqT.of (by (first | assumption | exact upd_same | (rw [upd_ne (by first | assumption | exact Ne.symm (by assumption))]; first | assumption | exact upd_same | (rw [upd_ne (by first | assumption | exact Ne.symm (by assumption))]; first | assumption | exact upd_same))))) | exact Or.inl ⟨rfl, _, SqL.of (by (first | assumption | exact upd_same | (rw [upd_ne (by first | assumption | exact Ne.symm (by assumption))]; first | assumption | exact upd_same | (rw [upd_ne (by first | assumption | exact Ne.symm (by assumption))]; first | assumption | exact upd_same))))⟩ | (first | assumption | exact upd_same | (rw [upd_ne (by first | assumption | exact Ne.symm (by assumption))]; first | assumption | exact upd_same | (rw [upd_ne (by first | assumption | exact Ne.symm (by assumption))]; first | assumption | exact upd_same))) | decide | exact Nat.le_of_ble_eq_true rfl | omega | (show ∃ xs, SqL _ _ _ xs; exact ⟨_, SqL.of (by (first | assumption | exact upd_same | (rw [upd_ne (by first | assumption | exact Ne.symm (by assumption))]; first | assumption | exact upd_same | (rw [upd_ne (by first | assumption | exact Ne.symm (by assumption))]; first | assumption | exact upd_same))))⟩) | (show ∃ xs, SqT _ _ _ xs; exact ⟨_, SqT.of (by (first | assumption | exact upd_same | (rw [upd_ne (by first | assumption | exact Ne.symm (by assumption))]; first | assumption | exact upd_same | (rw [upd_ne (by first | assumption | exact Ne.symm (by assumption))]; first | assumption | exact upd_same))))⟩) | exact DGet.k (k := Sum.inl _) (by (first | assumption | exact upd_same | (rw [upd_ne (by first | assumption | exact Ne.symm (by assumption))]; first | assumption | exact upd_same | (rw [upd_ne (by first | assumption | exact Ne.symm (by assumption))]; first | assumption | exact upd_same)))) | (show V.int _ = kV (Sum.inl _); rfl) | (show ∃ z, V.str _ = V.str z; exact ⟨_, rfl⟩) | exact Or.inl ⟨by (first | decide | omega), by (first | decide | omega)⟩ | exact Or.inr ⟨by (first | decide | omega), by (first | decide | omega)⟩ | exact ⟨by (first | decide | omega), by (first | decide | omega)⟩ | exact ⟨by decide, by decide, by decide⟩ | exact L2.ClsV.ty _ | exact Dt.ty (by assumption) | exact Dt.kint (by assumption) | exact Dt.kbool (by assumption) | exact Dt.ktuple (by assumption) | exact Dt.klist (by assumption) | exact Dt.kstr (by assumption))) | refine Or.inl ⟨_, rfl, ?_⟩ | refine Or.inr ⟨_, rfl, ?_⟩ | refine Or.inr ⟨SqT.of (by (first | assumption | exact upd_same | (rw [upd_ne (by first | assumption | exact Ne.symm (by assumption))]; first | assumption | exact upd_same | (rw [upd_ne (by first | assumption | exact Ne.symm (by assumption))]; first | assumption | exact upd_same)))), SqT.of (by (first | assumption | exact upd_same | (rw [upd_ne (by first | assumption | exact Ne.symm (by assumption))]; first | assumption | exact upd_same | (rw [upd_ne (by first | assumption | exact Ne.symm (by assumption))]; first | assumption | exact upd_same)))), ?_⟩ | refine Or.inl ⟨SqL.of (by (first | assumption | exact upd_same | (rw [upd_ne (by first | assumption | exact Ne.symm (by assumption))]; first | assumption | exact upd_same | (rw [upd_ne (by first | assumption | exact Ne.symm (by assumption))]; first | assumption | exact upd_same)))), SqL.of (by (first | assumption | exact upd_same | (rw [upd_ne (by first | assumption | exact Ne.symm (by assumption))]; first | assumption | exact upd_same | (rw [upd_ne (by first | assumption | exact Ne.symm (by assumption))]; first | assumption | exact upd_same)))), ?_⟩ | refine Or.inl ⟨SqL.of (by (first | assumption | exact upd_same | (rw [upd_ne (by first | assumption | exact Ne.symm (by assumption))]; first | assumption | exact upd_same | (rw [upd_ne (by first | assumption | exact Ne.symm (by assumption))]; first | assumption | exact upd_same)))), ?_⟩ | refine Or.inr ⟨SqT.of (by (first | assumption | exact upd_same | (rw [upd_ne (by first | assumption | exact Ne.symm (by assumption))]; first | assumption | exact upd_same | (rw [upd_ne (by first | assumption | exact Ne.symm (by assumption))]; first | assumption | exact upd_same)))), ?_⟩ | refine ifT rfl ?_ | refine ifF rfl ?_))
section
variable {P : Program} {w : World} {K : PySem.W.Frag} {mg : Str → Option Value} {base : Heap}
theorem d_law_draw (B : Bi mg) (F : FunAt K mg "_law_draw" s_law_draw) : Has P w K mg base 1 "_law_draw" ["hand", "many"] spTake := by
  refine mk_has F sc_law_draw (fun _ _ _ _ _ _ us hl => match us, hl with | [_, _], _ => rfl) (fun vs H Q E h => ?_) fun f cdv A outer s H vs Q E hr h => ?_
  · obtain ⟨a, l, m, rfl, _⟩ := h
    rfl
  obtain ⟨h, l, m, rfl, ⟨xs, i, b, sd, c, e1, e2, hi0, hi1, hb, hs0, hs1, hx⟩, hm0, hm1, k⟩ := h
  refine ⟨_, (C8.pss_cut (ps_if (PW.pt (pw_and (pt_cmpR op_eq (pe_ix ix_list (pv 0) pe_int (fun _ _ => rfl)) pe_int (nomark _)) (pw_and1 (pt_cmpR op_lt (pe_ix ix_list (pv 0) pe_int (fun _ _ => rfl)) (pe_callB call_len_seq rfl B.len PySem.boot_len (pa_cons (pe_ix ix_list (pv 0) pe_int (fun _ _ => rfl)) pa_nil)) (nomark _)))))
    (pss_cons (ps_set (i := 2) sc_law_draw.nd rfl (Or.inl rfl) (pe_ix ix_list (pe_ix ix_list (pv 0) pe_int (fun _ _ => rfl)) (pe_ix ix_list (pv 0) pe_int (fun _ _ => rfl)) (fun _ _ => rfl)))
    (pss_cons (ps_asg (pe_op op_add (pe_ix ix_list (pv 0) pe_int (fun _ _ => rfl)) pe_int) (pg_sub (pv 0) pe_int set_list))
    (pss_cons (ps_asg (pe_op op_mod (pe_callTy call_int1 rfl B.int (by decide +kernel) (pa_cons (pe_op op_add (pe_op op_add (pe_op op_mul (pe_ix ix_list (pv 0) pe_int (fun _ _ => rfl)) pe_int) (pe_op op_mul (pv 2) pe_int)) pe_int) pa_nil)) pe_int) (pg_sub (pv 0) pe_int set_list))
    (pss_one (ps_if (pt_cmpR op_ge (pv 2) (pe_op op_pow pe_int pe_int) (nomark _))
    (pss_one (ps_asg (pv 2) (pg_sub (pv 0) pe_int set_list)))
    pss_nil)))))
    pss_nil)
    (pss_cons (ps_if (pt_cmpR op_gt (pe_ix ix_list (pv 0) pe_int (fun _ _ => rfl)) pe_int (nomark _))
    (pss_cons (ps_set (i := 3) sc_law_draw.nd rfl (Or.inl rfl) (pe_op op_modN (pe_callTy call_int1 rfl B.int (by decide +kernel) (pa_cons (pe_ix ix_list (pv 0) pe_int (fun _ _ => rfl)) pa_nil)) (pv 1)))
    (pss_cons (ps_asg (pe_op op_fdivN (pe_ix ix_list (pv 0) pe_int (fun _ _ => rfl)) (pv 1)) (pg_sub (pv 0) pe_int set_list))
    (pss_one (ps_ret (pv 3)))))
    pss_nil)
    (pss_cons (ps_asg (pe_op op_add (pe_ix ix_list (pv 0) pe_int (fun _ _ => rfl)) pe_int) (pg_sub (pv 0) pe_int set_list))
    (pss_cons (ps_set (i := 4) sc_law_draw.nd rfl (Or.inl rfl) (pe_op op_mod (pe_callTy call_int1 rfl B.int (by decide +kernel) (pa_cons (pe_op op_mul (pe_callTy call_int1 rfl B.int (by decide +kernel) (pa_cons (pe_op op_add (pe_ix ix_list (pv 0) pe_int (fun _ _ => rfl)) (pe_op op_mul pe_int (pe_ix ix_list (pv 0) pe_int (fun _ _ => rfl)))) pa_nil)) pe_int) pa_nil)) pe_int))
    (pss_cons (ps_set (i := 4) sc_law_draw.nd rfl (Or.inl rfl) (pe_op op_mod (pe_callTy call_int1 rfl B.int (by decide +kernel) (pa_cons (pe_op op_mul (pv 4) (pe_op op_add (pe_op op_fdiv (pv 4) pe_int) pe_int)) pa_nil)) pe_int))
    (pss_cons (ps_set (i := 4) sc_law_draw.nd rfl (Or.inl rfl) (pe_op op_mod (pe_callTy call_int1 rfl B.int (by decide +kernel) (pa_cons (pe_op op_mul (pv 4) (pe_op op_add (pe_op op_fdiv (pv 4) pe_int) pe_int)) pa_nil)) pe_int))
    (pss_one (ps_ret (pe_op op_modN (pe_callTy call_int1 rfl B.int (by decide +kernel) (pa_cons (pe_op op_fdiv (pv 4) pe_int) pa_nil)) (pv 1)))))))))), ?_⟩
  have nlh : l ≠ h := ne_of e2 e1 (by intro z; injection z with z; cases xs <;> simp at z)
  refine ⟨fun σ H' => ∃ (i b sd : Int) (v : Option V), σ = [Option.some (.ref h), Option.some (.int m), v, none, none] ∧ H' h = Option.some (hL l i b sd c) ∧ (∀ a, a ≠ h → H' a = H a) ∧ 0 ≤ i ∧ i ≤ xs.length ∧ 0 ≤ b ∧ 0 ≤ sd ∧ sd < 2147483647, ?_, ?_⟩
  · trivial
    refine ite2 (fun c1 => ?_) (fun c1 => ?_)
    · trivial
      refine ite2 (fun c2 => ?_) (fun c2 => ?_)
      · have c2' := of_decide_eq_true c2
        rw [List.length_map] at c2'
        obtain ⟨v, hv⟩ := atI_map (xs := xs) hi0 c2'
        trivial
        have m0 : 0 ≤ (sd * 69621 + v * 16 + 11) % 2147483629 := Int.emod_nonneg _ (by decide)
        have m1 : (sd * 69621 + v * 16 + 11) % 2147483629 < 2147483629 := Int.emod_lt_of_pos _ (by decide)
        have z : (0 : Int) ≤ 10 ^ (18 : Int).toNat := by decide
        refine ite2 (fun c3 => ?_) (fun c3 => ?_)
        · have c3' := of_decide_eq_true c3
          trivial
          exact ⟨fun a ha => by simp only [upd_ne ha], by omega, by omega, by omega, m0, by omega⟩
        · trivial
          exact ⟨fun a ha => by simp only [upd_ne ha], by omega, by omega, by omega, m0, by omega⟩
      · trivial
        exact ⟨fun a ha => rfl, hi0, hi1, hb, hs0, hs1⟩
    · trivial
      exact ⟨fun a ha => rfl, hi0, hi1, hb, hs0, hs1⟩
  · rintro σ H1 ⟨i, b, sd, v, rfl, g1, gk, hi0, hi1, hb, hs0, hs1⟩
    have gl : H1 l = Option.some (.lst (xs.map V.int)) := (gk l nlh).trans e2
    trivial
    refine ite2 (fun c1 => ?_) (fun c1 => ?_)
    · trivial
      exact k _ _ (fmod_lt' hm0).1 (fmod_lt' hm0).2 ⟨xs, i, _, sd, c, upd_same, by rw [upd_ne nlh]; exact gl, hi0, hi1, fdiv_nn hm0 hb, hs0, hs1, hx⟩ fun a ha => by rw [upd_ne ha]; exact gk a ha
    · trivial
      exact k _ _ (fmod_lt' hm0).1 (fmod_lt' hm0).2 ⟨xs, i, b, _, _, upd_same, by rw [upd_ne nlh]; exact gl, hi0, hi1, hb, hs0, hs1, hx⟩ fun a ha => by rw [upd_ne ha]; exact gk a ha
theorem d_law_hand (B : Bi mg) (F : FunAt K mg "_law_hand" s_law_hand) : Has P w K mg base 1 "_law_hand" ["script"] (spHand K) := by
  refine mk_has F sc_law_hand (fun _ _ _ _ _ _ us hl => match us, hl with | [_], _ => rfl) (fun vs H Q E h => ?_) fun f cdv A outer s H vs Q E hr h => ?_
  · obtain ⟨a, ns, rfl, _⟩ := h
    rfl
  obtain ⟨a, ns, rfl, hS, hl, k⟩ := h
  refine ⟨_, (pss_one (ps_ret (pe_lst (pa_cons (pe_lc (own := [("cell", 1)]) (g := gName 1) (tt := tYes) (te := (tCB rInt1 (tCons (tVar 1) tNil))) rfl sc_law_hand.nd (pi_list (pe_slice sl_list (pv 0) po_none (po_some pe_int))) (blkOk_by (own := [("cell", 1)]) (N := ["script", "cell"]) (sc := defScope s_law_hand) (by decide +kernel)) (fun _ _ _ _ _ => (pg_name (i := 1) sc_law_hand.nd rfl (Or.inl rfl))) (fun _ _ _ _ _ => pts_nil) (fun _ _ _ _ _ => (pe_callTy call_int1 rfl B.int (by decide +kernel) (pa_cons (pv 1) pa_nil)))) (pa_cons pe_int (pa_cons pe_int (pa_cons (pe_op op_add pe_int (pe_callB call_len_seq rfl B.len PySem.boot_len (pa_cons (pe_slice sl_list (pv 0) po_none (po_some pe_int)) pa_nil))) (pa_cons pe_int pa_nil)))))))), ?_⟩
  trivial
  intro p np
  have sp := same_new (o := .lst (cutV (ns.map V.int) none (some 63))) np
  trivial
  intro D nD
  have ec : cutV (ns.map V.int) none (some 63) = (ns.take 63).map V.int := (cut_take 63).trans (List.map_take ..).symm
  rw [ec] at sp nD ⊢
  refine lc_map walk_list ((ns.take 63).map V.int) rfl nD (by simp; omega) (fun i H' _ s => SqL.of (s _ _ upd_same)) (fun i x H3 H4 Pn hi s1 y fin => ?_) fun H3 s1 e1 => ?_
  · obtain ⟨rfl, hx⟩ := y
    obtain ⟨v, hv, rfl⟩ := List.mem_map.mp (List.mem_of_getElem? hx)
    trivial
    exact fin _ _ hx (Same.refl _)
  · have hS' := (sp.trans s1).seq hS
    trivial
    intro p2 n2
    trivial
    intro p3 n3
    have n2' : H p2 = none := (sp.trans s1).free n2
    have h3 : H3 D = some (.lst ((ns.take 63).map V.int)) := e1
    have d2 : D ≠ p2 := ne_of_none h3 n2
    have d3 : D ≠ p3 := ne_of_none (by rw [upd_ne d2]; exact h3) n3
    refine k p3 D _ (?_) (sp.free nD) ((sp.trans s1).trans ((same_new n2).trans (same_new n3))) ⟨ns.take 63, 0, 0, _, 0, upd_same, by rw [upd_ne d3, upd_ne d2]; exact h3, by omega, by omega, by omega, ?_, ?_, ?_⟩
    · exact ((sp.trans s1).trans (same_new n2)).free n3
    · rw [ec]; simp; omega
    · rw [ec]; simp; omega
    · simp; omega
end
end KQ
set_option Elab.async false
set_option maxRecDepth 100000
set_option maxHeartbeats 4000000
namespace KQ
open PySem PySem.Spec PyProof.Rows L2
local macro_rules | `(tactic| trivial) => `(tactic| repeat (first | refine sl_go (by (first | assumption | exact upd_same | (rw [upd_ne (by first | assumption | exact Ne.symm (by assumption))]; first | assumption | exact upd_same | (rw [upd_ne (by first | assumption | exact Ne.symm (by assumption))]; first | assumption | exact upd_same)))) ?_ | (unfold tNoPart; refine sl_go (by (first | assumption | exact upd_same | (rw [upd_ne (by first | assumption | exact Ne.symm (by assumption))]; first | assumption | exact upd_same | (rw [upd_ne (by first | assumption | exact Ne.symm (by assumption))]; first | assumption | exact upd_same)))) ?_) | refine cat_go (by (first | assumption | exact upd_same | (rw [upd_ne (by first | assumption | exact Ne.symm (by assumption))]; first | assumption | exact upd_same | (rw [upd_ne (by first | assumption | exact Ne.symm (by assumption))]; first | assumption | exact upd_same)))) (by (first | assumption | exact upd_same | (rw [upd_ne (by first | assumption | exact Ne.symm (by assumption))]; first | assumption | exact upd_same | (rw [upd_ne (by first | assumption | exact Ne.symm (by assumption))]; first | assumption | exact upd_same)))) ?_ ?_ | (apply And.intro; focus (first | rfl | assumption | exact upd_same | exact SqL.of (by (first | assumption | exact upd_same | (rw [upd_ne (by first | assumption | exact Ne.symm (by assumption))]; first | assumption | exact upd_same | (rw [upd_ne (by first | assumption | exact Ne.symm (by assumption))]; first | assumption | exact upd_same)))) | exact SqT.of (by (first | assumption | exact upd_same | (rw [upd_ne (by first | assumption | exact Ne.symm (by assumption))]; first | assumption | exact upd_same | (rw [upd_ne (by first | assumption | exact Ne.symm (by assumption))]; first | assumption | exact upd_same)))) | exact Or.inl (SqL.of (by (first | assumption | exact upd_same | (rw [upd_ne (by first | assumption | exact Ne.symm (by assumption))]; first | assumption | exact upd_same | (rw [upd_ne (by first | assumption | exact Ne.symm (by assumption))]; first | assumption | exact upd_same))))) | exact Or.inr (SqT.of (by (first | assumption | exact upd_same | (rw [upd_ne (by first | assumption | exact Ne.symm (by assumption))]; first | assumption | exact upd_same | (rw [upd_ne (by first | assumption | exact Ne.symm (by assumption))]; first | assumption | exact upd_same))))) | exact Or.inl ⟨rfl, _, SqL.of (by (first | assumption | exact upd_same | (rw [upd_ne (by first | assumption | exact Ne.symm (by assumption))]; first | assumption | exact upd_same | (rw [upd_ne (by first | assumption | exact Ne.symm (by assumption))]; first | assumption | exact upd_same))))⟩ | (first | assumption | exact upd_same | (rw [upd_ne (by first | assumption | exact Ne.symm (by assumption))]; first | assumption | exact upd_same | (rw [upd_ne (by first | assumption | exact Ne.symm (by assumption))]; first | assumption | exact upd_same))) | decide | exact Nat.le_of_ble_eq_true rfl | omega | (show ∃ xs, SqL _ _ _ xs; exact ⟨_, SqL.of (by (first | assumption | exact upd_same | (rw [upd_ne (by first | assumption | exact Ne.symm (by assumption))]; first | assumption | exact upd_same | (rw [upd_ne (by first | assumption | exact Ne.symm (by assumption))]; first | assumption | exact upd_same))))⟩) | (show ∃ xs, SqT _ _ _ xs; exact ⟨_, SqT.of (by (first | assumption | exact upd_same | (rw [upd_ne (by first | assumption | exact Ne.symm (by assumption))]; first | assumption | exact upd_same | (rw [upd_ne (by first | assumption | exact Ne.symm (by assumption))]; first | assumption | exact upd_same))))⟩) | exact DGet.k (k := Sum.inl _) (by (first | assumption | exact upd_same | (rw [upd_ne (by first | assumption | exact Ne.symm (by assumption))]; first | assumption | exact upd_same | (rw [upd_ne (by first | assumption | exact Ne.symm (by assumption))]; first | assumption | exact upd_same)))) | (show V.int _ = kV (Sum.inl _); rfl) | (show ∃ z, V.str _ = V.str z; exact ⟨_, rfl⟩) | exact Or.inl ⟨by (first | decide | omega), by (first | decide | omega)⟩ | exact Or.inr ⟨by (first | decide | omega), by (first | decide | omega)⟩ | exact ⟨by (first | decide | omega), by (first | decide | omega)⟩ | exact ⟨by decide, by decide, by decide⟩ | exact L2.ClsV.ty _ | exact Dt.ty (by assumption) | exact Dt.kint (by assumption) | exact Dt.kbool (by assumption) | exact Dt.ktuple (by assumption) | exact Dt.klist (by assumption) | exact Dt.kstr (by assumption))) | (apply Exists.intro; apply And.intro; focus (first | rfl | assumption | exact upd_same | exact SqL.of (by (first | assumption | exact upd_same | (rw [upd_ne (by first | assumption | exact Ne.symm (by assumption))]; first | assumption | exact upd_same | (rw [upd_ne (by first | assumption | exact Ne.symm (by assumption))]; first | assumption | exact upd_same)))) | exact SqT.of (by (first | assumption | exact upd_same | (rw [upd_ne (by first | assumption | exact Ne.symm (by assumption))]; first | assumption | exact upd_same | (rw [upd_ne (by first | assumption | exact Ne.symm (by assumption))]; first | assumption | exact upd_same)))) | exact Or.inl (SqL.of (by (first | assumption | exact upd_same | (rw [upd_ne (by first | assumption | exact Ne.symm (by assumption))]; first | assumption | exact upd_same | (rw [upd_ne (by first | assumption | exact Ne.symm (by assumption))]; first | assumption | exact upd_same))))) | exact Or.inr (SqT.of (by (first | assumption | exact upd_same | (rw [upd_ne (by first | assumption | exact Ne.symm (by assumption))]; first | assumption | exact upd_same | (rw [upd_ne (by first | assumption | exact Ne.symm (by assumption))]; first | assumption | exact upd_same))))) | exact Or.inl ⟨rfl, _, SqL.of (by (first | assumption | exact upd_same | (rw [upd_ne (by first | assumption | exact Ne.symm (by assumption))]; first | assumption | exact upd_same | (rw [upd_ne (by first | assumption | exact Ne.symm (by assumption))]; first | assumption | exact upd_same))))⟩ | (first | assumption | exact upd_same | (rw [upd_ne (by first | assumption | exact Ne.symm (by assumption))]; first | assumption | exact upd_same | (rw [upd_ne (by first | assumption | exact Ne.symm (by assumption))]; first | assumption | exact upd_same))) | decide | exact Nat.le_of_ble_eq_true rfl | omega | (show ∃ xs, SqL _ _ _ xs; exact ⟨_, SqL.of (by (first | assumption | exact upd_same | (rw [upd_ne (by first | assumption | exact Ne.symm (by assumption))]; first | assumption | exact upd_same | (rw [upd_ne (by first | assumption | exact Ne.symm (by assumption))]; first | assumption | exact upd_same))))⟩) | (show ∃ xs, SqT _ _ _ xs; exact ⟨_, SqT.of (by (first | assumption | exact upd_same | (rw [upd_ne (by first | assumption | exact Ne.symm (by assumption))]; first | assumption | exact upd_same | (rw [upd_ne (by first | assumption | exact Ne.symm (by assumption))]; first | assumption | exact upd_same))))⟩) | exact DGet.k (k := Sum.inl _) (by (first | assumption | exact upd_same | (rw [upd_ne (by first | assumption | exact Ne.symm (by assumption))]; first | assumption | exact upd_same | (rw [upd_ne (by first | assumption | exact Ne.symm (by assumption))]; first | assumption | exact upd_same)))) | (show V.int _ = kV (Sum.inl _); rfl) | (show ∃ z, V.str _ = V.str z; exact ⟨_, rfl⟩) | exact Or.inl ⟨by (first | decide | omega), by (first | decide | omega)⟩ | exact Or.inr ⟨by (first | decide | omega), by (first | decide | omega)⟩ | exact ⟨by (first | decide | omega), by (first | decide | omega)⟩ | exact ⟨by decide, by decide, by decide⟩ | exact L2.ClsV.ty _ | exact Dt.ty (by assumption) | exact Dt.kint (by assumption) | exact Dt.kbool (by assumption) | exact Dt.ktuple (by assumption) | exact Dt.klist (by assumption) | exact Dt.kstr (by assumption))) | (apply Exists.intro; apply Exists.intro; apply And.intro; focus (first | rfl | assumption | exact upd_same | exact SqL.of (by (first | assumption | exact upd_same | (rw [upd_ne (by first | assumption | exact Ne.symm (by assumption))]; first | assumption | exact upd_same | (rw [upd_ne (by first | assumption | exact Ne.symm (by assumption))]; first | assumption | exact upd_same)))) | exact SqT.of (by (first | assumption | exact upd_same | (rw [upd_ne (by first | assumption | exact Ne.symm (by assumption))]; first | assumption | exact upd_same | (rw [upd_ne (by first | assumption | exact Ne.symm (by assumption))]; first | assumption | exact upd_same)))) | exact Or.inl (SqL.of (by (first | assumption | exact upd_same | (rw [upd_ne (by first | assumption | exact Ne.symm (by assumption))]; first | assumption | exact upd_same | (rw [upd_ne (by first | assumption | exact Ne.symm (by assumption))]; first | assumption | exact upd_same))))) | exact Or.inr (SqT.of (by (first | assumption | exact upd_same | (rw [upd_ne (by first | assumption | exact Ne.symm (by assumption))]; first | assumption | exact upd_same | (rw [upd_ne (by first | assumption | exact Ne.symm (by assumption))]; first | assumption | exact upd_same))))) | exact Or.inl ⟨rfl, _, SqL.of (by (first | assumption | exact upd_same | (rw [upd_ne (by first | assumption | exact Ne.symm (by assumption))]; first | assumption | exact upd_same | (rw [upd_ne (by first | assumption | exact Ne.symm (by assumption))]; first | assumption | exact upd_same))))⟩ | (first | assumption | exact upd_same | (rw [upd_ne (by first | assumption | exact Ne.symm (by assumption))]; first | assumption | exact upd_same | (rw [upd_ne (by first | assumption | exact Ne.symm (by assumption))]; first | assumption | exact upd_same))) | decide | exact Nat.le_of_ble_eq_true rfl | omega | (show ∃ xs, SqL _ _ _ xs; exact ⟨_, SqL.of (by (first | assumption | exact upd_same | (rw [upd_ne (by first | assumption | exact Ne.symm (by assumption))]; first | assumption | exact upd_same | (rw [upd_ne (by first | assumption | exact Ne.symm (by assumption))]; first | assumption | exact upd_same))))⟩) | (show ∃ xs, SqT _ _ _ xs; exact ⟨_, SqT.of (by (first | assumption | exact upd_same | (rw [upd_ne (by first | assumption | exact Ne.symm (by assumption))]; first | assumption | exact upd_same | (rw [upd_ne (by first | assumption | exact Ne.symm (by assumption))]; first | assumption | exact upd_same))))⟩) | exact DGet.k (k := Sum.inl _) (by (first | assumption | exact upd_same | (rw [upd_ne (by first | assumption | exact Ne.symm (by assumption))]; first | assumption | exact upd_same | (rw [upd_ne (by first | assumption | exact Ne.symm (by assumption))]; first | assumption | exact upd_same)))) | (show V.int _ = kV (Sum.inl _); rfl) | (show ∃ z, V.str _ = V.str z; exact ⟨_, rfl⟩) | exact Or.inl ⟨by (first | decide | omega), by (first | decide | omega)⟩ | exact Or.inr ⟨by (first | decide | omega), by (first | decide | omega)⟩ | exact ⟨by (first | decide | omega), by (first | decide | omega)⟩ | exact ⟨by decide, by decide, by decide⟩ | exact L2.ClsV.ty _ | exact Dt.ty (by assumption) | exact Dt.kint (by assumption) | exact Dt.kbool (by assumption) | exact Dt.ktuple (by assumption) | exact Dt.klist (by assumption) | exact Dt.kstr (by assumption))) | (apply Exists.intro; apply Exists.intro; apply Exists.intro; apply And.intro; focus (first | rfl | assumption | exact upd_same | exact SqL.of (by (first | assumption | exact upd_same | (rw [upd_ne (by first | assumption | exact Ne.symm (by assumption))]; first | assumption | exact upd_same | (rw [upd_ne (by first | assumption | exact Ne.symm (by assumption))]; first | assumption | exact upd_same)))) | exact SqT.of (by (first | assumption | exact upd_same | (rw [upd_ne (by first | assumption | exact Ne.symm (by assumption))]; first | assumption | exact upd_same | (rw [upd_ne (by first | assumption | exact Ne.symm (by assumption))]; first | assumption | exact upd_same)))) | exact Or.inl (SqL.of (by (first | assumption | exact upd_same | (rw [upd_ne (by first | assumption | exact Ne.symm (by assumption))]; first | assumption | exact upd_same | (rw [upd_ne (by first | assumption | exact Ne.symm (by assumption))]; first | assumption | exact upd_same))))) | exact Or.inr (SqT.of (by (first | assumption | exact upd_same | (rw [upd_ne (by first | assumption | exact Ne.symm (by assumption))]; first | assumption | exact upd_same | (rw [upd_ne (by first | assumption | exact Ne.symm (by assumption))]; first | assumption | exact upd_same))))) | exact Or.inl ⟨rfl, _, SqL.of (by (first | assumption | exact upd_same | (rw [upd_ne (by first | assumption | exact Ne.symm (by assumption))]; first | assumption | exact upd_same | (rw [upd_ne (by first | assumption | exact Ne.symm (by assumption))]; first | assumption | exact upd_same))))⟩ | (first | assumption | exact upd_same | (rw [upd_ne (by first | assumption | exact Ne.symm (by assumption))]; first | assumption | exact upd_same | (rw [upd_ne (by first | assumption | exact Ne.symm (by assumption))]; first | assumption | exact upd_same))) | decide | exact Nat.le_of_ble_eq_true rfl | omega | (show ∃ xs, SqL _ _ _ xs; exact ⟨_, SqL.of (by (first | assumption | exact upd_same | (rw [upd_ne (by first | assumption | exact Ne.symm (by assumption))]; first | assumption | exact upd_same | (rw [upd_ne (by first | assumption | exact Ne.symm (by assumption))]; first | assumption | exact upd_same))))⟩) | (show ∃ xs, SqT _ _ _ xs; exact ⟨_, SqT.of (by (first | assumption | exact upd_same | (rw [upd_ne (by first | assumption | exact Ne.symm (by assumption))]; first | assumption | exact upd_same | (rw [upd_ne (by first | assumption | exact Ne.symm (by assumption))]; first | assumption | exact upd_same))))⟩) | exact DGet.k (k := Sum.inl _) (by (first | assumption | exact upd_same | (rw [upd_ne (by first | assumption | exact Ne.symm (by assumption))]; first | assumption | exact upd_same | (rw [upd_ne (by first | assumption | exact Ne.symm (by assumption))]; first | assumption | exact upd_same)))) | (show V.int _ = kV (Sum.inl _); rfl) | (show ∃ z, V.str _ = V.str z; exact ⟨_, rfl⟩) | exact Or.inl ⟨by (first | decide | omega), by (first | decide | omega)⟩ | exact Or.inr ⟨by (first | decide | omega), by (first | decide | omega)⟩ | exact ⟨by (first | decide | omega), by (first | decide | omega)⟩ | exact ⟨by decide, by decide, by decide⟩ | exact L2.ClsV.ty _ | exact Dt.ty (by assumption) | exact Dt.kint (by assumption) | exact Dt.kbool (by assumption) | exact Dt.ktuple (by assumption) | exact Dt.klist (by assumption) | exact Dt.kstr (by assumption))) | (apply Exists.intro; apply Exists.intro; apply Exists.intro; apply Exists.intro; apply And.intro; focus (first | rfl | assumption | exact upd_same | exact SqL.of (by (first | assumption | exact upd_same | (rw [upd_ne (by first | assumption | exact Ne.symm (by assumption))]; first | assumption | exact upd_same | (rw [upd_ne (by first | assumption | exact Ne.symm (by assumption))]; first | assumption | exact upd_same)))) | exact SqT.of (by (first | assumption | exact upd_same | (rw [upd_ne (by first | assumption | exact Ne.symm (by assumption))]; first | assumption | exact upd_same | (rw [upd_ne (by first | assumption | exact Ne.symm (by assumption))]; first | assumption | exact upd_same)))) | exact Or.inl (SqL.of (by (first | assumption | exact upd_same | (rw [upd_ne (by first | assumption | exact Ne.symm (by assumption))]; first | assumption | exact upd_same | (rw [upd_ne (by first | assumption | exact Ne.symm (by assumption))]; first | assumption | exact upd_same))))) | exact Or.inr (SqT.of (by (first | assumption | exact upd_same | (rw [upd_ne (by first | assumption | exact Ne.symm (by assumption))]; first | assumption | exact upd_same | (rw [upd_ne (by first | assumption | exact Ne.symm (by assumption))]; first | assumption | exact upd_same))))) | exact Or.inl ⟨rfl, _, SqL.of (by (first | assumption | exact upd_same | (rw [upd_ne (by first | assumption | exact Ne.symm (by assumption))]; first | assumption | exact upd_same | (rw [upd_ne (by first | assumption | exact Ne.symm (by assumption))]; first | assumption | exact upd_same))))⟩ | (first | assumption | exact upd_same | (rw [upd_ne (by first | assumption | exact Ne.symm (by assumption))]; first | assumption | exact upd_same | (rw [upd_ne (by first | assumption | exact Ne.symm (by assumption))]; first | assumption | exact upd_same))) | decide | exact Nat.le_of_ble_eq_true rfl | omega | (show ∃ xs, SqL _ _ _ xs; exact ⟨_, SqL.of (by (first | assumption | exact upd_same | (rw [upd_ne (by first | assumption | exact Ne.symm (by assumption))]; first | assumption | exact upd_same | (rw [upd_ne (by first | assumption | exact Ne.symm (by assumption))]; first | assumption | exact upd_same))))⟩) | (show ∃ xs, SqT _ _ _ xs; exact ⟨_, SqT.of (by (first | assumption | exact upd_same | (rw [upd_ne (by first | assumption | exact Ne.symm (by assumption))]; first | assumption | exact upd_same | (rw [upd_ne (by first | assumption | exact Ne.symm (by assumption))]; first | assumption | exact upd_same))))⟩) | exact DGet.k (k := Sum.inl _) (by (first | assumption | exact upd_same | (rw [upd_ne (by first | assumption | exact Ne.symm (by assumption))]; first | assumption | exact upd_same | (rw [upd_ne (by first | assumption | exact Ne.symm (by assumption))]; first | assumption | exact upd_same)))) | (show V.int _ = kV (Sum.inl _); rfl) | (show ∃ z, V.str _ = V.str z; exact ⟨_, rfl⟩) | exact Or.inl ⟨by (first | decide | omega), by (first | decide | omega)⟩ | exact Or.inr ⟨by (first | decide | omega), by (first | decide | omega)⟩ | exact ⟨by (first | decide | omega), by (first | decide | omega)⟩ | exact ⟨by decide, by decide, by decide⟩ | exact L2.ClsV.ty _ | exact Dt.ty (by assumption) | exact Dt.kint (by assumption) | exact Dt.kbool (by assumption) | exact Dt.ktuple (by assumption) | exact Dt.klist (by assumption) | exact Dt.kstr (by assumption))) | (apply Exists.intro; apply Exists.intro; apply Exists.intro; apply Exists.intro; apply Exists.intro; apply And.intro; focus (first | rfl | assumption | exact upd_same | exact SqL.of (by (first | assumption | exact upd_same | (rw [upd_ne (by first | assumption | exact Ne.symm (by assumption))]; first | assumption | exact upd_same | (rw [upd_ne (by first | assumption | exact Ne.symm (by assumption))]; first | assumption | exact upd_same)))) | exact SqT.of (by (first | assumption | exact upd_same | (rw [upd_ne (by first | assumption | exact Ne.symm (by assumption))]; first | assumption | exact upd_same | (rw [upd_ne (by first | assumption | exact Ne.symm (by assumption))]; first | assumption | exact upd_same)))) | exact Or.inl (SqL.of (by (first | assumption | exact upd_same | (rw [upd_ne (by first | assumption | exact Ne.symm (by assumption))]; first | assumption | exact upd_same | (rw [upd_ne (by first | assumption | exact Ne.symm (by assumption))]; first | assumption | exact upd_same))))) | exact Or.inr (SqT.of (by (first | assumption | exact upd_same | (rw [upd_ne (by first | assumption | exact Ne.symm (by assumption))]; first | assumption | exact upd_same | (rw [upd_ne (by first | assumption | exact Ne.symm (by assumption))]; first | assumption | exact upd_same))))) | exact Or.inl ⟨rfl, _, SqL.of (by (first | assumption | exact upd_same | (rw [upd_ne (by first | assumption | exact Ne.symm (by assumption))]; first | assumption | exact upd_same | (rw [upd_ne (by first | assumption | exact Ne.symm (by assumption))]; first | assumption | exact upd_same))))⟩ | (first | assumption | exact upd_same | (rw [upd_ne (by first | assumption | exact Ne.symm (by assumption))]; first | assumption | exact upd_same | (rw [upd_ne (by first | assumption | exact Ne.symm (by assumption))]; first | assumption | exact upd_same))) | decide | exact Nat.le_of_ble_eq_true rfl | omega | (show ∃ xs, SqL _ _ _ xs; exact ⟨_, SqL.of (by (first | assumption | exact upd_same | (rw [upd_ne (by first | assumption | exact Ne.symm (by assumption))]; first | assumption | exact upd_same | (rw [upd_ne (by first | assumption | exact Ne.symm (by assumption))]; first | assumption | exact upd_same))))⟩) | (show ∃ xs, SqT _ _ _ xs; exact ⟨_, SqT.of (by (first | assumption | exact upd_same | (rw [upd_ne (by first | assumption | exact Ne.symm (by assumption))]; first | assumption | exact upd_same | (rw [upd_ne (by first | assumption | exact Ne.symm (by assumption))]; first | assumption | exact upd_same))))⟩) | exact DGet.k (k := Sum.inl _) (by (first | assumption | exact upd_same | (rw [upd_ne (by first | assumption | exact Ne.symm (by assumption))]; first | assumption | exact upd_same | (rw [upd_ne (by first | assumption | exact Ne.symm (by assumption))]; first | assumption | exact upd_same)))) | (show V.int _ = kV (Sum.inl _); rfl) | (show ∃ z, V.str _ = V.str z; exact ⟨_, rfl⟩) | exact Or.inl ⟨by (first | decide | omega), by (first | decide | omega)⟩ | exact Or.inr ⟨by (first | decide | omega), by (first | decide | omega)⟩ | exact ⟨by (first | decide | omega), by (first | decide | omega)⟩ | exact ⟨by decide, by decide, by decide⟩ | exact L2.ClsV.ty _ | exact Dt.ty (by assumption) | exact Dt.kint (by assumption) | exact Dt.kbool (by assumption) | exact Dt.ktuple (by assumption) | exact Dt.klist (by assumption) | exact Dt.kstr (by assumption))) | (apply Exists.intro; apply Exists.intro; apply Exists.intro; apply Exists.intro; apply Exists.intro; apply Exists.intro; apply And.intro; focus (first | rfl | assumption | exact upd_same | exact SqL.of (by (first | assumption | exact upd_same | (rw [upd_ne (by first | assumption | exact Ne.symm (by assumption))]; first | assumption | exact upd_same | (rw [upd_ne (by first | assumption | exact Ne.symm (by assumption))]; first | assumption | exact upd_same)))) | exact SqT.of (by (first | assumption | exact upd_same | (rw [upd_ne (by first | assumption | exact Ne.symm (by assumption))]; first | assumption | exact upd_same | (rw [upd_ne (by first | assumption | exact Ne.symm (by assumption))]; first | assumption | exact upd_same)))) | exact Or.inl (SqL.of (by (first | assumption | exact upd_same | (rw [upd_ne (by first | assumption | exact Ne.symm (by assumption))]; first | assumption | exact upd_same | (rw [upd_ne (by first | assumption | exact Ne.symm (by assumption))]; first | assumption | exact upd_same))))) | exact Or.inr (SqT.of (by (first | assumption | exact upd_same | (rw [upd_ne (by first | assumption | exact Ne.symm (by assumption))]; first | assumption | exact upd_same | (rw [upd_ne (by first | assumption | exact Ne.symm (by assumption))]; first | assumption | exact upd_same))))) | exact Or.inl ⟨rfl, _, SqL.of (by (first | assumption | exact upd_same | (rw [upd_ne (by first | assumption | exact Ne.symm (by assumption))]; first | assumption | exact upd_same | (rw [upd_ne (by first | assumption | exact Ne.symm (by assumption))]; first | assumption | exact upd_same))))⟩ | (first | assumption | exact upd_same | (rw [upd_ne (by first | assumption | exact Ne.symm (by assumption))]; first | assumption | exact upd_same | (rw [upd_ne (by first | assumption | exact Ne.symm (by assumption))]; first | assumption | exact upd_same))) | decide | exact Nat.le_of_ble_eq_true rfl | omega | (show ∃ xs, SqL _ _ _ xs; exact ⟨_, SqL.of (by (first | assumption | exact upd_same | (rw [upd_ne (by first | assumption | exact Ne.symm (by assumption))]; first | assumption | exact upd_same | (rw [upd_ne (by first | assumption | exact Ne.symm (by assumption))]; first | assumption | exact upd_same))))⟩) | (show ∃ xs, SqT _ _ _ xs; exact ⟨_, SqT.of (by (first | assumption | exact upd_same | (rw [upd_ne (by first | assumption | exact Ne.symm (by assumption))]; first | assumption | exact upd_same | (rw [upd_ne (by first | assumption | exact Ne.symm (by assumption))]; first | assumption | exact upd_same))))⟩) | exact DGet.k (k := Sum.inl _) (by (first | assumption | exact upd_same | (rw [upd_ne (by first | assumption | exact Ne.symm (by assumption))]; first | assumption | exact upd_same | (rw [upd_ne (by first | assumption | exact Ne.symm (by assumption))]; first | assumption | exact upd_same)))) | (show V.int _ = kV (Sum.inl _); rfl) | (show ∃ z, V.str _ = V.str z; exact ⟨_, rfl⟩) | exact Or.inl ⟨by (first | decide | omega), by (first | decide | omega)⟩ | exact Or.inr ⟨by (first | decide | omega), by (first | decide | omega)⟩ | exact ⟨by (first | decide | omega), by (first | decide | omega)⟩ | exact ⟨by decide, by decide, by decide⟩ | exact L2.ClsV.ty _ | exact Dt.ty (by assumption) | exact Dt.kint (by assumption) | exact Dt.kbool (by assumption) | exact Dt.ktuple (by assumption) | exact Dt.klist (by assumption) | exact Dt.kstr (by assumption))) | (apply Exists.intro; apply Exists.intro; apply Exists.intro; apply Exists.intro; apply Exists.intro; apply Exists.intro; apply Exists.intro; apply And.intro; focus (first | rfl | assumption | exact upd_same | exact SqL.of (by (first | assumption | exact upd_same | (rw [upd_ne (by first | assumption | exact Ne.symm (by assumption))]; first | assumption | exact upd_same | (rw [upd_ne (by first | assumption | exact Ne.symm (by assumption))]; first | assumption | exact upd_same)))) | exact SqT.of (by (first | assumption | exact upd_same | (rw [upd_ne (by first | assumption | exact Ne.symm (by assumption))]; first | assumption | exact upd_same | (rw [upd_ne (by first | assumption | exact Ne.symm (by assumption))]; first | assumption | exact upd_same)))) | exact Or.inl (SqL.of (by (first | assumption | exact upd_same | (rw [upd_ne (by first | assumption | exact Ne.symm (by assumption))]; first | assumption | exact upd_same | (rw [upd_ne (by first | assumption | exact Ne.symm (by assumption))]; first | assumption | exact upd_same))))) | exact Or.inr (SqT.of (by (first | assumption | exact upd_same | (rw [upd_ne (by first | assumption | exact Ne.symm (by assumption))]; first | assumption | exact upd_same | (rw [upd_ne (by first | assumption | exact Ne.symm (by assumption))]; first | assumption | exact upd_same))))) | exact Or.inl ⟨rfl, _, SqL.of (by (first | assumption | exact upd_same | (rw [upd_ne (by first | assumption | exact Ne.symm (by assumption))]; first | assumption | exact upd_same | (rw [upd_ne (by first | assumption | exact Ne.symm (by assumption))]; first | assumption | exact upd_same))))⟩ | (first | assumption | exact upd_same | (rw [upd_ne (by first | assumption | exact Ne.symm (by assumption))]; first | assumption | exact upd_same | (rw [upd_ne (by first | assumption | exact Ne.symm (by assumption))]; first | assumption | exact upd_same))) | decide | exact Nat.le_of_ble_eq_true rfl | omega | (show ∃ xs, SqL _ _ _ xs; exact ⟨_, SqL.of (by (first | assumption | exact upd_same | (rw [upd_ne (by first | assumption | exact Ne.symm (by assumption))]; first | assumption | exact upd_same | (rw [upd_ne (by first | assumption | exact Ne.symm (by assumption))]; first | assumption | exact upd_same))))⟩) | (show ∃ xs, SqT _ _ _ xs; exact ⟨_, SqT.of (by (first | assumption | exact upd_same | (rw [upd_ne (by first | assumption | exact Ne.symm (by assumption))]; first | assumption | exact upd_same | (rw [upd_ne (by first | assumption | exact Ne.symm (by assumption))]; first | assumption | exact upd_same))))⟩) | exact DGet.k (k := Sum.inl _) (by (first | assumption | exact upd_same | (rw [upd_ne (by first | assumption | exact Ne.symm (by assumption))]; first | assumption | exact upd_same | (rw [upd_ne (by first | assumption | exact Ne.symm (by assumption))]; first | assumption | exact upd_same)))) | (show V.int _ = kV (Sum.inl _); rfl) | (show ∃ z, V.str _ = V.str z; exact ⟨_, rfl⟩) | exact Or.inl ⟨by (first | decide | omega), by (first | decide | omega)⟩ | exact Or.inr ⟨by (first | decide | omega), by (first | decide | omega)⟩ | exact ⟨by (first | decide | omega), by (first | decide | omega)⟩ | exact ⟨by decide, by decide, by decide⟩ | exact L2.ClsV.ty _ | exact Dt.ty (by assumption) | exact Dt.kint (by assumption) | exact Dt.kbool (by assumption) | exact Dt.ktuple (by assumption) | exact Dt.klist (by assumption) | exact Dt.kstr (by assumption))) | (apply Exists.intro; apply Exists.intro; apply Exists.intro; apply Exists.intro; apply Exists.intro; apply Exists.intro; apply Exists.intro; apply Exists.intro; apply And.intro; focus (first | rfl | assumption | exact upd_same | exact SqL.of (by (first | assumption | exact upd_same | (rw [upd_ne (by first | assumption | exact Ne.symm (by assumption))]; first | assumption | exact upd_same | (rw [upd_ne (by first | assumption | exact Ne.symm (by assumption))]; first | assumption | exact upd_same)))) | exact SqT.of (by (first | assumption | exact upd_same | (rw [upd_ne (by first | assumption | exact Ne.symm (by assumption))]; first | assumption | exact upd_same | (rw [upd_ne (by first | assumption | exact Ne.symm (by assumption))]; first | assumption | exact upd_same)))) | exact Or.inl (SqL.of (by (first | assumption | exact upd_same | (rw [upd_ne (by first | assumption | exact Ne.symm (by assumption))]; first | assumption | exact upd_same | (rw [upd_ne (by first | assumption | exact Ne.symm (by assumption))]; first | assumption | exact upd_same))))) | exact Or.inr (SqT.of (by (first | assumption | exact upd_same | (rw [upd_ne (by first | assumption | exact Ne.symm (by assumption))]; first | assumption | exact upd_same | (rw [upd_ne (by first | assumption | exact Ne.symm (by assumption))]; first | assumption | exact upd_same))))) | exact Or.inl ⟨rfl, _, SqL.of (by (first | assumption | exact upd_same | (rw [upd_ne (by first | assumption | exact Ne.symm (by assumption))]; first | assumption | exact upd_same | (rw [upd_ne (by first | assumption | exact Ne.symm (by assumption))]; first | assumption | exact upd_same))))⟩ | (first | assumption | exact upd_same | (rw [upd_ne (by first | assumption | exact Ne.symm (by assumption))]; first | assumption | exact upd_same | (rw [upd_ne (by first | assumption | exact Ne.symm (by assumption))]; first | assumption | exact upd_same))) | decide | exact Nat.le_of_ble_eq_true rfl | omega | (show ∃ xs, SqL _ _ _ xs; exact ⟨_, SqL.of (by (first | assumption | exact upd_same | (rw [upd_ne (by first | assumption | exact Ne.symm (by assumption))]; first | assumption | exact upd_same | (rw [upd_ne (by first | assumption | exact Ne.symm (by assumption))]; first | assumption | exact upd_same))))⟩) | (show ∃ xs, SqT _ _ _ xs; exact ⟨_, SqT.of (by (first | assumption | exact upd_same | (rw [upd_ne (by first | assumption | exact Ne.symm (by assumption))]; first | assumption | exact upd_same | (rw [upd_ne (by first | assumption | exact Ne.symm (by assumption))]; first | assumption | exact upd_same))))⟩) | exact DGet.k (k := Sum.inl _) (by (first | assumption | exact upd_same | (rw [upd_ne (by first | assumption | exact Ne.symm (by assumption))]; first | assumption | exact upd_same | (rw [upd_ne (by first | assumption | exact Ne.symm (by assumption))]; first | assumption | exact upd_same)))) | (show V.int _ = kV (Sum.inl _); rfl) | (show ∃ z, V.str _ = V.str z; exact ⟨_, rfl⟩) | exact Or.inl ⟨by (first | decide | omega), by (first | decide | omega)⟩ | exact Or.inr ⟨by (first | decide | omega), by (first | decide | omega)⟩ | exact ⟨by (first | decide | omega), by (first | decide | omega)⟩ | exact ⟨by decide, by decide, by decide⟩ | exact L2.ClsV.ty _ | exact Dt.ty (by assumption) | exact Dt.kint (by assumption) | exact Dt.kbool (by assumption) | exact Dt.ktuple (by assumption) | exact Dt.klist (by assumption) | exact Dt.kstr (by assumption))) | (apply Exists.intro; apply Exists.intro; apply Exists.intro; apply Exists.intro; apply Exists.intro; apply Exists.intro; apply Exists.intro; apply Exists.intro; apply Exists.intro; apply And.intro; focus (first | rfl | assumption | exact upd_same | exact SqL.of (by (first | assumption | exact upd_same | (rw [upd_ne (by first | assumption | exact Ne.symm (by assumption))]; first | assumption | exact upd_same | (rw [upd_ne (by first | assumption | exact Ne.symm (by assumption))]; first | assumption | exact upd_same)))) | exact SqT.of (by (first | assumption | exact upd_same | (rw [upd_ne (by first | assumption | exact Ne.symm (by assumption))]; first | assumption | exact upd_same | (rw [upd_ne (by first | assumption | exact Ne.symm (by assumption))]; first | assumption | exact upd_same)))) | exact Or.inl (SqL.of (by (first | assumption | exact upd_same | (rw [upd_ne (by first | assumption | exact Ne.symm (by assumption))]; first | assumption | exact upd_same | (rw [upd_ne (by first | assumption | exact Ne.symm (by assumption))]; first | assumption | exact upd_same))))) | exact Or.inr (SqT.of (by (first | assumption | exact upd_same | (rw [upd_ne (by first | assumption | exact Ne.symm (by assumption))]; first | assumption | exact upd_same | (rw [upd_ne (by first | assumption | exact Ne.symm (by assumption))]; first | assumption | exact upd_same))))) | exact Or.inl ⟨rfl, _, SqL.of (by (first | assumption | exact upd_same | (rw [upd_ne (by first | assumption | exact Ne.symm (by assumption))]; first | assumption | exact upd_same | (rw [upd_ne (by first | assumption | exact Ne.symm (by assumption))]; first | assumption | exact upd_same))))⟩ | (first | assumption | exact upd_same | (rw [upd_ne (by first | assumption | exact Ne.symm (by assumption))]; first | assumption | exact upd_same | (rw [upd_ne (by first | assumption | exact Ne.symm (by assumption))]; first | assumption | exact upd_same))) | decide | exact Nat.le_of_ble_eq_true rfl | omega | (show ∃ xs, SqL _ _ _ xs; exact ⟨_, SqL.of (by (first | assumption | exact upd_same | (rw [upd_ne (by first | assumption | exact Ne.symm (by assumption))]; first | assumption | exact upd_same | (rw [upd_ne (by first | assumption | exact Ne.symm (by assumption))]; first | assumption | exact upd_same))))⟩) | (show ∃ xs, SqT _ _ _ xs; exact ⟨_, SqT.of (by (first | assumption | exact upd_same | (rw [upd_ne (by first | assumption | exact Ne.symm (by assumption))]; first | assumption | exact upd_same | (rw [upd_ne (by first | assumption | exact Ne.symm (by assumption))]; first | assumption | exact upd_same))))⟩) | exact DGet.k (k := Sum.inl _) (by (first | assumption | exact upd_same | (rw [upd_ne (by first | assumption | exact Ne.symm (by assumption))]; first | assumption | exact upd_same | (rw [upd_ne (by first | assumption | exact Ne.symm (by assumption))]; first | assumption | exact upd_same)))) | (show V.int _ = kV (Sum.inl _); rfl) | (show ∃ z, V.str _ = V.str z; exact ⟨_, rfl⟩) | exact Or.inl ⟨by (first | decide | omega), by (first | decide | omega)⟩ | exact Or.inr ⟨by (first | decide | omega), by (first | decide | omega)⟩ | exact ⟨by (first | decide | omega), by (first | decide | omega)⟩ | exact ⟨by decide, by decide, by decide⟩ | exact L2.ClsV.ty _ | exact Dt.ty (by assumption) | exact Dt.kint (by assumption) | exact Dt.kbool (by assumption) | exact Dt.ktuple (by assumption) | exact Dt.klist (by assumption) | exact Dt.kstr (by assumption))) | refine Or.inl ⟨_, rfl, ?_⟩ | refine Or.inr ⟨_, rfl, ?_⟩ | refine Or.inr ⟨SqT.of (by (first | assumption | exact upd_same | (rw [upd_ne (by first | assumption | exact Ne.symm (by assumption))]; first | assumption | exact upd_same | (rw [upd_ne (by first | assumption | exact Ne.symm (by assumption))]; first | assumption | exact upd_same)))), SqT.of (by (first | assumption | exact upd_same | (rw [upd_ne (by first | assumption | exact Ne.symm (by assumption))]; first | assumption | exact upd_same | (rw [upd_ne (by first | assumption | exact Ne.symm (by assumption))]; first | assumption | exact upd_same)))), ?_⟩ | refine Or.inl ⟨SqL.of (by (first | assumption | exact upd_same | (rw [upd_ne (by first | assumption | exact Ne.symm (by assumption))]; first | assumption | exact upd_same | (rw [upd_ne (by first | assumption | exact Ne.symm (by assumption))]; first | assumption | exact upd_same)))), SqL.of (by (first | assumption | exact upd_same | (rw [upd_ne (by first | assumption | exact Ne.symm (by assumption))]; first | assumption | exact upd_same | (rw [upd_ne (by first | assumption | exact Ne.symm (by assumption))]; first | assumption | exact upd_same)))), ?_⟩ | refine Or.inl ⟨SqL.of (by (first | assumption | exact upd_same | (rw [upd_ne (by first | assumption | exact Ne.symm (by assumption))]; first | assumption | exact upd_same | (rw [upd_ne (by first | assumption | exact Ne.symm (by assumption))]; first | assumption | exact upd_same)))), ?_⟩ | refine Or.inr ⟨SqT.of (by (first | assumption | exact upd_same | (rw [upd_ne (by first | assumption | exact Ne.symm (by assumption))]; first | assumption | exact upd_same | (rw [upd_ne (by first | assumption | exact Ne.symm (by assumption))]; first | assumption | exact upd_same)))), ?_⟩ | refine ifT rfl ?_ | refine ifF rfl ?_))
def numV : V → Bool
  | .int i => decide (0 ≤ i)
  | _ => false
def intV : V → Int
  | .int i => i
  | _ => 0
def ascB (ns : List Int) : Bool := (ns.zip ns.tail).all fun p => decide (p.1 < p.2)
def shL (xs : List V) : Bool := xs.all numV && ascB (xs.map intV) && (decide (xs.length < 2) || decide (0 < intV (xs.headD .non)))
def shV (H : Hp) : V → Bool
  | .ref a => match H a with
    | some (.tup xs) => shL xs
    | _ => false
  | _ => false
/-- a thing as it may be judged -/
structure Tg (H : Hp) (v : V) : Prop where
  t : ∃ t, Dt H v t
  xs : ∀ a xs, v = .ref a → H a = some (.tup xs) → xs.length ≤ 1000 ∧ ∀ x ∈ xs, ∃ t, Dt H x t
theorem Tg.same {H H' : Hp} {v : V} (g : Tg H v) (s : Same H H') : Tg H' v := by
  obtain ⟨t, d⟩ := g.t
  refine ⟨⟨t, d.same s⟩, fun a xs e h => ?_⟩
  subst e
  have h0 : H a = some (.tup xs) := by
    cases d with
    | lst e => rw [s _ _ e] at h; cases h
    | tup e => rw [s _ _ e] at h; rw [e, h]
    | dK e => rw [s _ _ e] at h; cases h
  obtain ⟨h1, h2⟩ := g.xs a xs rfl h0
  exact ⟨h1, fun x hx => let ⟨t, d⟩ := h2 x hx; ⟨t, d.same s⟩⟩
def spNum : Sp := fun vs H Q _ => ∃ (v : V) (t : String), vs = [v] ∧ Dt H v t ∧ Q (.bl (numV v)) H
def spRises : Sp := fun vs H Q _ => ∃ (a : Addr) (ns : List Int), vs = [.ref a] ∧ H a = some (.tup (ns.map V.int)) ∧ ns.length ≤ 1000 ∧ ∀ H', Same H H' → Q (.bl (ascB ns)) H'
section
variable {P : Program} {w : World} {K : PySem.W.Frag} {mg : Str → Option Value} {base : Heap}
theorem d_is_num (B : Bi mg) (F : FunAt K mg "is_number" s_is_number) : Has P w K mg base 1 "is_number" ["thing"] spNum := by
  refine mk_has F sc_is_number (fun _ _ _ _ _ _ us hl => match us, hl with | [_], _ => rfl) (fun vs H Q E h => ?_) fun f cdv A outer s H vs Q E hr h => ?_
  · obtain ⟨v, t, rfl, _⟩ := h
    rfl
  obtain ⟨v, t, rfl, d, k⟩ := h
  refine ⟨_, (pss_one (ps_ret (pe_and (pe_callB call_isi rfl B.isinstance (by decide +kernel) (pa_cons (pv 0) (pa_cons (pe_bltn (v := .ty "int") rfl B.int (by decide +kernel) rfl) pa_nil))) (pe_and (pe_not (pe_callB call_isi rfl B.isinstance (by decide +kernel) (pa_cons (pv 0) (pa_cons (pe_bltn (v := .ty "bool") rfl B.bool (by decide +kernel) rfl) pa_nil)))) (pe_one (pe_cmpR op_ge (pv 0) pe_int (nomark _))))))), ?_⟩
  trivial
  cases d with
  | int i =>
    have d := Dt.int (H := H) i
    trivial
    exact k
  | bl b =>
    have d := Dt.bl (H := H) b
    trivial
    exact k
  | _ => trivial; exact k
theorem d_rises (B : Bi mg) (F : FunAt K mg "rises" s_rises) : Has P w K mg base 1 "rises" ["items"] spRises := by
  refine mk_has F sc_rises (fun _ _ _ _ _ _ us hl => match us, hl with | [_], _ => rfl) (fun vs H Q E h => ?_) fun f cdv A outer s H vs Q E hr h => ?_
  · obtain ⟨a, ns, rfl, _⟩ := h
    rfl
  obtain ⟨a, ns, rfl, ha, hl, k⟩ := h
  refine ⟨_, (pss_one (ps_ret (pe_callB (cr_all rfl) rfl B.all (by decide +kernel) (pa_cons (pe_lc (own := [("one", 1), ("other", 2)]) (g := gTup K 2 (gCons (gName 1) (gCons (gName 2) gNil))) (tt := tYes) (te := (tOp (rI0 fun i j => .bl (decide (i < j))) (tVar 1) (tVar 2))) rfl sc_rises.nd (RZ.pi_zipA rfl B.zip (pa_cons (pv 0) (pa_cons (pe_slice sl_tupA (pv 0) (po_some pe_int) po_none) pa_nil))) (blkOk_by (own := [("one", 1), ("other", 2)]) (N := ["items", "one", "other"]) (sc := defScope s_rises) (by decide +kernel)) (fun _ _ _ _ _ => (pg_tup rfl (pgs_cons (pg_name (i := 1) sc_rises.nd rfl (Or.inl rfl)) (pgs_cons (pg_name (i := 2) sc_rises.nd rfl (Or.inl rfl)) pgs_nil)))) (fun _ _ _ _ _ => pts_nil) (fun _ _ _ _ _ => (pe_cmpR op_lt (pv 1) (pv 2) (nomark _)))) pa_nil)))), ?_⟩
  trivial
  intro b H1 s1 eb
  rw [cut1, ← List.map_drop] at eb
  have ha1 := s1 _ _ ha
  trivial
  intro D nD
  have e0 : min (ns.map V.int).length ((ns.drop 1).map V.int).length = ns.length - 1 := by simp
  refine lc_map (walk_zipT e0.symm) ((ns.zip ns.tail).map fun p => V.bl (decide (p.1 < p.2))) (by simp) nD (by omega) (fun i H' _ s => ⟨SqT.of (s _ _ ha1), SqT.of (s _ _ eb)⟩) (fun i x H3 H4 Pn hi s2 y fin => ?_) fun H3 s2 e1 => ?_
  · obtain ⟨T, x, z, rfl, nT, rfl, gx, gz⟩ := ypair y
    have i1 : i < ns.length := by omega
    have i2 : i < ns.tail.length := by simp; omega
    have i3 : i < (ns.drop 1).length := by simp; omega
    obtain rfl : x = .int ns[i] := by rw [List.getElem?_map, List.getElem?_eq_getElem i1] at gx; exact (Option.some.inj gx).symm
    obtain rfl : z = .int ns.tail[i] := by
      rw [List.getElem?_map, List.getElem?_eq_getElem i3] at gz
      rw [← Option.some.inj gz]
      simp
    trivial
    exact fin _ _ (by rw [List.getElem?_map, List.getElem?_eq_getElem (by simp; omega)]; simp) (same_new0 nT)
  · have e2 : ((ns.zip ns.tail).map fun p => V.bl (decide (p.1 < p.2))) = ((ns.zip ns.tail).map fun p => decide (p.1 < p.2)).map V.bl := by rw [List.map_map]; rfl
    rw [e2] at e1
    trivial
    have e3 : (List.map (fun p => decide (p.fst < p.snd)) (ns.zip ns.tail)).all id = ascB ns := by simp [ascB, List.all_map, Function.comp_def]
    rw [e3]
    exact k H3 (s1.trans s2)
theorem nums_back {xs : List V} (h : xs.all numV = true) : (xs.map intV).map V.int = xs := by
  rw [List.map_map]
  conv => rhs; rw [← List.map_id xs]
  refine List.map_congr_left fun x hx => ?_
  have := List.all_eq_true.mp h x hx
  cases x <;> simp_all [numV, intV]
def lotB (xs : List V) : Bool := xs.all numV && ascB (xs.map intV)
def tupB (f : List V → Bool) (H : Hp) : V → Bool
  | .ref a => match H a with
    | some (.tup xs) => f xs
    | _ => false
  | _ => false
theorem tupB_at {f : List V → Bool} {H : Hp} {a : Addr} {xs : List V} (h : H a = some (.tup xs)) : tupB f H (.ref a) = f xs := by simp [tupB, h]
theorem tupB_no {f : List V → Bool} {H : Hp} {v : V} {t : String} (d : Dt H v t) (h : t ≠ "tuple") : tupB f H v = false := by
  cases d with
  | tup e => exact absurd rfl h
  | lst e => simp [tupB, e]
  | dK e => simp [tupB, e]
  | _ => rfl
theorem Dt.tup_inv {H : Hp} {v : V} {t : String} (d : Dt H v t) (h : t = "tuple") : ∃ a xs, v = .ref a ∧ H a = some (.tup xs) := by
  cases d with
  | tup e => exact ⟨_, _, rfl, e⟩
  | _ => exact absurd h (by decide)
def spTup (f : List V → Bool) : Sp := fun vs H Q _ => ∃ v : V, vs = [v] ∧ Tg H v ∧ ∀ H', Same H H' → Q (.bl (tupB f H v)) H'
theorem d_is_lot (B : Bi mg) (F : FunAt K mg "is_lot" s_is_lot) (D_is_number : Has P w K mg base 1 "is_number" ["thing"] spNum) (D_rises : Has P w K mg base 1 "rises" ["items"] spRises) : Has P w K mg base 2 "is_lot" ["thing"] (spTup lotB) := by
  refine mk_has F sc_is_lot (fun _ _ _ _ _ _ us hl => match us, hl with | [_], _ => rfl) (fun vs H Q E h => ?_) fun f cdv A outer s H vs Q E hr h => ?_
  · obtain ⟨v, rfl, _⟩ := h
    rfl
  obtain ⟨v, rfl, g, k⟩ := h
  obtain ⟨t, d⟩ := g.t
  refine ⟨_, (pss_one (ps_ret (pe_and (pe_callB call_isi rfl B.isinstance (by decide +kernel) (pa_cons (pv 0) (pa_cons (pe_bltn (v := .ty "tuple") rfl B.tuple (by decide +kernel) rfl) pa_nil))) (pe_and (pe_callB (cr_all rfl) rfl B.all (by decide +kernel) (pa_cons (pe_lc (own := [("item", 1)]) (g := gName 1) (tt := tYes) (te := (tCall spNum [] E0 (tCons (tVar 1) tNil))) rfl sc_is_lot.nd (pi_tup (pv 0)) (blkOk_by (own := [("item", 1)]) (N := ["thing", "item"]) (sc := defScope s_is_lot) (by decide +kernel)) (fun _ _ _ _ _ => (pg_name (i := 1) sc_is_lot.nd rfl (Or.inl rfl))) (fun _ _ _ _ _ => pts_nil) (fun _ _ _ _ _ => (pe_h D_is_number (hr.mono (by decide)) rfl (pa_cons (pv 1) pa_nil)))) pa_nil)) (pe_one (pe_h D_rises (hr.mono (by decide)) rfl (pa_cons (pv 0) pa_nil))))))), ?_⟩
  by_cases ht : t = "tuple"
  · obtain ⟨a, xs, rfl, ea⟩ := d.tup_inv ht
    subst ht
    obtain ⟨hl, hx⟩ := g.xs a xs rfl ea
    rw [tupB_at ea] at k
    trivial
    intro D nD
    refine lc_map (walk_tup (xs := xs)) (xs.map fun x => V.bl (numV x)) (by simp) nD (by omega) (fun i H' _ s => SqT.of (s _ _ ea)) (fun i x H3 H4 Pn hi s2 y fin => ?_) fun H3 s2 e1 => ?_
    · obtain ⟨rfl, gx⟩ := y
      obtain ⟨tx, dx⟩ := hx x (List.mem_of_getElem? gx)
      have dx3 := dx.same s2
      trivial
      exact fin _ _ (by rw [List.getElem?_map, gx]; rfl) (Same.refl _)
    · have e2 : (xs.map fun x => V.bl (numV x)) = (xs.map numV).map V.bl := by rw [List.map_map]; rfl
      rw [e2] at e1
      trivial
      have e3 : (List.map numV xs).all id = xs.all numV := by simp [List.all_map]
      rw [e3]
      refine ite2 (fun c => ?_) (fun c => ?_)
      · have ea3 := s2 _ _ ea
        rw [← nums_back c] at ea3
        refine ⟨_, rfl, a, xs.map intV, rfl, ea3, by simpa using hl, fun H4 s4 => ?_⟩
        have := k H4 (s2.trans s4)
        rw [lotB, c, Bool.true_and] at this
        exact this
      · have := k H3 s2
        rw [lotB, Bool.eq_false_iff.mpr c, Bool.false_and] at this
        exact this
  · rw [tupB_no d ht] at k
    trivial
    refine ifF (by simp [isTy, ht]) (k H (Same.refl H))
theorem d_is_share (B : Bi mg) (F : FunAt K mg "is_share" s_is_share) (D_is_lot : Has P w K mg base 2 "is_lot" ["thing"] (spTup lotB)) : Has P w K mg base 3 "is_share" ["thing"] (spTup shL) := by
  refine mk_has F sc_is_share (fun _ _ _ _ _ _ us hl => match us, hl with | [_], _ => rfl) (fun vs H Q E h => ?_) fun f cdv A outer s H vs Q E hr h => ?_
  · obtain ⟨v, rfl, _⟩ := h
    rfl
  obtain ⟨v, rfl, g, k⟩ := h
  obtain ⟨t, d⟩ := g.t
  refine ⟨_, (pss_one (ps_ret (pe_and (pe_h D_is_lot (hr.mono (by decide)) rfl (pa_cons (pv 0) pa_nil)) (pe_one (pe_or (pe_cmpR op_lt (pe_callB call_len_seq rfl B.len PySem.boot_len (pa_cons (pv 0) pa_nil)) pe_int (nomark _)) (pe_one (pe_cmpR op_gt (pe_ix ix_tup (pv 0) pe_int (fun _ _ => rfl)) pe_int (nomark _)))))))), ?_⟩
  trivial
  intro H1 s1
  by_cases ht : t = "tuple"
  · obtain ⟨a, xs, rfl, ea⟩ := d.tup_inv ht
    have ea1 := s1 _ _ ea
    rw [tupB_at ea] at k ⊢
    trivial
    refine ite2 (fun c => ?_) (fun c => ?_)
    · have e := k H1 s1
      rw [shL, ← lotB, c, Bool.true_and] at e
      trivial
      refine ite2 (fun c2 => ?_) (fun c2 => ?_)
      · rw [show decide (xs.length < 2) = true by have := of_decide_eq_true c2; exact decide_eq_true (by omega), Bool.true_or] at e
        exact e
      · have c3 := of_decide_eq_false (Bool.eq_false_iff.mpr c2)
        rw [show decide (xs.length < 2) = false from decide_eq_false (by omega), Bool.false_or] at e
        have n1 := nums_back (xs := xs) (by rw [lotB, Bool.and_eq_true] at c; exact c.1)
        match xs, n1, c3, ea1, e with
        | x :: r, n1, _, ea1, e =>
          have ex : V.int (intV x) = x := by simp only [List.map_cons] at n1; exact (List.cons.inj n1).1
          have a0 : atI (x :: r) 0 = Option.some (.int (intV x)) := by rw [ex]; exact atI_nat (show (x :: r)[0]? = Option.some x from rfl)
          trivial
          exact e
    · have := k H1 s1
      rw [shL, ← lotB, Bool.eq_false_iff.mpr c, Bool.false_and] at this
      exact this
  · rw [tupB_no d ht] at k ⊢
    trivial
    exact k H1 s1
theorem d_is_some_share (B : Bi mg) (F : FunAt K mg "is_some_share" s_is_some_share) (D_is_share : Has P w K mg base 3 "is_share" ["thing"] (spTup shL)) : Has P w K mg base 4 "is_some_share" ["thing"] (spTup fun xs => shL xs && decide (0 < xs.length)) := by
  refine mk_has F sc_is_some_share (fun _ _ _ _ _ _ us hl => match us, hl with | [_], _ => rfl) (fun vs H Q E h => ?_) fun f cdv A outer s H vs Q E hr h => ?_
  · obtain ⟨v, rfl, _⟩ := h
    rfl
  obtain ⟨v, rfl, g, k⟩ := h
  obtain ⟨t, d⟩ := g.t
  refine ⟨_, (pss_one (ps_ret (pe_and (pe_h D_is_share (hr.mono (by decide)) rfl (pa_cons (pv 0) pa_nil)) (pe_one (pe_cmpR op_gt (pe_callB call_len_seq rfl B.len PySem.boot_len (pa_cons (pv 0) pa_nil)) pe_int (nomark _)))))), ?_⟩
  trivial
  intro H1 s1
  by_cases ht : t = "tuple"
  · obtain ⟨a, xs, rfl, ea⟩ := d.tup_inv ht
    have ea1 := s1 _ _ ea
    rw [tupB_at ea] at k ⊢
    trivial
    refine ite2 (fun c => ?_) (fun c => ?_)
    · have e := k H1 s1
      rw [c, Bool.true_and, show decide (0 < xs.length) = decide ((0 : Int) < xs.length) by congr 1; exact propext ⟨fun h => by omega, fun h => by omega⟩] at e
      trivial
      exact e
    · have := k H1 s1
      rw [Bool.eq_false_iff.mpr c, Bool.false_and] at this
      exact this
  · rw [tupB_no d ht] at k ⊢
    trivial
    exact k H1 s1
end
end KQ
set_option Elab.async false
set_option maxRecDepth 100000
set_option maxHeartbeats 4000000
namespace KQ
open PySem PySem.Spec PyProof.Rows L2
local macro_rules | `(tactic| trivial) => `(tactic| repeat (first | (apply And.intro; focus (first | rfl | assumption | exact upd_same | exact SqL.of (by (first | assumption | exact upd_same | (rw [upd_ne (by first | assumption | exact Ne.symm (by assumption))]; first | assumption | exact upd_same | (rw [upd_ne (by first | assumption | exact Ne.symm (by assumption))]; first | assumption | exact upd_same)))) | exact SqT.of (by (first | assumption | exact upd_same | (rw [upd_ne (by first | assumption | exact Ne.symm (by assumption))]; first | assumption | exact upd_same | (rw [upd_ne (by first | assumption | exact Ne.symm (by assumption))]; first | assumption | exact upd_same)))) | exact Or.inl (SqL.of (by (first | assumption | exact upd_same | (rw [upd_ne (by first | assumption | exact Ne.symm (by assumption))]; first | assumption | exact upd_same | (rw [upd_ne (by first | assumption | exact Ne.symm (by assumption))]; first | assumption | exact upd_same))))) | exact Or.inr (SqT.of (by (first | assumption | exact upd_same | (rw [upd_ne (by first | assumption | exact Ne.symm (by assumption))]; first | assumption | exact upd_same | (rw [upd_ne (by first | assumption | exact Ne.symm (by assumption))]; first | assumption | exact upd_same))))) | exact Or.inl ⟨rfl, _, SqL.of (by (first | assumption | exact upd_same | (rw [upd_ne (by first | assumption | exact Ne.symm (by assumption))]; first | assumption | exact upd_same | (rw [upd_ne (by first | assumption | exact Ne.symm (by assumption))]; first | assumption | exact upd_same))))⟩ | (first | assumption | exact upd_same | (rw [upd_ne (by first | assumption | exact Ne.symm (by assumption))]; first | assumption | exact upd_same | (rw [upd_ne (by first | assumption | exact Ne.symm (by assumption))]; first | assumption | exact upd_same))) | decide | exact Nat.le_of_ble_eq_true rfl | omega | (show ∃ xs, SqL _ _ _ xs; exact ⟨_, SqL.of (by (first | assumption | exact upd_same | (rw [upd_ne (by first | assumption | exact Ne.symm (by assumption))]; first | assumption | exact upd_same | (rw [upd_ne (by first | assumption | exact Ne.symm (by assumption))]; first | assumption | exact upd_same))))⟩) | (show ∃ xs, SqT _ _ _ xs; exact ⟨_, SqT.of (by (first | assumption | exact upd_same | (rw [upd_ne (by first | assumption | exact Ne.symm (by assumption))]; first | assumption | exact upd_same | (rw [upd_ne (by first | assumption | exact Ne.symm (by assumption))]; first | assumption | exact upd_same))))⟩) | exact DGet.k (k := Sum.inl _) (by (first | assumption | exact upd_same | (rw [upd_ne (by first | assumption | exact Ne.symm (by assumption))]; first | assumption | exact upd_same | (rw [upd_ne (by first | assumption | exact Ne.symm (by assumption))]; first | assumption | exact upd_same)))) | (show V.int _ = kV (Sum.inl _); rfl) | (show ∃ z, V.str _ = V.str z; exact ⟨_, rfl⟩) | exact Or.inl ⟨by (first | decide | omega), by (first | decide | omega)⟩ | exact Or.inr ⟨by (first | decide | omega), by (first | decide | omega)⟩ | exact ⟨by (first | decide | omega), by (first | decide | omega)⟩ | exact ⟨by decide, by decide, by decide⟩ | exact L2.ClsV.ty _ | exact Dt.ty (by assumption) | exact Dt.kint (by assumption) | exact Dt.kbool (by assumption) | exact Dt.ktuple (by assumption) | exact Dt.klist (by assumption) | exact Dt.kstr (by assumption))) | (apply Exists.intro; apply And.intro; focus (first | rfl | assumption | exact upd_same | exact SqL.of (by (first | assumption | exact upd_same | (rw [upd_ne (by first | assumption | exact Ne.symm (by assumption))]; first | assumption | exact upd_same | (rw [upd_ne (by first | assumption | exact Ne.symm (by assumption))]; first | assumption | exact upd_same)))) | exact SqT.of (by (first | assumption | exact upd_same | (rw [upd_ne (by first | assumption | exact Ne.symm (by assumption))]; first | assumption | exact upd_same | (rw [upd_ne (by first | assumption | exact Ne.symm (by assumption))]; first | assumption | exact upd_same)))) | exact Or.inl (SqL.of (by (first | assumption | exact upd_same | (rw [upd_ne (by first | assumption | exact Ne.symm (by assumption))]; first | assumption | exact upd_same | (rw [upd_ne (by first | assumption | exact Ne.symm (by assumption))]; first | assumption | exact upd_same))))) | exact Or.inr (SqT.of (by (first | assumption | exact upd_same | (rw [upd_ne (by first | assumption | exact Ne.symm (by assumption))]; first | assumption | exact upd_same | (rw [upd_ne (by first | assumption | exact Ne.symm (by assumption))]; first | assumption | exact upd_same))))) | exact Or.inl ⟨rfl, _, SqL.of (by (first | assumption | exact upd_same | (rw [upd_ne (by first | assumption | exact Ne.symm (by assumption))]; first | assumption | exact upd_same | (rw [upd_ne (by first | assumption | exact Ne.symm (by assumption))]; first | assumption | exact upd_same))))⟩ | (first | assumption | exact upd_same | (rw [upd_ne (by first | assumption | exact Ne.symm (by assumption))]; first | assumption | exact upd_same | (rw [upd_ne (by first | assumption | exact Ne.symm (by assumption))]; first | assumption | exact upd_same))) | decide | exact Nat.le_of_ble_eq_true rfl | omega | (show ∃ xs, SqL _ _ _ xs; exact ⟨_, SqL.of (by (first | assumption | exact upd_same | (rw [upd_ne (by first | assumption | exact Ne.symm (by assumption))]; first | assumption | exact upd_same | (rw [upd_ne (by first | assumption | exact Ne.symm (by assumption))]; first | assumption | exact upd_same))))⟩) | (show ∃ xs, SqT _ _ _ xs; exact ⟨_, SqT.of (by (first | assumption | exact upd_same | (rw [upd_ne (by first | assumption | exact Ne.symm (by assumption))]; first | assumption | exact upd_same | (rw [upd_ne (by first | assumption | exact Ne.symm (by assumption))]; first | assumption | exact upd_same))))⟩) | exact DGet.k (k := Sum.inl _) (by (first | assumption | exact upd_same | (rw [upd_ne (by first | assumption | exact Ne.symm (by assumption))]; first | assumption | exact upd_same | (rw [upd_ne (by first | assumption | exact Ne.symm (by assumption))]; first | assumption | exact upd_same)))) | (show V.int _ = kV (Sum.inl _); rfl) | (show ∃ z, V.str _ = V.str z; exact ⟨_, rfl⟩) | exact Or.inl ⟨by (first | decide | omega), by (first | decide | omega)⟩ | exact Or.inr ⟨by (first | decide | omega), by (first | decide | omega)⟩ | exact ⟨by (first | decide | omega), by (first | decide | omega)⟩ | exact ⟨by decide, by decide, by decide⟩ | exact L2.ClsV.ty _ | exact Dt.ty (by assumption) | exact Dt.kint (by assumption) | exact Dt.kbool (by assumption) | exact Dt.ktuple (by assumption) | exact Dt.klist (by assumption) | exact Dt.kstr (by assumption))) | (apply Exists.intro; apply Exists.intro; apply And.intro; focus (first | rfl | assumption | exact upd_same | exact SqL.of (by (first | assumption | exact upd_same | (rw [upd_ne (by first | assumption | exact Ne.symm (by assumption))]; first | assumption | exact upd_same | (rw [upd_ne (by first | assumption | exact Ne.symm (by assumption))]; first | assumption | exact upd_same)))) | exact SqT.of (by (first | assumption | exact upd_same | (rw [upd_ne (by first | assumption | exact Ne.symm (by assumption))]; first | assumption | exact upd_same | (rw [upd_ne (by first | assumption | exact Ne.symm (by assumption))]; first | assumption | exact upd_same)))) | exact Or.inl (SqL.of (by (first | assumption | exact upd_same | (rw [upd_ne (by first | assumption | exact Ne.symm (by assumption))]; first | assumption | exact upd_same | (rw [upd_ne (by first | assumption | exact Ne.symm (by assumption))]; first | assumption | exact upd_same))))) | exact Or.inr (SqT.of (by (first | assumption | exact upd_same | (rw [upd_ne (by first | assumption | exact Ne.symm (by assumption))]; first | assumption | exact upd_same | (rw [upd_ne (by first | assumption | exact Ne.symm (by assumption))]; first | assumption | exact upd_same))))) | exact Or.inl ⟨rfl, _, SqL.of (by (first | assumption | exact upd_same | (rw [upd_ne (by first | assumption | exact Ne.symm (by assumption))]; first | assumption | exact upd_same | (rw [upd_ne (by first | assumption | exact Ne.symm (by assumption))]; first | assumption | exact upd_same))))⟩ | (first | assumption | exact upd_same | (rw [upd_ne (by first | assumption | exact Ne.symm (by assumption))]; first | assumption | exact upd_same | (rw [upd_ne (by first | assumption | exact Ne.symm (by assumption))]; first | assumption | exact upd_same))) | decide | exact Nat.le_of_ble_eq_true rfl | omega | (show ∃ xs, SqL _ _ _ xs; exact ⟨_, SqL.of (by (first | assumption | exact upd_same | (rw [upd_ne (by first | assumption | exact Ne.symm (by assumption))]; first | assumption | exact upd_same | (rw [upd_ne (by first | assumption | exact Ne.symm (by assumption))]; first | assumption | exact upd_same))))⟩) | (show ∃ xs, SqT _ _ _ xs; exact ⟨_, SqT.of (by (first | assumption | exact upd_same | (rw [upd_ne (by first | assumption | exact Ne.symm (by assumption))]; first | assumption | exact upd_same | (rw [upd_ne (by first | assumption | exact Ne.symm (by assumption))]; first | assumption | exact upd_same))))⟩) | exact DGet.k (k := Sum.inl _) (by (first | assumption | exact upd_same | (rw [upd_ne (by first | assumption | exact Ne.symm (by assumption))]; first | assumption | exact upd_same | (rw [upd_ne (by first | assumption | exact Ne.symm (by assumption))]; first | assumption | exact upd_same)))) | (show V.int _ = kV (Sum.inl _); rfl) | (show ∃ z, V.str _ = V.str z; exact ⟨_, rfl⟩) | exact Or.inl ⟨by (first | decide | omega), by (first | decide | omega)⟩ | exact Or.inr ⟨by (first | decide | omega), by (first | decide | omega)⟩ | exact ⟨by (first | decide | omega), by (first | decide | omega)⟩ | exact ⟨by decide, by decide, by decide⟩ | exact L2.ClsV.ty _ | exact Dt.ty (by assumption) | exact Dt.kint (by assumption) | exact Dt.kbool (by assumption) | exact Dt.ktuple (by assumption) | exact Dt.klist (by assumption) | exact Dt.kstr (by assumption))) | (apply Exists.intro; apply Exists.intro; apply Exists.intro; apply And.intro; focus (first | rfl | assumption | exact upd_same | exact SqL.of (by (first | assumption | exact upd_same | (rw [upd_ne (by first | assumption | exact Ne.symm (by assumption))]; first | assumption | exact upd_same | (rw [upd_ne (by first | assumption | exact Ne.symm (by assumption))]; first | assumption | exact upd_same)))) | exact SqT.of (by (first | assumption | exact upd_same | (rw [upd_ne (by first | assumption | exact Ne.symm (by assumption))]; first | assumption | exact upd_same | (rw [upd_ne (by first | assumption | exact Ne.symm (by assumption))]; first | assumption | exact upd_same)))) | exact Or.inl (SqL.of (by (first | assumption | exact upd_same | (rw [upd_ne (by first | assumption | exact Ne.symm (by assumption))]; first | assumption | exact upd_same | (rw [upd_ne (by first | assumption | exact Ne.symm (by assumption))]; first | assumption | exact upd_same))))) | exact Or.inr (SqT.of (by (first | assumption | exact upd_same | (rw [upd_ne (by first | assumption | exact Ne.symm (by assumption))]; first | assumption | exact upd_same | (rw [upd_ne (by first | assumption | exact Ne.symm (by assumption))]; first | assumption | exact upd_same))))) | exact Or.inl ⟨rfl, _, SqL.of (by (first | assumption | exact upd_same | (rw [upd_ne (by first | assumption | exact Ne.symm (by assumption))]; first | assumption | exact upd_same | (rw [upd_ne (by first | assumption | exact Ne.symm (by assumption))]; first | assumption | exact upd_same))))⟩ | (first | assumption | exact upd_same | (rw [upd_ne (by first | assumption | exact Ne.symm (by assumption))]; first | assumption | exact upd_same | (rw [upd_ne (by first | assumption | exact Ne.symm (by assumption))]; first | assumption | exact upd_same))) | decide | exact Nat.le_of_ble_eq_true rfl | omega | (show ∃ xs, SqL _ _ _ xs; exact ⟨_, SqL.of (by (first | assumption | exact upd_same | (rw [upd_ne (by first | assumption | exact Ne.symm (by assumption))]; first | assumption | exact upd_same | (rw [upd_ne (by first | assumption | exact Ne.symm (by assumption))]; first | assumption | exact upd_same))))⟩) | (show ∃ xs, SqT _ _ _ xs; exact ⟨_, SqT.of (by (first | assumption | exact upd_same | (rw [upd_ne (by first | assumption | exact Ne.symm (by assumption))]; first | assumption | exact upd_same | (rw [upd_ne (by first | assumption | exact Ne.symm (by assumption))]; first | assumption | exact upd_same))))⟩) | exact DGet.k (k := Sum.inl _) (by (first | assumption | exact upd_same | (rw [upd_ne (by first | assumption | exact Ne.symm (by assumption))]; first | assumption | exact upd_same | (rw [upd_ne (by first | assumption | exact Ne.symm (by assumption))]; first | assumption | exact upd_same)))) | (show V.int _ = kV (Sum.inl _); rfl) | (show ∃ z, V.str _ = V.str z; exact ⟨_, rfl⟩) | exact Or.inl ⟨by (first | decide | omega), by (first | decide | omega)⟩ | exact Or.inr ⟨by (first | decide | omega), by (first | decide | omega)⟩ | exact ⟨by (first | decide | omega), by (first | decide | omega)⟩ | exact ⟨by decide, by decide, by decide⟩ | exact L2.ClsV.ty _ | exact Dt.ty (by assumption) | exact Dt.kint (by assumption) | exact Dt.kbool (by assumption) | exact Dt.ktuple (by assumption) | exact Dt.klist (by assumption) | exact Dt.kstr (by assumption))) | (apply Exists.intro; apply Exists.intro; apply Exists.intro; apply Exists.intro; apply And.intro; focus (first | rfl | assumption | exact upd_same | exact SqL.of (by (first | assumption | exact upd_same | (rw [upd_ne (by first | assumption | exact Ne.symm (by assumption))]; first | assumption | exact upd_same | (rw [upd_ne (by first | assumption | exact Ne.symm (by assumption))]; first | assumption | exact upd_same)))) | exact SqT.of (by (first | assumption | exact upd_same | (rw [upd_ne (by first | assumption | exact Ne.symm (by assumption))]; first | assumption | exact upd_same | (rw [upd_ne (by first | assumption | exact Ne.symm (by assumption))]; first | assumption | exact upd_same)))) | exact Or.inl (SqL.of (by (first | assumption | exact upd_same | (rw [upd_ne (by first | assumption | exact Ne.symm (by assumption))]; first | assumption | exact upd_same | (rw [upd_ne (by first | assumption | exact Ne.symm (by assumption))]; first | assumption | exact upd_same))))) | exact Or.inr (SqT.of (by (first | assumption | exact upd_same | (rw [upd_ne (by first | assumption | exact Ne.symm (by assumption))]; first | assumption | exact upd_same | (rw [upd_ne (by first | assumption | exact Ne.symm (by assumption))]; first | assumption | exact upd_same))))) | exact Or.inl ⟨rfl, _, SqL.of (by (first | assumption | exact upd_same | (rw [upd_ne (by first | assumption | exact Ne.symm (by assumption))]; first | assumption | exact upd_same | (rw [upd_ne (by first | assumption | exact Ne.symm (by assumption))]; first | assumption | exact upd_same))))⟩ | (first | assumption | exact upd_same | (rw [upd_ne (by first | assumption | exact Ne.symm (by assumption))]; first | assumption | exact upd_same | (rw [upd_ne (by first | assumption | exact Ne.symm (by assumption))]; first | assumption | exact upd_same))) | decide | exact Nat.le_of_ble_eq_true rfl | omega | (show ∃ xs, SqL _ _ _ xs; exact ⟨_, SqL.of (by (first | assumption | exact upd_same | (rw [upd_ne (by first | assumption | exact Ne.symm (by assumption))]; first | assumption | exact upd_same | (rw [upd_ne (by first | assumption | exact Ne.symm (by assumption))]; first | assumption | exact upd_same))))⟩) | (show ∃ xs, SqT _ _ _ xs; exact ⟨_, SqT.of (by (first | assumption | exact upd_same | (rw [upd_ne (by first | assumption | exact Ne.symm (by assumption))]; first | assumption | exact upd_same | (rw [upd_ne (by first | assumption | exact Ne.symm (by assumption))]; first | assumption | exact upd_same))))⟩) | exact DGet.k (k := Sum.inl _) (by (first | assumption | exact upd_same | (rw [upd_ne (by first | assumption | exact Ne.symm (by assumption))]; first | assumption | exact upd_same | (rw [upd_ne (by first | assumption | exact Ne.symm (by assumption))]; first | assumption | exact upd_same)))) | (show V.int _ = kV (Sum.inl _); rfl) | (show ∃ z, V.str _ = V.str z; exact ⟨_, rfl⟩) | exact Or.inl ⟨by (first | decide | omega), by (first | decide | omega)⟩ | exact Or.inr ⟨by (first | decide | omega), by (first | decide | omega)⟩ | exact ⟨by (first | decide | omega), by (first | decide | omega)⟩ | exact ⟨by decide, by decide, by decide⟩ | exact L2.ClsV.ty _ | exact Dt.ty (by assumption) | exact Dt.kint (by assumption) | exact Dt.kbool (by assumption) | exact Dt.ktuple (by assumption) | exact Dt.klist (by assumption) | exact Dt.kstr (by assumption))) | (apply Exists.intro; apply Exists.intro; apply Exists.intro; apply Exists.intro; apply Exists.intro; apply And.intro; focus (first | rfl | assumption | exact upd_same | exact SqL.of (by (first | assumption | exact upd_same | (rw [upd_ne (by first | assumption | exact Ne.symm (by assumption))]; first | assumption | exact upd_same | (rw [upd_ne (by first | assumption | exact Ne.symm (by assumption))]; first | assumption | exact upd_same)))) | exact SqT.of (by (first | assumption | exact upd_same | (rw [upd_ne (by first | assumption | exact Ne.symm (by assumption))]; first | assumption | exact upd_same | (rw [upd_ne (by first | assumption | exact Ne.symm (by assumption))]; first | assumption | exact upd_same)))) | exact Or.inl (SqL.of (by (first | assumption | exact upd_same | (rw [upd_ne (by first | assumption | exact Ne.symm (by assumption))]; first | assumption | exact upd_same | (rw [upd_ne (by first | assumption | exact Ne.symm (by assumption))]; first | assumption | exact upd_same))))) | exact Or.inr (SqT.of (by (first | assumption | exact upd_same | (rw [upd_ne (by first | assumption | exact Ne.symm (by assumption))]; first | assumption | exact upd_same | (rw [upd_ne (by first | assumption | exact Ne.symm (by assumption))]; first | assumption | exact upd_same))))) | exact Or.inl ⟨rfl, _, SqL.of (by (first | assumption | exact upd_same | (rw [upd_ne (by first | assumption | exact Ne.symm (by assumption))]; first | assumption | exact upd_same | (rw [upd_ne (by first | assumption | exact Ne.symm (by assumption))]; first | assumption | exact upd_same))))⟩ | (first | assumption | exact upd_same | (rw [upd_ne (by first | assumption | exact Ne.symm (by assumption))]; first | assumption | exact upd_same | (rw [upd_ne (by first | assumption | exact Ne.symm (by assumption))]; first | assumption | exact upd_same))) | decide | exact Nat.le_of_ble_eq_true rfl | omega | (show ∃ xs, SqL _ _ _ xs; exact ⟨_, SqL.of (by (first | assumption | exact upd_same | (rw [upd_ne (by first | assumption | exact Ne.symm (by assumption))]; first | assumption | exact upd_same | (rw [upd_ne (by first | assumption | exact Ne.symm (by assumption))]; first | assumption | exact upd_same))))⟩) | (show ∃ xs, SqT _ _ _ xs; exact ⟨_, SqT.of (by (first | assumption | exact upd_same | (rw [upd_ne (by first | assumption | exact Ne.symm (by assumption))]; first | assumption | exact upd_same | (rw [upd_ne (by first | assumption | exact Ne.symm (by assumption))]; first | assumption | exact upd_same))))⟩) | exact DGet.k (k := Sum.inl _) (by (first | assumption | exact upd_same | (rw [upd_ne (by first | assumption | exact Ne.symm (by assumption))]; first | assumption | exact upd_same | (rw [upd_ne (by first | assumption | exact Ne.symm (by assumption))]; first | assumption | exact upd_same)))) | (show V.int _ = kV (Sum.inl _); rfl) | (show ∃ z, V.str _ = V.str z; exact ⟨_, rfl⟩) | exact Or.inl ⟨by (first | decide | omega), by (first | decide | omega)⟩ | exact Or.inr ⟨by (first | decide | omega), by (first | decide | omega)⟩ | exact ⟨by (first | decide | omega), by (first | decide | omega)⟩ | exact ⟨by decide, by decide, by decide⟩ | exact L2.ClsV.ty _ | exact Dt.ty (by assumption) | exact Dt.kint (by assumption) | exact Dt.kbool (by assumption) | exact Dt.ktuple (by assumption) | exact Dt.klist (by assumption) | exact Dt.kstr (by assumption))) | (apply Exists.intro; apply Exists.intro; apply Exists.intro; apply Exists.intro; apply Exists.intro; apply Exists.intro; apply And.intro; focus (first | rfl | assumption | exact upd_same | exact SqL.of (by (first | assumption | exact upd_same | (rw [upd_ne (by first | assumption | exact Ne.symm (by assumption))]; first | assumption | exact upd_same | (rw [upd_ne (by first | assumption | exact Ne.symm (by assumption))]; first | assumption | exact upd_same)))) | exact SqT.of (by (first | assumption | exact upd_same | (rw [upd_ne (by first | assumption | exact Ne.symm (by assumption))]; first | assumption | exact upd_same | (rw [upd_ne (by first | assumption | exact Ne.symm (by assumption))]; first | assumption | exact upd_same)))) | exact Or.inl (SqL.of (by (first | assumption | exact upd_same | (rw [upd_ne (by first | assumption | exact Ne.symm (by assumption))]; first | assumption | exact upd_same | (rw [upd_ne (by first | assumption | exact Ne.symm (by assumption))]; first | assumption | exact upd_same))))) | exact Or.inr (SqT.of (by (first | assumption | exact upd_same | (rw [upd_ne (by first | assumption | exact Ne.symm (by assumption))]; first | assumption | exact upd_same | (rw [upd_ne (by first | assumption | exact Ne.symm (by assumption))]; first | assumption | exact upd_same))))) | exact Or.inl ⟨rfl, _, SqL.of (by (first | assumption | exact upd_same | (rw [upd_ne (by first | assumption | exact Ne.symm (by assumption))]; first | assumption | exact upd_same | (rw [upd_ne (by first | assumption | exact Ne.symm (by assumption))]; first | assumption | exact upd_same))))⟩ | (first | assumption | exact upd_same | (rw [upd_ne (by first | assumption | exact Ne.symm (by assumption))]; first | assumption | exact upd_same | (rw [upd_ne (by first | assumption | exact Ne.symm (by assumption))]; first | assumption | exact upd_same))) | decide | exact Nat.le_of_ble_eq_true rfl | omega | (show ∃ xs, SqL _ _ _ xs; exact ⟨_, SqL.of (by (first | assumption | exact upd_same | (rw [upd_ne (by first | assumption | exact Ne.symm (by assumption))]; first | assumption | exact upd_same | (rw [upd_ne (by first | assumption | exact Ne.symm (by assumption))]; first | assumption | exact upd_same))))⟩) | (show ∃ xs, SqT _ _ _ xs; exact ⟨_, SqT.of (by (first | assumption | exact upd_same | (rw [upd_ne (by first | assumption | exact Ne.symm (by assumption))]; first | assumption | exact upd_same | (rw [upd_ne (by first | assumption | exact Ne.symm (by assumption))]; first | assumption | exact upd_same))))⟩) | exact DGet.k (k := Sum.inl _) (by (first | assumption | exact upd_same | (rw [upd_ne (by first | assumption | exact Ne.symm (by assumption))]; first | assumption | exact upd_same | (rw [upd_ne (by first | assumption | exact Ne.symm (by assumption))]; first | assumption | exact upd_same)))) | (show V.int _ = kV (Sum.inl _); rfl) | (show ∃ z, V.str _ = V.str z; exact ⟨_, rfl⟩) | exact Or.inl ⟨by (first | decide | omega), by (first | decide | omega)⟩ | exact Or.inr ⟨by (first | decide | omega), by (first | decide | omega)⟩ | exact ⟨by (first | decide | omega), by (first | decide | omega)⟩ | exact ⟨by decide, by decide, by decide⟩ | exact L2.ClsV.ty _ | exact Dt.ty (by assumption) | exact Dt.kint (by assumption) | exact Dt.kbool (by assumption) | exact Dt.ktuple (by assumption) | exact Dt.klist (by assumption) | exact Dt.kstr (by assumption))) | (apply Exists.intro; apply Exists.intro; apply Exists.intro; apply Exists.intro; apply Exists.intro; apply Exists.intro; apply Exists.intro; apply And.intro; focus (first | rfl | assumption | exact upd_same | exact SqL.of (by (first | assumption | exact upd_same | (rw [upd_ne (by first | assumption | exact Ne.symm (by assumption))]; first | assumption | exact upd_same | (rw [upd_ne (by first | assumption | exact Ne.symm (by assumption))]; first | assumption | exact upd_same)))) | exact SqT.of (by (first | assumption | exact upd_same | (rw [upd_ne (by first | assumption | exact Ne.symm (by assumption))]; first | assumption | exact upd_same | (rw [upd_ne (by first | assumption | exact Ne.symm (by assumption))]; first | assumption | exact upd_same)))) | exact Or.inl (SqL.of (by (first | assumption | exact upd_same | (rw [upd_ne (by first | assumption | exact Ne.symm (by assumption))]; first | assumption | exact upd_same | (rw [upd_ne (by first | assumption | exact Ne.symm (by assumption))]; first | assumption | exact upd_same))))) | exact Or.inr (SqT.of (by (first | assumption | exact upd_same | (rw [upd_ne (by first | assumption | exact Ne.symm (by assumption))]; first | assumption | exact upd_same | (rw [upd_ne (by first | assumption | exact Ne.symm (by assumption))]; first | assumption | exact upd_same))))) | exact Or.inl ⟨rfl, _, SqL.of (by (first | assumption | exact upd_same | (rw [upd_ne (by first | assumption | exact Ne.symm (by assumption))]; first | assumption | exact upd_same | (rw [upd_ne (by first | assumption | exact Ne.symm (by assumption))]; first | assumption | exact upd_same))))⟩ | (first | assumption | exact upd_same | (rw [upd_ne (by first | assumption | exact Ne.symm (by assumption))]; first | assumption | exact upd_same | (rw [upd_ne (by first | assumption | exact Ne.symm (by assumption))]; first | assumption | exact upd_same))) | decide | exact Nat.le_of_ble_eq_true rfl | omega | (show ∃ xs, SqL _ _ _ xs; exact ⟨_, SqL.of (by (first | assumption | exact upd_same | (rw [upd_ne (by first | assumption | exact Ne.symm (by assumption))]; first | assumption | exact upd_same | (rw [upd_ne (by first | assumption | exact Ne.symm (by assumption))]; first | assumption | exact upd_same))))⟩) | (show ∃ xs, SqT _ _ _ xs; exact ⟨_, SqT.of (by (first | assumption | exact upd_same | (rw [upd_ne (by first | assumption | exact Ne.symm (by assumption))]; first | assumption | exact upd_same | (rw [upd_ne (by first | assumption | exact Ne.symm (by assumption))]; first | assumption | exact upd_same))))⟩) | exact DGet.k (k := Sum.inl _) (by (first | assumption | exact upd_same | (rw [upd_ne (by first | assumption | exact Ne.symm (by assumption))]; first | assumption | exact upd_same | (rw [upd_ne (by first | assumption | exact Ne.symm (by assumption))]; first | assumption | exact upd_same)))) | (show V.int _ = kV (Sum.inl _); rfl) | (show ∃ z, V.str _ = V.str z; exact ⟨_, rfl⟩) | exact Or.inl ⟨by (first | decide | omega), by (first | decide | omega)⟩ | exact Or.inr ⟨by (first | decide | omega), by (first | decide | omega)⟩ | exact ⟨by (first | decide | omega), by (first | decide | omega)⟩ | exact ⟨by decide, by decide, by decide⟩ | exact L2.ClsV.ty _ | exact Dt.ty (by assumption) | exact Dt.kint (by assumption) | exact Dt.kbool (by assumption) | exact Dt.ktuple (by assumption) | exact Dt.klist (by assumption) | exact Dt.kstr (by assumption))) | (apply Exists.intro; apply Exists.intro; apply Exists.intro; apply Exists.intro; apply Exists.intro; apply Exists.intro; apply Exists.intro; apply Exists.intro; apply And.intro; focus (first | rfl | assumption | exact upd_same | exact SqL.of (by (first | assumption | exact upd_same | (rw [upd_ne (by first | assumption | exact Ne.symm (by assumption))]; first | assumption | exact upd_same | (rw [upd_ne (by first | assumption | exact Ne.symm (by assumption))]; first | assumption | exact upd_same)))) | exact SqT.of (by (first | assumption | exact upd_same | (rw [upd_ne (by first | assumption | exact Ne.symm (by assumption))]; first | assumption | exact upd_same | (rw [upd_ne (by first | assumption | exact Ne.symm (by assumption))]; first | assumption | exact upd_same)))) | exact Or.inl (SqL.of (by (first | assumption | exact upd_same | (rw [upd_ne (by first | assumption | exact Ne.symm (by assumption))]; first | assumption | exact upd_same | (rw [upd_ne (by first | assumption | exact Ne.symm (by assumption))]; first | assumption | exact upd_same))))) | exact Or.inr (SqT.of (by (first | assumption | exact upd_same | (rw [upd_ne (by first | assumption | exact Ne.symm (by assumption))]; first | assumption | exact upd_same | (rw [upd_ne (by first | assumption | exact Ne.symm (by assumption))]; first | assumption | exact upd_same))))) | exact Or.inl ⟨rfl, _, SqL.of (by (first | assumption | exact upd_same | (rw [upd_ne (by first | assumption | exact Ne.symm (by assumption))]; first | assumption | exact upd_same | (rw [upd_ne (by first | assumption | exact Ne.symm (by assumption))]; first | assumption | exact upd_same))))⟩ | (first | assumption | exact upd_same | (rw [upd_ne (by first | assumption | exact Ne.symm (by assumption))]; first | assumption | exact upd_same | (rw [upd_ne (by first | assumption | exact Ne.symm (by assumption))]; first | assumption | exact upd_same))) | decide | exact Nat.le_of_ble_eq_true rfl | omega | (show ∃ xs, SqL _ _ _ xs; exact ⟨_, SqL.of (by (first | assumption | exact upd_same | (rw [upd_ne (by first | assumption | exact Ne.symm (by assumption))]; first | assumption | exact upd_same | (rw [upd_ne (by first | assumption | exact Ne.symm (by assumption))]; first | assumption | exact upd_same))))⟩) | (show ∃ xs, SqT _ _ _ xs; exact ⟨_, SqT.of (by (first | assumption | exact upd_same | (rw [upd_ne (by first | assumption | exact Ne.symm (by assumption))]; first | assumption | exact upd_same | (rw [upd_ne (by first | assumption | exact Ne.symm (by assumption))]; first | assumption | exact upd_same))))⟩) | exact DGet.k (k := Sum.inl _) (by (first | assumption | exact upd_same | (rw [upd_ne (by first | assumption | exact Ne.symm (by assumption))]; first | assumption | exact upd_same | (rw [upd_ne (by first | assumption | exact Ne.symm (by assumption))]; first | assumption | exact upd_same)))) | (show V.int _ = kV (Sum.inl _); rfl) | (show ∃ z, V.str _ = V.str z; exact ⟨_, rfl⟩) | exact Or.inl ⟨by (first | decide | omega), by (first | decide | omega)⟩ | exact Or.inr ⟨by (first | decide | omega), by (first | decide | omega)⟩ | exact ⟨by (first | decide | omega), by (first | decide | omega)⟩ | exact ⟨by decide, by decide, by decide⟩ | exact L2.ClsV.ty _ | exact Dt.ty (by assumption) | exact Dt.kint (by assumption) | exact Dt.kbool (by assumption) | exact Dt.ktuple (by assumption) | exact Dt.klist (by assumption) | exact Dt.kstr (by assumption))) | (apply Exists.intro; apply Exists.intro; apply Exists.intro; apply Exists.intro; apply Exists.intro; apply Exists.intro; apply Exists.intro; apply Exists.intro; apply Exists.intro; apply And.intro; focus (first | rfl | assumption | exact upd_same | exact SqL.of (by (first | assumption | exact upd_same | (rw [upd_ne (by first | assumption | exact Ne.symm (by assumption))]; first | assumption | exact upd_same | (rw [upd_ne (by first | assumption | exact Ne.symm (by assumption))]; first | assumption | exact upd_same)))) | exact SqT.of (by (first | assumption | exact upd_same | (rw [upd_ne (by first | assumption | exact Ne.symm (by assumption))]; first | assumption | exact upd_same | (rw [upd_ne (by first | assumption | exact Ne.symm (by assumption))]; first | assumption | exact upd_same)))) | exact Or.inl (SqL.of (by (first | assumption | exact upd_same | (rw [upd_ne (by first | assumption | exact Ne.symm (by assumption))]; first | assumption | exact upd_same | (rw [upd_ne (by first | assumption | exact Ne.symm (by assumption))]; first | assumption | exact upd_same))))) | exact Or.inr (SqT.of (by (first | assumption | exact upd_same | (rw [upd_ne (by first | assumption | exact Ne.symm (by assumption))]; first | assumption | exact upd_same | (rw [upd_ne (by first | assumption | exact Ne.symm (by assumption))]; first | assumption | exact upd_same))))) | exact Or.inl ⟨rfl, _, SqL.of (by (first | assumption | exact upd_same | (rw [upd_ne (by first | assumption | exact Ne.symm (by assumption))]; first | assumption | exact upd_same | (rw [upd_ne (by first | assumption | exact Ne.symm (by assumption))]; first | assumption | exact upd_same))))⟩ | (first | assumption | exact upd_same | (rw [upd_ne (by first | assumption | exact Ne.symm (by assumption))]; first | assumption | exact upd_same | (rw [upd_ne (by first | assumption | exact Ne.symm (by assumption))]; first | assumption | exact upd_same))) | decide | exact Nat.le_of_ble_eq_true rfl | omega | (show ∃ xs, SqL _ _ _ xs; exact ⟨_, SqL.of (by (first | assumption | exact upd_same | (rw [upd_ne (by first | assumption | exact Ne.symm (by assumption))]; first | assumption | exact upd_same | (rw [upd_ne (by first | assumption | exact Ne.symm (by assumption))]; first | assumption | exact upd_same))))⟩) | (show ∃ xs, SqT _ _ _ xs; exact ⟨_, SqT.of (by (first | assumption | exact upd_same | (rw [upd_ne (by first | assumption | exact Ne.symm (by assumption))]; first | assumption | exact upd_same | (rw [upd_ne (by first | assumption | exact Ne.symm (by assumption))]; first | assumption | exact upd_same))))⟩) | exact DGet.k (k := Sum.inl _) (by (first | assumption | exact upd_same | (rw [upd_ne (by first | assumption | exact Ne.symm (by assumption))]; first | assumption | exact upd_same | (rw [upd_ne (by first | assumption | exact Ne.symm (by assumption))]; first | assumption | exact upd_same)))) | (show V.int _ = kV (Sum.inl _); rfl) | (show ∃ z, V.str _ = V.str z; exact ⟨_, rfl⟩) | exact Or.inl ⟨by (first | decide | omega), by (first | decide | omega)⟩ | exact Or.inr ⟨by (first | decide | omega), by (first | decide | omega)⟩ | exact ⟨by (first | decide | omega), by (first | decide | omega)⟩ | exact ⟨by decide, by decide, by decide⟩ | exact L2.ClsV.ty _ | exact Dt.ty (by assumption) | exact Dt.kint (by assumption) | exact Dt.kbool (by assumption) | exact Dt.ktuple (by assumption) | exact Dt.klist (by assumption) | exact Dt.kstr (by assumption))) | refine Or.inl ⟨_, rfl, ?_⟩ | refine Or.inr ⟨_, rfl, ?_⟩ | refine Or.inr ⟨SqT.of (by (first | assumption | exact upd_same | (rw [upd_ne (by first | assumption | exact Ne.symm (by assumption))]; first | assumption | exact upd_same | (rw [upd_ne (by first | assumption | exact Ne.symm (by assumption))]; first | assumption | exact upd_same)))), SqT.of (by (first | assumption | exact upd_same | (rw [upd_ne (by first | assumption | exact Ne.symm (by assumption))]; first | assumption | exact upd_same | (rw [upd_ne (by first | assumption | exact Ne.symm (by assumption))]; first | assumption | exact upd_same)))), ?_⟩ | refine Or.inl ⟨SqL.of (by (first | assumption | exact upd_same | (rw [upd_ne (by first | assumption | exact Ne.symm (by assumption))]; first | assumption | exact upd_same | (rw [upd_ne (by first | assumption | exact Ne.symm (by assumption))]; first | assumption | exact upd_same)))), SqL.of (by (first | assumption | exact upd_same | (rw [upd_ne (by first | assumption | exact Ne.symm (by assumption))]; first | assumption | exact upd_same | (rw [upd_ne (by first | assumption | exact Ne.symm (by assumption))]; first | assumption | exact upd_same)))), ?_⟩ | refine Or.inl ⟨SqL.of (by (first | assumption | exact upd_same | (rw [upd_ne (by first | assumption | exact Ne.symm (by assumption))]; first | assumption | exact upd_same | (rw [upd_ne (by first | assumption | exact Ne.symm (by assumption))]; first | assumption | exact upd_same)))), ?_⟩ | refine Or.inr ⟨SqT.of (by (first | assumption | exact upd_same | (rw [upd_ne (by first | assumption | exact Ne.symm (by assumption))]; first | assumption | exact upd_same | (rw [upd_ne (by first | assumption | exact Ne.symm (by assumption))]; first | assumption | exact upd_same)))), ?_⟩ | refine ifT rfl ?_ | refine ifF rfl ?_))
def dk (ks : List Int) : List (Key × V) := ks.map fun k => (Sum.inl k, V.bl true)
theorem dk_in {ks : List Int} {p : Int} (h : p ∈ ks) : valV (dk ks) (Sum.inl p) = some (.bl true) := by
  induction ks with
  | nil => simp at h
  | cons k ks ih =>
    by_cases e : k = p
    · subst e; exact valV_pos rfl
    · exact (valV_neg (p := (Sum.inl k, V.bl true)) (by simpa using e)).trans (ih (by rcases List.mem_cons.mp h with z | z; exact absurd z.symm e; exact z))
theorem dk_no {ks : List Int} {p : Int} (h : p ∉ ks) : valV (dk ks) (Sum.inl p) = none := by
  induction ks with
  | nil => rfl
  | cons k ks ih =>
    have e : k ≠ p := fun z => h (by rw [z]; exact List.mem_cons_self ..)
    exact (valV_neg (p := (Sum.inl k, V.bl true)) (by simpa using e)).trans (ih fun z => h (List.mem_cons_of_mem _ z))
theorem dk_drop {ks : List Int} {p : Int} : dropK (dk ks) (Sum.inl p) = dk (ks.filter fun q => decide (q ≠ p)) := by
  induction ks with
  | nil => rfl
  | cons k ks ih =>
    have ih' : List.filter (fun kv : Key × V => decide (kv.1 ≠ Sum.inl p)) (dk ks) = dk (ks.filter fun q => decide (q ≠ p)) := ih
    show List.filter _ ((Sum.inl k, V.bl true) :: dk ks) = _
    by_cases e : k = p
    · rw [List.filter_cons_of_neg (by simp [e]), List.filter_cons_of_neg (by simp [e]), ih']
    · rw [List.filter_cons_of_pos (by simp [e]), List.filter_cons_of_pos (by simp [e]), ih']
      rfl
theorem dk_put {ks : List Int} {p : Int} (h : p ∉ ks) : putK (dk ks) (Sum.inl p) (.bl true) = dk (ks ++ [p]) := by
  unfold putK
  rw [valV_any, dk_no h]
  simp [dk]
theorem mS_drop {ks : List Int} {p : Int} : mS (ks.filter fun q => decide (q ≠ p)) = put (mS ks) p false := by
  funext q
  by_cases e : q = p
  · subst e; simp [put]
  · simp [put, e]
theorem mS_put {ks : List Int} {p : Int} : mS (ks ++ [p]) = put (mS ks) p true := by
  funext q
  by_cases e : q = p
  · subst e; simp [put]
  · simp [put, e]
theorem Vs_mono {S T : Int → Bool} (h : ∀ q, S q = true → T q = true) : ∀ n : Nat, Vs S n ≤ Vs T n
  | 0 => by
    simp only [Vs]
    cases a : S (-1)
    · simp
    · rw [h _ a]; simp
  | j + 1 => by
    have := Vs_mono h j
    simp only [Vs]
    cases a : S (j : Int)
    · simp; omega
    · rw [h _ a]; simp; omega
theorem Vs_nil : ∀ n : Nat, Vs (mS []) n = 0
  | 0 => rfl
  | j + 1 => by rw [Vs, Vs_nil j]; rfl
/-- one number more of a share -/
theorem Vs_take {ns : List Int} (h : Sh ns) {n : Nat} (hb : Bd n ns) {j : Nat} {q : Int} (e : ns[j]? = some q) : Vs (mS (ns.take (j + 1))) (n + 1) = Vs (mS (ns.take j)) (n + 1) + 2 ^ (n + 1 - (q + 1).toNat) := by
  have hq := List.mem_of_getElem? e
  have t : ns.take (j + 1) = ns.take j ++ [q] := by rw [List.take_add_one, e]; rfl
  have a := h.asc
  have nq : q ∉ ns.take j := fun z => by
    rw [← List.take_append_drop (j + 1) ns, t] at a
    have b := (List.pairwise_append.mp (List.pairwise_append.mp a).1).2.2 q z q (by simp)
    omega
  rw [t, mS_put, Vs_put (decide_eq_false nq) (by have := h.nn q hq; omega) (hb q hq)]
def mu4 (σ : L2.St) : Nat := match σ[4]? with
  | some (some (V.int p)) => (p + 2).toNat
  | _ => 0
structure DI (D : Addr) (H0 : Hp) (n : Nat) (ks : List Int) (c : Nat) (H : Hp) : Prop where
  s : Same H0 H
  e : H D = some (.dK (dk ks))
  nd : ks.Nodup
  b : ∀ q ∈ ks, -1 ≤ q ∧ q < ((n + 1 : Nat) : Int)
  l : ks.length ≤ c
theorem DI.del {D : Addr} {H0 H : Hp} {n c : Nat} {ks : List Int} {p : Int} (d : DI D H0 n ks c H) (nD : H0 D = none) (h : p ∈ ks) : DI D H0 n (ks.filter fun q => decide (q ≠ p)) c (upd H D (.dK (dropK (dk ks) (Sum.inl p)))) :=
  ⟨sput d.s nD, by rw [dk_drop]; exact upd_same, d.nd.filter _, fun q hq => d.b q (List.mem_filter.mp hq).1, Nat.le_trans (List.length_filter_le _ _) d.l⟩
theorem DI.add {D : Addr} {H0 H : Hp} {n c : Nat} {ks : List Int} {p : Int} (d : DI D H0 n ks c H) (nD : H0 D = none) (h : p ∉ ks) (h1 : -1 ≤ p) (h2 : p < ((n + 1 : Nat) : Int)) : DI D H0 n (ks ++ [p]) (c + 1) (upd H D (.dK (putK (dk ks) (Sum.inl p) (.bl true)))) :=
  ⟨sput d.s nD, by rw [dk_put h]; exact upd_same, List.nodup_append.mpr ⟨d.nd, by simp, fun a ha b hb e => h (by simp at hb; rw [← hb, ← e]; exact ha)⟩, fun q hq => by
    rcases List.mem_append.mp hq with z | z
    · exact d.b q z
    · simp at z; subst z; exact ⟨h1, h2⟩, by have := d.l; simp; omega⟩
def spMerged : Sp := fun vs H Q _ => ∃ (n : Nat) (s a b : Addr) (ns ms : List Int), vs = [.ref s] ∧ H s = some (.tup [.ref a, .ref b]) ∧ H a = some (.tup (ns.map V.int)) ∧ H b = some (.tup (ms.map V.int)) ∧
  Sh ns ∧ Sh ms ∧ Bd n ns ∧ Bd n ms ∧ ns.length + ms.length ≤ 63 ∧ ∀ p H' ks, Same H H' → H' p = some (.tup (ks.map V.int)) → ks.Pairwise (· < ·) → (∀ q ∈ ks, -1 ≤ q ∧ q < ((n + 1 : Nat) : Int)) →
  Vs (mS ks) (n + 1) = Vs (mS ns) (n + 1) + Vs (mS ms) (n + 1) → ks.length ≤ ns.length + ms.length → Q (.ref p) H'
section
variable {P : Program} {w : World} {K : PySem.W.Frag} {mg : Str → Option Value} {base : Heap}
theorem d_merged (B : Bi mg) (F : FunAt K mg "merged" s_merged) : Has P w K mg base 1 "merged" ["shares"] spMerged := by
  refine mk_has F sc_merged (fun _ _ _ _ _ _ us hl => match us, hl with | [_], _ => rfl) (fun vs H Q E h => ?_) fun f cdv A outer s H vs Q E hr h => ?_
  · obtain ⟨n, s, a, b, ns, ms, rfl, _⟩ := h
    rfl
  obtain ⟨n, s, a, b, ns, ms, rfl, es, ea, eb, hns, hms, bn, bm, hl, k⟩ := h
  have hu := hu_of hr
  refine ⟨_, (pss_cons (ps_set (i := 1) sc_merged.nd rfl (Or.inl rfl) pe_dnewK)
    (pss_cons (ps_for PassesOwn.never rfl (pi_tup (pv 0)) (pg_name (i := 2) sc_merged.nd rfl (Or.inl rfl))
    (pss_one (ps_for PassesOwn.never rfl (pi_tup (pv 2)) (pg_name (i := 3) sc_merged.nd rfl (Or.inl rfl))
    (pss_cons (ps_set (i := 4) sc_merged.nd rfl (Or.inl rfl) (pv 3))
    (pss_cons (ps_while PassesOwn.never (pt_cmp (pc_din hu (pv 4) (pv 1)))
    (pss_cons (ps_ddel (pv 1) (pv 4))
    (pss_one (ps_aug (i := 4) sc_merged.nd rfl (Or.inl rfl) pe_int ip_sub))))
    (pss_one (ps_dput hu (pv 1) (pv 4) pe_bl rfl)))))))
    (pss_one (ps_ret (pe_callTy call_tuple_of rfl B.tuple (by decide +kernel) (pa_cons (pe_callB (call_sortedDI rfl) rfl B.sorted (by decide +kernel) (pa_cons (pv 1) pa_nil)) pa_nil)))))), ?_⟩
  intro D nD
  have sD := same_new0 (o := .dK []) nD
  have es1 := sD _ _ es
  have p2 : 0 < 2 ^ n := Nat.pow_pos (by decide)
  have p21 : 2 ^ (n + 1) = 2 ^ n + 2 ^ n := by rw [Nat.pow_succ]; omega
  trivial
  let tt : Nat → Nat := fun i => match i with | 0 => 0 | 1 => Vs (mS ns) (n + 1) | _ => Vs (mS ns) (n + 1) + Vs (mS ms) (n + 1)
  let cc : Nat → Nat := fun i => match i with | 0 => 0 | 1 => ns.length | _ => ns.length + ms.length
  refine for_it (walk_tup (xs := [V.ref a, V.ref b])) (fun i σ H' => ∃ ks v2 v3 v4, σ = [some (.ref s), some (.ref D), v2, v3, v4] ∧ DI D H n ks (cc i) H' ∧ Vs (mS ks) (n + 1) = tt i) ?_ (fun i σ H' _ ⟨ks, v2, v3, v4, _, d, _⟩ => SqT.of (d.s _ _ es)) ?_ ?_
  · exact ⟨[], _, _, _, rfl, ⟨sD, upd_same, List.nodup_nil, by simp, Nat.zero_le _⟩, Vs_nil _⟩
  · rintro i x σ H1 H2 hi ⟨ks, v2, v3, v4, rfl, d, ev⟩ ⟨rfl, hx⟩
    obtain ⟨xa, l, rfl, ex, hsl, bl, et, ec, el, hcl⟩ : ∃ xa l, x = .ref xa ∧ H xa = some (.tup (l.map V.int)) ∧ Sh l ∧ Bd n l ∧ tt (i + 1) = tt i + Vs (mS l) (n + 1) ∧ cc (i + 1) = cc i + l.length ∧ tt i ≤ 2 ^ n ∧ cc (i + 1) ≤ 63 := by
      match i, hi with
      | 0, _ => exact ⟨a, ns, (Option.some.inj hx).symm, ea, hns, bn, by simp [tt], by simp [cc], Nat.zero_le _, by show ns.length ≤ 63; omega⟩
      | 1, _ => exact ⟨b, ms, (Option.some.inj hx).symm, eb, hms, bm, rfl, rfl, hns.le bn, hl⟩
    have ex1 := d.s _ _ ex
    trivial
    refine for_it (walk_tup (xs := l.map V.int)) (fun j σ H' => ∃ ks v3 v4, σ = [some (.ref s), some (.ref D), some (.ref xa), v3, v4] ∧ DI D H n ks (cc i + j) H' ∧ Vs (mS ks) (n + 1) = tt i + Vs (mS (l.take j)) (n + 1)) ?_ (fun j σ H' _ ⟨ks, v3, v4, _, d, _⟩ => SqT.of (d.s _ _ ex)) ?_ ?_
    · exact ⟨ks, _, _, rfl, d, by rw [List.take_zero, Vs_nil]; exact ev⟩
    · rintro j x σ H3 H4 hj ⟨ks, v3, v4, rfl, d, ev⟩ ⟨rfl, hx⟩
      obtain ⟨q, hq, rfl⟩ : ∃ q, l[j]? = some q ∧ x = .int q := by
        rw [List.getElem?_map] at hx
        obtain ⟨q, h1, h2⟩ := Option.map_eq_some_iff.mp hx
        exact ⟨q, h1, h2.symm⟩
      have q0 := hsl.nn q (List.mem_of_getElem? hq)
      have q1 := bl q (List.mem_of_getElem? hq)
      have ew := Vs_take hsl bl hq
      have em : Vs (mS (l.take (j + 1))) (n + 1) ≤ Vs (mS l) (n + 1) := Vs_mono (fun z hz => decide_eq_true (List.mem_of_mem_take (of_decide_eq_true hz))) _
      have el2 := hsl.le bl
      trivial
      refine while_by (fun σ H' => ∃ ks p, σ = [some (.ref s), some (.ref D), some (.ref xa), some (.int q), some (.int p)] ∧ DI D H n ks (cc i + j) H' ∧ -1 ≤ p ∧ p < ((n + 1 : Nat) : Int) ∧ Vs (mS ks) (n + 1) + 2 ^ (n + 1 - (p + 1).toNat) = tt i + Vs (mS (l.take (j + 1))) (n + 1))
        (fun σ _ => mu4 σ) ?_ ?_ ?_
      · exact ⟨ks, q, rfl, d, by omega, q1, by omega⟩
      · rintro σ H5 ⟨ks, p, rfl, d, p0, p1, ev⟩
        have eD := d.e
        trivial
        by_cases hm : p ∈ ks
        · refine ifT (by rw [dk_in hm]; rfl) ?_
          have nz : p ≠ -1 := fun z => by
            have := Vs_neg (S := mS ks) (decide_eq_true (z ▸ hm)) (n + 1)
            rw [z] at ev
            have e0 : 2 ^ (n + 1 - ((-1 : Int) + 1).toNat) = 2 ^ (n + 1) := rfl
            omega
          have ed := Vs_del (S := mS ks) (decide_eq_true hm) p0 p1
          have ew2 : 2 ^ (n + 1 - (p - 1 + 1).toNat) = 2 ^ (n + 1 - (p + 1).toNat) + 2 ^ (n + 1 - (p + 1).toNat) := by
            rw [show n + 1 - (p - 1 + 1).toNat = (n + 1 - (p + 1).toNat) + 1 by omega, Nat.pow_succ]
            omega
          have sm := dk_in hm
          trivial
          refine ⟨(show V.int p = kV (Sum.inl p) from rfl), by rw [sm]; rfl, ?_⟩
          trivial
          refine ⟨⟨_, p - 1, rfl, d.del nD hm, by omega, by omega, ?_⟩, ?_⟩
          · rw [mS_drop]; omega
          · show (p - 1 + 2).toNat < (p + 2).toNat; omega
        · refine ifF (by rw [dk_no hm]; rfl) ?_
          trivial
          refine ⟨DPut.k (k := Sum.inl p) eD (by rw [sizeLine_eq, dk, List.length_map]; have := d.l; have hj' : j < l.length := (by simpa using hj); omega), ?_⟩
          refine ⟨ks ++ [p], _, _, rfl, d.add nD hm p0 p1, ?_⟩
          rw [mS_put, Vs_put (decide_eq_false hm) p0 p1]
          exact ev
      · rintro σ H Q Q' hQ ⟨v, h1, v2, h2, a, o, e, g, c, e2, q⟩
        exact ⟨v, h1, v2, h2, a, o, e, g, c, e2, hQ _ _ q⟩
    · rintro σ H3 ⟨ks, v3, v4, rfl, d, ev⟩
      refine ⟨ks, _, _, _, rfl, ?_, ?_⟩
      · rw [ec]; simpa using d
      · rw [et, ev, List.take_of_length_le (by simp)]
  · rintro σ H1 ⟨ks, v2, v3, v4, rfl, d, ev⟩
    have eD := d.e
    have dl := d.l
    have dl' : ks.length ≤ ns.length + ms.length := dl
    refine ⟨_, rfl, _, _, ks, rfl, .inl eD, by simp [dk], by omega, fun ys p hp hy np => ?_⟩
    trivial
    intro p2 n2
    refine k p2 _ ys (snew (snew d.s np) n2) upd_same ?_ (fun q hq => d.b q (hp.mem_iff.mp hq)) ?_ (by rw [hp.length_eq]; exact dl')
    · exact List.Pairwise.imp₂ (fun h1 h2 => by omega) hy ((hp.nodup_iff).mpr d.nd)
    · rw [show mS ys = mS ks from funext fun q => decide_eq_decide.mpr hp.mem_iff]
      exact ev
end
end KQ
set_option Elab.async false
set_option maxRecDepth 100000
set_option maxHeartbeats 4000000
namespace KQ
open PySem PySem.Spec PyProof.Rows L2
local macro_rules | `(tactic| trivial) => `(tactic| repeat (first | (apply And.intro; focus (first | rfl | assumption | exact upd_same | exact SqL.of (by (first | assumption | exact upd_same | (rw [upd_ne (by first | assumption | exact Ne.symm (by assumption))]; first | assumption | exact upd_same | (rw [upd_ne (by first | assumption | exact Ne.symm (by assumption))]; first | assumption | exact upd_same)))) | exact SqT.of (by (first | assumption | exact upd_same | (rw [upd_ne (by first | assumption | exact Ne.symm (by assumption))]; first | assumption | exact upd_same | (rw [upd_ne (by first | assumption | exact Ne.symm (by assumption))]; first | assumption | exact upd_same)))) | exact Or.inl (SqL.of (by (first | assumption | exact upd_same | (rw [upd_ne (by first | assumption | exact Ne.symm (by assumption))]; first | assumption | exact upd_same | (rw [upd_ne (by first | assumption | exact Ne.symm (by assumption))]; first | assumption | exact upd_same))))) | exact Or.inr (SqT.of (by (first | assumption | exact upd_same | (rw [upd_ne (by first | assumption | exact Ne.symm (by assumption))]; first | assumption | exact upd_same | (rw [upd_ne (by first | assumption | exact Ne.symm (by assumption))]; first | assumption | exact upd_same))))) | exact Or.inl ⟨rfl, _, SqL.of (by (first | assumption | exact upd_same | (rw [upd_ne (by first | assumption | exact Ne.symm (by assumption))]; first | assumption | exact upd_same | (rw [upd_ne (by first | assumption | exact Ne.symm (by assumption))]; first | assumption | exact upd_same))))⟩ | (first | assumption | exact upd_same | (rw [upd_ne (by first | assumption | exact Ne.symm (by assumption))]; first | assumption | exact upd_same | (rw [upd_ne (by first | assumption | exact Ne.symm (by assumption))]; first | assumption | exact upd_same))) | decide | exact Nat.le_of_ble_eq_true rfl | omega | (show ∃ xs, SqL _ _ _ xs; exact ⟨_, SqL.of (by (first | assumption | exact upd_same | (rw [upd_ne (by first | assumption | exact Ne.symm (by assumption))]; first | assumption | exact upd_same | (rw [upd_ne (by first | assumption | exact Ne.symm (by assumption))]; first | assumption | exact upd_same))))⟩) | (show ∃ xs, SqT _ _ _ xs; exact ⟨_, SqT.of (by (first | assumption | exact upd_same | (rw [upd_ne (by first | assumption | exact Ne.symm (by assumption))]; first | assumption | exact upd_same | (rw [upd_ne (by first | assumption | exact Ne.symm (by assumption))]; first | assumption | exact upd_same))))⟩) | exact DGet.k (k := Sum.inl _) (by (first | assumption | exact upd_same | (rw [upd_ne (by first | assumption | exact Ne.symm (by assumption))]; first | assumption | exact upd_same | (rw [upd_ne (by first | assumption | exact Ne.symm (by assumption))]; first | assumption | exact upd_same)))) | (show V.int _ = kV (Sum.inl _); rfl) | (show ∃ z, V.str _ = V.str z; exact ⟨_, rfl⟩) | exact Or.inl ⟨by (first | decide | omega), by (first | decide | omega)⟩ | exact Or.inr ⟨by (first | decide | omega), by (first | decide | omega)⟩ | exact ⟨by (first | decide | omega), by (first | decide | omega)⟩ | exact ⟨by decide, by decide, by decide⟩ | exact L2.ClsV.ty _ | exact Dt.ty (by assumption) | exact Dt.kint (by assumption) | exact Dt.kbool (by assumption) | exact Dt.ktuple (by assumption) | exact Dt.klist (by assumption) | exact Dt.kstr (by assumption))) | (apply Exists.intro; apply And.intro; focus (first | rfl | assumption | exact upd_same | exact SqL.of (by (first | assumption | exact upd_same | (rw [upd_ne (by first | assumption | exact Ne.symm (by assumption))]; first | assumption | exact upd_same | (rw [upd_ne (by first | assumption | exact Ne.symm (by assumption))]; first | assumption | exact upd_same)))) | exact SqT.of (by (first | assumption | exact upd_same | (rw [upd_ne (by first | assumption | exact Ne.symm (by assumption))]; first | assumption | exact upd_same | (rw [upd_ne (by first | assumption | exact Ne.symm (by assumption))]; first | assumption | exact upd_same)))) | exact Or.inl (SqL.of (by (first | assumption | exact upd_same | (rw [upd_ne (by first | assumption | exact Ne.symm (by assumption))]; first | assumption | exact upd_same | (rw [upd_ne (by first | assumption | exact Ne.symm (by assumption))]; first | assumption | exact upd_same))))) | exact Or.inr (SqT.of (by (first | assumption | exact upd_same | (rw [upd_ne (by first | assumption | exact Ne.symm (by assumption))]; first | assumption | exact upd_same | (rw [upd_ne (by first | assumption | exact Ne.symm (by assumption))]; first | assumption | exact upd_same))))) | exact Or.inl ⟨rfl, _, SqL.of (by (first | assumption | exact upd_same | (rw [upd_ne (by first | assumption | exact Ne.symm (by assumption))]; first | assumption | exact upd_same | (rw [upd_ne (by first | assumption | exact Ne.symm (by assumption))]; first | assumption | exact upd_same))))⟩ | (first | assumption | exact upd_same | (rw [upd_ne (by first | assumption | exact Ne.symm (by assumption))]; first | assumption | exact upd_same | (rw [upd_ne (by first | assumption | exact Ne.symm (by assumption))]; first | assumption | exact upd_same))) | decide | exact Nat.le_of_ble_eq_true rfl | omega | (show ∃ xs, SqL _ _ _ xs; exact ⟨_, SqL.of (by (first | assumption | exact upd_same | (rw [upd_ne (by first | assumption | exact Ne.symm (by assumption))]; first | assumption | exact upd_same | (rw [upd_ne (by first | assumption | exact Ne.symm (by assumption))]; first | assumption | exact upd_same))))⟩) | (show ∃ xs, SqT _ _ _ xs; exact ⟨_, SqT.of (by (first | assumption | exact upd_same | (rw [upd_ne (by first | assumption | exact Ne.symm (by assumption))]; first | assumption | exact upd_same | (rw [upd_ne (by first | assumption | exact Ne.symm (by assumption))]; first | assumption | exact upd_same))))⟩) | exact DGet.k (k := Sum.inl _) (by (first | assumption | exact upd_same | (rw [upd_ne (by first | assumption | exact Ne.symm (by assumption))]; first | assumption | exact upd_same | (rw [upd_ne (by first | assumption | exact Ne.symm (by assumption))]; first | assumption | exact upd_same)))) | (show V.int _ = kV (Sum.inl _); rfl) | (show ∃ z, V.str _ = V.str z; exact ⟨_, rfl⟩) | exact Or.inl ⟨by (first | decide | omega), by (first | decide | omega)⟩ | exact Or.inr ⟨by (first | decide | omega), by (first | decide | omega)⟩ | exact ⟨by (first | decide | omega), by (first | decide | omega)⟩ | exact ⟨by decide, by decide, by decide⟩ | exact L2.ClsV.ty _ | exact Dt.ty (by assumption) | exact Dt.kint (by assumption) | exact Dt.kbool (by assumption) | exact Dt.ktuple (by assumption) | exact Dt.klist (by assumption) | exact Dt.kstr (by assumption))) | (apply Exists.intro; apply Exists.intro; apply And.intro; focus (first | rfl | assumption | exact upd_same | exact SqL.of (by (first | assumption | exact upd_same | (rw [upd_ne (by first | assumption | exact Ne.symm (by assumption))]; first | assumption | exact upd_same | (rw [upd_ne (by first | assumption | exact Ne.symm (by assumption))]; first | assumption | exact upd_same)))) | exact SqT.of (by (first | assumption | exact upd_same | (rw [upd_ne (by first | assumption | exact Ne.symm (by assumption))]; first | assumption | exact upd_same | (rw [upd_ne (by first | assumption | exact Ne.symm (by assumption))]; first | assumption | exact upd_same)))) | exact Or.inl (SqL.of (by (first | assumption | exact upd_same | (rw [upd_ne (by first | assumption | exact Ne.symm (by assumption))]; first | assumption | exact upd_same | (rw [upd_ne (by first | assumption | exact Ne.symm (by assumption))]; first | assumption | exact upd_same))))) | exact Or.inr (SqT.of (by (first | assumption | exact upd_same | (rw [upd_ne (by first | assumption | exact Ne.symm (by assumption))]; first | assumption | exact upd_same | (rw [upd_ne (by first | assumption | exact Ne.symm (by assumption))]; first | assumption | exact upd_same))))) | exact Or.inl ⟨rfl, _, SqL.of (by (first | assumption | exact upd_same | (rw [upd_ne (by first | assumption | exact Ne.symm (by assumption))]; first | assumption | exact upd_same | (rw [upd_ne (by first | assumption | exact Ne.symm (by assumption))]; first | assumption | exact upd_same))))⟩ | (first | assumption | exact upd_same | (rw [upd_ne (by first | assumption | exact Ne.symm (by assumption))]; first | assumption | exact upd_same | (rw [upd_ne (by first | assumption | exact Ne.symm (by assumption))]; first | assumption | exact upd_same))) | decide | exact Nat.le_of_ble_eq_true rfl | omega | (show ∃ xs, SqL _ _ _ xs; exact ⟨_, SqL.of (by (first | assumption | exact upd_same | (rw [upd_ne (by first | assumption | exact Ne.symm (by assumption))]; first | assumption | exact upd_same | (rw [upd_ne (by first | assumption | exact Ne.symm (by assumption))]; first | assumption | exact upd_same))))⟩) | (show ∃ xs, SqT _ _ _ xs; exact ⟨_, SqT.of (by (first | assumption | exact upd_same | (rw [upd_ne (by first | assumption | exact Ne.symm (by assumption))]; first | assumption | exact upd_same | (rw [upd_ne (by first | assumption | exact Ne.symm (by assumption))]; first | assumption | exact upd_same))))⟩) | exact DGet.k (k := Sum.inl _) (by (first | assumption | exact upd_same | (rw [upd_ne (by first | assumption | exact Ne.symm (by assumption))]; first | assumption | exact upd_same | (rw [upd_ne (by first | assumption | exact Ne.symm (by assumption))]; first | assumption | exact upd_same)))) | (show V.int _ = kV (Sum.inl _); rfl) | (show ∃ z, V.str _ = V.str z; exact ⟨_, rfl⟩) | exact Or.inl ⟨by (first | decide | omega), by (first | decide | omega)⟩ | exact Or.inr ⟨by (first | decide | omega), by (first | decide | omega)⟩ | exact ⟨by (first | decide | omega), by (first | decide | omega)⟩ | exact ⟨by decide, by decide, by decide⟩ | exact L2.ClsV.ty _ | exact Dt.ty (by assumption) | exact Dt.kint (by assumption) | exact Dt.kbool (by assumption) | exact Dt.ktuple (by assumption) | exact Dt.klist (by assumption) | exact Dt.kstr (by assumption))) | (apply Exists.intro; apply Exists.intro; apply Exists.intro; apply And.intro; focus (first | rfl | assumption | exact upd_same | exact SqL.of (by (first | assumption | exact upd_same | (rw [upd_ne (by first | assumption | exact Ne.symm (by assumption))]; first | assumption | exact upd_same | (rw [upd_ne (by first | assumption | exact Ne.symm (by assumption))]; first | assumption | exact upd_same)))) | exact SqT.of (by (first | assumption | exact upd_same | (rw [upd_ne (by first | assumption | exact Ne.symm (by assumption))]; first | assumption | exact upd_same | (rw [upd_ne (by first | assumption | exact Ne.symm (by assumption))]; first | assumption | exact upd_same)))) | exact Or.inl (SqL.of (by (first | assumption | exact upd_same | (rw [upd_ne (by first | assumption | exact Ne.symm (by assumption))]; first | assumption | exact upd_same | (rw [upd_ne (by first | assumption | exact Ne.symm (by assumption))]; first | assumption | exact upd_same))))) | exact Or.inr (SqT.of (by (first | assumption | exact upd_same | (rw [upd_ne (by first | assumption | exact Ne.symm (by assumption))]; first | assumption | exact upd_same | (rw [upd_ne (by first | assumption | exact Ne.symm (by assumption))]; first | assumption | exact upd_same))))) | exact Or.inl ⟨rfl, _, SqL.of (by (first | assumption | exact upd_same | (rw [upd_ne (by first | assumption | exact Ne.symm (by assumption))]; first | assumption | exact upd_same | (rw [upd_ne (by first | assumption | exact Ne.symm (by assumption))]; first | assumption | exact upd_same))))⟩ | (first | assumption | exact upd_same | (rw [upd_ne (by first | assumption | exact Ne.symm (by assumption))]; first | assumption | exact upd_same | (rw [upd_ne (by first | assumption | exact Ne.symm (by assumption))]; first | assumption | exact upd_same))) | decide | exact Nat.le_of_ble_eq_true rfl | omega | (show ∃ xs, SqL _ _ _ xs; exact ⟨_, SqL.of (by (first | assumption | exact upd_same | (rw [upd_ne (by first | assumption | exact Ne.symm (by assumption))]; first | assumption | exact upd_same | (rw [upd_ne (by first | assumption | exact Ne.symm (by assumption))]; first | assumption | exact upd_same))))⟩) | (show ∃ xs, SqT _ _ _ xs; exact ⟨_, SqT.of (by (first | assumption | exact upd_same | (rw [upd_ne (by first | assumption | exact Ne.symm (by assumption))]; first | assumption | exact upd_same | (rw [upd_ne (by first | assumption | exact Ne.symm (by assumption))]; first | assumption | exact upd_same))))⟩) | exact DGet.k (k := Sum.inl _) (by (first | assumption | exact upd_same | (rw [upd_ne (by first | assumption | exact Ne.symm (by assumption))]; first | assumption | exact upd_same | (rw [upd_ne (by first | assumption | exact Ne.symm (by assumption))]; first | assumption | exact upd_same)))) | (show V.int _ = kV (Sum.inl _); rfl) | (show ∃ z, V.str _ = V.str z; exact ⟨_, rfl⟩) | exact Or.inl ⟨by (first | decide | omega), by (first | decide | omega)⟩ | exact Or.inr ⟨by (first | decide | omega), by (first | decide | omega)⟩ | exact ⟨by (first | decide | omega), by (first | decide | omega)⟩ | exact ⟨by decide, by decide, by decide⟩ | exact L2.ClsV.ty _ | exact Dt.ty (by assumption) | exact Dt.kint (by assumption) | exact Dt.kbool (by assumption) | exact Dt.ktuple (by assumption) | exact Dt.klist (by assumption) | exact Dt.kstr (by assumption))) | (apply Exists.intro; apply Exists.intro; apply Exists.intro; apply Exists.intro; apply And.intro; focus (first | rfl | assumption | exact upd_same | exact SqL.of (by (first | assumption | exact upd_same | (rw [upd_ne (by first | assumption | exact Ne.symm (by assumption))]; first | assumption | exact upd_same | (rw [upd_ne (by first | assumption | exact Ne.symm (by assumption))]; first | assumption | exact upd_same)))) | exact SqT.of (by (first | assumption | exact upd_same | (rw [upd_ne (by first | assumption | exact Ne.symm (by assumption))]; first | assumption | exact upd_same | (rw [upd_ne (by first | assumption | exact Ne.symm (by assumption))]; first | assumption | exact upd_same)))) | exact Or.inl (SqL.of (by (first | assumption | exact upd_same | (rw [upd_ne (by first | assumption | exact Ne.symm (by assumption))]; first | assumption | exact upd_same | (rw [upd_ne (by first | assumption | exact Ne.symm (by assumption))]; first | assumption | exact upd_same))))) | exact Or.inr (SqT.of (by (first | assumption | exact upd_same | (rw [upd_ne (by first | assumption | exact Ne.symm (by assumption))]; first | assumption | exact upd_same | (rw [upd_ne (by first | assumption | exact Ne.symm (by assumption))]; first | assumption | exact upd_same))))) | exact Or.inl ⟨rfl, _, SqL.of (by (first | assumption | exact upd_same | (rw [upd_ne (by first | assumption | exact Ne.symm (by assumption))]; first | assumption | exact upd_same | (rw [upd_ne (by first | assumption | exact Ne.symm (by assumption))]; first | assumption | exact upd_same))))⟩ | (first | assumption | exact upd_same | (rw [upd_ne (by first | assumption | exact Ne.symm (by assumption))]; first | assumption | exact upd_same | (rw [upd_ne (by first | assumption | exact Ne.symm (by assumption))]; first | assumption | exact upd_same))) | decide | exact Nat.le_of_ble_eq_true rfl | omega | (show ∃ xs, SqL _ _ _ xs; exact ⟨_, SqL.of (by (first | assumption | exact upd_same | (rw [upd_ne (by first | assumption | exact Ne.symm (by assumption))]; first | assumption | exact upd_same | (rw [upd_ne (by first | assumption | exact Ne.symm (by assumption))]; first | assumption | exact upd_same))))⟩) | (show ∃ xs, SqT _ _ _ xs; exact ⟨_, SqT.of (by (first | assumption | exact upd_same | (rw [upd_ne (by first | assumption | exact Ne.symm (by assumption))]; first | assumption | exact upd_same | (rw [upd_ne (by first | assumption | exact Ne.symm (by assumption))]; first | assumption | exact upd_same))))⟩) | exact DGet.k (k := Sum.inl _) (by (first | assumption | exact upd_same | (rw [upd_ne (by first | assumption | exact Ne.symm (by assumption))]; first | assumption | exact upd_same | (rw [upd_ne (by first | assumption | exact Ne.symm (by assumption))]; first | assumption | exact upd_same)))) | (show V.int _ = kV (Sum.inl _); rfl) | (show ∃ z, V.str _ = V.str z; exact ⟨_, rfl⟩) | exact Or.inl ⟨by (first | decide | omega), by (first | decide | omega)⟩ | exact Or.inr ⟨by (first | decide | omega), by (first | decide | omega)⟩ | exact ⟨by (first | decide | omega), by (first | decide | omega)⟩ | exact ⟨by decide, by decide, by decide⟩ | exact L2.ClsV.ty _ | exact Dt.ty (by assumption) | exact Dt.kint (by assumption) | exact Dt.kbool (by assumption) | exact Dt.ktuple (by assumption) | exact Dt.klist (by assumption) | exact Dt.kstr (by assumption))) | (apply Exists.intro; apply Exists.intro; apply Exists.intro; apply Exists.intro; apply Exists.intro; apply And.intro; focus (first | rfl | assumption | exact upd_same | exact SqL.of (by (first | assumption | exact upd_same | (rw [upd_ne (by first | assumption | exact Ne.symm (by assumption))]; first | assumption | exact upd_same | (rw [upd_ne (by first | assumption | exact Ne.symm (by assumption))]; first | assumption | exact upd_same)))) | exact SqT.of (by (first | assumption | exact upd_same | (rw [upd_ne (by first | assumption | exact Ne.symm (by assumption))]; first | assumption | exact upd_same | (rw [upd_ne (by first | assumption | exact Ne.symm (by assumption))]; first | assumption | exact upd_same)))) | exact Or.inl (SqL.of (by (first | assumption | exact upd_same | (rw [upd_ne (by first | assumption | exact Ne.symm (by assumption))]; first | assumption | exact upd_same | (rw [upd_ne (by first | assumption | exact Ne.symm (by assumption))]; first | assumption | exact upd_same))))) | exact Or.inr (SqT.of (by (first | assumption | exact upd_same | (rw [upd_ne (by first | assumption | exact Ne.symm (by assumption))]; first | assumption | exact upd_same | (rw [upd_ne (by first | assumption | exact Ne.symm (by assumption))]; first | assumption | exact upd_same))))) | exact Or.inl ⟨rfl, _, SqL.of (by (first | assumption | exact upd_same | (rw [upd_ne (by first | assumption | exact Ne.symm (by assumption))]; first | assumption | exact upd_same | (rw [upd_ne (by first | assumption | exact Ne.symm (by assumption))]; first | assumption | exact upd_same))))⟩ | (first | assumption | exact upd_same | (rw [upd_ne (by first | assumption | exact Ne.symm (by assumption))]; first | assumption | exact upd_same | (rw [upd_ne (by first | assumption | exact Ne.symm (by assumption))]; first | assumption | exact upd_same))) | decide | exact Nat.le_of_ble_eq_true rfl | omega | (show ∃ xs, SqL _ _ _ xs; exact ⟨_, SqL.of (by (first | assumption | exact upd_same | (rw [upd_ne (by first | assumption | exact Ne.symm (by assumption))]; first | assumption | exact upd_same | (rw [upd_ne (by first | assumption | exact Ne.symm (by assumption))]; first | assumption | exact upd_same))))⟩) | (show ∃ xs, SqT _ _ _ xs; exact ⟨_, SqT.of (by (first | assumption | exact upd_same | (rw [upd_ne (by first | assumption | exact Ne.symm (by assumption))]; first | assumption | exact upd_same | (rw [upd_ne (by first | assumption | exact Ne.symm (by assumption))]; first | assumption | exact upd_same))))⟩) | exact DGet.k (k := Sum.inl _) (by (first | assumption | exact upd_same | (rw [upd_ne (by first | assumption | exact Ne.symm (by assumption))]; first | assumption | exact upd_same | (rw [upd_ne (by first | assumption | exact Ne.symm (by assumption))]; first | assumption | exact upd_same)))) | (show V.int _ = kV (Sum.inl _); rfl) | (show ∃ z, V.str _ = V.str z; exact ⟨_, rfl⟩) | exact Or.inl ⟨by (first | decide | omega), by (first | decide | omega)⟩ | exact Or.inr ⟨by (first | decide | omega), by (first | decide | omega)⟩ | exact ⟨by (first | decide | omega), by (first | decide | omega)⟩ | exact ⟨by decide, by decide, by decide⟩ | exact L2.ClsV.ty _ | exact Dt.ty (by assumption) | exact Dt.kint (by assumption) | exact Dt.kbool (by assumption) | exact Dt.ktuple (by assumption) | exact Dt.klist (by assumption) | exact Dt.kstr (by assumption))) | (apply Exists.intro; apply Exists.intro; apply Exists.intro; apply Exists.intro; apply Exists.intro; apply Exists.intro; apply And.intro; focus (first | rfl | assumption | exact upd_same | exact SqL.of (by (first | assumption | exact upd_same | (rw [upd_ne (by first | assumption | exact Ne.symm (by assumption))]; first | assumption | exact upd_same | (rw [upd_ne (by first | assumption | exact Ne.symm (by assumption))]; first | assumption | exact upd_same)))) | exact SqT.of (by (first | assumption | exact upd_same | (rw [upd_ne (by first | assumption | exact Ne.symm (by assumption))]; first | assumption | exact upd_same | (rw [upd_ne (by first | assumption | exact Ne.symm (by assumption))]; first | assumption | exact upd_same)))) | exact Or.inl (SqL.of (by (first | assumption | exact upd_same | (rw [upd_ne (by first | assumption | exact Ne.symm (by assumption))]; first | assumption | exact upd_same | (rw [upd_ne (by first | assumption | exact Ne.symm (by assumption))]; first | assumption | exact upd_same))))) | exact Or.inr (SqT.of (by (first | assumption | exact upd_same | (rw [upd_ne (by first | assumption | exact Ne.symm (by assumption))]; first | assumption | exact upd_same | (rw [upd_ne (by first | assumption | exact Ne.symm (by assumption))]; first | assumption | exact upd_same))))) | exact Or.inl ⟨rfl, _, SqL.of (by (first | assumption | exact upd_same | (rw [upd_ne (by first | assumption | exact Ne.symm (by assumption))]; first | assumption | exact upd_same | (rw [upd_ne (by first | assumption | exact Ne.symm (by assumption))]; first | assumption | exact upd_same))))⟩ | (first | assumption | exact upd_same | (rw [upd_ne (by first | assumption | exact Ne.symm (by assumption))]; first | assumption | exact upd_same | (rw [upd_ne (by first | assumption | exact Ne.symm (by assumption))]; first | assumption | exact upd_same))) | decide | exact Nat.le_of_ble_eq_true rfl | omega | (show ∃ xs, SqL _ _ _ xs; exact ⟨_, SqL.of (by (first | assumption | exact upd_same | (rw [upd_ne (by first | assumption | exact Ne.symm (by assumption))]; first | assumption | exact upd_same | (rw [upd_ne (by first | assumption | exact Ne.symm (by assumption))]; first | assumption | exact upd_same))))⟩) | (show ∃ xs, SqT _ _ _ xs; exact ⟨_, SqT.of (by (first | assumption | exact upd_same | (rw [upd_ne (by first | assumption | exact Ne.symm (by assumption))]; first | assumption | exact upd_same | (rw [upd_ne (by first | assumption | exact Ne.symm (by assumption))]; first | assumption | exact upd_same))))⟩) | exact DGet.k (k := Sum.inl _) (by (first | assumption | exact upd_same | (rw [upd_ne (by first | assumption | exact Ne.symm (by assumption))]; first | assumption | exact upd_same | (rw [upd_ne (by first | assumption | exact Ne.symm (by assumption))]; first | assumption | exact upd_same)))) | (show V.int _ = kV (Sum.inl _); rfl) | (show ∃ z, V.str _ = V.str z; exact ⟨_, rfl⟩) | exact Or.inl ⟨by (first | decide | omega), by (first | decide | omega)⟩ | exact Or.inr ⟨by (first | decide | omega), by (first | decide | omega)⟩ | exact ⟨by (first | decide | omega), by (first | decide | omega)⟩ | exact ⟨by decide, by decide, by decide⟩ | exact L2.ClsV.ty _ | exact Dt.ty (by assumption) | exact Dt.kint (by assumption) | exact Dt.kbool (by assumption) | exact Dt.ktuple (by assumption) | exact Dt.klist (by assumption) | exact Dt.kstr (by assumption))) | (apply Exists.intro; apply Exists.intro; apply Exists.intro; apply Exists.intro; apply Exists.intro; apply Exists.intro; apply Exists.intro; apply And.intro; focus (first | rfl | assumption | exact upd_same | exact SqL.of (by (first | assumption | exact upd_same | (rw [upd_ne (by first | assumption | exact Ne.symm (by assumption))]; first | assumption | exact upd_same | (rw [upd_ne (by first | assumption | exact Ne.symm (by assumption))]; first | assumption | exact upd_same)))) | exact SqT.of (by (first | assumption | exact upd_same | (rw [upd_ne (by first | assumption | exact Ne.symm (by assumption))]; first | assumption | exact upd_same | (rw [upd_ne (by first | assumption | exact Ne.symm (by assumption))]; first | assumption | exact upd_same)))) | exact Or.inl (SqL.of (by (first | assumption | exact upd_same | (rw [upd_ne (by first | assumption | exact Ne.symm (by assumption))]; first | assumption | exact upd_same | (rw [upd_ne (by first | assumption | exact Ne.symm (by assumption))]; first | assumption | exact upd_same))))) | exact Or.inr (SqT.of (by (first | assumption | exact upd_same | (rw [upd_ne (by first | assumption | exact Ne.symm (by assumption))]; first | assumption | exact upd_same | (rw [upd_ne (by first | assumption | exact Ne.symm (by assumption))]; first | assumption | exact upd_same))))) | exact Or.inl ⟨rfl, _, SqL.of (by (first | assumption | exact upd_same | (rw [upd_ne (by first | assumption | exact Ne.symm (by assumption))]; first | assumption | exact upd_same | (rw [upd_ne (by first | assumption | exact Ne.symm (by assumption))]; first | assumption | exact upd_same))))⟩ | (first | assumption | exact upd_same | (rw [upd_ne (by first | assumption | exact Ne.symm (by assumption))]; first | assumption | exact upd_same | (rw [upd_ne (by first | assumption | exact Ne.symm (by assumption))]; first | assumption | exact upd_same))) | decide | exact Nat.le_of_ble_eq_true rfl | omega | (show ∃ xs, SqL _ _ _ xs; exact ⟨_, SqL.of (by (first | assumption | exact upd_same | (rw [upd_ne (by first | assumption | exact Ne.symm (by assumption))]; first | assumption | exact upd_same | (rw [upd_ne (by first | assumption | exact Ne.symm (by assumption))]; first | assumption | exact upd_same))))⟩) | (show ∃ xs, SqT _ _ _ xs; exact ⟨_, SqT.of (by (first | assumption | exact upd_same | (rw [upd_ne (by first | assumption | exact Ne.symm (by assumption))]; first | assumption | exact upd_same | (rw [upd_ne (by first | assumption | exact Ne.symm (by assumption))]; first | assumption | exact upd_same))))⟩) | exact DGet.k (k := Sum.inl _) (by (first | assumption | exact upd_same | (rw [upd_ne (by first | assumption | exact Ne.symm (by assumption))]; first | assumption | exact upd_same | (rw [upd_ne (by first | assumption | exact Ne.symm (by assumption))]; first | assumption | exact upd_same)))) | (show V.int _ = kV (Sum.inl _); rfl) | (show ∃ z, V.str _ = V.str z; exact ⟨_, rfl⟩) | exact Or.inl ⟨by (first | decide | omega), by (first | decide | omega)⟩ | exact Or.inr ⟨by (first | decide | omega), by (first | decide | omega)⟩ | exact ⟨by (first | decide | omega), by (first | decide | omega)⟩ | exact ⟨by decide, by decide, by decide⟩ | exact L2.ClsV.ty _ | exact Dt.ty (by assumption) | exact Dt.kint (by assumption) | exact Dt.kbool (by assumption) | exact Dt.ktuple (by assumption) | exact Dt.klist (by assumption) | exact Dt.kstr (by assumption))) | (apply Exists.intro; apply Exists.intro; apply Exists.intro; apply Exists.intro; apply Exists.intro; apply Exists.intro; apply Exists.intro; apply Exists.intro; apply And.intro; focus (first | rfl | assumption | exact upd_same | exact SqL.of (by (first | assumption | exact upd_same | (rw [upd_ne (by first | assumption | exact Ne.symm (by assumption))]; first | assumption | exact upd_same | (rw [upd_ne (by first | assumption | exact Ne.symm (by assumption))]; first | assumption | exact upd_same)))) | exact SqT.of (by (first | assumption | exact upd_same | (rw [upd_ne (by first | assumption | exact Ne.symm (by assumption))]; first | assumption | exact upd_same | (rw [upd_ne (by first | assumption | exact Ne.symm (by assumption))]; first | assumption | exact upd_same)))) | exact Or.inl (SqL.of (by (first | assumption | exact upd_same | (rw [upd_ne (by first | assumption | exact Ne.symm (by assumption))]; first | assumption | exact upd_same | (rw [upd_ne (by first | assumption | exact Ne.symm (by assumption))]; first | assumption | exact upd_same))))) | exact Or.inr (SqT.of (by (first | assumption | exact upd_same | (rw [upd_ne (by first | assumption | exact Ne.symm (by assumption))]; first | assumption | exact upd_same | (rw [upd_ne (by first | assumption | exact Ne.symm (by assumption))]; first | assumption | exact upd_same))))) | exact Or.inl ⟨rfl, _, SqL.of (by (first | assumption | exact upd_same | (rw [upd_ne (by first | assumption | exact Ne.symm (by assumption))]; first | assumption | exact upd_same | (rw [upd_ne (by first | assumption | exact Ne.symm (by assumption))]; first | assumption | exact upd_same))))⟩ | (first | assumption | exact upd_same | (rw [upd_ne (by first | assumption | exact Ne.symm (by assumption))]; first | assumption | exact upd_same | (rw [upd_ne (by first | assumption | exact Ne.symm (by assumption))]; first | assumption | exact upd_same))) | decide | exact Nat.le_of_ble_eq_true rfl | omega | (show ∃ xs, SqL _ _ _ xs; exact ⟨_, SqL.of (by (first | assumption | exact upd_same | (rw [upd_ne (by first | assumption | exact Ne.symm (by assumption))]; first | assumption | exact upd_same | (rw [upd_ne (by first | assumption | exact Ne.symm (by assumption))]; first | assumption | exact upd_same))))⟩) | (show ∃ xs, SqT _ _ _ xs; exact ⟨_, SqT.of (by (first | assumption | exact upd_same | (rw [upd_ne (by first | assumption | exact Ne.symm (by assumption))]; first | assumption | exact upd_same | (rw [upd_ne (by first | assumption | exact Ne.symm (by assumption))]; first | assumption | exact upd_same))))⟩) | exact DGet.k (k := Sum.inl _) (by (first | assumption | exact upd_same | (rw [upd_ne (by first | assumption | exact Ne.symm (by assumption))]; first | assumption | exact upd_same | (rw [upd_ne (by first | assumption | exact Ne.symm (by assumption))]; first | assumption | exact upd_same)))) | (show V.int _ = kV (Sum.inl _); rfl) | (show ∃ z, V.str _ = V.str z; exact ⟨_, rfl⟩) | exact Or.inl ⟨by (first | decide | omega), by (first | decide | omega)⟩ | exact Or.inr ⟨by (first | decide | omega), by (first | decide | omega)⟩ | exact ⟨by (first | decide | omega), by (first | decide | omega)⟩ | exact ⟨by decide, by decide, by decide⟩ | exact L2.ClsV.ty _ | exact Dt.ty (by assumption) | exact Dt.kint (by assumption) | exact Dt.kbool (by assumption) | exact Dt.ktuple (by assumption) | exact Dt.klist (by assumption) | exact Dt.kstr (by assumption))) | (apply Exists.intro; apply Exists.intro; apply Exists.intro; apply Exists.intro; apply Exists.intro; apply Exists.intro; apply Exists.intro; apply Exists.intro; apply Exists.intro; apply And.intro; focus (first | rfl | assumption | exact upd_same | exact SqL.of (by (first | assumption | exact upd_same | (rw [upd_ne (by first | assumption | exact Ne.symm (by assumption))]; first | assumption | exact upd_same | (rw [upd_ne (by first | assumption | exact Ne.symm (by assumption))]; first | assumption | exact upd_same)))) | exact SqT.of (by (first | assumption | exact upd_same | (rw [upd_ne (by first | assumption | exact Ne.symm (by assumption))]; first | assumption | exact upd_same | (rw [upd_ne (by first | assumption | exact Ne.symm (by assumption))]; first | assumption | exact upd_same)))) | exact Or.inl (SqL.of (by (first | assumption | exact upd_same | (rw [upd_ne (by first | assumption | exact Ne.symm (by assumption))]; first | assumption | exact upd_same | (rw [upd_ne (by first | assumption | exact Ne.symm (by assumption))]; first | assumption | exact upd_same))))) | exact Or.inr (SqT.of (by (first | assumption | exact upd_same | (rw [upd_ne (by first | assumption | exact Ne.symm (by assumption))]; first | assumption | exact upd_same | (rw [upd_ne (by first | assumption | exact Ne.symm (by assumption))]; first | assumption | exact upd_same))))) | exact Or.inl ⟨rfl, _, SqL.of (by (first | assumption | exact upd_same | (rw [upd_ne (by first | assumption | exact Ne.symm (by assumption))]; first | assumption | exact upd_same | (rw [upd_ne (by first | assumption | exact Ne.symm (by assumption))]; first | assumption | exact upd_same))))⟩ | (first | assumption | exact upd_same | (rw [upd_ne (by first | assumption | exact Ne.symm (by assumption))]; first | assumption | exact upd_same | (rw [upd_ne (by first | assumption | exact Ne.symm (by assumption))]; first | assumption | exact upd_same))) | decide | exact Nat.le_of_ble_eq_true rfl | omega | (show ∃ xs, SqL _ _ _ xs; exact ⟨_, SqL.of (by (first | assumption | exact upd_same | (rw [upd_ne (by first | assumption | exact Ne.symm (by assumption))]; first | assumption | exact upd_same | (rw [upd_ne (by first | assumption | exact Ne.symm (by assumption))]; first | assumption | exact upd_same))))⟩) | (show ∃ xs, SqT _ _ _ xs; exact ⟨_, SqT.of (by (first | assumption | exact upd_same | (rw [upd_ne (by first | assumption | exact Ne.symm (by assumption))]; first | assumption | exact upd_same | (rw [upd_ne (by first | assumption | exact Ne.symm (by assumption))]; first | assumption | exact upd_same))))⟩) | exact DGet.k (k := Sum.inl _) (by (first | assumption | exact upd_same | (rw [upd_ne (by first | assumption | exact Ne.symm (by assumption))]; first | assumption | exact upd_same | (rw [upd_ne (by first | assumption | exact Ne.symm (by assumption))]; first | assumption | exact upd_same)))) | (show V.int _ = kV (Sum.inl _); rfl) | (show ∃ z, V.str _ = V.str z; exact ⟨_, rfl⟩) | exact Or.inl ⟨by (first | decide | omega), by (first | decide | omega)⟩ | exact Or.inr ⟨by (first | decide | omega), by (first | decide | omega)⟩ | exact ⟨by (first | decide | omega), by (first | decide | omega)⟩ | exact ⟨by decide, by decide, by decide⟩ | exact L2.ClsV.ty _ | exact Dt.ty (by assumption) | exact Dt.kint (by assumption) | exact Dt.kbool (by assumption) | exact Dt.ktuple (by assumption) | exact Dt.klist (by assumption) | exact Dt.kstr (by assumption))) | refine Or.inl ⟨_, rfl, ?_⟩ | refine Or.inr ⟨_, rfl, ?_⟩ | refine Or.inr ⟨SqT.of (by (first | assumption | exact upd_same | (rw [upd_ne (by first | assumption | exact Ne.symm (by assumption))]; first | assumption | exact upd_same | (rw [upd_ne (by first | assumption | exact Ne.symm (by assumption))]; first | assumption | exact upd_same)))), SqT.of (by (first | assumption | exact upd_same | (rw [upd_ne (by first | assumption | exact Ne.symm (by assumption))]; first | assumption | exact upd_same | (rw [upd_ne (by first | assumption | exact Ne.symm (by assumption))]; first | assumption | exact upd_same)))), ?_⟩ | refine Or.inl ⟨SqL.of (by (first | assumption | exact upd_same | (rw [upd_ne (by first | assumption | exact Ne.symm (by assumption))]; first | assumption | exact upd_same | (rw [upd_ne (by first | assumption | exact Ne.symm (by assumption))]; first | assumption | exact upd_same)))), SqL.of (by (first | assumption | exact upd_same | (rw [upd_ne (by first | assumption | exact Ne.symm (by assumption))]; first | assumption | exact upd_same | (rw [upd_ne (by first | assumption | exact Ne.symm (by assumption))]; first | assumption | exact upd_same)))), ?_⟩ | refine Or.inl ⟨SqL.of (by (first | assumption | exact upd_same | (rw [upd_ne (by first | assumption | exact Ne.symm (by assumption))]; first | assumption | exact upd_same | (rw [upd_ne (by first | assumption | exact Ne.symm (by assumption))]; first | assumption | exact upd_same)))), ?_⟩ | refine Or.inr ⟨SqT.of (by (first | assumption | exact upd_same | (rw [upd_ne (by first | assumption | exact Ne.symm (by assumption))]; first | assumption | exact upd_same | (rw [upd_ne (by first | assumption | exact Ne.symm (by assumption))]; first | assumption | exact upd_same)))), ?_⟩ | refine ifT rfl ?_ | refine ifF rfl ?_))
theorem ascB_iff : ∀ {ns : List Int}, ascB ns = true ↔ ns.Pairwise (· < ·)
  | [] => by simp [ascB]
  | [x] => by simp [ascB]
  | x :: y :: r => by
    have ih := ascB_iff (ns := y :: r)
    have e : ascB (x :: y :: r) = (decide (x < y) && ascB (y :: r)) := rfl
    rw [e, Bool.and_eq_true, decide_eq_true_eq, ih]
    constructor
    · rintro ⟨h1, h2⟩
      refine List.pairwise_cons.mpr ⟨fun z hz => ?_, h2⟩
      rcases List.mem_cons.mp hz with rfl | hz
      · exact h1
      · exact Int.lt_trans h1 ((List.pairwise_cons.mp h2).1 z hz)
    · intro h
      exact ⟨(List.pairwise_cons.mp h).1 y (List.mem_cons_self ..), (List.pairwise_cons.mp h).2⟩
theorem shL_iff {ks : List Int} : shL (ks.map V.int) = true ↔ Sh ks := by
  have e1 : (ks.map V.int).map intV = ks := by
    rw [List.map_map]
    exact List.map_id'' (fun _ => rfl) ks
  have e2 : (ks.map V.int).all numV = true ↔ ∀ q ∈ ks, 0 ≤ q := by simp [numV]
  rw [shL, Bool.and_eq_true, Bool.and_eq_true, e1, e2, ascB_iff]
  constructor
  · rintro ⟨⟨h1, h2⟩, h3⟩
    refine ⟨h1, h2, fun z => ?_⟩
    match ks, h1, h2, h3, z with
    | [x], h1, h2, h3, z => simp at z; rw [z]
    | x :: y :: r, h1, h2, h3, z =>
      have h4 : 0 < x := by
        simp [intV] at h3
        omega
      rcases List.mem_cons.mp z with e | e
      · omega
      · have := (List.pairwise_cons.mp h2).1 0 e
        omega
  · rintro ⟨h1, h2, h3⟩
    refine ⟨⟨h1, h2⟩, ?_⟩
    match ks, h1, h2, h3 with
    | [], _, _, _ => rfl
    | [x], _, _, _ => rfl
    | x :: y :: r, h1, h2, h3 =>
      have : 0 < x := by
        have a := h1 x (List.mem_cons_self ..)
        by_cases e : x = 0
        · have := h3 (by rw [e]; exact List.mem_cons_self ..)
          simp at this
        · omega
      simp [intV, this]
theorem Tg.ints {H : Hp} {a : Addr} {ks : List Int} (h : H a = some (.tup (ks.map V.int))) (hl : ks.length ≤ 1000) : Tg H (.ref a) :=
  ⟨⟨_, .tup h⟩, fun b xs e h2 => by
    cases e
    rw [h] at h2
    cases h2
    exact ⟨by simpa using hl, fun x hx => by obtain ⟨q, _, rfl⟩ := List.mem_map.mp hx; exact ⟨_, .int q⟩⟩⟩
theorem tupB_same {f : List V → Bool} {H H1 : Hp} {v : V} (g : Tg H v) (s : Same H H1) : tupB f H1 v = tupB f H v := by
  obtain ⟨t, d⟩ := g.t
  by_cases ht : t = "tuple"
  · obtain ⟨a, xs, rfl, ea⟩ := d.tup_inv ht
    rw [tupB_at ea, tupB_at (s _ _ ea)]
  · rw [tupB_no d ht, tupB_no (d.same s) ht]
theorem share_inv {H : Hp} {v : V} (g : Tg H v) (e : tupB shL H v = true) : ∃ a ns, v = .ref a ∧ H a = some (.tup (ns.map V.int)) ∧ Sh ns ∧ ns.length ≤ 1000 := by
  obtain ⟨t, d⟩ := g.t
  by_cases ht : t = "tuple"
  · obtain ⟨a, xs, rfl, ea⟩ := d.tup_inv ht
    rw [tupB_at ea] at e
    have n1 := nums_back (xs := xs) (by rw [shL, Bool.and_eq_true, Bool.and_eq_true] at e; exact e.1.1)
    have hl := (g.xs a xs rfl ea).1
    generalize xs.map intV = ns at n1
    subst n1
    exact ⟨a, ns, rfl, ea, shL_iff.mp e, by simpa using hl⟩
  · rw [tupB_no d ht] at e
    cases e
def spAdded : Sp := fun vs H Q _ => ∃ (n : Nat) (a b : Addr) (ns ms : List Int), vs = [.ref a, .ref b] ∧ H a = some (.tup (ns.map V.int)) ∧ H b = some (.tup (ms.map V.int)) ∧
  Sh ns ∧ Sh ms ∧ Bd n ns ∧ Bd n ms ∧ ns.length + ms.length ≤ 63 ∧ (addS n ns ms = none → ∀ H', Same H H' → Q .non H') ∧
  ∀ ks, addS n ns ms = some ks → ks.length ≤ ns.length + ms.length → ∀ p H', Same H H' → H' p = some (.tup (ks.map V.int)) → Q (.ref p) H'
def spCheckShare (CN : Addr) : Sp := fun vs H Q E => ∃ v : V, vs = [v] ∧ Tg H v ∧ (tupB shL H v = false → ∀ H', Same H H' → E (.ref CN) none H') ∧ (tupB shL H v = true → ∀ H', Same H H' → Q .non H')
def spSumOf (CN : Addr) : Sp := fun vs H Q E => ∃ v1 v2 : V, vs = [v1, v2] ∧ Tg H v1 ∧ Tg H v2 ∧ ((tupB shL H v1 && tupB shL H v2) = false → ∀ H', Same H H' → E (.ref CN) none H') ∧
  ∀ a b ns ms, v1 = .ref a → v2 = .ref b → H a = some (.tup (ns.map V.int)) → H b = some (.tup (ms.map V.int)) → Sh ns → Sh ms → ∃ n, Bd n ns ∧ Bd n ms ∧ ns.length + ms.length ≤ 63 ∧ (addS n ns ms = none → ∀ H', Same H H' → E (.ref CN) none H') ∧
    ∀ ks, addS n ns ms = some ks → ks.length ≤ ns.length + ms.length → ∀ p H', Same H H' → H' p = some (.tup (ks.map V.int)) → Q (.ref p) H'
def spHalved : Sp := fun vs H Q _ => ∃ (a : Addr) (ns : List Int), vs = [.ref a] ∧ H a = some (.tup (ns.map V.int)) ∧ ns.length ≤ 1000 ∧ ∀ p H', Same H H' → H' p = some (.tup ((ns.map (· + 1)).map V.int)) → Q (.ref p) H'
def spHalf (CN : Addr) : Sp := fun vs H Q E => ∃ v : V, vs = [v] ∧ Tg H v ∧ (tupB (fun xs => shL xs && decide (0 < xs.length)) H v = false → ∀ H', Same H H' → E (.ref CN) none H') ∧
  ∀ a ns, v = .ref a → H a = some (.tup (ns.map V.int)) → Sh ns → ns ≠ [] → ∀ p H', Same H H' → H' p = some (.tup ((ns.map (· + 1)).map V.int)) → Q (.ref p) H'
section
variable {P : Program} {w : World} {K : PySem.W.Frag} {mg : Str → Option Value} {base : Heap} {CN : Addr}
theorem d_check_share (x_NoShare : ExcAt K mg "NoShare" CN) (F : FunAt K mg "check_share" s_check_share) (D_is_share : Has P w K mg base 3 "is_share" ["thing"] (spTup shL)) : HasX P w K mg base 4 "check_share" ["share"] (spCheckShare CN) := by
  refine mk_hasX F sc_check_share (fun _ _ _ _ _ _ us hl => match us, hl with | [_], _ => rfl) (fun vs H Q E h => ?_) fun f cdv A outer s H vs Q E hr h => ?_
  · obtain ⟨v, rfl, _⟩ := h
    rfl
  obtain ⟨v, rfl, g, k1, k2⟩ := h
  refine ⟨_, (pss_one (ps_if (pt_not (pt_val (pe_h D_is_share (hr.mono (by decide)) rfl (pa_cons (pv 0) pa_nil))))
    (pss_one (ps_rz rfl (takes_of rfl rfl rfl rfl) x_NoShare rfl))
    pss_nil)), ?_⟩
  trivial
  intro H1 s1
  trivial
  cases e : tupB shL H v with
  | true => exact ifF rfl (k2 e H1 s1)
  | false => exact ifT rfl (k1 e H1 s1)
theorem d_added (F : FunAt K mg "added" s_added) (D_merged : Has P w K mg base 1 "merged" ["shares"] spMerged) (D_is_share : Has P w K mg base 3 "is_share" ["thing"] (spTup shL)) : Has P w K mg base 4 "added" ["one", "other"] spAdded := by
  refine mk_has F sc_added (fun _ _ _ _ _ _ us hl => match us, hl with | [_, _], _ => rfl) (fun vs H Q E h => ?_) fun f cdv A outer s H vs Q E hr h => ?_
  · obtain ⟨n, a, b, ns, ms, rfl, _⟩ := h
    rfl
  obtain ⟨n, a, b, ns, ms, rfl, ea, eb, hns, hms, bn, bm, hl, k1, k2⟩ := h
  refine ⟨_, (pss_cons (ps_set (i := 2) sc_added.nd rfl (Or.inl rfl) (pe_h D_merged (hr.mono (by decide)) rfl (pa_cons (pe_tup (pa_cons (pv 0) (pa_cons (pv 1) pa_nil))) pa_nil)))
    (pss_one (ps_ret (pe_ifExp (pt_val (pe_h D_is_share (hr.mono (by decide)) rfl (pa_cons (pv 2) pa_nil))) (pv 2) pe_non)))), ?_⟩
  trivial
  intro t nt
  have st := same_new0 (o := .tup [.ref a, .ref b]) nt
  refine ⟨n, t, a, b, ns, ms, rfl, upd_same, st _ _ ea, st _ _ eb, hns, hms, bn, bm, hl, fun p H1 ks s1 ep hp hb ev hk => ?_⟩
  have g := Tg.ints ep (by omega)
  trivial
  intro H2 s2
  have ep2 := s2 _ _ ep
  rw [tupB_at ep]
  rcases addS_of hp hb ev with ⟨q1, q2⟩ | ⟨q1, q2⟩
  · rw [shL_iff.mpr q1]
    trivial
    exact k2 ks q2 hk p H2 ((st.trans s1).trans s2) ep2
  · rw [Bool.eq_false_iff.mpr fun z => q1 (shL_iff.mp z)]
    trivial
    exact k1 q2 H2 ((st.trans s1).trans s2)
theorem d_halved (B : Bi mg) (F : FunAt K mg "halved" s_halved) : Has P w K mg base 1 "halved" ["share"] spHalved := by
  refine mk_has F sc_halved (fun _ _ _ _ _ _ us hl => match us, hl with | [_], _ => rfl) (fun vs H Q E h => ?_) fun f cdv A outer s H vs Q E hr h => ?_
  · obtain ⟨a, ns, rfl, _⟩ := h
    rfl
  obtain ⟨a, ns, rfl, ea, hl, k⟩ := h
  refine ⟨_, (pss_one (ps_ret (pe_callTy call_tuple_of rfl B.tuple (by decide +kernel) (pa_cons (pe_lc (own := [("number", 1)]) (g := gName 1) (tt := tYes) (te := (tOp (rI0 fun i j => .int (i + j)) (tVar 1) (tC (.int 1)))) rfl sc_halved.nd (pi_tup (pv 0)) (blkOk_by (own := [("number", 1)]) (N := ["share", "number"]) (sc := defScope s_halved) (by decide +kernel)) (fun _ _ _ _ _ => (pg_name (i := 1) sc_halved.nd rfl (Or.inl rfl))) (fun _ _ _ _ _ => pts_nil) (fun _ _ _ _ _ => (pe_op op_add (pv 1) pe_int))) pa_nil)))), ?_⟩
  trivial
  intro D nD
  refine lc_map (walk_tup (xs := ns.map V.int)) ((ns.map (· + 1)).map V.int) (by simp) nD (by simp; omega) (fun i H' _ s => SqT.of (s _ _ ea)) (fun i x H3 H4 Pn hi s2 y fin => ?_) fun H3 s2 e1 => ?_
  · obtain ⟨rfl, gx⟩ := y
    rw [List.getElem?_map] at gx
    obtain ⟨q, hq, rfl⟩ := Option.map_eq_some_iff.mp gx
    trivial
    exact fin _ _ (by rw [List.getElem?_map, List.getElem?_map, hq]; rfl) (Same.refl _)
  · trivial
    intro p np
    exact k p _ (snew s2 np) upd_same
theorem d_half (x_NoShare : ExcAt K mg "NoShare" CN) (F : FunAt K mg "half" s_half) (D_is_some_share : Has P w K mg base 4 "is_some_share" ["thing"] (spTup fun xs => shL xs && decide (0 < xs.length))) (D_halved : Has P w K mg base 1 "halved" ["share"] spHalved) :
    HasX P w K mg base 5 "half" ["share"] (spHalf CN) := by
  refine mk_hasX F sc_half (fun _ _ _ _ _ _ us hl => match us, hl with | [_], _ => rfl) (fun vs H Q E h => ?_) fun f cdv A outer s H vs Q E hr h => ?_
  · obtain ⟨v, rfl, _⟩ := h
    rfl
  obtain ⟨v, rfl, g, k1, k2⟩ := h
  refine ⟨_, (pss_cons (ps_if (pt_not (pt_val (pe_h D_is_some_share (hr.mono (by decide)) rfl (pa_cons (pv 0) pa_nil))))
    (pss_one (ps_rz rfl (takes_of rfl rfl rfl rfl) x_NoShare rfl))
    pss_nil)
    (pss_one (ps_ret (pe_h D_halved (hr.mono (by decide)) rfl (pa_cons (pv 0) pa_nil))))), ?_⟩
  trivial
  intro H1 s1
  trivial
  cases e : tupB (fun xs => shL xs && decide (0 < xs.length)) H v with
  | false => exact ifT rfl (k1 e H1 s1)
  | true =>
    refine ifF rfl ?_
    obtain ⟨t, d⟩ := g.t
    by_cases ht : t = "tuple"
    · obtain ⟨a, xs, rfl, ea⟩ := d.tup_inv ht
      rw [tupB_at ea, Bool.and_eq_true] at e
      obtain ⟨e1, e2⟩ := e
      have n1 := nums_back (xs := xs) (by rw [shL, Bool.and_eq_true, Bool.and_eq_true] at e1; exact e1.1.1)
      have hl := (g.xs a xs rfl ea).1
      generalize xs.map intV = ns at n1
      subst n1
      have ea1 := s1 _ _ ea
      refine ⟨_, rfl, a, ns, rfl, ea1, by simpa using hl, fun p H2 s2 ep => ?_⟩
      exact k2 a ns rfl ea (shL_iff.mp e1) (fun z => by rw [z] at e2; simp at e2) p H2 (s1.trans s2) ep
    · rw [tupB_no d ht] at e
      cases e
theorem d_sum_of (x_NoShare : ExcAt K mg "NoShare" CN) (F : FunAt K mg "sum_of" s_sum_of) (D_check_share : HasX P w K mg base 4 "check_share" ["share"] (spCheckShare CN)) (D_added : Has P w K mg base 4 "added" ["one", "other"] spAdded) :
    HasX P w K mg base 5 "sum_of" ["one", "other"] (spSumOf CN) := by
  refine mk_hasX F sc_sum_of (fun _ _ _ _ _ _ us hl => match us, hl with | [_, _], _ => rfl) (fun vs H Q E h => ?_) fun f cdv A outer s H vs Q E hr h => ?_
  · obtain ⟨v1, v2, rfl, _⟩ := h
    rfl
  obtain ⟨v1, v2, rfl, g1, g2, k1, k2⟩ := h
  refine ⟨_, (pss_cons (ps_expr (pe_hX (takes_of rfl rfl rfl rfl) D_check_share (hr.mono (by decide)) rfl (pa_cons (pv 0) pa_nil)))
    (pss_cons (ps_expr (pe_hX (takes_of rfl rfl rfl rfl) D_check_share (hr.mono (by decide)) rfl (pa_cons (pv 1) pa_nil)))
    (pss_cons (ps_set (i := 2) sc_sum_of.nd rfl (Or.inl rfl) (pe_h D_added (hr.mono (by decide)) rfl (pa_cons (pv 0) (pa_cons (pv 1) pa_nil))))
    (pss_cons (ps_if (pt_cmp (pc_isN (pv 2)))
    (pss_one (ps_rz rfl (takes_of rfl rfl rfl rfl) x_NoShare rfl))
    pss_nil)
    (pss_one (ps_ret (pv 2))))))), ?_⟩
  trivial
  refine ⟨fun e H1 s1 => k1 (by rw [e]; rfl) H1 s1, fun e1 H1 s1 => ?_⟩
  have g2' := g2.same s1
  trivial
  rw [tupB_same g2 s1]
  refine ⟨fun e H2 s2 => k1 (by rw [e, Bool.and_false]) H2 (s1.trans s2), fun e2 H2 s2 => ?_⟩
  obtain ⟨a, ns, rfl, ea, hns, _⟩ := share_inv g1 e1
  obtain ⟨b, ms, rfl, eb, hms, _⟩ := share_inv g2 e2
  obtain ⟨n, bn, bm, hl, q1, q2⟩ := k2 a b ns ms rfl rfl ea eb hns hms
  have s12 := s1.trans s2
  refine ⟨_, rfl, _, rfl, n, a, b, ns, ms, rfl, s12 _ _ ea, s12 _ _ eb, hns, hms, bn, bm, hl, fun z H3 s3 => ?_, fun ks z hk p H3 s3 ep => ?_⟩
  · trivial
    exact q1 z H3 (s12.trans s3)
  · trivial
    exact q2 ks z hk p H3 (s12.trans s3) ep
end
end KQ
set_option Elab.async false
set_option maxRecDepth 100000
set_option maxHeartbeats 4000000
namespace KQ
open PySem PySem.Spec PyProof.Rows L2
theorem okB {c b : Bool} {Q : VK} {H : Hp} (h : c = b) (q : Q (.bl b) H) : Q (.bl c) H := by rw [h]; exact q
theorem Rp.notN {N : Addr → Prop} {H : Hp} {v : V} {d : PyData} (r : Rp N H v d) (h : d ≠ .none) : decide (v = .non) = false := by
  cases r <;> simp at h ⊢
theorem Rp.notB {N : Addr → Prop} {H : Hp} {v : V} {d : PyData} (r : Rp N H v d) {b : Bool} (h : d ≠ .bool b) : decide (v = .bl b) = false := by
  cases r <;> simp at h ⊢
  exact h
theorem RpAll.at_ {N : Addr → Prop} {H : Hp} : ∀ {vs : List V} {ds : List PyData} {i : Nat} {v : V}, RpAll N H vs ds → vs[i]? = some v → ∃ d, d ∈ ds ∧ ds[i]? = some d ∧ Rp N H v d
  | _, _, _, _, .nil, e => by simp at e
  | _, _, 0, _, .cons r _, e => by simp at e; subst e; exact ⟨_, List.mem_cons_self, rfl, r⟩
  | _, _, i + 1, _, .cons _ t, e => by
    obtain ⟨d, m, g, r⟩ := t.at_ (i := i) (by simpa using e)
    exact ⟨d, List.mem_cons_of_mem _ m, by simpa using g, r⟩
theorem depth_mem : ∀ {ds : List PyData} {d : PyData}, d ∈ ds → d.depth ≤ PyData.depthAll ds
  | x :: xs, d, h => by
    unfold PyData.depthAll
    rcases List.mem_cons.mp h with rfl | h
    · exact Nat.le_max_left _ _
    · exact Nat.le_trans (depth_mem h) (Nat.le_max_right _ _)
theorem lay_mem : ∀ {ds : List PyData} {d : PyData}, PyData.canLayAll0 ds = true → d ∈ ds → d.canLay0 = true
  | x :: xs, d, e, h => by
    unfold PyData.canLayAll0 at e
    rw [Bool.and_eq_true] at e
    rcases List.mem_cons.mp h with rfl | h
    · exact e.1
    · exact lay_mem e.2 h
section
variable {P : Program} {w : World} {K : PySem.W.Frag} {mg : Str → Option Value} {base : Heap}
end
end KQ
set_option Elab.async false
set_option maxRecDepth 100000
set_option maxHeartbeats 4000000
namespace KQ
open PySem PySem.Spec PyProof.Rows L2
theorem has_none {P : Program} {w : World} {K : PySem.W.Frag} {mg : Str → Option Value} {base : Heap} {x : Str} {st : Stmt} {ps : List Str} {k : Nat} {sp : Sp} (F : FunAt K mg x st) (hb : BindsTo? st x ps) (no : ∀ vs H Q E, ¬ sp vs H Q E) : Has P w K mg base k x ps sp := by
  obtain ⟨f, fd, F, m⟩ := F
  exact ⟨f, fd, ⟨fun vs H Q E h => absurd h (no vs H Q E), fun A outer s H args us vs Q E _ _ _ _ h => absurd h (no vs H Q E)⟩, m, F.kp, F.binds hb⟩
/-- the odd things -/
def odds : List PyData := [.none, .bool true, .bool false, .str "", .str "do", .str "0", .tuple [], .list [], .dict [], .tuple [.int 0], .list [.int 0, .int 0], .tuple [.tuple []],
  .int (-1), .int 13, .int (10 ^ 20 - 1), .tuple [.int 0, .int 13], .tuple [.bool true, .int 0], .tuple [.int 0, .int 0, .int 0]]
def spOdd : Sp := fun vs H Q _ => ∃ h l : Addr, vs = [.ref h] ∧ HandOk H h l ∧ ∀ (v : V) (d : PyData) (H' : Hp), d ∈ odds → Rp (Nh h) H' v d → HandOk H' h l → Kp (Nh h) H H' → Q v H'
theorem lt6 {i : Int} (h0 : 0 ≤ i) (h : i < 6) : i = 0 ∨ i = 1 ∨ i = 2 ∨ i = 3 ∨ i = 4 ∨ i = 5 := by omega
theorem Kp.hand {H H' : Hp} {h : Addr} (k : ∀ a, a ≠ h → H' a = H a) : Kp (Nh h) H H' := fun a o e n => by rw [k a n]; exact e
theorem Kp.hn {H : Hp} {h p : Addr} {H0 : Hp} {o : HO} (k : Kp (Nh h) H0 H) (n : H p = none) : Kp (Nh h) H0 (upd H p o) := k.new' n
/-- a datum just laid -/
theorem Rp.tup0 {H : Hp} {h l p : Addr} {vs : List V} {ds : List PyData} (ho : HandOk H h l) (n : H p = none) (r : RpAll (Nh h) H vs ds) : Rp (Nh h) (upd H p (.tup vs)) (.ref p) (.tuple ds) :=
  .tup upd_same (ho.ne n) (r.to (Kp.new n))
theorem Rp.lst0 {H : Hp} {h l p : Addr} {vs : List V} {ds : List PyData} (ho : HandOk H h l) (n : H p = none) (r : RpAll (Nh h) H vs ds) : Rp (Nh h) (upd H p (.lst vs)) (.ref p) (.list ds) :=
  .lst upd_same (ho.ne n) (r.to (Kp.new n))
theorem Rp.emp0 {H : Hp} {h l p : Addr} (ho : HandOk H h l) (n : H p = none) : Rp (Nh h) (upd H p (.dK [])) (.ref p) (.dict []) :=
  .emp upd_same (ho.ne n)
abbrev rI1 {N : Addr → Prop} {H : Hp} (i : Int) : RpAll N H [.int i] [.int i] := .cons (.int i) .nil
section
variable {P : Program} {w : World} {K : PySem.W.Frag} {mg : Str → Option Value} {base : Heap}
end
end KQ
set_option Elab.async false
set_option maxRecDepth 100000
set_option maxHeartbeats 4000000
namespace KQ
open PySem PySem.Spec PyProof.Rows L2
local macro_rules | `(tactic| trivial) => `(tactic| repeat (first | (apply And.intro; focus (first | rfl | assumption | exact upd_same | exact SqL.of (by (first | assumption | exact upd_same | (rw [upd_ne (by first | assumption | exact Ne.symm (by assumption))]; first | assumption | exact upd_same | (rw [upd_ne (by first | assumption | exact Ne.symm (by assumption))]; first | assumption | exact upd_same)))) | exact SqT.of (by (first | assumption | exact upd_same | (rw [upd_ne (by first | assumption | exact Ne.symm (by assumption))]; first | assumption | exact upd_same | (rw [upd_ne (by first | assumption | exact Ne.symm (by assumption))]; first | assumption | exact upd_same)))) | exact Or.inl (SqL.of (by (first | assumption | exact upd_same | (rw [upd_ne (by first | assumption | exact Ne.symm (by assumption))]; first | assumption | exact upd_same | (rw [upd_ne (by first | assumption | exact Ne.symm (by assumption))]; first | assumption | exact upd_same))))) | exact Or.inr (SqT.of (by (first | assumption | exact upd_same | (rw [upd_ne (by first | assumption | exact Ne.symm (by assumption))]; first | assumption | exact upd_same | (rw [upd_ne (by first | assumption | exact Ne.symm (by assumption))]; first | assumption | exact upd_same))))) | exact Or.inl ⟨rfl, _, SqL.of (by (first | assumption | exact upd_same | (rw [upd_ne (by first | assumption | exact Ne.symm (by assumption))]; first | assumption | exact upd_same | (rw [upd_ne (by first | assumption | exact Ne.symm (by assumption))]; first | assumption | exact upd_same))))⟩ | (first | assumption | exact upd_same | (rw [upd_ne (by first | assumption | exact Ne.symm (by assumption))]; first | assumption | exact upd_same | (rw [upd_ne (by first | assumption | exact Ne.symm (by assumption))]; first | assumption | exact upd_same))) | decide | exact Nat.le_of_ble_eq_true rfl | omega | (show ∃ xs, SqL _ _ _ xs; exact ⟨_, SqL.of (by (first | assumption | exact upd_same | (rw [upd_ne (by first | assumption | exact Ne.symm (by assumption))]; first | assumption | exact upd_same | (rw [upd_ne (by first | assumption | exact Ne.symm (by assumption))]; first | assumption | exact upd_same))))⟩) | (show ∃ xs, SqT _ _ _ xs; exact ⟨_, SqT.of (by (first | assumption | exact upd_same | (rw [upd_ne (by first | assumption | exact Ne.symm (by assumption))]; first | assumption | exact upd_same | (rw [upd_ne (by first | assumption | exact Ne.symm (by assumption))]; first | assumption | exact upd_same))))⟩) | exact DGet.k (k := Sum.inl _) (by (first | assumption | exact upd_same | (rw [upd_ne (by first | assumption | exact Ne.symm (by assumption))]; first | assumption | exact upd_same | (rw [upd_ne (by first | assumption | exact Ne.symm (by assumption))]; first | assumption | exact upd_same)))) | (show V.int _ = kV (Sum.inl _); rfl) | (show ∃ z, V.str _ = V.str z; exact ⟨_, rfl⟩) | exact Or.inl ⟨by (first | decide | omega), by (first | decide | omega)⟩ | exact Or.inr ⟨by (first | decide | omega), by (first | decide | omega)⟩ | exact ⟨by (first | decide | omega), by (first | decide | omega)⟩ | exact ⟨by decide, by decide, by decide⟩ | exact L2.ClsV.ty _ | exact Dt.ty (by assumption) | exact Dt.kint (by assumption) | exact Dt.kbool (by assumption) | exact Dt.ktuple (by assumption) | exact Dt.klist (by assumption) | exact Dt.kstr (by assumption))) | (apply Exists.intro; apply And.intro; focus (first | rfl | assumption | exact upd_same | exact SqL.of (by (first | assumption | exact upd_same | (rw [upd_ne (by first | assumption | exact Ne.symm (by assumption))]; first | assumption | exact upd_same | (rw [upd_ne (by first | assumption | exact Ne.symm (by assumption))]; first | assumption | exact upd_same)))) | exact SqT.of (by (first | assumption | exact upd_same | (rw [upd_ne (by first | assumption | exact Ne.symm (by assumption))]; first | assumption | exact upd_same | (rw [upd_ne (by first | assumption | exact Ne.symm (by assumption))]; first | assumption | exact upd_same)))) | exact Or.inl (SqL.of (by (first | assumption | exact upd_same | (rw [upd_ne (by first | assumption | exact Ne.symm (by assumption))]; first | assumption | exact upd_same | (rw [upd_ne (by first | assumption | exact Ne.symm (by assumption))]; first | assumption | exact upd_same))))) | exact Or.inr (SqT.of (by (first | assumption | exact upd_same | (rw [upd_ne (by first | assumption | exact Ne.symm (by assumption))]; first | assumption | exact upd_same | (rw [upd_ne (by first | assumption | exact Ne.symm (by assumption))]; first | assumption | exact upd_same))))) | exact Or.inl ⟨rfl, _, SqL.of (by (first | assumption | exact upd_same | (rw [upd_ne (by first | assumption | exact Ne.symm (by assumption))]; first | assumption | exact upd_same | (rw [upd_ne (by first | assumption | exact Ne.symm (by assumption))]; first | assumption | exact upd_same))))⟩ | (first | assumption | exact upd_same | (rw [upd_ne (by first | assumption | exact Ne.symm (by assumption))]; first | assumption | exact upd_same | (rw [upd_ne (by first | assumption | exact Ne.symm (by assumption))]; first | assumption | exact upd_same))) | decide | exact Nat.le_of_ble_eq_true rfl | omega | (show ∃ xs, SqL _ _ _ xs; exact ⟨_, SqL.of (by (first | assumption | exact upd_same | (rw [upd_ne (by first | assumption | exact Ne.symm (by assumption))]; first | assumption | exact upd_same | (rw [upd_ne (by first | assumption | exact Ne.symm (by assumption))]; first | assumption | exact upd_same))))⟩) | (show ∃ xs, SqT _ _ _ xs; exact ⟨_, SqT.of (by (first | assumption | exact upd_same | (rw [upd_ne (by first | assumption | exact Ne.symm (by assumption))]; first | assumption | exact upd_same | (rw [upd_ne (by first | assumption | exact Ne.symm (by assumption))]; first | assumption | exact upd_same))))⟩) | exact DGet.k (k := Sum.inl _) (by (first | assumption | exact upd_same | (rw [upd_ne (by first | assumption | exact Ne.symm (by assumption))]; first | assumption | exact upd_same | (rw [upd_ne (by first | assumption | exact Ne.symm (by assumption))]; first | assumption | exact upd_same)))) | (show V.int _ = kV (Sum.inl _); rfl) | (show ∃ z, V.str _ = V.str z; exact ⟨_, rfl⟩) | exact Or.inl ⟨by (first | decide | omega), by (first | decide | omega)⟩ | exact Or.inr ⟨by (first | decide | omega), by (first | decide | omega)⟩ | exact ⟨by (first | decide | omega), by (first | decide | omega)⟩ | exact ⟨by decide, by decide, by decide⟩ | exact L2.ClsV.ty _ | exact Dt.ty (by assumption) | exact Dt.kint (by assumption) | exact Dt.kbool (by assumption) | exact Dt.ktuple (by assumption) | exact Dt.klist (by assumption) | exact Dt.kstr (by assumption))) | (apply Exists.intro; apply Exists.intro; apply And.intro; focus (first | rfl | assumption | exact upd_same | exact SqL.of (by (first | assumption | exact upd_same | (rw [upd_ne (by first | assumption | exact Ne.symm (by assumption))]; first | assumption | exact upd_same | (rw [upd_ne (by first | assumption | exact Ne.symm (by assumption))]; first | assumption | exact upd_same)))) | exact SqT.of (by (first | assumption | exact upd_same | (rw [upd_ne (by first | assumption | exact Ne.symm (by assumption))]; first | assumption | exact upd_same | (rw [upd_ne (by first | assumption | exact Ne.symm (by assumption))]; first | assumption | exact upd_same)))) | exact Or.inl (SqL.of (by (first | assumption | exact upd_same | (rw [upd_ne (by first | assumption | exact Ne.symm (by assumption))]; first | assumption | exact upd_same | (rw [upd_ne (by first | assumption | exact Ne.symm (by assumption))]; first | assumption | exact upd_same))))) | exact Or.inr (SqT.of (by (first | assumption | exact upd_same | (rw [upd_ne (by first | assumption | exact Ne.symm (by assumption))]; first | assumption | exact upd_same | (rw [upd_ne (by first | assumption | exact Ne.symm (by assumption))]; first | assumption | exact upd_same))))) | exact Or.inl ⟨rfl, _, SqL.of (by (first | assumption | exact upd_same | (rw [upd_ne (by first | assumption | exact Ne.symm (by assumption))]; first | assumption | exact upd_same | (rw [upd_ne (by first | assumption | exact Ne.symm (by assumption))]; first | assumption | exact upd_same))))⟩ | (first | assumption | exact upd_same | (rw [upd_ne (by first | assumption | exact Ne.symm (by assumption))]; first | assumption | exact upd_same | (rw [upd_ne (by first | assumption | exact Ne.symm (by assumption))]; first | assumption | exact upd_same))) | decide | exact Nat.le_of_ble_eq_true rfl | omega | (show ∃ xs, SqL _ _ _ xs; exact ⟨_, SqL.of (by (first | assumption | exact upd_same | (rw [upd_ne (by first | assumption | exact Ne.symm (by assumption))]; first | assumption | exact upd_same | (rw [upd_ne (by first | assumption | exact Ne.symm (by assumption))]; first | assumption | exact upd_same))))⟩) | (show ∃ xs, SqT _ _ _ xs; exact ⟨_, SqT.of (by (first | assumption | exact upd_same | (rw [upd_ne (by first | assumption | exact Ne.symm (by assumption))]; first | assumption | exact upd_same | (rw [upd_ne (by first | assumption | exact Ne.symm (by assumption))]; first | assumption | exact upd_same))))⟩) | exact DGet.k (k := Sum.inl _) (by (first | assumption | exact upd_same | (rw [upd_ne (by first | assumption | exact Ne.symm (by assumption))]; first | assumption | exact upd_same | (rw [upd_ne (by first | assumption | exact Ne.symm (by assumption))]; first | assumption | exact upd_same)))) | (show V.int _ = kV (Sum.inl _); rfl) | (show ∃ z, V.str _ = V.str z; exact ⟨_, rfl⟩) | exact Or.inl ⟨by (first | decide | omega), by (first | decide | omega)⟩ | exact Or.inr ⟨by (first | decide | omega), by (first | decide | omega)⟩ | exact ⟨by (first | decide | omega), by (first | decide | omega)⟩ | exact ⟨by decide, by decide, by decide⟩ | exact L2.ClsV.ty _ | exact Dt.ty (by assumption) | exact Dt.kint (by assumption) | exact Dt.kbool (by assumption) | exact Dt.ktuple (by assumption) | exact Dt.klist (by assumption) | exact Dt.kstr (by assumption))) | (apply Exists.intro; apply Exists.intro; apply Exists.intro; apply And.intro; focus (first | rfl | assumption | exact upd_same | exact SqL.of (by (first | assumption | exact upd_same | (rw [upd_ne (by first | assumption | exact Ne.symm (by assumption))]; first | assumption | exact upd_same | (rw [upd_ne (by first | assumption | exact Ne.symm (by assumption))]; first | assumption | exact upd_same)))) | exact SqT.of (by (first | assumption | exact upd_same | (rw [upd_ne (by first | assumption | exact Ne.symm (by assumption))]; first | assumption | exact upd_same | (rw [upd_ne (by first | assumption | exact Ne.symm (by assumption))]; first | assumption | exact upd_same)))) | exact Or.inl (SqL.of (by (first | assumption | exact upd_same | (rw [upd_ne (by first | assumption | exact Ne.symm (by assumption))]; first | assumption | exact upd_same | (rw [upd_ne (by first | assumption | exact Ne.symm (by assumption))]; first | assumption | exact upd_same))))) | exact Or.inr (SqT.of (by (first | assumption | exact upd_same | (rw [upd_ne (by first | assumption | exact Ne.symm (by assumption))]; first | assumption | exact upd_same | (rw [upd_ne (by first | assumption | exact Ne.symm (by assumption))]; first | assumption | exact upd_same))))) | exact Or.inl ⟨rfl, _, SqL.of (by (first | assumption | exact upd_same | (rw [upd_ne (by first | assumption | exact Ne.symm (by assumption))]; first | assumption | exact upd_same | (rw [upd_ne (by first | assumption | exact Ne.symm (by assumption))]; first | assumption | exact upd_same))))⟩ | (first | assumption | exact upd_same | (rw [upd_ne (by first | assumption | exact Ne.symm (by assumption))]; first | assumption | exact upd_same | (rw [upd_ne (by first | assumption | exact Ne.symm (by assumption))]; first | assumption | exact upd_same))) | decide | exact Nat.le_of_ble_eq_true rfl | omega | (show ∃ xs, SqL _ _ _ xs; exact ⟨_, SqL.of (by (first | assumption | exact upd_same | (rw [upd_ne (by first | assumption | exact Ne.symm (by assumption))]; first | assumption | exact upd_same | (rw [upd_ne (by first | assumption | exact Ne.symm (by assumption))]; first | assumption | exact upd_same))))⟩) | (show ∃ xs, SqT _ _ _ xs; exact ⟨_, SqT.of (by (first | assumption | exact upd_same | (rw [upd_ne (by first | assumption | exact Ne.symm (by assumption))]; first | assumption | exact upd_same | (rw [upd_ne (by first | assumption | exact Ne.symm (by assumption))]; first | assumption | exact upd_same))))⟩) | exact DGet.k (k := Sum.inl _) (by (first | assumption | exact upd_same | (rw [upd_ne (by first | assumption | exact Ne.symm (by assumption))]; first | assumption | exact upd_same | (rw [upd_ne (by first | assumption | exact Ne.symm (by assumption))]; first | assumption | exact upd_same)))) | (show V.int _ = kV (Sum.inl _); rfl) | (show ∃ z, V.str _ = V.str z; exact ⟨_, rfl⟩) | exact Or.inl ⟨by (first | decide | omega), by (first | decide | omega)⟩ | exact Or.inr ⟨by (first | decide | omega), by (first | decide | omega)⟩ | exact ⟨by (first | decide | omega), by (first | decide | omega)⟩ | exact ⟨by decide, by decide, by decide⟩ | exact L2.ClsV.ty _ | exact Dt.ty (by assumption) | exact Dt.kint (by assumption) | exact Dt.kbool (by assumption) | exact Dt.ktuple (by assumption) | exact Dt.klist (by assumption) | exact Dt.kstr (by assumption))) | (apply Exists.intro; apply Exists.intro; apply Exists.intro; apply Exists.intro; apply And.intro; focus (first | rfl | assumption | exact upd_same | exact SqL.of (by (first | assumption | exact upd_same | (rw [upd_ne (by first | assumption | exact Ne.symm (by assumption))]; first | assumption | exact upd_same | (rw [upd_ne (by first | assumption | exact Ne.symm (by assumption))]; first | assumption | exact upd_same)))) | exact SqT.of (by (first | assumption | exact upd_same | (rw [upd_ne (by first | assumption | exact Ne.symm (by assumption))]; first | assumption | exact upd_same | (rw [upd_ne (by first | assumption | exact Ne.symm (by assumption))]; first | assumption | exact upd_same)))) | exact Or.inl (SqL.of (by (first | assumption | exact upd_same | (rw [upd_ne (by first | assumption | exact Ne.symm (by assumption))]; first | assumption | exact upd_same | (rw [upd_ne (by first | assumption | exact Ne.symm (by assumption))]; first | assumption | exact upd_same))))) | exact Or.inr (SqT.of (by (first | assumption | exact upd_same | (rw [upd_ne (by first | assumption | exact Ne.symm (by assumption))]; first | assumption | exact upd_same | (rw [upd_ne (by first | assumption | exact Ne.symm (by assumption))]; first | assumption | exact upd_same))))) | exact Or.inl ⟨rfl, _, SqL.of (by (first | assumption | exact upd_same | (rw [upd_ne (by first | assumption | exact Ne.symm (by assumption))]; first | assumption | exact upd_same | (rw [upd_ne (by first | assumption | exact Ne.symm (by assumption))]; first | assumption | exact upd_same))))⟩ | (first | assumption | exact upd_same | (rw [upd_ne (by first | assumption | exact Ne.symm (by assumption))]; first | assumption | exact upd_same | (rw [upd_ne (by first | assumption | exact Ne.symm (by assumption))]; first | assumption | exact upd_same))) | decide | exact Nat.le_of_ble_eq_true rfl | omega | (show ∃ xs, SqL _ _ _ xs; exact ⟨_, SqL.of (by (first | assumption | exact upd_same | (rw [upd_ne (by first | assumption | exact Ne.symm (by assumption))]; first | assumption | exact upd_same | (rw [upd_ne (by first | assumption | exact Ne.symm (by assumption))]; first | assumption | exact upd_same))))⟩) | (show ∃ xs, SqT _ _ _ xs; exact ⟨_, SqT.of (by (first | assumption | exact upd_same | (rw [upd_ne (by first | assumption | exact Ne.symm (by assumption))]; first | assumption | exact upd_same | (rw [upd_ne (by first | assumption | exact Ne.symm (by assumption))]; first | assumption | exact upd_same))))⟩) | exact DGet.k (k := Sum.inl _) (by (first | assumption | exact upd_same | (rw [upd_ne (by first | assumption | exact Ne.symm (by assumption))]; first | assumption | exact upd_same | (rw [upd_ne (by first | assumption | exact Ne.symm (by assumption))]; first | assumption | exact upd_same)))) | (show V.int _ = kV (Sum.inl _); rfl) | (show ∃ z, V.str _ = V.str z; exact ⟨_, rfl⟩) | exact Or.inl ⟨by (first | decide | omega), by (first | decide | omega)⟩ | exact Or.inr ⟨by (first | decide | omega), by (first | decide | omega)⟩ | exact ⟨by (first | decide | omega), by (first | decide | omega)⟩ | exact ⟨by decide, by decide, by decide⟩ | exact L2.ClsV.ty _ | exact Dt.ty (by assumption) | exact Dt.kint (by assumption) | exact Dt.kbool (by assumption) | exact Dt.ktuple (by assumption) | exact Dt.klist (by assumption) | exact Dt.kstr (by assumption))) | (apply Exists.intro; apply Exists.intro; apply Exists.intro; apply Exists.intro; apply Exists.intro; apply And.intro; focus (first | rfl | assumption | exact upd_same | exact SqL.of (by (first | assumption | exact upd_same | (rw [upd_ne (by first | assumption | exact Ne.symm (by assumption))]; first | assumption | exact upd_same | (rw [upd_ne (by first | assumption | exact Ne.symm (by assumption))]; first | assumption | exact upd_same)))) | exact SqT.of (by (first | assumption | exact upd_same | (rw [upd_ne (by first | assumption | exact Ne.symm (by assumption))]; first | assumption | exact upd_same | (rw [upd_ne (by first | assumption | exact Ne.symm (by assumption))]; first | assumption | exact upd_same)))) | exact Or.inl (SqL.of (by (first | assumption | exact upd_same | (rw [upd_ne (by first | assumption | exact Ne.symm (by assumption))]; first | assumption | exact upd_same | (rw [upd_ne (by first | assumption | exact Ne.symm (by assumption))]; first | assumption | exact upd_same))))) | exact Or.inr (SqT.of (by (first | assumption | exact upd_same | (rw [upd_ne (by first | assumption | exact Ne.symm (by assumption))]; first | assumption | exact upd_same | (rw [upd_ne (by first | assumption | exact Ne.symm (by assumption))]; first | assumption | exact upd_same))))) | exact Or.inl ⟨rfl, _, SqL.of (by (first | assumption | exact upd_same | (rw [upd_ne (by first | assumption | exact Ne.symm (by assumption))]; first | assumption | exact upd_same | (rw [upd_ne (by first | assumption | exact Ne.symm (by assumption))]; first | assumption | exact upd_same))))⟩ | (first | assumption | exact upd_same | (rw [upd_ne (by first | assumption | exact Ne.symm (by assumption))]; first | assumption | exact upd_same | (rw [upd_ne (by first | assumption | exact Ne.symm (by assumption))]; first | assumption | exact upd_same))) | decide | exact Nat.le_of_ble_eq_true rfl | omega | (show ∃ xs, SqL _ _ _ xs; exact ⟨_, SqL.of (by (first | assumption | exact upd_same | (rw [upd_ne (by first | assumption | exact Ne.symm (by assumption))]; first | assumption | exact upd_same | (rw [upd_ne (by first | assumption | exact Ne.symm (by assumption))]; first | assumption | exact upd_same))))⟩) | (show ∃ xs, SqT _ _ _ xs; exact ⟨_, SqT.of (by (first | assumption | exact upd_same | (rw [upd_ne (by first | assumption | exact Ne.symm (by assumption))]; first | assumption | exact upd_same | (rw [upd_ne (by first | assumption | exact Ne.symm (by assumption))]; first | assumption | exact upd_same))))⟩) | exact DGet.k (k := Sum.inl _) (by (first | assumption | exact upd_same | (rw [upd_ne (by first | assumption | exact Ne.symm (by assumption))]; first | assumption | exact upd_same | (rw [upd_ne (by first | assumption | exact Ne.symm (by assumption))]; first | assumption | exact upd_same)))) | (show V.int _ = kV (Sum.inl _); rfl) | (show ∃ z, V.str _ = V.str z; exact ⟨_, rfl⟩) | exact Or.inl ⟨by (first | decide | omega), by (first | decide | omega)⟩ | exact Or.inr ⟨by (first | decide | omega), by (first | decide | omega)⟩ | exact ⟨by (first | decide | omega), by (first | decide | omega)⟩ | exact ⟨by decide, by decide, by decide⟩ | exact L2.ClsV.ty _ | exact Dt.ty (by assumption) | exact Dt.kint (by assumption) | exact Dt.kbool (by assumption) | exact Dt.ktuple (by assumption) | exact Dt.klist (by assumption) | exact Dt.kstr (by assumption))) | (apply Exists.intro; apply Exists.intro; apply Exists.intro; apply Exists.intro; apply Exists.intro; apply Exists.intro; apply And.intro; focus (first | rfl | assumption | exact upd_same | exact SqL.of (by (first | assumption | exact upd_same | (rw [upd_ne (by first | assumption | exact Ne.symm (by assumption))]; first | assumption | exact upd_same | (rw [upd_ne (by first | assumption | exact Ne.symm (by assumption))]; first | assumption | exact upd_same)))) | exact SqT.of (by (first | assumption | exact upd_same | (rw [upd_ne (by first | assumption | exact Ne.symm (by assumption))]; first | assumption | exact upd_same | (rw [upd_ne (by first | assumption | exact Ne.symm (by assumption))]; first | assumption | exact upd_same)))) | exact Or.inl (SqL.of (by (first | assumption | exact upd_same | (rw [upd_ne (by first | assumption | exact Ne.symm (by assumption))]; first | assumption | exact upd_same | (rw [upd_ne (by first | assumption | exact Ne.symm (by assumption))]; first | assumption | exact upd_same))))) | exact Or.inr (SqT.of (by (first | assumption | exact upd_same | (rw [upd_ne (by first | assumption | exact Ne.symm (by assumption))]; first | assumption | exact upd_same | (rw [upd_ne (by first | assumption | exact Ne.symm (by assumption))]; first | assumption | exact upd_same))))) | exact Or.inl ⟨rfl, _, SqL.of (by (first | assumption | exact upd_same | (rw [upd_ne (by first | assumption | exact Ne.symm (by assumption))]; first | assumption | exact upd_same | (rw [upd_ne (by first | assumption | exact Ne.symm (by assumption))]; first | assumption | exact upd_same))))⟩ | (first | assumption | exact upd_same | (rw [upd_ne (by first | assumption | exact Ne.symm (by assumption))]; first | assumption | exact upd_same | (rw [upd_ne (by first | assumption | exact Ne.symm (by assumption))]; first | assumption | exact upd_same))) | decide | exact Nat.le_of_ble_eq_true rfl | omega | (show ∃ xs, SqL _ _ _ xs; exact ⟨_, SqL.of (by (first | assumption | exact upd_same | (rw [upd_ne (by first | assumption | exact Ne.symm (by assumption))]; first | assumption | exact upd_same | (rw [upd_ne (by first | assumption | exact Ne.symm (by assumption))]; first | assumption | exact upd_same))))⟩) | (show ∃ xs, SqT _ _ _ xs; exact ⟨_, SqT.of (by (first | assumption | exact upd_same | (rw [upd_ne (by first | assumption | exact Ne.symm (by assumption))]; first | assumption | exact upd_same | (rw [upd_ne (by first | assumption | exact Ne.symm (by assumption))]; first | assumption | exact upd_same))))⟩) | exact DGet.k (k := Sum.inl _) (by (first | assumption | exact upd_same | (rw [upd_ne (by first | assumption | exact Ne.symm (by assumption))]; first | assumption | exact upd_same | (rw [upd_ne (by first | assumption | exact Ne.symm (by assumption))]; first | assumption | exact upd_same)))) | (show V.int _ = kV (Sum.inl _); rfl) | (show ∃ z, V.str _ = V.str z; exact ⟨_, rfl⟩) | exact Or.inl ⟨by (first | decide | omega), by (first | decide | omega)⟩ | exact Or.inr ⟨by (first | decide | omega), by (first | decide | omega)⟩ | exact ⟨by (first | decide | omega), by (first | decide | omega)⟩ | exact ⟨by decide, by decide, by decide⟩ | exact L2.ClsV.ty _ | exact Dt.ty (by assumption) | exact Dt.kint (by assumption) | exact Dt.kbool (by assumption) | exact Dt.ktuple (by assumption) | exact Dt.klist (by assumption) | exact Dt.kstr (by assumption))) | (apply Exists.intro; apply Exists.intro; apply Exists.intro; apply Exists.intro; apply Exists.intro; apply Exists.intro; apply Exists.intro; apply And.intro; focus (first | rfl | assumption | exact upd_same | exact SqL.of (by (first | assumption | exact upd_same | (rw [upd_ne (by first | assumption | exact Ne.symm (by assumption))]; first | assumption | exact upd_same | (rw [upd_ne (by first | assumption | exact Ne.symm (by assumption))]; first | assumption | exact upd_same)))) | exact SqT.of (by (first | assumption | exact upd_same | (rw [upd_ne (by first | assumption | exact Ne.symm (by assumption))]; first | assumption | exact upd_same | (rw [upd_ne (by first | assumption | exact Ne.symm (by assumption))]; first | assumption | exact upd_same)))) | exact Or.inl (SqL.of (by (first | assumption | exact upd_same | (rw [upd_ne (by first | assumption | exact Ne.symm (by assumption))]; first | assumption | exact upd_same | (rw [upd_ne (by first | assumption | exact Ne.symm (by assumption))]; first | assumption | exact upd_same))))) | exact Or.inr (SqT.of (by (first | assumption | exact upd_same | (rw [upd_ne (by first | assumption | exact Ne.symm (by assumption))]; first | assumption | exact upd_same | (rw [upd_ne (by first | assumption | exact Ne.symm (by assumption))]; first | assumption | exact upd_same))))) | exact Or.inl ⟨rfl, _, SqL.of (by (first | assumption | exact upd_same | (rw [upd_ne (by first | assumption | exact Ne.symm (by assumption))]; first | assumption | exact upd_same | (rw [upd_ne (by first | assumption | exact Ne.symm (by assumption))]; first | assumption | exact upd_same))))⟩ | (first | assumption | exact upd_same | (rw [upd_ne (by first | assumption | exact Ne.symm (by assumption))]; first | assumption | exact upd_same | (rw [upd_ne (by first | assumption | exact Ne.symm (by assumption))]; first | assumption | exact upd_same))) | decide | exact Nat.le_of_ble_eq_true rfl | omega | (show ∃ xs, SqL _ _ _ xs; exact ⟨_, SqL.of (by (first | assumption | exact upd_same | (rw [upd_ne (by first | assumption | exact Ne.symm (by assumption))]; first | assumption | exact upd_same | (rw [upd_ne (by first | assumption | exact Ne.symm (by assumption))]; first | assumption | exact upd_same))))⟩) | (show ∃ xs, SqT _ _ _ xs; exact ⟨_, SqT.of (by (first | assumption | exact upd_same | (rw [upd_ne (by first | assumption | exact Ne.symm (by assumption))]; first | assumption | exact upd_same | (rw [upd_ne (by first | assumption | exact Ne.symm (by assumption))]; first | assumption | exact upd_same))))⟩) | exact DGet.k (k := Sum.inl _) (by (first | assumption | exact upd_same | (rw [upd_ne (by first | assumption | exact Ne.symm (by assumption))]; first | assumption | exact upd_same | (rw [upd_ne (by first | assumption | exact Ne.symm (by assumption))]; first | assumption | exact upd_same)))) | (show V.int _ = kV (Sum.inl _); rfl) | (show ∃ z, V.str _ = V.str z; exact ⟨_, rfl⟩) | exact Or.inl ⟨by (first | decide | omega), by (first | decide | omega)⟩ | exact Or.inr ⟨by (first | decide | omega), by (first | decide | omega)⟩ | exact ⟨by (first | decide | omega), by (first | decide | omega)⟩ | exact ⟨by decide, by decide, by decide⟩ | exact L2.ClsV.ty _ | exact Dt.ty (by assumption) | exact Dt.kint (by assumption) | exact Dt.kbool (by assumption) | exact Dt.ktuple (by assumption) | exact Dt.klist (by assumption) | exact Dt.kstr (by assumption))) | (apply Exists.intro; apply Exists.intro; apply Exists.intro; apply Exists.intro; apply Exists.intro; apply Exists.intro; apply Exists.intro; apply Exists.intro; apply And.intro; focus (first | rfl | assumption | exact upd_same | exact SqL.of (by (first | assumption | exact upd_same | (rw [upd_ne (by first | assumption | exact Ne.symm (by assumption))]; first | assumption | exact upd_same | (rw [upd_ne (by first | assumption | exact Ne.symm (by assumption))]; first | assumption | exact upd_same)))) | exact SqT.of (by (first | assumption | exact upd_same | (rw [upd_ne (by first | assumption | exact Ne.symm (by assumption))]; first | assumption | exact upd_same | (rw [upd_ne (by first | assumption | exact Ne.symm (by assumption))]; first | assumption | exact upd_same)))) | exact Or.inl (SqL.of (by (first | assumption | exact upd_same | (rw [upd_ne (by first | assumption | exact Ne.symm (by assumption))]; first | assumption | exact upd_same | (rw [upd_ne (by first | assumption | exact Ne.symm (by assumption))]; first | assumption | exact upd_same))))) | exact Or.inr (SqT.of (by (first | assumption | exact upd_same | (rw [upd_ne (by first | assumption | exact Ne.symm (by assumption))]; first | assumption | exact upd_same | (rw [upd_ne (by first | assumption | exact Ne.symm (by assumption))]; first | assumption | exact upd_same))))) | exact Or.inl ⟨rfl, _, SqL.of (by (first | assumption | exact upd_same | (rw [upd_ne (by first | assumption | exact Ne.symm (by assumption))]; first | assumption | exact upd_same | (rw [upd_ne (by first | assumption | exact Ne.symm (by assumption))]; first | assumption | exact upd_same))))⟩ | (first | assumption | exact upd_same | (rw [upd_ne (by first | assumption | exact Ne.symm (by assumption))]; first | assumption | exact upd_same | (rw [upd_ne (by first | assumption | exact Ne.symm (by assumption))]; first | assumption | exact upd_same))) | decide | exact Nat.le_of_ble_eq_true rfl | omega | (show ∃ xs, SqL _ _ _ xs; exact ⟨_, SqL.of (by (first | assumption | exact upd_same | (rw [upd_ne (by first | assumption | exact Ne.symm (by assumption))]; first | assumption | exact upd_same | (rw [upd_ne (by first | assumption | exact Ne.symm (by assumption))]; first | assumption | exact upd_same))))⟩) | (show ∃ xs, SqT _ _ _ xs; exact ⟨_, SqT.of (by (first | assumption | exact upd_same | (rw [upd_ne (by first | assumption | exact Ne.symm (by assumption))]; first | assumption | exact upd_same | (rw [upd_ne (by first | assumption | exact Ne.symm (by assumption))]; first | assumption | exact upd_same))))⟩) | exact DGet.k (k := Sum.inl _) (by (first | assumption | exact upd_same | (rw [upd_ne (by first | assumption | exact Ne.symm (by assumption))]; first | assumption | exact upd_same | (rw [upd_ne (by first | assumption | exact Ne.symm (by assumption))]; first | assumption | exact upd_same)))) | (show V.int _ = kV (Sum.inl _); rfl) | (show ∃ z, V.str _ = V.str z; exact ⟨_, rfl⟩) | exact Or.inl ⟨by (first | decide | omega), by (first | decide | omega)⟩ | exact Or.inr ⟨by (first | decide | omega), by (first | decide | omega)⟩ | exact ⟨by (first | decide | omega), by (first | decide | omega)⟩ | exact ⟨by decide, by decide, by decide⟩ | exact L2.ClsV.ty _ | exact Dt.ty (by assumption) | exact Dt.kint (by assumption) | exact Dt.kbool (by assumption) | exact Dt.ktuple (by assumption) | exact Dt.klist (by assumption) | exact Dt.kstr (by assumption))) | (apply Exists.intro; apply Exists.intro; apply Exists.intro; apply Exists.intro; apply Exists.intro; apply Exists.intro; apply Exists.intro; apply Exists.intro; apply Exists.intro; apply And.intro; focus (first | rfl | assumption | exact upd_same | exact SqL.of (by (first | assumption | exact upd_same | (rw [upd_ne (by first | assumption | exact Ne.symm (by assumption))]; first | assumption | exact upd_same | (rw [upd_ne (by first | assumption | exact Ne.symm (by assumption))]; first | assumption | exact upd_same)))) | exact SqT.of (by (first | assumption | exact upd_same | (rw [upd_ne (by first | assumption | exact Ne.symm (by assumption))]; first | assumption | exact upd_same | (rw [upd_ne (by first | assumption | exact Ne.symm (by assumption))]; first | assumption | exact upd_same)))) | exact Or.inl (SqL.of (by (first | assumption | exact upd_same | (rw [upd_ne (by first | assumption | exact Ne.symm (by assumption))]; first | assumption | exact upd_same | (rw [upd_ne (by first | assumption | exact Ne.symm (by assumption))]; first | assumption | exact upd_same))))) | exact Or.inr (SqT.of (by (first | assumption | exact upd_same | (rw [upd_ne (by first | assumption | exact Ne.symm (by assumption))]; first | assumption | exact upd_same | (rw [upd_ne (by first | assumption | exact Ne.symm (by assumption))]; first | assumption | exact upd_same))))) | exact Or.inl ⟨rfl, _, SqL.of (by (first | assumption | exact upd_same | (rw [upd_ne (by first | assumption | exact Ne.symm (by assumption))]; first | assumption | exact upd_same | (rw [upd_ne (by first | assumption | exact Ne.symm (by assumption))]; first | assumption | exact upd_same))))⟩ | (first | assumption | exact upd_same | (rw [upd_ne (by first | assumption | exact Ne.symm (by assumption))]; first | assumption | exact upd_same | (rw [upd_ne (by first | assumption | exact Ne.symm (by assumption))]; first | assumption | exact upd_same))) | decide | exact Nat.le_of_ble_eq_true rfl | omega | (show ∃ xs, SqL _ _ _ xs; exact ⟨_, SqL.of (by (first | assumption | exact upd_same | (rw [upd_ne (by first | assumption | exact Ne.symm (by assumption))]; first | assumption | exact upd_same | (rw [upd_ne (by first | assumption | exact Ne.symm (by assumption))]; first | assumption | exact upd_same))))⟩) | (show ∃ xs, SqT _ _ _ xs; exact ⟨_, SqT.of (by (first | assumption | exact upd_same | (rw [upd_ne (by first | assumption | exact Ne.symm (by assumption))]; first | assumption | exact upd_same | (rw [upd_ne (by first | assumption | exact Ne.symm (by assumption))]; first | assumption | exact upd_same))))⟩) | exact DGet.k (k := Sum.inl _) (by (first | assumption | exact upd_same | (rw [upd_ne (by first | assumption | exact Ne.symm (by assumption))]; first | assumption | exact upd_same | (rw [upd_ne (by first | assumption | exact Ne.symm (by assumption))]; first | assumption | exact upd_same)))) | (show V.int _ = kV (Sum.inl _); rfl) | (show ∃ z, V.str _ = V.str z; exact ⟨_, rfl⟩) | exact Or.inl ⟨by (first | decide | omega), by (first | decide | omega)⟩ | exact Or.inr ⟨by (first | decide | omega), by (first | decide | omega)⟩ | exact ⟨by (first | decide | omega), by (first | decide | omega)⟩ | exact ⟨by decide, by decide, by decide⟩ | exact L2.ClsV.ty _ | exact Dt.ty (by assumption) | exact Dt.kint (by assumption) | exact Dt.kbool (by assumption) | exact Dt.ktuple (by assumption) | exact Dt.klist (by assumption) | exact Dt.kstr (by assumption))) | refine Or.inl ⟨_, rfl, ?_⟩ | refine Or.inr ⟨_, rfl, ?_⟩ | refine Or.inr ⟨SqT.of (by (first | assumption | exact upd_same | (rw [upd_ne (by first | assumption | exact Ne.symm (by assumption))]; first | assumption | exact upd_same | (rw [upd_ne (by first | assumption | exact Ne.symm (by assumption))]; first | assumption | exact upd_same)))), SqT.of (by (first | assumption | exact upd_same | (rw [upd_ne (by first | assumption | exact Ne.symm (by assumption))]; first | assumption | exact upd_same | (rw [upd_ne (by first | assumption | exact Ne.symm (by assumption))]; first | assumption | exact upd_same)))), ?_⟩ | refine Or.inl ⟨SqL.of (by (first | assumption | exact upd_same | (rw [upd_ne (by first | assumption | exact Ne.symm (by assumption))]; first | assumption | exact upd_same | (rw [upd_ne (by first | assumption | exact Ne.symm (by assumption))]; first | assumption | exact upd_same)))), SqL.of (by (first | assumption | exact upd_same | (rw [upd_ne (by first | assumption | exact Ne.symm (by assumption))]; first | assumption | exact upd_same | (rw [upd_ne (by first | assumption | exact Ne.symm (by assumption))]; first | assumption | exact upd_same)))), ?_⟩ | refine Or.inl ⟨SqL.of (by (first | assumption | exact upd_same | (rw [upd_ne (by first | assumption | exact Ne.symm (by assumption))]; first | assumption | exact upd_same | (rw [upd_ne (by first | assumption | exact Ne.symm (by assumption))]; first | assumption | exact upd_same)))), ?_⟩ | refine Or.inr ⟨SqT.of (by (first | assumption | exact upd_same | (rw [upd_ne (by first | assumption | exact Ne.symm (by assumption))]; first | assumption | exact upd_same | (rw [upd_ne (by first | assumption | exact Ne.symm (by assumption))]; first | assumption | exact upd_same)))), ?_⟩ | refine ifT rfl ?_ | refine ifF rfl ?_))
mutual
def thin : PyData → Bool
  | .tuple ds => decide (ds.length ≤ 1000) && thinAll ds
  | .list ds => decide (ds.length ≤ 1000) && thinAll ds
  | _ => true
def thinAll : List PyData → Bool
  | [] => true
  | d :: ds => thin d && thinAll ds
end
theorem thin_mem : ∀ {ds : List PyData} {d : PyData}, thinAll ds = true → d ∈ ds → thin d = true
  | [], _, _, h => absurd h (List.not_mem_nil)
  | x :: ds, d, e, h => by
    rw [thinAll, Bool.and_eq_true] at e
    rcases List.mem_cons.mp h with rfl | h
    · exact e.1
    · exact thin_mem e.2 h
/-- two that stand for one thing are told alike -/
def spIs (n : Nat) : Sp := fun vs H Q _ => ∃ (N N' : Addr → Prop) (a b : V) (d : PyData), vs = [a, b] ∧ Rp N H a d ∧ Rp N' H b d ∧ d.depth ≤ n ∧ d.canLay0 = true ∧ thin d = true ∧ ∀ H', Same H H' → Q (.bl true) H'
theorem isiT_go {K : PySem.W.Frag} {N : Addr → Prop} {H : Hp} {v : V} {d : PyData} {tp : Addr} {Q : VK} (r : Rp N H v d) (h : H tp = some (.tup [.ty "tuple", .ty "list"])) (q : Q (.bl (isT "tuple" d || isT "list" d)) H) : rIsiT K [v, .ref tp] H Q := by
  refine ⟨v, tp, _, _, [.type "tuple", .type "list"], _, rfl, h, .cons (.ty _) (.cons (.ty _) .nil), r.ty, ?_, q⟩
  have z : ∀ b : Bool, b = (b || false) := fun b => by simp
  cases e1 : isT "tuple" d with
  | true => exact kitAny_cons (b := true) (by rw [kit_tuple, e1]) (fun z => nomatch z) fun _ => rfl
  | false =>
    refine kitAny_cons (b := false) (by rw [kit_tuple, e1]) (fun _ => ?_) fun z => nomatch z
    cases e2 : isT "list" d with
    | true => exact kitAny_cons (b := true) (by rw [kit_list, e2]) (fun z => nomatch z) fun _ => rfl
    | false => exact kitAny_cons (b := false) (by rw [kit_list, e2]) (fun _ => kitAny_nil) fun z => nomatch z
section
variable {P : Program} {w : World} {K : PySem.W.Frag} {mg : Str → Option Value} {base : Heap}
theorem is_step (B : Bi mg) (F : FunAt K mg "_law_is" s_law_is) (n : Nat) (D_law_is : Has P w K mg base n "_law_is" ["told", "due"] (fun vs H Q E => ∃ m, m + 1 = n ∧ spIs m vs H Q E)) :
    Has P w K mg base (n + 1) "_law_is" ["told", "due"] (spIs n) := by
  refine mk_has F sc_law_is (fun _ _ _ _ _ _ us hl => match us, hl with | [_, _], _ => rfl) (fun vs H Q E h => ?_) fun f cdv A outer s H vs Q E hr h => ?_
  · obtain ⟨N, N', a, b, d, rfl, _⟩ := h
    rfl
  obtain ⟨N, N', a, b, d, rfl, ra, rb, hd, hc, ht, k⟩ := h
  refine ⟨_, (pss_cons (ps_if (pt_val (pe_callB call_isiT rfl B.isinstance (by decide +kernel) (pa_cons (pv 1) (pa_cons (pe_tup (pa_cons (pe_bltn (v := .ty "tuple") rfl B.tuple (by decide +kernel) rfl) (pa_cons (pe_bltn (v := .ty "list") rfl B.list (by decide +kernel) rfl) pa_nil))) pa_nil))))
    (pss_cons (ps_if (PW.pt (pw_or (pt_cmpR op_ne (pe_callB call_isi rfl B.isinstance (by decide +kernel) (pa_cons (pv 0) (pa_cons (pe_bltn (v := .ty "tuple") rfl B.tuple (by decide +kernel) rfl) pa_nil))) (pe_callB call_isi rfl B.isinstance (by decide +kernel) (pa_cons (pv 1) (pa_cons (pe_bltn (v := .ty "tuple") rfl B.tuple (by decide +kernel) rfl) pa_nil))) (nomark _)) (pw_or1 (pt_not (pt_val (pe_callB call_isiT rfl B.isinstance (by decide +kernel) (pa_cons (pv 0) (pa_cons (pe_tup (pa_cons (pe_bltn (v := .ty "tuple") rfl B.tuple (by decide +kernel) rfl) (pa_cons (pe_bltn (v := .ty "list") rfl B.list (by decide +kernel) rfl) pa_nil))) pa_nil))))))))
    (pss_one (ps_ret pe_bl))
    pss_nil)
    (pss_one (ps_ret (pe_and (pe_cmpR op_eq (pe_callB call_len_seq rfl B.len PySem.boot_len (pa_cons (pv 0) pa_nil)) (pe_callB call_len_seq rfl B.len PySem.boot_len (pa_cons (pv 1) pa_nil)) (nomark _)) (pe_one (pe_callB (cr_all rfl) rfl B.all (by decide +kernel) (pa_cons (pe_lc (own := [("one", 2), ("two", 3)]) (g := gTup K 2 (gCons (gName 2) (gCons (gName 3) gNil))) (tt := tYes) (te := (tCall (fun vs H Q E => ∃ m, m + 1 = n ∧ spIs m vs H Q E) [] E0 (tCons (tVar 2) (tCons (tVar 3) tNil)))) rfl sc_law_is.nd (RZ.pi_zipA rfl B.zip (pa_cons (pv 0) (pa_cons (pv 1) pa_nil))) (blkOk_by (own := [("one", 2), ("two", 3)]) (N := ["told", "due", "one", "two"]) (sc := defScope s_law_is) (by decide +kernel)) (fun _ _ _ _ _ => (pg_tup rfl (pgs_cons (pg_name (i := 2) sc_law_is.nd rfl (Or.inl rfl)) (pgs_cons (pg_name (i := 3) sc_law_is.nd rfl (Or.inl rfl)) pgs_nil)))) (fun _ _ _ _ _ => pts_nil) (fun _ _ _ _ _ => (pe_h D_law_is hr rfl (pa_cons (pv 2) (pa_cons (pv 3) pa_nil))))) pa_nil)))))))
    pss_nil)
    (pss_one (ps_ret (pe_and (pe_cmpR op_eq (pe_callB call_isi rfl B.isinstance (by decide +kernel) (pa_cons (pv 0) (pa_cons (pe_bltn (v := .ty "bool") rfl B.bool (by decide +kernel) rfl) pa_nil))) (pe_callB call_isi rfl B.isinstance (by decide +kernel) (pa_cons (pv 1) (pa_cons (pe_bltn (v := .ty "bool") rfl B.bool (by decide +kernel) rfl) pa_nil))) (nomark _)) (pe_one (pe_cmpR op_eq (pv 0) (pv 1) (nomark _))))))), ?_⟩
  trivial
  intro t1 n1
  have st1 := same_new0 (o := .tup [.ty "tuple", .ty "list"]) n1
  have rb1 := rb.to (Kp.of_same st1)
  have ra1 := ra.to (Kp.of_same st1)
  unfold tNil
  refine isiT_go rb1 upd_same ?_
  have k0 : ∀ {c : Bool} {H1 : Hp}, Same H H1 → c = true → Q (.bl c) H1 := fun s e => by rw [e]; exact k _ s
  have da := ra1.dt
  have db := rb1.dt
  cases d with
  | dict kvs => simp [PyData.canLay0] at hc
  | tuple ds =>
    trivial
    intro t2 n2
    have ra2 := ra1.to (Kp.new (o := .tup [.ty "tuple", .ty "list"]) n2)
    refine isiT_go ra2 upd_same ?_
    cases ra with
    | @tup pa xs _ ha na aa =>
    cases rb with
    | @tup pb ys _ hb nb ab =>
    have s2 := st1.trans (same_new0 (o := .tup [.ty "tuple", .ty "list"]) n2)
    have ha2 := s2 _ _ ha
    have hb2 := s2 _ _ hb
    rw [thin, Bool.and_eq_true, decide_eq_true_eq] at ht
    have aa_len : xs.length ≤ 16777216 := by have := ht.1; have := aa.length; omega
    have el : xs.length = ys.length := aa.length.trans ab.length.symm
    trivial
    refine ifT (by rw [el]; simp) ?_
    trivial
    intro D nD
    refine lc_map (walk_zipT (show xs.length = min xs.length ys.length by rw [el]; simp)) (List.replicate xs.length (.bl true)) (by simp) nD aa_len (fun i H' _ s => ⟨SqT.of (s _ _ ha2), SqT.of (s _ _ hb2)⟩) (fun i x H3 H4 Pn hi s3 y fin => ?_) fun H3 s3 e1 => ?_
    · obtain ⟨T, x, z, rfl, nT, rfl, gx, gz⟩ := ypair y
      obtain ⟨dx, mx, gdx, rx⟩ := aa.at_ gx
      obtain ⟨dz, mz, gdz, rz⟩ := ab.at_ gz
      rw [gdx] at gdz
      cases gdz
      have s4 : Same H (upd H3 T (.tup [x, z])) := (s2.trans s3).trans (same_new0 nT)
      have hd' : dx.depth + 1 ≤ n := Nat.le_trans (Nat.succ_le_succ (depth_mem mx)) hd
      refine ⟨_, _, rfl, SqT.of upd_same, rfl, _, _, rfl, _, _, rfl, rfl, rfl, ?_⟩
      refine ⟨_, rfl, _, rfl, n - 1, by omega, N, N', x, z, dx, rfl, rx.to (Kp.of_same s4), rz.to (Kp.of_same s4), by omega, lay_mem hc mx, thin_mem ht.2 mx, fun H5 s5 => ?_⟩
      exact fin _ _ (by rw [List.getElem?_replicate, if_pos hi]) ((same_new0 nT).trans s5)
    · rw [show (List.replicate xs.length (V.bl true)) = (List.replicate xs.length true).map V.bl by simp] at e1
      trivial
      exact k0 (s2.trans s3) (by simp)
  | list ds =>
    trivial
    intro t2 n2
    have ra2 := ra1.to (Kp.new (o := .tup [.ty "tuple", .ty "list"]) n2)
    refine isiT_go ra2 upd_same ?_
    cases ra with
    | @lst pa xs _ ha na aa =>
    cases rb with
    | @lst pb ys _ hb nb ab =>
    have s2 := st1.trans (same_new0 (o := .tup [.ty "tuple", .ty "list"]) n2)
    have ha2 := s2 _ _ ha
    have hb2 := s2 _ _ hb
    rw [thin, Bool.and_eq_true, decide_eq_true_eq] at ht
    have aa_len : xs.length ≤ 16777216 := by have := ht.1; have := aa.length; omega
    have el : xs.length = ys.length := aa.length.trans ab.length.symm
    trivial
    refine ifT (by rw [el]; simp) ?_
    trivial
    intro D nD
    refine lc_map (walk_zip (show xs.length = min xs.length ys.length by rw [el]; simp)) (List.replicate xs.length (.bl true)) (by simp) nD aa_len (fun i H' _ s => ⟨SqL.of (s _ _ ha2), SqL.of (s _ _ hb2)⟩) (fun i x H3 H4 Pn hi s3 y fin => ?_) fun H3 s3 e1 => ?_
    · obtain ⟨T, x, z, rfl, nT, rfl, gx, gz⟩ := ypair y
      obtain ⟨dx, mx, gdx, rx⟩ := aa.at_ gx
      obtain ⟨dz, mz, gdz, rz⟩ := ab.at_ gz
      rw [gdx] at gdz
      cases gdz
      have s4 : Same H (upd H3 T (.tup [x, z])) := (s2.trans s3).trans (same_new0 nT)
      have hd' : dx.depth + 1 ≤ n := Nat.le_trans (Nat.succ_le_succ (depth_mem mx)) hd
      refine ⟨_, _, rfl, SqT.of upd_same, rfl, _, _, rfl, _, _, rfl, rfl, rfl, ?_⟩
      refine ⟨_, rfl, _, rfl, n - 1, by omega, N, N', x, z, dx, rfl, rx.to (Kp.of_same s4), rz.to (Kp.of_same s4), by omega, lay_mem hc mx, thin_mem ht.2 mx, fun H5 s5 => ?_⟩
      exact fin _ _ (by rw [List.getElem?_replicate, if_pos hi]) ((same_new0 nT).trans s5)
    · rw [show (List.replicate xs.length (V.bl true)) = (List.replicate xs.length true).map V.bl by simp] at e1
      trivial
      exact k0 (s2.trans s3) (by simp)
  | none =>
    cases ra; cases rb
    trivial
    exact k0 st1 (by simp)
  | int i =>
    cases ra; cases rb
    trivial
    exact k0 st1 (by simp)
  | bool i =>
    cases ra; cases rb
    trivial
    exact k0 st1 (by simp)
  | str i =>
    cases ra; cases rb
    trivial
    exact k0 st1 (by simp)
theorem d_law_is (B : Bi mg) (F : FunAt K mg "_law_is" s_law_is) : ∀ n : Nat, Has P w K mg base (n + 1) "_law_is" ["told", "due"] (spIs n)
  | 0 => is_step B F 0 (has_none F (fun _ _ _ _ _ _ us hl => match us, hl with | [_, _], _ => rfl) fun _ _ _ _ ⟨_, e, _⟩ => nomatch e)
  | n + 1 => is_step B F (n + 1) ((d_law_is B F n).imp fun _ _ _ _ ⟨m, e, q⟩ => by cases e; exact q)
end
end KQ
set_option Elab.async false
set_option maxRecDepth 100000
set_option maxHeartbeats 4000000
namespace KQ
open PySem PySem.Spec PyProof.Rows L2
local macro_rules | `(tactic| trivial) => `(tactic| repeat (first | (apply And.intro; focus (first | rfl | assumption | exact upd_same | exact SqL.of (by (first | assumption | exact upd_same | (rw [upd_ne (by first | assumption | exact Ne.symm (by assumption))]; first | assumption | exact upd_same | (rw [upd_ne (by first | assumption | exact Ne.symm (by assumption))]; first | assumption | exact upd_same)))) | exact SqT.of (by (first | assumption | exact upd_same | (rw [upd_ne (by first | assumption | exact Ne.symm (by assumption))]; first | assumption | exact upd_same | (rw [upd_ne (by first | assumption | exact Ne.symm (by assumption))]; first | assumption | exact upd_same)))) | exact Or.inl (SqL.of (by (first | assumption | exact upd_same | (rw [upd_ne (by first | assumption | exact Ne.symm (by assumption))]; first | assumption | exact upd_same | (rw [upd_ne (by first | assumption | exact Ne.symm (by assumption))]; first | assumption | exact upd_same))))) | exact Or.inr (SqT.of (by (first | assumption | exact upd_same | (rw [upd_ne (by first | assumption | exact Ne.symm (by assumption))]; first | assumption | exact upd_same | (rw [upd_ne (by first | assumption | exact Ne.symm (by assumption))]; first | assumption | exact upd_same))))) | exact Or.inl ⟨rfl, _, SqL.of (by (first | assumption | exact upd_same | (rw [upd_ne (by first | assumption | exact Ne.symm (by assumption))]; first | assumption | exact upd_same | (rw [upd_ne (by first | assumption | exact Ne.symm (by assumption))]; first | assumption | exact upd_same))))⟩ | (first | assumption | exact upd_same | (rw [upd_ne (by first | assumption | exact Ne.symm (by assumption))]; first | assumption | exact upd_same | (rw [upd_ne (by first | assumption | exact Ne.symm (by assumption))]; first | assumption | exact upd_same))) | decide | exact Nat.le_of_ble_eq_true rfl | omega | (show ∃ xs, SqL _ _ _ xs; exact ⟨_, SqL.of (by (first | assumption | exact upd_same | (rw [upd_ne (by first | assumption | exact Ne.symm (by assumption))]; first | assumption | exact upd_same | (rw [upd_ne (by first | assumption | exact Ne.symm (by assumption))]; first | assumption | exact upd_same))))⟩) | (show ∃ xs, SqT _ _ _ xs; exact ⟨_, SqT.of (by (first | assumption | exact upd_same | (rw [upd_ne (by first | assumption | exact Ne.symm (by assumption))]; first | assumption | exact upd_same | (rw [upd_ne (by first | assumption | exact Ne.symm (by assumption))]; first | assumption | exact upd_same))))⟩) | exact DGet.k (k := Sum.inl _) (by (first | assumption | exact upd_same | (rw [upd_ne (by first | assumption | exact Ne.symm (by assumption))]; first | assumption | exact upd_same | (rw [upd_ne (by first | assumption | exact Ne.symm (by assumption))]; first | assumption | exact upd_same)))) | (show V.int _ = kV (Sum.inl _); rfl) | (show ∃ z, V.str _ = V.str z; exact ⟨_, rfl⟩) | exact Or.inl ⟨by (first | decide | omega), by (first | decide | omega)⟩ | exact Or.inr ⟨by (first | decide | omega), by (first | decide | omega)⟩ | exact ⟨by (first | decide | omega), by (first | decide | omega)⟩ | exact ⟨by decide, by decide, by decide⟩ | exact L2.ClsV.ty _ | exact Dt.ty (by assumption) | exact Dt.kint (by assumption) | exact Dt.kbool (by assumption) | exact Dt.ktuple (by assumption) | exact Dt.klist (by assumption) | exact Dt.kstr (by assumption))) | (apply Exists.intro; apply And.intro; focus (first | rfl | assumption | exact upd_same | exact SqL.of (by (first | assumption | exact upd_same | (rw [upd_ne (by first | assumption | exact Ne.symm (by assumption))]; first | assumption | exact upd_same | (rw [upd_ne (by first | assumption | exact Ne.symm (by assumption))]; first | assumption | exact upd_same)))) | exact SqT.of (by (first | assumption | exact upd_same | (rw [upd_ne (by first | assumption | exact Ne.symm (by assumption))]; first | assumption | exact upd_same | (rw [upd_ne (by first | assumption | exact Ne.symm (by assumption))]; first | assumption | exact upd_same)))) | exact Or.inl (SqL.of (by (first | assumption | exact upd_same | (rw [upd_ne (by first | assumption | exact Ne.symm (by assumption))]; first | assumption | exact upd_same | (rw [upd_ne (by first | assumption | exact Ne.symm (by assumption))]; first | assumption | exact upd_same))))) | exact Or.inr (SqT.of (by (first | assumption | exact upd_same | (rw [upd_ne (by first | assumption | exact Ne.symm (by assumption))]; first | assumption | exact upd_same | (rw [upd_ne (by first | assumption | exact Ne.symm (by assumption))]; first | assumption | exact upd_same))))) | exact Or.inl ⟨rfl, _, SqL.of (by (first | assumption | exact upd_same | (rw [upd_ne (by first | assumption | exact Ne.symm (by assumption))]; first | assumption | exact upd_same | (rw [upd_ne (by first | assumption | exact Ne.symm (by assumption))]; first | assumption | exact upd_same))))⟩ | (first | assumption | exact upd_same | (rw [upd_ne (by first | assumption | exact Ne.symm (by assumption))]; first | assumption | exact upd_same | (rw [upd_ne (by first | assumption | exact Ne.symm (by assumption))]; first | assumption | exact upd_same))) | decide | exact Nat.le_of_ble_eq_true rfl | omega | (show ∃ xs, SqL _ _ _ xs; exact ⟨_, SqL.of (by (first | assumption | exact upd_same | (rw [upd_ne (by first | assumption | exact Ne.symm (by assumption))]; first | assumption | exact upd_same | (rw [upd_ne (by first | assumption | exact Ne.symm (by assumption))]; first | assumption | exact upd_same))))⟩) | (show ∃ xs, SqT _ _ _ xs; exact ⟨_, SqT.of (by (first | assumption | exact upd_same | (rw [upd_ne (by first | assumption | exact Ne.symm (by assumption))]; first | assumption | exact upd_same | (rw [upd_ne (by first | assumption | exact Ne.symm (by assumption))]; first | assumption | exact upd_same))))⟩) | exact DGet.k (k := Sum.inl _) (by (first | assumption | exact upd_same | (rw [upd_ne (by first | assumption | exact Ne.symm (by assumption))]; first | assumption | exact upd_same | (rw [upd_ne (by first | assumption | exact Ne.symm (by assumption))]; first | assumption | exact upd_same)))) | (show V.int _ = kV (Sum.inl _); rfl) | (show ∃ z, V.str _ = V.str z; exact ⟨_, rfl⟩) | exact Or.inl ⟨by (first | decide | omega), by (first | decide | omega)⟩ | exact Or.inr ⟨by (first | decide | omega), by (first | decide | omega)⟩ | exact ⟨by (first | decide | omega), by (first | decide | omega)⟩ | exact ⟨by decide, by decide, by decide⟩ | exact L2.ClsV.ty _ | exact Dt.ty (by assumption) | exact Dt.kint (by assumption) | exact Dt.kbool (by assumption) | exact Dt.ktuple (by assumption) | exact Dt.klist (by assumption) | exact Dt.kstr (by assumption))) | (apply Exists.intro; apply Exists.intro; apply And.intro; focus (first | rfl | assumption | exact upd_same | exact SqL.of (by (first | assumption | exact upd_same | (rw [upd_ne (by first | assumption | exact Ne.symm (by assumption))]; first | assumption | exact upd_same | (rw [upd_ne (by first | assumption | exact Ne.symm (by assumption))]; first | assumption | exact upd_same)))) | exact SqT.of (by (first | assumption | exact upd_same | (rw [upd_ne (by first | assumption | exact Ne.symm (by assumption))]; first | assumption | exact upd_same | (rw [upd_ne (by first | assumption | exact Ne.symm (by assumption))]; first | assumption | exact upd_same)))) | exact Or.inl (SqL.of (by (first | assumption | exact upd_same | (rw [upd_ne (by first | assumption | exact Ne.symm (by assumption))]; first | assumption | exact upd_same | (rw [upd_ne (by first | assumption | exact Ne.symm (by assumption))]; first | assumption | exact upd_same))))) | exact Or.inr (SqT.of (by (first | assumption | exact upd_same | (rw [upd_ne (by first | assumption | exact Ne.symm (by assumption))]; first | assumption | exact upd_same | (rw [upd_ne (by first | assumption | exact Ne.symm (by assumption))]; first | assumption | exact upd_same))))) | exact Or.inl ⟨rfl, _, SqL.of (by (first | assumption | exact upd_same | (rw [upd_ne (by first | assumption | exact Ne.symm (by assumption))]; first | assumption | exact upd_same | (rw [upd_ne (by first | assumption | exact Ne.symm (by assumption))]; first | assumption | exact upd_same))))⟩ | (first | assumption | exact upd_same | (rw [upd_ne (by first | assumption | exact Ne.symm (by assumption))]; first | assumption | exact upd_same | (rw [upd_ne (by first | assumption | exact Ne.symm (by assumption))]; first | assumption | exact upd_same))) | decide | exact Nat.le_of_ble_eq_true rfl | omega | (show ∃ xs, SqL _ _ _ xs; exact ⟨_, SqL.of (by (first | assumption | exact upd_same | (rw [upd_ne (by first | assumption | exact Ne.symm (by assumption))]; first | assumption | exact upd_same | (rw [upd_ne (by first | assumption | exact Ne.symm (by assumption))]; first | assumption | exact upd_same))))⟩) | (show ∃ xs, SqT _ _ _ xs; exact ⟨_, SqT.of (by (first | assumption | exact upd_same | (rw [upd_ne (by first | assumption | exact Ne.symm (by assumption))]; first | assumption | exact upd_same | (rw [upd_ne (by first | assumption | exact Ne.symm (by assumption))]; first | assumption | exact upd_same))))⟩) | exact DGet.k (k := Sum.inl _) (by (first | assumption | exact upd_same | (rw [upd_ne (by first | assumption | exact Ne.symm (by assumption))]; first | assumption | exact upd_same | (rw [upd_ne (by first | assumption | exact Ne.symm (by assumption))]; first | assumption | exact upd_same)))) | (show V.int _ = kV (Sum.inl _); rfl) | (show ∃ z, V.str _ = V.str z; exact ⟨_, rfl⟩) | exact Or.inl ⟨by (first | decide | omega), by (first | decide | omega)⟩ | exact Or.inr ⟨by (first | decide | omega), by (first | decide | omega)⟩ | exact ⟨by (first | decide | omega), by (first | decide | omega)⟩ | exact ⟨by decide, by decide, by decide⟩ | exact L2.ClsV.ty _ | exact Dt.ty (by assumption) | exact Dt.kint (by assumption) | exact Dt.kbool (by assumption) | exact Dt.ktuple (by assumption) | exact Dt.klist (by assumption) | exact Dt.kstr (by assumption))) | (apply Exists.intro; apply Exists.intro; apply Exists.intro; apply And.intro; focus (first | rfl | assumption | exact upd_same | exact SqL.of (by (first | assumption | exact upd_same | (rw [upd_ne (by first | assumption | exact Ne.symm (by assumption))]; first | assumption | exact upd_same | (rw [upd_ne (by first | assumption | exact Ne.symm (by assumption))]; first | assumption | exact upd_same)))) | exact SqT.of (by (first | assumption | exact upd_same | (rw [upd_ne (by first | assumption | exact Ne.symm (by assumption))]; first | assumption | exact upd_same | (rw [upd_ne (by first | assumption | exact Ne.symm (by assumption))]; first | assumption | exact upd_same)))) | exact Or.inl (SqL.of (by (first | assumption | exact upd_same | (rw [upd_ne (by first | assumption | exact Ne.symm (by assumption))]; first | assumption | exact upd_same | (rw [upd_ne (by first | assumption | exact Ne.symm (by assumption))]; first | assumption | exact upd_same))))) | exact Or.inr (SqT.of (by (first | assumption | exact upd_same | (rw [upd_ne (by first | assumption | exact Ne.symm (by assumption))]; first | assumption | exact upd_same | (rw [upd_ne (by first | assumption | exact Ne.symm (by assumption))]; first | assumption | exact upd_same))))) | exact Or.inl ⟨rfl, _, SqL.of (by (first | assumption | exact upd_same | (rw [upd_ne (by first | assumption | exact Ne.symm (by assumption))]; first | assumption | exact upd_same | (rw [upd_ne (by first | assumption | exact Ne.symm (by assumption))]; first | assumption | exact upd_same))))⟩ | (first | assumption | exact upd_same | (rw [upd_ne (by first | assumption | exact Ne.symm (by assumption))]; first | assumption | exact upd_same | (rw [upd_ne (by first | assumption | exact Ne.symm (by assumption))]; first | assumption | exact upd_same))) | decide | exact Nat.le_of_ble_eq_true rfl | omega | (show ∃ xs, SqL _ _ _ xs; exact ⟨_, SqL.of (by (first | assumption | exact upd_same | (rw [upd_ne (by first | assumption | exact Ne.symm (by assumption))]; first | assumption | exact upd_same | (rw [upd_ne (by first | assumption | exact Ne.symm (by assumption))]; first | assumption | exact upd_same))))⟩) | (show ∃ xs, SqT _ _ _ xs; exact ⟨_, SqT.of (by (first | assumption | exact upd_same | (rw [upd_ne (by first | assumption | exact Ne.symm (by assumption))]; first | assumption | exact upd_same | (rw [upd_ne (by first | assumption | exact Ne.symm (by assumption))]; first | assumption | exact upd_same))))⟩) | exact DGet.k (k := Sum.inl _) (by (first | assumption | exact upd_same | (rw [upd_ne (by first | assumption | exact Ne.symm (by assumption))]; first | assumption | exact upd_same | (rw [upd_ne (by first | assumption | exact Ne.symm (by assumption))]; first | assumption | exact upd_same)))) | (show V.int _ = kV (Sum.inl _); rfl) | (show ∃ z, V.str _ = V.str z; exact ⟨_, rfl⟩) | exact Or.inl ⟨by (first | decide | omega), by (first | decide | omega)⟩ | exact Or.inr ⟨by (first | decide | omega), by (first | decide | omega)⟩ | exact ⟨by (first | decide | omega), by (first | decide | omega)⟩ | exact ⟨by decide, by decide, by decide⟩ | exact L2.ClsV.ty _ | exact Dt.ty (by assumption) | exact Dt.kint (by assumption) | exact Dt.kbool (by assumption) | exact Dt.ktuple (by assumption) | exact Dt.klist (by assumption) | exact Dt.kstr (by assumption))) | (apply Exists.intro; apply Exists.intro; apply Exists.intro; apply Exists.intro; apply And.intro; focus (first | rfl | assumption | exact upd_same | exact SqL.of (by (first | assumption | exact upd_same | (rw [upd_ne (by first | assumption | exact Ne.symm (by assumption))]; first | assumption | exact upd_same | (rw [upd_ne (by first | assumption | exact Ne.symm (by assumption))]; first | assumption | exact upd_same)))) | exact SqT.of (by (first | assumption | exact upd_same | (rw [upd_ne (by first | assumption | exact Ne.symm (by assumption))]; first | assumption | exact upd_same | (rw [upd_ne (by first | assumption | exact Ne.symm (by assumption))]; first | assumption | exact upd_same)))) | exact Or.inl (SqL.of (by (first | assumption | exact upd_same | (rw [upd_ne (by first | assumption | exact Ne.symm (by assumption))]; first | assumption | exact upd_same | (rw [upd_ne (by first | assumption | exact Ne.symm (by assumption))]; first | assumption | exact upd_same))))) | exact Or.inr (SqT.of (by (first | assumption | exact upd_same | (rw [upd_ne (by first | assumption | exact Ne.symm (by assumption))]; first | assumption | exact upd_same | (rw [upd_ne (by first | assumption | exact Ne.symm (by assumption))]; first | assumption | exact upd_same))))) | exact Or.inl ⟨rfl, _, SqL.of (by (first | assumption | exact upd_same | (rw [upd_ne (by first | assumption | exact Ne.symm (by assumption))]; first | assumption | exact upd_same | (rw [upd_ne (by first | assumption | exact Ne.symm (by assumption))]; first | assumption | exact upd_same))))⟩ | (first | assumption | exact upd_same | (rw [upd_ne (by first | assumption | exact Ne.symm (by assumption))]; first | assumption | exact upd_same | (rw [upd_ne (by first | assumption | exact Ne.symm (by assumption))]; first | assumption | exact upd_same))) | decide | exact Nat.le_of_ble_eq_true rfl | omega | (show ∃ xs, SqL _ _ _ xs; exact ⟨_, SqL.of (by (first | assumption | exact upd_same | (rw [upd_ne (by first | assumption | exact Ne.symm (by assumption))]; first | assumption | exact upd_same | (rw [upd_ne (by first | assumption | exact Ne.symm (by assumption))]; first | assumption | exact upd_same))))⟩) | (show ∃ xs, SqT _ _ _ xs; exact ⟨_, SqT.of (by (first | assumption | exact upd_same | (rw [upd_ne (by first | assumption | exact Ne.symm (by assumption))]; first | assumption | exact upd_same | (rw [upd_ne (by first | assumption | exact Ne.symm (by assumption))]; first | assumption | exact upd_same))))⟩) | exact DGet.k (k := Sum.inl _) (by (first | assumption | exact upd_same | (rw [upd_ne (by first | assumption | exact Ne.symm (by assumption))]; first | assumption | exact upd_same | (rw [upd_ne (by first | assumption | exact Ne.symm (by assumption))]; first | assumption | exact upd_same)))) | (show V.int _ = kV (Sum.inl _); rfl) | (show ∃ z, V.str _ = V.str z; exact ⟨_, rfl⟩) | exact Or.inl ⟨by (first | decide | omega), by (first | decide | omega)⟩ | exact Or.inr ⟨by (first | decide | omega), by (first | decide | omega)⟩ | exact ⟨by (first | decide | omega), by (first | decide | omega)⟩ | exact ⟨by decide, by decide, by decide⟩ | exact L2.ClsV.ty _ | exact Dt.ty (by assumption) | exact Dt.kint (by assumption) | exact Dt.kbool (by assumption) | exact Dt.ktuple (by assumption) | exact Dt.klist (by assumption) | exact Dt.kstr (by assumption))) | (apply Exists.intro; apply Exists.intro; apply Exists.intro; apply Exists.intro; apply Exists.intro; apply And.intro; focus (first | rfl | assumption | exact upd_same | exact SqL.of (by (first | assumption | exact upd_same | (rw [upd_ne (by first | assumption | exact Ne.symm (by assumption))]; first | assumption | exact upd_same | (rw [upd_ne (by first | assumption | exact Ne.symm (by assumption))]; first | assumption | exact upd_same)))) | exact SqT.of (by (first | assumption | exact upd_same | (rw [upd_ne (by first | assumption | exact Ne.symm (by assumption))]; first | assumption | exact upd_same | (rw [upd_ne (by first | assumption | exact Ne.symm (by assumption))]; first | assumption | exact upd_same)))) | exact Or.inl (SqL.of (by (first | assumption | exact upd_same | (rw [upd_ne (by first | assumption | exact Ne.symm (by assumption))]; first | assumption | exact upd_same | (rw [upd_ne (by first | assumption | exact Ne.symm (by assumption))]; first | assumption | exact upd_same))))) | exact Or.inr (SqT.of (by (first | assumption | exact upd_same | (rw [upd_ne (by first | assumption | exact Ne.symm (by assumption))]; first | assumption | exact upd_same | (rw [upd_ne (by first | assumption | exact Ne.symm (by assumption))]; first | assumption | exact upd_same))))) | exact Or.inl ⟨rfl, _, SqL.of (by (first | assumption | exact upd_same | (rw [upd_ne (by first | assumption | exact Ne.symm (by assumption))]; first | assumption | exact upd_same | (rw [upd_ne (by first | assumption | exact Ne.symm (by assumption))]; first | assumption | exact upd_same))))⟩ | (first | assumption | exact upd_same | (rw [upd_ne (by first | assumption | exact Ne.symm (by assumption))]; first | assumption | exact upd_same | (rw [upd_ne (by first | assumption | exact Ne.symm (by assumption))]; first | assumption | exact upd_same))) | decide | exact Nat.le_of_ble_eq_true rfl | omega | (show ∃ xs, SqL _ _ _ xs; exact ⟨_, SqL.of (by (first | assumption | exact upd_same | (rw [upd_ne (by first | assumption | exact Ne.symm (by assumption))]; first | assumption | exact upd_same | (rw [upd_ne (by first | assumption | exact Ne.symm (by assumption))]; first | assumption | exact upd_same))))⟩) | (show ∃ xs, SqT _ _ _ xs; exact ⟨_, SqT.of (by (first | assumption | exact upd_same | (rw [upd_ne (by first | assumption | exact Ne.symm (by assumption))]; first | assumption | exact upd_same | (rw [upd_ne (by first | assumption | exact Ne.symm (by assumption))]; first | assumption | exact upd_same))))⟩) | exact DGet.k (k := Sum.inl _) (by (first | assumption | exact upd_same | (rw [upd_ne (by first | assumption | exact Ne.symm (by assumption))]; first | assumption | exact upd_same | (rw [upd_ne (by first | assumption | exact Ne.symm (by assumption))]; first | assumption | exact upd_same)))) | (show V.int _ = kV (Sum.inl _); rfl) | (show ∃ z, V.str _ = V.str z; exact ⟨_, rfl⟩) | exact Or.inl ⟨by (first | decide | omega), by (first | decide | omega)⟩ | exact Or.inr ⟨by (first | decide | omega), by (first | decide | omega)⟩ | exact ⟨by (first | decide | omega), by (first | decide | omega)⟩ | exact ⟨by decide, by decide, by decide⟩ | exact L2.ClsV.ty _ | exact Dt.ty (by assumption) | exact Dt.kint (by assumption) | exact Dt.kbool (by assumption) | exact Dt.ktuple (by assumption) | exact Dt.klist (by assumption) | exact Dt.kstr (by assumption))) | (apply Exists.intro; apply Exists.intro; apply Exists.intro; apply Exists.intro; apply Exists.intro; apply Exists.intro; apply And.intro; focus (first | rfl | assumption | exact upd_same | exact SqL.of (by (first | assumption | exact upd_same | (rw [upd_ne (by first | assumption | exact Ne.symm (by assumption))]; first | assumption | exact upd_same | (rw [upd_ne (by first | assumption | exact Ne.symm (by assumption))]; first | assumption | exact upd_same)))) | exact SqT.of (by (first | assumption | exact upd_same | (rw [upd_ne (by first | assumption | exact Ne.symm (by assumption))]; first | assumption | exact upd_same | (rw [upd_ne (by first | assumption | exact Ne.symm (by assumption))]; first | assumption | exact upd_same)))) | exact Or.inl (SqL.of (by (first | assumption | exact upd_same | (rw [upd_ne (by first | assumption | exact Ne.symm (by assumption))]; first | assumption | exact upd_same | (rw [upd_ne (by first | assumption | exact Ne.symm (by assumption))]; first | assumption | exact upd_same))))) | exact Or.inr (SqT.of (by (first | assumption | exact upd_same | (rw [upd_ne (by first | assumption | exact Ne.symm (by assumption))]; first | assumption | exact upd_same | (rw [upd_ne (by first | assumption | exact Ne.symm (by assumption))]; first | assumption | exact upd_same))))) | exact Or.inl ⟨rfl, _, SqL.of (by (first | assumption | exact upd_same | (rw [upd_ne (by first | assumption | exact Ne.symm (by assumption))]; first | assumption | exact upd_same | (rw [upd_ne (by first | assumption | exact Ne.symm (by assumption))]; first | assumption | exact upd_same))))⟩ | (first | assumption | exact upd_same | (rw [upd_ne (by first | assumption | exact Ne.symm (by assumption))]; first | assumption | exact upd_same | (rw [upd_ne (by first | assumption | exact Ne.symm (by assumption))]; first | assumption | exact upd_same))) | decide | exact Nat.le_of_ble_eq_true rfl | omega | (show ∃ xs, SqL _ _ _ xs; exact ⟨_, SqL.of (by (first | assumption | exact upd_same | (rw [upd_ne (by first | assumption | exact Ne.symm (by assumption))]; first | assumption | exact upd_same | (rw [upd_ne (by first | assumption | exact Ne.symm (by assumption))]; first | assumption | exact upd_same))))⟩) | (show ∃ xs, SqT _ _ _ xs; exact ⟨_, SqT.of (by (first | assumption | exact upd_same | (rw [upd_ne (by first | assumption | exact Ne.symm (by assumption))]; first | assumption | exact upd_same | (rw [upd_ne (by first | assumption | exact Ne.symm (by assumption))]; first | assumption | exact upd_same))))⟩) | exact DGet.k (k := Sum.inl _) (by (first | assumption | exact upd_same | (rw [upd_ne (by first | assumption | exact Ne.symm (by assumption))]; first | assumption | exact upd_same | (rw [upd_ne (by first | assumption | exact Ne.symm (by assumption))]; first | assumption | exact upd_same)))) | (show V.int _ = kV (Sum.inl _); rfl) | (show ∃ z, V.str _ = V.str z; exact ⟨_, rfl⟩) | exact Or.inl ⟨by (first | decide | omega), by (first | decide | omega)⟩ | exact Or.inr ⟨by (first | decide | omega), by (first | decide | omega)⟩ | exact ⟨by (first | decide | omega), by (first | decide | omega)⟩ | exact ⟨by decide, by decide, by decide⟩ | exact L2.ClsV.ty _ | exact Dt.ty (by assumption) | exact Dt.kint (by assumption) | exact Dt.kbool (by assumption) | exact Dt.ktuple (by assumption) | exact Dt.klist (by assumption) | exact Dt.kstr (by assumption))) | (apply Exists.intro; apply Exists.intro; apply Exists.intro; apply Exists.intro; apply Exists.intro; apply Exists.intro; apply Exists.intro; apply And.intro; focus (first | rfl | assumption | exact upd_same | exact SqL.of (by (first | assumption | exact upd_same | (rw [upd_ne (by first | assumption | exact Ne.symm (by assumption))]; first | assumption | exact upd_same | (rw [upd_ne (by first | assumption | exact Ne.symm (by assumption))]; first | assumption | exact upd_same)))) | exact SqT.of (by (first | assumption | exact upd_same | (rw [upd_ne (by first | assumption | exact Ne.symm (by assumption))]; first | assumption | exact upd_same | (rw [upd_ne (by first | assumption | exact Ne.symm (by assumption))]; first | assumption | exact upd_same)))) | exact Or.inl (SqL.of (by (first | assumption | exact upd_same | (rw [upd_ne (by first | assumption | exact Ne.symm (by assumption))]; first | assumption | exact upd_same | (rw [upd_ne (by first | assumption | exact Ne.symm (by assumption))]; first | assumption | exact upd_same))))) | exact Or.inr (SqT.of (by (first | assumption | exact upd_same | (rw [upd_ne (by first | assumption | exact Ne.symm (by assumption))]; first | assumption | exact upd_same | (rw [upd_ne (by first | assumption | exact Ne.symm (by assumption))]; first | assumption | exact upd_same))))) | exact Or.inl ⟨rfl, _, SqL.of (by (first | assumption | exact upd_same | (rw [upd_ne (by first | assumption | exact Ne.symm (by assumption))]; first | assumption | exact upd_same | (rw [upd_ne (by first | assumption | exact Ne.symm (by assumption))]; first | assumption | exact upd_same))))⟩ | (first | assumption | exact upd_same | (rw [upd_ne (by first | assumption | exact Ne.symm (by assumption))]; first | assumption | exact upd_same | (rw [upd_ne (by first | assumption | exact Ne.symm (by assumption))]; first | assumption | exact upd_same))) | decide | exact Nat.le_of_ble_eq_true rfl | omega | (show ∃ xs, SqL _ _ _ xs; exact ⟨_, SqL.of (by (first | assumption | exact upd_same | (rw [upd_ne (by first | assumption | exact Ne.symm (by assumption))]; first | assumption | exact upd_same | (rw [upd_ne (by first | assumption | exact Ne.symm (by assumption))]; first | assumption | exact upd_same))))⟩) | (show ∃ xs, SqT _ _ _ xs; exact ⟨_, SqT.of (by (first | assumption | exact upd_same | (rw [upd_ne (by first | assumption | exact Ne.symm (by assumption))]; first | assumption | exact upd_same | (rw [upd_ne (by first | assumption | exact Ne.symm (by assumption))]; first | assumption | exact upd_same))))⟩) | exact DGet.k (k := Sum.inl _) (by (first | assumption | exact upd_same | (rw [upd_ne (by first | assumption | exact Ne.symm (by assumption))]; first | assumption | exact upd_same | (rw [upd_ne (by first | assumption | exact Ne.symm (by assumption))]; first | assumption | exact upd_same)))) | (show V.int _ = kV (Sum.inl _); rfl) | (show ∃ z, V.str _ = V.str z; exact ⟨_, rfl⟩) | exact Or.inl ⟨by (first | decide | omega), by (first | decide | omega)⟩ | exact Or.inr ⟨by (first | decide | omega), by (first | decide | omega)⟩ | exact ⟨by (first | decide | omega), by (first | decide | omega)⟩ | exact ⟨by decide, by decide, by decide⟩ | exact L2.ClsV.ty _ | exact Dt.ty (by assumption) | exact Dt.kint (by assumption) | exact Dt.kbool (by assumption) | exact Dt.ktuple (by assumption) | exact Dt.klist (by assumption) | exact Dt.kstr (by assumption))) | (apply Exists.intro; apply Exists.intro; apply Exists.intro; apply Exists.intro; apply Exists.intro; apply Exists.intro; apply Exists.intro; apply Exists.intro; apply And.intro; focus (first | rfl | assumption | exact upd_same | exact SqL.of (by (first | assumption | exact upd_same | (rw [upd_ne (by first | assumption | exact Ne.symm (by assumption))]; first | assumption | exact upd_same | (rw [upd_ne (by first | assumption | exact Ne.symm (by assumption))]; first | assumption | exact upd_same)))) | exact SqT.of (by (first | assumption | exact upd_same | (rw [upd_ne (by first | assumption | exact Ne.symm (by assumption))]; first | assumption | exact upd_same | (rw [upd_ne (by first | assumption | exact Ne.symm (by assumption))]; first | assumption | exact upd_same)))) | exact Or.inl (SqL.of (by (first | assumption | exact upd_same | (rw [upd_ne (by first | assumption | exact Ne.symm (by assumption))]; first | assumption | exact upd_same | (rw [upd_ne (by first | assumption | exact Ne.symm (by assumption))]; first | assumption | exact upd_same))))) | exact Or.inr (SqT.of (by (first | assumption | exact upd_same | (rw [upd_ne (by first | assumption | exact Ne.symm (by assumption))]; first | assumption | exact upd_same | (rw [upd_ne (by first | assumption | exact Ne.symm (by assumption))]; first | assumption | exact upd_same))))) | exact Or.inl ⟨rfl, _, SqL.of (by (first | assumption | exact upd_same | (rw [upd_ne (by first | assumption | exact Ne.symm (by assumption))]; first | assumption | exact upd_same | (rw [upd_ne (by first | assumption | exact Ne.symm (by assumption))]; first | assumption | exact upd_same))))⟩ | (first | assumption | exact upd_same | (rw [upd_ne (by first | assumption | exact Ne.symm (by assumption))]; first | assumption | exact upd_same | (rw [upd_ne (by first | assumption | exact Ne.symm (by assumption))]; first | assumption | exact upd_same))) | decide | exact Nat.le_of_ble_eq_true rfl | omega | (show ∃ xs, SqL _ _ _ xs; exact ⟨_, SqL.of (by (first | assumption | exact upd_same | (rw [upd_ne (by first | assumption | exact Ne.symm (by assumption))]; first | assumption | exact upd_same | (rw [upd_ne (by first | assumption | exact Ne.symm (by assumption))]; first | assumption | exact upd_same))))⟩) | (show ∃ xs, SqT _ _ _ xs; exact ⟨_, SqT.of (by (first | assumption | exact upd_same | (rw [upd_ne (by first | assumption | exact Ne.symm (by assumption))]; first | assumption | exact upd_same | (rw [upd_ne (by first | assumption | exact Ne.symm (by assumption))]; first | assumption | exact upd_same))))⟩) | exact DGet.k (k := Sum.inl _) (by (first | assumption | exact upd_same | (rw [upd_ne (by first | assumption | exact Ne.symm (by assumption))]; first | assumption | exact upd_same | (rw [upd_ne (by first | assumption | exact Ne.symm (by assumption))]; first | assumption | exact upd_same)))) | (show V.int _ = kV (Sum.inl _); rfl) | (show ∃ z, V.str _ = V.str z; exact ⟨_, rfl⟩) | exact Or.inl ⟨by (first | decide | omega), by (first | decide | omega)⟩ | exact Or.inr ⟨by (first | decide | omega), by (first | decide | omega)⟩ | exact ⟨by (first | decide | omega), by (first | decide | omega)⟩ | exact ⟨by decide, by decide, by decide⟩ | exact L2.ClsV.ty _ | exact Dt.ty (by assumption) | exact Dt.kint (by assumption) | exact Dt.kbool (by assumption) | exact Dt.ktuple (by assumption) | exact Dt.klist (by assumption) | exact Dt.kstr (by assumption))) | (apply Exists.intro; apply Exists.intro; apply Exists.intro; apply Exists.intro; apply Exists.intro; apply Exists.intro; apply Exists.intro; apply Exists.intro; apply Exists.intro; apply And.intro; focus (first | rfl | assumption | exact upd_same | exact SqL.of (by (first | assumption | exact upd_same | (rw [upd_ne (by first | assumption | exact Ne.symm (by assumption))]; first | assumption | exact upd_same | (rw [upd_ne (by first | assumption | exact Ne.symm (by assumption))]; first | assumption | exact upd_same)))) | exact SqT.of (by (first | assumption | exact upd_same | (rw [upd_ne (by first | assumption | exact Ne.symm (by assumption))]; first | assumption | exact upd_same | (rw [upd_ne (by first | assumption | exact Ne.symm (by assumption))]; first | assumption | exact upd_same)))) | exact Or.inl (SqL.of (by (first | assumption | exact upd_same | (rw [upd_ne (by first | assumption | exact Ne.symm (by assumption))]; first | assumption | exact upd_same | (rw [upd_ne (by first | assumption | exact Ne.symm (by assumption))]; first | assumption | exact upd_same))))) | exact Or.inr (SqT.of (by (first | assumption | exact upd_same | (rw [upd_ne (by first | assumption | exact Ne.symm (by assumption))]; first | assumption | exact upd_same | (rw [upd_ne (by first | assumption | exact Ne.symm (by assumption))]; first | assumption | exact upd_same))))) | exact Or.inl ⟨rfl, _, SqL.of (by (first | assumption | exact upd_same | (rw [upd_ne (by first | assumption | exact Ne.symm (by assumption))]; first | assumption | exact upd_same | (rw [upd_ne (by first | assumption | exact Ne.symm (by assumption))]; first | assumption | exact upd_same))))⟩ | (first | assumption | exact upd_same | (rw [upd_ne (by first | assumption | exact Ne.symm (by assumption))]; first | assumption | exact upd_same | (rw [upd_ne (by first | assumption | exact Ne.symm (by assumption))]; first | assumption | exact upd_same))) | decide | exact Nat.le_of_ble_eq_true rfl | omega | (show ∃ xs, SqL _ _ _ xs; exact ⟨_, SqL.of (by (first | assumption | exact upd_same | (rw [upd_ne (by first | assumption | exact Ne.symm (by assumption))]; first | assumption | exact upd_same | (rw [upd_ne (by first | assumption | exact Ne.symm (by assumption))]; first | assumption | exact upd_same))))⟩) | (show ∃ xs, SqT _ _ _ xs; exact ⟨_, SqT.of (by (first | assumption | exact upd_same | (rw [upd_ne (by first | assumption | exact Ne.symm (by assumption))]; first | assumption | exact upd_same | (rw [upd_ne (by first | assumption | exact Ne.symm (by assumption))]; first | assumption | exact upd_same))))⟩) | exact DGet.k (k := Sum.inl _) (by (first | assumption | exact upd_same | (rw [upd_ne (by first | assumption | exact Ne.symm (by assumption))]; first | assumption | exact upd_same | (rw [upd_ne (by first | assumption | exact Ne.symm (by assumption))]; first | assumption | exact upd_same)))) | (show V.int _ = kV (Sum.inl _); rfl) | (show ∃ z, V.str _ = V.str z; exact ⟨_, rfl⟩) | exact Or.inl ⟨by (first | decide | omega), by (first | decide | omega)⟩ | exact Or.inr ⟨by (first | decide | omega), by (first | decide | omega)⟩ | exact ⟨by (first | decide | omega), by (first | decide | omega)⟩ | exact ⟨by decide, by decide, by decide⟩ | exact L2.ClsV.ty _ | exact Dt.ty (by assumption) | exact Dt.kint (by assumption) | exact Dt.kbool (by assumption) | exact Dt.ktuple (by assumption) | exact Dt.klist (by assumption) | exact Dt.kstr (by assumption))) | refine Or.inl ⟨_, rfl, ?_⟩ | refine Or.inr ⟨_, rfl, ?_⟩ | refine Or.inr ⟨SqT.of (by (first | assumption | exact upd_same | (rw [upd_ne (by first | assumption | exact Ne.symm (by assumption))]; first | assumption | exact upd_same | (rw [upd_ne (by first | assumption | exact Ne.symm (by assumption))]; first | assumption | exact upd_same)))), SqT.of (by (first | assumption | exact upd_same | (rw [upd_ne (by first | assumption | exact Ne.symm (by assumption))]; first | assumption | exact upd_same | (rw [upd_ne (by first | assumption | exact Ne.symm (by assumption))]; first | assumption | exact upd_same)))), ?_⟩ | refine Or.inl ⟨SqL.of (by (first | assumption | exact upd_same | (rw [upd_ne (by first | assumption | exact Ne.symm (by assumption))]; first | assumption | exact upd_same | (rw [upd_ne (by first | assumption | exact Ne.symm (by assumption))]; first | assumption | exact upd_same)))), SqL.of (by (first | assumption | exact upd_same | (rw [upd_ne (by first | assumption | exact Ne.symm (by assumption))]; first | assumption | exact upd_same | (rw [upd_ne (by first | assumption | exact Ne.symm (by assumption))]; first | assumption | exact upd_same)))), ?_⟩ | refine Or.inl ⟨SqL.of (by (first | assumption | exact upd_same | (rw [upd_ne (by first | assumption | exact Ne.symm (by assumption))]; first | assumption | exact upd_same | (rw [upd_ne (by first | assumption | exact Ne.symm (by assumption))]; first | assumption | exact upd_same)))), ?_⟩ | refine Or.inr ⟨SqT.of (by (first | assumption | exact upd_same | (rw [upd_ne (by first | assumption | exact Ne.symm (by assumption))]; first | assumption | exact upd_same | (rw [upd_ne (by first | assumption | exact Ne.symm (by assumption))]; first | assumption | exact upd_same)))), ?_⟩ | refine ifT rfl ?_ | refine ifF rfl ?_))
def betw (v : V) (lo hi : Int) : Bool := match v with
  | .int i => decide (lo ≤ i) && decide (i ≤ hi)
  | _ => false
def spLNum : Sp := fun vs H Q _ => ∃ (v y : V) (t : String) (lo hi : Int), vs = [v, .int lo, y] ∧ Dt H v t ∧ (∀ i, v = .int i → y = .int hi) ∧ Q (.bl (betw v lo hi)) H
def spWorth : Sp := fun vs H Q _ => ∃ (a : Addr) (ns : List Int) (top : Nat), vs = [.ref a, .int (top : Int)] ∧ H a = some (.tup (ns.map V.int)) ∧ Sh ns ∧ top ≤ 1000 ∧ Q (.int (Vs (mS ns) (top + 1) : Nat)) H
def spLotOf : Sp := fun vs H Q _ => ∃ (W top : Nat), vs = [.int (W : Int), .int (top : Int)] ∧ W < 2 ^ (top + 1) ∧ top ≤ 1000 ∧ ∀ p H', Same H H' → H' p = some (.tup ((lotV (top + 1) W).map V.int)) → Q (.ref p) H'
theorem inV_int {ns : List Int} {q : Int} : inV (.int q) (ns.map V.int) = decide (q ∈ ns) := by
  induction ns with
  | nil => rfl
  | cons n ns ih =>
    have e : inV (.int q) (List.map V.int (n :: ns)) = (eqV (.int n) (.int q) || inV (.int q) (ns.map V.int)) := rfl
    rw [e, ih]
    by_cases c : q = n
    · subst c; simp [eqV]
    · have : ¬ n = q := fun z => c z.symm
      simp [eqV, c, this]
theorem flat_ints {ns : List Int} : (ns.map V.int).all flatV = true := by simp [flatV]
section
variable {P : Program} {w : World} {K : PySem.W.Frag} {mg : Str → Option Value} {base : Heap}
theorem d_law_number (B : Bi mg) (F : FunAt K mg "_law_number" s_law_number) : Has P w K mg base 1 "_law_number" ["thing", "least", "most"] spLNum := by
  refine mk_has F sc_law_number (fun _ _ _ _ _ _ us hl => match us, hl with | [_, _, _], _ => rfl) (fun vs H Q E h => ?_) fun f cdv A outer s H vs Q E hr h => ?_
  · obtain ⟨v, y, t, lo, hi, rfl, _⟩ := h
    rfl
  obtain ⟨v, y, t, lo, hi, rfl, d, hy, k⟩ := h
  refine ⟨_, (pss_one (ps_ret (pe_and (pe_callB call_isi rfl B.isinstance (by decide +kernel) (pa_cons (pv 0) (pa_cons (pe_bltn (v := .ty "int") rfl B.int (by decide +kernel) rfl) pa_nil))) (pe_and (pe_not (pe_callB call_isi rfl B.isinstance (by decide +kernel) (pa_cons (pv 0) (pa_cons (pe_bltn (v := .ty "bool") rfl B.bool (by decide +kernel) rfl) pa_nil)))) (pe_one (pe_chain op_le op_le (pv 1) (pv 0) (pv 2))))))), ?_⟩
  cases d with
  | int i =>
    obtain rfl := hy i rfl
    have d := Dt.int (H := H) i
    trivial
    have k' : Q (.bl (decide (lo ≤ i) && decide (i ≤ hi))) H := k
    refine ite2 (fun c => ?_) (fun c => ?_)
    · rw [c, Bool.true_and] at k'
      trivial
      exact k'
    · rw [Bool.eq_false_iff.mpr c, Bool.false_and] at k'
      exact k'
  | bl b =>
    have d := Dt.bl (H := H) b
    trivial
    exact k
  | str i =>
    have d := Dt.str (H := H) i
    trivial
    exact k
  | non =>
    have d := Dt.non (H := H)
    trivial
    exact k
  | lst e =>
    have d := Dt.lst e
    trivial
    exact k
  | tup e =>
    have d := Dt.tup e
    trivial
    exact k
  | dK e =>
    have d := Dt.dK e
    trivial
    exact k
theorem d_law_worth (B : Bi mg) (F : FunAt K mg "_law_worth" s_law_worth) : Has P w K mg base 1 "_law_worth" ["share", "top"] spWorth := by
  refine mk_has F sc_law_worth (fun _ _ _ _ _ _ us hl => match us, hl with | [_, _], _ => rfl) (fun vs H Q E h => ?_) fun f cdv A outer s H vs Q E hr h => ?_
  · obtain ⟨a, ns, top, rfl, _⟩ := h
    rfl
  obtain ⟨a, ns, top, rfl, ea, hs, hl, k⟩ := h
  refine ⟨_, (pss_cons (ps_set (i := 2) sc_law_worth.nd rfl (Or.inl rfl) pe_int)
    (pss_cons (ps_for PassesOwn.never rfl (pi_range1 rfl B.range (pa_cons (pe_op op_add (pv 1) pe_int) pa_nil)) (pg_name (i := 3) sc_law_worth.nd rfl (Or.inl rfl))
    (pss_one (ps_set (i := 2) sc_law_worth.nd rfl (Or.inl rfl) (pe_op op_add (pe_op op_mul (pv 2) pe_int) (pe_callTy call_int1 rfl B.int (by decide +kernel) (pa_cons (pe_cmpR op_in_seq (pv 3) (pv 0) (by rfl)) pa_nil))))))
    (pss_one (ps_ret (pv 2))))), ?_⟩
  trivial
  have h1 : mS ns (-1) = false := decide_eq_false fun z => by have := hs.nn _ z; omega
  refine for_it walk_range (fun i σ H' => ∃ v, σ = [some (.ref a), some (.int (top : Int)), some (.int (Vs (mS ns) i : Nat)), v] ∧ H' = H) ?_ (fun _ _ _ _ _ => trivial) ?_ ?_
  · exact ⟨_, by rw [Vs, h1]; rfl, rfl⟩
  · rintro i x σ H1 H2 hi ⟨v, rfl, rfl⟩ ⟨rfl, rfl⟩
    refine ⟨_, rfl, _, _, rfl, rfl, .inr ⟨by decide, by decide⟩, _, rfl, _, rfl, a, _, rfl, .inr (SqT.of ea), rfl, flat_ints, ?_⟩
    rw [inV_int]
    have e : ((Vs (mS ns) (i + 1) : Nat) : Int) = ((Vs (mS ns) i : Nat) : Int) * 2 + (if decide ((0 : Int) + (i : Int) ∈ ns) = true then 1 else 0) := by
      rw [Vs, Int.zero_add]
      show ((2 * Vs (mS ns) i + (decide ((i : Int) ∈ ns)).toNat : Nat) : Int) = _
      cases decide ((i : Int) ∈ ns) <;> simp <;> omega
    refine .inr ⟨_, rfl, ?_⟩
    trivial
    refine ⟨some (.int (0 + (i : Nat))), ?_, rfl⟩
    rw [e]
    rfl
  · rintro σ H1 ⟨v, rfl, rfl⟩
    trivial
    exact k
theorem d_law_lot_of (B : Bi mg) (F : FunAt K mg "_law_lot_of" s_law_lot_of) : Has P w K mg base 1 "_law_lot_of" ["worth", "top"] spLotOf := by
  refine mk_has F sc_law_lot_of (fun _ _ _ _ _ _ us hl => match us, hl with | [_, _], _ => rfl) (fun vs H Q E h => ?_) fun f cdv A outer s H vs Q E hr h => ?_
  · obtain ⟨W, top, rfl, _⟩ := h
    rfl
  obtain ⟨W, top, rfl, hW, hl, k⟩ := h
  refine ⟨_, (pss_cons (ps_set (i := 2) sc_law_lot_of.nd rfl (Or.inl rfl) (pe_lst pa_nil))
    (pss_cons (ps_set (i := 3) sc_law_lot_of.nd rfl (Or.inl rfl) (pv 0))
    (pss_cons (ps_for PassesOwn.never rfl (pi_range1 rfl B.range (pa_cons (pe_op op_add (pv 1) pe_int) pa_nil)) (pg_name (i := 4) sc_law_lot_of.nd rfl (Or.inl rfl))
    (C8.pss_cut (ps_if (pt_cmpR op_eq (pe_op op_mod (pe_callTy call_int1 rfl B.int (by decide +kernel) (pa_cons (pv 3) pa_nil)) pe_int) pe_int (nomark _))
    (pss_one (ps_expr (pe_bm PySem.F.plainAttrs_list PySem.F.slot_list_append PySem.F.type_list_append mt_append (pv 2) (pa_cons (pe_op op_sub (pv 1) (pv 4)) pa_nil))))
    pss_nil)
    (pss_one (ps_set (i := 3) sc_law_lot_of.nd rfl (Or.inl rfl) (pe_op op_fdiv (pv 3) pe_int)))))
    (pss_one (ps_ret (pe_callTy call_tuple_of rfl B.tuple (by decide +kernel) (pa_cons (pe_revL (pv 2)) pa_nil))))))), ?_⟩
  trivial
  intro D nD
  trivial
  refine for_it walk_range (fun i σ H' => ∃ (ks : List Int) (v : Option V), σ = [some (.int (W : Int)), some (.int (top : Int)), some (.ref D), some (.int (W / 2 ^ i : Nat)), v] ∧ Same H H' ∧ H' D = some (.lst (ks.map V.int)) ∧ ks.length ≤ i ∧ i ≤ top + 1 ∧ lotV (top + 1) W = lotV (top + 1 - i) (W / 2 ^ i) ++ ks.reverse) ?_ (fun _ _ _ _ _ => trivial) ?_ ?_
  · exact ⟨[], none, by rw [Nat.pow_zero, Nat.div_one]; rfl, same_new0 nD, upd_same, Nat.le_refl _, Nat.zero_le _, by simp⟩
  · rintro i x σ H1 H2 hi ⟨ks, v, rfl, s1, e1, hk, hi2, el⟩ ⟨rfl, rfl⟩
    have ht : top + 1 - i = (top - i) + 1 := by omega
    have lv : lotV (top - i + 1) (W / 2 ^ i) = lotV (top - i) (W / 2 ^ i / 2) ++ if (W / 2 ^ i) % 2 = 1 then [((top - i : Nat) : Int)] else [] := rfl
    have e2 : W / 2 ^ (i + 1) = W / 2 ^ i / 2 := by rw [Nat.pow_succ, Nat.div_div_eq_div_mul]
    rw [ht, lv] at el
    refine ⟨fun σ H' => ∃ ls : List Int, σ = [some (.int (W : Int)), some (.int (top : Int)), some (.ref D), some (.int (W / 2 ^ i : Nat)), some (.int (0 + (i : Nat)))] ∧ Same H H' ∧ H' D = some (.lst (ls.map V.int)) ∧ ls.length ≤ i + 1 ∧ lotV (top + 1) W = lotV (top - i) (W / 2 ^ i / 2) ++ ls.reverse, ?_, ?_⟩
    · trivial
      refine ite2 (fun c => ?_) (fun c => ?_)
      · have c' : (W / 2 ^ i) % 2 = 1 := by have := of_decide_eq_true c; injection this with this; omega
        rw [if_pos c'] at el
        trivial
        refine ⟨by rw [sizeLine_eq, List.length_map]; omega, ks ++ [((top : Nat) : Int) - (0 + (i : Nat))], rfl, sput s1 nD, by rw [upd_same, List.map_append]; rfl, by simp; omega, ?_⟩
        rw [el, List.reverse_append, List.append_assoc]
        congr 2
        simp
        omega
      · have c' : ¬ (W / 2 ^ i) % 2 = 1 := fun z => c (decide_eq_true (by rw [V.int.injEq]; omega))
        rw [if_neg c', List.append_nil] at el
        exact ⟨ks, rfl, s1, e1, by omega, el⟩
    · rintro σ H3 ⟨ls, rfl, s3, e3, hk3, el3⟩
      trivial
      refine ⟨ls, some (.int (0 + (i : Nat))), ?_, s3, e3, hk3, by omega, by rw [e2, show top + 1 - (i + 1) = top - i by omega]; exact el3⟩
      rw [e2, show ((W / 2 ^ i / 2 : Nat) : Int) = ((W / 2 ^ i : Nat) : Int) / 2 by omega]
      rfl
  · rintro σ H1 ⟨ks, v, rfl, s1, e1, hk, hi2, el⟩
    have e0 : (((top : Nat) : Int) + 1).toNat = top + 1 := by omega
    rw [e0, Nat.sub_self, Nat.div_eq_of_lt hW] at el
    have el' : lotV (top + 1) W = ks.reverse := by rw [el]; rfl
    trivial
    intro p np
    trivial
    intro p2 n2
    refine k p2 _ (snew (snew s1 np) n2) ?_
    rw [upd_same, el', List.map_reverse]
end
end KQ
set_option Elab.async false
set_option maxRecDepth 100000
set_option maxHeartbeats 4000000
namespace KQ
open PySem PySem.Spec PyProof.Rows L2
local macro_rules | `(tactic| trivial) => `(tactic| repeat (first | refine sl_go (by (first | assumption | exact upd_same | (rw [upd_ne (by first | assumption | exact Ne.symm (by assumption))]; first | assumption | exact upd_same | (rw [upd_ne (by first | assumption | exact Ne.symm (by assumption))]; first | assumption | exact upd_same)))) ?_ | (unfold tNoPart; refine sl_go (by (first | assumption | exact upd_same | (rw [upd_ne (by first | assumption | exact Ne.symm (by assumption))]; first | assumption | exact upd_same | (rw [upd_ne (by first | assumption | exact Ne.symm (by assumption))]; first | assumption | exact upd_same)))) ?_) | refine cat_go (by (first | assumption | exact upd_same | (rw [upd_ne (by first | assumption | exact Ne.symm (by assumption))]; first | assumption | exact upd_same | (rw [upd_ne (by first | assumption | exact Ne.symm (by assumption))]; first | assumption | exact upd_same)))) (by (first | assumption | exact upd_same | (rw [upd_ne (by first | assumption | exact Ne.symm (by assumption))]; first | assumption | exact upd_same | (rw [upd_ne (by first | assumption | exact Ne.symm (by assumption))]; first | assumption | exact upd_same)))) ?_ ?_ | (apply And.intro; focus (first | rfl | assumption | exact upd_same | exact SqL.of (by (first | assumption | exact upd_same | (rw [upd_ne (by first | assumption | exact Ne.symm (by assumption))]; first | assumption | exact upd_same | (rw [upd_ne (by first | assumption | exact Ne.symm (by assumption))]; first | assumption | exact upd_same)))) | exact SqT.of (by (first | assumption | exact upd_same | (rw [upd_ne (by first | assumption | exact Ne.symm (by assumption))]; first | assumption | exact upd_same | (rw [upd_ne (by first | assumption | exact Ne.symm (by assumption))]; first | assumption | exact upd_same)))) | exact Or.inl (SqL.of (by (first | assumption | exact upd_same | (rw [upd_ne (by first | assumption | exact Ne.symm (by assumption))]; first | assumption | exact upd_same | (rw [upd_ne (by first | assumption | exact Ne.symm (by assumption))]; first | assumption | exact upd_same))))) | exact Or.inr (SqT.of (by (first | assumption | exact upd_same | (rw [upd_ne (by first | assumption | exact Ne.symm (by assumption))]; first | assumption | exact upd_same | (rw [upd_ne (by first | assumption | exact Ne.symm (by assumption))]; first | assumption | exact upd_same))))) | exact Or.inl ⟨rfl, _, SqL.of (by (first | assumption | exact upd_same | (rw [upd_ne (by first | assumption | exact Ne.symm (by assumption))]; first | assumption | exact upd_same | (rw [upd_ne (by first | assumption | exact Ne.symm (by assumption))]; first | assumption | exact upd_same))))⟩ | (first | assumption | exact upd_same | (rw [upd_ne (by first | assumption | exact Ne.symm (by assumption))]; first | assumption | exact upd_same | (rw [upd_ne (by first | assumption | exact Ne.symm (by assumption))]; first | assumption | exact upd_same))) | decide | exact Nat.le_of_ble_eq_true rfl | omega | (show ∃ xs, SqL _ _ _ xs; exact ⟨_, SqL.of (by (first | assumption | exact upd_same | (rw [upd_ne (by first | assumption | exact Ne.symm (by assumption))]; first | assumption | exact upd_same | (rw [upd_ne (by first | assumption | exact Ne.symm (by assumption))]; first | assumption | exact upd_same))))⟩) | (show ∃ xs, SqT _ _ _ xs; exact ⟨_, SqT.of (by (first | assumption | exact upd_same | (rw [upd_ne (by first | assumption | exact Ne.symm (by assumption))]; first | assumption | exact upd_same | (rw [upd_ne (by first | assumption | exact Ne.symm (by assumption))]; first | assumption | exact upd_same))))⟩) | exact DGet.k (k := Sum.inl _) (by (first | assumption | exact upd_same | (rw [upd_ne (by first | assumption | exact Ne.symm (by assumption))]; first | assumption | exact upd_same | (rw [upd_ne (by first | assumption | exact Ne.symm (by assumption))]; first | assumption | exact upd_same)))) | (show V.int _ = kV (Sum.inl _); rfl) | (show ∃ z, V.str _ = V.str z; exact ⟨_, rfl⟩) | exact Or.inl ⟨by (first | decide | omega), by (first | decide | omega)⟩ | exact Or.inr ⟨by (first | decide | omega), by (first | decide | omega)⟩ | exact ⟨by (first | decide | omega), by (first | decide | omega)⟩ | exact ⟨by decide, by decide, by decide⟩ | exact L2.ClsV.ty _ | exact Dt.ty (by assumption) | exact Dt.kint (by assumption) | exact Dt.kbool (by assumption) | exact Dt.ktuple (by assumption) | exact Dt.klist (by assumption) | exact Dt.kstr (by assumption))) | (apply Exists.intro; apply And.intro; focus (first | rfl | assumption | exact upd_same | exact SqL.of (by (first | assumption | exact upd_same | (rw [upd_ne (by first | assumption | exact Ne.symm (by assumption))]; first | assumption | exact upd_same | (rw [upd_ne (by first | assumption | exact Ne.symm (by assumption))]; first | assumption | exact upd_same)))) | exact SqT.of (by (first | assumption | exact upd_same | (rw [upd_ne (by first | assumption | exact Ne.symm (by assumption))]; first | assumption | exact upd_same | (rw [upd_ne (by first | assumption | exact Ne.symm (by assumption))]; first | assumption | exact upd_same)))) | exact Or.inl (SqL.of (by (first | assumption | exact upd_same | (rw [upd_ne (by first | assumption | exact Ne.symm (by assumption))]; first | assumption | exact upd_same | (rw [upd_ne (by first | assumption | exact Ne.symm (by assumption))]; first | assumption | exact upd_same))))) | exact Or.inr (SqT.of (by (first | assumption | exact upd_same | (rw [upd_ne (by first | assumption | exact Ne.symm (by assumption))]; first | assumption | exact upd_same | (rw [upd_ne (by first | assumption | exact Ne.symm (by assumption))]; first | assumption | exact upd_same))))) | exact Or.inl ⟨rfl, _, SqL.of (by (first | assumption | exact upd_same | (rw [upd_ne (by first | assumption | exact Ne.symm (by assumption))]; first | assumption | exact upd_same | (rw [upd_ne (by first | assumption | exact Ne.symm (by assumption))]; first | assumption | exact upd_same))))⟩ | (first | assumption | exact upd_same | (rw [upd_ne (by first | assumption | exact Ne.symm (by assumption))]; first | assumption | exact upd_same | (rw [upd_ne (by first | assumption | exact Ne.symm (by assumption))]; first | assumption | exact upd_same))) | decide | exact Nat.le_of_ble_eq_true rfl | omega | (show ∃ xs, SqL _ _ _ xs; exact ⟨_, SqL.of (by (first | assumption | exact upd_same | (rw [upd_ne (by first | assumption | exact Ne.symm (by assumption))]; first | assumption | exact upd_same | (rw [upd_ne (by first | assumption | exact Ne.symm (by assumption))]; first | assumption | exact upd_same))))⟩) | (show ∃ xs, SqT _ _ _ xs; exact ⟨_, SqT.of (by (first | assumption | exact upd_same | (rw [upd_ne (by first | assumption | exact Ne.symm (by assumption))]; first | assumption | exact upd_same | (rw [upd_ne (by first | assumption | exact Ne.symm (by assumption))]; first | assumption | exact upd_same))))⟩) | exact DGet.k (k := Sum.inl _) (by (first | assumption | exact upd_same | (rw [upd_ne (by first | assumption | exact Ne.symm (by assumption))]; first | assumption | exact upd_same | (rw [upd_ne (by first | assumption | exact Ne.symm (by assumption))]; first | assumption | exact upd_same)))) | (show V.int _ = kV (Sum.inl _); rfl) | (show ∃ z, V.str _ = V.str z; exact ⟨_, rfl⟩) | exact Or.inl ⟨by (first | decide | omega), by (first | decide | omega)⟩ | exact Or.inr ⟨by (first | decide | omega), by (first | decide | omega)⟩ | exact ⟨by (first | decide | omega), by (first | decide | omega)⟩ | exact ⟨by decide, by decide, by decide⟩ | exact L2.ClsV.ty _ | exact Dt.ty (by assumption) | exact Dt.kint (by assumption) | exact Dt.kbool (by assumption) | exact Dt.ktuple (by assumption) | exact Dt.klist (by assumption) | exact Dt.kstr (by assumption))) | (apply Exists.intro; apply Exists.intro; apply And.intro; focus (first | rfl | assumption | exact upd_same | exact SqL.of (by (first | assumption | exact upd_same | (rw [upd_ne (by first | assumption | exact Ne.symm (by assumption))]; first | assumption | exact upd_same | (rw [upd_ne (by first | assumption | exact Ne.symm (by assumption))]; first | assumption | exact upd_same)))) | exact SqT.of (by (first | assumption | exact upd_same | (rw [upd_ne (by first | assumption | exact Ne.symm (by assumption))]; first | assumption | exact upd_same | (rw [upd_ne (by first | assumption | exact Ne.symm (by assumption))]; first | assumption | exact upd_same)))) | exact Or.inl (SqL.of (by (first | assumption | exact upd_same | (rw [upd_ne (by first | assumption | exact Ne.symm (by assumption))]; first | assumption | exact upd_same | (rw [upd_ne (by first | assumption | exact Ne.symm (by assumption))]; first | assumption | exact upd_same))))) | exact Or.inr (SqT.of (by (first | assumption | exact upd_same | (rw [upd_ne (by first | assumption | exact Ne.symm (by assumption))]; first | assumption | exact upd_same | (rw [upd_ne (by first | assumption | exact Ne.symm (by assumption))]; first | assumption | exact upd_same))))) | exact Or.inl ⟨rfl, _, SqL.of (by (first | assumption | exact upd_same | (rw [upd_ne (by first | assumption | exact Ne.symm (by assumption))]; first | assumption | exact upd_same | (rw [upd_ne (by first | assumption | exact Ne.symm (by assumption))]; first | assumption | exact upd_same))))⟩ | (first | assumption | exact upd_same | (rw [upd_ne (by first | assumption | exact Ne.symm (by assumption))]; first | assumption | exact upd_same | (rw [upd_ne (by first | assumption | exact Ne.symm (by assumption))]; first | assumption | exact upd_same))) | decide | exact Nat.le_of_ble_eq_true rfl | omega | (show ∃ xs, SqL _ _ _ xs; exact ⟨_, SqL.of (by (first | assumption | exact upd_same | (rw [upd_ne (by first | assumption | exact Ne.symm (by assumption))]; first | assumption | exact upd_same | (rw [upd_ne (by first | assumption | exact Ne.symm (by assumption))]; first | assumption | exact upd_same))))⟩) | (show ∃ xs, SqT _ _ _ xs; exact ⟨_, SqT.of (by (first | assumption | exact upd_same | (rw [upd_ne (by first | assumption | exact Ne.symm (by assumption))]; first | assumption | exact upd_same | (rw [upd_ne (by first | assumption | exact Ne.symm (by assumption))]; first | assumption | exact upd_same))))⟩) | exact DGet.k (k := Sum.inl _) (by (first | assumption | exact upd_same | (rw [upd_ne (by first | assumption | exact Ne.symm (by assumption))]; first | assumption | exact upd_same | (rw [upd_ne (by first | assumption | exact Ne.symm (by assumption))]; first | assumption | exact upd_same)))) | (show V.int _ = kV (Sum.inl _); rfl) | (show ∃ z, V.str _ = V.str z; exact ⟨_, rfl⟩) | exact Or.inl ⟨by (first | decide | omega), by (first | decide | omega)⟩ | exact Or.inr ⟨by (first | decide | omega), by (first | decide | omega)⟩ | exact ⟨by (first | decide | omega), by (first | decide | omega)⟩ | exact ⟨by decide, by decide, by decide⟩ | exact L2.ClsV.ty _ | exact Dt.ty (by assumption) | exact Dt.kint (by assumption) | exact Dt.kbool (by assumption) | exact Dt.ktuple (by assumption) | exact Dt.klist (by assumption) | exact Dt.kstr (by assumption))) | (apply Exists.intro; apply Exists.intro; apply Exists.intro; apply And.intro; focus (first | rfl | assumption | exact upd_same | exact SqL.of (by (first | assumption | exact upd_same | (rw [upd_ne (by first | assumption | exact Ne.symm (by assumption))]; first | assumption | exact upd_same | (rw [upd_ne (by first | assumption | exact Ne.symm (by assumption))]; first | assumption | exact upd_same)))) | exact SqT.of (by (first | assumption | exact upd_same | (rw [upd_ne (by first | assumption | exact Ne.symm (by assumption))]; first | assumption | exact upd_same | (rw [upd_ne (by first | assumption | exact Ne.symm (by assumption))]; first | assumption | exact upd_same)))) | exact Or.inl (SqL.of (by (first | assumption | exact upd_same | (rw [upd_ne (by first | assumption | exact Ne.symm (by assumption))]; first | assumption | exact upd_same | (rw [upd_ne (by first | assumption | exact Ne.symm (by assumption))]; first | assumption | exact upd_same))))) | exact Or.inr (SqT.of (by (first | assumption | exact upd_same | (rw [upd_ne (by first | assumption | exact Ne.symm (by assumption))]; first | assumption | exact upd_same | (rw [upd_ne (by first | assumption | exact Ne.symm (by assumption))]; first | assumption | exact upd_same))))) | exact Or.inl ⟨rfl, _, SqL.of (by (first | assumption | exact upd_same | (rw [upd_ne (by first | assumption | exact Ne.symm (by assumption))]; first | assumption | exact upd_same | (rw [upd_ne (by first | assumption | exact Ne.symm (by assumption))]; first | assumption | exact upd_same))))⟩ | (first | assumption | exact upd_same | (rw [upd_ne (by first | assumption | exact Ne.symm (by assumption))]; first | assumption | exact upd_same | (rw [upd_ne (by first | assumption | exact Ne.symm (by assumption))]; first | assumption | exact upd_same))) | decide | exact Nat.le_of_ble_eq_true rfl | omega | (show ∃ xs, SqL _ _ _ xs; exact ⟨_, SqL.of (by (first | assumption | exact upd_same | (rw [upd_ne (by first | assumption | exact Ne.symm (by assumption))]; first | assumption | exact upd_same | (rw [upd_ne (by first | assumption | exact Ne.symm (by assumption))]; first | assumption | exact upd_same))))⟩) | (show ∃ xs, SqT _ _ _ xs; exact ⟨_, SqT.of (by (first | assumption | exact upd_same | (rw [upd_ne (by first | assumption | exact Ne.symm (by assumption))]; first | assumption | exact upd_same | (rw [upd_ne (by first | assumption | exact Ne.symm (by assumption))]; first | assumption | exact upd_same))))⟩) | exact DGet.k (k := Sum.inl _) (by (first | assumption | exact upd_same | (rw [upd_ne (by first | assumption | exact Ne.symm (by assumption))]; first | assumption | exact upd_same | (rw [upd_ne (by first | assumption | exact Ne.symm (by assumption))]; first | assumption | exact upd_same)))) | (show V.int _ = kV (Sum.inl _); rfl) | (show ∃ z, V.str _ = V.str z; exact ⟨_, rfl⟩) | exact Or.inl ⟨by (first | decide | omega), by (first | decide | omega)⟩ | exact Or.inr ⟨by (first | decide | omega), by (first | decide | omega)⟩ | exact ⟨by (first | decide | omega), by (first | decide | omega)⟩ | exact ⟨by decide, by decide, by decide⟩ | exact L2.ClsV.ty _ | exact Dt.ty (by assumption) | exact Dt.kint (by assumption) | exact Dt.kbool (by assumption) | exact Dt.ktuple (by assumption) | exact Dt.klist (by assumption) | exact Dt.kstr (by assumption))) | (apply Exists.intro; apply Exists.intro; apply Exists.intro; apply Exists.intro; apply And.intro; focus (first | rfl | assumption | exact upd_same | exact SqL.of (by (first | assumption | exact upd_same | (rw [upd_ne (by first | assumption | exact Ne.symm (by assumption))]; first | assumption | exact upd_same | (rw [upd_ne (by first | assumption | exact Ne.symm (by assumption))]; first | assumption | exact upd_same)))) | exact SqT.of (by (first | assumption | exact upd_same | (rw [upd_ne (by first | assumption | exact Ne.symm (by assumption))]; first | assumption | exact upd_same | (rw [upd_ne (by first | assumption | exact Ne.symm (by assumption))]; first | assumption | exact upd_same)))) | exact Or.inl (SqL.of (by (first | assumption | exact upd_same | (rw [upd_ne (by first | assumption | exact Ne.symm (by assumption))]; first | assumption | exact upd_same | (rw [upd_ne (by first | assumption | exact Ne.symm (by assumption))]; first | assumption | exact upd_same))))) | exact Or.inr (SqT.of (by (first | assumption | exact upd_same | (rw [upd_ne (by first | assumption | exact Ne.symm (by assumption))]; first | assumption | exact upd_same | (rw [upd_ne (by first | assumption | exact Ne.symm (by assumption))]; first | assumption | exact upd_same))))) | exact Or.inl ⟨rfl, _, SqL.of (by (first | assumption | exact upd_same | (rw [upd_ne (by first | assumption | exact Ne.symm (by assumption))]; first | assumption | exact upd_same | (rw [upd_ne (by first | assumption | exact Ne.symm (by assumption))]; first | assumption | exact upd_same))))⟩ | (first | assumption | exact upd_same | (rw [upd_ne (by first | assumption | exact Ne.symm (by assumption))]; first | assumption | exact upd_same | (rw [upd_ne (by first | assumption | exact Ne.symm (by assumption))]; first | assumption | exact upd_same))) | decide | exact Nat.le_of_ble_eq_true rfl | omega | (show ∃ xs, SqL _ _ _ xs; exact ⟨_, SqL.of (by (first | assumption | exact upd_same | (rw [upd_ne (by first | assumption | exact Ne.symm (by assumption))]; first | assumption | exact upd_same | (rw [upd_ne (by first | assumption | exact Ne.symm (by assumption))]; first | assumption | exact upd_same))))⟩) | (show ∃ xs, SqT _ _ _ xs; exact ⟨_, SqT.of (by (first | assumption | exact upd_same | (rw [upd_ne (by first | assumption | exact Ne.symm (by assumption))]; first | assumption | exact upd_same | (rw [upd_ne (by first | assumption | exact Ne.symm (by assumption))]; first | assumption | exact upd_same))))⟩) | exact DGet.k (k := Sum.inl _) (by (first | assumption | exact upd_same | (rw [upd_ne (by first | assumption | exact Ne.symm (by assumption))]; first | assumption | exact upd_same | (rw [upd_ne (by first | assumption | exact Ne.symm (by assumption))]; first | assumption | exact upd_same)))) | (show V.int _ = kV (Sum.inl _); rfl) | (show ∃ z, V.str _ = V.str z; exact ⟨_, rfl⟩) | exact Or.inl ⟨by (first | decide | omega), by (first | decide | omega)⟩ | exact Or.inr ⟨by (first | decide | omega), by (first | decide | omega)⟩ | exact ⟨by (first | decide | omega), by (first | decide | omega)⟩ | exact ⟨by decide, by decide, by decide⟩ | exact L2.ClsV.ty _ | exact Dt.ty (by assumption) | exact Dt.kint (by assumption) | exact Dt.kbool (by assumption) | exact Dt.ktuple (by assumption) | exact Dt.klist (by assumption) | exact Dt.kstr (by assumption))) | (apply Exists.intro; apply Exists.intro; apply Exists.intro; apply Exists.intro; apply Exists.intro; apply And.intro; focus (first | rfl | assumption | exact upd_same | exact SqL.of (by (first | assumption | exact upd_same | (rw [upd_ne (by first | assumption | exact Ne.symm (by assumption))]; first | assumption | exact upd_same | (rw [upd_ne (by first | assumption | exact Ne.symm (by assumption))]; first | assumption | exact upd_same)))) | exact SqT.of (by (first | assumption | exact upd_same | (rw [upd_ne (by first | assumption | exact Ne.symm (by assumption))]; first | assumption | exact upd_same | (rw [upd_ne (by first | assumption | exact Ne.symm (by assumption))]; first | assumption | exact upd_same)))) | exact Or.inl (SqL.of (by (first | assumption | exact upd_same | (rw [upd_ne (by first | assumption | exact Ne.symm (by assumption))]; first | assumption | exact upd_same | (rw [upd_ne (by first | assumption | exact Ne.symm (by assumption))]; first | assumption | exact upd_same))))) | exact Or.inr (SqT.of (by (first | assumption | exact upd_same | (rw [upd_ne (by first | assumption | exact Ne.symm (by assumption))]; first | assumption | exact upd_same | (rw [upd_ne (by first | assumption | exact Ne.symm (by assumption))]; first | assumption | exact upd_same))))) | exact Or.inl ⟨rfl, _, SqL.of (by (first | assumption | exact upd_same | (rw [upd_ne (by first | assumption | exact Ne.symm (by assumption))]; first | assumption | exact upd_same | (rw [upd_ne (by first | assumption | exact Ne.symm (by assumption))]; first | assumption | exact upd_same))))⟩ | (first | assumption | exact upd_same | (rw [upd_ne (by first | assumption | exact Ne.symm (by assumption))]; first | assumption | exact upd_same | (rw [upd_ne (by first | assumption | exact Ne.symm (by assumption))]; first | assumption | exact upd_same))) | decide | exact Nat.le_of_ble_eq_true rfl | omega | (show ∃ xs, SqL _ _ _ xs; exact ⟨_, SqL.of (by (first | assumption | exact upd_same | (rw [upd_ne (by first | assumption | exact Ne.symm (by assumption))]; first | assumption | exact upd_same | (rw [upd_ne (by first | assumption | exact Ne.symm (by assumption))]; first | assumption | exact upd_same))))⟩) | (show ∃ xs, SqT _ _ _ xs; exact ⟨_, SqT.of (by (first | assumption | exact upd_same | (rw [upd_ne (by first | assumption | exact Ne.symm (by assumption))]; first | assumption | exact upd_same | (rw [upd_ne (by first | assumption | exact Ne.symm (by assumption))]; first | assumption | exact upd_same))))⟩) | exact DGet.k (k := Sum.inl _) (by (first | assumption | exact upd_same | (rw [upd_ne (by first | assumption | exact Ne.symm (by assumption))]; first | assumption | exact upd_same | (rw [upd_ne (by first | assumption | exact Ne.symm (by assumption))]; first | assumption | exact upd_same)))) | (show V.int _ = kV (Sum.inl _); rfl) | (show ∃ z, V.str _ = V.str z; exact ⟨_, rfl⟩) | exact Or.inl ⟨by (first | decide | omega), by (first | decide | omega)⟩ | exact Or.inr ⟨by (first | decide | omega), by (first | decide | omega)⟩ | exact ⟨by (first | decide | omega), by (first | decide | omega)⟩ | exact ⟨by decide, by decide, by decide⟩ | exact L2.ClsV.ty _ | exact Dt.ty (by assumption) | exact Dt.kint (by assumption) | exact Dt.kbool (by assumption) | exact Dt.ktuple (by assumption) | exact Dt.klist (by assumption) | exact Dt.kstr (by assumption))) | (apply Exists.intro; apply Exists.intro; apply Exists.intro; apply Exists.intro; apply Exists.intro; apply Exists.intro; apply And.intro; focus (first | rfl | assumption | exact upd_same | exact SqL.of (by (first | assumption | exact upd_same | (rw [upd_ne (by first | assumption | exact Ne.symm (by assumption))]; first | assumption | exact upd_same | (rw [upd_ne (by first | assumption | exact Ne.symm (by assumption))]; first | assumption | exact upd_same)))) | exact SqT.of (by (first | assumption | exact upd_same | (rw [upd_ne (by first | assumption | exact Ne.symm (by assumption))]; first | assumption | exact upd_same | (rw [upd_ne (by first | assumption | exact Ne.symm (by assumption))]; first | assumption | exact upd_same)))) | exact Or.inl (SqL.of (by (first | assumption | exact upd_same | (rw [upd_ne (by first | assumption | exact Ne.symm (by assumption))]; first | assumption | exact upd_same | (rw [upd_ne (by first | assumption | exact Ne.symm (by assumption))]; first | assumption | exact upd_same))))) | exact Or.inr (SqT.of (by (first | assumption | exact upd_same | (rw [upd_ne (by first | assumption | exact Ne.symm (by assumption))]; first | assumption | exact upd_same | (rw [upd_ne (by first | assumption | exact Ne.symm (by assumption))]; first | assumption | exact upd_same))))) | exact Or.inl ⟨rfl, _, SqL.of (by (first | assumption | exact upd_same | (rw [upd_ne (by first | assumption | exact Ne.symm (by assumption))]; first | assumption | exact upd_same | (rw [upd_ne (by first | assumption | exact Ne.symm (by assumption))]; first | assumption | exact upd_same))))⟩ | (first | assumption | exact upd_same | (rw [upd_ne (by first | assumption | exact Ne.symm (by assumption))]; first | assumption | exact upd_same | (rw [upd_ne (by first | assumption | exact Ne.symm (by assumption))]; first | assumption | exact upd_same))) | decide | exact Nat.le_of_ble_eq_true rfl | omega | (show ∃ xs, SqL _ _ _ xs; exact ⟨_, SqL.of (by (first | assumption | exact upd_same | (rw [upd_ne (by first | assumption | exact Ne.symm (by assumption))]; first | assumption | exact upd_same | (rw [upd_ne (by first | assumption | exact Ne.symm (by assumption))]; first | assumption | exact upd_same))))⟩) | (show ∃ xs, SqT _ _ _ xs; exact ⟨_, SqT.of (by (first | assumption | exact upd_same | (rw [upd_ne (by first | assumption | exact Ne.symm (by assumption))]; first | assumption | exact upd_same | (rw [upd_ne (by first | assumption | exact Ne.symm (by assumption))]; first | assumption | exact upd_same))))⟩) | exact DGet.k (k := Sum.inl _) (by (first | assumption | exact upd_same | (rw [upd_ne (by first | assumption | exact Ne.symm (by assumption))]; first | assumption | exact upd_same | (rw [upd_ne (by first | assumption | exact Ne.symm (by assumption))]; first | assumption | exact upd_same)))) | (show V.int _ = kV (Sum.inl _); rfl) | (show ∃ z, V.str _ = V.str z; exact ⟨_, rfl⟩) | exact Or.inl ⟨by (first | decide | omega), by (first | decide | omega)⟩ | exact Or.inr ⟨by (first | decide | omega), by (first | decide | omega)⟩ | exact ⟨by (first | decide | omega), by (first | decide | omega)⟩ | exact ⟨by decide, by decide, by decide⟩ | exact L2.ClsV.ty _ | exact Dt.ty (by assumption) | exact Dt.kint (by assumption) | exact Dt.kbool (by assumption) | exact Dt.ktuple (by assumption) | exact Dt.klist (by assumption) | exact Dt.kstr (by assumption))) | (apply Exists.intro; apply Exists.intro; apply Exists.intro; apply Exists.intro; apply Exists.intro; apply Exists.intro; apply Exists.intro; apply And.intro; focus (first | rfl | assumption | exact upd_same | exact SqL.of (by (first | assumption | exact upd_same | (rw [upd_ne (by first | assumption | exact Ne.symm (by assumption))]; first | assumption | exact upd_same | (rw [upd_ne (by first | assumption | exact Ne.symm (by assumption))]; first | assumption | exact upd_same)))) | exact SqT.of (by (first | assumption | exact upd_same | (rw [upd_ne (by first | assumption | exact Ne.symm (by assumption))]; first | assumption | exact upd_same | (rw [upd_ne (by first | assumption | exact Ne.symm (by assumption))]; first | assumption | exact upd_same)))) | exact Or.inl (SqL.of (by (first | assumption | exact upd_same | (rw [upd_ne (by first | assumption | exact Ne.symm (by assumption))]; first | assumption | exact upd_same | (rw [upd_ne (by first | assumption | exact Ne.symm (by assumption))]; first | assumption | exact upd_same))))) | exact Or.inr (SqT.of (by (first | assumption | exact upd_same | (rw [upd_ne (by first | assumption | exact Ne.symm (by assumption))]; first | assumption | exact upd_same | (rw [upd_ne (by first | assumption | exact Ne.symm (by assumption))]; first | assumption | exact upd_same))))) | exact Or.inl ⟨rfl, _, SqL.of (by (first | assumption | exact upd_same | (rw [upd_ne (by first | assumption | exact Ne.symm (by assumption))]; first | assumption | exact upd_same | (rw [upd_ne (by first | assumption | exact Ne.symm (by assumption))]; first | assumption | exact upd_same))))⟩ | (first | assumption | exact upd_same | (rw [upd_ne (by first | assumption | exact Ne.symm (by assumption))]; first | assumption | exact upd_same | (rw [upd_ne (by first | assumption | exact Ne.symm (by assumption))]; first | assumption | exact upd_same))) | decide | exact Nat.le_of_ble_eq_true rfl | omega | (show ∃ xs, SqL _ _ _ xs; exact ⟨_, SqL.of (by (first | assumption | exact upd_same | (rw [upd_ne (by first | assumption | exact Ne.symm (by assumption))]; first | assumption | exact upd_same | (rw [upd_ne (by first | assumption | exact Ne.symm (by assumption))]; first | assumption | exact upd_same))))⟩) | (show ∃ xs, SqT _ _ _ xs; exact ⟨_, SqT.of (by (first | assumption | exact upd_same | (rw [upd_ne (by first | assumption | exact Ne.symm (by assumption))]; first | assumption | exact upd_same | (rw [upd_ne (by first | assumption | exact Ne.symm (by assumption))]; first | assumption | exact upd_same))))⟩) | exact DGet.k (k := Sum.inl _) (by (first | assumption | exact upd_same | (rw [upd_ne (by first | assumption | exact Ne.symm (by assumption))]; first | assumption | exact upd_same | (rw [upd_ne (by first | assumption | exact Ne.symm (by assumption))]; first | assumption | exact upd_same)))) | (show V.int _ = kV (Sum.inl _); rfl) | (show ∃ z, V.str _ = V.str z; exact ⟨_, rfl⟩) | exact Or.inl ⟨by (first | decide | omega), by (first | decide | omega)⟩ | exact Or.inr ⟨by (first | decide | omega), by (first | decide | omega)⟩ | exact ⟨by (first | decide | omega), by (first | decide | omega)⟩ | exact ⟨by decide, by decide, by decide⟩ | exact L2.ClsV.ty _ | exact Dt.ty (by assumption) | exact Dt.kint (by assumption) | exact Dt.kbool (by assumption) | exact Dt.ktuple (by assumption) | exact Dt.klist (by assumption) | exact Dt.kstr (by assumption))) | (apply Exists.intro; apply Exists.intro; apply Exists.intro; apply Exists.intro; apply Exists.intro; apply Exists.intro; apply Exists.intro; apply Exists.intro; apply And.intro; focus (first | rfl | assumption | exact upd_same | exact SqL.of (by (first | assumption | exact upd_same | (rw [upd_ne (by first | assumption | exact Ne.symm (by assumption))]; first | assumption | exact upd_same | (rw [upd_ne (by first | assumption | exact Ne.symm (by assumption))]; first | assumption | exact upd_same)))) | exact SqT.of (by (first | assumption | exact upd_same | (rw [upd_ne (by first | assumption | exact Ne.symm (by assumption))]; first | assumption | exact upd_same | (rw [upd_ne (by first | assumption | exact Ne.symm (by assumption))]; first | assumption | exact upd_same)))) | exact Or.inl (SqL.of (by (first | assumption | exact upd_same | (rw [upd_ne (by first | assumption | exact Ne.symm (by assumption))]; first | assumption | exact upd_same | (rw [upd_ne (by first | assumption | exact Ne.symm (by assumption))]; first | assumption | exact upd_same))))) | exact Or.inr (SqT.of (by (first | assumption | exact upd_same | (rw [upd_ne (by first | assumption | exact Ne.symm (by assumption))]; first | assumption | exact upd_same | (rw [upd_ne (by first | assumption | exact Ne.symm (by assumption))]; first | assumption | exact upd_same))))) | exact Or.inl ⟨rfl, _, SqL.of (by (first | assumption | exact upd_same | (rw [upd_ne (by first | assumption | exact Ne.symm (by assumption))]; first | assumption | exact upd_same | (rw [upd_ne (by first | assumption | exact Ne.symm (by assumption))]; first | assumption | exact upd_same))))⟩ | (first | assumption | exact upd_same | (rw [upd_ne (by first | assumption | exact Ne.symm (by assumption))]; first | assumption | exact upd_same | (rw [upd_ne (by first | assumption | exact Ne.symm (by assumption))]; first | assumption | exact upd_same))) | decide | exact Nat.le_of_ble_eq_true rfl | omega | (show ∃ xs, SqL _ _ _ xs; exact ⟨_, SqL.of (by (first | assumption | exact upd_same | (rw [upd_ne (by first | assumption | exact Ne.symm (by assumption))]; first | assumption | exact upd_same | (rw [upd_ne (by first | assumption | exact Ne.symm (by assumption))]; first | assumption | exact upd_same))))⟩) | (show ∃ xs, SqT _ _ _ xs; exact ⟨_, SqT.of (by (first | assumption | exact upd_same | (rw [upd_ne (by first | assumption | exact Ne.symm (by assumption))]; first | assumption | exact upd_same | (rw [upd_ne (by first | assumption | exact Ne.symm (by assumption))]; first | assumption | exact upd_same))))⟩) | exact DGet.k (k := Sum.inl _) (by (first | assumption | exact upd_same | (rw [upd_ne (by first | assumption | exact Ne.symm (by assumption))]; first | assumption | exact upd_same | (rw [upd_ne (by first | assumption | exact Ne.symm (by assumption))]; first | assumption | exact upd_same)))) | (show V.int _ = kV (Sum.inl _); rfl) | (show ∃ z, V.str _ = V.str z; exact ⟨_, rfl⟩) | exact Or.inl ⟨by (first | decide | omega), by (first | decide | omega)⟩ | exact Or.inr ⟨by (first | decide | omega), by (first | decide | omega)⟩ | exact ⟨by (first | decide | omega), by (first | decide | omega)⟩ | exact ⟨by decide, by decide, by decide⟩ | exact L2.ClsV.ty _ | exact Dt.ty (by assumption) | exact Dt.kint (by assumption) | exact Dt.kbool (by assumption) | exact Dt.ktuple (by assumption) | exact Dt.klist (by assumption) | exact Dt.kstr (by assumption))) | (apply Exists.intro; apply Exists.intro; apply Exists.intro; apply Exists.intro; apply Exists.intro; apply Exists.intro; apply Exists.intro; apply Exists.intro; apply Exists.intro; apply And.intro; focus (first | rfl | assumption | exact upd_same | exact SqL.of (by (first | assumption | exact upd_same | (rw [upd_ne (by first | assumption | exact Ne.symm (by assumption))]; first | assumption | exact upd_same | (rw [upd_ne (by first | assumption | exact Ne.symm (by assumption))]; first | assumption | exact upd_same)))) | exact SqT.of (by (first | assumption | exact upd_same | (rw [upd_ne (by first | assumption | exact Ne.symm (by assumption))]; first | assumption | exact upd_same | (rw [upd_ne (by first | assumption | exact Ne.symm (by assumption))]; first | assumption | exact upd_same)))) | exact Or.inl (SqL.of (by (first | assumption | exact upd_same | (rw [upd_ne (by first | assumption | exact Ne.symm (by assumption))]; first | assumption | exact upd_same | (rw [upd_ne (by first | assumption | exact Ne.symm (by assumption))]; first | assumption | exact upd_same))))) | exact Or.inr (SqT.of (by (first | assumption | exact upd_same | (rw [upd_ne (by first | assumption | exact Ne.symm (by assumption))]; first | assumption | exact upd_same | (rw [upd_ne (by first | assumption | exact Ne.symm (by assumption))]; first | assumption | exact upd_same))))) | exact Or.inl ⟨rfl, _, SqL.of (by (first | assumption | exact upd_same | (rw [upd_ne (by first | assumption | exact Ne.symm (by assumption))]; first | assumption | exact upd_same | (rw [upd_ne (by first | assumption | exact Ne.symm (by assumption))]; first | assumption | exact upd_same))))⟩ | (first | assumption | exact upd_same | (rw [upd_ne (by first | assumption | exact Ne.symm (by assumption))]; first | assumption | exact upd_same | (rw [upd_ne (by first | assumption | exact Ne.symm (by assumption))]; first | assumption | exact upd_same))) | decide | exact Nat.le_of_ble_eq_true rfl | omega | (show ∃ xs, SqL _ _ _ xs; exact ⟨_, SqL.of (by (first | assumption | exact upd_same | (rw [upd_ne (by first | assumption | exact Ne.symm (by assumption))]; first | assumption | exact upd_same | (rw [upd_ne (by first | assumption | exact Ne.symm (by assumption))]; first | assumption | exact upd_same))))⟩) | (show ∃ xs, SqT _ _ _ xs; exact ⟨_, SqT.of (by (first | assumption | exact upd_same | (rw [upd_ne (by first | assumption | exact Ne.symm (by assumption))]; first | assumption | exact upd_same | (rw [upd_ne (by first | assumption | exact Ne.symm (by assumption))]; first | assumption | exact upd_same))))⟩) | exact DGet.k (k := Sum.inl _) (by (first | assumption | exact upd_same | (rw [upd_ne (by first | assumption | exact Ne.symm (by assumption))]; first | assumption | exact upd_same | (rw [upd_ne (by first | assumption | exact Ne.symm (by assumption))]; first | assumption | exact upd_same)))) | (show V.int _ = kV (Sum.inl _); rfl) | (show ∃ z, V.str _ = V.str z; exact ⟨_, rfl⟩) | exact Or.inl ⟨by (first | decide | omega), by (first | decide | omega)⟩ | exact Or.inr ⟨by (first | decide | omega), by (first | decide | omega)⟩ | exact ⟨by (first | decide | omega), by (first | decide | omega)⟩ | exact ⟨by decide, by decide, by decide⟩ | exact L2.ClsV.ty _ | exact Dt.ty (by assumption) | exact Dt.kint (by assumption) | exact Dt.kbool (by assumption) | exact Dt.ktuple (by assumption) | exact Dt.klist (by assumption) | exact Dt.kstr (by assumption))) | refine Or.inl ⟨_, rfl, ?_⟩ | refine Or.inr ⟨_, rfl, ?_⟩ | refine Or.inr ⟨SqT.of (by (first | assumption | exact upd_same | (rw [upd_ne (by first | assumption | exact Ne.symm (by assumption))]; first | assumption | exact upd_same | (rw [upd_ne (by first | assumption | exact Ne.symm (by assumption))]; first | assumption | exact upd_same)))), SqT.of (by (first | assumption | exact upd_same | (rw [upd_ne (by first | assumption | exact Ne.symm (by assumption))]; first | assumption | exact upd_same | (rw [upd_ne (by first | assumption | exact Ne.symm (by assumption))]; first | assumption | exact upd_same)))), ?_⟩ | refine Or.inl ⟨SqL.of (by (first | assumption | exact upd_same | (rw [upd_ne (by first | assumption | exact Ne.symm (by assumption))]; first | assumption | exact upd_same | (rw [upd_ne (by first | assumption | exact Ne.symm (by assumption))]; first | assumption | exact upd_same)))), SqL.of (by (first | assumption | exact upd_same | (rw [upd_ne (by first | assumption | exact Ne.symm (by assumption))]; first | assumption | exact upd_same | (rw [upd_ne (by first | assumption | exact Ne.symm (by assumption))]; first | assumption | exact upd_same)))), ?_⟩ | refine Or.inl ⟨SqL.of (by (first | assumption | exact upd_same | (rw [upd_ne (by first | assumption | exact Ne.symm (by assumption))]; first | assumption | exact upd_same | (rw [upd_ne (by first | assumption | exact Ne.symm (by assumption))]; first | assumption | exact upd_same)))), ?_⟩ | refine Or.inr ⟨SqT.of (by (first | assumption | exact upd_same | (rw [upd_ne (by first | assumption | exact Ne.symm (by assumption))]; first | assumption | exact upd_same | (rw [upd_ne (by first | assumption | exact Ne.symm (by assumption))]; first | assumption | exact upd_same)))), ?_⟩ | refine ifT rfl ?_ | refine ifF rfl ?_))
def spLSum : Sp := fun vs H Q _ => ∃ (a b : Addr) (ns ms : List Int), vs = [.ref a, .ref b] ∧ H a = some (.tup (ns.map V.int)) ∧ H b = some (.tup (ms.map V.int)) ∧ Sh ns ∧ Sh ms ∧ (∀ q ∈ ns, q ≤ 1000) ∧ (∀ q ∈ ms, q ≤ 1000) ∧ ns.length + ms.length ≤ 100000 ∧
  (addS 1000 ns ms = none → ∀ H', Same H H' → Q .non H') ∧ ∀ ks, addS 1000 ns ms = some ks → ∀ p H', Same H H' → H' p = some (.tup (ks.map V.int)) → Q (.ref p) H'
theorem Vs_one : ∀ j : Nat, Vs (mS [0]) (j + 1) = 2 ^ j
  | 0 => rfl
  | j + 1 => by
    rw [Vs, Vs_one j, Nat.pow_succ, show mS [0] ((j + 1 : Nat) : Int) = false from decide_eq_false (by simp; omega)]
    show 2 * 2 ^ j + 0 = _
    omega
theorem sh_one : Sh [0] := ⟨by simp, by simp, fun _ => rfl⟩
section
variable {P : Program} {w : World} {K : PySem.W.Frag} {mg : Str → Option Value} {base : Heap}
theorem d_law_sum (B : Bi mg) (F : FunAt K mg "_law_sum" s_law_sum) (D_law_worth : Has P w K mg base 1 "_law_worth" ["share", "top"] spWorth) (D_law_lot_of : Has P w K mg base 1 "_law_lot_of" ["worth", "top"] spLotOf) : Has P w K mg base 2 "_law_sum" ["one", "other"] spLSum := by
  refine mk_has F sc_law_sum (fun _ _ _ _ _ _ us hl => match us, hl with | [_, _], _ => rfl) (fun vs H Q E h => ?_) fun f cdv A outer s H vs Q E hr h => ?_
  · obtain ⟨a, b, ns, ms, rfl, _⟩ := h
    rfl
  obtain ⟨a, b, ns, ms, rfl, ea, eb, hns, hms, ln, lm, hl, k1, k2⟩ := h
  refine ⟨_, (pss_cons (ps_set (i := 2) sc_law_sum.nd rfl (Or.inl rfl) (pe_callB (cr_maxT rfl) rfl B.max (by decide +kernel) (pa_cons (pe_op op_catA (pe_op op_catA (pe_tup (pa_cons pe_int pa_nil)) (pv 0)) (pv 1)) pa_nil)))
    (pss_cons (ps_set (i := 3) sc_law_sum.nd rfl (Or.inl rfl) (pe_op op_add (pe_h D_law_worth (hr.mono (by decide)) rfl (pa_cons (pv 0) (pa_cons (pv 2) pa_nil))) (pe_h D_law_worth (hr.mono (by decide)) rfl (pa_cons (pv 1) (pa_cons (pv 2) pa_nil)))))
    (pss_cons (ps_if (pt_cmpR op_gt (pv 3) (pe_h D_law_worth (hr.mono (by decide)) rfl (pa_cons (pe_tup (pa_cons pe_int pa_nil)) (pa_cons (pv 2) pa_nil))) (nomark _))
    (pss_one (ps_ret pe_non))
    pss_nil)
    (pss_one (ps_ret (pe_h D_law_lot_of (hr.mono (by decide)) rfl (pa_cons (pv 3) (pa_cons (pv 2) pa_nil)))))))), ?_⟩
  trivial
  intro z nz
  have sz := same_new0 (o := .tup [.int 0]) nz
  have ea1 := sz _ _ ea
  have eb1 := sz _ _ eb
  trivial
  · simp; omega
  intro c H1 s1 ec
  have eb2 := s1 _ _ eb1
  trivial
  · simp; omega
  intro c2 H2 s2 ec2
  rw [show [V.int 0] ++ ns.map V.int ++ ms.map V.int = ((0 : Int) :: ns ++ ms).map V.int by simp] at ec2
  have sT := (sz.trans s1).trans s2
  have ea3 := sT _ _ ea
  have eb3 := sT _ _ eb
  trivial
  intro m hm hle
  obtain ⟨top, rfl⟩ : ∃ top : Nat, m = (top : Int) := ⟨m.toNat, by have := hle 0 (by simp); omega⟩
  have bn : Bd top ns := fun q hq => by have := hle q (by simp [hq]); omega
  have bm : Bd top ms := fun q hq => by have := hle q (by simp [hq]); omega
  have ht : top ≤ 1000 := by
    rcases (by simpa using hm : (top : Nat) = 0 ∨ (top : Int) ∈ ns ∨ (top : Int) ∈ ms) with z | z | z
    · omega
    · have := ln _ z; omega
    · have := lm _ z; omega
  have up : addS 1000 ns ms = addS top ns ms := by
    have := addS_up (n := top) (k := 1000 - top) bn bm
    rwa [show top + (1000 - top) = 1000 by omega] at this
  rw [up] at k1 k2
  have v1 := hns.le bn
  have v2 := hms.le bm
  refine ⟨_, rfl, _, rfl, a, ns, top, rfl, ea3, hns, ht, _, rfl, _, rfl, b, ms, top, rfl, eb3, hms, ht, _, _, rfl, rfl, ?_⟩
  trivial
  intro o no
  have so := same_new0 (o := .tup [.int 0]) no
  refine ⟨_, rfl, o, [0], top, rfl, upd_same, sh_one, ht, ?_⟩
  rw [Vs_one]
  trivial
  refine ite2 (fun c => ?_) (fun c => ?_)
  · have c' := of_decide_eq_true c
    have n1 : addS top ns ms = none := if_neg (by omega)
    trivial
    exact k1 n1 _ (sT.trans so)
  · have c' := of_decide_eq_false (Bool.eq_false_iff.mpr c)
    have n1 : addS top ns ms = some (lotV (top + 1) (Vs (mS ns) (top + 1) + Vs (mS ms) (top + 1))) := if_pos (by omega)
    have p2 : 0 < 2 ^ top := Nat.pow_pos (by decide)
    refine ⟨_, rfl, _, rfl, Vs (mS ns) (top + 1) + Vs (mS ms) (top + 1), top, rfl, by rw [Nat.pow_succ]; omega, ht, fun p H' s3 ep => ?_⟩
    exact k2 _ n1 p H' ((sT.trans so).trans s3) ep
theorem d_law_is_share (B : Bi mg) (F : FunAt K mg "_law_is_share" s_law_is_share) (D_law_number : Has P w K mg base 1 "_law_number" ["thing", "least", "most"] spLNum) : Has P w K mg base 2 "_law_is_share" ["thing"] (spTup shL) := by
  refine mk_has F sc_law_is_share (fun _ _ _ _ _ _ us hl => match us, hl with | [_], _ => rfl) (fun vs H Q E h => ?_) fun f cdv A outer s H vs Q E hr h => ?_
  · obtain ⟨v, rfl, _⟩ := h
    rfl
  obtain ⟨v, rfl, g, k⟩ := h
  obtain ⟨t, d⟩ := g.t
  refine ⟨_, (pss_cons (ps_if (PW.pt (pw_or (pt_not (pt_val (pe_callB call_isi rfl B.isinstance (by decide +kernel) (pa_cons (pv 0) (pa_cons (pe_bltn (v := .ty "tuple") rfl B.tuple (by decide +kernel) rfl) pa_nil))))) (pw_or1 (pt_not (pt_val (pe_callB (cr_all rfl) rfl B.all (by decide +kernel) (pa_cons (pe_lc (own := [("item", 1)]) (g := gName 1) (tt := tYes) (te := (tCall spLNum [] E0 (tCons (tVar 1) (tCons (tC (.int 0)) (tCons (tVar 1) tNil))))) rfl sc_law_is_share.nd (pi_tup (pv 0)) (blkOk_by (own := [("item", 1)]) (N := ["thing", "item", "one", "other"]) (sc := defScope s_law_is_share) (by decide +kernel)) (fun _ _ _ _ _ => (pg_name (i := 1) sc_law_is_share.nd rfl (Or.inl rfl))) (fun _ _ _ _ _ => pts_nil) (fun _ _ _ _ _ => (pe_h D_law_number (hr.mono (by decide)) rfl (pa_cons (pv 1) (pa_cons pe_int (pa_cons (pv 1) pa_nil)))))) pa_nil)))))))
    (pss_one (ps_ret pe_bl))
    pss_nil)
    (pss_cons (ps_if (pt_not (pt_val (pe_callB (cr_all rfl) rfl B.all (by decide +kernel) (pa_cons (pe_lc (own := [("one", 2), ("other", 3)]) (g := gTup K 2 (gCons (gName 2) (gCons (gName 3) gNil))) (tt := tYes) (te := (tOp (rI0 fun i j => .bl (decide (i < j))) (tVar 2) (tVar 3))) rfl sc_law_is_share.nd (RZ.pi_zipA rfl B.zip (pa_cons (pv 0) (pa_cons (pe_slice sl_tupA (pv 0) (po_some pe_int) po_none) pa_nil))) (blkOk_by (own := [("one", 2), ("other", 3)]) (N := ["thing", "item", "one", "other"]) (sc := defScope s_law_is_share) (by decide +kernel)) (fun _ _ _ _ _ => (pg_tup rfl (pgs_cons (pg_name (i := 2) sc_law_is_share.nd rfl (Or.inl rfl)) (pgs_cons (pg_name (i := 3) sc_law_is_share.nd rfl (Or.inl rfl)) pgs_nil)))) (fun _ _ _ _ _ => pts_nil) (fun _ _ _ _ _ => (pe_cmpR op_lt (pv 2) (pv 3) (nomark _)))) pa_nil))))
    (pss_one (ps_ret pe_bl))
    pss_nil)
    (pss_one (ps_ret (pe_or (pe_cmpR op_notIn_seq pe_int (pv 0) (by rfl)) (pe_one (pe_cmpR op_eq (pe_callB call_len_seq rfl B.len PySem.boot_len (pa_cons (pv 0) pa_nil)) pe_int (nomark _)))))))), ?_⟩
  by_cases ht : t = "tuple"
  · obtain ⟨a, xs, rfl, ea⟩ := d.tup_inv ht
    subst ht
    obtain ⟨hl, hx⟩ := g.xs a xs rfl ea
    rw [tupB_at ea] at k
    trivial
    intro D nD
    refine lc_map (walk_tup (xs := xs)) (xs.map fun x => V.bl (numV x)) (by simp) nD (by omega) (fun i H' _ s => SqT.of (s _ _ ea)) (fun i x H3 H4 Pn hi s2 y fin => ?_) fun H3 s2 e1 => ?_
    · obtain ⟨rfl, gx⟩ := y
      obtain ⟨tx, dx⟩ := hx x (List.mem_of_getElem? gx)
      have dx3 := dx.same s2
      refine ⟨rfl, _, rfl, _, rfl, x, x, tx, 0, intV x, rfl, dx3, fun i e => by rw [e]; rfl, ?_⟩
      refine fin _ _ ?_ (Same.refl _)
      rw [List.getElem?_map, gx]
      cases x <;> simp [betw, numV, intV]
    · have e2 : (xs.map fun x => V.bl (numV x)) = (xs.map numV).map V.bl := by rw [List.map_map]; rfl
      rw [e2] at e1
      have ea3 := s2 _ _ ea
      trivial
      have e3 : (List.map numV xs).all id = xs.all numV := by simp [List.all_map]
      rw [e3]
      have kf : ∀ {H' : Hp} {b : Bool}, Same H H' → shL xs = b → Q (.bl b) H' := fun s e => by rw [← e]; exact k _ s
      cases e4 : xs.all numV with
      | false =>
        trivial
        exact kf s2 (by rw [shL, e4, Bool.false_and, Bool.false_and])
      | true =>
        obtain ⟨ns, rfl⟩ : ∃ ns : List Int, xs = ns.map V.int := ⟨_, (nums_back e4).symm⟩
        have e5 : (ns.map V.int).map intV = ns := by rw [List.map_map]; exact List.map_id'' (fun _ => rfl) ns
        have hsl : shL (ns.map V.int) = (ascB ns && (decide (ns.length < 2) || decide (0 < intV ((ns.map V.int).headD .non)))) := by rw [shL, e4, e5, Bool.true_and, List.length_map]
        trivial
        intro b H4 s4 eb
        rw [cut1, ← List.map_drop] at eb
        have ea4 := s4 _ _ ea3
        trivial
        intro D2 nD2
        have e0 : min (ns.map V.int).length ((ns.drop 1).map V.int).length = ns.length - 1 := by simp
        refine lc_map (walk_zipT e0.symm) ((ns.zip ns.tail).map fun p => V.bl (decide (p.1 < p.2))) (by simp) nD2 (by simp at hl; omega) (fun i H' _ s => ⟨SqT.of (s _ _ ea4), SqT.of (s _ _ eb)⟩) (fun i x H5 H6 Pn hi s5 y fin => ?_) fun H5 s5 e6 => ?_
        · obtain ⟨T, x, z, rfl, nT, rfl, gx, gz⟩ := ypair y
          have i1 : i < ns.length := by omega
          have i2 : i < ns.tail.length := by simp; omega
          have i3 : i < (ns.drop 1).length := by simp; omega
          obtain rfl : x = .int ns[i] := by rw [List.getElem?_map, List.getElem?_eq_getElem i1] at gx; exact (Option.some.inj gx).symm
          obtain rfl : z = .int ns.tail[i] := by
            rw [List.getElem?_map, List.getElem?_eq_getElem i3] at gz
            rw [← Option.some.inj gz]
            simp
          trivial
          exact fin _ _ (by rw [List.getElem?_map, List.getElem?_eq_getElem (by simp; omega)]; simp) (same_new0 nT)
        · have e7 : ((ns.zip ns.tail).map fun p => V.bl (decide (p.1 < p.2))) = ((ns.zip ns.tail).map fun p => decide (p.1 < p.2)).map V.bl := by rw [List.map_map]; rfl
          rw [e7] at e6
          have ea5 := s5 _ _ ea4
          have sT := (s2.trans s4).trans s5
          trivial
          have e8 : (List.map (fun p => decide (p.fst < p.snd)) (ns.zip ns.tail)).all id = ascB ns := by simp [ascB, List.all_map, Function.comp_def]
          rw [e8]
          cases e9 : ascB ns with
          | false =>
            trivial
            exact kf sT (by rw [hsl, e9, Bool.false_and])
          | true =>
            trivial
            refine ⟨flat_ints, ?_⟩
            rw [if_pos rfl, inV_int]
            have nn : ∀ q ∈ ns, 0 ≤ q := by simpa [numV] using e4
            have as := ascB_iff.mp e9
            rw [e9, Bool.true_and] at hsl
            cases e10 : decide ((0 : Int) ∈ ns) with
            | false =>
              have n0 := of_decide_eq_false e10
              trivial
              refine kf sT (hsl.trans ?_)
              match ns, nn, n0 with
              | [], _, _ => rfl
              | x :: r, nn, n0 =>
                have a := nn x (List.mem_cons_self ..)
                have b : x ≠ 0 := fun z => n0 (by rw [z]; exact List.mem_cons_self ..)
                have : 0 < x := by omega
                simp [intV, this]
            | true =>
              have n0 := of_decide_eq_true e10
              trivial
              refine kf sT (hsl.trans ?_)
              match ns, nn, n0, as with
              | [x], _, _, _ => rfl
              | x :: y :: r, nn, n0, as =>
                have a := nn x (List.mem_cons_self ..)
                have b : x = 0 := by
                  rcases List.mem_cons.mp n0 with e | e
                  · exact e.symm
                  · have := (List.pairwise_cons.mp as).1 0 e
                    omega
                subst b
                simp [intV]
                omega
  · rw [tupB_no d ht] at k
    trivial
    rw [show isTy "tuple" t = false by simp [isTy, ht]]
    trivial
    exact k H (Same.refl H)
end
end KQ
set_option Elab.async false
set_option maxRecDepth 100000
set_option maxHeartbeats 4000000
namespace KQ
open PySem PySem.Spec PyProof.Rows L2
local macro_rules | `(tactic| trivial) => `(tactic| repeat (first | refine sl_go (by (first | assumption | exact upd_same | (rw [upd_ne (by first | assumption | exact Ne.symm (by assumption))]; first | assumption | exact upd_same | (rw [upd_ne (by first | assumption | exact Ne.symm (by assumption))]; first | assumption | exact upd_same)))) ?_ | (unfold tNoPart; refine sl_go (by (first | assumption | exact upd_same | (rw [upd_ne (by first | assumption | exact Ne.symm (by assumption))]; first | assumption | exact upd_same | (rw [upd_ne (by first | assumption | exact Ne.symm (by assumption))]; first | assumption | exact upd_same)))) ?_) | refine cat_go (by (first | assumption | exact upd_same | (rw [upd_ne (by first | assumption | exact Ne.symm (by assumption))]; first | assumption | exact upd_same | (rw [upd_ne (by first | assumption | exact Ne.symm (by assumption))]; first | assumption | exact upd_same)))) (by (first | assumption | exact upd_same | (rw [upd_ne (by first | assumption | exact Ne.symm (by assumption))]; first | assumption | exact upd_same | (rw [upd_ne (by first | assumption | exact Ne.symm (by assumption))]; first | assumption | exact upd_same)))) ?_ ?_ | (apply And.intro; focus (first | rfl | assumption | exact upd_same | exact SqL.of (by (first | assumption | exact upd_same | (rw [upd_ne (by first | assumption | exact Ne.symm (by assumption))]; first | assumption | exact upd_same | (rw [upd_ne (by first | assumption | exact Ne.symm (by assumption))]; first | assumption | exact upd_same)))) | exact SqT.of (by (first | assumption | exact upd_same | (rw [upd_ne (by first | assumption | exact Ne.symm (by assumption))]; first | assumption | exact upd_same | (rw [upd_ne (by first | assumption | exact Ne.symm (by assumption))]; first | assumption | exact upd_same)))) | exact Or.inl (SqL.of (by (first | assumption | exact upd_same | (rw [upd_ne (by first | assumption | exact Ne.symm (by assumption))]; first | assumption | exact upd_same | (rw [upd_ne (by first | assumption | exact Ne.symm (by assumption))]; first | assumption | exact upd_same))))) | exact Or.inr (SqT.of (by (first | assumption | exact upd_same | (rw [upd_ne (by first | assumption | exact Ne.symm (by assumption))]; first | assumption | exact upd_same | (rw [upd_ne (by first | assumption | exact Ne.symm (by assumption))]; first | assumption | exact upd_same))))) | exact Or.inl ⟨rfl, _, SqL.of (by (first | assumption | exact upd_same | (rw [upd_ne (by first | assumption | exact Ne.symm (by assumption))]; first | assumption | exact upd_same | (rw [upd_ne (by first | assumption | exact Ne.symm (by assumption))]; first | assumption | exact upd_same))))⟩ | (first | assumption | exact upd_same | (rw [upd_ne (by first | assumption | exact Ne.symm (by assumption))]; first | assumption | exact upd_same | (rw [upd_ne (by first | assumption | exact Ne.symm (by assumption))]; first | assumption | exact upd_same))) | decide | exact Nat.le_of_ble_eq_true rfl | omega | (show ∃ xs, SqL _ _ _ xs; exact ⟨_, SqL.of (by (first | assumption | exact upd_same | (rw [upd_ne (by first | assumption | exact Ne.symm (by assumption))]; first | assumption | exact upd_same | (rw [upd_ne (by first | assumption | exact Ne.symm (by assumption))]; first | assumption | exact upd_same))))⟩) | (show ∃ xs, SqT _ _ _ xs; exact ⟨_, SqT.of (by (first | assumption | exact upd_same | (rw [upd_ne (by first | assumption | exact Ne.symm (by assumption))]; first | assumption | exact upd_same | (rw [upd_ne (by first | assumption | exact Ne.symm (by assumption))]; first | assumption | exact upd_same))))⟩) | exact DGet.k (k := Sum.inl _) (by (first | assumption | exact upd_same | (rw [upd_ne (by first | assumption | exact Ne.symm (by assumption))]; first | assumption | exact upd_same | (rw [upd_ne (by first | assumption | exact Ne.symm (by assumption))]; first | assumption | exact upd_same)))) | (show V.int _ = kV (Sum.inl _); rfl) | (show ∃ z, V.str _ = V.str z; exact ⟨_, rfl⟩) | exact Or.inl ⟨by (first | decide | omega), by (first | decide | omega)⟩ | exact Or.inr ⟨by (first | decide | omega), by (first | decide | omega)⟩ | exact ⟨by (first | decide | omega), by (first | decide | omega)⟩ | exact ⟨by decide, by decide, by decide⟩ | exact L2.ClsV.ty _ | exact Dt.ty (by assumption) | exact Dt.kint (by assumption) | exact Dt.kbool (by assumption) | exact Dt.ktuple (by assumption) | exact Dt.klist (by assumption) | exact Dt.kstr (by assumption))) | (apply Exists.intro; apply And.intro; focus (first | rfl | assumption | exact upd_same | exact SqL.of (by (first | assumption | exact upd_same | (rw [upd_ne (by first | assumption | exact Ne.symm (by assumption))]; first | assumption | exact upd_same | (rw [upd_ne (by first | assumption | exact Ne.symm (by assumption))]; first | assumption | exact upd_same)))) | exact SqT.of (by (first | assumption | exact upd_same | (rw [upd_ne (by first | assumption | exact Ne.symm (by assumption))]; first | assumption | exact upd_same | (rw [upd_ne (by first | assumption | exact Ne.symm (by assumption))]; first | assumption | exact upd_same)))) | exact Or.inl (SqL.of (by (first | assumption | exact upd_same | (rw [upd_ne (by first | assumption | exact Ne.symm (by assumption))]; first | assumption | exact upd_same | (rw [upd_ne (by first | assumption | exact Ne.symm (by assumption))]; first | assumption | exact upd_same))))) | exact Or.inr (SqT.of (by (first | assumption | exact upd_same | (rw [upd_ne (by first | assumption | exact Ne.symm (by assumption))]; first | assumption | exact upd_same | (rw [upd_ne (by first | assumption | exact Ne.symm (by assumption))]; first | assumption | exact upd_same))))) | exact Or.inl ⟨rfl, _, SqL.of (by (first | assumption | exact upd_same | (rw [upd_ne (by first | assumption | exact Ne.symm (by assumption))]; first | assumption | exact upd_same | (rw [upd_ne (by first | assumption | exact Ne.symm (by assumption))]; first | assumption | exact upd_same))))⟩ | (first | assumption | exact upd_same | (rw [upd_ne (by first | assumption | exact Ne.symm (by assumption))]; first | assumption | exact upd_same | (rw [upd_ne (by first | assumption | exact Ne.symm (by assumption))]; first | assumption | exact upd_same))) | decide | exact Nat.le_of_ble_eq_true rfl | omega | (show ∃ xs, SqL _ _ _ xs; exact ⟨_, SqL.of (by (first | assumption | exact upd_same | (rw [upd_ne (by first | assumption | exact Ne.symm (by assumption))]; first | assumption | exact upd_same | (rw [upd_ne (by first | assumption | exact Ne.symm (by assumption))]; first | assumption | exact upd_same))))⟩) | (show ∃ xs, SqT _ _ _ xs; exact ⟨_, SqT.of (by (first | assumption | exact upd_same | (rw [upd_ne (by first | assumption | exact Ne.symm (by assumption))]; first | assumption | exact upd_same | (rw [upd_ne (by first | assumption | exact Ne.symm (by assumption))]; first | assumption | exact upd_same))))⟩) | exact DGet.k (k := Sum.inl _) (by (first | assumption | exact upd_same | (rw [upd_ne (by first | assumption | exact Ne.symm (by assumption))]; first | assumption | exact upd_same | (rw [upd_ne (by first | assumption | exact Ne.symm (by assumption))]; first | assumption | exact upd_same)))) | (show V.int _ = kV (Sum.inl _); rfl) | (show ∃ z, V.str _ = V.str z; exact ⟨_, rfl⟩) | exact Or.inl ⟨by (first | decide | omega), by (first | decide | omega)⟩ | exact Or.inr ⟨by (first | decide | omega), by (first | decide | omega)⟩ | exact ⟨by (first | decide | omega), by (first | decide | omega)⟩ | exact ⟨by decide, by decide, by decide⟩ | exact L2.ClsV.ty _ | exact Dt.ty (by assumption) | exact Dt.kint (by assumption) | exact Dt.kbool (by assumption) | exact Dt.ktuple (by assumption) | exact Dt.klist (by assumption) | exact Dt.kstr (by assumption))) | (apply Exists.intro; apply Exists.intro; apply And.intro; focus (first | rfl | assumption | exact upd_same | exact SqL.of (by (first | assumption | exact upd_same | (rw [upd_ne (by first | assumption | exact Ne.symm (by assumption))]; first | assumption | exact upd_same | (rw [upd_ne (by first | assumption | exact Ne.symm (by assumption))]; first | assumption | exact upd_same)))) | exact SqT.of (by (first | assumption | exact upd_same | (rw [upd_ne (by first | assumption | exact Ne.symm (by assumption))]; first | assumption | exact upd_same | (rw [upd_ne (by first | assumption | exact Ne.symm (by assumption))]; first | assumption | exact upd_same)))) | exact Or.inl (SqL.of (by (first | assumption | exact upd_same | (rw [upd_ne (by first | assumption | exact Ne.symm (by assumption))]; first | assumption | exact upd_same | (rw [upd_ne (by first | assumption | exact Ne.symm (by assumption))]; first | assumption | exact upd_same))))) | exact Or.inr (SqT.of (by (first | assumption | exact upd_same | (rw [upd_ne (by first | assumption | exact Ne.symm (by assumption))]; first | assumption | exact upd_same | (rw [upd_ne (by first | assumption | exact Ne.symm (by assumption))]; first | assumption | exact upd_same))))) | exact Or.inl ⟨rfl, _, SqL.of (by (first | assumption | exact upd_same | (rw [upd_ne (by first | assumption | exact Ne.symm (by assumption))]; first | assumption | exact upd_same | (rw [upd_ne (by first | assumption | exact Ne.symm (by assumption))]; first | assumption | exact upd_same))))⟩ | (first | assumption | exact upd_same | (rw [upd_ne (by first | assumption | exact Ne.symm (by assumption))]; first | assumption | exact upd_same | (rw [upd_ne (by first | assumption | exact Ne.symm (by assumption))]; first | assumption | exact upd_same))) | decide | exact Nat.le_of_ble_eq_true rfl | omega | (show ∃ xs, SqL _ _ _ xs; exact ⟨_, SqL.of (by (first | assumption | exact upd_same | (rw [upd_ne (by first | assumption | exact Ne.symm (by assumption))]; first | assumption | exact upd_same | (rw [upd_ne (by first | assumption | exact Ne.symm (by assumption))]; first | assumption | exact upd_same))))⟩) | (show ∃ xs, SqT _ _ _ xs; exact ⟨_, SqT.of (by (first | assumption | exact upd_same | (rw [upd_ne (by first | assumption | exact Ne.symm (by assumption))]; first | assumption | exact upd_same | (rw [upd_ne (by first | assumption | exact Ne.symm (by assumption))]; first | assumption | exact upd_same))))⟩) | exact DGet.k (k := Sum.inl _) (by (first | assumption | exact upd_same | (rw [upd_ne (by first | assumption | exact Ne.symm (by assumption))]; first | assumption | exact upd_same | (rw [upd_ne (by first | assumption | exact Ne.symm (by assumption))]; first | assumption | exact upd_same)))) | (show V.int _ = kV (Sum.inl _); rfl) | (show ∃ z, V.str _ = V.str z; exact ⟨_, rfl⟩) | exact Or.inl ⟨by (first | decide | omega), by (first | decide | omega)⟩ | exact Or.inr ⟨by (first | decide | omega), by (first | decide | omega)⟩ | exact ⟨by (first | decide | omega), by (first | decide | omega)⟩ | exact ⟨by decide, by decide, by decide⟩ | exact L2.ClsV.ty _ | exact Dt.ty (by assumption) | exact Dt.kint (by assumption) | exact Dt.kbool (by assumption) | exact Dt.ktuple (by assumption) | exact Dt.klist (by assumption) | exact Dt.kstr (by assumption))) | (apply Exists.intro; apply Exists.intro; apply Exists.intro; apply And.intro; focus (first | rfl | assumption | exact upd_same | exact SqL.of (by (first | assumption | exact upd_same | (rw [upd_ne (by first | assumption | exact Ne.symm (by assumption))]; first | assumption | exact upd_same | (rw [upd_ne (by first | assumption | exact Ne.symm (by assumption))]; first | assumption | exact upd_same)))) | exact SqT.of (by (first | assumption | exact upd_same | (rw [upd_ne (by first | assumption | exact Ne.symm (by assumption))]; first | assumption | exact upd_same | (rw [upd_ne (by first | assumption | exact Ne.symm (by assumption))]; first | assumption | exact upd_same)))) | exact Or.inl (SqL.of (by (first | assumption | exact upd_same | (rw [upd_ne (by first | assumption | exact Ne.symm (by assumption))]; first | assumption | exact upd_same | (rw [upd_ne (by first | assumption | exact Ne.symm (by assumption))]; first | assumption | exact upd_same))))) | exact Or.inr (SqT.of (by (first | assumption | exact upd_same | (rw [upd_ne (by first | assumption | exact Ne.symm (by assumption))]; first | assumption | exact upd_same | (rw [upd_ne (by first | assumption | exact Ne.symm (by assumption))]; first | assumption | exact upd_same))))) | exact Or.inl ⟨rfl, _, SqL.of (by (first | assumption | exact upd_same | (rw [upd_ne (by first | assumption | exact Ne.symm (by assumption))]; first | assumption | exact upd_same | (rw [upd_ne (by first | assumption | exact Ne.symm (by assumption))]; first | assumption | exact upd_same))))⟩ | (first | assumption | exact upd_same | (rw [upd_ne (by first | assumption | exact Ne.symm (by assumption))]; first | assumption | exact upd_same | (rw [upd_ne (by first | assumption | exact Ne.symm (by assumption))]; first | assumption | exact upd_same))) | decide | exact Nat.le_of_ble_eq_true rfl | omega | (show ∃ xs, SqL _ _ _ xs; exact ⟨_, SqL.of (by (first | assumption | exact upd_same | (rw [upd_ne (by first | assumption | exact Ne.symm (by assumption))]; first | assumption | exact upd_same | (rw [upd_ne (by first | assumption | exact Ne.symm (by assumption))]; first | assumption | exact upd_same))))⟩) | (show ∃ xs, SqT _ _ _ xs; exact ⟨_, SqT.of (by (first | assumption | exact upd_same | (rw [upd_ne (by first | assumption | exact Ne.symm (by assumption))]; first | assumption | exact upd_same | (rw [upd_ne (by first | assumption | exact Ne.symm (by assumption))]; first | assumption | exact upd_same))))⟩) | exact DGet.k (k := Sum.inl _) (by (first | assumption | exact upd_same | (rw [upd_ne (by first | assumption | exact Ne.symm (by assumption))]; first | assumption | exact upd_same | (rw [upd_ne (by first | assumption | exact Ne.symm (by assumption))]; first | assumption | exact upd_same)))) | (show V.int _ = kV (Sum.inl _); rfl) | (show ∃ z, V.str _ = V.str z; exact ⟨_, rfl⟩) | exact Or.inl ⟨by (first | decide | omega), by (first | decide | omega)⟩ | exact Or.inr ⟨by (first | decide | omega), by (first | decide | omega)⟩ | exact ⟨by (first | decide | omega), by (first | decide | omega)⟩ | exact ⟨by decide, by decide, by decide⟩ | exact L2.ClsV.ty _ | exact Dt.ty (by assumption) | exact Dt.kint (by assumption) | exact Dt.kbool (by assumption) | exact Dt.ktuple (by assumption) | exact Dt.klist (by assumption) | exact Dt.kstr (by assumption))) | (apply Exists.intro; apply Exists.intro; apply Exists.intro; apply Exists.intro; apply And.intro; focus (first | rfl | assumption | exact upd_same | exact SqL.of (by (first | assumption | exact upd_same | (rw [upd_ne (by first | assumption | exact Ne.symm (by assumption))]; first | assumption | exact upd_same | (rw [upd_ne (by first | assumption | exact Ne.symm (by assumption))]; first | assumption | exact upd_same)))) | exact SqT.of (by (first | assumption | exact upd_same | (rw [upd_ne (by first | assumption | exact Ne.symm (by assumption))]; first | assumption | exact upd_same | (rw [upd_ne (by first | assumption | exact Ne.symm (by assumption))]; first | assumption | exact upd_same)))) | exact Or.inl (SqL.of (by (first | assumption | exact upd_same | (rw [upd_ne (by first | assumption | exact Ne.symm (by assumption))]; first | assumption | exact upd_same | (rw [upd_ne (by first | assumption | exact Ne.symm (by assumption))]; first | assumption | exact upd_same))))) | exact Or.inr (SqT.of (by (first | assumption | exact upd_same | (rw [upd_ne (by first | assumption | exact Ne.symm (by assumption))]; first | assumption | exact upd_same | (rw [upd_ne (by first | assumption | exact Ne.symm (by assumption))]; first | assumption | exact upd_same))))) | exact Or.inl ⟨rfl, _, SqL.of (by (first | assumption | exact upd_same | (rw [upd_ne (by first | assumption | exact Ne.symm (by assumption))]; first | assumption | exact upd_same | (rw [upd_ne (by first | assumption | exact Ne.symm (by assumption))]; first | assumption | exact upd_same))))⟩ | (first | assumption | exact upd_same | (rw [upd_ne (by first | assumption | exact Ne.symm (by assumption))]; first | assumption | exact upd_same | (rw [upd_ne (by first | assumption | exact Ne.symm (by assumption))]; first | assumption | exact upd_same))) | decide | exact Nat.le_of_ble_eq_true rfl | omega | (show ∃ xs, SqL _ _ _ xs; exact ⟨_, SqL.of (by (first | assumption | exact upd_same | (rw [upd_ne (by first | assumption | exact Ne.symm (by assumption))]; first | assumption | exact upd_same | (rw [upd_ne (by first | assumption | exact Ne.symm (by assumption))]; first | assumption | exact upd_same))))⟩) | (show ∃ xs, SqT _ _ _ xs; exact ⟨_, SqT.of (by (first | assumption | exact upd_same | (rw [upd_ne (by first | assumption | exact Ne.symm (by assumption))]; first | assumption | exact upd_same | (rw [upd_ne (by first | assumption | exact Ne.symm (by assumption))]; first | assumption | exact upd_same))))⟩) | exact DGet.k (k := Sum.inl _) (by (first | assumption | exact upd_same | (rw [upd_ne (by first | assumption | exact Ne.symm (by assumption))]; first | assumption | exact upd_same | (rw [upd_ne (by first | assumption | exact Ne.symm (by assumption))]; first | assumption | exact upd_same)))) | (show V.int _ = kV (Sum.inl _); rfl) | (show ∃ z, V.str _ = V.str z; exact ⟨_, rfl⟩) | exact Or.inl ⟨by (first | decide | omega), by (first | decide | omega)⟩ | exact Or.inr ⟨by (first | decide | omega), by (first | decide | omega)⟩ | exact ⟨by (first | decide | omega), by (first | decide | omega)⟩ | exact ⟨by decide, by decide, by decide⟩ | exact L2.ClsV.ty _ | exact Dt.ty (by assumption) | exact Dt.kint (by assumption) | exact Dt.kbool (by assumption) | exact Dt.ktuple (by assumption) | exact Dt.klist (by assumption) | exact Dt.kstr (by assumption))) | (apply Exists.intro; apply Exists.intro; apply Exists.intro; apply Exists.intro; apply Exists.intro; apply And.intro; focus (first | rfl | assumption | exact upd_same | exact SqL.of (by (first | assumption | exact upd_same | (rw [upd_ne (by first | assumption | exact Ne.symm (by assumption))]; first | assumption | exact upd_same | (rw [upd_ne (by first | assumption | exact Ne.symm (by assumption))]; first | assumption | exact upd_same)))) | exact SqT.of (by (first | assumption | exact upd_same | (rw [upd_ne (by first | assumption | exact Ne.symm (by assumption))]; first | assumption | exact upd_same | (rw [upd_ne (by first | assumption | exact Ne.symm (by assumption))]; first | assumption | exact upd_same)))) | exact Or.inl (SqL.of (by (first | assumption | exact upd_same | (rw [upd_ne (by first | assumption | exact Ne.symm (by assumption))]; first | assumption | exact upd_same | (rw [upd_ne (by first | assumption | exact Ne.symm (by assumption))]; first | assumption | exact upd_same))))) | exact Or.inr (SqT.of (by (first | assumption | exact upd_same | (rw [upd_ne (by first | assumption | exact Ne.symm (by assumption))]; first | assumption | exact upd_same | (rw [upd_ne (by first | assumption | exact Ne.symm (by assumption))]; first | assumption | exact upd_same))))) | exact Or.inl ⟨rfl, _, SqL.of (by (first | assumption | exact upd_same | (rw [upd_ne (by first | assumption | exact Ne.symm (by assumption))]; first | assumption | exact upd_same | (rw [upd_ne (by first | assumption | exact Ne.symm (by assumption))]; first | assumption | exact upd_same))))⟩ | (first | assumption | exact upd_same | (rw [upd_ne (by first | assumption | exact Ne.symm (by assumption))]; first | assumption | exact upd_same | (rw [upd_ne (by first | assumption | exact Ne.symm (by assumption))]; first | assumption | exact upd_same))) | decide | exact Nat.le_of_ble_eq_true rfl | omega | (show ∃ xs, SqL _ _ _ xs; exact ⟨_, SqL.of (by (first | assumption | exact upd_same | (rw [upd_ne (by first | assumption | exact Ne.symm (by assumption))]; first | assumption | exact upd_same | (rw [upd_ne (by first | assumption | exact Ne.symm (by assumption))]; first | assumption | exact upd_same))))⟩) | (show ∃ xs, SqT _ _ _ xs; exact ⟨_, SqT.of (by (first | assumption | exact upd_same | (rw [upd_ne (by first | assumption | exact Ne.symm (by assumption))]; first | assumption | exact upd_same | (rw [upd_ne (by first | assumption | exact Ne.symm (by assumption))]; first | assumption | exact upd_same))))⟩) | exact DGet.k (k := Sum.inl _) (by (first | assumption | exact upd_same | (rw [upd_ne (by first | assumption | exact Ne.symm (by assumption))]; first | assumption | exact upd_same | (rw [upd_ne (by first | assumption | exact Ne.symm (by assumption))]; first | assumption | exact upd_same)))) | (show V.int _ = kV (Sum.inl _); rfl) | (show ∃ z, V.str _ = V.str z; exact ⟨_, rfl⟩) | exact Or.inl ⟨by (first | decide | omega), by (first | decide | omega)⟩ | exact Or.inr ⟨by (first | decide | omega), by (first | decide | omega)⟩ | exact ⟨by (first | decide | omega), by (first | decide | omega)⟩ | exact ⟨by decide, by decide, by decide⟩ | exact L2.ClsV.ty _ | exact Dt.ty (by assumption) | exact Dt.kint (by assumption) | exact Dt.kbool (by assumption) | exact Dt.ktuple (by assumption) | exact Dt.klist (by assumption) | exact Dt.kstr (by assumption))) | (apply Exists.intro; apply Exists.intro; apply Exists.intro; apply Exists.intro; apply Exists.intro; apply Exists.intro; apply And.intro; focus (first | rfl | assumption | exact upd_same | exact SqL.of (by (first | assumption | exact upd_same | (rw [upd_ne (by first | assumption | exact Ne.symm (by assumption))]; first | assumption | exact upd_same | (rw [upd_ne (by first | assumption | exact Ne.symm (by assumption))]; first | assumption | exact upd_same)))) | exact SqT.of (by (first | assumption | exact upd_same | (rw [upd_ne (by first | assumption | exact Ne.symm (by assumption))]; first | assumption | exact upd_same | (rw [upd_ne (by first | assumption | exact Ne.symm (by assumption))]; first | assumption | exact upd_same)))) | exact Or.inl (SqL.of (by (first | assumption | exact upd_same | (rw [upd_ne (by first | assumption | exact Ne.symm (by assumption))]; first | assumption | exact upd_same | (rw [upd_ne (by first | assumption | exact Ne.symm (by assumption))]; first | assumption | exact upd_same))))) | exact Or.inr (SqT.of (by (first | assumption | exact upd_same | (rw [upd_ne (by first | assumption | exact Ne.symm (by assumption))]; first | assumption | exact upd_same | (rw [upd_ne (by first | assumption | exact Ne.symm (by assumption))]; first | assumption | exact upd_same))))) | exact Or.inl ⟨rfl, _, SqL.of (by (first | assumption | exact upd_same | (rw [upd_ne (by first | assumption | exact Ne.symm (by assumption))]; first | assumption | exact upd_same | (rw [upd_ne (by first | assumption | exact Ne.symm (by assumption))]; first | assumption | exact upd_same))))⟩ | (first | assumption | exact upd_same | (rw [upd_ne (by first | assumption | exact Ne.symm (by assumption))]; first | assumption | exact upd_same | (rw [upd_ne (by first | assumption | exact Ne.symm (by assumption))]; first | assumption | exact upd_same))) | decide | exact Nat.le_of_ble_eq_true rfl | omega | (show ∃ xs, SqL _ _ _ xs; exact ⟨_, SqL.of (by (first | assumption | exact upd_same | (rw [upd_ne (by first | assumption | exact Ne.symm (by assumption))]; first | assumption | exact upd_same | (rw [upd_ne (by first | assumption | exact Ne.symm (by assumption))]; first | assumption | exact upd_same))))⟩) | (show ∃ xs, SqT _ _ _ xs; exact ⟨_, SqT.of (by (first | assumption | exact upd_same | (rw [upd_ne (by first | assumption | exact Ne.symm (by assumption))]; first | assumption | exact upd_same | (rw [upd_ne (by first | assumption | exact Ne.symm (by assumption))]; first | assumption | exact upd_same))))⟩) | exact DGet.k (k := Sum.inl _) (by (first | assumption | exact upd_same | (rw [upd_ne (by first | assumption | exact Ne.symm (by assumption))]; first | assumption | exact upd_same | (rw [upd_ne (by first | assumption | exact Ne.symm (by assumption))]; first | assumption | exact upd_same)))) | (show V.int _ = kV (Sum.inl _); rfl) | (show ∃ z, V.str _ = V.str z; exact ⟨_, rfl⟩) | exact Or.inl ⟨by (first | decide | omega), by (first | decide | omega)⟩ | exact Or.inr ⟨by (first | decide | omega), by (first | decide | omega)⟩ | exact ⟨by (first | decide | omega), by (first | decide | omega)⟩ | exact ⟨by decide, by decide, by decide⟩ | exact L2.ClsV.ty _ | exact Dt.ty (by assumption) | exact Dt.kint (by assumption) | exact Dt.kbool (by assumption) | exact Dt.ktuple (by assumption) | exact Dt.klist (by assumption) | exact Dt.kstr (by assumption))) | (apply Exists.intro; apply Exists.intro; apply Exists.intro; apply Exists.intro; apply Exists.intro; apply Exists.intro; apply Exists.intro; apply And.intro; focus (first | rfl | assumption | exact upd_same | exact SqL.of (by (first | assumption | exact upd_same | (rw [upd_ne (by first | assumption | exact Ne.symm (by assumption))]; first | assumption | exact upd_same | (rw [upd_ne (by first | assumption | exact Ne.symm (by assumption))]; first | assumption | exact upd_same)))) | exact SqT.of (by (first | assumption | exact upd_same | (rw [upd_ne (by first | assumption | exact Ne.symm (by assumption))]; first | assumption | exact upd_same | (rw [upd_ne (by first | assumption | exact Ne.symm (by assumption))]; first | assumption | exact upd_same)))) | exact Or.inl (SqL.of (by (first | assumption | exact upd_same | (rw [upd_ne (by first | assumption | exact Ne.symm (by assumption))]; first | assumption | exact upd_same | (rw [upd_ne (by first | assumption | exact Ne.symm (by assumption))]; first | assumption | exact upd_same))))) | exact Or.inr (SqT.of (by (first | assumption | exact upd_same | (rw [upd_ne (by first | assumption | exact Ne.symm (by assumption))]; first | assumption | exact upd_same | (rw [upd_ne (by first | assumption | exact Ne.symm (by assumption))]; first | assumption | exact upd_same))))) | exact Or.inl ⟨rfl, _, SqL.of (by (first | assumption | exact upd_same | (rw [upd_ne (by first | assumption | exact Ne.symm (by assumption))]; first | assumption | exact upd_same | (rw [upd_ne (by first | assumption | exact Ne.symm (by assumption))]; first | assumption | exact upd_same))))⟩ | (first | assumption | exact upd_same | (rw [upd_ne (by first | assumption | exact Ne.symm (by assumption))]; first | assumption | exact upd_same | (rw [upd_ne (by first | assumption | exact Ne.symm (by assumption))]; first | assumption | exact upd_same))) | decide | exact Nat.le_of_ble_eq_true rfl | omega | (show ∃ xs, SqL _ _ _ xs; exact ⟨_, SqL.of (by (first | assumption | exact upd_same | (rw [upd_ne (by first | assumption | exact Ne.symm (by assumption))]; first | assumption | exact upd_same | (rw [upd_ne (by first | assumption | exact Ne.symm (by assumption))]; first | assumption | exact upd_same))))⟩) | (show ∃ xs, SqT _ _ _ xs; exact ⟨_, SqT.of (by (first | assumption | exact upd_same | (rw [upd_ne (by first | assumption | exact Ne.symm (by assumption))]; first | assumption | exact upd_same | (rw [upd_ne (by first | assumption | exact Ne.symm (by assumption))]; first | assumption | exact upd_same))))⟩) | exact DGet.k (k := Sum.inl _) (by (first | assumption | exact upd_same | (rw [upd_ne (by first | assumption | exact Ne.symm (by assumption))]; first | assumption | exact upd_same | (rw [upd_ne (by first | assumption | exact Ne.symm (by assumption))]; first | assumption | exact upd_same)))) | (show V.int _ = kV (Sum.inl _); rfl) | (show ∃ z, V.str _ = V.str z; exact ⟨_, rfl⟩) | exact Or.inl ⟨by (first | decide | omega), by (first | decide | omega)⟩ | exact Or.inr ⟨by (first | decide | omega), by (first | decide | omega)⟩ | exact ⟨by (first | decide | omega), by (first | decide | omega)⟩ | exact ⟨by decide, by decide, by decide⟩ | exact L2.ClsV.ty _ | exact Dt.ty (by assumption) | exact Dt.kint (by assumption) | exact Dt.kbool (by assumption) | exact Dt.ktuple (by assumption) | exact Dt.klist (by assumption) | exact Dt.kstr (by assumption))) | (apply Exists.intro; apply Exists.intro; apply Exists.intro; apply Exists.intro; apply Exists.intro; apply Exists.intro; apply Exists.intro; apply Exists.intro; apply And.intro; focus (first | rfl | assumption | exact upd_same | exact SqL.of (by (first | assumption | exact upd_same | (rw [upd_ne (by first | assumption | exact Ne.symm (by assumption))]; first | assumption | exact upd_same | (rw [upd_ne (by first | assumption | exact Ne.symm (by assumption))]; first | assumption | exact upd_same)))) | exact SqT.of (by (first | assumption | exact upd_same | (rw [upd_ne (by first | assumption | exact Ne.symm (by assumption))]; first | assumption | exact upd_same | (rw [upd_ne (by first | assumption | exact Ne.symm (by assumption))]; first | assumption | exact upd_same)))) | exact Or.inl (SqL.of (by (first | assumption | exact upd_same | (rw [upd_ne (by first | assumption | exact Ne.symm (by assumption))]; first | assumption | exact upd_same | (rw [upd_ne (by first | assumption | exact Ne.symm (by assumption))]; first | assumption | exact upd_same))))) | exact Or.inr (SqT.of (by (first | assumption | exact upd_same | (rw [upd_ne (by first | assumption | exact Ne.symm (by assumption))]; first | assumption | exact upd_same | (rw [upd_ne (by first | assumption | exact Ne.symm (by assumption))]; first | assumption | exact upd_same))))) | exact Or.inl ⟨rfl, _, SqL.of (by (first | assumption | exact upd_same | (rw [upd_ne (by first | assumption | exact Ne.symm (by assumption))]; first | assumption | exact upd_same | (rw [upd_ne (by first | assumption | exact Ne.symm (by assumption))]; first | assumption | exact upd_same))))⟩ | (first | assumption | exact upd_same | (rw [upd_ne (by first | assumption | exact Ne.symm (by assumption))]; first | assumption | exact upd_same | (rw [upd_ne (by first | assumption | exact Ne.symm (by assumption))]; first | assumption | exact upd_same))) | decide | exact Nat.le_of_ble_eq_true rfl | omega | (show ∃ xs, SqL _ _ _ xs; exact ⟨_, SqL.of (by (first | assumption | exact upd_same | (rw [upd_ne (by first | assumption | exact Ne.symm (by assumption))]; first | assumption | exact upd_same | (rw [upd_ne (by first | assumption | exact Ne.symm (by assumption))]; first | assumption | exact upd_same))))⟩) | (show ∃ xs, SqT _ _ _ xs; exact ⟨_, SqT.of (by (first | assumption | exact upd_same | (rw [upd_ne (by first | assumption | exact Ne.symm (by assumption))]; first | assumption | exact upd_same | (rw [upd_ne (by first | assumption | exact Ne.symm (by assumption))]; first | assumption | exact upd_same))))⟩) | exact DGet.k (k := Sum.inl _) (by (first | assumption | exact upd_same | (rw [upd_ne (by first | assumption | exact Ne.symm (by assumption))]; first | assumption | exact upd_same | (rw [upd_ne (by first | assumption | exact Ne.symm (by assumption))]; first | assumption | exact upd_same)))) | (show V.int _ = kV (Sum.inl _); rfl) | (show ∃ z, V.str _ = V.str z; exact ⟨_, rfl⟩) | exact Or.inl ⟨by (first | decide | omega), by (first | decide | omega)⟩ | exact Or.inr ⟨by (first | decide | omega), by (first | decide | omega)⟩ | exact ⟨by (first | decide | omega), by (first | decide | omega)⟩ | exact ⟨by decide, by decide, by decide⟩ | exact L2.ClsV.ty _ | exact Dt.ty (by assumption) | exact Dt.kint (by assumption) | exact Dt.kbool (by assumption) | exact Dt.ktuple (by assumption) | exact Dt.klist (by assumption) | exact Dt.kstr (by assumption))) | (apply Exists.intro; apply Exists.intro; apply Exists.intro; apply Exists.intro; apply Exists.intro; apply Exists.intro; apply Exists.intro; apply Exists.intro; apply Exists.intro; apply And.intro; focus (first | rfl | assumption | exact upd_same | exact SqL.of (by (first | assumption | exact upd_same | (rw [upd_ne (by first | assumption | exact Ne.symm (by assumption))]; first | assumption | exact upd_same | (rw [upd_ne (by first | assumption | exact Ne.symm (by assumption))]; first | assumption | exact upd_same)))) | exact SqT.of (by (first | assumption | exact upd_same | (rw [upd_ne (by first | assumption | exact Ne.symm (by assumption))]; first | assumption | exact upd_same | (rw [upd_ne (by first | assumption | exact Ne.symm (by assumption))]; first | assumption | exact upd_same)))) | exact Or.inl (SqL.of (by (first | assumption | exact upd_same | (rw [upd_ne (by first | assumption | exact Ne.symm (by assumption))]; first | assumption | exact upd_same | (rw [upd_ne (by first | assumption | exact Ne.symm (by assumption))]; first | assumption | exact upd_same))))) | exact Or.inr (SqT.of (by (first | assumption | exact upd_same | (rw [upd_ne (by first | assumption | exact Ne.symm (by assumption))]; first | assumption | exact upd_same | (rw [upd_ne (by first | assumption | exact Ne.symm (by assumption))]; first | assumption | exact upd_same))))) | exact Or.inl ⟨rfl, _, SqL.of (by (first | assumption | exact upd_same | (rw [upd_ne (by first | assumption | exact Ne.symm (by assumption))]; first | assumption | exact upd_same | (rw [upd_ne (by first | assumption | exact Ne.symm (by assumption))]; first | assumption | exact upd_same))))⟩ | (first | assumption | exact upd_same | (rw [upd_ne (by first | assumption | exact Ne.symm (by assumption))]; first | assumption | exact upd_same | (rw [upd_ne (by first | assumption | exact Ne.symm (by assumption))]; first | assumption | exact upd_same))) | decide | exact Nat.le_of_ble_eq_true rfl | omega | (show ∃ xs, SqL _ _ _ xs; exact ⟨_, SqL.of (by (first | assumption | exact upd_same | (rw [upd_ne (by first | assumption | exact Ne.symm (by assumption))]; first | assumption | exact upd_same | (rw [upd_ne (by first | assumption | exact Ne.symm (by assumption))]; first | assumption | exact upd_same))))⟩) | (show ∃ xs, SqT _ _ _ xs; exact ⟨_, SqT.of (by (first | assumption | exact upd_same | (rw [upd_ne (by first | assumption | exact Ne.symm (by assumption))]; first | assumption | exact upd_same | (rw [upd_ne (by first | assumption | exact Ne.symm (by assumption))]; first | assumption | exact upd_same))))⟩) | exact DGet.k (k := Sum.inl _) (by (first | assumption | exact upd_same | (rw [upd_ne (by first | assumption | exact Ne.symm (by assumption))]; first | assumption | exact upd_same | (rw [upd_ne (by first | assumption | exact Ne.symm (by assumption))]; first | assumption | exact upd_same)))) | (show V.int _ = kV (Sum.inl _); rfl) | (show ∃ z, V.str _ = V.str z; exact ⟨_, rfl⟩) | exact Or.inl ⟨by (first | decide | omega), by (first | decide | omega)⟩ | exact Or.inr ⟨by (first | decide | omega), by (first | decide | omega)⟩ | exact ⟨by (first | decide | omega), by (first | decide | omega)⟩ | exact ⟨by decide, by decide, by decide⟩ | exact L2.ClsV.ty _ | exact Dt.ty (by assumption) | exact Dt.kint (by assumption) | exact Dt.kbool (by assumption) | exact Dt.ktuple (by assumption) | exact Dt.klist (by assumption) | exact Dt.kstr (by assumption))) | refine Or.inl ⟨_, rfl, ?_⟩ | refine Or.inr ⟨_, rfl, ?_⟩ | refine Or.inr ⟨SqT.of (by (first | assumption | exact upd_same | (rw [upd_ne (by first | assumption | exact Ne.symm (by assumption))]; first | assumption | exact upd_same | (rw [upd_ne (by first | assumption | exact Ne.symm (by assumption))]; first | assumption | exact upd_same)))), SqT.of (by (first | assumption | exact upd_same | (rw [upd_ne (by first | assumption | exact Ne.symm (by assumption))]; first | assumption | exact upd_same | (rw [upd_ne (by first | assumption | exact Ne.symm (by assumption))]; first | assumption | exact upd_same)))), ?_⟩ | refine Or.inl ⟨SqL.of (by (first | assumption | exact upd_same | (rw [upd_ne (by first | assumption | exact Ne.symm (by assumption))]; first | assumption | exact upd_same | (rw [upd_ne (by first | assumption | exact Ne.symm (by assumption))]; first | assumption | exact upd_same)))), SqL.of (by (first | assumption | exact upd_same | (rw [upd_ne (by first | assumption | exact Ne.symm (by assumption))]; first | assumption | exact upd_same | (rw [upd_ne (by first | assumption | exact Ne.symm (by assumption))]; first | assumption | exact upd_same)))), ?_⟩ | refine Or.inl ⟨SqL.of (by (first | assumption | exact upd_same | (rw [upd_ne (by first | assumption | exact Ne.symm (by assumption))]; first | assumption | exact upd_same | (rw [upd_ne (by first | assumption | exact Ne.symm (by assumption))]; first | assumption | exact upd_same)))), ?_⟩ | refine Or.inr ⟨SqT.of (by (first | assumption | exact upd_same | (rw [upd_ne (by first | assumption | exact Ne.symm (by assumption))]; first | assumption | exact upd_same | (rw [upd_ne (by first | assumption | exact Ne.symm (by assumption))]; first | assumption | exact upd_same)))), ?_⟩ | refine ifT rfl ?_ | refine ifF rfl ?_))
theorem tYes_ok' {σ : L2.St} {H : Hp} {Q : Bool → Hp → Prop} (h : Q true H) : tYes σ H Q := h
theorem HandOk.upd' {H : Hp} {h l D : Addr} {o : HO} (k : HandOk H h l) (n1 : D ≠ h) (n2 : D ≠ l) : HandOk (upd H D o) h l := by
  obtain ⟨xs, i, b, s, c, h1, h2, r⟩ := k
  exact ⟨xs, i, b, s, c, by rw [upd_ne n1.symm]; exact h1, by rw [upd_ne n2.symm]; exact h2, r⟩
theorem nodup_le2 {α : Type} [DecidableEq α] : ∀ {l l' : List α}, l.Nodup → (∀ x ∈ l, x ∈ l') → l.length ≤ l'.length
  | [], _, _, _ => Nat.zero_le _
  | x :: l, l', nd, h => by
    obtain ⟨nx, nd⟩ := List.nodup_cons.mp nd
    have m := h x (List.mem_cons_self ..)
    have ih := nodup_le2 (l' := l'.erase x) nd fun y hy => (List.mem_erase_of_ne (fun e => nx (by rw [← e]; exact hy))).mpr (h y (List.mem_cons_of_mem _ hy))
    rw [List.length_erase_of_mem m] at ih
    have := List.length_pos_of_mem m
    simp only [List.length_cons]
    omega
/-- a small share -/
structure SmS (ns : List Int) : Prop where
  sh : Sh ns
  l : ns.length ≤ 5
  b : ∀ q ∈ ns, q ≤ 200
def spDrawnS : Sp := fun vs H Q _ => ∃ h l : Addr, vs = [.ref h] ∧ HandOk H h l ∧ ∀ (a : Addr) (ns : List Int) (H' : Hp), SmS ns → H' a = some (.tup (ns.map V.int)) → HandOk H' h l → Kp (Nh h) H H' → Q (.ref a) H'
/-- the places from 1 up to i that are among these -/
def places (fs : List Int) (i : Nat) : List Int := ((List.range i).map fun (j : Nat) => (1 : Int) + (j : Int)).filter fun q => decide (q ∈ fs)
theorem places_succ {fs : List Int} {i : Nat} : places fs (i + 1) = places fs i ++ if decide ((1 : Int) + (i : Int) ∈ fs) = true then [(1 : Int) + (i : Int)] else [] := by
  unfold places
  rw [List.range_succ, List.map_append, List.filter_append]
  congr 1
  simp only [List.map_cons, List.map_nil, List.filter_cons, List.filter_nil]
theorem places_asc (fs : List Int) (i : Nat) : (places fs i).Pairwise (· < ·) := by
  refine List.Pairwise.filter _ (List.pairwise_map.mpr (List.Pairwise.imp (fun h => by omega) List.pairwise_lt_range))
theorem places_mem {fs : List Int} {i : Nat} {q : Int} (h : q ∈ places fs i) : 1 ≤ q ∧ q ≤ i ∧ q ∈ fs := by
  obtain ⟨h1, h2⟩ := List.mem_filter.mp h
  obtain ⟨j, hj, rfl⟩ := List.mem_map.mp h1
  have := List.mem_range.mp hj
  exact ⟨by omega, by omega, of_decide_eq_true h2⟩
theorem places_sm {fs : List Int} {i : Nat} (hi : i ≤ 200) (hf : fs.length ≤ 5) : SmS (places fs i) := by
  refine ⟨⟨fun q hq => by have := (places_mem hq).1; omega, places_asc fs i, fun z => by have := (places_mem z).1; omega⟩, ?_, fun q hq => by have := (places_mem hq).2.1; omega⟩
  refine Nat.le_trans (nodup_le2 (List.Pairwise.imp (fun h => by omega) (places_asc fs i)) fun x hx => (places_mem hx).2.2) hf
theorem places_len (fs : List Int) (i : Nat) : (places fs i).length ≤ i := by
  refine Nat.le_trans (List.length_filter_le _ _) (by simp)
section
variable {P : Program} {w : World} {K : PySem.W.Frag} {mg : Str → Option Value} {base : Heap}
theorem d_law_drawn_share (B : Bi mg) (F : FunAt K mg "_law_drawn_share" s_law_drawn_share) (D_law_draw : Has P w K mg base 1 "_law_draw" ["hand", "many"] spTake) : Has P w K mg base 2 "_law_drawn_share" ["hand"] spDrawnS := by
  refine mk_has F sc_law_drawn_share (fun _ _ _ _ _ _ us hl => match us, hl with | [_], _ => rfl) (fun vs H Q E h => ?_) fun f cdv A outer s H vs Q E hr h => ?_
  · obtain ⟨h, l, rfl, _⟩ := h
    rfl
  obtain ⟨h, l, rfl, ho, k⟩ := h
  refine ⟨_, (pss_cons (ps_if (pt_cmpR op_eq (pe_h D_law_draw (hr.mono (by decide)) rfl (pa_cons (pv 0) (pa_cons pe_int pa_nil))) pe_int (nomark _))
    (pss_one (ps_ret (pe_tup (pa_cons pe_int pa_nil))))
    pss_nil)
    (pss_cons (ps_set (i := 1) sc_law_drawn_share.nd rfl (Or.inr rfl) (pe_ix ix_list (pe_lst (pa_cons pe_int (pa_cons pe_int (pa_cons pe_int (pa_cons pe_int pa_nil))))) (pe_h D_law_draw (hr.mono (by decide)) rfl (pa_cons (pv 0) (pa_cons pe_int pa_nil))) (fun _ _ => rfl)))
    (pss_cons (ps_set (i := 2) sc_law_drawn_share.nd rfl (Or.inr rfl) (pe_lc (own := [("turn", 3)]) (g := gName 3) (tt := tYes) (te := (tOp (rI0 fun i j => .int (i + j)) (tC (.int 1)) (tCall spTake [] E0 (tCons (tVar 0) (tCons (tVar 1) tNil))))) rfl sc_law_drawn_share.nd (pi_range1 rfl B.range (pa_cons (pe_op op_add pe_int (pe_h D_law_draw (hr.mono (by decide)) rfl (pa_cons (pv 0) (pa_cons pe_int pa_nil)))) pa_nil)) (blkOk_by (own := [("turn", 3)]) (N := ["hand", "most", "found", "turn", "place"]) (sc := defScope s_law_drawn_share) (by decide +kernel)) (fun _ _ _ _ _ => (pg_name (i := 3) sc_law_drawn_share.nd rfl (Or.inl rfl))) (fun _ _ _ _ _ => pts_nil) (fun _ _ _ _ _ => (pe_op op_add pe_int (pe_h D_law_draw (hr.mono (by decide)) rfl (pa_cons (pv 0) (pa_cons (pv 1) pa_nil)))))))
    (pss_one (ps_ret (pe_callTy call_tuple_of rfl B.tuple (by decide +kernel) (pa_cons (pe_lc (own := [("place", 4)]) (g := gName 4) (tt := (tTest (tOp (rIn K false) (tVar 4) (tVar 2)))) (te := (tVar 4)) rfl sc_law_drawn_share.nd (pi_range2 rfl B.range (pa_cons pe_int (pa_cons (pe_op op_add (pv 1) pe_int) pa_nil))) (blkOk_by (own := [("place", 4)]) (N := ["hand", "most", "found", "turn", "place"]) (sc := defScope s_law_drawn_share) (by decide +kernel)) (fun _ _ _ _ _ => (pg_name (i := 4) sc_law_drawn_share.nd rfl (Or.inl rfl))) (fun _ _ _ _ _ => (pts_one (pt_cmpR op_in_seq (pv 4) (pv 2) (by rfl)))) (fun _ _ _ _ _ => (pv 4))) pa_nil))))))), ?_⟩
  trivial
  intro r H1 r0 r1 ho1 hk1
  have k1 : Kp (Nh h) H H1 := Kp.hand hk1
  trivial
  refine ite2 (fun c => ?_) (fun c => ?_)
  · trivial
    intro p np
    exact k p [0] _ ⟨sh_one, by simp, by simp⟩ upd_same (ho1.new np) (k1.hn np)
  trivial
  intro p np
  have hop := ho1.new (o := .lst [.int 4, .int 4, .int 12, .int 200]) np
  have kp1 := k1.hn (o := .lst [.int 4, .int 4, .int 12, .int 200]) np
  have nph := ho1.ne np
  trivial
  intro r2 H2 r20 r21 ho2 hk2
  have ep : H2 p = some (.lst [.int 4, .int 4, .int 12, .int 200]) := (hk2 p nph).trans upd_same
  obtain ⟨m, hm, m1, m2⟩ : ∃ m : Nat, atI [V.int 4, .int 4, .int 12, .int 200] r2 = some (.int (m : Int)) ∧ 1 ≤ m ∧ m ≤ 200 := by
    rcases (show r2 = 0 ∨ r2 = 1 ∨ r2 = 2 ∨ r2 = 3 by omega) with rfl | rfl | rfl | rfl
    · exact ⟨4, rfl, by decide, by decide⟩
    · exact ⟨4, rfl, by decide, by decide⟩
    · exact ⟨12, rfl, by decide, by decide⟩
    · exact ⟨200, rfl, by decide, by decide⟩
  have k2 : Kp (Nh h) H H2 := kp1.trans (Kp.hand hk2)
  trivial
  intro r3 H3 r30 r31 ho3 hk3
  have k3 : Kp (Nh h) H H3 := k2.trans (Kp.hand hk3)
  trivial
  intro D nD
  have nDh := ho3.ne nD
  have nDl := ho3.ne0 nD
  have kD : ∀ {H' : Hp} {o : HO}, Kp (Nh h) H3 H' → Kp (Nh h) H3 (upd H' D o) := fun k a o e n => by
    rw [upd_ne (ne_of_none e nD)]
    exact k a o e n
  refine lc_it walk_range (fun i H' => HandOk H' h l ∧ Kp (Nh h) H3 H' ∧ ∃ fs : List Int, H' D = some (.lst (fs.map V.int)) ∧ fs.length = i) ⟨ho3.new nD, kD Kp.refl, [], upd_same, rfl⟩ (fun _ _ _ _ => trivial) (fun i x H4 H5 hi q y => ?_) fun H4 q => ?_
  · obtain ⟨ho4, k4, fs, eD, hl⟩ := q
    obtain ⟨rfl, rfl⟩ := y
    refine ⟨rfl, tYes_ok' ?_⟩
    rw [if_pos rfl]
    refine ⟨_, rfl, _, rfl, h, l, _, rfl, ho4, by omega, by omega, ?_⟩
    intro r5 H5 r50 r51 ho5 hk5
    trivial
    have eD5 : H5 D = some (.lst (fs.map V.int)) := (hk5 D nDh).trans eD
    refine ⟨_, eD5, by rw [sizeLine_eq, List.length_map]; omega, ho5.upd' nDh nDl, kD (k4.trans (Kp.hand hk5)), fs ++ [1 + r5], by rw [upd_same, List.map_append]; rfl, by simp [hl]⟩
  · obtain ⟨ho4, k4, fs, eD, hl⟩ := q
    have hf : fs.length ≤ 5 := by omega
    trivial
    intro D2 nD2
    have nDD : D ≠ D2 := ne_of_none eD nD2
    refine lc_acc walk_range (fun i => (places fs i).map V.int) (fun _ _ => True) (fun _ => False) (fun z => z) nD2 (fun i hi => ?_) (by simp [places]) trivial (fun _ _ _ _ _ => trivial) (fun _ _ _ _ _ => trivial) (fun i x H6 H7 Pn hi k6 e6 _ y fin no => ?_) fun H6 k6 e6 _ => ?_
    · have := places_len fs i
      rw [sizeLine_eq, List.length_map]
      omega
    · obtain ⟨rfl, rfl⟩ := y
      have eD6 := k6 _ _ eD (fun z => z)
      trivial
      refine ⟨flat_ints, ?_⟩
      rw [if_neg Bool.false_ne_true]
      have ps := places_succ (fs := fs) (i := i)
      rw [inV_int]
      cases e9 : decide ((1 : Int) + (i : Int) ∈ fs) with
      | true =>
        rw [e9, if_pos rfl] at ps
        trivial
        exact fin _ _ (by rw [ps, List.map_append]; rfl) Kp.refl (by exact True.intro)
      | false =>
        rw [e9, if_neg Bool.false_ne_true, List.append_nil] at ps
        trivial
        exact no _ (by rw [ps]) Kp.refl (by exact True.intro)
    · trivial
      intro p2 n2
      have hs := places_sm (i := ((m : Int) + 1 - 1).toNat) (by omega) hf
      have kk : Kp (Nh h) H H4 := k3.trans k4
      have k46 : Kp (Nh h) H4 H6 := fun a o e _ => k6 a o e fun z => z
      have ho6 : HandOk H6 h l := ho4.same (same_kpF k6)
      exact k p2 _ _ hs upd_same (ho6.new n2) ((kk.trans k46).hn n2)
end
end KQ
set_option Elab.async false
set_option maxRecDepth 100000
set_option maxHeartbeats 4000000
namespace KQ
open PySem PySem.Spec PyProof.Rows L2
local macro_rules | `(tactic| trivial) => `(tactic| repeat (first | refine sl_go (by (first | assumption | exact upd_same | (rw [upd_ne (by first | assumption | exact Ne.symm (by assumption))]; first | assumption | exact upd_same | (rw [upd_ne (by first | assumption | exact Ne.symm (by assumption))]; first | assumption | exact upd_same)))) ?_ | (unfold tNoPart; refine sl_go (by (first | assumption | exact upd_same | (rw [upd_ne (by first | assumption | exact Ne.symm (by assumption))]; first | assumption | exact upd_same | (rw [upd_ne (by first | assumption | exact Ne.symm (by assumption))]; first | assumption | exact upd_same)))) ?_) | refine cat_go (by (first | assumption | exact upd_same | (rw [upd_ne (by first | assumption | exact Ne.symm (by assumption))]; first | assumption | exact upd_same | (rw [upd_ne (by first | assumption | exact Ne.symm (by assumption))]; first | assumption | exact upd_same)))) (by (first | assumption | exact upd_same | (rw [upd_ne (by first | assumption | exact Ne.symm (by assumption))]; first | assumption | exact upd_same | (rw [upd_ne (by first | assumption | exact Ne.symm (by assumption))]; first | assumption | exact upd_same)))) ?_ ?_ | (apply And.intro; focus (first | rfl | assumption | exact upd_same | exact SqL.of (by (first | assumption | exact upd_same | (rw [upd_ne (by first | assumption | exact Ne.symm (by assumption))]; first | assumption | exact upd_same | (rw [upd_ne (by first | assumption | exact Ne.symm (by assumption))]; first | assumption | exact upd_same)))) | exact SqT.of (by (first | assumption | exact upd_same | (rw [upd_ne (by first | assumption | exact Ne.symm (by assumption))]; first | assumption | exact upd_same | (rw [upd_ne (by first | assumption | exact Ne.symm (by assumption))]; first | assumption | exact upd_same)))) | exact Or.inl (SqL.of (by (first | assumption | exact upd_same | (rw [upd_ne (by first | assumption | exact Ne.symm (by assumption))]; first | assumption | exact upd_same | (rw [upd_ne (by first | assumption | exact Ne.symm (by assumption))]; first | assumption | exact upd_same))))) | exact Or.inr (SqT.of (by (first | assumption | exact upd_same | (rw [upd_ne (by first | assumption | exact Ne.symm (by assumption))]; first | assumption | exact upd_same | (rw [upd_ne (by first | assumption | exact Ne.symm (by assumption))]; first | assumption | exact upd_same))))) | exact Or.inl ⟨rfl, _, SqL.of (by (first | assumption | exact upd_same | (rw [upd_ne (by first | assumption | exact Ne.symm (by assumption))]; first | assumption | exact upd_same | (rw [upd_ne (by first | assumption | exact Ne.symm (by assumption))]; first | assumption | exact upd_same))))⟩ | (first | assumption | exact upd_same | (rw [upd_ne (by first | assumption | exact Ne.symm (by assumption))]; first | assumption | exact upd_same | (rw [upd_ne (by first | assumption | exact Ne.symm (by assumption))]; first | assumption | exact upd_same))) | decide | exact Nat.le_of_ble_eq_true rfl | omega | (show ∃ xs, SqL _ _ _ xs; exact ⟨_, SqL.of (by (first | assumption | exact upd_same | (rw [upd_ne (by first | assumption | exact Ne.symm (by assumption))]; first | assumption | exact upd_same | (rw [upd_ne (by first | assumption | exact Ne.symm (by assumption))]; first | assumption | exact upd_same))))⟩) | (show ∃ xs, SqT _ _ _ xs; exact ⟨_, SqT.of (by (first | assumption | exact upd_same | (rw [upd_ne (by first | assumption | exact Ne.symm (by assumption))]; first | assumption | exact upd_same | (rw [upd_ne (by first | assumption | exact Ne.symm (by assumption))]; first | assumption | exact upd_same))))⟩) | exact DGet.k (k := Sum.inl _) (by (first | assumption | exact upd_same | (rw [upd_ne (by first | assumption | exact Ne.symm (by assumption))]; first | assumption | exact upd_same | (rw [upd_ne (by first | assumption | exact Ne.symm (by assumption))]; first | assumption | exact upd_same)))) | (show V.int _ = kV (Sum.inl _); rfl) | (show ∃ z, V.str _ = V.str z; exact ⟨_, rfl⟩) | exact Or.inl ⟨by (first | decide | omega), by (first | decide | omega)⟩ | exact Or.inr ⟨by (first | decide | omega), by (first | decide | omega)⟩ | exact ⟨by (first | decide | omega), by (first | decide | omega)⟩ | exact ⟨by decide, by decide, by decide⟩ | exact L2.ClsV.ty _ | exact Dt.ty (by assumption) | exact Dt.kint (by assumption) | exact Dt.kbool (by assumption) | exact Dt.ktuple (by assumption) | exact Dt.klist (by assumption) | exact Dt.kstr (by assumption))) | (apply Exists.intro; apply And.intro; focus (first | rfl | assumption | exact upd_same | exact SqL.of (by (first | assumption | exact upd_same | (rw [upd_ne (by first | assumption | exact Ne.symm (by assumption))]; first | assumption | exact upd_same | (rw [upd_ne (by first | assumption | exact Ne.symm (by assumption))]; first | assumption | exact upd_same)))) | exact SqT.of (by (first | assumption | exact upd_same | (rw [upd_ne (by first | assumption | exact Ne.symm (by assumption))]; first | assumption | exact upd_same | (rw [upd_ne (by first | assumption | exact Ne.symm (by assumption))]; first | assumption | exact upd_same)))) | exact Or.inl (SqL.of (by (first | assumption | exact upd_same | (rw [upd_ne (by first | assumption | exact Ne.symm (by assumption))]; first | assumption | exact upd_same | (rw [upd_ne (by first | assumption | exact Ne.symm (by assumption))]; first | assumption | exact upd_same))))) | exact Or.inr (SqT.of (by (first | assumption | exact upd_same | (rw [upd_ne (by first | assumption | exact Ne.symm (by assumption))]; first | assumption | exact upd_same | (rw [upd_ne (by first | assumption | exact Ne.symm (by assumption))]; first | assumption | exact upd_same))))) | exact Or.inl ⟨rfl, _, SqL.of (by (first | assumption | exact upd_same | (rw [upd_ne (by first | assumption | exact Ne.symm (by assumption))]; first | assumption | exact upd_same | (rw [upd_ne (by first | assumption | exact Ne.symm (by assumption))]; first | assumption | exact upd_same))))⟩ | (first | assumption | exact upd_same | (rw [upd_ne (by first | assumption | exact Ne.symm (by assumption))]; first | assumption | exact upd_same | (rw [upd_ne (by first | assumption | exact Ne.symm (by assumption))]; first | assumption | exact upd_same))) | decide | exact Nat.le_of_ble_eq_true rfl | omega | (show ∃ xs, SqL _ _ _ xs; exact ⟨_, SqL.of (by (first | assumption | exact upd_same | (rw [upd_ne (by first | assumption | exact Ne.symm (by assumption))]; first | assumption | exact upd_same | (rw [upd_ne (by first | assumption | exact Ne.symm (by assumption))]; first | assumption | exact upd_same))))⟩) | (show ∃ xs, SqT _ _ _ xs; exact ⟨_, SqT.of (by (first | assumption | exact upd_same | (rw [upd_ne (by first | assumption | exact Ne.symm (by assumption))]; first | assumption | exact upd_same | (rw [upd_ne (by first | assumption | exact Ne.symm (by assumption))]; first | assumption | exact upd_same))))⟩) | exact DGet.k (k := Sum.inl _) (by (first | assumption | exact upd_same | (rw [upd_ne (by first | assumption | exact Ne.symm (by assumption))]; first | assumption | exact upd_same | (rw [upd_ne (by first | assumption | exact Ne.symm (by assumption))]; first | assumption | exact upd_same)))) | (show V.int _ = kV (Sum.inl _); rfl) | (show ∃ z, V.str _ = V.str z; exact ⟨_, rfl⟩) | exact Or.inl ⟨by (first | decide | omega), by (first | decide | omega)⟩ | exact Or.inr ⟨by (first | decide | omega), by (first | decide | omega)⟩ | exact ⟨by (first | decide | omega), by (first | decide | omega)⟩ | exact ⟨by decide, by decide, by decide⟩ | exact L2.ClsV.ty _ | exact Dt.ty (by assumption) | exact Dt.kint (by assumption) | exact Dt.kbool (by assumption) | exact Dt.ktuple (by assumption) | exact Dt.klist (by assumption) | exact Dt.kstr (by assumption))) | (apply Exists.intro; apply Exists.intro; apply And.intro; focus (first | rfl | assumption | exact upd_same | exact SqL.of (by (first | assumption | exact upd_same | (rw [upd_ne (by first | assumption | exact Ne.symm (by assumption))]; first | assumption | exact upd_same | (rw [upd_ne (by first | assumption | exact Ne.symm (by assumption))]; first | assumption | exact upd_same)))) | exact SqT.of (by (first | assumption | exact upd_same | (rw [upd_ne (by first | assumption | exact Ne.symm (by assumption))]; first | assumption | exact upd_same | (rw [upd_ne (by first | assumption | exact Ne.symm (by assumption))]; first | assumption | exact upd_same)))) | exact Or.inl (SqL.of (by (first | assumption | exact upd_same | (rw [upd_ne (by first | assumption | exact Ne.symm (by assumption))]; first | assumption | exact upd_same | (rw [upd_ne (by first | assumption | exact Ne.symm (by assumption))]; first | assumption | exact upd_same))))) | exact Or.inr (SqT.of (by (first | assumption | exact upd_same | (rw [upd_ne (by first | assumption | exact Ne.symm (by assumption))]; first | assumption | exact upd_same | (rw [upd_ne (by first | assumption | exact Ne.symm (by assumption))]; first | assumption | exact upd_same))))) | exact Or.inl ⟨rfl, _, SqL.of (by (first | assumption | exact upd_same | (rw [upd_ne (by first | assumption | exact Ne.symm (by assumption))]; first | assumption | exact upd_same | (rw [upd_ne (by first | assumption | exact Ne.symm (by assumption))]; first | assumption | exact upd_same))))⟩ | (first | assumption | exact upd_same | (rw [upd_ne (by first | assumption | exact Ne.symm (by assumption))]; first | assumption | exact upd_same | (rw [upd_ne (by first | assumption | exact Ne.symm (by assumption))]; first | assumption | exact upd_same))) | decide | exact Nat.le_of_ble_eq_true rfl | omega | (show ∃ xs, SqL _ _ _ xs; exact ⟨_, SqL.of (by (first | assumption | exact upd_same | (rw [upd_ne (by first | assumption | exact Ne.symm (by assumption))]; first | assumption | exact upd_same | (rw [upd_ne (by first | assumption | exact Ne.symm (by assumption))]; first | assumption | exact upd_same))))⟩) | (show ∃ xs, SqT _ _ _ xs; exact ⟨_, SqT.of (by (first | assumption | exact upd_same | (rw [upd_ne (by first | assumption | exact Ne.symm (by assumption))]; first | assumption | exact upd_same | (rw [upd_ne (by first | assumption | exact Ne.symm (by assumption))]; first | assumption | exact upd_same))))⟩) | exact DGet.k (k := Sum.inl _) (by (first | assumption | exact upd_same | (rw [upd_ne (by first | assumption | exact Ne.symm (by assumption))]; first | assumption | exact upd_same | (rw [upd_ne (by first | assumption | exact Ne.symm (by assumption))]; first | assumption | exact upd_same)))) | (show V.int _ = kV (Sum.inl _); rfl) | (show ∃ z, V.str _ = V.str z; exact ⟨_, rfl⟩) | exact Or.inl ⟨by (first | decide | omega), by (first | decide | omega)⟩ | exact Or.inr ⟨by (first | decide | omega), by (first | decide | omega)⟩ | exact ⟨by (first | decide | omega), by (first | decide | omega)⟩ | exact ⟨by decide, by decide, by decide⟩ | exact L2.ClsV.ty _ | exact Dt.ty (by assumption) | exact Dt.kint (by assumption) | exact Dt.kbool (by assumption) | exact Dt.ktuple (by assumption) | exact Dt.klist (by assumption) | exact Dt.kstr (by assumption))) | (apply Exists.intro; apply Exists.intro; apply Exists.intro; apply And.intro; focus (first | rfl | assumption | exact upd_same | exact SqL.of (by (first | assumption | exact upd_same | (rw [upd_ne (by first | assumption | exact Ne.symm (by assumption))]; first | assumption | exact upd_same | (rw [upd_ne (by first | assumption | exact Ne.symm (by assumption))]; first | assumption | exact upd_same)))) | exact SqT.of (by (first | assumption | exact upd_same | (rw [upd_ne (by first | assumption | exact Ne.symm (by assumption))]; first | assumption | exact upd_same | (rw [upd_ne (by first | assumption | exact Ne.symm (by assumption))]; first | assumption | exact upd_same)))) | exact Or.inl (SqL.of (by (first | assumption | exact upd_same | (rw [upd_ne (by first | assumption | exact Ne.symm (by assumption))]; first | assumption | exact upd_same | (rw [upd_ne (by first | assumption | exact Ne.symm (by assumption))]; first | assumption | exact upd_same))))) | exact Or.inr (SqT.of (by (first | assumption | exact upd_same | (rw [upd_ne (by first | assumption | exact Ne.symm (by assumption))]; first | assumption | exact upd_same | (rw [upd_ne (by first | assumption | exact Ne.symm (by assumption))]; first | assumption | exact upd_same))))) | exact Or.inl ⟨rfl, _, SqL.of (by (first | assumption | exact upd_same | (rw [upd_ne (by first | assumption | exact Ne.symm (by assumption))]; first | assumption | exact upd_same | (rw [upd_ne (by first | assumption | exact Ne.symm (by assumption))]; first | assumption | exact upd_same))))⟩ | (first | assumption | exact upd_same | (rw [upd_ne (by first | assumption | exact Ne.symm (by assumption))]; first | assumption | exact upd_same | (rw [upd_ne (by first | assumption | exact Ne.symm (by assumption))]; first | assumption | exact upd_same))) | decide | exact Nat.le_of_ble_eq_true rfl | omega | (show ∃ xs, SqL _ _ _ xs; exact ⟨_, SqL.of (by (first | assumption | exact upd_same | (rw [upd_ne (by first | assumption | exact Ne.symm (by assumption))]; first | assumption | exact upd_same | (rw [upd_ne (by first | assumption | exact Ne.symm (by assumption))]; first | assumption | exact upd_same))))⟩) | (show ∃ xs, SqT _ _ _ xs; exact ⟨_, SqT.of (by (first | assumption | exact upd_same | (rw [upd_ne (by first | assumption | exact Ne.symm (by assumption))]; first | assumption | exact upd_same | (rw [upd_ne (by first | assumption | exact Ne.symm (by assumption))]; first | assumption | exact upd_same))))⟩) | exact DGet.k (k := Sum.inl _) (by (first | assumption | exact upd_same | (rw [upd_ne (by first | assumption | exact Ne.symm (by assumption))]; first | assumption | exact upd_same | (rw [upd_ne (by first | assumption | exact Ne.symm (by assumption))]; first | assumption | exact upd_same)))) | (show V.int _ = kV (Sum.inl _); rfl) | (show ∃ z, V.str _ = V.str z; exact ⟨_, rfl⟩) | exact Or.inl ⟨by (first | decide | omega), by (first | decide | omega)⟩ | exact Or.inr ⟨by (first | decide | omega), by (first | decide | omega)⟩ | exact ⟨by (first | decide | omega), by (first | decide | omega)⟩ | exact ⟨by decide, by decide, by decide⟩ | exact L2.ClsV.ty _ | exact Dt.ty (by assumption) | exact Dt.kint (by assumption) | exact Dt.kbool (by assumption) | exact Dt.ktuple (by assumption) | exact Dt.klist (by assumption) | exact Dt.kstr (by assumption))) | (apply Exists.intro; apply Exists.intro; apply Exists.intro; apply Exists.intro; apply And.intro; focus (first | rfl | assumption | exact upd_same | exact SqL.of (by (first | assumption | exact upd_same | (rw [upd_ne (by first | assumption | exact Ne.symm (by assumption))]; first | assumption | exact upd_same | (rw [upd_ne (by first | assumption | exact Ne.symm (by assumption))]; first | assumption | exact upd_same)))) | exact SqT.of (by (first | assumption | exact upd_same | (rw [upd_ne (by first | assumption | exact Ne.symm (by assumption))]; first | assumption | exact upd_same | (rw [upd_ne (by first | assumption | exact Ne.symm (by assumption))]; first | assumption | exact upd_same)))) | exact Or.inl (SqL.of (by (first | assumption | exact upd_same | (rw [upd_ne (by first | assumption | exact Ne.symm (by assumption))]; first | assumption | exact upd_same | (rw [upd_ne (by first | assumption | exact Ne.symm (by assumption))]; first | assumption | exact upd_same))))) | exact Or.inr (SqT.of (by (first | assumption | exact upd_same | (rw [upd_ne (by first | assumption | exact Ne.symm (by assumption))]; first | assumption | exact upd_same | (rw [upd_ne (by first | assumption | exact Ne.symm (by assumption))]; first | assumption | exact upd_same))))) | exact Or.inl ⟨rfl, _, SqL.of (by (first | assumption | exact upd_same | (rw [upd_ne (by first | assumption | exact Ne.symm (by assumption))]; first | assumption | exact upd_same | (rw [upd_ne (by first | assumption | exact Ne.symm (by assumption))]; first | assumption | exact upd_same))))⟩ | (first | assumption | exact upd_same | (rw [upd_ne (by first | assumption | exact Ne.symm (by assumption))]; first | assumption | exact upd_same | (rw [upd_ne (by first | assumption | exact Ne.symm (by assumption))]; first | assumption | exact upd_same))) | decide | exact Nat.le_of_ble_eq_true rfl | omega | (show ∃ xs, SqL _ _ _ xs; exact ⟨_, SqL.of (by (first | assumption | exact upd_same | (rw [upd_ne (by first | assumption | exact Ne.symm (by assumption))]; first | assumption | exact upd_same | (rw [upd_ne (by first | assumption | exact Ne.symm (by assumption))]; first | assumption | exact upd_same))))⟩) | (show ∃ xs, SqT _ _ _ xs; exact ⟨_, SqT.of (by (first | assumption | exact upd_same | (rw [upd_ne (by first | assumption | exact Ne.symm (by assumption))]; first | assumption | exact upd_same | (rw [upd_ne (by first | assumption | exact Ne.symm (by assumption))]; first | assumption | exact upd_same))))⟩) | exact DGet.k (k := Sum.inl _) (by (first | assumption | exact upd_same | (rw [upd_ne (by first | assumption | exact Ne.symm (by assumption))]; first | assumption | exact upd_same | (rw [upd_ne (by first | assumption | exact Ne.symm (by assumption))]; first | assumption | exact upd_same)))) | (show V.int _ = kV (Sum.inl _); rfl) | (show ∃ z, V.str _ = V.str z; exact ⟨_, rfl⟩) | exact Or.inl ⟨by (first | decide | omega), by (first | decide | omega)⟩ | exact Or.inr ⟨by (first | decide | omega), by (first | decide | omega)⟩ | exact ⟨by (first | decide | omega), by (first | decide | omega)⟩ | exact ⟨by decide, by decide, by decide⟩ | exact L2.ClsV.ty _ | exact Dt.ty (by assumption) | exact Dt.kint (by assumption) | exact Dt.kbool (by assumption) | exact Dt.ktuple (by assumption) | exact Dt.klist (by assumption) | exact Dt.kstr (by assumption))) | (apply Exists.intro; apply Exists.intro; apply Exists.intro; apply Exists.intro; apply Exists.intro; apply And.intro; focus (first | rfl | assumption | exact upd_same | exact SqL.of (by (first | assumption | exact upd_same | (rw [upd_ne (by first | assumption | exact Ne.symm (by assumption))]; first | assumption | exact upd_same | (rw [upd_ne (by first | assumption | exact Ne.symm (by assumption))]; first | assumption | exact upd_same)))) | exact SqT.of (by (first | assumption | exact upd_same | (rw [upd_ne (by first | assumption | exact Ne.symm (by assumption))]; first | assumption | exact upd_same | (rw [upd_ne (by first | assumption | exact Ne.symm (by assumption))]; first | assumption | exact upd_same)))) | exact Or.inl (SqL.of (by (first | assumption | exact upd_same | (rw [upd_ne (by first | assumption | exact Ne.symm (by assumption))]; first | assumption | exact upd_same | (rw [upd_ne (by first | assumption | exact Ne.symm (by assumption))]; first | assumption | exact upd_same))))) | exact Or.inr (SqT.of (by (first | assumption | exact upd_same | (rw [upd_ne (by first | assumption | exact Ne.symm (by assumption))]; first | assumption | exact upd_same | (rw [upd_ne (by first | assumption | exact Ne.symm (by assumption))]; first | assumption | exact upd_same))))) | exact Or.inl ⟨rfl, _, SqL.of (by (first | assumption | exact upd_same | (rw [upd_ne (by first | assumption | exact Ne.symm (by assumption))]; first | assumption | exact upd_same | (rw [upd_ne (by first | assumption | exact Ne.symm (by assumption))]; first | assumption | exact upd_same))))⟩ | (first | assumption | exact upd_same | (rw [upd_ne (by first | assumption | exact Ne.symm (by assumption))]; first | assumption | exact upd_same | (rw [upd_ne (by first | assumption | exact Ne.symm (by assumption))]; first | assumption | exact upd_same))) | decide | exact Nat.le_of_ble_eq_true rfl | omega | (show ∃ xs, SqL _ _ _ xs; exact ⟨_, SqL.of (by (first | assumption | exact upd_same | (rw [upd_ne (by first | assumption | exact Ne.symm (by assumption))]; first | assumption | exact upd_same | (rw [upd_ne (by first | assumption | exact Ne.symm (by assumption))]; first | assumption | exact upd_same))))⟩) | (show ∃ xs, SqT _ _ _ xs; exact ⟨_, SqT.of (by (first | assumption | exact upd_same | (rw [upd_ne (by first | assumption | exact Ne.symm (by assumption))]; first | assumption | exact upd_same | (rw [upd_ne (by first | assumption | exact Ne.symm (by assumption))]; first | assumption | exact upd_same))))⟩) | exact DGet.k (k := Sum.inl _) (by (first | assumption | exact upd_same | (rw [upd_ne (by first | assumption | exact Ne.symm (by assumption))]; first | assumption | exact upd_same | (rw [upd_ne (by first | assumption | exact Ne.symm (by assumption))]; first | assumption | exact upd_same)))) | (show V.int _ = kV (Sum.inl _); rfl) | (show ∃ z, V.str _ = V.str z; exact ⟨_, rfl⟩) | exact Or.inl ⟨by (first | decide | omega), by (first | decide | omega)⟩ | exact Or.inr ⟨by (first | decide | omega), by (first | decide | omega)⟩ | exact ⟨by (first | decide | omega), by (first | decide | omega)⟩ | exact ⟨by decide, by decide, by decide⟩ | exact L2.ClsV.ty _ | exact Dt.ty (by assumption) | exact Dt.kint (by assumption) | exact Dt.kbool (by assumption) | exact Dt.ktuple (by assumption) | exact Dt.klist (by assumption) | exact Dt.kstr (by assumption))) | (apply Exists.intro; apply Exists.intro; apply Exists.intro; apply Exists.intro; apply Exists.intro; apply Exists.intro; apply And.intro; focus (first | rfl | assumption | exact upd_same | exact SqL.of (by (first | assumption | exact upd_same | (rw [upd_ne (by first | assumption | exact Ne.symm (by assumption))]; first | assumption | exact upd_same | (rw [upd_ne (by first | assumption | exact Ne.symm (by assumption))]; first | assumption | exact upd_same)))) | exact SqT.of (by (first | assumption | exact upd_same | (rw [upd_ne (by first | assumption | exact Ne.symm (by assumption))]; first | assumption | exact upd_same | (rw [upd_ne (by first | assumption | exact Ne.symm (by assumption))]; first | assumption | exact upd_same)))) | exact Or.inl (SqL.of (by (first | assumption | exact upd_same | (rw [upd_ne (by first | assumption | exact Ne.symm (by assumption))]; first | assumption | exact upd_same | (rw [upd_ne (by first | assumption | exact Ne.symm (by assumption))]; first | assumption | exact upd_same))))) | exact Or.inr (SqT.of (by (first | assumption | exact upd_same | (rw [upd_ne (by first | assumption | exact Ne.symm (by assumption))]; first | assumption | exact upd_same | (rw [upd_ne (by first | assumption | exact Ne.symm (by assumption))]; first | assumption | exact upd_same))))) | exact Or.inl ⟨rfl, _, SqL.of (by (first | assumption | exact upd_same | (rw [upd_ne (by first | assumption | exact Ne.symm (by assumption))]; first | assumption | exact upd_same | (rw [upd_ne (by first | assumption | exact Ne.symm (by assumption))]; first | assumption | exact upd_same))))⟩ | (first | assumption | exact upd_same | (rw [upd_ne (by first | assumption | exact Ne.symm (by assumption))]; first | assumption | exact upd_same | (rw [upd_ne (by first | assumption | exact Ne.symm (by assumption))]; first | assumption | exact upd_same))) | decide | exact Nat.le_of_ble_eq_true rfl | omega | (show ∃ xs, SqL _ _ _ xs; exact ⟨_, SqL.of (by (first | assumption | exact upd_same | (rw [upd_ne (by first | assumption | exact Ne.symm (by assumption))]; first | assumption | exact upd_same | (rw [upd_ne (by first | assumption | exact Ne.symm (by assumption))]; first | assumption | exact upd_same))))⟩) | (show ∃ xs, SqT _ _ _ xs; exact ⟨_, SqT.of (by (first | assumption | exact upd_same | (rw [upd_ne (by first | assumption | exact Ne.symm (by assumption))]; first | assumption | exact upd_same | (rw [upd_ne (by first | assumption | exact Ne.symm (by assumption))]; first | assumption | exact upd_same))))⟩) | exact DGet.k (k := Sum.inl _) (by (first | assumption | exact upd_same | (rw [upd_ne (by first | assumption | exact Ne.symm (by assumption))]; first | assumption | exact upd_same | (rw [upd_ne (by first | assumption | exact Ne.symm (by assumption))]; first | assumption | exact upd_same)))) | (show V.int _ = kV (Sum.inl _); rfl) | (show ∃ z, V.str _ = V.str z; exact ⟨_, rfl⟩) | exact Or.inl ⟨by (first | decide | omega), by (first | decide | omega)⟩ | exact Or.inr ⟨by (first | decide | omega), by (first | decide | omega)⟩ | exact ⟨by (first | decide | omega), by (first | decide | omega)⟩ | exact ⟨by decide, by decide, by decide⟩ | exact L2.ClsV.ty _ | exact Dt.ty (by assumption) | exact Dt.kint (by assumption) | exact Dt.kbool (by assumption) | exact Dt.ktuple (by assumption) | exact Dt.klist (by assumption) | exact Dt.kstr (by assumption))) | (apply Exists.intro; apply Exists.intro; apply Exists.intro; apply Exists.intro; apply Exists.intro; apply Exists.intro; apply Exists.intro; apply And.intro; focus (first | rfl | assumption | exact upd_same | exact SqL.of (by (first | assumption | exact upd_same | (rw [upd_ne (by first | assumption | exact Ne.symm (by assumption))]; first | assumption | exact upd_same | (rw [upd_ne (by first | assumption | exact Ne.symm (by assumption))]; first | assumption | exact upd_same)))) | exact SqT.of (by (first | assumption | exact upd_same | (rw [upd_ne (by first | assumption | exact Ne.symm (by assumption))]; first | assumption | exact upd_same | (rw [upd_ne (by first | assumption | exact Ne.symm (by assumption))]; first | assumption | exact upd_same)))) | exact Or.inl (SqL.of (by (first | assumption | exact upd_same | (rw [upd_ne (by first | assumption | exact Ne.symm (by assumption))]; first | assumption | exact upd_same | (rw [upd_ne (by first | assumption | exact Ne.symm (by assumption))]; first | assumption | exact upd_same))))) | exact Or.inr (SqT.of (by (first | assumption | exact upd_same | (rw [upd_ne (by first | assumption | exact Ne.symm (by assumption))]; first | assumption | exact upd_same | (rw [upd_ne (by first | assumption | exact Ne.symm (by assumption))]; first | assumption | exact upd_same))))) | exact Or.inl ⟨rfl, _, SqL.of (by (first | assumption | exact upd_same | (rw [upd_ne (by first | assumption | exact Ne.symm (by assumption))]; first | assumption | exact upd_same | (rw [upd_ne (by first | assumption | exact Ne.symm (by assumption))]; first | assumption | exact upd_same))))⟩ | (first | assumption | exact upd_same | (rw [upd_ne (by first | assumption | exact Ne.symm (by assumption))]; first | assumption | exact upd_same | (rw [upd_ne (by first | assumption | exact Ne.symm (by assumption))]; first | assumption | exact upd_same))) | decide | exact Nat.le_of_ble_eq_true rfl | omega | (show ∃ xs, SqL _ _ _ xs; exact ⟨_, SqL.of (by (first | assumption | exact upd_same | (rw [upd_ne (by first | assumption | exact Ne.symm (by assumption))]; first | assumption | exact upd_same | (rw [upd_ne (by first | assumption | exact Ne.symm (by assumption))]; first | assumption | exact upd_same))))⟩) | (show ∃ xs, SqT _ _ _ xs; exact ⟨_, SqT.of (by (first | assumption | exact upd_same | (rw [upd_ne (by first | assumption | exact Ne.symm (by assumption))]; first | assumption | exact upd_same | (rw [upd_ne (by first | assumption | exact Ne.symm (by assumption))]; first | assumption | exact upd_same))))⟩) | exact DGet.k (k := Sum.inl _) (by (first | assumption | exact upd_same | (rw [upd_ne (by first | assumption | exact Ne.symm (by assumption))]; first | assumption | exact upd_same | (rw [upd_ne (by first | assumption | exact Ne.symm (by assumption))]; first | assumption | exact upd_same)))) | (show V.int _ = kV (Sum.inl _); rfl) | (show ∃ z, V.str _ = V.str z; exact ⟨_, rfl⟩) | exact Or.inl ⟨by (first | decide | omega), by (first | decide | omega)⟩ | exact Or.inr ⟨by (first | decide | omega), by (first | decide | omega)⟩ | exact ⟨by (first | decide | omega), by (first | decide | omega)⟩ | exact ⟨by decide, by decide, by decide⟩ | exact L2.ClsV.ty _ | exact Dt.ty (by assumption) | exact Dt.kint (by assumption) | exact Dt.kbool (by assumption) | exact Dt.ktuple (by assumption) | exact Dt.klist (by assumption) | exact Dt.kstr (by assumption))) | (apply Exists.intro; apply Exists.intro; apply Exists.intro; apply Exists.intro; apply Exists.intro; apply Exists.intro; apply Exists.intro; apply Exists.intro; apply And.intro; focus (first | rfl | assumption | exact upd_same | exact SqL.of (by (first | assumption | exact upd_same | (rw [upd_ne (by first | assumption | exact Ne.symm (by assumption))]; first | assumption | exact upd_same | (rw [upd_ne (by first | assumption | exact Ne.symm (by assumption))]; first | assumption | exact upd_same)))) | exact SqT.of (by (first | assumption | exact upd_same | (rw [upd_ne (by first | assumption | exact Ne.symm (by assumption))]; first | assumption | exact upd_same | (rw [upd_ne (by first | assumption | exact Ne.symm (by assumption))]; first | assumption | exact upd_same)))) | exact Or.inl (SqL.of (by (first | assumption | exact upd_same | (rw [upd_ne (by first | assumption | exact Ne.symm (by assumption))]; first | assumption | exact upd_same | (rw [upd_ne (by first | assumption | exact Ne.symm (by assumption))]; first | assumption | exact upd_same))))) | exact Or.inr (SqT.of (by (first | assumption | exact upd_same | (rw [upd_ne (by first | assumption | exact Ne.symm (by assumption))]; first | assumption | exact upd_same | (rw [upd_ne (by first | assumption | exact Ne.symm (by assumption))]; first | assumption | exact upd_same))))) | exact Or.inl ⟨rfl, _, SqL.of (by (first | assumption | exact upd_same | (rw [upd_ne (by first | assumption | exact Ne.symm (by assumption))]; first | assumption | exact upd_same | (rw [upd_ne (by first | assumption | exact Ne.symm (by assumption))]; first | assumption | exact upd_same))))⟩ | (first | assumption | exact upd_same | (rw [upd_ne (by first | assumption | exact Ne.symm (by assumption))]; first | assumption | exact upd_same | (rw [upd_ne (by first | assumption | exact Ne.symm (by assumption))]; first | assumption | exact upd_same))) | decide | exact Nat.le_of_ble_eq_true rfl | omega | (show ∃ xs, SqL _ _ _ xs; exact ⟨_, SqL.of (by (first | assumption | exact upd_same | (rw [upd_ne (by first | assumption | exact Ne.symm (by assumption))]; first | assumption | exact upd_same | (rw [upd_ne (by first | assumption | exact Ne.symm (by assumption))]; first | assumption | exact upd_same))))⟩) | (show ∃ xs, SqT _ _ _ xs; exact ⟨_, SqT.of (by (first | assumption | exact upd_same | (rw [upd_ne (by first | assumption | exact Ne.symm (by assumption))]; first | assumption | exact upd_same | (rw [upd_ne (by first | assumption | exact Ne.symm (by assumption))]; first | assumption | exact upd_same))))⟩) | exact DGet.k (k := Sum.inl _) (by (first | assumption | exact upd_same | (rw [upd_ne (by first | assumption | exact Ne.symm (by assumption))]; first | assumption | exact upd_same | (rw [upd_ne (by first | assumption | exact Ne.symm (by assumption))]; first | assumption | exact upd_same)))) | (show V.int _ = kV (Sum.inl _); rfl) | (show ∃ z, V.str _ = V.str z; exact ⟨_, rfl⟩) | exact Or.inl ⟨by (first | decide | omega), by (first | decide | omega)⟩ | exact Or.inr ⟨by (first | decide | omega), by (first | decide | omega)⟩ | exact ⟨by (first | decide | omega), by (first | decide | omega)⟩ | exact ⟨by decide, by decide, by decide⟩ | exact L2.ClsV.ty _ | exact Dt.ty (by assumption) | exact Dt.kint (by assumption) | exact Dt.kbool (by assumption) | exact Dt.ktuple (by assumption) | exact Dt.klist (by assumption) | exact Dt.kstr (by assumption))) | (apply Exists.intro; apply Exists.intro; apply Exists.intro; apply Exists.intro; apply Exists.intro; apply Exists.intro; apply Exists.intro; apply Exists.intro; apply Exists.intro; apply And.intro; focus (first | rfl | assumption | exact upd_same | exact SqL.of (by (first | assumption | exact upd_same | (rw [upd_ne (by first | assumption | exact Ne.symm (by assumption))]; first | assumption | exact upd_same | (rw [upd_ne (by first | assumption | exact Ne.symm (by assumption))]; first | assumption | exact upd_same)))) | exact SqT.of (by (first | assumption | exact upd_same | (rw [upd_ne (by first | assumption | exact Ne.symm (by assumption))]; first | assumption | exact upd_same | (rw [upd_ne (by first | assumption | exact Ne.symm (by assumption))]; first | assumption | exact upd_same)))) | exact Or.inl (SqL.of (by (first | assumption | exact upd_same | (rw [upd_ne (by first | assumption | exact Ne.symm (by assumption))]; first | assumption | exact upd_same | (rw [upd_ne (by first | assumption | exact Ne.symm (by assumption))]; first | assumption | exact upd_same))))) | exact Or.inr (SqT.of (by (first | assumption | exact upd_same | (rw [upd_ne (by first | assumption | exact Ne.symm (by assumption))]; first | assumption | exact upd_same | (rw [upd_ne (by first | assumption | exact Ne.symm (by assumption))]; first | assumption | exact upd_same))))) | exact Or.inl ⟨rfl, _, SqL.of (by (first | assumption | exact upd_same | (rw [upd_ne (by first | assumption | exact Ne.symm (by assumption))]; first | assumption | exact upd_same | (rw [upd_ne (by first | assumption | exact Ne.symm (by assumption))]; first | assumption | exact upd_same))))⟩ | (first | assumption | exact upd_same | (rw [upd_ne (by first | assumption | exact Ne.symm (by assumption))]; first | assumption | exact upd_same | (rw [upd_ne (by first | assumption | exact Ne.symm (by assumption))]; first | assumption | exact upd_same))) | decide | exact Nat.le_of_ble_eq_true rfl | omega | (show ∃ xs, SqL _ _ _ xs; exact ⟨_, SqL.of (by (first | assumption | exact upd_same | (rw [upd_ne (by first | assumption | exact Ne.symm (by assumption))]; first | assumption | exact upd_same | (rw [upd_ne (by first | assumption | exact Ne.symm (by assumption))]; first | assumption | exact upd_same))))⟩) | (show ∃ xs, SqT _ _ _ xs; exact ⟨_, SqT.of (by (first | assumption | exact upd_same | (rw [upd_ne (by first | assumption | exact Ne.symm (by assumption))]; first | assumption | exact upd_same | (rw [upd_ne (by first | assumption | exact Ne.symm (by assumption))]; first | assumption | exact upd_same))))⟩) | exact DGet.k (k := Sum.inl _) (by (first | assumption | exact upd_same | (rw [upd_ne (by first | assumption | exact Ne.symm (by assumption))]; first | assumption | exact upd_same | (rw [upd_ne (by first | assumption | exact Ne.symm (by assumption))]; first | assumption | exact upd_same)))) | (show V.int _ = kV (Sum.inl _); rfl) | (show ∃ z, V.str _ = V.str z; exact ⟨_, rfl⟩) | exact Or.inl ⟨by (first | decide | omega), by (first | decide | omega)⟩ | exact Or.inr ⟨by (first | decide | omega), by (first | decide | omega)⟩ | exact ⟨by (first | decide | omega), by (first | decide | omega)⟩ | exact ⟨by decide, by decide, by decide⟩ | exact L2.ClsV.ty _ | exact Dt.ty (by assumption) | exact Dt.kint (by assumption) | exact Dt.kbool (by assumption) | exact Dt.ktuple (by assumption) | exact Dt.klist (by assumption) | exact Dt.kstr (by assumption))) | refine Or.inl ⟨_, rfl, ?_⟩ | refine Or.inr ⟨_, rfl, ?_⟩ | refine Or.inr ⟨SqT.of (by (first | assumption | exact upd_same | (rw [upd_ne (by first | assumption | exact Ne.symm (by assumption))]; first | assumption | exact upd_same | (rw [upd_ne (by first | assumption | exact Ne.symm (by assumption))]; first | assumption | exact upd_same)))), SqT.of (by (first | assumption | exact upd_same | (rw [upd_ne (by first | assumption | exact Ne.symm (by assumption))]; first | assumption | exact upd_same | (rw [upd_ne (by first | assumption | exact Ne.symm (by assumption))]; first | assumption | exact upd_same)))), ?_⟩ | refine Or.inl ⟨SqL.of (by (first | assumption | exact upd_same | (rw [upd_ne (by first | assumption | exact Ne.symm (by assumption))]; first | assumption | exact upd_same | (rw [upd_ne (by first | assumption | exact Ne.symm (by assumption))]; first | assumption | exact upd_same)))), SqL.of (by (first | assumption | exact upd_same | (rw [upd_ne (by first | assumption | exact Ne.symm (by assumption))]; first | assumption | exact upd_same | (rw [upd_ne (by first | assumption | exact Ne.symm (by assumption))]; first | assumption | exact upd_same)))), ?_⟩ | refine Or.inl ⟨SqL.of (by (first | assumption | exact upd_same | (rw [upd_ne (by first | assumption | exact Ne.symm (by assumption))]; first | assumption | exact upd_same | (rw [upd_ne (by first | assumption | exact Ne.symm (by assumption))]; first | assumption | exact upd_same)))), ?_⟩ | refine Or.inr ⟨SqT.of (by (first | assumption | exact upd_same | (rw [upd_ne (by first | assumption | exact Ne.symm (by assumption))]; first | assumption | exact upd_same | (rw [upd_ne (by first | assumption | exact Ne.symm (by assumption))]; first | assumption | exact upd_same)))), ?_⟩ | refine ifT rfl ?_ | refine ifF rfl ?_))
theorem Dt.hand {H H' : Hp} {h l : Addr} {v : V} {t : String} (d : Dt H v t) (ho : HandOk H h l) (ho' : HandOk H' h l) (k : Kp (Nh h) H H') : Dt H' v t := by
  obtain ⟨⟨ys, e1⟩, _⟩ := ho.lst
  obtain ⟨⟨zs, e2⟩, _⟩ := ho'.lst
  cases d with
  | non => exact .non
  | bl b => exact .bl b
  | int i => exact .int i
  | str x => exact .str x
  | @lst a xs e =>
    by_cases c : a = h
    · rw [c]; exact .lst e2
    · exact .lst (k _ _ e c)
  | tup e => exact .tup (k _ _ e (ne_of e e1 (by intro z; cases z)))
  | dK e => exact .dK (k _ _ e (ne_of e e1 (by intro z; cases z)))
theorem tup_hand {H H' : Hp} {h l a : Addr} {t : String} {xs : List V} (d : Dt H (.ref a) t) (ho : HandOk H h l) (ho' : HandOk H' h l) (k : Kp (Nh h) H H') (e : H' a = some (.tup xs)) : H a = some (.tup xs) := by
  obtain ⟨⟨ys, e1⟩, _⟩ := ho.lst
  obtain ⟨⟨zs, e2⟩, _⟩ := ho'.lst
  cases d with
  | lst e3 =>
    by_cases c : a = h
    · subst c; rw [e2] at e; cases e
    · rw [k _ _ e3 c] at e; cases e
  | tup e3 => rw [k _ _ e3 (ne_of e3 e1 (by intro z; cases z))] at e; cases e; exact e3
  | dK e3 => rw [k _ _ e3 (ne_of e3 e1 (by intro z; cases z))] at e; cases e
theorem Tg.hand {H H' : Hp} {h l : Addr} {v : V} (g : Tg H v) (ho : HandOk H h l) (ho' : HandOk H' h l) (k : Kp (Nh h) H H') : Tg H' v := by
  obtain ⟨t, d⟩ := g.t
  refine ⟨⟨t, d.hand ho ho' k⟩, fun a xs e h2 => ?_⟩
  subst e
  obtain ⟨h1, h3⟩ := g.xs a xs rfl (tup_hand d ho ho' k h2)
  exact ⟨h1, fun x hx => let ⟨t, d⟩ := h3 x hx; ⟨t, d.hand ho ho' k⟩⟩
/-- what is no share, whatever it is -/
structure Od (H : Hp) (v : V) : Prop where
  g : Tg H v
  n : numV v = false
  t : ∀ a xs, v = .ref a → H a = some (.tup xs) → ∃ x ∈ xs, numV x = false
theorem Od.same {H H' : Hp} {v : V} (o : Od H v) (s : Same H H') : Od H' v := by
  refine ⟨o.g.same s, o.n, fun a xs e h => ?_⟩
  subst e
  obtain ⟨t, d⟩ := o.g.t
  refine o.t a xs rfl ?_
  cases d with
  | lst e => rw [s _ _ e] at h; cases h
  | tup e => rw [s _ _ e] at h; rw [e, h]
  | dK e => rw [s _ _ e] at h; cases h
theorem Od.hand {H H' : Hp} {h l : Addr} {v : V} (o : Od H v) (ho : HandOk H h l) (ho' : HandOk H' h l) (k : Kp (Nh h) H H') : Od H' v := by
  refine ⟨o.g.hand ho ho' k, o.n, fun a xs e h2 => ?_⟩
  subst e
  obtain ⟨t, d⟩ := o.g.t
  exact o.t a xs rfl (tup_hand d ho ho' k h2)
theorem Od.tup {H : Hp} {v : V} {a : Addr} (o : Od H v) (e : H a = some (.tup [v])) : Od H (.ref a) := by
  obtain ⟨t, d⟩ := o.g.t
  refine ⟨⟨⟨_, .tup e⟩, fun b xs z h2 => ?_⟩, rfl, fun b xs z h2 => ?_⟩
  · cases z; rw [e] at h2; cases h2
    exact ⟨by simp, fun x hx => by simp at hx; subst hx; exact ⟨t, d⟩⟩
  · cases z; rw [e] at h2; cases h2
    exact ⟨v, by simp, o.n⟩
theorem Od.lst {H : Hp} {xs : List V} {a : Addr} (e : H a = some (.lst xs)) : Od H (.ref a) :=
  ⟨⟨⟨_, .lst e⟩, fun b xs z h2 => by cases z; rw [e] at h2; cases h2⟩, rfl, fun b xs z h2 => by cases z; rw [e] at h2; cases h2⟩
theorem Od.dK {H : Hp} {kvs : List (Key × V)} {a : Addr} (e : H a = some (.dK kvs)) : Od H (.ref a) :=
  ⟨⟨⟨_, .dK e⟩, fun b xs z h2 => by cases z; rw [e] at h2; cases h2⟩, rfl, fun b xs z h2 => by cases z; rw [e] at h2; cases h2⟩
theorem Od.flat {H : Hp} {v : V} {t : String} (d : Dt H v t) (h : ∀ a, v ≠ .ref a) (n : numV v = false) : Od H v :=
  ⟨⟨⟨t, d⟩, fun a xs e => absurd e (h a)⟩, n, fun a xs e => absurd e (h a)⟩
def spDeep : Sp := fun vs H Q _ => ∃ h l : Addr, vs = [.ref h] ∧ HandOk H h l ∧ ∀ (v : V) (H' : Hp), Od H' v → HandOk H' h l → Kp (Nh h) H H' → Q v H'
section
variable {P : Program} {w : World} {K : PySem.W.Frag} {mg : Str → Option Value} {base : Heap}
theorem d_law_deep (B : Bi mg) (F : FunAt K mg "_law_deep" s_law_deep) (D_law_draw : Has P w K mg base 1 "_law_draw" ["hand", "many"] spTake) : Has P w K mg base 2 "_law_deep" ["hand"] spDeep := by
  refine mk_has F sc_law_deep (fun _ _ _ _ _ _ us hl => match us, hl with | [_], _ => rfl) (fun vs H Q E h => ?_) fun f cdv A outer s H vs Q E hr h => ?_
  · obtain ⟨h, l, rfl, _⟩ := h
    rfl
  obtain ⟨h, l, rfl, ho, k⟩ := h
  refine ⟨_, (pss_cons (ps_set (i := 1) sc_law_deep.nd rfl (Or.inl rfl) (pe_ix ix_list (pe_lst (pa_cons pe_non (pa_cons pe_str (pa_cons (pe_un un_neg pe_int) (pa_cons pe_dnewK pa_nil))))) (pe_h D_law_draw (hr.mono (by decide)) rfl (pa_cons (pv 0) (pa_cons pe_int pa_nil))) (fun _ _ => rfl)))
    (pss_cons (ps_for PassesOwn.never rfl (pi_range1 rfl B.range (pa_cons (pe_op op_add pe_int (pe_h D_law_draw (hr.mono (by decide)) rfl (pa_cons (pv 0) (pa_cons pe_int pa_nil)))) pa_nil)) (pg_name (i := 2) sc_law_deep.nd rfl (Or.inl rfl))
    (pss_one (ps_set (i := 1) sc_law_deep.nd rfl (Or.inl rfl) (pe_ix ix_list (pe_lst (pa_cons (pe_tup (pa_cons (pv 1) pa_nil)) (pa_cons (pe_lst (pa_cons (pv 1) pa_nil)) (pa_cons (pe_slice sl_tupA (pe_tup (pa_cons (pv 1) (pa_cons (pv 1) pa_nil))) po_none (po_some pe_int)) (pa_cons (pe_disp (pps_cons pe_int (pv 1) pps_nil) (by rfl) (by rfl) (fun z => by cases z) (by decide)) pa_nil))))) (pe_h D_law_draw (hr.mono (by decide)) rfl (pa_cons (pv 0) (pa_cons pe_int pa_nil))) (fun _ _ => rfl)))))
    (pss_one (ps_ret (pv 1))))), ?_⟩
  trivial
  intro d nd
  trivial
  intro p np
  have ho1 := (ho.new (o := .dK []) nd).new (o := .lst [.non, .str "a", .int (-1), .ref d]) np
  have k1 : Kp (Nh h) H _ := ((Kp.refl (N := Nh h)).hn (o := .dK []) nd).hn (o := .lst [.non, .str "a", .int (-1), .ref d]) np
  have ndp : d ≠ p := ne_of_none upd_same np
  trivial
  intro r1 H1 r10 r11 ho2 hk1
  have k2 : Kp (Nh h) H H1 := k1.trans (Kp.hand hk1)
  have nph : p ≠ h := (ho.new (o := .dK []) nd).ne np
  have ndh : d ≠ h := ho.ne nd
  have ep : H1 p = some (.lst [.non, .str "a", .int (-1), .ref d]) := (hk1 p nph).trans upd_same
  have ed : H1 d = some (.dK []) := (hk1 d ndh).trans ((upd_ne ndp).trans upd_same)
  obtain ⟨v1, hv1, od1⟩ : ∃ v, atI [V.non, .str "a", .int (-1), .ref d] r1 = some v ∧ Od H1 v := by
    rcases (show r1 = 0 ∨ r1 = 1 ∨ r1 = 2 ∨ r1 = 3 by omega) with rfl | rfl | rfl | rfl
    · exact ⟨_, rfl, Od.flat .non (fun _ z => nomatch z) rfl⟩
    · exact ⟨_, rfl, Od.flat (.str _) (fun _ z => nomatch z) rfl⟩
    · exact ⟨_, rfl, Od.flat (.int _) (fun _ z => nomatch z) rfl⟩
    · exact ⟨_, rfl, Od.dK ed⟩
  trivial
  intro r2 H2 r20 r21 ho3 hk2
  have k3 : Kp (Nh h) H H2 := k2.trans (Kp.hand hk2)
  have od2 := od1.hand ho2 ho3 (Kp.hand hk2)
  trivial
  refine for_it walk_range (fun i σ H' => ∃ v w, σ = [some (.ref h), some v, w] ∧ Od H' v ∧ HandOk H' h l ∧ Kp (Nh h) H H') ⟨v1, none, rfl, od2, ho3, k3⟩ (fun _ _ _ _ _ => True.intro) (fun i x σ H3 H4 hi q y => ?_) fun σ H3 q => ?_
  · obtain ⟨v, w, rfl, od, ho4, k4⟩ := q
    obtain ⟨rfl, rfl⟩ := y
    trivial
    intro a1 n1
    trivial
    intro a2 n2
    trivial
    intro a3 n3
    trivial
    intro a4 H5 s5 e4
    trivial
    intro a5 n5
    have s45 : Same H4 H5 := (((same_new0 n1).trans (same_new0 n2)).trans (same_new0 n3)).trans s5
    have e1 : H5 a1 = some (.tup [v]) := (((same_new0 n2).trans (same_new0 n3)).trans s5) _ _ upd_same
    have e2 : H5 a2 = some (.lst [v]) := ((same_new0 n3).trans s5) _ _ upd_same
    have e4' : H5 a4 = some (.tup [v]) := by rw [e4]; rfl
    trivial
    refine ⟨[(Sum.inl 0, v)], rfl, (by show 1 ≤ 15; decide), ?_⟩
    trivial
    intro a6 n6
    have sf : Same H5 (upd (upd (upd H5 a5 (.dK [])) a5 (.dK (mergeK [] [(Sum.inl 0, v)]))) a6 (.lst [.ref a1, .ref a2, .ref a4, .ref a5])) := snew (sput (same_new0 n5) n5) n6
    have ho5 := (ho4.same s45).same sf
    have n64 : H4 a6 = none := (s45.trans (sput (same_new0 n5) n5)).free n6
    have nah := ho4.ne n64
    have n54 : H4 a5 = none := s45.free n5
    have nd5 : a5 ≠ a6 := ne_of_none upd_same n6
    trivial
    intro r6 H6 r60 r61 ho6 hk6
    have k6 : Kp (Nh h) _ H6 := Kp.hand hk6
    have e6 : H6 a6 = some (.lst [.ref a1, .ref a2, .ref a4, .ref a5]) := (hk6 a6 nah).trans upd_same
    have od6 := ((od.same s45).same sf).hand ho5 ho6 k6
    have f1 := k6 _ _ (sf _ _ e1) (ho4.ne n1)
    have f2 := k6 _ _ (sf _ _ e2) (ho4.ne ((same_new0 n1).free n2))
    have f4 := k6 _ _ (sf _ _ e4') (fun z => by
      obtain ⟨⟨ys, q⟩, _⟩ := ho4.lst
      have q5 := s45 _ _ q
      rw [z] at e4'
      rw [q5] at e4'
      cases e4')
    have f5 : H6 a5 = some (.dK (mergeK [] [(Sum.inl 0, v)])) := (hk6 a5 (ho4.ne n54)).trans ((upd_ne nd5).trans upd_same)
    obtain ⟨v2, hv2, od2⟩ : ∃ v2, atI [V.ref a1, .ref a2, .ref a4, .ref a5] r6 = some v2 ∧ Od H6 v2 := by
      rcases (show r6 = 0 ∨ r6 = 1 ∨ r6 = 2 ∨ r6 = 3 by omega) with rfl | rfl | rfl | rfl
      · exact ⟨_, rfl, od6.tup f1⟩
      · exact ⟨_, rfl, Od.lst f2⟩
      · exact ⟨_, rfl, od6.tup f4⟩
      · exact ⟨_, rfl, Od.dK f5⟩
    trivial
    exact (k4.trans (kp_same (s45.trans sf))).trans k6
  · obtain ⟨v, w, rfl, od, ho4, k4⟩ := q
    trivial
    exact k v _ od ho4 k4
end
end KQ
set_option Elab.async false
set_option maxRecDepth 100000
set_option maxHeartbeats 4000000
namespace KQ
open PySem PySem.Spec PyProof.Rows L2
local macro_rules | `(tactic| trivial) => `(tactic| repeat (first | refine sl_go (by (first | assumption | exact upd_same | (rw [upd_ne (by first | assumption | exact Ne.symm (by assumption))]; first | assumption | exact upd_same | (rw [upd_ne (by first | assumption | exact Ne.symm (by assumption))]; first | assumption | exact upd_same)))) ?_ | (unfold tNoPart; refine sl_go (by (first | assumption | exact upd_same | (rw [upd_ne (by first | assumption | exact Ne.symm (by assumption))]; first | assumption | exact upd_same | (rw [upd_ne (by first | assumption | exact Ne.symm (by assumption))]; first | assumption | exact upd_same)))) ?_) | refine cat_go (by (first | assumption | exact upd_same | (rw [upd_ne (by first | assumption | exact Ne.symm (by assumption))]; first | assumption | exact upd_same | (rw [upd_ne (by first | assumption | exact Ne.symm (by assumption))]; first | assumption | exact upd_same)))) (by (first | assumption | exact upd_same | (rw [upd_ne (by first | assumption | exact Ne.symm (by assumption))]; first | assumption | exact upd_same | (rw [upd_ne (by first | assumption | exact Ne.symm (by assumption))]; first | assumption | exact upd_same)))) ?_ ?_ | (apply And.intro; focus (first | rfl | assumption | exact upd_same | exact SqL.of (by (first | assumption | exact upd_same | (rw [upd_ne (by first | assumption | exact Ne.symm (by assumption))]; first | assumption | exact upd_same | (rw [upd_ne (by first | assumption | exact Ne.symm (by assumption))]; first | assumption | exact upd_same)))) | exact SqT.of (by (first | assumption | exact upd_same | (rw [upd_ne (by first | assumption | exact Ne.symm (by assumption))]; first | assumption | exact upd_same | (rw [upd_ne (by first | assumption | exact Ne.symm (by assumption))]; first | assumption | exact upd_same)))) | exact Or.inl (SqL.of (by (first | assumption | exact upd_same | (rw [upd_ne (by first | assumption | exact Ne.symm (by assumption))]; first | assumption | exact upd_same | (rw [upd_ne (by first | assumption | exact Ne.symm (by assumption))]; first | assumption | exact upd_same))))) | exact Or.inr (SqT.of (by (first | assumption | exact upd_same | (rw [upd_ne (by first | assumption | exact Ne.symm (by assumption))]; first | assumption | exact upd_same | (rw [upd_ne (by first | assumption | exact Ne.symm (by assumption))]; first | assumption | exact upd_same))))) | exact Or.inl ⟨rfl, _, SqL.of (by (first | assumption | exact upd_same | (rw [upd_ne (by first | assumption | exact Ne.symm (by assumption))]; first | assumption | exact upd_same | (rw [upd_ne (by first | assumption | exact Ne.symm (by assumption))]; first | assumption | exact upd_same))))⟩ | (first | assumption | exact upd_same | (rw [upd_ne (by first | assumption | exact Ne.symm (by assumption))]; first | assumption | exact upd_same | (rw [upd_ne (by first | assumption | exact Ne.symm (by assumption))]; first | assumption | exact upd_same))) | decide | exact Nat.le_of_ble_eq_true rfl | omega | (show ∃ xs, SqL _ _ _ xs; exact ⟨_, SqL.of (by (first | assumption | exact upd_same | (rw [upd_ne (by first | assumption | exact Ne.symm (by assumption))]; first | assumption | exact upd_same | (rw [upd_ne (by first | assumption | exact Ne.symm (by assumption))]; first | assumption | exact upd_same))))⟩) | (show ∃ xs, SqT _ _ _ xs; exact ⟨_, SqT.of (by (first | assumption | exact upd_same | (rw [upd_ne (by first | assumption | exact Ne.symm (by assumption))]; first | assumption | exact upd_same | (rw [upd_ne (by first | assumption | exact Ne.symm (by assumption))]; first | assumption | exact upd_same))))⟩) | exact DGet.k (k := Sum.inl _) (by (first | assumption | exact upd_same | (rw [upd_ne (by first | assumption | exact Ne.symm (by assumption))]; first | assumption | exact upd_same | (rw [upd_ne (by first | assumption | exact Ne.symm (by assumption))]; first | assumption | exact upd_same)))) | (show V.int _ = kV (Sum.inl _); rfl) | (show ∃ z, V.str _ = V.str z; exact ⟨_, rfl⟩) | exact Or.inl ⟨by (first | decide | omega), by (first | decide | omega)⟩ | exact Or.inr ⟨by (first | decide | omega), by (first | decide | omega)⟩ | exact ⟨by (first | decide | omega), by (first | decide | omega)⟩ | exact ⟨by decide, by decide, by decide⟩ | exact L2.ClsV.ty _ | exact Dt.ty (by assumption) | exact Dt.kint (by assumption) | exact Dt.kbool (by assumption) | exact Dt.ktuple (by assumption) | exact Dt.klist (by assumption) | exact Dt.kstr (by assumption))) | (apply Exists.intro; apply And.intro; focus (first | rfl | assumption | exact upd_same | exact SqL.of (by (first | assumption | exact upd_same | (rw [upd_ne (by first | assumption | exact Ne.symm (by assumption))]; first | assumption | exact upd_same | (rw [upd_ne (by first | assumption | exact Ne.symm (by assumption))]; first | assumption | exact upd_same)))) | exact SqT.of (by (first | assumption | exact upd_same | (rw [upd_ne (by first | assumption | exact Ne.symm (by assumption))]; first | assumption | exact upd_same | (rw [upd_ne (by first | assumption | exact Ne.symm (by assumption))]; first | assumption | exact upd_same)))) | exact Or.inl (SqL.of (by (first | assumption | exact upd_same | (rw [upd_ne (by first | assumption | exact Ne.symm (by assumption))]; first | assumption | exact upd_same | (rw [upd_ne (by first | assumption | exact Ne.symm (by assumption))]; first | assumption | exact upd_same))))) | exact Or.inr (SqT.of (by (first | assumption | exact upd_same | (rw [upd_ne (by first | assumption | exact Ne.symm (by assumption))]; first | assumption | exact upd_same | (rw [upd_ne (by first | assumption | exact Ne.symm (by assumption))]; first | assumption | exact upd_same))))) | exact Or.inl ⟨rfl, _, SqL.of (by (first | assumption | exact upd_same | (rw [upd_ne (by first | assumption | exact Ne.symm (by assumption))]; first | assumption | exact upd_same | (rw [upd_ne (by first | assumption | exact Ne.symm (by assumption))]; first | assumption | exact upd_same))))⟩ | (first | assumption | exact upd_same | (rw [upd_ne (by first | assumption | exact Ne.symm (by assumption))]; first | assumption | exact upd_same | (rw [upd_ne (by first | assumption | exact Ne.symm (by assumption))]; first | assumption | exact upd_same))) | decide | exact Nat.le_of_ble_eq_true rfl | omega | (show ∃ xs, SqL _ _ _ xs; exact ⟨_, SqL.of (by (first | assumption | exact upd_same | (rw [upd_ne (by first | assumption | exact Ne.symm (by assumption))]; first | assumption | exact upd_same | (rw [upd_ne (by first | assumption | exact Ne.symm (by assumption))]; first | assumption | exact upd_same))))⟩) | (show ∃ xs, SqT _ _ _ xs; exact ⟨_, SqT.of (by (first | assumption | exact upd_same | (rw [upd_ne (by first | assumption | exact Ne.symm (by assumption))]; first | assumption | exact upd_same | (rw [upd_ne (by first | assumption | exact Ne.symm (by assumption))]; first | assumption | exact upd_same))))⟩) | exact DGet.k (k := Sum.inl _) (by (first | assumption | exact upd_same | (rw [upd_ne (by first | assumption | exact Ne.symm (by assumption))]; first | assumption | exact upd_same | (rw [upd_ne (by first | assumption | exact Ne.symm (by assumption))]; first | assumption | exact upd_same)))) | (show V.int _ = kV (Sum.inl _); rfl) | (show ∃ z, V.str _ = V.str z; exact ⟨_, rfl⟩) | exact Or.inl ⟨by (first | decide | omega), by (first | decide | omega)⟩ | exact Or.inr ⟨by (first | decide | omega), by (first | decide | omega)⟩ | exact ⟨by (first | decide | omega), by (first | decide | omega)⟩ | exact ⟨by decide, by decide, by decide⟩ | exact L2.ClsV.ty _ | exact Dt.ty (by assumption) | exact Dt.kint (by assumption) | exact Dt.kbool (by assumption) | exact Dt.ktuple (by assumption) | exact Dt.klist (by assumption) | exact Dt.kstr (by assumption))) | (apply Exists.intro; apply Exists.intro; apply And.intro; focus (first | rfl | assumption | exact upd_same | exact SqL.of (by (first | assumption | exact upd_same | (rw [upd_ne (by first | assumption | exact Ne.symm (by assumption))]; first | assumption | exact upd_same | (rw [upd_ne (by first | assumption | exact Ne.symm (by assumption))]; first | assumption | exact upd_same)))) | exact SqT.of (by (first | assumption | exact upd_same | (rw [upd_ne (by first | assumption | exact Ne.symm (by assumption))]; first | assumption | exact upd_same | (rw [upd_ne (by first | assumption | exact Ne.symm (by assumption))]; first | assumption | exact upd_same)))) | exact Or.inl (SqL.of (by (first | assumption | exact upd_same | (rw [upd_ne (by first | assumption | exact Ne.symm (by assumption))]; first | assumption | exact upd_same | (rw [upd_ne (by first | assumption | exact Ne.symm (by assumption))]; first | assumption | exact upd_same))))) | exact Or.inr (SqT.of (by (first | assumption | exact upd_same | (rw [upd_ne (by first | assumption | exact Ne.symm (by assumption))]; first | assumption | exact upd_same | (rw [upd_ne (by first | assumption | exact Ne.symm (by assumption))]; first | assumption | exact upd_same))))) | exact Or.inl ⟨rfl, _, SqL.of (by (first | assumption | exact upd_same | (rw [upd_ne (by first | assumption | exact Ne.symm (by assumption))]; first | assumption | exact upd_same | (rw [upd_ne (by first | assumption | exact Ne.symm (by assumption))]; first | assumption | exact upd_same))))⟩ | (first | assumption | exact upd_same | (rw [upd_ne (by first | assumption | exact Ne.symm (by assumption))]; first | assumption | exact upd_same | (rw [upd_ne (by first | assumption | exact Ne.symm (by assumption))]; first | assumption | exact upd_same))) | decide | exact Nat.le_of_ble_eq_true rfl | omega | (show ∃ xs, SqL _ _ _ xs; exact ⟨_, SqL.of (by (first | assumption | exact upd_same | (rw [upd_ne (by first | assumption | exact Ne.symm (by assumption))]; first | assumption | exact upd_same | (rw [upd_ne (by first | assumption | exact Ne.symm (by assumption))]; first | assumption | exact upd_same))))⟩) | (show ∃ xs, SqT _ _ _ xs; exact ⟨_, SqT.of (by (first | assumption | exact upd_same | (rw [upd_ne (by first | assumption | exact Ne.symm (by assumption))]; first | assumption | exact upd_same | (rw [upd_ne (by first | assumption | exact Ne.symm (by assumption))]; first | assumption | exact upd_same))))⟩) | exact DGet.k (k := Sum.inl _) (by (first | assumption | exact upd_same | (rw [upd_ne (by first | assumption | exact Ne.symm (by assumption))]; first | assumption | exact upd_same | (rw [upd_ne (by first | assumption | exact Ne.symm (by assumption))]; first | assumption | exact upd_same)))) | (show V.int _ = kV (Sum.inl _); rfl) | (show ∃ z, V.str _ = V.str z; exact ⟨_, rfl⟩) | exact Or.inl ⟨by (first | decide | omega), by (first | decide | omega)⟩ | exact Or.inr ⟨by (first | decide | omega), by (first | decide | omega)⟩ | exact ⟨by (first | decide | omega), by (first | decide | omega)⟩ | exact ⟨by decide, by decide, by decide⟩ | exact L2.ClsV.ty _ | exact Dt.ty (by assumption) | exact Dt.kint (by assumption) | exact Dt.kbool (by assumption) | exact Dt.ktuple (by assumption) | exact Dt.klist (by assumption) | exact Dt.kstr (by assumption))) | (apply Exists.intro; apply Exists.intro; apply Exists.intro; apply And.intro; focus (first | rfl | assumption | exact upd_same | exact SqL.of (by (first | assumption | exact upd_same | (rw [upd_ne (by first | assumption | exact Ne.symm (by assumption))]; first | assumption | exact upd_same | (rw [upd_ne (by first | assumption | exact Ne.symm (by assumption))]; first | assumption | exact upd_same)))) | exact SqT.of (by (first | assumption | exact upd_same | (rw [upd_ne (by first | assumption | exact Ne.symm (by assumption))]; first | assumption | exact upd_same | (rw [upd_ne (by first | assumption | exact Ne.symm (by assumption))]; first | assumption | exact upd_same)))) | exact Or.inl (SqL.of (by (first | assumption | exact upd_same | (rw [upd_ne (by first | assumption | exact Ne.symm (by assumption))]; first | assumption | exact upd_same | (rw [upd_ne (by first | assumption | exact Ne.symm (by assumption))]; first | assumption | exact upd_same))))) | exact Or.inr (SqT.of (by (first | assumption | exact upd_same | (rw [upd_ne (by first | assumption | exact Ne.symm (by assumption))]; first | assumption | exact upd_same | (rw [upd_ne (by first | assumption | exact Ne.symm (by assumption))]; first | assumption | exact upd_same))))) | exact Or.inl ⟨rfl, _, SqL.of (by (first | assumption | exact upd_same | (rw [upd_ne (by first | assumption | exact Ne.symm (by assumption))]; first | assumption | exact upd_same | (rw [upd_ne (by first | assumption | exact Ne.symm (by assumption))]; first | assumption | exact upd_same))))⟩ | (first | assumption | exact upd_same | (rw [upd_ne (by first | assumption | exact Ne.symm (by assumption))]; first | assumption | exact upd_same | (rw [upd_ne (by first | assumption | exact Ne.symm (by assumption))]; first | assumption | exact upd_same))) | decide | exact Nat.le_of_ble_eq_true rfl | omega | (show ∃ xs, SqL _ _ _ xs; exact ⟨_, SqL.of (by (first | assumption | exact upd_same | (rw [upd_ne (by first | assumption | exact Ne.symm (by assumption))]; first | assumption | exact upd_same | (rw [upd_ne (by first | assumption | exact Ne.symm (by assumption))]; first | assumption | exact upd_same))))⟩) | (show ∃ xs, SqT _ _ _ xs; exact ⟨_, SqT.of (by (first | assumption | exact upd_same | (rw [upd_ne (by first | assumption | exact Ne.symm (by assumption))]; first | assumption | exact upd_same | (rw [upd_ne (by first | assumption | exact Ne.symm (by assumption))]; first | assumption | exact upd_same))))⟩) | exact DGet.k (k := Sum.inl _) (by (first | assumption | exact upd_same | (rw [upd_ne (by first | assumption | exact Ne.symm (by assumption))]; first | assumption | exact upd_same | (rw [upd_ne (by first | assumption | exact Ne.symm (by assumption))]; first | assumption | exact upd_same)))) | (show V.int _ = kV (Sum.inl _); rfl) | (show ∃ z, V.str _ = V.str z; exact ⟨_, rfl⟩) | exact Or.inl ⟨by (first | decide | omega), by (first | decide | omega)⟩ | exact Or.inr ⟨by (first | decide | omega), by (first | decide | omega)⟩ | exact ⟨by (first | decide | omega), by (first | decide | omega)⟩ | exact ⟨by decide, by decide, by decide⟩ | exact L2.ClsV.ty _ | exact Dt.ty (by assumption) | exact Dt.kint (by assumption) | exact Dt.kbool (by assumption) | exact Dt.ktuple (by assumption) | exact Dt.klist (by assumption) | exact Dt.kstr (by assumption))) | (apply Exists.intro; apply Exists.intro; apply Exists.intro; apply Exists.intro; apply And.intro; focus (first | rfl | assumption | exact upd_same | exact SqL.of (by (first | assumption | exact upd_same | (rw [upd_ne (by first | assumption | exact Ne.symm (by assumption))]; first | assumption | exact upd_same | (rw [upd_ne (by first | assumption | exact Ne.symm (by assumption))]; first | assumption | exact upd_same)))) | exact SqT.of (by (first | assumption | exact upd_same | (rw [upd_ne (by first | assumption | exact Ne.symm (by assumption))]; first | assumption | exact upd_same | (rw [upd_ne (by first | assumption | exact Ne.symm (by assumption))]; first | assumption | exact upd_same)))) | exact Or.inl (SqL.of (by (first | assumption | exact upd_same | (rw [upd_ne (by first | assumption | exact Ne.symm (by assumption))]; first | assumption | exact upd_same | (rw [upd_ne (by first | assumption | exact Ne.symm (by assumption))]; first | assumption | exact upd_same))))) | exact Or.inr (SqT.of (by (first | assumption | exact upd_same | (rw [upd_ne (by first | assumption | exact Ne.symm (by assumption))]; first | assumption | exact upd_same | (rw [upd_ne (by first | assumption | exact Ne.symm (by assumption))]; first | assumption | exact upd_same))))) | exact Or.inl ⟨rfl, _, SqL.of (by (first | assumption | exact upd_same | (rw [upd_ne (by first | assumption | exact Ne.symm (by assumption))]; first | assumption | exact upd_same | (rw [upd_ne (by first | assumption | exact Ne.symm (by assumption))]; first | assumption | exact upd_same))))⟩ | (first | assumption | exact upd_same | (rw [upd_ne (by first | assumption | exact Ne.symm (by assumption))]; first | assumption | exact upd_same | (rw [upd_ne (by first | assumption | exact Ne.symm (by assumption))]; first | assumption | exact upd_same))) | decide | exact Nat.le_of_ble_eq_true rfl | omega | (show ∃ xs, SqL _ _ _ xs; exact ⟨_, SqL.of (by (first | assumption | exact upd_same | (rw [upd_ne (by first | assumption | exact Ne.symm (by assumption))]; first | assumption | exact upd_same | (rw [upd_ne (by first | assumption | exact Ne.symm (by assumption))]; first | assumption | exact upd_same))))⟩) | (show ∃ xs, SqT _ _ _ xs; exact ⟨_, SqT.of (by (first | assumption | exact upd_same | (rw [upd_ne (by first | assumption | exact Ne.symm (by assumption))]; first | assumption | exact upd_same | (rw [upd_ne (by first | assumption | exact Ne.symm (by assumption))]; first | assumption | exact upd_same))))⟩) | exact DGet.k (k := Sum.inl _) (by (first | assumption | exact upd_same | (rw [upd_ne (by first | assumption | exact Ne.symm (by assumption))]; first | assumption | exact upd_same | (rw [upd_ne (by first | assumption | exact Ne.symm (by assumption))]; first | assumption | exact upd_same)))) | (show V.int _ = kV (Sum.inl _); rfl) | (show ∃ z, V.str _ = V.str z; exact ⟨_, rfl⟩) | exact Or.inl ⟨by (first | decide | omega), by (first | decide | omega)⟩ | exact Or.inr ⟨by (first | decide | omega), by (first | decide | omega)⟩ | exact ⟨by (first | decide | omega), by (first | decide | omega)⟩ | exact ⟨by decide, by decide, by decide⟩ | exact L2.ClsV.ty _ | exact Dt.ty (by assumption) | exact Dt.kint (by assumption) | exact Dt.kbool (by assumption) | exact Dt.ktuple (by assumption) | exact Dt.klist (by assumption) | exact Dt.kstr (by assumption))) | (apply Exists.intro; apply Exists.intro; apply Exists.intro; apply Exists.intro; apply Exists.intro; apply And.intro; focus (first | rfl | assumption | exact upd_same | exact SqL.of (by (first | assumption | exact upd_same | (rw [upd_ne (by first | assumption | exact Ne.symm (by assumption))]; first | assumption | exact upd_same | (rw [upd_ne (by first | assumption | exact Ne.symm (by assumption))]; first | assumption | exact upd_same)))) | exact SqT.of (by (first | assumption | exact upd_same | (rw [upd_ne (by first | assumption | exact Ne.symm (by assumption))]; first | assumption | exact upd_same | (rw [upd_ne (by first | assumption | exact Ne.symm (by assumption))]; first | assumption | exact upd_same)))) | exact Or.inl (SqL.of (by (first | assumption | exact upd_same | (rw [upd_ne (by first | assumption | exact Ne.symm (by assumption))]; first | assumption | exact upd_same | (rw [upd_ne (by first | assumption | exact Ne.symm (by assumption))]; first | assumption | exact upd_same))))) | exact Or.inr (SqT.of (by (first | assumption | exact upd_same | (rw [upd_ne (by first | assumption | exact Ne.symm (by assumption))]; first | assumption | exact upd_same | (rw [upd_ne (by first | assumption | exact Ne.symm (by assumption))]; first | assumption | exact upd_same))))) | exact Or.inl ⟨rfl, _, SqL.of (by (first | assumption | exact upd_same | (rw [upd_ne (by first | assumption | exact Ne.symm (by assumption))]; first | assumption | exact upd_same | (rw [upd_ne (by first | assumption | exact Ne.symm (by assumption))]; first | assumption | exact upd_same))))⟩ | (first | assumption | exact upd_same | (rw [upd_ne (by first | assumption | exact Ne.symm (by assumption))]; first | assumption | exact upd_same | (rw [upd_ne (by first | assumption | exact Ne.symm (by assumption))]; first | assumption | exact upd_same))) | decide | exact Nat.le_of_ble_eq_true rfl | omega | (show ∃ xs, SqL _ _ _ xs; exact ⟨_, SqL.of (by (first | assumption | exact upd_same | (rw [upd_ne (by first | assumption | exact Ne.symm (by assumption))]; first | assumption | exact upd_same | (rw [upd_ne (by first | assumption | exact Ne.symm (by assumption))]; first | assumption | exact upd_same))))⟩) | (show ∃ xs, SqT _ _ _ xs; exact ⟨_, SqT.of (by (first | assumption | exact upd_same | (rw [upd_ne (by first | assumption | exact Ne.symm (by assumption))]; first | assumption | exact upd_same | (rw [upd_ne (by first | assumption | exact Ne.symm (by assumption))]; first | assumption | exact upd_same))))⟩) | exact DGet.k (k := Sum.inl _) (by (first | assumption | exact upd_same | (rw [upd_ne (by first | assumption | exact Ne.symm (by assumption))]; first | assumption | exact upd_same | (rw [upd_ne (by first | assumption | exact Ne.symm (by assumption))]; first | assumption | exact upd_same)))) | (show V.int _ = kV (Sum.inl _); rfl) | (show ∃ z, V.str _ = V.str z; exact ⟨_, rfl⟩) | exact Or.inl ⟨by (first | decide | omega), by (first | decide | omega)⟩ | exact Or.inr ⟨by (first | decide | omega), by (first | decide | omega)⟩ | exact ⟨by (first | decide | omega), by (first | decide | omega)⟩ | exact ⟨by decide, by decide, by decide⟩ | exact L2.ClsV.ty _ | exact Dt.ty (by assumption) | exact Dt.kint (by assumption) | exact Dt.kbool (by assumption) | exact Dt.ktuple (by assumption) | exact Dt.klist (by assumption) | exact Dt.kstr (by assumption))) | (apply Exists.intro; apply Exists.intro; apply Exists.intro; apply Exists.intro; apply Exists.intro; apply Exists.intro; apply And.intro; focus (first | rfl | assumption | exact upd_same | exact SqL.of (by (first | assumption | exact upd_same | (rw [upd_ne (by first | assumption | exact Ne.symm (by assumption))]; first | assumption | exact upd_same | (rw [upd_ne (by first | assumption | exact Ne.symm (by assumption))]; first | assumption | exact upd_same)))) | exact SqT.of (by (first | assumption | exact upd_same | (rw [upd_ne (by first | assumption | exact Ne.symm (by assumption))]; first | assumption | exact upd_same | (rw [upd_ne (by first | assumption | exact Ne.symm (by assumption))]; first | assumption | exact upd_same)))) | exact Or.inl (SqL.of (by (first | assumption | exact upd_same | (rw [upd_ne (by first | assumption | exact Ne.symm (by assumption))]; first | assumption | exact upd_same | (rw [upd_ne (by first | assumption | exact Ne.symm (by assumption))]; first | assumption | exact upd_same))))) | exact Or.inr (SqT.of (by (first | assumption | exact upd_same | (rw [upd_ne (by first | assumption | exact Ne.symm (by assumption))]; first | assumption | exact upd_same | (rw [upd_ne (by first | assumption | exact Ne.symm (by assumption))]; first | assumption | exact upd_same))))) | exact Or.inl ⟨rfl, _, SqL.of (by (first | assumption | exact upd_same | (rw [upd_ne (by first | assumption | exact Ne.symm (by assumption))]; first | assumption | exact upd_same | (rw [upd_ne (by first | assumption | exact Ne.symm (by assumption))]; first | assumption | exact upd_same))))⟩ | (first | assumption | exact upd_same | (rw [upd_ne (by first | assumption | exact Ne.symm (by assumption))]; first | assumption | exact upd_same | (rw [upd_ne (by first | assumption | exact Ne.symm (by assumption))]; first | assumption | exact upd_same))) | decide | exact Nat.le_of_ble_eq_true rfl | omega | (show ∃ xs, SqL _ _ _ xs; exact ⟨_, SqL.of (by (first | assumption | exact upd_same | (rw [upd_ne (by first | assumption | exact Ne.symm (by assumption))]; first | assumption | exact upd_same | (rw [upd_ne (by first | assumption | exact Ne.symm (by assumption))]; first | assumption | exact upd_same))))⟩) | (show ∃ xs, SqT _ _ _ xs; exact ⟨_, SqT.of (by (first | assumption | exact upd_same | (rw [upd_ne (by first | assumption | exact Ne.symm (by assumption))]; first | assumption | exact upd_same | (rw [upd_ne (by first | assumption | exact Ne.symm (by assumption))]; first | assumption | exact upd_same))))⟩) | exact DGet.k (k := Sum.inl _) (by (first | assumption | exact upd_same | (rw [upd_ne (by first | assumption | exact Ne.symm (by assumption))]; first | assumption | exact upd_same | (rw [upd_ne (by first | assumption | exact Ne.symm (by assumption))]; first | assumption | exact upd_same)))) | (show V.int _ = kV (Sum.inl _); rfl) | (show ∃ z, V.str _ = V.str z; exact ⟨_, rfl⟩) | exact Or.inl ⟨by (first | decide | omega), by (first | decide | omega)⟩ | exact Or.inr ⟨by (first | decide | omega), by (first | decide | omega)⟩ | exact ⟨by (first | decide | omega), by (first | decide | omega)⟩ | exact ⟨by decide, by decide, by decide⟩ | exact L2.ClsV.ty _ | exact Dt.ty (by assumption) | exact Dt.kint (by assumption) | exact Dt.kbool (by assumption) | exact Dt.ktuple (by assumption) | exact Dt.klist (by assumption) | exact Dt.kstr (by assumption))) | (apply Exists.intro; apply Exists.intro; apply Exists.intro; apply Exists.intro; apply Exists.intro; apply Exists.intro; apply Exists.intro; apply And.intro; focus (first | rfl | assumption | exact upd_same | exact SqL.of (by (first | assumption | exact upd_same | (rw [upd_ne (by first | assumption | exact Ne.symm (by assumption))]; first | assumption | exact upd_same | (rw [upd_ne (by first | assumption | exact Ne.symm (by assumption))]; first | assumption | exact upd_same)))) | exact SqT.of (by (first | assumption | exact upd_same | (rw [upd_ne (by first | assumption | exact Ne.symm (by assumption))]; first | assumption | exact upd_same | (rw [upd_ne (by first | assumption | exact Ne.symm (by assumption))]; first | assumption | exact upd_same)))) | exact Or.inl (SqL.of (by (first | assumption | exact upd_same | (rw [upd_ne (by first | assumption | exact Ne.symm (by assumption))]; first | assumption | exact upd_same | (rw [upd_ne (by first | assumption | exact Ne.symm (by assumption))]; first | assumption | exact upd_same))))) | exact Or.inr (SqT.of (by (first | assumption | exact upd_same | (rw [upd_ne (by first | assumption | exact Ne.symm (by assumption))]; first | assumption | exact upd_same | (rw [upd_ne (by first | assumption | exact Ne.symm (by assumption))]; first | assumption | exact upd_same))))) | exact Or.inl ⟨rfl, _, SqL.of (by (first | assumption | exact upd_same | (rw [upd_ne (by first | assumption | exact Ne.symm (by assumption))]; first | assumption | exact upd_same | (rw [upd_ne (by first | assumption | exact Ne.symm (by assumption))]; first | assumption | exact upd_same))))⟩ | (first | assumption | exact upd_same | (rw [upd_ne (by first | assumption | exact Ne.symm (by assumption))]; first | assumption | exact upd_same | (rw [upd_ne (by first | assumption | exact Ne.symm (by assumption))]; first | assumption | exact upd_same))) | decide | exact Nat.le_of_ble_eq_true rfl | omega | (show ∃ xs, SqL _ _ _ xs; exact ⟨_, SqL.of (by (first | assumption | exact upd_same | (rw [upd_ne (by first | assumption | exact Ne.symm (by assumption))]; first | assumption | exact upd_same | (rw [upd_ne (by first | assumption | exact Ne.symm (by assumption))]; first | assumption | exact upd_same))))⟩) | (show ∃ xs, SqT _ _ _ xs; exact ⟨_, SqT.of (by (first | assumption | exact upd_same | (rw [upd_ne (by first | assumption | exact Ne.symm (by assumption))]; first | assumption | exact upd_same | (rw [upd_ne (by first | assumption | exact Ne.symm (by assumption))]; first | assumption | exact upd_same))))⟩) | exact DGet.k (k := Sum.inl _) (by (first | assumption | exact upd_same | (rw [upd_ne (by first | assumption | exact Ne.symm (by assumption))]; first | assumption | exact upd_same | (rw [upd_ne (by first | assumption | exact Ne.symm (by assumption))]; first | assumption | exact upd_same)))) | (show V.int _ = kV (Sum.inl _); rfl) | (show ∃ z, V.str _ = V.str z; exact ⟨_, rfl⟩) | exact Or.inl ⟨by (first | decide | omega), by (first | decide | omega)⟩ | exact Or.inr ⟨by (first | decide | omega), by (first | decide | omega)⟩ | exact ⟨by (first | decide | omega), by (first | decide | omega)⟩ | exact ⟨by decide, by decide, by decide⟩ | exact L2.ClsV.ty _ | exact Dt.ty (by assumption) | exact Dt.kint (by assumption) | exact Dt.kbool (by assumption) | exact Dt.ktuple (by assumption) | exact Dt.klist (by assumption) | exact Dt.kstr (by assumption))) | (apply Exists.intro; apply Exists.intro; apply Exists.intro; apply Exists.intro; apply Exists.intro; apply Exists.intro; apply Exists.intro; apply Exists.intro; apply And.intro; focus (first | rfl | assumption | exact upd_same | exact SqL.of (by (first | assumption | exact upd_same | (rw [upd_ne (by first | assumption | exact Ne.symm (by assumption))]; first | assumption | exact upd_same | (rw [upd_ne (by first | assumption | exact Ne.symm (by assumption))]; first | assumption | exact upd_same)))) | exact SqT.of (by (first | assumption | exact upd_same | (rw [upd_ne (by first | assumption | exact Ne.symm (by assumption))]; first | assumption | exact upd_same | (rw [upd_ne (by first | assumption | exact Ne.symm (by assumption))]; first | assumption | exact upd_same)))) | exact Or.inl (SqL.of (by (first | assumption | exact upd_same | (rw [upd_ne (by first | assumption | exact Ne.symm (by assumption))]; first | assumption | exact upd_same | (rw [upd_ne (by first | assumption | exact Ne.symm (by assumption))]; first | assumption | exact upd_same))))) | exact Or.inr (SqT.of (by (first | assumption | exact upd_same | (rw [upd_ne (by first | assumption | exact Ne.symm (by assumption))]; first | assumption | exact upd_same | (rw [upd_ne (by first | assumption | exact Ne.symm (by assumption))]; first | assumption | exact upd_same))))) | exact Or.inl ⟨rfl, _, SqL.of (by (first | assumption | exact upd_same | (rw [upd_ne (by first | assumption | exact Ne.symm (by assumption))]; first | assumption | exact upd_same | (rw [upd_ne (by first | assumption | exact Ne.symm (by assumption))]; first | assumption | exact upd_same))))⟩ | (first | assumption | exact upd_same | (rw [upd_ne (by first | assumption | exact Ne.symm (by assumption))]; first | assumption | exact upd_same | (rw [upd_ne (by first | assumption | exact Ne.symm (by assumption))]; first | assumption | exact upd_same))) | decide | exact Nat.le_of_ble_eq_true rfl | omega | (show ∃ xs, SqL _ _ _ xs; exact ⟨_, SqL.of (by (first | assumption | exact upd_same | (rw [upd_ne (by first | assumption | exact Ne.symm (by assumption))]; first | assumption | exact upd_same | (rw [upd_ne (by first | assumption | exact Ne.symm (by assumption))]; first | assumption | exact upd_same))))⟩) | (show ∃ xs, SqT _ _ _ xs; exact ⟨_, SqT.of (by (first | assumption | exact upd_same | (rw [upd_ne (by first | assumption | exact Ne.symm (by assumption))]; first | assumption | exact upd_same | (rw [upd_ne (by first | assumption | exact Ne.symm (by assumption))]; first | assumption | exact upd_same))))⟩) | exact DGet.k (k := Sum.inl _) (by (first | assumption | exact upd_same | (rw [upd_ne (by first | assumption | exact Ne.symm (by assumption))]; first | assumption | exact upd_same | (rw [upd_ne (by first | assumption | exact Ne.symm (by assumption))]; first | assumption | exact upd_same)))) | (show V.int _ = kV (Sum.inl _); rfl) | (show ∃ z, V.str _ = V.str z; exact ⟨_, rfl⟩) | exact Or.inl ⟨by (first | decide | omega), by (first | decide | omega)⟩ | exact Or.inr ⟨by (first | decide | omega), by (first | decide | omega)⟩ | exact ⟨by (first | decide | omega), by (first | decide | omega)⟩ | exact ⟨by decide, by decide, by decide⟩ | exact L2.ClsV.ty _ | exact Dt.ty (by assumption) | exact Dt.kint (by assumption) | exact Dt.kbool (by assumption) | exact Dt.ktuple (by assumption) | exact Dt.klist (by assumption) | exact Dt.kstr (by assumption))) | (apply Exists.intro; apply Exists.intro; apply Exists.intro; apply Exists.intro; apply Exists.intro; apply Exists.intro; apply Exists.intro; apply Exists.intro; apply Exists.intro; apply And.intro; focus (first | rfl | assumption | exact upd_same | exact SqL.of (by (first | assumption | exact upd_same | (rw [upd_ne (by first | assumption | exact Ne.symm (by assumption))]; first | assumption | exact upd_same | (rw [upd_ne (by first | assumption | exact Ne.symm (by assumption))]; first | assumption | exact upd_same)))) | exact SqT.of (by (first | assumption | exact upd_same | (rw [upd_ne (by first | assumption | exact Ne.symm (by assumption))]; first | assumption | exact upd_same | (rw [upd_ne (by first | assumption | exact Ne.symm (by assumption))]; first | assumption | exact upd_same)))) | exact Or.inl (SqL.of (by (first | assumption | exact upd_same | (rw [upd_ne (by first | assumption | exact Ne.symm (by assumption))]; first | assumption | exact upd_same | (rw [upd_ne (by first | assumption | exact Ne.symm (by assumption))]; first | assumption | exact upd_same))))) | exact Or.inr (SqT.of (by (first | assumption | exact upd_same | (rw [upd_ne (by first | assumption | exact Ne.symm (by assumption))]; first | assumption | exact upd_same | (rw [upd_ne (by first | assumption | exact Ne.symm (by assumption))]; first | assumption | exact upd_same))))) | exact Or.inl ⟨rfl, _, SqL.of (by (first | assumption | exact upd_same | (rw [upd_ne (by first | assumption | exact Ne.symm (by assumption))]; first | assumption | exact upd_same | (rw [upd_ne (by first | assumption | exact Ne.symm (by assumption))]; first | assumption | exact upd_same))))⟩ | (first | assumption | exact upd_same | (rw [upd_ne (by first | assumption | exact Ne.symm (by assumption))]; first | assumption | exact upd_same | (rw [upd_ne (by first | assumption | exact Ne.symm (by assumption))]; first | assumption | exact upd_same))) | decide | exact Nat.le_of_ble_eq_true rfl | omega | (show ∃ xs, SqL _ _ _ xs; exact ⟨_, SqL.of (by (first | assumption | exact upd_same | (rw [upd_ne (by first | assumption | exact Ne.symm (by assumption))]; first | assumption | exact upd_same | (rw [upd_ne (by first | assumption | exact Ne.symm (by assumption))]; first | assumption | exact upd_same))))⟩) | (show ∃ xs, SqT _ _ _ xs; exact ⟨_, SqT.of (by (first | assumption | exact upd_same | (rw [upd_ne (by first | assumption | exact Ne.symm (by assumption))]; first | assumption | exact upd_same | (rw [upd_ne (by first | assumption | exact Ne.symm (by assumption))]; first | assumption | exact upd_same))))⟩) | exact DGet.k (k := Sum.inl _) (by (first | assumption | exact upd_same | (rw [upd_ne (by first | assumption | exact Ne.symm (by assumption))]; first | assumption | exact upd_same | (rw [upd_ne (by first | assumption | exact Ne.symm (by assumption))]; first | assumption | exact upd_same)))) | (show V.int _ = kV (Sum.inl _); rfl) | (show ∃ z, V.str _ = V.str z; exact ⟨_, rfl⟩) | exact Or.inl ⟨by (first | decide | omega), by (first | decide | omega)⟩ | exact Or.inr ⟨by (first | decide | omega), by (first | decide | omega)⟩ | exact ⟨by (first | decide | omega), by (first | decide | omega)⟩ | exact ⟨by decide, by decide, by decide⟩ | exact L2.ClsV.ty _ | exact Dt.ty (by assumption) | exact Dt.kint (by assumption) | exact Dt.kbool (by assumption) | exact Dt.ktuple (by assumption) | exact Dt.klist (by assumption) | exact Dt.kstr (by assumption))) | refine Or.inl ⟨_, rfl, ?_⟩ | refine Or.inr ⟨_, rfl, ?_⟩ | refine Or.inr ⟨SqT.of (by (first | assumption | exact upd_same | (rw [upd_ne (by first | assumption | exact Ne.symm (by assumption))]; first | assumption | exact upd_same | (rw [upd_ne (by first | assumption | exact Ne.symm (by assumption))]; first | assumption | exact upd_same)))), SqT.of (by (first | assumption | exact upd_same | (rw [upd_ne (by first | assumption | exact Ne.symm (by assumption))]; first | assumption | exact upd_same | (rw [upd_ne (by first | assumption | exact Ne.symm (by assumption))]; first | assumption | exact upd_same)))), ?_⟩ | refine Or.inl ⟨SqL.of (by (first | assumption | exact upd_same | (rw [upd_ne (by first | assumption | exact Ne.symm (by assumption))]; first | assumption | exact upd_same | (rw [upd_ne (by first | assumption | exact Ne.symm (by assumption))]; first | assumption | exact upd_same)))), SqL.of (by (first | assumption | exact upd_same | (rw [upd_ne (by first | assumption | exact Ne.symm (by assumption))]; first | assumption | exact upd_same | (rw [upd_ne (by first | assumption | exact Ne.symm (by assumption))]; first | assumption | exact upd_same)))), ?_⟩ | refine Or.inl ⟨SqL.of (by (first | assumption | exact upd_same | (rw [upd_ne (by first | assumption | exact Ne.symm (by assumption))]; first | assumption | exact upd_same | (rw [upd_ne (by first | assumption | exact Ne.symm (by assumption))]; first | assumption | exact upd_same)))), ?_⟩ | refine Or.inr ⟨SqT.of (by (first | assumption | exact upd_same | (rw [upd_ne (by first | assumption | exact Ne.symm (by assumption))]; first | assumption | exact upd_same | (rw [upd_ne (by first | assumption | exact Ne.symm (by assumption))]; first | assumption | exact upd_same)))), ?_⟩ | refine ifT rfl ?_ | refine ifF rfl ?_))
/-- if it is a share, it is a small one -/
def SmT (H : Hp) (v : V) : Prop := ∀ a ns, v = .ref a → H a = some (.tup (ns.map V.int)) → Sh ns → SmS ns
def spSomeS : Sp := fun vs H Q _ => ∃ h l : Addr, vs = [.ref h] ∧ HandOk H h l ∧ ∀ (v : V) (H' : Hp), Tg H' v → SmT H' v → HandOk H' h l → Kp (Nh h) H H' → Q v H'
theorem Od.sm {H : Hp} {v : V} (o : Od H v) : SmT H v := fun a ns e h sh => by
  obtain ⟨x, hx, n⟩ := o.t a _ e h
  obtain ⟨q, hq, rfl⟩ := List.mem_map.mp hx
  have := sh.nn q hq
  simp [numV] at n
  omega
theorem sm_ints {H : Hp} {a : Addr} {ns : List Int} (e : H a = some (.tup (ns.map V.int))) (h : Sh ns → SmS ns) : SmT H (.ref a) := fun b ms z h2 sh => by
  cases z
  rw [e] at h2
  have : ns = ms := by
    have q := Option.some.inj h2
    injection q with q
    exact List.map_inj_right (fun x y e => by injection e) |>.mp q
  subst this
  exact h sh
theorem sm_flat {H : Hp} {v : V} (h : ∀ a, v ≠ .ref a) : SmT H v := fun a _ e => absurd e (h a)
theorem sm_lst {H : Hp} {a : Addr} {xs : List V} (h : H a = some (.lst xs)) : SmT H (.ref a) := fun b _ e h2 => by cases e; rw [h] at h2; cases h2
theorem sm_tup {H : Hp} {a : Addr} {xs : List V} (h : H a = some (.tup xs)) (n : xs.all numV = false) : SmT H (.ref a) := fun b ns e h2 sh => by
  cases e
  rw [h] at h2
  injection h2 with h2
  injection h2 with h2
  subst h2
  have : (ns.map V.int).all numV = true := by simp [numV]; exact sh.nn
  rw [this] at n
  cases n
theorem tg_flat {H : Hp} {v : V} {t : String} (d : Dt H v t) (h : ∀ a, v ≠ .ref a) : Tg H v := ⟨⟨t, d⟩, fun a xs e => absurd e (h a)⟩
theorem tg_lst {H : Hp} {a : Addr} {xs : List V} (h : H a = some (.lst xs)) : Tg H (.ref a) := ⟨⟨_, .lst h⟩, fun b ys e h2 => by cases e; rw [h] at h2; cases h2⟩
theorem tg_tup {H : Hp} {a : Addr} {xs : List V} (h : H a = some (.tup xs)) (hl : xs.length ≤ 1000) (hx : ∀ x ∈ xs, ∃ t, Dt H x t) : Tg H (.ref a) := ⟨⟨_, .tup h⟩, fun b ys e h2 => by cases e; rw [h] at h2; cases h2; exact ⟨hl, hx⟩⟩
structure Ok9 (H : Hp) (v : V) : Prop where
  g : Tg H v
  m : SmT H v
theorem Ok9.same {H H' : Hp} {v : V} (o : Ok9 H v) (s : Same H H') : Ok9 H' v := by
  refine ⟨o.g.same s, fun a ns e h sh => ?_⟩
  subst e
  obtain ⟨t, d⟩ := o.g.t
  refine o.m a ns rfl ?_ sh
  cases d with
  | lst e => rw [s _ _ e] at h; cases h
  | tup e => rw [s _ _ e] at h; rw [e, h]
  | dK e => rw [s _ _ e] at h; cases h
theorem Ok9.hand {H H' : Hp} {h l : Addr} {v : V} (o : Ok9 H v) (ho : HandOk H h l) (ho' : HandOk H' h l) (k : Kp (Nh h) H H') : Ok9 H' v := by
  refine ⟨o.g.hand ho ho' k, fun a ns e h2 sh => ?_⟩
  subst e
  obtain ⟨t, d⟩ := o.g.t
  exact o.m a ns rfl (tup_hand d ho ho' k h2) sh
theorem ok_flat {H : Hp} {v : V} {t : String} (d : Dt H v t) (h : ∀ a, v ≠ .ref a) : Ok9 H v := ⟨tg_flat d h, sm_flat h⟩
theorem ok_tup {H : Hp} {p : Addr} {xs : List V} (hl : xs.length ≤ 1000) (hx : ∀ x ∈ xs, ∃ t, Dt (upd H p (.tup xs)) x t) (h : ∀ ns, xs = ns.map V.int → Sh ns → SmS ns) : Ok9 (upd H p (.tup xs)) (.ref p) :=
  ⟨tg_tup upd_same hl hx, fun b ns e h2 sh => by cases e; rw [upd_same] at h2; injection h2 with h2; injection h2 with h2; exact h ns h2 sh⟩
theorem ok_ints {H : Hp} {p : Addr} (ns : List Int) (hl : ns.length ≤ 1000) (h : Sh ns → SmS ns) : Ok9 (upd H p (.tup (ns.map V.int))) (.ref p) :=
  ⟨Tg.ints upd_same hl, sm_ints upd_same h⟩
section
variable {P : Program} {w : World} {K : PySem.W.Frag} {mg : Str → Option Value} {base : Heap}
theorem d_law_some (B : Bi mg) (F : FunAt K mg "_law_some" s_law_some) (D_law_draw : Has P w K mg base 1 "_law_draw" ["hand", "many"] spTake) (D_law_deep : Has P w K mg base 2 "_law_deep" ["hand"] spDeep) (D_law_drawn_share : Has P w K mg base 2 "_law_drawn_share" ["hand"] spDrawnS) :
    Has P w K mg base 3 "_law_some" ["hand"] spSomeS := by
  refine mk_has F sc_law_some (fun _ _ _ _ _ _ us hl => match us, hl with | [_], _ => rfl) (fun vs H Q E h => ?_) fun f cdv A outer s H vs Q E hr h => ?_
  · obtain ⟨h, l, rfl, _⟩ := h
    rfl
  obtain ⟨h, l, rfl, ho, k⟩ := h
  refine ⟨_, (pss_cons (ps_set (i := 1) sc_law_some.nd rfl (Or.inl rfl) (pe_h D_law_draw (hr.mono (by decide)) rfl (pa_cons (pv 0) (pa_cons pe_int pa_nil))))
    (pss_cons (ps_if (pt_cmpR op_eq (pv 1) pe_int (nomark _))
    (pss_one (ps_ret (pe_tup pa_nil)))
    pss_nil)
    (pss_cons (ps_if (pt_cmpR op_eq (pv 1) pe_int (nomark _))
    (pss_cons (ps_set (i := 2) sc_law_some.nd rfl (Or.inl rfl) (pe_lst (pa_cons pe_non (pa_cons (pe_tup (pa_cons pe_int (pa_cons pe_int pa_nil))) (pa_cons (pe_tup (pa_cons pe_int (pa_cons pe_int pa_nil))) (pa_cons (pe_tup (pa_cons pe_int (pa_cons pe_int pa_nil))) (pa_cons (pe_tup (pa_cons (pe_un un_neg pe_int) pa_nil)) (pa_cons (pe_tup (pa_cons pe_bl pa_nil)) (pa_cons (pe_lst (pa_cons pe_int pa_nil)) (pa_cons (pe_tup (pa_cons pe_bl pa_nil)) (pa_cons pe_str (pa_cons (pe_tup (pa_cons pe_int (pa_cons pe_int pa_nil))) (pa_cons (pe_tup (pa_cons pe_str pa_nil)) (pa_cons (pe_tup (pa_cons (pe_tup (pa_cons pe_int pa_nil)) pa_nil)) (pa_cons pe_int pa_nil)))))))))))))))
    (pss_one (ps_ret (pe_ix ix_list (pe_op op_cat (pv 2) (pe_lst (pa_cons (pe_h D_law_deep (hr.mono (by decide)) rfl (pa_cons (pv 0) pa_nil)) (pa_cons (pe_tup (pa_cons pe_int (pa_cons pe_non pa_nil))) pa_nil)))) (pe_h D_law_draw (hr.mono (by decide)) rfl (pa_cons (pv 0) (pa_cons pe_int pa_nil))) (fun _ _ => rfl)))))
    pss_nil)
    (pss_one (ps_ret (pe_h D_law_drawn_share (hr.mono (by decide)) rfl (pa_cons (pv 0) pa_nil))))))), ?_⟩
  trivial
  intro r H1 r0 r1 ho1 hk1
  have k1 : Kp (Nh h) H H1 := Kp.hand hk1
  trivial
  refine ite2 (fun c => ?_) (fun c => ?_)
  · trivial
    intro p np
    exact k _ _ (tg_tup upd_same (by simp) (by simp)) (sm_ints (ns := []) upd_same fun _ => ⟨⟨by simp, by simp, by simp⟩, by simp, by simp⟩) (ho1.new np) (k1.hn np)
  trivial
  refine ite2 (fun c => ?_) (fun c => ?_)
  · trivial
    intro a1 n1
    have s1 := same_new0 (o := .tup [.int 0, .int 1]) n1
    have q1 : Ok9 (upd H1 a1 (.tup [.int 0, .int 1])) (.ref a1) := ok_ints [0, 1] (by decide) (fun sh => absurd (sh.zero (by simp)) (by simp))
    have e1 : ∃ X, X = upd H1 a1 (.tup [.int 0, .int 1]) := ⟨_, rfl⟩
    obtain ⟨X1, e1⟩ := e1
    have s1' : Same H1 X1 := e1 ▸ s1
    rw [← e1] at q1
    trivial
    rw [show upd H1 a1 (.tup [.int 0, .int 1]) = X1 from e1.symm]
    intro a2 n2
    have s2 := same_new0 (o := .tup [.int 1, .int 1]) n2
    have q2 : Ok9 (upd X1 a2 (.tup [.int 1, .int 1])) (.ref a2) := ok_ints [1, 1] (by decide) (fun sh => absurd sh.asc (by simp))
    have e2 : ∃ X, X = upd X1 a2 (.tup [.int 1, .int 1]) := ⟨_, rfl⟩
    obtain ⟨X2, e2⟩ := e2
    have s2' : Same X1 X2 := e2 ▸ s2
    rw [← e2] at q2
    trivial
    rw [show upd X1 a2 (.tup [.int 1, .int 1]) = X2 from e2.symm]
    intro a3 n3
    have s3 := same_new0 (o := .tup [.int 2, .int 1]) n3
    have q3 : Ok9 (upd X2 a3 (.tup [.int 2, .int 1])) (.ref a3) := ok_ints [2, 1] (by decide) (fun sh => absurd sh.asc (by simp))
    have e3 : ∃ X, X = upd X2 a3 (.tup [.int 2, .int 1]) := ⟨_, rfl⟩
    obtain ⟨X3, e3⟩ := e3
    have s3' : Same X2 X3 := e3 ▸ s3
    rw [← e3] at q3
    trivial
    rw [show upd X2 a3 (.tup [.int 2, .int 1]) = X3 from e3.symm]
    intro a4 n4
    have s4 := same_new0 (o := .tup [.int (-1)]) n4
    have q4 : Ok9 (upd X3 a4 (.tup [.int (-1)])) (.ref a4) := ok_ints [-1] (by decide) (fun sh => absurd (sh.nn (-1) (by simp)) (by decide))
    have e4 : ∃ X, X = upd X3 a4 (.tup [.int (-1)]) := ⟨_, rfl⟩
    obtain ⟨X4, e4⟩ := e4
    have s4' : Same X3 X4 := e4 ▸ s4
    rw [← e4] at q4
    trivial
    rw [show upd X3 a4 (.tup [(fun i => V.int (-i)) 1]) = X4 from e4.symm]
    intro a5 n5
    have s5 := same_new0 (o := .tup [.bl true]) n5
    have q5 : Ok9 (upd X4 a5 (.tup [.bl true])) (.ref a5) := ok_tup (by simp) (fun x hx => by simp at hx; subst hx; first | exact ⟨_, .bl _⟩ | exact ⟨_, .str _⟩) (fun ns e => by cases ns <;> simp at e)
    have e5 : ∃ X, X = upd X4 a5 (.tup [.bl true]) := ⟨_, rfl⟩
    obtain ⟨X5, e5⟩ := e5
    have s5' : Same X4 X5 := e5 ▸ s5
    rw [← e5] at q5
    trivial
    rw [show upd X4 a5 (.tup [.bl true]) = X5 from e5.symm]
    intro a6 n6
    have s6 := same_new0 (o := .lst [.int 1]) n6
    have q6 : Ok9 (upd X5 a6 (.lst [.int 1])) (.ref a6) := ⟨tg_lst upd_same, sm_lst upd_same⟩
    have e6 : ∃ X, X = upd X5 a6 (.lst [.int 1]) := ⟨_, rfl⟩
    obtain ⟨X6, e6⟩ := e6
    have s6' : Same X5 X6 := e6 ▸ s6
    rw [← e6] at q6
    trivial
    rw [show upd X5 a6 (.lst [.int 1]) = X6 from e6.symm]
    intro a7 n7
    have s7 := same_new0 (o := .tup [.bl false]) n7
    have q7 : Ok9 (upd X6 a7 (.tup [.bl false])) (.ref a7) := ok_tup (by simp) (fun x hx => by simp at hx; subst hx; first | exact ⟨_, .bl _⟩ | exact ⟨_, .str _⟩) (fun ns e => by cases ns <;> simp at e)
    have e7 : ∃ X, X = upd X6 a7 (.tup [.bl false]) := ⟨_, rfl⟩
    obtain ⟨X7, e7⟩ := e7
    have s7' : Same X6 X7 := e7 ▸ s7
    rw [← e7] at q7
    trivial
    rw [show upd X6 a7 (.tup [.bl false]) = X7 from e7.symm]
    intro a8 n8
    have s8 := same_new0 (o := .tup [.int 0, .int 0]) n8
    have q8 : Ok9 (upd X7 a8 (.tup [.int 0, .int 0])) (.ref a8) := ok_ints [0, 0] (by decide) (fun sh => absurd sh.asc (by simp))
    have e8 : ∃ X, X = upd X7 a8 (.tup [.int 0, .int 0]) := ⟨_, rfl⟩
    obtain ⟨X8, e8⟩ := e8
    have s8' : Same X7 X8 := e8 ▸ s8
    rw [← e8] at q8
    trivial
    rw [show upd X7 a8 (.tup [.int 0, .int 0]) = X8 from e8.symm]
    intro a9 n9
    have s9 := same_new0 (o := .tup [.str "1"]) n9
    have q9 : Ok9 (upd X8 a9 (.tup [.str "1"])) (.ref a9) := ok_tup (by simp) (fun x hx => by simp at hx; subst hx; first | exact ⟨_, .bl _⟩ | exact ⟨_, .str _⟩) (fun ns e => by cases ns <;> simp at e)
    have e9 : ∃ X, X = upd X8 a9 (.tup [.str "1"]) := ⟨_, rfl⟩
    obtain ⟨X9, e9⟩ := e9
    have s9' : Same X8 X9 := e9 ▸ s9
    rw [← e9] at q9
    trivial
    rw [show upd X8 a9 (.tup [.str "1"]) = X9 from e9.symm]
    intro a10 n10
    have s10 := same_new0 (o := .tup [.int 1]) n10
    have q10 : Ok9 (upd X9 a10 (.tup [.int 1])) (.ref a10) := ok_ints [1] (by decide) (fun sh => ⟨sh, by simp, by simp⟩)
    have e10 : ∃ X, X = upd X9 a10 (.tup [.int 1]) := ⟨_, rfl⟩
    obtain ⟨X10, e10⟩ := e10
    have s10' : Same X9 X10 := e10 ▸ s10
    rw [← e10] at q10
    trivial
    rw [show upd X9 a10 (.tup [.int 1]) = X10 from e10.symm]
    intro a11 n11
    have s11 := same_new0 (o := .tup [.ref a10]) n11
    have q11 : Ok9 (upd X10 a11 (.tup [.ref a10])) (.ref a11) := ok_tup (by simp) (fun x hx => by simp at hx; subst hx; obtain ⟨t, d⟩ := (q10.same s11).g.t; exact ⟨t, d⟩) (fun ns e => by cases ns <;> simp at e)
    have e11 : ∃ X, X = upd X10 a11 (.tup [.ref a10]) := ⟨_, rfl⟩
    obtain ⟨X11, e11⟩ := e11
    have s11' : Same X10 X11 := e11 ▸ s11
    rw [← e11] at q11
    trivial
    rw [show upd X10 a11 (.tup [.ref a10]) = X11 from e11.symm]
    have x11 := Same.refl X11
    have x10 := s11'.trans x11
    have q10 := q10.same x10
    have x9 := s10'.trans x10
    have q9 := q9.same x9
    have x8 := s9'.trans x9
    have q8 := q8.same x8
    have x7 := s8'.trans x8
    have q7 := q7.same x7
    have x6 := s7'.trans x7
    have q6 := q6.same x6
    have x5 := s6'.trans x6
    have q5 := q5.same x5
    have x4 := s5'.trans x5
    have q4 := q4.same x4
    have x3 := s4'.trans x4
    have q3 := q3.same x3
    have x2 := s3'.trans x3
    have q2 := q2.same x2
    have x1 := s2'.trans x2
    have q1 := q1.same x1
    have xh : Same H1 X11 := s1'.trans x1
    have ho11 := ho1.same xh
    have k11 : Kp (Nh h) H X11 := k1.trans (kp_same xh)
    have all13 : ∀ x ∈ [V.non, V.ref a1, V.ref a2, V.ref a3, V.ref a4, V.ref a5, V.ref a6, V.ref a7, V.str "1", V.ref a8, V.ref a9, V.ref a11, V.int 1], Ok9 X11 x := by
      intro x hx
      simp only [List.mem_cons, List.not_mem_nil, or_false] at hx
      rcases hx with rfl | rfl | rfl | rfl | rfl | rfl | rfl | rfl | rfl | rfl | rfl | rfl | rfl
      · exact ok_flat .non fun _ z => nomatch z
      · exact q1
      · exact q2
      · exact q3
      · exact q4
      · exact q5
      · exact q6
      · exact q7
      · exact ok_flat (.str _) fun _ z => nomatch z
      · exact q8
      · exact q9
      · exact q11
      · exact ok_flat (.int _) fun _ z => nomatch z
    generalize hL : [V.non, V.ref a1, V.ref a2, V.ref a3, V.ref a4, V.ref a5, V.ref a6, V.ref a7, V.str "1", V.ref a8, V.ref a9, V.ref a11, V.int 1] = L at all13 ⊢
    have hL13 : L.length = 13 := by rw [← hL]; rfl
    intro p np
    have hop := ho11.new (o := .lst L) np
    have sp := same_new0 (o := .lst L) np
    trivial
    intro v H3 od3 ho3 k3
    have ep3 : H3 p = some (.lst L) := k3 _ _ upd_same (ho11.ne np)
    trivial
    intro t1 n1'
    have st := same_new0 (o := .tup [.int 1, .non]) n1'
    trivial
    intro t2 n2'
    have st2 := same_new0 (o := .lst [v, .ref t1]) n2'
    have ep4 := st2 _ _ (st _ _ ep3)
    trivial
    refine ⟨by rw [sizeLine_eq, hL13]; simp, fun p3 n3' => ?_⟩
    have st3 := same_new0 (o := .lst (L ++ [v, .ref t1])) n3'
    have sA := (st.trans st2).trans st3
    have ho4 := ho3.same sA
    have np3 : p3 ≠ h := ho3.ne ((st.trans st2).free n3')
    have qt : Ok9 (upd H3 t1 (.tup [.int 1, .non])) (.ref t1) := ok_tup (by simp) (fun x hx => by
      simp at hx
      rcases hx with rfl | rfl
      · exact ⟨_, .int _⟩
      · exact ⟨_, .non⟩) (fun ns e => by cases ns with
      | nil => simp at e
      | cons a ns => cases ns <;> simp at e)
    have qt' := qt.same (st2.trans st3)
    have qv : Ok9 H3 v := ⟨od3.g, od3.sm⟩
    have qv' := qv.same sA
    trivial
    intro r5 H5 r50 r51 ho5 hk5
    have k5 : Kp (Nh h) _ H5 := Kp.hand hk5
    have e5 : H5 p3 = some (.lst (L ++ [v, .ref t1])) := (hk5 p3 np3).trans upd_same
    obtain ⟨u, hu, mu, _⟩ := atI_some (xs := L ++ [v, .ref t1]) r50 (by rw [List.length_append, hL13]; simpa using r51)
    have ou : Ok9 H5 u := by
      rcases List.mem_append.mp mu with m | m
      · exact (((all13 u m).same sp).hand hop ho3 k3 |>.same sA).hand ho4 ho5 k5
      · simp at m
        rcases m with rfl | rfl
        · exact qv'.hand ho4 ho5 k5
        · exact qt'.hand ho4 ho5 k5
    trivial
    exact k u H5 ou.g ou.m ho5 ((((k11.hn np).trans k3).trans (kp_same sA)).trans k5)
  · trivial
    intro a ns H2 sm e ho2 k2
    exact k _ _ (Tg.ints e (by have := sm.l; omega)) (sm_ints e fun _ => sm) ho2 (k1.trans k2)
end
end KQ
set_option Elab.async false
set_option maxRecDepth 100000
set_option maxHeartbeats 4000000
namespace KQ
open PySem PySem.Spec PyProof.Rows L2
local macro_rules | `(tactic| trivial) => `(tactic| repeat (first | (apply And.intro; focus (first | rfl | assumption | exact upd_same | exact SqL.of (by (first | assumption | exact upd_same | (rw [upd_ne (by first | assumption | exact Ne.symm (by assumption))]; first | assumption | exact upd_same | (rw [upd_ne (by first | assumption | exact Ne.symm (by assumption))]; first | assumption | exact upd_same)))) | exact SqT.of (by (first | assumption | exact upd_same | (rw [upd_ne (by first | assumption | exact Ne.symm (by assumption))]; first | assumption | exact upd_same | (rw [upd_ne (by first | assumption | exact Ne.symm (by assumption))]; first | assumption | exact upd_same)))) | exact Or.inl (SqL.of (by (first | assumption | exact upd_same | (rw [upd_ne (by first | assumption | exact Ne.symm (by assumption))]; first | assumption | exact upd_same | (rw [upd_ne (by first | assumption | exact Ne.symm (by assumption))]; first | assumption | exact upd_same))))) | exact Or.inr (SqT.of (by (first | assumption | exact upd_same | (rw [upd_ne (by first | assumption | exact Ne.symm (by assumption))]; first | assumption | exact upd_same | (rw [upd_ne (by first | assumption | exact Ne.symm (by assumption))]; first | assumption | exact upd_same))))) | exact Or.inl ⟨rfl, _, SqL.of (by (first | assumption | exact upd_same | (rw [upd_ne (by first | assumption | exact Ne.symm (by assumption))]; first | assumption | exact upd_same | (rw [upd_ne (by first | assumption | exact Ne.symm (by assumption))]; first | assumption | exact upd_same))))⟩ | (first | assumption | exact upd_same | (rw [upd_ne (by first | assumption | exact Ne.symm (by assumption))]; first | assumption | exact upd_same | (rw [upd_ne (by first | assumption | exact Ne.symm (by assumption))]; first | assumption | exact upd_same))) | decide | exact Nat.le_of_ble_eq_true rfl | omega | (show ∃ xs, SqL _ _ _ xs; exact ⟨_, SqL.of (by (first | assumption | exact upd_same | (rw [upd_ne (by first | assumption | exact Ne.symm (by assumption))]; first | assumption | exact upd_same | (rw [upd_ne (by first | assumption | exact Ne.symm (by assumption))]; first | assumption | exact upd_same))))⟩) | (show ∃ xs, SqT _ _ _ xs; exact ⟨_, SqT.of (by (first | assumption | exact upd_same | (rw [upd_ne (by first | assumption | exact Ne.symm (by assumption))]; first | assumption | exact upd_same | (rw [upd_ne (by first | assumption | exact Ne.symm (by assumption))]; first | assumption | exact upd_same))))⟩) | exact DGet.k (k := Sum.inl _) (by (first | assumption | exact upd_same | (rw [upd_ne (by first | assumption | exact Ne.symm (by assumption))]; first | assumption | exact upd_same | (rw [upd_ne (by first | assumption | exact Ne.symm (by assumption))]; first | assumption | exact upd_same)))) | (show V.int _ = kV (Sum.inl _); rfl) | (show ∃ z, V.str _ = V.str z; exact ⟨_, rfl⟩) | exact Or.inl ⟨by (first | decide | omega), by (first | decide | omega)⟩ | exact Or.inr ⟨by (first | decide | omega), by (first | decide | omega)⟩ | exact ⟨by (first | decide | omega), by (first | decide | omega)⟩ | exact ⟨by decide, by decide, by decide⟩ | exact L2.ClsV.ty _ | exact Dt.ty (by assumption) | exact Dt.kint (by assumption) | exact Dt.kbool (by assumption) | exact Dt.ktuple (by assumption) | exact Dt.klist (by assumption) | exact Dt.kstr (by assumption))) | (apply Exists.intro; apply And.intro; focus (first | rfl | assumption | exact upd_same | exact SqL.of (by (first | assumption | exact upd_same | (rw [upd_ne (by first | assumption | exact Ne.symm (by assumption))]; first | assumption | exact upd_same | (rw [upd_ne (by first | assumption | exact Ne.symm (by assumption))]; first | assumption | exact upd_same)))) | exact SqT.of (by (first | assumption | exact upd_same | (rw [upd_ne (by first | assumption | exact Ne.symm (by assumption))]; first | assumption | exact upd_same | (rw [upd_ne (by first | assumption | exact Ne.symm (by assumption))]; first | assumption | exact upd_same)))) | exact Or.inl (SqL.of (by (first | assumption | exact upd_same | (rw [upd_ne (by first | assumption | exact Ne.symm (by assumption))]; first | assumption | exact upd_same | (rw [upd_ne (by first | assumption | exact Ne.symm (by assumption))]; first | assumption | exact upd_same))))) | exact Or.inr (SqT.of (by (first | assumption | exact upd_same | (rw [upd_ne (by first | assumption | exact Ne.symm (by assumption))]; first | assumption | exact upd_same | (rw [upd_ne (by first | assumption | exact Ne.symm (by assumption))]; first | assumption | exact upd_same))))) | exact Or.inl ⟨rfl, _, SqL.of (by (first | assumption | exact upd_same | (rw [upd_ne (by first | assumption | exact Ne.symm (by assumption))]; first | assumption | exact upd_same | (rw [upd_ne (by first | assumption | exact Ne.symm (by assumption))]; first | assumption | exact upd_same))))⟩ | (first | assumption | exact upd_same | (rw [upd_ne (by first | assumption | exact Ne.symm (by assumption))]; first | assumption | exact upd_same | (rw [upd_ne (by first | assumption | exact Ne.symm (by assumption))]; first | assumption | exact upd_same))) | decide | exact Nat.le_of_ble_eq_true rfl | omega | (show ∃ xs, SqL _ _ _ xs; exact ⟨_, SqL.of (by (first | assumption | exact upd_same | (rw [upd_ne (by first | assumption | exact Ne.symm (by assumption))]; first | assumption | exact upd_same | (rw [upd_ne (by first | assumption | exact Ne.symm (by assumption))]; first | assumption | exact upd_same))))⟩) | (show ∃ xs, SqT _ _ _ xs; exact ⟨_, SqT.of (by (first | assumption | exact upd_same | (rw [upd_ne (by first | assumption | exact Ne.symm (by assumption))]; first | assumption | exact upd_same | (rw [upd_ne (by first | assumption | exact Ne.symm (by assumption))]; first | assumption | exact upd_same))))⟩) | exact DGet.k (k := Sum.inl _) (by (first | assumption | exact upd_same | (rw [upd_ne (by first | assumption | exact Ne.symm (by assumption))]; first | assumption | exact upd_same | (rw [upd_ne (by first | assumption | exact Ne.symm (by assumption))]; first | assumption | exact upd_same)))) | (show V.int _ = kV (Sum.inl _); rfl) | (show ∃ z, V.str _ = V.str z; exact ⟨_, rfl⟩) | exact Or.inl ⟨by (first | decide | omega), by (first | decide | omega)⟩ | exact Or.inr ⟨by (first | decide | omega), by (first | decide | omega)⟩ | exact ⟨by (first | decide | omega), by (first | decide | omega)⟩ | exact ⟨by decide, by decide, by decide⟩ | exact L2.ClsV.ty _ | exact Dt.ty (by assumption) | exact Dt.kint (by assumption) | exact Dt.kbool (by assumption) | exact Dt.ktuple (by assumption) | exact Dt.klist (by assumption) | exact Dt.kstr (by assumption))) | (apply Exists.intro; apply Exists.intro; apply And.intro; focus (first | rfl | assumption | exact upd_same | exact SqL.of (by (first | assumption | exact upd_same | (rw [upd_ne (by first | assumption | exact Ne.symm (by assumption))]; first | assumption | exact upd_same | (rw [upd_ne (by first | assumption | exact Ne.symm (by assumption))]; first | assumption | exact upd_same)))) | exact SqT.of (by (first | assumption | exact upd_same | (rw [upd_ne (by first | assumption | exact Ne.symm (by assumption))]; first | assumption | exact upd_same | (rw [upd_ne (by first | assumption | exact Ne.symm (by assumption))]; first | assumption | exact upd_same)))) | exact Or.inl (SqL.of (by (first | assumption | exact upd_same | (rw [upd_ne (by first | assumption | exact Ne.symm (by assumption))]; first | assumption | exact upd_same | (rw [upd_ne (by first | assumption | exact Ne.symm (by assumption))]; first | assumption | exact upd_same))))) | exact Or.inr (SqT.of (by (first | assumption | exact upd_same | (rw [upd_ne (by first | assumption | exact Ne.symm (by assumption))]; first | assumption | exact upd_same | (rw [upd_ne (by first | assumption | exact Ne.symm (by assumption))]; first | assumption | exact upd_same))))) | exact Or.inl ⟨rfl, _, SqL.of (by (first | assumption | exact upd_same | (rw [upd_ne (by first | assumption | exact Ne.symm (by assumption))]; first | assumption | exact upd_same | (rw [upd_ne (by first | assumption | exact Ne.symm (by assumption))]; first | assumption | exact upd_same))))⟩ | (first | assumption | exact upd_same | (rw [upd_ne (by first | assumption | exact Ne.symm (by assumption))]; first | assumption | exact upd_same | (rw [upd_ne (by first | assumption | exact Ne.symm (by assumption))]; first | assumption | exact upd_same))) | decide | exact Nat.le_of_ble_eq_true rfl | omega | (show ∃ xs, SqL _ _ _ xs; exact ⟨_, SqL.of (by (first | assumption | exact upd_same | (rw [upd_ne (by first | assumption | exact Ne.symm (by assumption))]; first | assumption | exact upd_same | (rw [upd_ne (by first | assumption | exact Ne.symm (by assumption))]; first | assumption | exact upd_same))))⟩) | (show ∃ xs, SqT _ _ _ xs; exact ⟨_, SqT.of (by (first | assumption | exact upd_same | (rw [upd_ne (by first | assumption | exact Ne.symm (by assumption))]; first | assumption | exact upd_same | (rw [upd_ne (by first | assumption | exact Ne.symm (by assumption))]; first | assumption | exact upd_same))))⟩) | exact DGet.k (k := Sum.inl _) (by (first | assumption | exact upd_same | (rw [upd_ne (by first | assumption | exact Ne.symm (by assumption))]; first | assumption | exact upd_same | (rw [upd_ne (by first | assumption | exact Ne.symm (by assumption))]; first | assumption | exact upd_same)))) | (show V.int _ = kV (Sum.inl _); rfl) | (show ∃ z, V.str _ = V.str z; exact ⟨_, rfl⟩) | exact Or.inl ⟨by (first | decide | omega), by (first | decide | omega)⟩ | exact Or.inr ⟨by (first | decide | omega), by (first | decide | omega)⟩ | exact ⟨by (first | decide | omega), by (first | decide | omega)⟩ | exact ⟨by decide, by decide, by decide⟩ | exact L2.ClsV.ty _ | exact Dt.ty (by assumption) | exact Dt.kint (by assumption) | exact Dt.kbool (by assumption) | exact Dt.ktuple (by assumption) | exact Dt.klist (by assumption) | exact Dt.kstr (by assumption))) | (apply Exists.intro; apply Exists.intro; apply Exists.intro; apply And.intro; focus (first | rfl | assumption | exact upd_same | exact SqL.of (by (first | assumption | exact upd_same | (rw [upd_ne (by first | assumption | exact Ne.symm (by assumption))]; first | assumption | exact upd_same | (rw [upd_ne (by first | assumption | exact Ne.symm (by assumption))]; first | assumption | exact upd_same)))) | exact SqT.of (by (first | assumption | exact upd_same | (rw [upd_ne (by first | assumption | exact Ne.symm (by assumption))]; first | assumption | exact upd_same | (rw [upd_ne (by first | assumption | exact Ne.symm (by assumption))]; first | assumption | exact upd_same)))) | exact Or.inl (SqL.of (by (first | assumption | exact upd_same | (rw [upd_ne (by first | assumption | exact Ne.symm (by assumption))]; first | assumption | exact upd_same | (rw [upd_ne (by first | assumption | exact Ne.symm (by assumption))]; first | assumption | exact upd_same))))) | exact Or.inr (SqT.of (by (first | assumption | exact upd_same | (rw [upd_ne (by first | assumption | exact Ne.symm (by assumption))]; first | assumption | exact upd_same | (rw [upd_ne (by first | assumption | exact Ne.symm (by assumption))]; first | assumption | exact upd_same))))) | exact Or.inl ⟨rfl, _, SqL.of (by (first | assumption | exact upd_same | (rw [upd_ne (by first | assumption | exact Ne.symm (by assumption))]; first | assumption | exact upd_same | (rw [upd_ne (by first | assumption | exact Ne.symm (by assumption))]; first | assumption | exact upd_same))))⟩ | (first | assumption | exact upd_same | (rw [upd_ne (by first | assumption | exact Ne.symm (by assumption))]; first | assumption | exact upd_same | (rw [upd_ne (by first | assumption | exact Ne.symm (by assumption))]; first | assumption | exact upd_same))) | decide | exact Nat.le_of_ble_eq_true rfl | omega | (show ∃ xs, SqL _ _ _ xs; exact ⟨_, SqL.of (by (first | assumption | exact upd_same | (rw [upd_ne (by first | assumption | exact Ne.symm (by assumption))]; first | assumption | exact upd_same | (rw [upd_ne (by first | assumption | exact Ne.symm (by assumption))]; first | assumption | exact upd_same))))⟩) | (show ∃ xs, SqT _ _ _ xs; exact ⟨_, SqT.of (by (first | assumption | exact upd_same | (rw [upd_ne (by first | assumption | exact Ne.symm (by assumption))]; first | assumption | exact upd_same | (rw [upd_ne (by first | assumption | exact Ne.symm (by assumption))]; first | assumption | exact upd_same))))⟩) | exact DGet.k (k := Sum.inl _) (by (first | assumption | exact upd_same | (rw [upd_ne (by first | assumption | exact Ne.symm (by assumption))]; first | assumption | exact upd_same | (rw [upd_ne (by first | assumption | exact Ne.symm (by assumption))]; first | assumption | exact upd_same)))) | (show V.int _ = kV (Sum.inl _); rfl) | (show ∃ z, V.str _ = V.str z; exact ⟨_, rfl⟩) | exact Or.inl ⟨by (first | decide | omega), by (first | decide | omega)⟩ | exact Or.inr ⟨by (first | decide | omega), by (first | decide | omega)⟩ | exact ⟨by (first | decide | omega), by (first | decide | omega)⟩ | exact ⟨by decide, by decide, by decide⟩ | exact L2.ClsV.ty _ | exact Dt.ty (by assumption) | exact Dt.kint (by assumption) | exact Dt.kbool (by assumption) | exact Dt.ktuple (by assumption) | exact Dt.klist (by assumption) | exact Dt.kstr (by assumption))) | (apply Exists.intro; apply Exists.intro; apply Exists.intro; apply Exists.intro; apply And.intro; focus (first | rfl | assumption | exact upd_same | exact SqL.of (by (first | assumption | exact upd_same | (rw [upd_ne (by first | assumption | exact Ne.symm (by assumption))]; first | assumption | exact upd_same | (rw [upd_ne (by first | assumption | exact Ne.symm (by assumption))]; first | assumption | exact upd_same)))) | exact SqT.of (by (first | assumption | exact upd_same | (rw [upd_ne (by first | assumption | exact Ne.symm (by assumption))]; first | assumption | exact upd_same | (rw [upd_ne (by first | assumption | exact Ne.symm (by assumption))]; first | assumption | exact upd_same)))) | exact Or.inl (SqL.of (by (first | assumption | exact upd_same | (rw [upd_ne (by first | assumption | exact Ne.symm (by assumption))]; first | assumption | exact upd_same | (rw [upd_ne (by first | assumption | exact Ne.symm (by assumption))]; first | assumption | exact upd_same))))) | exact Or.inr (SqT.of (by (first | assumption | exact upd_same | (rw [upd_ne (by first | assumption | exact Ne.symm (by assumption))]; first | assumption | exact upd_same | (rw [upd_ne (by first | assumption | exact Ne.symm (by assumption))]; first | assumption | exact upd_same))))) | exact Or.inl ⟨rfl, _, SqL.of (by (first | assumption | exact upd_same | (rw [upd_ne (by first | assumption | exact Ne.symm (by assumption))]; first | assumption | exact upd_same | (rw [upd_ne (by first | assumption | exact Ne.symm (by assumption))]; first | assumption | exact upd_same))))⟩ | (first | assumption | exact upd_same | (rw [upd_ne (by first | assumption | exact Ne.symm (by assumption))]; first | assumption | exact upd_same | (rw [upd_ne (by first | assumption | exact Ne.symm (by assumption))]; first | assumption | exact upd_same))) | decide | exact Nat.le_of_ble_eq_true rfl | omega | (show ∃ xs, SqL _ _ _ xs; exact ⟨_, SqL.of (by (first | assumption | exact upd_same | (rw [upd_ne (by first | assumption | exact Ne.symm (by assumption))]; first | assumption | exact upd_same | (rw [upd_ne (by first | assumption | exact Ne.symm (by assumption))]; first | assumption | exact upd_same))))⟩) | (show ∃ xs, SqT _ _ _ xs; exact ⟨_, SqT.of (by (first | assumption | exact upd_same | (rw [upd_ne (by first | assumption | exact Ne.symm (by assumption))]; first | assumption | exact upd_same | (rw [upd_ne (by first | assumption | exact Ne.symm (by assumption))]; first | assumption | exact upd_same))))⟩) | exact DGet.k (k := Sum.inl _) (by (first | assumption | exact upd_same | (rw [upd_ne (by first | assumption | exact Ne.symm (by assumption))]; first | assumption | exact upd_same | (rw [upd_ne (by first | assumption | exact Ne.symm (by assumption))]; first | assumption | exact upd_same)))) | (show V.int _ = kV (Sum.inl _); rfl) | (show ∃ z, V.str _ = V.str z; exact ⟨_, rfl⟩) | exact Or.inl ⟨by (first | decide | omega), by (first | decide | omega)⟩ | exact Or.inr ⟨by (first | decide | omega), by (first | decide | omega)⟩ | exact ⟨by (first | decide | omega), by (first | decide | omega)⟩ | exact ⟨by decide, by decide, by decide⟩ | exact L2.ClsV.ty _ | exact Dt.ty (by assumption) | exact Dt.kint (by assumption) | exact Dt.kbool (by assumption) | exact Dt.ktuple (by assumption) | exact Dt.klist (by assumption) | exact Dt.kstr (by assumption))) | (apply Exists.intro; apply Exists.intro; apply Exists.intro; apply Exists.intro; apply Exists.intro; apply And.intro; focus (first | rfl | assumption | exact upd_same | exact SqL.of (by (first | assumption | exact upd_same | (rw [upd_ne (by first | assumption | exact Ne.symm (by assumption))]; first | assumption | exact upd_same | (rw [upd_ne (by first | assumption | exact Ne.symm (by assumption))]; first | assumption | exact upd_same)))) | exact SqT.of (by (first | assumption | exact upd_same | (rw [upd_ne (by first | assumption | exact Ne.symm (by assumption))]; first | assumption | exact upd_same | (rw [upd_ne (by first | assumption | exact Ne.symm (by assumption))]; first | assumption | exact upd_same)))) | exact Or.inl (SqL.of (by (first | assumption | exact upd_same | (rw [upd_ne (by first | assumption | exact Ne.symm (by assumption))]; first | assumption | exact upd_same | (rw [upd_ne (by first | assumption | exact Ne.symm (by assumption))]; first | assumption | exact upd_same))))) | exact Or.inr (SqT.of (by (first | assumption | exact upd_same | (rw [upd_ne (by first | assumption | exact Ne.symm (by assumption))]; first | assumption | exact upd_same | (rw [upd_ne (by first | assumption | exact Ne.symm (by assumption))]; first | assumption | exact upd_same))))) | exact Or.inl ⟨rfl, _, SqL.of (by (first | assumption | exact upd_same | (rw [upd_ne (by first | assumption | exact Ne.symm (by assumption))]; first | assumption | exact upd_same | (rw [upd_ne (by first | assumption | exact Ne.symm (by assumption))]; first | assumption | exact upd_same))))⟩ | (first | assumption | exact upd_same | (rw [upd_ne (by first | assumption | exact Ne.symm (by assumption))]; first | assumption | exact upd_same | (rw [upd_ne (by first | assumption | exact Ne.symm (by assumption))]; first | assumption | exact upd_same))) | decide | exact Nat.le_of_ble_eq_true rfl | omega | (show ∃ xs, SqL _ _ _ xs; exact ⟨_, SqL.of (by (first | assumption | exact upd_same | (rw [upd_ne (by first | assumption | exact Ne.symm (by assumption))]; first | assumption | exact upd_same | (rw [upd_ne (by first | assumption | exact Ne.symm (by assumption))]; first | assumption | exact upd_same))))⟩) | (show ∃ xs, SqT _ _ _ xs; exact ⟨_, SqT.of (by (first | assumption | exact upd_same | (rw [upd_ne (by first | assumption | exact Ne.symm (by assumption))]; first | assumption | exact upd_same | (rw [upd_ne (by first | assumption | exact Ne.symm (by assumption))]; first | assumption | exact upd_same))))⟩) | exact DGet.k (k := Sum.inl _) (by (first | assumption | exact upd_same | (rw [upd_ne (by first | assumption | exact Ne.symm (by assumption))]; first | assumption | exact upd_same | (rw [upd_ne (by first | assumption | exact Ne.symm (by assumption))]; first | assumption | exact upd_same)))) | (show V.int _ = kV (Sum.inl _); rfl) | (show ∃ z, V.str _ = V.str z; exact ⟨_, rfl⟩) | exact Or.inl ⟨by (first | decide | omega), by (first | decide | omega)⟩ | exact Or.inr ⟨by (first | decide | omega), by (first | decide | omega)⟩ | exact ⟨by (first | decide | omega), by (first | decide | omega)⟩ | exact ⟨by decide, by decide, by decide⟩ | exact L2.ClsV.ty _ | exact Dt.ty (by assumption) | exact Dt.kint (by assumption) | exact Dt.kbool (by assumption) | exact Dt.ktuple (by assumption) | exact Dt.klist (by assumption) | exact Dt.kstr (by assumption))) | (apply Exists.intro; apply Exists.intro; apply Exists.intro; apply Exists.intro; apply Exists.intro; apply Exists.intro; apply And.intro; focus (first | rfl | assumption | exact upd_same | exact SqL.of (by (first | assumption | exact upd_same | (rw [upd_ne (by first | assumption | exact Ne.symm (by assumption))]; first | assumption | exact upd_same | (rw [upd_ne (by first | assumption | exact Ne.symm (by assumption))]; first | assumption | exact upd_same)))) | exact SqT.of (by (first | assumption | exact upd_same | (rw [upd_ne (by first | assumption | exact Ne.symm (by assumption))]; first | assumption | exact upd_same | (rw [upd_ne (by first | assumption | exact Ne.symm (by assumption))]; first | assumption | exact upd_same)))) | exact Or.inl (SqL.of (by (first | assumption | exact upd_same | (rw [upd_ne (by first | assumption | exact Ne.symm (by assumption))]; first | assumption | exact upd_same | (rw [upd_ne (by first | assumption | exact Ne.symm (by assumption))]; first | assumption | exact upd_same))))) | exact Or.inr (SqT.of (by (first | assumption | exact upd_same | (rw [upd_ne (by first | assumption | exact Ne.symm (by assumption))]; first | assumption | exact upd_same | (rw [upd_ne (by first | assumption | exact Ne.symm (by assumption))]; first | assumption | exact upd_same))))) | exact Or.inl ⟨rfl, _, SqL.of (by (first | assumption | exact upd_same | (rw [upd_ne (by first | assumption | exact Ne.symm (by assumption))]; first | assumption | exact upd_same | (rw [upd_ne (by first | assumption | exact Ne.symm (by assumption))]; first | assumption | exact upd_same))))⟩ | (first | assumption | exact upd_same | (rw [upd_ne (by first | assumption | exact Ne.symm (by assumption))]; first | assumption | exact upd_same | (rw [upd_ne (by first | assumption | exact Ne.symm (by assumption))]; first | assumption | exact upd_same))) | decide | exact Nat.le_of_ble_eq_true rfl | omega | (show ∃ xs, SqL _ _ _ xs; exact ⟨_, SqL.of (by (first | assumption | exact upd_same | (rw [upd_ne (by first | assumption | exact Ne.symm (by assumption))]; first | assumption | exact upd_same | (rw [upd_ne (by first | assumption | exact Ne.symm (by assumption))]; first | assumption | exact upd_same))))⟩) | (show ∃ xs, SqT _ _ _ xs; exact ⟨_, SqT.of (by (first | assumption | exact upd_same | (rw [upd_ne (by first | assumption | exact Ne.symm (by assumption))]; first | assumption | exact upd_same | (rw [upd_ne (by first | assumption | exact Ne.symm (by assumption))]; first | assumption | exact upd_same))))⟩) | exact DGet.k (k := Sum.inl _) (by (first | assumption | exact upd_same | (rw [upd_ne (by first | assumption | exact Ne.symm (by assumption))]; first | assumption | exact upd_same | (rw [upd_ne (by first | assumption | exact Ne.symm (by assumption))]; first | assumption | exact upd_same)))) | (show V.int _ = kV (Sum.inl _); rfl) | (show ∃ z, V.str _ = V.str z; exact ⟨_, rfl⟩) | exact Or.inl ⟨by (first | decide | omega), by (first | decide | omega)⟩ | exact Or.inr ⟨by (first | decide | omega), by (first | decide | omega)⟩ | exact ⟨by (first | decide | omega), by (first | decide | omega)⟩ | exact ⟨by decide, by decide, by decide⟩ | exact L2.ClsV.ty _ | exact Dt.ty (by assumption) | exact Dt.kint (by assumption) | exact Dt.kbool (by assumption) | exact Dt.ktuple (by assumption) | exact Dt.klist (by assumption) | exact Dt.kstr (by assumption))) | (apply Exists.intro; apply Exists.intro; apply Exists.intro; apply Exists.intro; apply Exists.intro; apply Exists.intro; apply Exists.intro; apply And.intro; focus (first | rfl | assumption | exact upd_same | exact SqL.of (by (first | assumption | exact upd_same | (rw [upd_ne (by first | assumption | exact Ne.symm (by assumption))]; first | assumption | exact upd_same | (rw [upd_ne (by first | assumption | exact Ne.symm (by assumption))]; first | assumption | exact upd_same)))) | exact SqT.of (by (first | assumption | exact upd_same | (rw [upd_ne (by first | assumption | exact Ne.symm (by assumption))]; first | assumption | exact upd_same | (rw [upd_ne (by first | assumption | exact Ne.symm (by assumption))]; first | assumption | exact upd_same)))) | exact Or.inl (SqL.of (by (first | assumption | exact upd_same | (rw [upd_ne (by first | assumption | exact Ne.symm (by assumption))]; first | assumption | exact upd_same | (rw [upd_ne (by first | assumption | exact Ne.symm (by assumption))]; first | assumption | exact upd_same))))) | exact Or.inr (SqT.of (by (first | assumption | exact upd_same | (rw [upd_ne (by first | assumption | exact Ne.symm (by assumption))]; first | assumption | exact upd_same | (rw [upd_ne (by first | assumption | exact Ne.symm (by assumption))]; first | assumption | exact upd_same))))) | exact Or.inl ⟨rfl, _, SqL.of (by (first | assumption | exact upd_same | (rw [upd_ne (by first | assumption | exact Ne.symm (by assumption))]; first | assumption | exact upd_same | (rw [upd_ne (by first | assumption | exact Ne.symm (by assumption))]; first | assumption | exact upd_same))))⟩ | (first | assumption | exact upd_same | (rw [upd_ne (by first | assumption | exact Ne.symm (by assumption))]; first | assumption | exact upd_same | (rw [upd_ne (by first | assumption | exact Ne.symm (by assumption))]; first | assumption | exact upd_same))) | decide | exact Nat.le_of_ble_eq_true rfl | omega | (show ∃ xs, SqL _ _ _ xs; exact ⟨_, SqL.of (by (first | assumption | exact upd_same | (rw [upd_ne (by first | assumption | exact Ne.symm (by assumption))]; first | assumption | exact upd_same | (rw [upd_ne (by first | assumption | exact Ne.symm (by assumption))]; first | assumption | exact upd_same))))⟩) | (show ∃ xs, SqT _ _ _ xs; exact ⟨_, SqT.of (by (first | assumption | exact upd_same | (rw [upd_ne (by first | assumption | exact Ne.symm (by assumption))]; first | assumption | exact upd_same | (rw [upd_ne (by first | assumption | exact Ne.symm (by assumption))]; first | assumption | exact upd_same))))⟩) | exact DGet.k (k := Sum.inl _) (by (first | assumption | exact upd_same | (rw [upd_ne (by first | assumption | exact Ne.symm (by assumption))]; first | assumption | exact upd_same | (rw [upd_ne (by first | assumption | exact Ne.symm (by assumption))]; first | assumption | exact upd_same)))) | (show V.int _ = kV (Sum.inl _); rfl) | (show ∃ z, V.str _ = V.str z; exact ⟨_, rfl⟩) | exact Or.inl ⟨by (first | decide | omega), by (first | decide | omega)⟩ | exact Or.inr ⟨by (first | decide | omega), by (first | decide | omega)⟩ | exact ⟨by (first | decide | omega), by (first | decide | omega)⟩ | exact ⟨by decide, by decide, by decide⟩ | exact L2.ClsV.ty _ | exact Dt.ty (by assumption) | exact Dt.kint (by assumption) | exact Dt.kbool (by assumption) | exact Dt.ktuple (by assumption) | exact Dt.klist (by assumption) | exact Dt.kstr (by assumption))) | (apply Exists.intro; apply Exists.intro; apply Exists.intro; apply Exists.intro; apply Exists.intro; apply Exists.intro; apply Exists.intro; apply Exists.intro; apply And.intro; focus (first | rfl | assumption | exact upd_same | exact SqL.of (by (first | assumption | exact upd_same | (rw [upd_ne (by first | assumption | exact Ne.symm (by assumption))]; first | assumption | exact upd_same | (rw [upd_ne (by first | assumption | exact Ne.symm (by assumption))]; first | assumption | exact upd_same)))) | exact SqT.of (by (first | assumption | exact upd_same | (rw [upd_ne (by first | assumption | exact Ne.symm (by assumption))]; first | assumption | exact upd_same | (rw [upd_ne (by first | assumption | exact Ne.symm (by assumption))]; first | assumption | exact upd_same)))) | exact Or.inl (SqL.of (by (first | assumption | exact upd_same | (rw [upd_ne (by first | assumption | exact Ne.symm (by assumption))]; first | assumption | exact upd_same | (rw [upd_ne (by first | assumption | exact Ne.symm (by assumption))]; first | assumption | exact upd_same))))) | exact Or.inr (SqT.of (by (first | assumption | exact upd_same | (rw [upd_ne (by first | assumption | exact Ne.symm (by assumption))]; first | assumption | exact upd_same | (rw [upd_ne (by first | assumption | exact Ne.symm (by assumption))]; first | assumption | exact upd_same))))) | exact Or.inl ⟨rfl, _, SqL.of (by (first | assumption | exact upd_same | (rw [upd_ne (by first | assumption | exact Ne.symm (by assumption))]; first | assumption | exact upd_same | (rw [upd_ne (by first | assumption | exact Ne.symm (by assumption))]; first | assumption | exact upd_same))))⟩ | (first | assumption | exact upd_same | (rw [upd_ne (by first | assumption | exact Ne.symm (by assumption))]; first | assumption | exact upd_same | (rw [upd_ne (by first | assumption | exact Ne.symm (by assumption))]; first | assumption | exact upd_same))) | decide | exact Nat.le_of_ble_eq_true rfl | omega | (show ∃ xs, SqL _ _ _ xs; exact ⟨_, SqL.of (by (first | assumption | exact upd_same | (rw [upd_ne (by first | assumption | exact Ne.symm (by assumption))]; first | assumption | exact upd_same | (rw [upd_ne (by first | assumption | exact Ne.symm (by assumption))]; first | assumption | exact upd_same))))⟩) | (show ∃ xs, SqT _ _ _ xs; exact ⟨_, SqT.of (by (first | assumption | exact upd_same | (rw [upd_ne (by first | assumption | exact Ne.symm (by assumption))]; first | assumption | exact upd_same | (rw [upd_ne (by first | assumption | exact Ne.symm (by assumption))]; first | assumption | exact upd_same))))⟩) | exact DGet.k (k := Sum.inl _) (by (first | assumption | exact upd_same | (rw [upd_ne (by first | assumption | exact Ne.symm (by assumption))]; first | assumption | exact upd_same | (rw [upd_ne (by first | assumption | exact Ne.symm (by assumption))]; first | assumption | exact upd_same)))) | (show V.int _ = kV (Sum.inl _); rfl) | (show ∃ z, V.str _ = V.str z; exact ⟨_, rfl⟩) | exact Or.inl ⟨by (first | decide | omega), by (first | decide | omega)⟩ | exact Or.inr ⟨by (first | decide | omega), by (first | decide | omega)⟩ | exact ⟨by (first | decide | omega), by (first | decide | omega)⟩ | exact ⟨by decide, by decide, by decide⟩ | exact L2.ClsV.ty _ | exact Dt.ty (by assumption) | exact Dt.kint (by assumption) | exact Dt.kbool (by assumption) | exact Dt.ktuple (by assumption) | exact Dt.klist (by assumption) | exact Dt.kstr (by assumption))) | (apply Exists.intro; apply Exists.intro; apply Exists.intro; apply Exists.intro; apply Exists.intro; apply Exists.intro; apply Exists.intro; apply Exists.intro; apply Exists.intro; apply And.intro; focus (first | rfl | assumption | exact upd_same | exact SqL.of (by (first | assumption | exact upd_same | (rw [upd_ne (by first | assumption | exact Ne.symm (by assumption))]; first | assumption | exact upd_same | (rw [upd_ne (by first | assumption | exact Ne.symm (by assumption))]; first | assumption | exact upd_same)))) | exact SqT.of (by (first | assumption | exact upd_same | (rw [upd_ne (by first | assumption | exact Ne.symm (by assumption))]; first | assumption | exact upd_same | (rw [upd_ne (by first | assumption | exact Ne.symm (by assumption))]; first | assumption | exact upd_same)))) | exact Or.inl (SqL.of (by (first | assumption | exact upd_same | (rw [upd_ne (by first | assumption | exact Ne.symm (by assumption))]; first | assumption | exact upd_same | (rw [upd_ne (by first | assumption | exact Ne.symm (by assumption))]; first | assumption | exact upd_same))))) | exact Or.inr (SqT.of (by (first | assumption | exact upd_same | (rw [upd_ne (by first | assumption | exact Ne.symm (by assumption))]; first | assumption | exact upd_same | (rw [upd_ne (by first | assumption | exact Ne.symm (by assumption))]; first | assumption | exact upd_same))))) | exact Or.inl ⟨rfl, _, SqL.of (by (first | assumption | exact upd_same | (rw [upd_ne (by first | assumption | exact Ne.symm (by assumption))]; first | assumption | exact upd_same | (rw [upd_ne (by first | assumption | exact Ne.symm (by assumption))]; first | assumption | exact upd_same))))⟩ | (first | assumption | exact upd_same | (rw [upd_ne (by first | assumption | exact Ne.symm (by assumption))]; first | assumption | exact upd_same | (rw [upd_ne (by first | assumption | exact Ne.symm (by assumption))]; first | assumption | exact upd_same))) | decide | exact Nat.le_of_ble_eq_true rfl | omega | (show ∃ xs, SqL _ _ _ xs; exact ⟨_, SqL.of (by (first | assumption | exact upd_same | (rw [upd_ne (by first | assumption | exact Ne.symm (by assumption))]; first | assumption | exact upd_same | (rw [upd_ne (by first | assumption | exact Ne.symm (by assumption))]; first | assumption | exact upd_same))))⟩) | (show ∃ xs, SqT _ _ _ xs; exact ⟨_, SqT.of (by (first | assumption | exact upd_same | (rw [upd_ne (by first | assumption | exact Ne.symm (by assumption))]; first | assumption | exact upd_same | (rw [upd_ne (by first | assumption | exact Ne.symm (by assumption))]; first | assumption | exact upd_same))))⟩) | exact DGet.k (k := Sum.inl _) (by (first | assumption | exact upd_same | (rw [upd_ne (by first | assumption | exact Ne.symm (by assumption))]; first | assumption | exact upd_same | (rw [upd_ne (by first | assumption | exact Ne.symm (by assumption))]; first | assumption | exact upd_same)))) | (show V.int _ = kV (Sum.inl _); rfl) | (show ∃ z, V.str _ = V.str z; exact ⟨_, rfl⟩) | exact Or.inl ⟨by (first | decide | omega), by (first | decide | omega)⟩ | exact Or.inr ⟨by (first | decide | omega), by (first | decide | omega)⟩ | exact ⟨by (first | decide | omega), by (first | decide | omega)⟩ | exact ⟨by decide, by decide, by decide⟩ | exact L2.ClsV.ty _ | exact Dt.ty (by assumption) | exact Dt.kint (by assumption) | exact Dt.kbool (by assumption) | exact Dt.ktuple (by assumption) | exact Dt.klist (by assumption) | exact Dt.kstr (by assumption))) | refine Or.inl ⟨_, rfl, ?_⟩ | refine Or.inr ⟨_, rfl, ?_⟩ | refine Or.inr ⟨SqT.of (by (first | assumption | exact upd_same | (rw [upd_ne (by first | assumption | exact Ne.symm (by assumption))]; first | assumption | exact upd_same | (rw [upd_ne (by first | assumption | exact Ne.symm (by assumption))]; first | assumption | exact upd_same)))), SqT.of (by (first | assumption | exact upd_same | (rw [upd_ne (by first | assumption | exact Ne.symm (by assumption))]; first | assumption | exact upd_same | (rw [upd_ne (by first | assumption | exact Ne.symm (by assumption))]; first | assumption | exact upd_same)))), ?_⟩ | refine Or.inl ⟨SqL.of (by (first | assumption | exact upd_same | (rw [upd_ne (by first | assumption | exact Ne.symm (by assumption))]; first | assumption | exact upd_same | (rw [upd_ne (by first | assumption | exact Ne.symm (by assumption))]; first | assumption | exact upd_same)))), SqL.of (by (first | assumption | exact upd_same | (rw [upd_ne (by first | assumption | exact Ne.symm (by assumption))]; first | assumption | exact upd_same | (rw [upd_ne (by first | assumption | exact Ne.symm (by assumption))]; first | assumption | exact upd_same)))), ?_⟩ | refine Or.inl ⟨SqL.of (by (first | assumption | exact upd_same | (rw [upd_ne (by first | assumption | exact Ne.symm (by assumption))]; first | assumption | exact upd_same | (rw [upd_ne (by first | assumption | exact Ne.symm (by assumption))]; first | assumption | exact upd_same)))), ?_⟩ | refine Or.inr ⟨SqT.of (by (first | assumption | exact upd_same | (rw [upd_ne (by first | assumption | exact Ne.symm (by assumption))]; first | assumption | exact upd_same | (rw [upd_ne (by first | assumption | exact Ne.symm (by assumption))]; first | assumption | exact upd_same)))), ?_⟩ | refine ifT rfl ?_ | refine ifF rfl ?_))
mutual
theorem Rp.dpS {K : PySem.W.Frag} {N : Addr → Prop} {H : Hp} : ∀ {v : V} {d : PyData}, Rp N H v d → d.canLay0 = true → Dp K H v d
  | _, _, .non, _ => .non
  | _, _, .bl b, _ => .bl b
  | _, _, .int i, _ => .int i
  | _, _, .str x, _ => .str x
  | _, _, .lst e _ r, c => .lst (SqL.of e) (r.dpS (by simpa [PyData.canLay0] using c))
  | _, _, .tup e _ r, c => .tup (SqT.of e) (r.dpS (by simpa [PyData.canLay0] using c))
  | _, _, .emp _ _, c => by simp [PyData.canLay0] at c
theorem RpAll.dpS {K : PySem.W.Frag} {N : Addr → Prop} {H : Hp} : ∀ {vs : List V} {ds : List PyData}, RpAll N H vs ds → PyData.canLayAll0 ds = true → DpAll K H vs ds
  | _, _, .nil, _ => .nil
  | _, _, .cons r t, c => by
    unfold PyData.canLayAll0 at c
    rw [Bool.and_eq_true] at c
    exact .cons (r.dpS c.1) (t.dpS c.2)
end
abbrev NF0 : Addr → Prop := fun _ => False
def tuI (ns : List Int) : PyData := .tuple (ns.map PyData.int)
theorem ints_rp {H : Hp} : ∀ ns : List Int, RpAll NF0 H (ns.map V.int) (ns.map PyData.int)
  | [] => .nil
  | n :: ns => .cons (.int n) (ints_rp ns)
theorem tuI_rp {H : Hp} {a : Addr} {ns : List Int} (e : H a = some (.tup (ns.map V.int))) : Rp NF0 H (.ref a) (tuI ns) := .tup e (fun z => z) (ints_rp ns)
theorem ints_dl : ∀ ns : List Int, PyData.depthAll (ns.map PyData.int) = 0 ∧ PyData.canLayAll0 (ns.map PyData.int) = true ∧ thinAll (ns.map PyData.int) = true
  | [] => ⟨rfl, rfl, rfl⟩
  | n :: ns => by
    obtain ⟨h1, h2, h3⟩ := ints_dl ns
    refine ⟨?_, ?_, ?_⟩
    · simp only [List.map_cons, PyData.depthAll, PyData.depth, h1]; omega
    · simp only [List.map_cons, PyData.canLayAll0, PyData.canLay0, h2, Bool.and_true]
    · simp only [List.map_cons, thinAll, thin, h3, Bool.and_true]
def dueD : Option (List Int) → PyData
  | some ks => .tuple [.str "told", tuI ks]
  | none => .tuple [.str "refused", .str "share"]
theorem dueD_ok (r : Option (List Int)) (h : ∀ ks, r = some ks → ks.length ≤ 1000) : (dueD r).depth ≤ 2 ∧ (dueD r).canLay0 = true ∧ thin (dueD r) = true := by
  cases r with
  | none => exact ⟨by decide +kernel, by decide +kernel, by decide +kernel⟩
  | some ks =>
    obtain ⟨h1, h2, h3⟩ := ints_dl ks
    have hl := h ks rfl
    refine ⟨?_, ?_, ?_⟩
    · simp only [dueD, tuI, PyData.depth, PyData.depthAll, h1]; omega
    · simp only [dueD, tuI, PyData.canLay0, PyData.canLayAll0, h2, Bool.and_true]
      decide +kernel
    · simp [dueD, tuI, thin, thinAll, h3, hl]
def tupI (H : Hp) : V → List Int
  | .ref a => match H a with
    | some (.tup xs) => xs.map intV
    | _ => []
  | _ => []
theorem tupI_at {H : Hp} {a : Addr} {ns : List Int} (h : H a = some (.tup (ns.map V.int))) : tupI H (.ref a) = ns := by
  simp only [tupI, h]
  rw [List.map_map]
  exact List.map_id'' (fun _ => rfl) ns
def sumT (H : Hp) (v1 v2 : V) : Option (List Int) := if tupB shL H v1 && tupB shL H v2 then addS 1000 (tupI H v1) (tupI H v2) else none
theorem sumT_comm {H : Hp} {v1 v2 : V} : sumT H v1 v2 = sumT H v2 v1 := by
  unfold sumT
  rw [Bool.and_comm, addS_comm]
def halfT (H : Hp) (v : V) : Option (List Int) := if tupB (fun xs => shL xs && decide (0 < xs.length)) H v then some ((tupI H v).map (· + 1)) else none
theorem addS_len {n : Nat} {ns ms ks : List Int} (h : addS n ns ms = some ks) : ks.length ≤ n + 1 := by
  obtain ⟨sh, b, _⟩ := addS_some h
  have := nodup_le2 (l := ks) (l' := (List.range (n + 1)).map fun (j : Nat) => (j : Int)) (List.Pairwise.imp (fun h => by omega) sh.asc) fun x hx => by
    have h0 := sh.nn x hx
    have h1 := b x hx
    exact List.mem_map.mpr ⟨x.toNat, List.mem_range.mpr (by omega), by omega⟩
  simpa using this
theorem sm_of {H : Hp} {v : V} (o : Ok9 H v) (e : tupB shL H v = true) : ∃ a ns, v = .ref a ∧ H a = some (.tup (ns.map V.int)) ∧ SmS ns := by
  obtain ⟨a, ns, rfl, ea, sh, _⟩ := share_inv o.g e
  exact ⟨a, ns, rfl, ea, o.m a ns rfl ea sh⟩
def spSummed : Sp := fun vs H Q _ => ∃ v1 v2 : V, vs = [v1, v2] ∧ Ok9 H v1 ∧ Ok9 H v2 ∧ ∀ p H', Same H H' → Rp NF0 H' (.ref p) (dueD (sumT H v1 v2)) → Q (.ref p) H'
def spDue : Sp := fun vs H Q _ => ∃ v1 v2 : V, vs = [v1, v2] ∧ Ok9 H v1 ∧ Ok9 H v2 ∧ ∀ p xs H', Same H H' → H' p = some (.tup xs) → RpAll NF0 H' xs (match dueD (sumT H v1 v2) with | .tuple ds => ds | _ => []) → Rp NF0 H' (.ref p) (dueD (sumT H v1 v2)) → Q (.ref p) H'
def spLHalf : Sp := fun vs H Q _ => ∃ v : V, vs = [v] ∧ Ok9 H v ∧ ∀ p H', Same H H' → Rp NF0 H' (.ref p) (dueD (halfT H v)) → Q (.ref p) H'
section
variable {P : Program} {w : World} {K : PySem.W.Frag} {mg : Str → Option Value} {base : Heap} {CN CQ : Addr}
theorem sum_ok {E : XK} {Q : VK} {H : Hp} {v1 v2 : V} (o1 : Ok9 H v1) (o2 : Ok9 H v2) (k1 : sumT H v1 v2 = none → ∀ H', Same H H' → E (.ref CN) none H') (k2 : ∀ ks, sumT H v1 v2 = some ks → ∀ p H', Same H H' → H' p = some (.tup (ks.map V.int)) → Q (.ref p) H') :
    spSumOf CN [v1, v2] H Q E := by
  refine ⟨v1, v2, rfl, o1.g, o2.g, fun e => k1 (by unfold sumT; rw [e]; rfl), fun a b ns ms e1 e2 ea eb h1 h2 => ?_⟩
  subst e1 e2
  have s1 := o1.m a ns rfl ea h1
  have s2 := o2.m b ms rfl eb h2
  have e : sumT H (.ref a) (.ref b) = addS 1000 ns ms := by
    unfold sumT
    rw [tupB_at ea, tupB_at eb, shL_iff.mpr h1, shL_iff.mpr h2, tupI_at ea, tupI_at eb]
    rfl
  rw [e] at k1 k2
  exact ⟨1000, fun q hq => by have := s1.b q hq; omega, fun q hq => by have := s2.b q hq; omega, by have := s1.l; have := s2.l; omega, k1, fun ks hk _ => k2 ks hk⟩
theorem d_law_summed (F : FunAt K mg "_law_summed" s_law_summed) (x_NoShare : ExcAt K mg "NoShare" CN) (x_QuietError : ExcAt K mg "QuietError" CQ) (D_sum_of : HasX P w K mg base 5 "sum_of" ["one", "other"] (spSumOf CN)) : Has P w K mg base 6 "_law_summed" ["one", "other"] spSummed := by
  refine mk_has F sc_law_summed (fun _ _ _ _ _ _ us hl => match us, hl with | [_, _], _ => rfl) (fun vs H Q E h => ?_) fun f cdv A outer s H vs Q E hr h => ?_
  · obtain ⟨v1, v2, rfl, _⟩ := h
    rfl
  obtain ⟨v1, v2, rfl, o1, o2, k⟩ := h
  refine ⟨_, (pss_one (ps_try_many (tb := fun W => tRet (tTup (tCons (tC (.str "told")) (tCons (tCallS (spSumOf CN) (WE W) (tCons (tVar 0) (tCons (tVar 1) tNil))) tNil))))
    (l := [(.ref CN, fun _ _ _ => tRet (tTup (tCons (tC (.str "refused")) (tCons (tC (.str "share")) tNil)))), (.ref CQ, fun _ _ _ => tRet (tTup (tCons (tC (.str "refused")) (tCons (tC (.str "other")) tNil))))]) (Wout := fun _ _ _ _ => False) rfl rfl takes0
    (fun W pn xe tk _ => (pss_one (ps_ret (pe_tup (pa_cons pe_str (pa_cons (pe_hX tk D_sum_of (hr.mono (by decide)) rfl (pa_cons (pv 0) (pa_cons (pv 1) pa_nil))) pa_nil))))))
    (.cons ⟨rfl, by decide, .inl x_NoShare.g⟩ (fun a oe cls d pn hz hf => pss_one (ps_ret (pe_tup (pa_cons pe_str (pa_cons pe_str pa_nil))))) (.cons ⟨rfl, by decide, .inl x_QuietError.g⟩ (fun a oe cls d pn hz hf => pss_one (ps_ret (pe_tup (pa_cons pe_str (pa_cons pe_str pa_nil))))) .nil)))), ?_⟩
  refine ⟨_, rfl, _, rfl, ?_⟩
  unfold tNil
  refine sum_ok o1 o2 (fun e H1 s1 => ?_) fun ks e p H1 s1 ep => ?_
  · refine ⟨true, x_NoShare.exm, fun _ a0 _ => ⟨(by show 2 ≤ sizeLine; decide), fun T nT => ?_⟩, fun z => nomatch z⟩
    refine k T _ (snew s1 nT) ?_
    rw [e]
    exact .tup upd_same (fun z => z) (.cons (.str _) (.cons (.str _) .nil))
  · refine ⟨(by show 2 ≤ sizeLine; decide), fun T nT => ?_⟩
    refine k T _ (snew s1 nT) ?_
    rw [e]
    exact .tup upd_same (fun z => z) (.cons (.str _) (.cons ((tuI_rp ep).to (Kp.new nT)) .nil))
theorem half_ok {E : XK} {Q : VK} {H : Hp} {v : V} (o : Ok9 H v) (k1 : halfT H v = none → ∀ H', Same H H' → E (.ref CN) none H') (k2 : ∀ ks, halfT H v = some ks → ∀ p H', Same H H' → H' p = some (.tup (ks.map V.int)) → Q (.ref p) H') : spHalf CN [v] H Q E := by
  refine ⟨v, rfl, o.g, fun e => k1 (by unfold halfT; rw [e]; rfl), fun a ns e ea sh ne => ?_⟩
  subst e
  refine k2 _ ?_
  unfold halfT
  have hp : 0 < ns.length := by cases ns with | nil => exact absurd rfl ne | cons _ _ => simp
  rw [tupB_at ea, shL_iff.mpr sh, tupI_at ea, List.length_map]
  simp [hp]
theorem d_law_half (F : FunAt K mg "_law_half" s_law_half) (x_NoShare : ExcAt K mg "NoShare" CN) (x_QuietError : ExcAt K mg "QuietError" CQ) (D_half : HasX P w K mg base 5 "half" ["share"] (spHalf CN)) : Has P w K mg base 6 "_law_half" ["share"] spLHalf := by
  refine mk_has F sc_law_half (fun _ _ _ _ _ _ us hl => match us, hl with | [_], _ => rfl) (fun vs H Q E h => ?_) fun f cdv A outer s H vs Q E hr h => ?_
  · obtain ⟨v1, rfl, _⟩ := h
    rfl
  obtain ⟨v1, rfl, o1, k⟩ := h
  refine ⟨_, (pss_one (ps_try_many (tb := fun W => tRet (tTup (tCons (tC (.str "told")) (tCons (tCallS (spHalf CN) (WE W) (tCons (tVar 0) tNil)) tNil))))
    (l := [(.ref CN, fun _ _ _ => tRet (tTup (tCons (tC (.str "refused")) (tCons (tC (.str "share")) tNil)))), (.ref CQ, fun _ _ _ => tRet (tTup (tCons (tC (.str "refused")) (tCons (tC (.str "other")) tNil))))]) (Wout := fun _ _ _ _ => False) rfl rfl takes0
    (fun W pn xe tk _ => (pss_one (ps_ret (pe_tup (pa_cons pe_str (pa_cons (pe_hX tk D_half (hr.mono (by decide)) rfl (pa_cons (pv 0) pa_nil)) pa_nil))))))
    (.cons ⟨rfl, by decide, .inl x_NoShare.g⟩ (fun a oe cls d pn hz hf => pss_one (ps_ret (pe_tup (pa_cons pe_str (pa_cons pe_str pa_nil))))) (.cons ⟨rfl, by decide, .inl x_QuietError.g⟩ (fun a oe cls d pn hz hf => pss_one (ps_ret (pe_tup (pa_cons pe_str (pa_cons pe_str pa_nil))))) .nil)))), ?_⟩
  refine ⟨_, rfl, ?_⟩
  unfold tNil
  refine half_ok o1 (fun e H1 s1 => ?_) fun ks e p H1 s1 ep => ?_
  · refine ⟨true, x_NoShare.exm, fun _ a0 _ => ⟨(by show 2 ≤ sizeLine; decide), fun T nT => ?_⟩, fun z => nomatch z⟩
    refine k T _ (snew s1 nT) ?_
    rw [e]
    exact .tup upd_same (fun z => z) (.cons (.str _) (.cons (.str _) .nil))
  · refine ⟨(by show 2 ≤ sizeLine; decide), fun T nT => ?_⟩
    refine k T _ (snew s1 nT) ?_
    rw [e]
    exact .tup upd_same (fun z => z) (.cons (.str _) (.cons ((tuI_rp ep).to (Kp.new nT)) .nil))
theorem d_law_due (F : FunAt K mg "_law_due" s_law_due) (D_law_is_share : Has P w K mg base 2 "_law_is_share" ["thing"] (spTup shL)) (D_law_sum : Has P w K mg base 2 "_law_sum" ["one", "other"] spLSum) : Has P w K mg base 3 "_law_due" ["one", "other"] spDue := by
  refine mk_has F sc_law_due (fun _ _ _ _ _ _ us hl => match us, hl with | [_, _], _ => rfl) (fun vs H Q E h => ?_) fun f cdv A outer s H vs Q E hr h => ?_
  · obtain ⟨v1, v2, rfl, _⟩ := h
    rfl
  obtain ⟨v1, v2, rfl, o1, o2, k⟩ := h
  have kn : ∀ {H1 : Hp}, sumT H v1 v2 = none → Same H H1 → ∀ T, H1 T = none → Q (.ref T) (upd H1 T (.tup [.str "refused", .str "share"])) := fun {H1} e s1 T nT => by
    have r : RpAll NF0 (upd H1 T (.tup [.str "refused", .str "share"])) [.str "refused", .str "share"] [.str "refused", .str "share"] := .cons (.str _) (.cons (.str _) .nil)
    refine k T _ _ (snew s1 nT) upd_same (by rw [e]; exact r) ?_
    rw [e]
    exact .tup upd_same (fun z => z) r
  refine ⟨_, (pss_cons (ps_if (PW.pt (pw_or (pt_not (pt_val (pe_h D_law_is_share (hr.mono (by decide)) rfl (pa_cons (pv 0) pa_nil)))) (pw_or1 (pt_not (pt_val (pe_h D_law_is_share (hr.mono (by decide)) rfl (pa_cons (pv 1) pa_nil)))))))
    (pss_one (ps_ret (pe_tup (pa_cons pe_str (pa_cons pe_str pa_nil)))))
    pss_nil)
    (pss_cons (ps_set (i := 2) sc_law_due.nd rfl (Or.inl rfl) (pe_h D_law_sum (hr.mono (by decide)) rfl (pa_cons (pv 0) (pa_cons (pv 1) pa_nil))))
    (pss_cons (ps_if (pt_cmp (pc_isN (pv 2)))
    (pss_one (ps_ret (pe_tup (pa_cons pe_str (pa_cons pe_str pa_nil)))))
    pss_nil)
    (pss_one (ps_ret (pe_tup (pa_cons pe_str (pa_cons (pv 2) pa_nil)))))))), ?_⟩
  trivial
  refine ⟨o1.g, fun H1 s1 => ?_⟩
  trivial
  cases e1 : tupB shL H v1 with
  | false =>
    trivial
    intro T nT
    exact kn (by unfold sumT; rw [e1]; rfl) s1 T nT
  | true =>
    trivial
    refine ⟨o2.g.same s1, fun H2 s2 => ?_⟩
    rw [tupB_same o2.g s1]
    trivial
    have s12 := s1.trans s2
    cases e2 : tupB shL H v2 with
    | false =>
      trivial
      intro T nT
      exact kn (by unfold sumT; rw [e1, e2]; rfl) s12 T nT
    | true =>
      obtain ⟨a, ns, rfl, ea, sa⟩ := sm_of o1 e1
      obtain ⟨b, ms, rfl, eb, sb⟩ := sm_of o2 e2
      have e : sumT H (.ref a) (.ref b) = addS 1000 ns ms := by
        unfold sumT
        rw [e1, e2, tupI_at ea, tupI_at eb]
        rfl
      refine ifF rfl ?_
      trace_state
      refine ⟨_, rfl, _, rfl, a, b, ns, ms, rfl, s12 _ _ ea, s12 _ _ eb, sa.sh, sb.sh, fun q hq => by have := sa.b q hq; omega, fun q hq => by have := sb.b q hq; omega, by have := sa.l; have := sb.l; omega, fun z H3 s3 => ?_, fun ks z p H3 s3 ep => ?_⟩
      · trivial
        intro T nT
        exact kn (e.trans z) (s12.trans s3) T nT
      · trivial
        intro T nT
        have r : RpAll NF0 (upd H3 T (.tup [.str "told", .ref p])) [.str "told", .ref p] [.str "told", tuI ks] := .cons (.str _) (.cons ((tuI_rp ep).to (Kp.new nT)) .nil)
        refine k T _ _ (snew (s12.trans s3) nT) upd_same (by rw [e, z]; exact r) ?_
        rw [e, z]
        exact .tup upd_same (fun z => z) r
end
end KQ
set_option Elab.async false
set_option maxRecDepth 100000
set_option maxHeartbeats 4000000
namespace KQ
open PySem PySem.Spec PyProof.Rows L2
local macro_rules | `(tactic| trivial) => `(tactic| repeat (first | (apply And.intro; focus (first | rfl | assumption | exact upd_same | exact SqL.of (by (first | assumption | exact upd_same | (rw [upd_ne (by first | assumption | exact Ne.symm (by assumption))]; first | assumption | exact upd_same | (rw [upd_ne (by first | assumption | exact Ne.symm (by assumption))]; first | assumption | exact upd_same)))) | exact SqT.of (by (first | assumption | exact upd_same | (rw [upd_ne (by first | assumption | exact Ne.symm (by assumption))]; first | assumption | exact upd_same | (rw [upd_ne (by first | assumption | exact Ne.symm (by assumption))]; first | assumption | exact upd_same)))) | exact Or.inl (SqL.of (by (first | assumption | exact upd_same | (rw [upd_ne (by first | assumption | exact Ne.symm (by assumption))]; first | assumption | exact upd_same | (rw [upd_ne (by first | assumption | exact Ne.symm (by assumption))]; first | assumption | exact upd_same))))) | exact Or.inr (SqT.of (by (first | assumption | exact upd_same | (rw [upd_ne (by first | assumption | exact Ne.symm (by assumption))]; first | assumption | exact upd_same | (rw [upd_ne (by first | assumption | exact Ne.symm (by assumption))]; first | assumption | exact upd_same))))) | exact Or.inl ⟨rfl, _, SqL.of (by (first | assumption | exact upd_same | (rw [upd_ne (by first | assumption | exact Ne.symm (by assumption))]; first | assumption | exact upd_same | (rw [upd_ne (by first | assumption | exact Ne.symm (by assumption))]; first | assumption | exact upd_same))))⟩ | (first | assumption | exact upd_same | (rw [upd_ne (by first | assumption | exact Ne.symm (by assumption))]; first | assumption | exact upd_same | (rw [upd_ne (by first | assumption | exact Ne.symm (by assumption))]; first | assumption | exact upd_same))) | decide | exact Nat.le_of_ble_eq_true rfl | omega | (show ∃ xs, SqL _ _ _ xs; exact ⟨_, SqL.of (by (first | assumption | exact upd_same | (rw [upd_ne (by first | assumption | exact Ne.symm (by assumption))]; first | assumption | exact upd_same | (rw [upd_ne (by first | assumption | exact Ne.symm (by assumption))]; first | assumption | exact upd_same))))⟩) | (show ∃ xs, SqT _ _ _ xs; exact ⟨_, SqT.of (by (first | assumption | exact upd_same | (rw [upd_ne (by first | assumption | exact Ne.symm (by assumption))]; first | assumption | exact upd_same | (rw [upd_ne (by first | assumption | exact Ne.symm (by assumption))]; first | assumption | exact upd_same))))⟩) | exact DGet.k (k := Sum.inl _) (by (first | assumption | exact upd_same | (rw [upd_ne (by first | assumption | exact Ne.symm (by assumption))]; first | assumption | exact upd_same | (rw [upd_ne (by first | assumption | exact Ne.symm (by assumption))]; first | assumption | exact upd_same)))) | (show V.int _ = kV (Sum.inl _); rfl) | (show ∃ z, V.str _ = V.str z; exact ⟨_, rfl⟩) | exact Or.inl ⟨by (first | decide | omega), by (first | decide | omega)⟩ | exact Or.inr ⟨by (first | decide | omega), by (first | decide | omega)⟩ | exact ⟨by (first | decide | omega), by (first | decide | omega)⟩ | exact ⟨by decide, by decide, by decide⟩ | exact L2.ClsV.ty _ | exact Dt.ty (by assumption) | exact Dt.kint (by assumption) | exact Dt.kbool (by assumption) | exact Dt.ktuple (by assumption) | exact Dt.klist (by assumption) | exact Dt.kstr (by assumption))) | (apply Exists.intro; apply And.intro; focus (first | rfl | assumption | exact upd_same | exact SqL.of (by (first | assumption | exact upd_same | (rw [upd_ne (by first | assumption | exact Ne.symm (by assumption))]; first | assumption | exact upd_same | (rw [upd_ne (by first | assumption | exact Ne.symm (by assumption))]; first | assumption | exact upd_same)))) | exact SqT.of (by (first | assumption | exact upd_same | (rw [upd_ne (by first | assumption | exact Ne.symm (by assumption))]; first | assumption | exact upd_same | (rw [upd_ne (by first | assumption | exact Ne.symm (by assumption))]; first | assumption | exact upd_same)))) | exact Or.inl (SqL.of (by (first | assumption | exact upd_same | (rw [upd_ne (by first | assumption | exact Ne.symm (by assumption))]; first | assumption | exact upd_same | (rw [upd_ne (by first | assumption | exact Ne.symm (by assumption))]; first | assumption | exact upd_same))))) | exact Or.inr (SqT.of (by (first | assumption | exact upd_same | (rw [upd_ne (by first | assumption | exact Ne.symm (by assumption))]; first | assumption | exact upd_same | (rw [upd_ne (by first | assumption | exact Ne.symm (by assumption))]; first | assumption | exact upd_same))))) | exact Or.inl ⟨rfl, _, SqL.of (by (first | assumption | exact upd_same | (rw [upd_ne (by first | assumption | exact Ne.symm (by assumption))]; first | assumption | exact upd_same | (rw [upd_ne (by first | assumption | exact Ne.symm (by assumption))]; first | assumption | exact upd_same))))⟩ | (first | assumption | exact upd_same | (rw [upd_ne (by first | assumption | exact Ne.symm (by assumption))]; first | assumption | exact upd_same | (rw [upd_ne (by first | assumption | exact Ne.symm (by assumption))]; first | assumption | exact upd_same))) | decide | exact Nat.le_of_ble_eq_true rfl | omega | (show ∃ xs, SqL _ _ _ xs; exact ⟨_, SqL.of (by (first | assumption | exact upd_same | (rw [upd_ne (by first | assumption | exact Ne.symm (by assumption))]; first | assumption | exact upd_same | (rw [upd_ne (by first | assumption | exact Ne.symm (by assumption))]; first | assumption | exact upd_same))))⟩) | (show ∃ xs, SqT _ _ _ xs; exact ⟨_, SqT.of (by (first | assumption | exact upd_same | (rw [upd_ne (by first | assumption | exact Ne.symm (by assumption))]; first | assumption | exact upd_same | (rw [upd_ne (by first | assumption | exact Ne.symm (by assumption))]; first | assumption | exact upd_same))))⟩) | exact DGet.k (k := Sum.inl _) (by (first | assumption | exact upd_same | (rw [upd_ne (by first | assumption | exact Ne.symm (by assumption))]; first | assumption | exact upd_same | (rw [upd_ne (by first | assumption | exact Ne.symm (by assumption))]; first | assumption | exact upd_same)))) | (show V.int _ = kV (Sum.inl _); rfl) | (show ∃ z, V.str _ = V.str z; exact ⟨_, rfl⟩) | exact Or.inl ⟨by (first | decide | omega), by (first | decide | omega)⟩ | exact Or.inr ⟨by (first | decide | omega), by (first | decide | omega)⟩ | exact ⟨by (first | decide | omega), by (first | decide | omega)⟩ | exact ⟨by decide, by decide, by decide⟩ | exact L2.ClsV.ty _ | exact Dt.ty (by assumption) | exact Dt.kint (by assumption) | exact Dt.kbool (by assumption) | exact Dt.ktuple (by assumption) | exact Dt.klist (by assumption) | exact Dt.kstr (by assumption))) | (apply Exists.intro; apply Exists.intro; apply And.intro; focus (first | rfl | assumption | exact upd_same | exact SqL.of (by (first | assumption | exact upd_same | (rw [upd_ne (by first | assumption | exact Ne.symm (by assumption))]; first | assumption | exact upd_same | (rw [upd_ne (by first | assumption | exact Ne.symm (by assumption))]; first | assumption | exact upd_same)))) | exact SqT.of (by (first | assumption | exact upd_same | (rw [upd_ne (by first | assumption | exact Ne.symm (by assumption))]; first | assumption | exact upd_same | (rw [upd_ne (by first | assumption | exact Ne.symm (by assumption))]; first | assumption | exact upd_same)))) | exact Or.inl (SqL.of (by (first | assumption | exact upd_same | (rw [upd_ne (by first | assumption | exact Ne.symm (by assumption))]; first | assumption | exact upd_same | (rw [upd_ne (by first | assumption | exact Ne.symm (by assumption))]; first | assumption | exact upd_same))))) | exact Or.inr (SqT.of (by (first | assumption | exact upd_same | (rw [upd_ne (by first | assumption | exact Ne.symm (by assumption))]; first | assumption | exact upd_same | (rw [upd_ne (by first | assumption | exact Ne.symm (by assumption))]; first | assumption | exact upd_same))))) | exact Or.inl ⟨rfl, _, SqL.of (by (first | assumption | exact upd_same | (rw [upd_ne (by first | assumption | exact Ne.symm (by assumption))]; first | assumption | exact upd_same | (rw [upd_ne (by first | assumption | exact Ne.symm (by assumption))]; first | assumption | exact upd_same))))⟩ | (first | assumption | exact upd_same | (rw [upd_ne (by first | assumption | exact Ne.symm (by assumption))]; first | assumption | exact upd_same | (rw [upd_ne (by first | assumption | exact Ne.symm (by assumption))]; first | assumption | exact upd_same))) | decide | exact Nat.le_of_ble_eq_true rfl | omega | (show ∃ xs, SqL _ _ _ xs; exact ⟨_, SqL.of (by (first | assumption | exact upd_same | (rw [upd_ne (by first | assumption | exact Ne.symm (by assumption))]; first | assumption | exact upd_same | (rw [upd_ne (by first | assumption | exact Ne.symm (by assumption))]; first | assumption | exact upd_same))))⟩) | (show ∃ xs, SqT _ _ _ xs; exact ⟨_, SqT.of (by (first | assumption | exact upd_same | (rw [upd_ne (by first | assumption | exact Ne.symm (by assumption))]; first | assumption | exact upd_same | (rw [upd_ne (by first | assumption | exact Ne.symm (by assumption))]; first | assumption | exact upd_same))))⟩) | exact DGet.k (k := Sum.inl _) (by (first | assumption | exact upd_same | (rw [upd_ne (by first | assumption | exact Ne.symm (by assumption))]; first | assumption | exact upd_same | (rw [upd_ne (by first | assumption | exact Ne.symm (by assumption))]; first | assumption | exact upd_same)))) | (show V.int _ = kV (Sum.inl _); rfl) | (show ∃ z, V.str _ = V.str z; exact ⟨_, rfl⟩) | exact Or.inl ⟨by (first | decide | omega), by (first | decide | omega)⟩ | exact Or.inr ⟨by (first | decide | omega), by (first | decide | omega)⟩ | exact ⟨by (first | decide | omega), by (first | decide | omega)⟩ | exact ⟨by decide, by decide, by decide⟩ | exact L2.ClsV.ty _ | exact Dt.ty (by assumption) | exact Dt.kint (by assumption) | exact Dt.kbool (by assumption) | exact Dt.ktuple (by assumption) | exact Dt.klist (by assumption) | exact Dt.kstr (by assumption))) | (apply Exists.intro; apply Exists.intro; apply Exists.intro; apply And.intro; focus (first | rfl | assumption | exact upd_same | exact SqL.of (by (first | assumption | exact upd_same | (rw [upd_ne (by first | assumption | exact Ne.symm (by assumption))]; first | assumption | exact upd_same | (rw [upd_ne (by first | assumption | exact Ne.symm (by assumption))]; first | assumption | exact upd_same)))) | exact SqT.of (by (first | assumption | exact upd_same | (rw [upd_ne (by first | assumption | exact Ne.symm (by assumption))]; first | assumption | exact upd_same | (rw [upd_ne (by first | assumption | exact Ne.symm (by assumption))]; first | assumption | exact upd_same)))) | exact Or.inl (SqL.of (by (first | assumption | exact upd_same | (rw [upd_ne (by first | assumption | exact Ne.symm (by assumption))]; first | assumption | exact upd_same | (rw [upd_ne (by first | assumption | exact Ne.symm (by assumption))]; first | assumption | exact upd_same))))) | exact Or.inr (SqT.of (by (first | assumption | exact upd_same | (rw [upd_ne (by first | assumption | exact Ne.symm (by assumption))]; first | assumption | exact upd_same | (rw [upd_ne (by first | assumption | exact Ne.symm (by assumption))]; first | assumption | exact upd_same))))) | exact Or.inl ⟨rfl, _, SqL.of (by (first | assumption | exact upd_same | (rw [upd_ne (by first | assumption | exact Ne.symm (by assumption))]; first | assumption | exact upd_same | (rw [upd_ne (by first | assumption | exact Ne.symm (by assumption))]; first | assumption | exact upd_same))))⟩ | (first | assumption | exact upd_same | (rw [upd_ne (by first | assumption | exact Ne.symm (by assumption))]; first | assumption | exact upd_same | (rw [upd_ne (by first | assumption | exact Ne.symm (by assumption))]; first | assumption | exact upd_same))) | decide | exact Nat.le_of_ble_eq_true rfl | omega | (show ∃ xs, SqL _ _ _ xs; exact ⟨_, SqL.of (by (first | assumption | exact upd_same | (rw [upd_ne (by first | assumption | exact Ne.symm (by assumption))]; first | assumption | exact upd_same | (rw [upd_ne (by first | assumption | exact Ne.symm (by assumption))]; first | assumption | exact upd_same))))⟩) | (show ∃ xs, SqT _ _ _ xs; exact ⟨_, SqT.of (by (first | assumption | exact upd_same | (rw [upd_ne (by first | assumption | exact Ne.symm (by assumption))]; first | assumption | exact upd_same | (rw [upd_ne (by first | assumption | exact Ne.symm (by assumption))]; first | assumption | exact upd_same))))⟩) | exact DGet.k (k := Sum.inl _) (by (first | assumption | exact upd_same | (rw [upd_ne (by first | assumption | exact Ne.symm (by assumption))]; first | assumption | exact upd_same | (rw [upd_ne (by first | assumption | exact Ne.symm (by assumption))]; first | assumption | exact upd_same)))) | (show V.int _ = kV (Sum.inl _); rfl) | (show ∃ z, V.str _ = V.str z; exact ⟨_, rfl⟩) | exact Or.inl ⟨by (first | decide | omega), by (first | decide | omega)⟩ | exact Or.inr ⟨by (first | decide | omega), by (first | decide | omega)⟩ | exact ⟨by (first | decide | omega), by (first | decide | omega)⟩ | exact ⟨by decide, by decide, by decide⟩ | exact L2.ClsV.ty _ | exact Dt.ty (by assumption) | exact Dt.kint (by assumption) | exact Dt.kbool (by assumption) | exact Dt.ktuple (by assumption) | exact Dt.klist (by assumption) | exact Dt.kstr (by assumption))) | (apply Exists.intro; apply Exists.intro; apply Exists.intro; apply Exists.intro; apply And.intro; focus (first | rfl | assumption | exact upd_same | exact SqL.of (by (first | assumption | exact upd_same | (rw [upd_ne (by first | assumption | exact Ne.symm (by assumption))]; first | assumption | exact upd_same | (rw [upd_ne (by first | assumption | exact Ne.symm (by assumption))]; first | assumption | exact upd_same)))) | exact SqT.of (by (first | assumption | exact upd_same | (rw [upd_ne (by first | assumption | exact Ne.symm (by assumption))]; first | assumption | exact upd_same | (rw [upd_ne (by first | assumption | exact Ne.symm (by assumption))]; first | assumption | exact upd_same)))) | exact Or.inl (SqL.of (by (first | assumption | exact upd_same | (rw [upd_ne (by first | assumption | exact Ne.symm (by assumption))]; first | assumption | exact upd_same | (rw [upd_ne (by first | assumption | exact Ne.symm (by assumption))]; first | assumption | exact upd_same))))) | exact Or.inr (SqT.of (by (first | assumption | exact upd_same | (rw [upd_ne (by first | assumption | exact Ne.symm (by assumption))]; first | assumption | exact upd_same | (rw [upd_ne (by first | assumption | exact Ne.symm (by assumption))]; first | assumption | exact upd_same))))) | exact Or.inl ⟨rfl, _, SqL.of (by (first | assumption | exact upd_same | (rw [upd_ne (by first | assumption | exact Ne.symm (by assumption))]; first | assumption | exact upd_same | (rw [upd_ne (by first | assumption | exact Ne.symm (by assumption))]; first | assumption | exact upd_same))))⟩ | (first | assumption | exact upd_same | (rw [upd_ne (by first | assumption | exact Ne.symm (by assumption))]; first | assumption | exact upd_same | (rw [upd_ne (by first | assumption | exact Ne.symm (by assumption))]; first | assumption | exact upd_same))) | decide | exact Nat.le_of_ble_eq_true rfl | omega | (show ∃ xs, SqL _ _ _ xs; exact ⟨_, SqL.of (by (first | assumption | exact upd_same | (rw [upd_ne (by first | assumption | exact Ne.symm (by assumption))]; first | assumption | exact upd_same | (rw [upd_ne (by first | assumption | exact Ne.symm (by assumption))]; first | assumption | exact upd_same))))⟩) | (show ∃ xs, SqT _ _ _ xs; exact ⟨_, SqT.of (by (first | assumption | exact upd_same | (rw [upd_ne (by first | assumption | exact Ne.symm (by assumption))]; first | assumption | exact upd_same | (rw [upd_ne (by first | assumption | exact Ne.symm (by assumption))]; first | assumption | exact upd_same))))⟩) | exact DGet.k (k := Sum.inl _) (by (first | assumption | exact upd_same | (rw [upd_ne (by first | assumption | exact Ne.symm (by assumption))]; first | assumption | exact upd_same | (rw [upd_ne (by first | assumption | exact Ne.symm (by assumption))]; first | assumption | exact upd_same)))) | (show V.int _ = kV (Sum.inl _); rfl) | (show ∃ z, V.str _ = V.str z; exact ⟨_, rfl⟩) | exact Or.inl ⟨by (first | decide | omega), by (first | decide | omega)⟩ | exact Or.inr ⟨by (first | decide | omega), by (first | decide | omega)⟩ | exact ⟨by (first | decide | omega), by (first | decide | omega)⟩ | exact ⟨by decide, by decide, by decide⟩ | exact L2.ClsV.ty _ | exact Dt.ty (by assumption) | exact Dt.kint (by assumption) | exact Dt.kbool (by assumption) | exact Dt.ktuple (by assumption) | exact Dt.klist (by assumption) | exact Dt.kstr (by assumption))) | (apply Exists.intro; apply Exists.intro; apply Exists.intro; apply Exists.intro; apply Exists.intro; apply And.intro; focus (first | rfl | assumption | exact upd_same | exact SqL.of (by (first | assumption | exact upd_same | (rw [upd_ne (by first | assumption | exact Ne.symm (by assumption))]; first | assumption | exact upd_same | (rw [upd_ne (by first | assumption | exact Ne.symm (by assumption))]; first | assumption | exact upd_same)))) | exact SqT.of (by (first | assumption | exact upd_same | (rw [upd_ne (by first | assumption | exact Ne.symm (by assumption))]; first | assumption | exact upd_same | (rw [upd_ne (by first | assumption | exact Ne.symm (by assumption))]; first | assumption | exact upd_same)))) | exact Or.inl (SqL.of (by (first | assumption | exact upd_same | (rw [upd_ne (by first | assumption | exact Ne.symm (by assumption))]; first | assumption | exact upd_same | (rw [upd_ne (by first | assumption | exact Ne.symm (by assumption))]; first | assumption | exact upd_same))))) | exact Or.inr (SqT.of (by (first | assumption | exact upd_same | (rw [upd_ne (by first | assumption | exact Ne.symm (by assumption))]; first | assumption | exact upd_same | (rw [upd_ne (by first | assumption | exact Ne.symm (by assumption))]; first | assumption | exact upd_same))))) | exact Or.inl ⟨rfl, _, SqL.of (by (first | assumption | exact upd_same | (rw [upd_ne (by first | assumption | exact Ne.symm (by assumption))]; first | assumption | exact upd_same | (rw [upd_ne (by first | assumption | exact Ne.symm (by assumption))]; first | assumption | exact upd_same))))⟩ | (first | assumption | exact upd_same | (rw [upd_ne (by first | assumption | exact Ne.symm (by assumption))]; first | assumption | exact upd_same | (rw [upd_ne (by first | assumption | exact Ne.symm (by assumption))]; first | assumption | exact upd_same))) | decide | exact Nat.le_of_ble_eq_true rfl | omega | (show ∃ xs, SqL _ _ _ xs; exact ⟨_, SqL.of (by (first | assumption | exact upd_same | (rw [upd_ne (by first | assumption | exact Ne.symm (by assumption))]; first | assumption | exact upd_same | (rw [upd_ne (by first | assumption | exact Ne.symm (by assumption))]; first | assumption | exact upd_same))))⟩) | (show ∃ xs, SqT _ _ _ xs; exact ⟨_, SqT.of (by (first | assumption | exact upd_same | (rw [upd_ne (by first | assumption | exact Ne.symm (by assumption))]; first | assumption | exact upd_same | (rw [upd_ne (by first | assumption | exact Ne.symm (by assumption))]; first | assumption | exact upd_same))))⟩) | exact DGet.k (k := Sum.inl _) (by (first | assumption | exact upd_same | (rw [upd_ne (by first | assumption | exact Ne.symm (by assumption))]; first | assumption | exact upd_same | (rw [upd_ne (by first | assumption | exact Ne.symm (by assumption))]; first | assumption | exact upd_same)))) | (show V.int _ = kV (Sum.inl _); rfl) | (show ∃ z, V.str _ = V.str z; exact ⟨_, rfl⟩) | exact Or.inl ⟨by (first | decide | omega), by (first | decide | omega)⟩ | exact Or.inr ⟨by (first | decide | omega), by (first | decide | omega)⟩ | exact ⟨by (first | decide | omega), by (first | decide | omega)⟩ | exact ⟨by decide, by decide, by decide⟩ | exact L2.ClsV.ty _ | exact Dt.ty (by assumption) | exact Dt.kint (by assumption) | exact Dt.kbool (by assumption) | exact Dt.ktuple (by assumption) | exact Dt.klist (by assumption) | exact Dt.kstr (by assumption))) | (apply Exists.intro; apply Exists.intro; apply Exists.intro; apply Exists.intro; apply Exists.intro; apply Exists.intro; apply And.intro; focus (first | rfl | assumption | exact upd_same | exact SqL.of (by (first | assumption | exact upd_same | (rw [upd_ne (by first | assumption | exact Ne.symm (by assumption))]; first | assumption | exact upd_same | (rw [upd_ne (by first | assumption | exact Ne.symm (by assumption))]; first | assumption | exact upd_same)))) | exact SqT.of (by (first | assumption | exact upd_same | (rw [upd_ne (by first | assumption | exact Ne.symm (by assumption))]; first | assumption | exact upd_same | (rw [upd_ne (by first | assumption | exact Ne.symm (by assumption))]; first | assumption | exact upd_same)))) | exact Or.inl (SqL.of (by (first | assumption | exact upd_same | (rw [upd_ne (by first | assumption | exact Ne.symm (by assumption))]; first | assumption | exact upd_same | (rw [upd_ne (by first | assumption | exact Ne.symm (by assumption))]; first | assumption | exact upd_same))))) | exact Or.inr (SqT.of (by (first | assumption | exact upd_same | (rw [upd_ne (by first | assumption | exact Ne.symm (by assumption))]; first | assumption | exact upd_same | (rw [upd_ne (by first | assumption | exact Ne.symm (by assumption))]; first | assumption | exact upd_same))))) | exact Or.inl ⟨rfl, _, SqL.of (by (first | assumption | exact upd_same | (rw [upd_ne (by first | assumption | exact Ne.symm (by assumption))]; first | assumption | exact upd_same | (rw [upd_ne (by first | assumption | exact Ne.symm (by assumption))]; first | assumption | exact upd_same))))⟩ | (first | assumption | exact upd_same | (rw [upd_ne (by first | assumption | exact Ne.symm (by assumption))]; first | assumption | exact upd_same | (rw [upd_ne (by first | assumption | exact Ne.symm (by assumption))]; first | assumption | exact upd_same))) | decide | exact Nat.le_of_ble_eq_true rfl | omega | (show ∃ xs, SqL _ _ _ xs; exact ⟨_, SqL.of (by (first | assumption | exact upd_same | (rw [upd_ne (by first | assumption | exact Ne.symm (by assumption))]; first | assumption | exact upd_same | (rw [upd_ne (by first | assumption | exact Ne.symm (by assumption))]; first | assumption | exact upd_same))))⟩) | (show ∃ xs, SqT _ _ _ xs; exact ⟨_, SqT.of (by (first | assumption | exact upd_same | (rw [upd_ne (by first | assumption | exact Ne.symm (by assumption))]; first | assumption | exact upd_same | (rw [upd_ne (by first | assumption | exact Ne.symm (by assumption))]; first | assumption | exact upd_same))))⟩) | exact DGet.k (k := Sum.inl _) (by (first | assumption | exact upd_same | (rw [upd_ne (by first | assumption | exact Ne.symm (by assumption))]; first | assumption | exact upd_same | (rw [upd_ne (by first | assumption | exact Ne.symm (by assumption))]; first | assumption | exact upd_same)))) | (show V.int _ = kV (Sum.inl _); rfl) | (show ∃ z, V.str _ = V.str z; exact ⟨_, rfl⟩) | exact Or.inl ⟨by (first | decide | omega), by (first | decide | omega)⟩ | exact Or.inr ⟨by (first | decide | omega), by (first | decide | omega)⟩ | exact ⟨by (first | decide | omega), by (first | decide | omega)⟩ | exact ⟨by decide, by decide, by decide⟩ | exact L2.ClsV.ty _ | exact Dt.ty (by assumption) | exact Dt.kint (by assumption) | exact Dt.kbool (by assumption) | exact Dt.ktuple (by assumption) | exact Dt.klist (by assumption) | exact Dt.kstr (by assumption))) | (apply Exists.intro; apply Exists.intro; apply Exists.intro; apply Exists.intro; apply Exists.intro; apply Exists.intro; apply Exists.intro; apply And.intro; focus (first | rfl | assumption | exact upd_same | exact SqL.of (by (first | assumption | exact upd_same | (rw [upd_ne (by first | assumption | exact Ne.symm (by assumption))]; first | assumption | exact upd_same | (rw [upd_ne (by first | assumption | exact Ne.symm (by assumption))]; first | assumption | exact upd_same)))) | exact SqT.of (by (first | assumption | exact upd_same | (rw [upd_ne (by first | assumption | exact Ne.symm (by assumption))]; first | assumption | exact upd_same | (rw [upd_ne (by first | assumption | exact Ne.symm (by assumption))]; first | assumption | exact upd_same)))) | exact Or.inl (SqL.of (by (first | assumption | exact upd_same | (rw [upd_ne (by first | assumption | exact Ne.symm (by assumption))]; first | assumption | exact upd_same | (rw [upd_ne (by first | assumption | exact Ne.symm (by assumption))]; first | assumption | exact upd_same))))) | exact Or.inr (SqT.of (by (first | assumption | exact upd_same | (rw [upd_ne (by first | assumption | exact Ne.symm (by assumption))]; first | assumption | exact upd_same | (rw [upd_ne (by first | assumption | exact Ne.symm (by assumption))]; first | assumption | exact upd_same))))) | exact Or.inl ⟨rfl, _, SqL.of (by (first | assumption | exact upd_same | (rw [upd_ne (by first | assumption | exact Ne.symm (by assumption))]; first | assumption | exact upd_same | (rw [upd_ne (by first | assumption | exact Ne.symm (by assumption))]; first | assumption | exact upd_same))))⟩ | (first | assumption | exact upd_same | (rw [upd_ne (by first | assumption | exact Ne.symm (by assumption))]; first | assumption | exact upd_same | (rw [upd_ne (by first | assumption | exact Ne.symm (by assumption))]; first | assumption | exact upd_same))) | decide | exact Nat.le_of_ble_eq_true rfl | omega | (show ∃ xs, SqL _ _ _ xs; exact ⟨_, SqL.of (by (first | assumption | exact upd_same | (rw [upd_ne (by first | assumption | exact Ne.symm (by assumption))]; first | assumption | exact upd_same | (rw [upd_ne (by first | assumption | exact Ne.symm (by assumption))]; first | assumption | exact upd_same))))⟩) | (show ∃ xs, SqT _ _ _ xs; exact ⟨_, SqT.of (by (first | assumption | exact upd_same | (rw [upd_ne (by first | assumption | exact Ne.symm (by assumption))]; first | assumption | exact upd_same | (rw [upd_ne (by first | assumption | exact Ne.symm (by assumption))]; first | assumption | exact upd_same))))⟩) | exact DGet.k (k := Sum.inl _) (by (first | assumption | exact upd_same | (rw [upd_ne (by first | assumption | exact Ne.symm (by assumption))]; first | assumption | exact upd_same | (rw [upd_ne (by first | assumption | exact Ne.symm (by assumption))]; first | assumption | exact upd_same)))) | (show V.int _ = kV (Sum.inl _); rfl) | (show ∃ z, V.str _ = V.str z; exact ⟨_, rfl⟩) | exact Or.inl ⟨by (first | decide | omega), by (first | decide | omega)⟩ | exact Or.inr ⟨by (first | decide | omega), by (first | decide | omega)⟩ | exact ⟨by (first | decide | omega), by (first | decide | omega)⟩ | exact ⟨by decide, by decide, by decide⟩ | exact L2.ClsV.ty _ | exact Dt.ty (by assumption) | exact Dt.kint (by assumption) | exact Dt.kbool (by assumption) | exact Dt.ktuple (by assumption) | exact Dt.klist (by assumption) | exact Dt.kstr (by assumption))) | (apply Exists.intro; apply Exists.intro; apply Exists.intro; apply Exists.intro; apply Exists.intro; apply Exists.intro; apply Exists.intro; apply Exists.intro; apply And.intro; focus (first | rfl | assumption | exact upd_same | exact SqL.of (by (first | assumption | exact upd_same | (rw [upd_ne (by first | assumption | exact Ne.symm (by assumption))]; first | assumption | exact upd_same | (rw [upd_ne (by first | assumption | exact Ne.symm (by assumption))]; first | assumption | exact upd_same)))) | exact SqT.of (by (first | assumption | exact upd_same | (rw [upd_ne (by first | assumption | exact Ne.symm (by assumption))]; first | assumption | exact upd_same | (rw [upd_ne (by first | assumption | exact Ne.symm (by assumption))]; first | assumption | exact upd_same)))) | exact Or.inl (SqL.of (by (first | assumption | exact upd_same | (rw [upd_ne (by first | assumption | exact Ne.symm (by assumption))]; first | assumption | exact upd_same | (rw [upd_ne (by first | assumption | exact Ne.symm (by assumption))]; first | assumption | exact upd_same))))) | exact Or.inr (SqT.of (by (first | assumption | exact upd_same | (rw [upd_ne (by first | assumption | exact Ne.symm (by assumption))]; first | assumption | exact upd_same | (rw [upd_ne (by first | assumption | exact Ne.symm (by assumption))]; first | assumption | exact upd_same))))) | exact Or.inl ⟨rfl, _, SqL.of (by (first | assumption | exact upd_same | (rw [upd_ne (by first | assumption | exact Ne.symm (by assumption))]; first | assumption | exact upd_same | (rw [upd_ne (by first | assumption | exact Ne.symm (by assumption))]; first | assumption | exact upd_same))))⟩ | (first | assumption | exact upd_same | (rw [upd_ne (by first | assumption | exact Ne.symm (by assumption))]; first | assumption | exact upd_same | (rw [upd_ne (by first | assumption | exact Ne.symm (by assumption))]; first | assumption | exact upd_same))) | decide | exact Nat.le_of_ble_eq_true rfl | omega | (show ∃ xs, SqL _ _ _ xs; exact ⟨_, SqL.of (by (first | assumption | exact upd_same | (rw [upd_ne (by first | assumption | exact Ne.symm (by assumption))]; first | assumption | exact upd_same | (rw [upd_ne (by first | assumption | exact Ne.symm (by assumption))]; first | assumption | exact upd_same))))⟩) | (show ∃ xs, SqT _ _ _ xs; exact ⟨_, SqT.of (by (first | assumption | exact upd_same | (rw [upd_ne (by first | assumption | exact Ne.symm (by assumption))]; first | assumption | exact upd_same | (rw [upd_ne (by first | assumption | exact Ne.symm (by assumption))]; first | assumption | exact upd_same))))⟩) | exact DGet.k (k := Sum.inl _) (by (first | assumption | exact upd_same | (rw [upd_ne (by first | assumption | exact Ne.symm (by assumption))]; first | assumption | exact upd_same | (rw [upd_ne (by first | assumption | exact Ne.symm (by assumption))]; first | assumption | exact upd_same)))) | (show V.int _ = kV (Sum.inl _); rfl) | (show ∃ z, V.str _ = V.str z; exact ⟨_, rfl⟩) | exact Or.inl ⟨by (first | decide | omega), by (first | decide | omega)⟩ | exact Or.inr ⟨by (first | decide | omega), by (first | decide | omega)⟩ | exact ⟨by (first | decide | omega), by (first | decide | omega)⟩ | exact ⟨by decide, by decide, by decide⟩ | exact L2.ClsV.ty _ | exact Dt.ty (by assumption) | exact Dt.kint (by assumption) | exact Dt.kbool (by assumption) | exact Dt.ktuple (by assumption) | exact Dt.klist (by assumption) | exact Dt.kstr (by assumption))) | (apply Exists.intro; apply Exists.intro; apply Exists.intro; apply Exists.intro; apply Exists.intro; apply Exists.intro; apply Exists.intro; apply Exists.intro; apply Exists.intro; apply And.intro; focus (first | rfl | assumption | exact upd_same | exact SqL.of (by (first | assumption | exact upd_same | (rw [upd_ne (by first | assumption | exact Ne.symm (by assumption))]; first | assumption | exact upd_same | (rw [upd_ne (by first | assumption | exact Ne.symm (by assumption))]; first | assumption | exact upd_same)))) | exact SqT.of (by (first | assumption | exact upd_same | (rw [upd_ne (by first | assumption | exact Ne.symm (by assumption))]; first | assumption | exact upd_same | (rw [upd_ne (by first | assumption | exact Ne.symm (by assumption))]; first | assumption | exact upd_same)))) | exact Or.inl (SqL.of (by (first | assumption | exact upd_same | (rw [upd_ne (by first | assumption | exact Ne.symm (by assumption))]; first | assumption | exact upd_same | (rw [upd_ne (by first | assumption | exact Ne.symm (by assumption))]; first | assumption | exact upd_same))))) | exact Or.inr (SqT.of (by (first | assumption | exact upd_same | (rw [upd_ne (by first | assumption | exact Ne.symm (by assumption))]; first | assumption | exact upd_same | (rw [upd_ne (by first | assumption | exact Ne.symm (by assumption))]; first | assumption | exact upd_same))))) | exact Or.inl ⟨rfl, _, SqL.of (by (first | assumption | exact upd_same | (rw [upd_ne (by first | assumption | exact Ne.symm (by assumption))]; first | assumption | exact upd_same | (rw [upd_ne (by first | assumption | exact Ne.symm (by assumption))]; first | assumption | exact upd_same))))⟩ | (first | assumption | exact upd_same | (rw [upd_ne (by first | assumption | exact Ne.symm (by assumption))]; first | assumption | exact upd_same | (rw [upd_ne (by first | assumption | exact Ne.symm (by assumption))]; first | assumption | exact upd_same))) | decide | exact Nat.le_of_ble_eq_true rfl | omega | (show ∃ xs, SqL _ _ _ xs; exact ⟨_, SqL.of (by (first | assumption | exact upd_same | (rw [upd_ne (by first | assumption | exact Ne.symm (by assumption))]; first | assumption | exact upd_same | (rw [upd_ne (by first | assumption | exact Ne.symm (by assumption))]; first | assumption | exact upd_same))))⟩) | (show ∃ xs, SqT _ _ _ xs; exact ⟨_, SqT.of (by (first | assumption | exact upd_same | (rw [upd_ne (by first | assumption | exact Ne.symm (by assumption))]; first | assumption | exact upd_same | (rw [upd_ne (by first | assumption | exact Ne.symm (by assumption))]; first | assumption | exact upd_same))))⟩) | exact DGet.k (k := Sum.inl _) (by (first | assumption | exact upd_same | (rw [upd_ne (by first | assumption | exact Ne.symm (by assumption))]; first | assumption | exact upd_same | (rw [upd_ne (by first | assumption | exact Ne.symm (by assumption))]; first | assumption | exact upd_same)))) | (show V.int _ = kV (Sum.inl _); rfl) | (show ∃ z, V.str _ = V.str z; exact ⟨_, rfl⟩) | exact Or.inl ⟨by (first | decide | omega), by (first | decide | omega)⟩ | exact Or.inr ⟨by (first | decide | omega), by (first | decide | omega)⟩ | exact ⟨by (first | decide | omega), by (first | decide | omega)⟩ | exact ⟨by decide, by decide, by decide⟩ | exact L2.ClsV.ty _ | exact Dt.ty (by assumption) | exact Dt.kint (by assumption) | exact Dt.kbool (by assumption) | exact Dt.ktuple (by assumption) | exact Dt.klist (by assumption) | exact Dt.kstr (by assumption))) | refine Or.inl ⟨_, rfl, ?_⟩ | refine Or.inr ⟨_, rfl, ?_⟩ | refine Or.inr ⟨SqT.of (by (first | assumption | exact upd_same | (rw [upd_ne (by first | assumption | exact Ne.symm (by assumption))]; first | assumption | exact upd_same | (rw [upd_ne (by first | assumption | exact Ne.symm (by assumption))]; first | assumption | exact upd_same)))), SqT.of (by (first | assumption | exact upd_same | (rw [upd_ne (by first | assumption | exact Ne.symm (by assumption))]; first | assumption | exact upd_same | (rw [upd_ne (by first | assumption | exact Ne.symm (by assumption))]; first | assumption | exact upd_same)))), ?_⟩ | refine Or.inl ⟨SqL.of (by (first | assumption | exact upd_same | (rw [upd_ne (by first | assumption | exact Ne.symm (by assumption))]; first | assumption | exact upd_same | (rw [upd_ne (by first | assumption | exact Ne.symm (by assumption))]; first | assumption | exact upd_same)))), SqL.of (by (first | assumption | exact upd_same | (rw [upd_ne (by first | assumption | exact Ne.symm (by assumption))]; first | assumption | exact upd_same | (rw [upd_ne (by first | assumption | exact Ne.symm (by assumption))]; first | assumption | exact upd_same)))), ?_⟩ | refine Or.inl ⟨SqL.of (by (first | assumption | exact upd_same | (rw [upd_ne (by first | assumption | exact Ne.symm (by assumption))]; first | assumption | exact upd_same | (rw [upd_ne (by first | assumption | exact Ne.symm (by assumption))]; first | assumption | exact upd_same)))), ?_⟩ | refine Or.inr ⟨SqT.of (by (first | assumption | exact upd_same | (rw [upd_ne (by first | assumption | exact Ne.symm (by assumption))]; first | assumption | exact upd_same | (rw [upd_ne (by first | assumption | exact Ne.symm (by assumption))]; first | assumption | exact upd_same)))), ?_⟩ | refine ifT rfl ?_ | refine ifF rfl ?_))
def spLawS (K : PySem.W.Frag) : Sp := fun vs H Q _ => ∃ (a : Addr) (ns : List Int), vs = [.ref a] ∧ SqL K H a (ns.map V.int) ∧ ns.length ≤ 63 ∧ ∀ H', Q (.bl true) H'
theorem tupI_same {H H1 : Hp} {v : V} (g : Tg H v) (s : Same H H1) : tupI H1 v = tupI H v := by
  obtain ⟨t, d⟩ := g.t
  cases d with
  | tup e => simp only [tupI, e, s _ _ e]
  | lst e => simp only [tupI, e, s _ _ e]
  | dK e => simp only [tupI, e, s _ _ e]
  | _ => rfl
theorem sumT_same {H H1 : Hp} {v1 v2 : V} (g1 : Tg H v1) (g2 : Tg H v2) (s : Same H H1) : sumT H1 v1 v2 = sumT H v1 v2 := by
  unfold sumT
  rw [tupB_same g1 s, tupB_same g2 s, tupI_same g1 s, tupI_same g2 s]
theorem halfT_same {H H1 : Hp} {v : V} (g : Tg H v) (s : Same H H1) : halfT H1 v = halfT H v := by
  unfold halfT
  rw [tupB_same g s, tupI_same g s]
theorem sumT_len {H : Hp} {v1 v2 : V} {ks : List Int} (h : sumT H v1 v2 = some ks) : ks.length ≤ 1001 := by
  unfold sumT at h
  split at h
  · exact addS_len h
  · cases h
theorem sum_ints {CN a b : Addr} {E : XK} {Q : VK} {H : Hp} {ns ms ks : List Int} (ea : H a = some (.tup (ns.map V.int))) (eb : H b = some (.tup (ms.map V.int))) (h1 : Sh ns) (h2 : Sh ms) (b1 : Bd 1000 ns) (b2 : Bd 1000 ms) (hl : ns.length + ms.length ≤ 63) (e : addS 1000 ns ms = some ks)
    (k : ks.length ≤ ns.length + ms.length → ∀ p H', Same H H' → H' p = some (.tup (ks.map V.int)) → Q (.ref p) H') : spSumOf CN [.ref a, .ref b] H Q E := by
  refine ⟨.ref a, .ref b, rfl, Tg.ints ea (by omega), Tg.ints eb (by omega), fun z => ?_, fun a' b' ns' ms' e1 e2 ea' eb' _ _ => ?_⟩
  · rw [tupB_at ea, tupB_at eb, shL_iff.mpr h1, shL_iff.mpr h2] at z
    cases z
  · cases e1
    cases e2
    have inj : ∀ {xs ys : List Int}, xs.map V.int = ys.map V.int → xs = ys := fun q => List.map_inj_right (fun x y e => by injection e) |>.mp q
    obtain rfl : ns = ns' := by rw [ea] at ea'; injection ea' with q; injection q with q; exact inj q
    obtain rfl : ms = ms' := by rw [eb] at eb'; injection eb' with q; injection q with q; exact inj q
    refine ⟨1000, b1, b2, hl, fun z => ?_, fun ks' z hk p H' s ep => ?_⟩
    · rw [z] at e; cases e
    · rw [z] at e; cases e
      exact k hk p H' s ep
theorem half_ints {CN a : Addr} {E : XK} {Q : VK} {H : Hp} {ns : List Int} (ea : H a = some (.tup (ns.map V.int))) (h1 : Sh ns) (hl : ns.length ≤ 1000) (ne : 0 < ns.length) (k : ∀ p H', Same H H' → H' p = some (.tup ((ns.map (· + 1)).map V.int)) → Q (.ref p) H') : spHalf CN [.ref a] H Q E := by
  refine ⟨.ref a, rfl, Tg.ints ea hl, fun z => ?_, fun a' ns' e ea' _ _ => ?_⟩
  · rw [tupB_at ea, shL_iff.mpr h1, List.length_map] at z
    simp [ne] at z
  · cases e
    have inj : ∀ {xs ys : List Int}, xs.map V.int = ys.map V.int → xs = ys := fun q => List.map_inj_right (fun x y e => by injection e) |>.mp q
    obtain rfl : ns = ns' := by rw [ea] at ea'; injection ea' with q; injection q with q; exact inj q
    exact k
theorem ints_inv {N : Addr → Prop} {H : Hp} : ∀ {ks : List Int} {vs : List V}, RpAll N H vs (ks.map PyData.int) → vs = ks.map V.int
  | [], _, .nil => rfl
  | k :: ks, _, .cons r t => by
    cases r
    rw [ints_inv t]
    rfl
theorem tup_kp {H H' : Hp} {h l a : Addr} {xs : List V} (e : H a = some (.tup xs)) (ho : HandOk H h l) (k : Kp (Nh h) H H') : H' a = some (.tup xs) := by
  obtain ⟨⟨ys, e1⟩, _⟩ := ho.lst
  exact k _ _ e (ne_of e e1 (by intro z; cases z))
theorem tuI_sh {ns : List Int} : (tuI ns).canLay0 = true ∧ SeqAt.shaped (tuI ns) = true := by
  obtain ⟨h1, h2, _⟩ := ints_dl ns
  have c : (tuI ns).canLay0 = true := by simp only [tuI, PyData.canLay0, h2]
  refine ⟨c, ?_⟩
  unfold SeqAt.shaped
  rw [c, Bool.true_and]
  refine decide_eq_true ?_
  simp only [tuI, PyData.depth, h1]
  omega
theorem halfT_no {H : Hp} {v : V} (g : Tg H v) (h : tupB shL H v = false) : halfT H v = none := by
  obtain ⟨t, d⟩ := g.t
  unfold halfT
  by_cases ht : t = "tuple"
  · obtain ⟨a, xs, rfl, ea⟩ := d.tup_inv ht
    rw [tupB_at ea] at h ⊢
    rw [h]
    rfl
  · rw [tupB_no d ht]
    rfl
theorem halfT_at {H : Hp} {a : Addr} {ns : List Int} (h : H a = some (.tup (ns.map V.int))) (sh : Sh ns) : halfT H (.ref a) = if 0 < ns.length then some (ns.map (· + 1)) else none := by
  unfold halfT
  rw [tupB_at h, shL_iff.mpr sh, tupI_at h, List.length_map, Bool.true_and]
  simp
section
variable {P : Program} {w : World} {K : PySem.W.Frag} {mg : Str → Option Value} {base : Heap} {CN : Addr}
theorem d_law {f0 : Addr} {fd0 : FuncData} (B : Bi mg) (F : Fun K "law" "law" s_law f0 fd0)
    (D_law_hand : Has P w K mg base 1 "_law_hand" ["script"] (spHand K)) (D_law_some : Has P w K mg base 3 "_law_some" ["hand"] spSomeS) (D_law_due : Has P w K mg base 3 "_law_due" ["one", "other"] spDue)
    (D_law_is : Has P w K mg base 3 "_law_is" ["told", "due"] (spIs 2)) (D_law_summed : Has P w K mg base 6 "_law_summed" ["one", "other"] spSummed) (D_law_half : Has P w K mg base 6 "_law_half" ["share"] spLHalf)
    (D_law_is_share : Has P w K mg base 2 "_law_is_share" ["thing"] (spTup shL)) (D_law_drawn_share : Has P w K mg base 2 "_law_drawn_share" ["hand"] spDrawnS) (D_law_sum : Has P w K mg base 2 "_law_sum" ["one", "other"] spLSum)
    (D_sum_of : HasX P w K mg base 5 "sum_of" ["one", "other"] (spSumOf CN)) (D_half : HasX P w K mg base 5 "half" ["share"] (spHalf CN)) : FnOk P w K mg base CX0 7 f0 fd0 ["script"] (spLawS K) := by
  refine F.ok sc_law (fun vs H Q E h => ?_) fun cdv A outer s H vs Q E hr h => ?_
  · obtain ⟨a, ns, rfl, _⟩ := h
    rfl
  obtain ⟨a, ns, rfl, hS, hlen, kQ⟩ := h
  refine ⟨_, (pss_cons (ps_set (i := 1) sc_law.nd rfl (Or.inl rfl) (pe_h D_law_hand (hr.mono (by decide)) rfl (pa_cons (pv 0) pa_nil)))
    (pss_cons (ps_for PassesOwn.never rfl (pi_range1 rfl B.range (pa_cons pe_int pa_nil)) (pg_name (i := 2) sc_law.nd rfl (Or.inl rfl))
    (pss_cons (ps_set (i := 3) sc_law.nd rfl (Or.inl rfl) (pe_h D_law_some (hr.mono (by decide)) rfl (pa_cons (pv 1) pa_nil)))
    (pss_cons (ps_set (i := 4) sc_law.nd rfl (Or.inl rfl) (pe_h D_law_some (hr.mono (by decide)) rfl (pa_cons (pv 1) pa_nil)))
    (pss_cons (ps_set (i := 5) sc_law.nd rfl (Or.inl rfl) (pe_h D_law_due (hr.mono (by decide)) rfl (pa_cons (pv 3) (pa_cons (pv 4) pa_nil))))
    (pss_cons (ps_if (PW.pt (pw_or (pt_not (pt_val (pe_h D_law_is (hr.mono (by decide)) rfl (pa_cons (pe_h D_law_summed (hr.mono (by decide)) rfl (pa_cons (pv 3) (pa_cons (pv 4) pa_nil))) (pa_cons (pv 5) pa_nil))))) (pw_or1 (pt_not (pt_val (pe_h D_law_is (hr.mono (by decide)) rfl (pa_cons (pe_h D_law_summed (hr.mono (by decide)) rfl (pa_cons (pv 4) (pa_cons (pv 3) pa_nil))) (pa_cons (pv 5) pa_nil))))))))
    (pss_one (ps_ret pe_bl))
    pss_nil)
    (pss_cons (ps_set (i := 6) sc_law.nd rfl (Or.inl rfl) (pe_tup (pa_cons pe_str (pa_cons pe_str pa_nil))))
    (C8.pss_cut (ps_if (PW.pt (pw_and (pt_val (pe_h D_law_is_share (hr.mono (by decide)) rfl (pa_cons (pv 3) pa_nil))) (pw_and1 (pt_cmpR op_gt (pe_callB call_len_seq rfl B.len PySem.boot_len (pa_cons (pv 3) pa_nil)) pe_int (nomark _)))))
    (pss_cons (ps_set (i := 6) sc_law.nd rfl (Or.inl rfl) (pe_tup (pa_cons pe_str (pa_cons (pe_callTy call_tuple_of rfl B.tuple (by decide +kernel) (pa_cons (pe_lc (own := [("place", 7)]) (g := gName 7) (tt := tYes) (te := (tOp (rI0 fun i j => .int (i + j)) (tVar 7) (tC (.int 1)))) rfl sc_law.nd (pi_tup (pv 3)) (blkOk_by (own := [("place", 7)]) (N := ["script", "hand", "turn", "one", "other", "due", "part", "place", "third"]) (sc := defScope s_law) (by decide +kernel)) (fun _ _ _ _ _ => (pg_name (i := 7) sc_law.nd rfl (Or.inl rfl))) (fun _ _ _ _ _ => pts_nil) (fun _ _ _ _ _ => (pe_op op_add (pv 7) pe_int))) pa_nil)) pa_nil))))
    (pss_one (ps_if (pt_cmpR (op_neD hr.units) (pe_hX0 D_sum_of (hr.mono (by decide)) rfl (pa_cons (pe_hX0 D_half (hr.mono (by decide)) rfl (pa_cons (pv 3) pa_nil)) (pa_cons (pe_hX0 D_half (hr.mono (by decide)) rfl (pa_cons (pv 3) pa_nil)) pa_nil))) (pv 3) (nomark _))
    (pss_one (ps_ret pe_bl))
    pss_nil)))
    pss_nil)
    (pss_cons (ps_if (pt_not (pt_val (pe_h D_law_is (hr.mono (by decide)) rfl (pa_cons (pe_h D_law_half (hr.mono (by decide)) rfl (pa_cons (pv 3) pa_nil)) (pa_cons (pv 6) pa_nil)))))
    (pss_one (ps_ret pe_bl))
    pss_nil)
    (pss_cons (ps_set (i := 8) sc_law.nd rfl (Or.inl rfl) (pe_h D_law_drawn_share (hr.mono (by decide)) rfl (pa_cons (pv 1) pa_nil)))
    (pss_one (ps_if (PW.pt (pw_and (pt_cmpR op_eq (pe_ix ix_tup (pv 5) pe_int (fun _ _ => rfl)) pe_str (nomark _)) (pw_and1 (pt_cmp (pc_notN (pe_h D_law_sum (hr.mono (by decide)) rfl (pa_cons (pe_ix ix_tup (pv 5) pe_int (fun _ _ => rfl)) (pa_cons (pv 8) pa_nil))))))))
    (pss_one (ps_if (pt_not (pt_val (pe_h D_law_is (hr.mono (by decide)) rfl (pa_cons (pe_hX0 D_sum_of (hr.mono (by decide)) rfl (pa_cons (pe_hX0 D_sum_of (hr.mono (by decide)) rfl (pa_cons (pv 3) (pa_cons (pv 8) pa_nil))) (pa_cons (pv 4) pa_nil))) (pa_cons (pe_hX0 D_sum_of (hr.mono (by decide)) rfl (pa_cons (pe_hX0 D_sum_of (hr.mono (by decide)) rfl (pa_cons (pv 3) (pa_cons (pv 4) pa_nil))) (pa_cons (pv 8) pa_nil))) pa_nil)))))
    (pss_one (ps_ret pe_bl))
    pss_nil))
    pss_nil)))))))))))
    (pss_one (ps_ret pe_bl)))), ?_⟩
  refine ⟨_, rfl, a, ns, rfl, hS, by omega, fun h l H0 nh nl s0 ho0 => ?_⟩
  trivial
  refine for_it walk_range (fun i σ H' => ∃ v2 v3 v4 v5 v6 v7 v8, σ = [some (.ref a), some (.ref h), v2, v3, v4, v5, v6, v7, v8] ∧ HandOk H' h l) ⟨_, _, _, _, _, _, _, rfl, ho0⟩ (fun _ _ _ _ _ => True.intro) (fun i x σ Ha Hb hi q y => ?_) fun σ H1 q => ?_
  · obtain ⟨v2, v3, v4, v5, v6, v7, v8, rfl, hoa⟩ := q
    obtain ⟨rfl, rfl⟩ := y
    refine ⟨_, rfl, h, l, rfl, hoa, fun one H1 g1 m1 ho1 k1 => ?_⟩
    have oo : Ok9 H1 one := ⟨g1, m1⟩
    refine ⟨_, rfl, h, l, rfl, ho1, fun other H2 g2 m2 ho2 k2 => ?_⟩
    have o1 := oo.hand ho1 ho2 k2
    have o2 : Ok9 H2 other := ⟨g2, m2⟩
    clear oo g1 m1 g2 m2
    refine ⟨_, rfl, _, rfl, one, other, rfl, o1, o2, fun pd xd H3 s3 ed rd rp => ?_⟩
    have hd : ∀ ks, sumT H2 one other = some ks → ks.length ≤ 1000 := fun ks e => by
      unfold sumT at e
      split at e
      · rename_i c
        rw [Bool.and_eq_true] at c
        obtain ⟨a1, n1, rfl, ea1, sa1⟩ := sm_of o1 c.1
        obtain ⟨a2, n2, rfl, ea2, sa2⟩ := sm_of o2 c.2
        rw [tupI_at ea1, tupI_at ea2, show addS 1000 n1 n2 = addS 200 n1 n2 from addS_up (n := 200) (k := 800) (fun q hq => by have := sa1.b q hq; omega) fun q hq => by have := sa2.b q hq; omega] at e
        have := addS_len e
        omega
      · cases e
    obtain ⟨dd1, dd2, dd3⟩ := dueD_ok _ hd
    -- the sum, told twice
    have o1' := o1.same s3
    have o2' := o2.same s3
    refine ⟨_, rfl, _, rfl, one, other, rfl, o1', o2', fun p4 H4 s4 r4 => ?_⟩
    rw [sumT_same o1.g o2.g s3] at r4
    refine ⟨_, rfl, NF0, NF0, _, _, _, rfl, r4, rp.to (kp_same s4), dd1, dd2, dd3, fun H5 s5 => ?_⟩
    have s35 := s4.trans s5
    refine ⟨_, rfl, ifF rfl ?_⟩
    refine ⟨_, rfl, _, rfl, other, one, rfl, o2'.same s35, o1'.same s35, fun p6 H6 s6 r6 => ?_⟩
    rw [sumT_comm, sumT_same o1.g o2.g (s3.trans s35)] at r6
    refine ⟨_, rfl, NF0, NF0, _, _, _, rfl, r6, rp.to (kp_same (s35.trans s6)), dd1, dd2, dd3, fun H7 s7 => ?_⟩
    have s27 : Same H2 H7 := (s3.trans s35).trans (s6.trans s7)
    have s37 : Same H3 H7 := s35.trans (s6.trans s7)
    refine ⟨_, rfl, ifF rfl ?_⟩
    trivial
    intro pt npt
    have spt := same_new0 (o := .tup [.str "refused", .str "share"]) npt
    have s28 := s27.trans spt
    -- the half, and two halves
    refine ⟨fun σ H' => ∃ pp v7, σ = [some (.ref a), some (.ref h), some (.int (0 + (i : Nat))), some one, some other, some (.ref pd), some (.ref pp), v7, v8] ∧ Same H2 H' ∧ Same H3 H' ∧ Rp NF0 H' (.ref pp) (dueD (halfT H2 one)), ?_, ?_⟩
    · trivial
      refine ⟨o1.g.same s28, fun H9 s9 => ?_⟩
      have s29 := s28.trans s9
      have s39 : Same H3 H9 := (s37.trans spt).trans s9
      have rpt : halfT H2 one = none → Rp NF0 H9 (.ref pt) (dueD (halfT H2 one)) := fun e => by
        rw [e]
        exact .tup (s9 _ _ upd_same) (fun z => z) (.cons (.str _) (.cons (.str _) .nil))
      rw [tupB_same o1.g s28]
      cases e1 : tupB shL H2 one with
      | false =>
        trivial
        exact rpt (halfT_no o1.g e1)
      | true =>
        obtain ⟨a1, n1, rfl, ea1, sa1⟩ := sm_of o1 e1
        have ht := halfT_at ea1 sa1.sh
        have ea9 := s29 _ _ ea1
        trivial
        refine ite2 (fun c => ?_) (fun c => ?_)
        · have c' : 0 < n1.length := by have := of_decide_eq_true c; rw [List.length_map] at this; omega
          rw [if_pos c'] at ht
          trivial
          intro D nD
          refine lc_map (walk_tup (xs := n1.map V.int)) ((n1.map (· + 1)).map V.int) (by simp) nD (by have := sa1.l; simp; omega) (fun i H' _ s => SqT.of (s _ _ ea9)) (fun i x H3 H4 Pn hi s2 y fin => ?_) fun H10 s10 eD => ?_
          · obtain ⟨rfl, gx⟩ := y
            rw [List.getElem?_map] at gx
            obtain ⟨q, hq, rfl⟩ := Option.map_eq_some_iff.mp gx
            trivial
            exact fin _ _ (by rw [List.getElem?_map, List.getElem?_map, hq]; rfl) (Same.refl _)
          · trivial
            intro tp ntp
            have stp := same_new0 (o := .tup ((n1.map (· + 1)).map V.int)) ntp
            trivial
            intro pp npp
            have spp := same_new0 (o := .tup [.str "told", .ref tp]) npp
            have sB := (s10.trans stp).trans spp
            have s2B := s29.trans sB
            have etp := spp _ _ (upd_same (H := H10) (a := tp) (o := .tup ((n1.map (· + 1)).map V.int)))
            have eaB := s2B _ _ ea1
            have rpp : Rp NF0 _ (.ref pp) (dueD (some (n1.map (· + 1)))) := .tup (upd_same (H := upd H10 tp (.tup ((n1.map (· + 1)).map V.int))) (o := .tup [.str "told", .ref tp])) (fun z => z) (.cons (.str _) (.cons ((tuI_rp upd_same).to (kp_same spp)) .nil))
            have hsh := half_sh sa1.sh
            have hbd : Bd 1000 (n1.map (· + 1)) := fun q hq => by obtain ⟨r, hr, rfl⟩ := List.mem_map.mp hq; have := sa1.b r hr; omega
            have hadd := half_add (n := 1000) sa1.sh fun q hq => by have := sa1.b q hq; omega
            refine ⟨_, rfl, ?_⟩
            unfold tNil
            refine half_ints eaB sa1.sh (by have := sa1.l; omega) c' fun b1 H11 s11 eb1 => ?_
            refine ⟨_, rfl, ?_⟩
            refine half_ints (s11 _ _ eaB) sa1.sh (by have := sa1.l; omega) c' fun b2 H12 s12 eb2 => ?_
            refine sum_ints (s12 _ _ eb1) eb2 hsh hsh hbd hbd (by have := sa1.l; simp; omega) hadd fun _ b3 H13 s13 eb3 => ?_
            have sC := (s11.trans s12).trans s13
            obtain ⟨lay, shp⟩ := tuI_sh (ns := n1)
            refine ⟨_, rfl, _, _, Rp.dpS (tuI_rp eb3) lay, Rp.dpS (tuI_rp (sC _ _ eaB)) lay, shp, shp, ?_⟩
            rw [SeqAt.eqv_refl _ lay]
            refine ⟨_, rfl, ifF rfl ?_⟩
            refine ⟨pp, _, rfl, s2B.trans sC, ((s39.trans sB).trans sC), ?_⟩
            rw [ht]
            exact rpp.to (kp_same sC)
        · have c' : ¬ 0 < n1.length := by have := of_decide_eq_false (Bool.eq_false_iff.mpr c); rw [List.length_map] at this; omega
          rw [if_neg c'] at ht
          exact ⟨pt, v7, rfl, s29, s39, rpt ht⟩
    · rintro σ H8 ⟨pp, v7, rfl, s8, s38, r8⟩
      have o8 := o1.same s8
      have hh : ∀ ks, halfT H2 one = some ks → ks.length ≤ 1000 := fun ks e => by
        cases e1 : tupB shL H2 one with
        | false => rw [halfT_no o1.g e1] at e; cases e
        | true =>
          obtain ⟨a1, n1, rfl, ea1, sa1⟩ := sm_of o1 e1
          rw [halfT_at ea1 sa1.sh] at e
          split at e
          · cases e
            have := sa1.l
            simp
            omega
          · cases e
      obtain ⟨dh1, dh2, dh3⟩ := dueD_ok _ hh
      refine ⟨_, rfl, one, rfl, o8, fun p9 H9 s9 r9 => ?_⟩
      rw [halfT_same o1.g s8] at r9
      refine ⟨_, rfl, NF0, NF0, _, _, _, rfl, r9, r8.to (kp_same s9), dh1, dh2, dh3, fun H10 s10 => ?_⟩
      have sA := (s8.trans s9).trans s10
      have s3A := (s38.trans s9).trans s10
      have hoA : HandOk H10 h l := ho2.same sA
      refine ⟨_, rfl, ifF rfl ?_⟩
      refine ⟨_, rfl, h, l, rfl, hoA, fun a3 n3 H11 sm3 ea3 ho11 k11 => ?_⟩
      have ed11 := tup_kp (s3A _ _ ed) hoA k11
      cases e : sumT H2 one other with
      | none =>
        rw [e] at rd
        cases rd with
        | cons r1 rr =>
        cases r1
        cases rr with
        | cons r2 rr =>
        cases r2
        cases rr
        trivial
        exact ho11
      | some ks =>
        rw [e] at rd
        cases rd with
        | cons r1 rr =>
        cases r1
        cases rr with
        | cons r2 rr =>
        cases rr
        cases r2 with
        | @tup kp ws _ ekp _ wr =>
        obtain rfl := ints_inv wr
        have ekp11 := tup_kp (s3A _ _ ekp) hoA k11
        have e0 := e
        unfold sumT at e0
        split at e0
        · rename_i c
          rw [Bool.and_eq_true] at c
          obtain ⟨a1, n1, rfl, ea1, sa1⟩ := sm_of o1 c.1
          obtain ⟨a2, n2, rfl, ea2, sa2⟩ := sm_of o2 c.2
          rw [tupI_at ea1, tupI_at ea2] at e0
          obtain ⟨shk, bk, _⟩ := addS_some e0
          have ea11 := tup_kp (sA _ _ ea1) hoA k11
          have ea21 := tup_kp (sA _ _ ea2) hoA k11
          have bd : ∀ {ns : List Int}, SmS ns → Bd 1000 ns := fun sm q hq => by have := sm.b q hq; omega
          trivial
          refine ⟨sm3.sh, fun q hq => by have := bk q hq; omega, fun q hq => by have := sm3.b q hq; omega, by have := hd ks e; have := sm3.l; omega, fun z H12 s12 => ?_, fun r z p12 H12 s12 ep => ?_⟩
          · trivial
            exact ho11.same s12
          · obtain ⟨e', x1, x2, _⟩ := addS_third e0 (c := n3) (by rw [z]; exact fun y => nomatch y)
            rw [z] at x2
            obtain ⟨she, be, _⟩ := addS_some x1
            have l1 := sa1.l
            have l2 := sa2.l
            have l3 := sm3.l
            refine ⟨_, rfl, ifT rfl ?_⟩
            refine ⟨_, rfl, _, rfl, ?_⟩
            unfold tNil
            refine sum_ints (s12 _ _ ea11) (s12 _ _ ea3) sa1.sh sm3.sh (bd sa1) (bd sm3) (by omega) x1 fun le1 b1 H13 s13 eb1 => ?_
            have s113 := s12.trans s13
            refine ⟨_, rfl, sum_ints eb1 (s113 _ _ ea21) she sa2.sh be (bd sa2) (by omega) x2 fun le2 b2 H14 s14 eb2 => ?_⟩
            have s114 := s113.trans s14
            refine ⟨_, rfl, _, rfl, sum_ints (s114 _ _ ea11) (s114 _ _ ea21) sa1.sh sa2.sh (bd sa1) (bd sa2) (by omega) e0 fun le3 b3 H15 s15 eb3 => ?_⟩
            have s115 := s114.trans s15
            refine ⟨_, rfl, sum_ints eb3 (s115 _ _ ea3) shk sm3.sh bk (bd sm3) (by omega) z fun le4 b4 H16 s16 eb4 => ?_⟩
            have s116 := s115.trans s16
            have tl := (dueD_ok (some r) fun ks q => by cases q; omega)
            obtain ⟨i1, i2, i3⟩ := ints_dl r
            refine ⟨NF0, NF0, _, _, tuI r, rfl, tuI_rp ((s15.trans s16) _ _ eb2), tuI_rp eb4, ?_, ?_, ?_, fun H17 s17 => ?_⟩
            · simp only [tuI, PyData.depth, i1]; omega
            · simp only [tuI, PyData.canLay0, i2]
            · simp only [tuI, thin, i3, List.length_map]; simp; omega
            · refine ⟨_, rfl, ifF rfl ?_⟩
              exact ⟨_, _, _, _, _, _, _, rfl, ho11.same (s116.trans s17)⟩
        · cases e0
  · obtain ⟨v2, v3, v4, v5, v6, v7, v8, rfl, hoa⟩ := q
    trivial
    exact kQ _
end
end KQ
set_option Elab.async false
set_option maxRecDepth 100000
set_option maxHeartbeats 4000000
namespace KQ
open PySem PySem.Spec PyProof.Rows L2
theorem fin {P : Program} {w : World} {K : PySem.W.Frag} {mg : Str → Option Value} {h : Heap} {fa : Addr} {CN CQ : Addr} (hfa : mg "law" = some (.ref fa)) (B : Bi mg)
    (xN : ExcAt K mg "NoShare" CN) (xQ : ExcAt K mg "QuietError" CQ)
    (F1 : FunAt K mg "is_number" s_is_number) (F2 : FunAt K mg "rises" s_rises) (F3 : FunAt K mg "is_lot" s_is_lot) (F4 : FunAt K mg "is_share" s_is_share) (F5 : FunAt K mg "is_some_share" s_is_some_share) (F6 : FunAt K mg "check_share" s_check_share)
    (F7 : FunAt K mg "sum_of" s_sum_of) (F8 : FunAt K mg "added" s_added) (F9 : FunAt K mg "merged" s_merged) (F10 : FunAt K mg "half" s_half) (F11 : FunAt K mg "halved" s_halved)
    (L1 : FunAt K mg "_law_hand" s_law_hand) (L2 : FunAt K mg "_law_draw" s_law_draw) (L3 : FunAt K mg "_law_is" s_law_is) (L4 : FunAt K mg "_law_deep" s_law_deep) (L5 : FunAt K mg "_law_number" s_law_number) (L6 : FunAt K mg "_law_worth" s_law_worth)
    (L7 : FunAt K mg "_law_lot_of" s_law_lot_of) (L8 : FunAt K mg "_law_sum" s_law_sum) (L9 : FunAt K mg "_law_is_share" s_law_is_share) (L10 : FunAt K mg "_law_drawn_share" s_law_drawn_share) (L11 : FunAt K mg "_law_summed" s_law_summed)
    (L12 : FunAt K mg "_law_half" s_law_half) (L13 : FunAt K mg "_law_some" s_law_some) (L14 : FunAt K mg "_law_due" s_law_due) (L15 : FunAt K mg "law" s_law) :
    ∃ fd : FuncData, (∀ (s : Shared) (u : Value), BindsTo s fd ⟨[u], []⟩ [("script", u)]) ∧ ∀ base : Heap, FnOk P w K mg base CX0 7 fa fd ["script"] (spLawS K) := by
  obtain ⟨f0, fd0, F0, m0⟩ := L15
  rw [hfa] at m0
  cases m0
  refine ⟨fd0, fun s u => ?_, fun base => ?_⟩
  · obtain ⟨oc, od, kV, doc, pm, an, cdv, ct, osl, rfl, _, _⟩ := F0.ex
    exact .of_eq rfl
  have D1 := d_law_hand (P := P) (w := w) (mg := mg) (base := base) B L1
  have D2 := d_law_draw (P := P) (w := w) (mg := mg) (base := base) B L2
  have D3 := d_law_is (P := P) (w := w) (mg := mg) (base := base) B L3 2
  have D4 := d_law_deep (P := P) (w := w) (mg := mg) (base := base) B L4 D2
  have D5 := d_law_number (P := P) (w := w) (mg := mg) (base := base) B L5
  have D6 := d_law_worth (P := P) (w := w) (mg := mg) (base := base) B L6
  have D7 := d_law_lot_of (P := P) (w := w) (mg := mg) (base := base) B L7
  have D8 := d_law_sum (P := P) (w := w) (mg := mg) (base := base) B L8 D6 D7
  have D9 := d_law_is_share (P := P) (w := w) (mg := mg) (base := base) B L9 D5
  have D10 := d_law_drawn_share (P := P) (w := w) (mg := mg) (base := base) B L10 D2
  have E1 := d_is_num (P := P) (w := w) (mg := mg) (base := base) B F1
  have E2 := d_rises (P := P) (w := w) (mg := mg) (base := base) B F2
  have E3 := d_is_lot (P := P) (w := w) (mg := mg) (base := base) B F3 E1 E2
  have E4 := d_is_share (P := P) (w := w) (mg := mg) (base := base) B F4 E3
  have E5 := d_is_some_share (P := P) (w := w) (mg := mg) (base := base) B F5 E4
  have E6 := d_check_share (P := P) (w := w) (mg := mg) (base := base) xN F6 E4
  have E9 := d_merged (P := P) (w := w) (mg := mg) (base := base) B F9
  have E8 := d_added (P := P) (w := w) (mg := mg) (base := base) F8 E9 E4
  have E7 := d_sum_of (P := P) (w := w) (mg := mg) (base := base) xN F7 E6 E8
  have E11 := d_halved (P := P) (w := w) (mg := mg) (base := base) B F11
  have E10 := d_half (P := P) (w := w) (mg := mg) (base := base) xN F10 E5 E11
  have D11 := d_law_summed (P := P) (w := w) (mg := mg) (base := base) L11 xN xQ E7
  have D12 := d_law_half (P := P) (w := w) (mg := mg) (base := base) L12 xN xQ E10
  have D13 := d_law_some (P := P) (w := w) (mg := mg) (base := base) B L13 D2 D4 D10
  have D14 := d_law_due (P := P) (w := w) (mg := mg) (base := base) L14 D9 D8
  exact d_law B F0 D1 D13 D14 D3 D11 D12 D9 D10 D8 E7 E10
end KQ
local macro_rules | `(tactic| walk_at "kq fun") => `(tactic| (refine' KQ.funAt_of (by assumption) (by assumption) ?a ?l ?c ?k; (case a => k_is); (case l => k_is); (case c => k_is); (case k => k_is)))
local macro_rules | `(tactic| walk_at "kq free") => `(tactic| (refine' KQ.free_of (by assumption) (by assumption) ?e; (case e => k_is)))
local macro_rules | `(tactic| walk_at "kq exc") => `(tactic| (refine' KQ.excAt_of (by assumption) (by assumption) ?a ?kp ?ex ?sub ?ty ?own ?isC; (case a => k_is); (case kp => k_is); (case ex => k_exc); (case sub => k_is); (case ty => k_is); (case own => first | rfl | k_is); (case isC => k_is)))
open PySem PySem.W PyProof.Rows
set_option maxRecDepth 100000 in
set_option maxHeartbeats 0 in
theorem PySem.Challenge.cw_knownquiet_k11_whole_shares_by_fractions_holds : PySem.Challenge.rw_knownquiet_k11_whole_shares_by_fractions.Holds := by
  w_on; o_law; k_head; (case hw => w_witness2)
  k_fill
  refine KQ.walkX (l := PySem.Challenge.rw_knownquiet_k11_whole_shares_by_fractions) (k := 7) (sp := KQ.spLawS) rfl rfl ⟨rfl, by decide, by decide⟩ (fun w h Y => PySem.W.kIn_of Y) ?F fun K H a ns hl hS => ⟨a, ns, rfl, hS, hl, fun _ => rfl⟩
  case F =>
    intro w mg fa h KX G hX hmg
    refine' KQ.fin (h := h) hmg ?B ?xN ?xQ ?F1 ?F2 ?F3 ?F4 ?F5 ?F6 ?F7 ?F8 ?F9 ?F10 ?F11 ?L1 ?L2 ?L3 ?L4 ?L5 ?L6 ?L7 ?L8 ?L9 ?L10 ?L11 ?L12 ?L13 ?L14 ?L15
    case B => constructor <;> walk_at "kq free"
    case xN => walk_at "kq exc"
    case xQ => walk_at "kq exc"
    case F1 => walk_at "kq fun"
    case F2 => walk_at "kq fun"
    case F3 => walk_at "kq fun"
    case F4 => walk_at "kq fun"
    case F5 => walk_at "kq fun"
    case F6 => walk_at "kq fun"
    case F7 => walk_at "kq fun"
    case F8 => walk_at "kq fun"
    case F9 => walk_at "kq fun"
    case F10 => walk_at "kq fun"
    case F11 => walk_at "kq fun"
    case L1 => walk_at "kq fun"
    case L2 => walk_at "kq fun"
    case L3 => walk_at "kq fun"
    case L4 => walk_at "kq fun"
    case L5 => walk_at "kq fun"
    case L6 => walk_at "kq fun"
    case L7 => walk_at "kq fun"
    case L8 => walk_at "kq fun"
    case L9 => walk_at "kq fun"
    case L10 => walk_at "kq fun"
    case L11 => walk_at "kq fun"
    case L12 => walk_at "kq fun"
    case L13 => walk_at "kq fun"
    case L14 => walk_at "kq fun"
    case L15 => walk_at "kq fun"
#print axioms PySem.Challenge.cw_knownquiet_k11_whole_shares_by_fractions_holds
