import PyProof.Rows.All
import Wide.All
import OpenK.AllK
import Wide.FinOn
import HandS.ForMost
import HandS.ForExc
import HandS.IsInst
import HandS.Style
import HandS.Small
import HandS.Zip
import HandS.TryMany
import HandS.Codes
import HandS.More
import KE.GoesEnumKw
import HandS.ExcInit
import HandS.ExcField
import HandS.OwnEq
import HandS.TupAny
import HandS.TupMul
import KE.KMinKey
import HandS.SortKw
import HandS.Walk
import PyProof.StrOps2
import HandS.ExcIs
import KE.GoesZip
import KE.GoesMore
import HandS.SortInts
import PySem.Challenge.RW_knownquiet_k12_whole_states_by_own_deeds
set_option Elab.async false
set_option maxRecDepth 100000
set_option maxHeartbeats 4000000
/-! B0: what all our texts share: a def and its promise in one word, data as a whole, the drawing hand. -/
namespace KQ
open PySem PySem.Spec PyProof.Rows L2

/-! ### a def behind the top, a def that keeps a promise -/
def FunAt (K : PySem.W.Frag) (mg : Str → Option Value) (x : Str) (st : Stmt) : Prop := ∃ f fd, Fun K x x st f fd ∧ mg x = some (.ref f)
def Has (P : Program) (w : World) (K : PySem.W.Frag) (mg : Str → Option Value) (base : Heap) (k : Nat) (x : Str) (ps : List Str) (sp : Sp) : Prop :=
  ∃ f fd, FnOk P w K mg base CX0 k f fd ps sp ∧ mg x = some (.ref f) ∧ PySem.W.keepIn K (.ref f) = true ∧ Binds K fd ps []
/-- .. one that may raise -/
def HasX (P : Program) (w : World) (K : PySem.W.Frag) (mg : Str → Option Value) (base : Heap) (k : Nat) (x : Str) (ps : List Str) (sp : Sp) : Prop :=
  ∃ f fd, FnOk P w K mg base (L2.CX P w) k f fd ps sp ∧ mg x = some (.ref f) ∧ PySem.W.keepIn K (.ref f) = true ∧ Binds K fd ps []
abbrev BindsTo? (st : Stmt) (x : Str) (ps : List Str) : Prop :=
  ∀ (kV doc pm : Value) (an : Option Addr) (cdv ct : Value) (us : List Value), us.length = ps.length → bindArgs (PySem.W.fnOf x x (defArgs st) (defBody st) (defScope st) .none kV doc pm an cdv ct) ⟨us, []⟩ = pure (ps.zip us)
section
variable {P : Program} {w : World} {K : PySem.W.Frag} {mg : Str → Option Value} {base : Heap}
theorem mk_has {x : Str} {st : Stmt} {N ps : List Str} {k : Nat} {sp : Sp} (F : FunAt K mg x st) (S : FnScope N ps (defScope st)) (hb : BindsTo? st x ps) (len : ∀ vs H Q E, sp vs H Q E → vs.length = ps.length)
    (body : ∀ (f : Addr) (cdv : Value) (A : Around) (outer : List Env) (s : Shared) (H : Hp) (vs : List V) (Q : VK) (E : XK), Room k (A.deeper (envOfC x (defScope st) s.heap.objs.size f cdv)) → sp vs H Q E →
      ∃ t, PSs (cxOf CX0 P w K mg base N x (defScope st) f cdv A outer s H E).nox (defBody st) t ∧ t { nx := fun _ H' => Q .non H', rt := Q } (start N vs) H) : Has P w K mg base (k + 1) x ps sp := by
  obtain ⟨f, fd, F, m⟩ := F
  exact ⟨f, fd, F.ok S len (fun cdv A outer s H vs Q E => body f cdv A outer s H vs Q E), m, F.kp, F.binds hb⟩
theorem mk_hasX {x : Str} {st : Stmt} {N ps : List Str} {k : Nat} {sp : Sp} (F : FunAt K mg x st) (S : FnScope N ps (defScope st)) (hb : BindsTo? st x ps) (len : ∀ vs H Q E, sp vs H Q E → vs.length = ps.length)
    (body : ∀ (f : Addr) (cdv : Value) (A : Around) (outer : List Env) (s : Shared) (H : Hp) (vs : List V) (Q : VK) (E : XK), Room k (A.deeper (envOfC x (defScope st) s.heap.objs.size f cdv)) → sp vs H Q E →
      ∃ t, PSs (cxOf (L2.CX P w) P w K mg base N x (defScope st) f cdv A outer s H E) (defBody st) t ∧ t { nx := fun _ H' => Q .non H', rt := Q } (start N vs) H) : HasX P w K mg base (k + 1) x ps sp := by
  obtain ⟨f, fd, F, m⟩ := F
  exact ⟨f, fd, F.okX S len (fun cdv A outer s H vs Q E => body f cdv A outer s H vs Q E), m, F.kp, F.binds hb⟩
theorem Has.mono {x : Str} {ps : List Str} {j k : Nat} {sp : Sp} (D : Has P w K mg base j x ps sp) (h : j ≤ k) : Has P w K mg base k x ps sp := by
  obtain ⟨f, fd, G, r⟩ := D
  exact ⟨f, fd, G.mono h, r⟩
theorem Has.imp {x : Str} {ps : List Str} {k : Nat} {sp sp' : Sp} (D : Has P w K mg base k x ps sp) (h : ∀ vs H Q E, sp' vs H Q E → sp vs H Q E) : Has P w K mg base k x ps sp' := by
  obtain ⟨f, fd, G, r⟩ := D
  exact ⟨f, fd, G.imp h, r⟩
end
section
variable {X : Cx} {k : Nat} {x : Str} {ps : List Str} {sp : Sp} {e : Expr} {es : List Expr} {p pos : Pos} {t : TA}
/-- f(e, ..), f by its promise -/
theorem pe_h (D : Has X.prog X.w X.K X.mg X.base k x ps sp) (hr : Room k X.A) (hg : Gl X x) (ha : PA X (e :: es) t) (hdb : (x == ("__debug__" : Str)) = false := by decide)
    (he : starEach (e :: es) X.env = (false, eval e X.env) :: starEach es X.env := by rfl) (hpl : (backTo pos (starEach es X.env)).any (·.1) = false := by rfl) :
    PE X (.Call (.Name x p) (e :: es) [] pos) (tCall sp [] E0 t) := by
  obtain ⟨f, fd, G, m, kp, b⟩ := D
  exact pe_call G hr hg m kp b .nil pass0 ha hdb he hpl
/-- .. one that may raise, in a try's body -/
theorem pe_hX {W : WX} (tk : Takes X W) (D : HasX X.prog X.w X.K X.mg X.base k x ps sp) (hr : Room k X.A) (hg : Gl X x) (ha : PA X (e :: es) t) (hdb : (x == ("__debug__" : Str)) = false := by decide)
    (he : starEach (e :: es) X.env = (false, eval e X.env) :: starEach es X.env := by rfl) (hpl : (backTo pos (starEach es X.env)).any (·.1) = false := by rfl) :
    PE X (.Call (.Name x p) (e :: es) [] pos) (tCallS sp (WE W) t) := by
  obtain ⟨f, fd, G, m, kp, b⟩ := D
  exact pe_callS G hr hg m kp b (passAt tk) ha hdb he hpl
end

/-! ### x is True, x is False, for any x -/
def rIsAny : R2 := fun x y H Q => ∃ b : Bool, y = .bl b ∧ Q (.bl (decide (x = .bl b))) H
theorem op_isB {X : Cx} : OpR X (compareOp .Is) rIsAny := by
  intro pins s σ H x y v u Q I rx ry h
  obtain ⟨b, rfl, q⟩ := h
  cases (show u = Value.bool b from ry)
  have fin : ∀ c : Bool, decide (x = V.bl b) = c → EP X pins σ Q (Value.bool c) s := fun c e => ⟨.bl c, H, I, rfl, by rw [← e]; exact q⟩
  cases x with
  | bl a =>
    cases (show v = Value.bool a from rx)
    by_cases e : a = b
    · subst e
      exact wpAny_is_self rfl (fin true (by simp))
    · exact wpAny_is_other rfl (fun z => e (Value.bool.inj z)) (fin false (by simp [e]))
  | non => cases (show v = Value.none from rx); exact wpAny_is_other rfl (by intro z; cases z) (fin false (by simp))
  | int i => obtain ⟨t, rfl⟩ := (show ∃ t, v = Value.int i t from rx); exact wpAny_is_other rfl (by intro z; cases z) (fin false (by simp))
  | str i => obtain ⟨t, rfl⟩ := (show ∃ t, v = Value.str i t from rx); exact wpAny_is_other rfl (by intro z; cases z) (fin false (by simp))
  | byt i => obtain ⟨t, rfl⟩ := (show ∃ t, v = Value.bytes i t from rx); exact wpAny_is_other rfl (by intro z; cases z) (fin false (by simp))
  | flt i => obtain ⟨t, rfl⟩ := (show ∃ t, v = Value.float i t from rx); exact wpAny_is_other rfl (by intro z; cases z) (fin false (by simp))
  | ref a => cases (show v = Value.ref a from rx); exact wpAny_is_other rfl (by intro z; cases z) (fin false (by simp))
  | ty n => cases (show v = Value.type n from rx); exact wpAny_is_other rfl (by intro z; cases z) (fin false (by simp))
end KQ
set_option Elab.async false
set_option maxRecDepth 100000
set_option maxHeartbeats 4000000
namespace KQ
open PySem PySem.Spec PyProof.Rows L2

/-! ### data as a whole, away from the places N that are written -/
mutual
inductive Rp (N : Addr → Prop) (H : Hp) : V → PyData → Prop
  | non : Rp N H .non .none
  | bl (b : Bool) : Rp N H (.bl b) (.bool b)
  | int (i : Int) : Rp N H (.int i) (.int i)
  | str (x : Str) : Rp N H (.str x) (.str x)
  | lst {a : Addr} {xs : List V} {ds : List PyData} : H a = some (.lst xs) → ¬ N a → RpAll N H xs ds → Rp N H (.ref a) (.list ds)
  | tup {a : Addr} {xs : List V} {ds : List PyData} : H a = some (.tup xs) → ¬ N a → RpAll N H xs ds → Rp N H (.ref a) (.tuple ds)
  | emp {a : Addr} : H a = some (.dK []) → ¬ N a → Rp N H (.ref a) (.dict [])
inductive RpAll (N : Addr → Prop) (H : Hp) : List V → List PyData → Prop
  | nil : RpAll N H [] []
  | cons {v : V} {vs : List V} {d : PyData} {ds : List PyData} : Rp N H v d → RpAll N H vs ds → RpAll N H (v :: vs) (d :: ds)
end
/-- all but what stands at N is kept -/
def Kp (N : Addr → Prop) (H H' : Hp) : Prop := ∀ a o, H a = some o → ¬ N a → H' a = some o
theorem Kp.refl {N : Addr → Prop} {H : Hp} : Kp N H H := fun _ _ e _ => e
theorem Kp.trans {N : Addr → Prop} {H H1 H2 : Hp} (a : Kp N H H1) (b : Kp N H1 H2) : Kp N H H2 := fun c o e n => b c o (a c o e n) n
theorem Kp.new {N : Addr → Prop} {H : Hp} {p : Addr} {o : HO} (h : H p = none) : Kp N H (upd H p o) := fun a u e _ => by rw [upd_ne (ne_of_none e h)]; exact e
theorem Kp.new' {N : Addr → Prop} {H0 H : Hp} {p : Addr} {o : HO} (k : Kp N H0 H) (h : H p = none) : Kp N H0 (upd H p o) := k.trans (Kp.new h)
theorem Kp.put {N : Addr → Prop} {H : Hp} {p : Addr} {o : HO} (h : N p) : Kp N H (upd H p o) := fun a u e n => by rw [upd_ne (fun z => n (by rw [z]; exact h))]; exact e
theorem Kp.put' {N : Addr → Prop} {H0 H : Hp} {p : Addr} {o : HO} (k : Kp N H0 H) (h : N p) : Kp N H0 (upd H p o) := k.trans (Kp.put h)
theorem Kp.of_same {N : Addr → Prop} {H H' : Hp} (h : Same H H') : Kp N H H' := fun a o e _ => h a o e
theorem Kp.wide {N N' : Addr → Prop} {H H' : Hp} (k : Kp N H H') (h : ∀ a, N a → N' a) : Kp N' H H' := fun a o e n => k a o e fun z => n (h a z)
/-- what is free behind was free ahead, if what is at N stays in being -/
theorem Kp.free {N : Addr → Prop} {H H' : Hp} (k : Kp N H H') (hn : ∀ a, N a → H' a ≠ none) {p : Addr} (h : H' p = none) : H p = none := by
  cases e : H p with
  | none => rfl
  | some o =>
    by_cases n : N p
    · exact absurd h (hn p n)
    · rw [k p o e n] at h; cases h
mutual
theorem Rp.kp {N N' : Addr → Prop} {H H' : Hp} (k : Kp N H H') (hN : ∀ a o, H a = some o → ¬ N a → ¬ N' a) : ∀ {v : V} {d : PyData}, Rp N H v d → Rp N' H' v d
  | _, _, .non => .non
  | _, _, .bl b => .bl b
  | _, _, .int i => .int i
  | _, _, .str x => .str x
  | _, _, .lst e n r => .lst (k _ _ e n) (hN _ _ e n) (r.kp k hN)
  | _, _, .tup e n r => .tup (k _ _ e n) (hN _ _ e n) (r.kp k hN)
  | _, _, .emp e n => .emp (k _ _ e n) (hN _ _ e n)
theorem RpAll.kp {N N' : Addr → Prop} {H H' : Hp} (k : Kp N H H') (hN : ∀ a o, H a = some o → ¬ N a → ¬ N' a) : ∀ {vs : List V} {ds : List PyData}, RpAll N H vs ds → RpAll N' H' vs ds
  | _, _, .nil => .nil
  | _, _, .cons r t => .cons (r.kp k hN) (t.kp k hN)
end
theorem Rp.to {N : Addr → Prop} {H H' : Hp} {v : V} {d : PyData} (r : Rp N H v d) (k : Kp N H H') : Rp N H' v d := r.kp k fun _ _ _ n => n
theorem RpAll.to {N : Addr → Prop} {H H' : Hp} {v : List V} {d : List PyData} (r : RpAll N H v d) (k : Kp N H H') : RpAll N H' v d := r.kp k fun _ _ _ n => n
/-- further places to be written, all new -/
theorem Rp.more {N N' : Addr → Prop} {H : Hp} {v : V} {d : PyData} (r : Rp N H v d) (h : ∀ a, N' a → N a ∨ H a = none) : Rp N' H v d :=
  r.kp Kp.refl fun a o e n z => (h a z).elim n fun q => by rw [q] at e; cases e
theorem RpAll.length {N : Addr → Prop} {H : Hp} : ∀ {vs : List V} {ds : List PyData}, RpAll N H vs ds → vs.length = ds.length
  | _, _, .nil => rfl
  | _, _, .cons _ t => congrArg (· + 1) t.length
theorem RpAll.get {N : Addr → Prop} {H : Hp} : ∀ {vs : List V} {ds : List PyData} {i : Nat} {v : V}, RpAll N H vs ds → vs[i]? = some v → ∃ d, ds[i]? = some d ∧ Rp N H v d
  | _, _, _, _, .nil, e => by simp at e
  | _, _, 0, _, .cons r _, e => by simp at e; subst e; exact ⟨_, rfl, r⟩
  | _, _, i + 1, _, .cons _ t, e => by simpa using t.get (i := i) (by simpa using e)
theorem RpAll.app {N : Addr → Prop} {H : Hp} : ∀ {vs ws : List V} {ds es : List PyData}, RpAll N H vs ds → RpAll N H ws es → RpAll N H (vs ++ ws) (ds ++ es)
  | _, _, _, _, .nil, s => s
  | _, _, _, _, .cons r t, s => .cons r (t.app s)
theorem RpAll.drop {N : Addr → Prop} {H : Hp} : ∀ {vs : List V} {ds : List PyData} (n : Nat), RpAll N H vs ds → RpAll N H (vs.drop n) (ds.drop n)
  | _, _, 0, r => r
  | _, _, _ + 1, .nil => .nil
  | _, _, n + 1, .cons _ t => RpAll.drop n t
theorem RpAll.take {N : Addr → Prop} {H : Hp} : ∀ {vs : List V} {ds : List PyData} (n : Nat), RpAll N H vs ds → RpAll N H (vs.take n) (ds.take n)
  | _, _, 0, _ => .nil
  | _, _, _ + 1, .nil => .nil
  | _, _, n + 1, .cons r t => .cons r (RpAll.take n t)
/-- the name of its type -/
def tyN : PyData → String
  | .none => "NoneType" | .bool _ => "bool" | .int _ => "int" | .str _ => "str" | .list _ => "list" | .tuple _ => "tuple" | .dict _ => "dict"
theorem Rp.ty {K : PySem.W.Frag} {N : Addr → Prop} {H : Hp} {v : V} {d : PyData} (r : Rp N H v d) : TyX K H v (.type (tyN d)) := by
  cases r with
  | non => exact .base .non
  | bl b => exact .base (.bl b)
  | int i => exact .base (.int i)
  | str x => exact .base (.str x)
  | lst e _ _ => exact .base (.lst e)
  | tup e _ _ => exact .base (.tup e)
  | emp e _ => exact .base (.dK e)
/-- is it of this kind (a flag is an int too) -/
def isT (T : String) (d : PyData) : Bool := tyN d == T || (T == "int" && tyN d == "bool")
def tyNs : List String := ["NoneType", "bool", "int", "str", "list", "tuple", "dict"]
theorem tyN_in (d : PyData) : tyN d ∈ tyNs := by cases d <;> simp [tyN, tyNs]
theorem kit_T {K : PySem.W.Frag} {T : String} (h : ∀ s ∈ tyNs, kitB s T = some (s == T || (T == "int" && s == "bool"))) (d : PyData) : PySem.W.kitOne K (.type (tyN d)) (.type T) = some (isT T d) := kit_ty (h _ (tyN_in d))
theorem kit_int {K : PySem.W.Frag} (d : PyData) : PySem.W.kitOne K (.type (tyN d)) (.type "int") = some (isT "int" d) := kit_T (by decide +kernel) d
theorem kit_bool {K : PySem.W.Frag} (d : PyData) : PySem.W.kitOne K (.type (tyN d)) (.type "bool") = some (isT "bool" d) := kit_T (by decide +kernel) d
theorem kit_str {K : PySem.W.Frag} (d : PyData) : PySem.W.kitOne K (.type (tyN d)) (.type "str") = some (isT "str" d) := kit_T (by decide +kernel) d
theorem kit_tuple {K : PySem.W.Frag} (d : PyData) : PySem.W.kitOne K (.type (tyN d)) (.type "tuple") = some (isT "tuple" d) := kit_T (by decide +kernel) d
theorem kit_list {K : PySem.W.Frag} (d : PyData) : PySem.W.kitOne K (.type (tyN d)) (.type "list") = some (isT "list" d) := kit_T (by decide +kernel) d
/-- isinstance(x, T) of a datum -/
theorem isi {K : PySem.W.Frag} {N : Addr → Prop} {H : Hp} {v : V} {d : PyData} {T : String} {Q : VK} (r : Rp N H v d) (k : PySem.W.kitOne K (.type (tyN d)) (.type T) = some (isT T d)) (q : Q (.bl (isT T d)) H) : rIsi K [v, .ty T] H Q :=
  ⟨v, .ty T, _, .type T, _, rfl, .ty T, r.ty, k, q⟩
/-- an integer, as the judges mean it -/
def intOf : PyData → Option Int
  | .int i => some i
  | _ => none
end KQ
set_option Elab.async false
set_option maxRecDepth 100000
set_option maxHeartbeats 4000000
namespace KQ
open PySem PySem.Spec PyProof.Rows L2

/-! ### an own error class without __init__: raised without arguments, caught by its name -/
section
variable {X : Cx} {C : Addr} {bmB : List Value} {B newId initId : String}
theorem pmk_bare {x : Str} {p pos : Pos} (F : ExcBaseFacts B newId initId bmB) (q : PySem.W.excIn X.K C bmB newId = true) (gC : X.mg x = some (.ref C)) (kC : PySem.W.keepIn X.K (.ref C) = true) (r : Raises X (.ref C)) (hg : Gl X x)
    (hdb : (x == ("__debug__" : Str)) = false := by decide) : PMk X (.Call (.Name x p) [] [] pos) (fun _ H Q => Q (.ref C) none H) := by
  intro pins s σ H Q I h
  refine wpAny_Call_Name_kw (ld_glob I hg gC ?_ hdb)
  refine PySem.W.callWith_K0 I.kIn kC ?_
  obtain ⟨bm, N, nm, qn, bs, hdct, sn, sub, ab, col, dd, k0, k1, k2, k3, k5, mN, hC, hN, hni, T⟩ := exc_obj I.kIn q
  obtain ⟨hp, g, d, t, os⟩ := s
  exact wpAny_call_exc_subT F T hC hN hni (rest := []) (fun h' e hm => mk_of I hm r h (I.hok.gone hm.new)) (Nat.zero_le _)
end
/-- what the written part says of such a class -/
structure ExcAt (K : PySem.W.Frag) (mg : Str → Option Value) (x : Str) (C : Addr) : Prop where
  g : mg x = some (.ref C)
  kp : PySem.W.keepIn K (.ref C) = true
  ex : PySem.W.excIn K C [.type "ValueError", .type "Exception", .type "BaseException", .type "object"] "ValueError.__new__" = true
  sub : PySem.W.subIn K (.ref C) (.type "BaseException") = some true
  ty : PySem.W.typeIn K (.ref C) = some (.type "type")
  own : PySem.W.subIn K (.ref C) (.ref C) = some true
  isC : PySem.W.isClsIn K C = true
theorem ExcAt.raises {X : Cx} {x : Str} {C : Addr} (T : ExcAt X.K X.mg x C) : Raises X (.ref C) := raises_own T.sub T.ty
theorem ExcAt.exm {K : PySem.W.Frag} {mg : Str → Option Value} {x : Str} {C : Addr} (T : ExcAt K mg x C) : PySem.W.exmOne K (.ref C) (.ref C) = some true := by
  unfold PySem.W.exmOne
  have e1 : (PySem.W.clsIn K C).isSome = true := T.isC
  simp [T.sub, PySem.W.kitCls, T.own, T.ty, e1]
theorem pmk_x {X : Cx} {x : Str} {C : Addr} {p pos : Pos} (T : ExcAt X.K X.mg x C) (hg : Gl X x) (hdb : (x == ("__debug__" : Str)) = false := by decide) : PMk X (.Call (.Name x p) [] [] pos) (fun _ H Q => Q (.ref C) none H) :=
  pmk_bare PySem.F.excBase_ValueError T.ex T.g T.kp T.raises hg hdb
/-- raise X() in a def that may raise it -/
def tRz (E : XK) (C : Addr) : TS := fun _ _ H => E (.ref C) none H
theorem ps_rz {X : Cx} {x : Str} {C : Addr} {W : WX} {p pos pos2 : Pos} (hc : X.calm = true) (tk : Takes X W) (T : ExcAt X.K X.mg x C) (hg : Gl X x) (hdb : (x == ("__debug__" : Str)) = false := by decide) :
    PS X (.Raise (some (.Call (.Name x p) [] [] pos)) none pos2) (fun _ σ H => W (.ref C) none σ H) := ps_raise hc tk (pmk_x T hg hdb)
end KQ
set_option Elab.async false
set_option maxRecDepth 100000
set_option maxHeartbeats 4000000
namespace KQ
open PySem PySem.Spec PyProof.Rows L2
/-! ### methods by their promises -/
/-- a method of the class at C as the top has left it -/
def MethAt (K : PySem.W.Frag) (C : Addr) (m qual : Str) (st : Stmt) : Prop := ∃ f fd, Fun K m qual st f fd ∧ Meth K C m f
def HasM (P : Program) (w : World) (K : PySem.W.Frag) (mg : Str → Option Value) (base : Heap) (k : Nat) (C : Addr) (m : Str) (ps : List Str) (sp : Sp) : Prop :=
  ∃ f fd, FnOk P w K mg base CX0 k f fd ps sp ∧ Meth K C m f ∧ Binds K fd ps []
def HasMX (P : Program) (w : World) (K : PySem.W.Frag) (mg : Str → Option Value) (base : Heap) (k : Nat) (C : Addr) (m : Str) (ps : List Str) (sp : Sp) : Prop :=
  ∃ f fd, FnOk P w K mg base (L2.CX P w) k f fd ps sp ∧ Meth K C m f ∧ Binds K fd ps []
/-- a class that is made by its own __init__ -/
def HasC (P : Program) (w : World) (K : PySem.W.Frag) (mg : Str → Option Value) (base : Heap) (k : Nat) (x : Str) (C : Addr) (ps : List Str) (sp : Sp) : Prop :=
  ∃ f fd, FnOk P w K mg base CX0 k f fd ps sp ∧ Mk K C f ∧ mg x = some (.ref C) ∧ Binds K fd ps []
def HasCX (P : Program) (w : World) (K : PySem.W.Frag) (mg : Str → Option Value) (base : Heap) (k : Nat) (x : Str) (C : Addr) (ps : List Str) (sp : Sp) : Prop :=
  ∃ f fd, FnOk P w K mg base (L2.CX P w) k f fd ps sp ∧ Mk K C f ∧ mg x = some (.ref C) ∧ Binds K fd ps []
abbrev BindsQ (st : Stmt) (x qual : Str) (ps : List Str) : Prop :=
  ∀ (kV doc pm : Value) (an : Option Addr) (cdv ct : Value) (us : List Value), us.length = ps.length → bindArgs (PySem.W.fnOf x qual (defArgs st) (defBody st) (defScope st) .none kV doc pm an cdv ct) ⟨us, []⟩ = pure (ps.zip us)
section
variable {P : Program} {w : World} {K : PySem.W.Frag} {mg : Str → Option Value} {base : Heap}
theorem mk_hasM {C : Addr} {x qual : Str} {st : Stmt} {N ps : List Str} {k : Nat} {sp : Sp} (F : MethAt K C x qual st) (S : FnScope N ps (defScope st)) (hb : BindsQ st x qual ps) (len : ∀ vs H Q E, sp vs H Q E → vs.length = ps.length)
    (body : ∀ (f : Addr) (cdv : Value) (A : Around) (outer : List Env) (s : Shared) (H : Hp) (vs : List V) (Q : VK) (E : XK), Room k (A.deeper (envOfC qual (defScope st) s.heap.objs.size f cdv)) → sp vs H Q E →
      ∃ t, PSs (cxOf CX0 P w K mg base N qual (defScope st) f cdv A outer s H E).nox (defBody st) t ∧ t { nx := fun _ H' => Q .non H', rt := Q } (start N vs) H) : HasM P w K mg base (k + 1) C x ps sp := by
  obtain ⟨f, fd, F, m⟩ := F
  exact ⟨f, fd, F.ok S len (fun cdv A outer s H vs Q E => body f cdv A outer s H vs Q E), m, F.binds hb⟩
theorem mk_hasMX {C : Addr} {x qual : Str} {st : Stmt} {N ps : List Str} {k : Nat} {sp : Sp} (F : MethAt K C x qual st) (S : FnScope N ps (defScope st)) (hb : BindsQ st x qual ps) (len : ∀ vs H Q E, sp vs H Q E → vs.length = ps.length)
    (body : ∀ (f : Addr) (cdv : Value) (A : Around) (outer : List Env) (s : Shared) (H : Hp) (vs : List V) (Q : VK) (E : XK), Room k (A.deeper (envOfC qual (defScope st) s.heap.objs.size f cdv)) → sp vs H Q E →
      ∃ t, PSs (cxOf (L2.CX P w) P w K mg base N qual (defScope st) f cdv A outer s H E) (defBody st) t ∧ t { nx := fun _ H' => Q .non H', rt := Q } (start N vs) H) : HasMX P w K mg base (k + 1) C x ps sp := by
  obtain ⟨f, fd, F, m⟩ := F
  exact ⟨f, fd, F.okX S len (fun cdv A outer s H vs Q E => body f cdv A outer s H vs Q E), m, F.binds hb⟩
/-- a class's __init__ -/
def InitAt (K : PySem.W.Frag) (mg : Str → Option Value) (x : Str) (C : Addr) (qual : Str) (st : Stmt) : Prop := ∃ f fd, Fun K "__init__" qual st f fd ∧ Mk K C f ∧ mg x = some (.ref C)
theorem mk_hasC {C : Addr} {x qual : Str} {st : Stmt} {N ps : List Str} {k : Nat} {sp : Sp} (F : InitAt K mg x C qual st) (S : FnScope N ps (defScope st)) (hb : BindsQ st "__init__" qual ps) (len : ∀ vs H Q E, sp vs H Q E → vs.length = ps.length)
    (body : ∀ (f : Addr) (cdv : Value) (A : Around) (outer : List Env) (s : Shared) (H : Hp) (vs : List V) (Q : VK) (E : XK), Room k (A.deeper (envOfC qual (defScope st) s.heap.objs.size f cdv)) → sp vs H Q E →
      ∃ t, PSs (cxOf CX0 P w K mg base N qual (defScope st) f cdv A outer s H E).nox (defBody st) t ∧ t { nx := fun _ H' => Q .non H', rt := Q } (start N vs) H) : HasC P w K mg base (k + 1) x C ps sp := by
  obtain ⟨f, fd, F, m, g⟩ := F
  exact ⟨f, fd, F.ok S len (fun cdv A outer s H vs Q E => body f cdv A outer s H vs Q E), m, g, F.binds hb⟩
theorem mk_hasCX {C : Addr} {x qual : Str} {st : Stmt} {N ps : List Str} {k : Nat} {sp : Sp} (F : InitAt K mg x C qual st) (S : FnScope N ps (defScope st)) (hb : BindsQ st "__init__" qual ps) (len : ∀ vs H Q E, sp vs H Q E → vs.length = ps.length)
    (body : ∀ (f : Addr) (cdv : Value) (A : Around) (outer : List Env) (s : Shared) (H : Hp) (vs : List V) (Q : VK) (E : XK), Room k (A.deeper (envOfC qual (defScope st) s.heap.objs.size f cdv)) → sp vs H Q E →
      ∃ t, PSs (cxOf (L2.CX P w) P w K mg base N qual (defScope st) f cdv A outer s H E) (defBody st) t ∧ t { nx := fun _ H' => Q .non H', rt := Q } (start N vs) H) : HasCX P w K mg base (k + 1) x C ps sp := by
  obtain ⟨f, fd, F, m, g⟩ := F
  exact ⟨f, fd, F.okX S len (fun cdv A outer s H vs Q E => body f cdv A outer s H vs Q E), m, g, F.binds hb⟩
end
section
variable {X : Cx} {k : Nat} {C : Addr} {x m : Str} {ps : List Str} {sp : Sp} {e o : Expr} {es : List Expr} {p pos apos : Pos} {ta : TE} {t : TA} {pl : Sem Bool}
theorem pe_m (D : HasM X.prog X.w X.K X.mg X.base k C m ps sp) (c : Cls X.K C) (hr : Room k X.A) (ho : PE X o ta) (ha : PA X (e :: es) t)
    (hst : starEach (e :: es) X.env = (false, eval e X.env) :: starEach es X.env := by rfl) (hpl : (backTo pos (starEach es X.env)).any (·.1) = false := by rfl)
    (ht : eval (.Call (.Attribute o m apos) (e :: es) [] pos) X.env = (do
      let ov ← eval o X.env
      standAt apos.atName
      let (f, first) ← holding [ov] (getMethod ov m pl)
      callWith pos f first (backTo pos (starEach (e :: es) X.env)) (backToKw pos (keywordEach [] X.env))) := by rfl) :
    PE X (.Call (.Attribute o m apos) (e :: es) [] pos) (tMeth C m sp [] E0 ta t) := by
  obtain ⟨f, fd, G, M, b⟩ := D
  exact pe_meth ho c M G hr b .nil pass0 ha hst hpl ht
theorem pe_m0 (D : HasM X.prog X.w X.K X.mg X.base k C m ps sp) (c : Cls X.K C) (hr : Room k X.A) (ho : PE X o ta)
    (ht : eval (.Call (.Attribute o m apos) [] [] pos) X.env = (do
      let ov ← eval o X.env
      standAt apos.atName
      let (f, first) ← holding [ov] (getMethod ov m pl)
      callWith pos f first (backTo pos (starEach [] X.env)) (backToKw pos (keywordEach [] X.env))) := by rfl) :
    PE X (.Call (.Attribute o m apos) [] [] pos) (tMeth C m sp [] E0 ta tNil) := by
  obtain ⟨f, fd, G, M, b⟩ := D
  exact pe_meth0 ho c M G hr b .nil pass0 ht
/-- a method that may raise, called where that is wished for (W) -/
def tMethW (C : Addr) (m : Str) (sp : Sp) (W : WX) (ta : TE) (t : TA) : TE := fun σ H Q => ta σ H fun x H1 => ∃ a dx fs, x = .ref a ∧ H1 a = some (.ins C dx fs) ∧ fs.lookup m = none ∧ t σ H1 fun vs H2 => sp (x :: vs) H2 Q (WE W σ)
theorem pe_mX {W : WX} (tk : Takes X W) (D : HasMX X.prog X.w X.K X.mg X.base k C m ps sp) (c : Cls X.K C) (hr : Room k X.A) (ho : PE X o ta) (ha : PA X (e :: es) t)
    (hst : starEach (e :: es) X.env = (false, eval e X.env) :: starEach es X.env := by rfl) (hpl : (backTo pos (starEach es X.env)).any (·.1) = false := by rfl)
    (ht : eval (.Call (.Attribute o m apos) (e :: es) [] pos) X.env = (do
      let ov ← eval o X.env
      standAt apos.atName
      let (f, first) ← holding [ov] (getMethod ov m pl)
      callWith pos f first (backTo pos (starEach (e :: es) X.env)) (backToKw pos (keywordEach [] X.env))) := by rfl) :
    PE X (.Call (.Attribute o m apos) (e :: es) [] pos) (tMethW C m sp W ta t) := by
  obtain ⟨f, fd, G, M, b⟩ := D
  constructor
  intro pins s σ H Q I h
  refine PySem.W.methodCall_KW (pl := pl) (thn (ho.run pins s σ H _ I h) ?_) ht
  rintro u s1 ⟨x, H1, I1, rx, a, dx, fs, rfl, ea, l, q⟩
  obtain rfl : u = Value.ref a := rx
  refine getmeth_ok I1 ea c M l (PySem.W.callWith_K (first := [.ref a]) (h₀ := X.base) I.ok.mod.kin M.kp (thn (ha.run pos pins s1 σ H1 _ I1 q) ?_) hst hpl)
  rintro us s2 ⟨vs, H2, I2, r, q2⟩
  exact ⟨I2.kIn, run_fnS (us := .ref a :: us) (vs := .ref a :: vs) G hr b (passAt tk σ) I2 (.cons rfl r) q2⟩
theorem pe_c (D : HasC X.prog X.w X.K X.mg X.base k x C ps sp) (hr : Room (k + 1) X.A) (hg : Gl X x) (ha : PA X (e :: es) t) (hdb : (x == ("__debug__" : Str)) = false := by decide)
    (he : starEach (e :: es) X.env = (false, eval e X.env) :: starEach es X.env := by rfl) (hpl : (backTo pos (starEach es X.env)).any (·.1) = false := by rfl) :
    PE X (.Call (.Name x p) (e :: es) [] pos) (tMake C sp [] E0 t) := by
  obtain ⟨f, fd, G, M, g, b⟩ := D
  exact pe_make M G hr hg g b .nil pass0 ha hdb he hpl
theorem pe_c0 (D : HasC X.prog X.w X.K X.mg X.base k x C ps sp) (hr : Room (k + 1) X.A) (hg : Gl X x) (hdb : (x == ("__debug__" : Str)) = false := by decide) :
    PE X (.Call (.Name x p) [] [] pos) (tMake C sp [] E0 tNil) := by
  obtain ⟨f, fd, G, M, g, b⟩ := D
  exact pe_make0 M G hr hg g b .nil pass0 hdb
end
end KQ
set_option Elab.async false
set_option maxRecDepth 100000
set_option maxHeartbeats 4000000
/-! B4: from the facts that the head finds to defs, methods, classes; the law's own end. -/
namespace KQ
open PySem PySem.Spec PyProof.Rows L2
section
variable {K : PySem.W.Frag} {h : Heap} {mg : Str → Option Value} {x m qual : Str} {st : Stmt} {f C : Addr} {oc : Value} {od an : Option Addr} {kV doc pm cdv ct : Value} {sl : Array (Option Value)}
theorem funAt_of (X : K.In h) (G : h.Ns mainGlobals mg) (a : PySem.W.nsIn K mainGlobals x = some (some (.ref f))) (l : K.lookup f = some ⟨oc, od, .func (PySem.W.fnOf x x (defArgs st) (defBody st) (defScope st) .none kV doc pm an cdv ct), sl⟩)
    (c : PySem.W.codeIn K cdv x = true) (k : PySem.W.keepIn K (.ref f) = true) : FunAt K mg x st := ⟨f, _, fun_mk l c k, PySem.W.mg_of X G a⟩
theorem methAt_of (a : PySem.W.findIn K (.ref C) m = some (some (.ref f))) (i : PySem.W.isFn K (.ref f) = true) (l : K.lookup f = some ⟨oc, od, .func (PySem.W.fnOf m qual (defArgs st) (defBody st) (defScope st) .none kV doc pm an cdv ct), sl⟩)
    (c : PySem.W.codeIn K cdv qual = true) (k : PySem.W.keepIn K (.ref f) = true) : MethAt K C m qual st := ⟨f, _, fun_mk l c k, ⟨a, i, k⟩⟩
theorem initAt_of (X : K.In h) (G : h.Ns mainGlobals mg) (aC : PySem.W.nsIn K mainGlobals x = some (some (.ref C))) (mk : PySem.W.makesIn K C = true) (kC : PySem.W.keepIn K (.ref C) = true)
    (a : PySem.W.findIn K (.ref C) "__init__" = some (some (.ref f))) (i : PySem.W.isFn K (.ref f) = true) (l : K.lookup f = some ⟨oc, od, .func (PySem.W.fnOf "__init__" qual (defArgs st) (defBody st) (defScope st) .none kV doc pm an cdv ct), sl⟩)
    (c : PySem.W.codeIn K cdv qual = true) (k : PySem.W.keepIn K (.ref f) = true) : InitAt K mg x C qual st := ⟨f, _, fun_mk l c k, ⟨mk, a, i, kC⟩, PySem.W.mg_of X G aC⟩
/-- a built-in name that the text leaves alone -/
theorem free_of (X : K.In h) (G : h.Ns mainGlobals mg) (e : PySem.W.nsIn K mainGlobals x = some none) : mg x = none := PySem.W.mg_none_of X G e
theorem excAt_of (X : K.In h) (G : h.Ns mainGlobals mg) (a : PySem.W.nsIn K mainGlobals x = some (some (.ref C))) (kp : PySem.W.keepIn K (.ref C) = true)
    (ex : PySem.W.excIn K C [.type "ValueError", .type "Exception", .type "BaseException", .type "object"] "ValueError.__new__" = true) (sub : PySem.W.subIn K (.ref C) (.type "BaseException") = some true)
    (ty : PySem.W.typeIn K (.ref C) = some (.type "type")) (own : PySem.W.subIn K (.ref C) (.ref C) = some true) (isC : PySem.W.isClsIn K C = true) : ExcAt K mg x C := ⟨PySem.W.mg_of X G a, kp, ex, sub, ty, own, isC⟩
end
theorem walkX {l : PySem.W.OpenLaw} {k : Nat} {q : Program} {loose : List Str} {XP : (Str → Option Value) → Heap → Prop} {YP : World → Heap → Prop} {d : DefRec} {K : Params → PySem.W.Frag} {sp : PySem.W.Frag → Sp} (hn : l.most = some 63) (hdf : d.params.defaults = []) (hr : Room k callerA)
    (hY : ∀ (w : World) (h : Heap), YP w h → (K w.params).In h)
    (F : ∀ (w : World) (mg : Str → Option Value) (fa : Addr) (h : Heap), (K w.params).In h → h.Ns mainGlobals mg → XP mg h → mg d.name = some (.ref fa) →
      ∃ fd : FuncData, (∀ (s : Shared) (u : Value), BindsTo s fd ⟨[u], []⟩ [("script", u)]) ∧ ∀ base : Heap, FnOk l.prog w (K w.params) mg base CX0 k fa fd ["script"] (sp (K w.params)))
    (hsp : ∀ (K : PySem.W.Frag) (H : Hp) (a : Addr) (ns : List Int), ns.length ≤ 63 → SqL K H a (ns.map V.int) → sp K [.ref a] H (fun v _ => v = .bl true) fun _ _ _ => False) :
    PySem.W.WalkO q loose XP YP l.row.toRowW d [] (fun f vs => PySem.call f vs) :=
  Att.attach_call hn hdf fun w _ s₁ mg _ fa _ _ _ _ a _ ns G Y _ _ _ hmg hobj hints hlen hg =>
    let ⟨_, hb, hF⟩ := F w mg fa _ (hY w _ Y) G.T.g G.X hmg
    law_call (CX := CX0) (hY w _ Y) G.T.g G.T.b G.T.builtins G.T.nolimit hg hobj hints (Nat.le_trans hlen (by decide)) hr (fun base _ _ => hF base) hb (fun H _ hS => hsp _ H a ns hlen hS) fun _ _ _ z => z
end KQ
set_option Elab.async false
set_option maxRecDepth 100000
set_option maxHeartbeats 4000000
/-! B5: enumerate of a tuple, walked. -/
namespace KQ
open PySem PySem.Spec PyProof.Rows L2
set_option maxHeartbeats 4000000 in
theorem enum_new {v : Value} {o : Obj} {Z : Heap → Prop} (B : Begins v o Z) :
    Meets (Builtin.«enumerate.__new__» ⟨[.type "enumerate", v], []⟩) (fun _ R s => Z s.heap ∧
      R (.ok (.ret (.ref (s.heap.push o).objs.size))) { s with heap := (s.heap.push o).push { cls := .type "enumerate", data := .fields #[.none, .bool false, .ref s.heap.objs.size, rawInt 0, .none, .none] } }) := by
  refine .of_wp fun prog w A R s h => ?_
  obtain ⟨hp, g, d, tk, os⟩ := s
  obtain ⟨h1, h⟩ := h
  have hsub := sub_enumerate
  have it : ∀ {A' : Around} {E Q : Value → Shared → Prop}, Q (.ref hp.objs.size) ⟨hp.push o, g, d, tk, os⟩ → wpAny (model prog w) A' (pyIter v) Q E ⟨hp, g, d, tk, os⟩ := fun q => B.iter prog w _ _ ⟨hp, g, d, tk, os⟩ _ h1 q
  wp_walk using it
  refine wpAny_stack_any fun st => wpAny_pure ?_
  split
  · rename_i c _ _ _ _ _
    cases (c == Value.type "enumerate") <;> (wp_walk using it) <;> exact ⟨_, rfl, h⟩
  · wp_walk using it
    exact ⟨_, rfl, h⟩
theorem enum_call {prog : Program} {w : World} {A : Around} {E : Value → Shared → Prop} {s : Shared} {v : Value} {o : Obj} {Z : Heap → Prop} {Q : Value → Shared → Prop} (B : Begins v o Z) (h1 : Z s.heap)
    (h : ∀ h', IsEnum h' (s.heap.objs.size + 1) s.heap.objs.size 0 .none → h'.get? s.heap.objs.size = some o → (∀ b o, s.heap.get? b = some o → h'.get? b = some o) → Q (.ref (s.heap.objs.size + 1)) { s with heap := h' }) :
    wpAny (model prog w) A (call (.type "enumerate") [v]) Q E s := by
  refine callType_new F.called_enumerate (by decide) (F.typeCall_enumerate_1 _) (F.newCall_enumerate_1 _) (fun obj => F.args_object_init_2 obj _) F.entry_enumerate_new (enum_new B) ⟨h1, ?_⟩
  have hz : (s.heap.push o).objs.size = s.heap.objs.size + 1 := Heap.size_push ..
  have he : IsEnum ((s.heap.push o).push { cls := .type "enumerate", data := .fields #[.none, .bool false, .ref s.heap.objs.size, rawInt 0, .none, .none] }) (s.heap.objs.size + 1) s.heap.objs.size 0 .none := by
    have q := Heap.get?_push_size (s.heap.push o) (o := { cls := .type "enumerate", data := .fields #[.none, .bool false, .ref s.heap.objs.size, rawInt 0, .none, .none] }) rfl
    rwa [hz] at q
  show _ ∧ _
  rw [hz]
  exact ⟨⟨_, he, rfl⟩, h _ he (Heap.get?_push_of_some _ (Heap.get?_push_size _ B.free)) fun b u x => Heap.get?_push_of_some _ (Heap.get?_push_of_some _ x)⟩
/-- the tuple at a, each item in a new pair with its number -/
def Iet (K : PySem.W.Frag) (a : Addr) : It :=
  ⟨fun i H => ∃ (xs : List V) (x : V), SqT K H a xs ∧ xs[i]? = some x, fun i H v H' => ∃ T x, v = .ref T ∧ H T = none ∧ H' = upd H T (.tup [.int (i : Nat), x]) ∧ ∀ xs, SqT K H a xs → xs[i]? = some x, fun i H => ∃ xs : List V, SqT K H a xs ∧ xs.length = i⟩
theorem turn_et {P : Program} {w : World} {K : PySem.W.Frag} {elts : List Expr} {kk : Nat} {tpos : Pos} (a e it : Addr) :
    Turn P w K (.Tuple elts kk tpos) (Iet K a) [e, it] e (fun i h => (∃ old, IsEnum h e it ((i : Nat) : Int) old) ∧ h.IsTupleIter it a i ∧ e ≠ it) := by
  refine ⟨by simp, fun i h st b hb => ?_, fun i h h' st k => ?_, ?_, ?_, fun A i s Q E st h => let ⟨⟨_, he⟩, _⟩ := st; wpAny_pyIter_enum he h⟩
  · obtain ⟨⟨old, he⟩, ⟨o, ho, hc, hd⟩, _⟩ := st
    have eb : b = e ∨ b = it := by simpa using hb
    rcases eb with z | z
    · rw [z]
      exact ⟨_, he, fun v q => nomatch q⟩
    · rw [z]
      exact ⟨o, ho, fun v q => by rw [hd] at q; cases q⟩
  · obtain ⟨⟨old, he⟩, hi, hne⟩ := st
    exact ⟨⟨old, k e (by simp) _ he⟩, hi.at fun o q => k it (by simp) o q, hne⟩
  · intro X hP hw hK hc i pins s σ H E I hf st hg
    subst hP hw hK
    obtain ⟨⟨old, he⟩, hit, hne⟩ := st
    obtain ⟨xs, x, hq, hx⟩ := hg
    obtain ⟨its, rv, p, hz⟩ := I.tuple hq
    obtain ⟨u, hu, ru⟩ := rv.get hx
    have hel : e < s.heap.objs.size := Heap.lt_size he
    have hil : it < s.heap.objs.size := by obtain ⟨_, q, _⟩ := hit; exact Heap.lt_size q
    have hai : a ≠ it := by
      rintro rfl
      obtain ⟨o1, q1, _, d1⟩ := hit
      obtain ⟨o2, q2, _, _, d2⟩ := p
      rw [q1] at q2
      cases q2
      rw [d1] at d2
      cases d2
    have hea : e ≠ a := by
      rintro rfl
      obtain ⟨o2, q2, _, _, d2⟩ := p
      have he' : s.heap.get? e = some _ := he
      rw [he'] at q2
      cases q2
      cases d2
    refine wpAny_pyNext_enum_itemD (Draws.tuple (A := X.A.in1) (I.ok.hd hc) it a hai its.toArray) he ⟨hit, p⟩ (by have := (List.getElem?_eq_some_iff.mp hu).1; simpa using this) hne (by simp [hne, hea]) fun y h' tk hy ho hst hT hsz hk => ?_
    have ey : y = u := by
      have hy' : its.toArray[i]? = some y := hy
      rw [List.getElem?_toArray, hu] at hy'
      exact (Option.some.inj hy').symm
    subst ey
    refine ⟨_, rfl, wpAny_letOwnedTupleGo_enum (s := { s with heap := h', toks := tk + 1 }) ho fun h'' he' sb => ?_⟩
    have hT2 : h''.get? s.heap.objs.size = some { cls := .type "tuple", data := .seq #[.int i tk, y] } := (sb.2 _ (Nat.ne_of_gt hel)).trans hT
    have new : ObjOk X.prog X.w (upd H s.heap.objs.size (.tup [.int (i : Nat), x])) h'' s.heap.objs.size (.tup [.int (i : Nat), x]) :=
      ⟨by show 2 ≤ sizeLine; decide, [.int i tk, y], .cons ⟨_, rfl⟩ (.cons ru .nil), ⟨_, hT2, rfl, _, rfl⟩⟩
    have I1 : Inv X pins σ (upd H s.heap.objs.size (.tup [.int (i : Nat), x])) { s with heap := h'', toks := tk + 1 } :=
      I.turnedNew (ch := [e, it]) (fun b ob hb q => (sb.2 b (fun z => hb (by simp [z]))).trans (hk b ob (fun z => hb (by simp [z])) (fun z => hb (by simp [z])) q)) hf (Nat.le_refl _) new
    refine ⟨.ref s.heap.objs.size, _, I1, rfl, ⟨_, x, rfl, I.hok.fresh (Nat.le_refl _), rfl, fun ys hy => by rw [I.tuple_inj hy hq]; exact hx⟩, ⟨⟨y, ?_⟩, hst.1.at fun o q => (sb.2 it (Ne.symm hne)).trans q, hne⟩, fun b hb => ?_⟩
    · rw [show ((i + 1 : Nat) : Int) = (i : Int) + 1 by omega]
      exact he'
    · have eb : b = e ∨ b = it := by simpa using hb
      have hb' : b < s.heap.objs.size := by rcases eb with z | z <;> rw [z] <;> assumption
      rw [upd_ne (Nat.ne_of_lt hb')]
      exact (hf b hb).1
  · intro X hP hw hK hc i pins s σ H E I hf st hg
    subst hP hw hK
    obtain ⟨⟨old, he⟩, hit, hne⟩ := st
    obtain ⟨xs, hq, hx⟩ := hg
    obtain ⟨its, rv, p, hz⟩ := I.tuple hq
    obtain ⟨f0, f1, f2, f3, f4, f5⟩ := hf it (by simp)
    have hl := rv.length
    have hai : a ≠ it := by
      rintro rfl
      obtain ⟨o1, q1, _, d1⟩ := hit
      obtain ⟨o2, q2, _, _, d2⟩ := p
      rw [q1] at q2
      cases q2
      rw [d1] at d2
      cases d2
    exact wpAny_pyNext_enum_endD (Draws.tuple (A := X.A.in1) (I.ok.hd hc) it a hai its.toArray) he ⟨by rw [show its.toArray.size = i by simp; omega]; exact hit, p⟩ fun h' eb => ⟨rfl, I.turned (t' := s.toks) (fun b o hb q => eb b o hb q) f0 f1 f3 f4 f5⟩
def iEt (K : PySem.W.Frag) (ta : TA) : TI := fun σ H R => ta σ H fun vs H1 => ∃ a xs, vs = [.ref a] ∧ SqT K H1 a xs ∧ R (Iet K a) H1
theorem pi_enumT {X : Cx} {e : Expr} {ta : TA} {p pos tpos : Pos} {elts : List Expr} {kk : Nat} (hg : Gl X "enumerate") (hm : X.mg "enumerate" = none) (ha : PA X [e] ta) (hs : starEach [e] X.env = [(false, eval e X.env)] := by rfl) :
    PI X (.Tuple elts kk tpos) (.Call (.Name "enumerate" p) [e] [] pos) (iEt X.K ta) := by
  constructor
  intro pins s σ H R I h
  refine Call_ (ld_blt I hg hm boot_enumerate (PyProof.Rows.callWith_type1 (thn (ha.run pos pins s σ H _ I h) ?_) hs rfl))
  rintro us s1 ⟨vs, H1, I1, r1, a, xs, rfl, hq, q⟩
  cases r1 with
  | cons r rr =>
    cases rr
    cases r
    obtain ⟨its, rv, p', hz⟩ := I1.tuple hq
    refine enum_call (begins_tuple a its.toArray) p' fun h' he hit hk => wpAny_pyIter_enum he ?_
    have I2 : Inv X pins σ H1 { s1 with heap := h' } := I1.kept (t' := s1.toks) hk
    refine ⟨s1.heap.objs.size + 1, [s1.heap.objs.size + 1, s1.heap.objs.size], _, _, H1, rfl, I2, turn_et a (s1.heap.objs.size + 1) s1.heap.objs.size, ⟨⟨.none, he⟩, ⟨_, hit, rfl, rfl⟩, Nat.succ_ne_self _⟩, fun b hb => ?_, q⟩
    have eb : b = s1.heap.objs.size + 1 ∨ b = s1.heap.objs.size := by simpa using hb
    have hle : s1.heap.objs.size ≤ b := by
      rcases eb with z | z <;> rw [z]
      · exact Nat.le_add_right _ _
      · exact Nat.le_refl _
    exact I1.fpOk hle (I1.hok.fresh hle)
theorem for_et {K : PySem.W.Frag} {a : Addr} {xs : List V} {g : TG} {tb : TS} {D : Ends} {σ : L2.St} {H : Hp} (Pv : Nat → L2.St → Hp → Prop) (h0 : Pv 0 σ H) (hq : ∀ i σ H, Pv i σ H → SqT K H a xs)
    (hs : ∀ (i : Nat) (x : V) (T : Addr) (σ : L2.St) (H : Hp), xs[i]? = some x → Pv i σ H → H T = none → g (.ref T) σ (upd H T (.tup [.int (i : Nat), x])) fun σ2 H2 => tb { D with nx := Pv (i + 1), ct := Pv (i + 1), bk := D.nx } σ2 H2) (hd : ∀ σ H, Pv xs.length σ H → D.nx σ H) :
    ∃ W : Nat → Nat → L2.St → Hp → Prop, (∃ m, W 0 m σ H) ∧ ∀ i m σ H, W i m σ H →
      ((Iet K a).stop i H ∧ D.nx σ H) ∨ ((Iet K a).go i H ∧ ∃ N : L2.St → Hp → Prop, (∀ σ' H', N σ' H' → ∃ m', m' < m ∧ W (i + 1) m' σ' H') ∧ ∀ x H', (Iet K a).yld i H x H' → g x σ H' fun σ2 H2 => tb { D with nx := N, ct := N, bk := D.nx } σ2 H2) := by
  refine ⟨fun i m σ H => m = xs.length - i ∧ i ≤ xs.length ∧ Pv i σ H, ⟨_, rfl, Nat.zero_le _, h0⟩, ?_⟩
  rintro i m σ H ⟨rfl, hi, pv⟩
  have q := hq i σ H pv
  rcases Nat.lt_or_eq_of_le hi with hlt | he
  · refine .inr ⟨⟨xs, xs[i], q, by simp [hlt]⟩, Pv (i + 1), fun σ' H' p' => ⟨_, by omega, rfl, hlt, p'⟩, ?_⟩
    rintro x H' ⟨T, y, rfl, nT, rfl, hy⟩
    have ey : xs[i]? = some y := hy xs q
    exact hs i y T σ H ey pv nT
  · subst he
    exact .inl ⟨⟨xs, q, rfl⟩, hd σ H pv⟩
end KQ
set_option Elab.async false
set_option maxRecDepth 100000
set_option maxHeartbeats 4000000
/-! B6: errors with a field; a class whose making may raise. -/
namespace KQ
open PySem PySem.Spec PyProof.Rows L2
/-- __init__ of an error with one field: it is stored -/
def spErrInit (C : Addr) (fld : Str) : Sp := fun vs H Q _ => ∃ (a : Addr) (v : V), vs = [.ref a, v] ∧ H a = some (exo a C none) ∧ ∀ dx, H dx = none → dx ≠ a → Q .non (upd (upd H dx (exd dx [(fld, v)])) a (exo a C (some dx)))
structure ErrAt (P : Program) (w : World) (K : PySem.W.Frag) (mg : Str → Option Value) (base : Heap) (x : Str) (C : Addr) (fld : Str) : Prop where
  g : mg x = some (.ref C)
  oex : OexC K C
  xf : XfC K C
  no : PySem.W.findIn K (.ref C) fld = some none
  exm : PySem.W.exmOne K (.ref C) (.ref C) = some true
  ini : ∃ f fd, PySem.W.findIn K (.ref C) "__init__" = some (some (.ref f)) ∧ PySem.W.typeIn K (.ref f) = some (.type "function") ∧ FnOk P w K mg base CX0 1 f fd ["self", fld] (spErrInit C fld) ∧ Binds K fd ["self", fld] []
/-- what is left to show of X(v), v already told -/
theorem mk_err {C : Addr} {fld : Str} {v : V} {H1 : Hp} {Q : XK} (h : ∀ d, H1 d = none → Q (.ref C) (some d) (upd H1 d (.xd [(fld, v)]))) :
    [v].length ≤ 1000 ∧ ∀ a, H1 a = none → spErrInit C fld (.ref a :: ([v] ++ [])) (upd H1 a (exo a C none)) (fun u H2 => u = .non ∧ ∃ (d : Addr) (fs : List (Str × V)), H2 a = some (exo a C (some d)) ∧ H2 d = some (exd d fs) ∧ H1 d = none ∧ Q (.ref C) (some d) (upd (del H2 a) d (.xd fs))) (fun _ _ _ => False) := by
  refine ⟨by show 1 ≤ 1000; decide, fun a ha => ⟨a, v, rfl, upd_same, fun dx hd ne => ⟨rfl, dx, [(fld, v)], upd_same, by rw [upd_ne ne]; exact upd_same, ?_, ?_⟩⟩⟩
  · rw [upd_ne ne] at hd
    exact hd
  · have hd1 : H1 dx = none := by
      rw [upd_ne ne] at hd
      exact hd
    have e : upd (del (upd (upd (upd H1 a (exo a C none)) dx (exd dx [(fld, v)])) a (exo a C (some dx))) a) dx (.xd [(fld, v)]) = upd H1 dx (.xd [(fld, v)]) := by
      funext b
      by_cases h1 : b = dx
      · rw [h1, upd_same, upd_same]
      · rw [upd_ne h1, upd_ne h1]
        by_cases h2 : b = a
        · rw [h2, del_same]
          exact ha.symm
        · rw [del_ne h2, upd_ne h2, upd_ne h1, upd_ne h2]
    rw [e]
    exact h dx hd1
section
variable {X : Cx} {x fld : Str} {C : Addr} {e : Expr} {ta : TA} {p pos pos2 : Pos}
/-- raise X(e) -/
theorem ps_rx {W : WX} (hc : X.calm = true) (tk : Takes X W) (T : ErrAt X.prog X.w X.K X.mg X.base x C fld) (hr : Room 2 X.A) (ha : PA X [e] ta) (hg : Gl X x) (hdb : (x == ("__debug__" : Str)) = false := by decide)
    (he : starEach (e :: []) X.env = (false, eval e X.env) :: starEach [] X.env := by rfl) (hpl : (backTo pos (starEach [] X.env)).any (·.1) = false := by rfl) :
    PS X (.Raise (some (.Call (.Name x p) [e] [] pos)) none pos2) (fun _ σ H => tMkO C (spErrInit C fld) [] ta σ H fun cls d H' => W cls d σ H') := by
  obtain ⟨f, fd, iC, tI, G, b⟩ := T.ini
  exact ps_raise hc tk (pmk_oex T.oex iC tI G hr b .nil pass0 hg T.g ha hdb he hpl)
/-- err.field in an except suite -/
theorem pe_ef {a : Addr} {oe : Obj} {cls : Value} {d : Option Addr} {pn : List (Addr × Obj)} {o : Expr} {te : TE} (T : ErrAt X.prog X.w X.K X.mg X.base x C fld) (hz : Zc cls d oe) (hf : ∃ vs, oe.data = .fields vs) (he : PE (X.suite a ((a, oe) :: pn)) o te)
    (hb : attributeBase o fld X.env (eval o X.env) = eval o X.env := by rfl) : PE (X.suite a ((a, oe) :: pn)) (.Attribute o fld pos) (tXf a cls d C fld te) := pe_xf T.xf T.no hz hf he hb
end
/-! ### C(e, ..) where __init__ may raise -/
section
variable {X : Cx} {k : Nat} {x : Str} {C : Addr} {ps : List Str} {sp : Sp} {e : Expr} {es : List Expr} {p pos : Pos} {t : TA}
def tMakeW (C : Addr) (sp : Sp) (W : WX) (t : TA) : TE := fun σ H Q => t σ H fun vs H1 => ∀ x dx, H1 x = none → H1 dx = none → dx ≠ x → sp (.ref x :: vs) (upd (upd H1 dx (.own x)) x (.ins C dx [])) (fun v H2 => v = .non ∧ Q (.ref x) H2) (WE W σ)
theorem pe_cX {W : WX} (tk : Takes X W) (D : HasCX X.prog X.w X.K X.mg X.base k x C ps sp) (hr : Room (k + 1) X.A) (hg : Gl X x) (ha : PA X (e :: es) t) (hdb : (x == ("__debug__" : Str)) = false := by decide)
    (he : starEach (e :: es) X.env = (false, eval e X.env) :: starEach es X.env := by rfl) (hpl : (backTo pos (starEach es X.env)).any (·.1) = false := by rfl) :
    PE X (.Call (.Name x p) (e :: es) [] pos) (tMakeW C sp W t) := by
  obtain ⟨f, fd, F, M, hm, hb⟩ := D
  constructor
  intro pins s0 σ H0 Q I0 h0
  refine wpAny_Call_Name_kw (ld_glob I0 hg hm (PySem.W.callWith_K (h₀ := X.base) I0.ok.mod.kin M.kp (thn (ha.run pos pins s0 σ H0 _ I0 h0) ?_) he hpl) hdb)
  rintro us s ⟨vs, H, I, r, h⟩
  refine ⟨I.kIn, ?_⟩
  have hq := h (s.heap.objs.size + 1) s.heap.objs.size (I.hok.fresh (Nat.le_succ _)) (I.hok.fresh (Nat.le_refl _)) (Nat.ne_of_lt (Nat.lt_succ_self _))
  have J := Inv.made (C := C) I
  have r2 : Vals (V.ref (s.heap.objs.size + 1) :: vs) (Value.ref (s.heap.objs.size + 1) :: us) := .cons rfl r
  have b := hb _ (Value.ref (s.heap.objs.size + 1) :: us) J.kIn (by
    rw [List.append_nil, ← r2.length]
    exact F.len _ _ _ _ hq)
  rw [List.append_nil] at b
  refine wpAny_call (make_map (f := f) I.kIn M.makes M.init (beq_iff_eq.mp M.fn) (codeAny_mono (F.run _ X.stack _ _ ⟨Value.ref (s.heap.objs.size + 1) :: us, []⟩ (Value.ref (s.heap.objs.size + 1) :: us) _ _ (WE W σ) (hr.make C us [])
    (J.env0.make C us []) b r2 hq) ?_))
  intro z s' hz
  match z, hz with
  | .error e, hz => exact passAt tk σ pins _ _ e s' J hz
  | .ok (.ret u), hz =>
    obtain ⟨v, H', I3, rv, rfl, q3⟩ := J.after hz
    exact ⟨rv, V.ref (s.heap.objs.size + 1), H', I3, rfl, q3⟩
  | .ok .next, hz => exact False.elim hz
  | .ok .brk, hz => exact False.elim hz
  | .ok .cont, hz => exact False.elim hz
/-- where it is known not to raise -/
theorem pe_cX0 (D : HasCX X.prog X.w X.K X.mg X.base k x C ps sp) (hr : Room (k + 1) X.A) (hg : Gl X x) (ha : PA X (e :: es) t) (hdb : (x == ("__debug__" : Str)) = false := by decide)
    (he : starEach (e :: es) X.env = (false, eval e X.env) :: starEach es X.env := by rfl) (hpl : (backTo pos (starEach es X.env)).any (·.1) = false := by rfl) :
    PE X (.Call (.Name x p) (e :: es) [] pos) (tMake C sp [] E0 t) := by
  obtain ⟨f, fd, F, M, hm, hb⟩ := D
  exact pe_make M F hr hg hm hb .nil passL ha hdb he hpl
theorem pe_hX0 (D : HasX X.prog X.w X.K X.mg X.base k x ps sp) (hr : Room k X.A) (hg : Gl X x) (ha : PA X (e :: es) t) (hdb : (x == ("__debug__" : Str)) = false := by decide)
    (he : starEach (e :: es) X.env = (false, eval e X.env) :: starEach es X.env := by rfl) (hpl : (backTo pos (starEach es X.env)).any (·.1) = false := by rfl) :
    PE X (.Call (.Name x p) (e :: es) [] pos) (tCall sp [] E0 t) := by
  obtain ⟨f, fd, G, m, kp, b⟩ := D
  exact pe_call G hr hg m kp b .nil passL ha hdb he hpl
end
end KQ
set_option Elab.async false
set_option maxRecDepth 100000
set_option maxHeartbeats 4000000
/-! B7: a == b by a's own __eq__, whatever it answers. -/
namespace KQ
open PySem PySem.Spec PyProof.Rows L2
/-- x == y, x of the class at C with the text's own ==, y another of it or a tuple -/
def rOwn (K : PySem.W.Frag) (C : Addr) (sp : Sp) : R2 := fun x y H Q => ∃ a dx fs b, x = .ref a ∧ y = .ref b ∧ H a = some (.ins C dx fs) ∧
  ((∃ dy gs, H b = some (.ins C dy gs)) ∨ ((∃ xs, SqT K H b xs) ∧ PySem.W.notFirst K C (.type "tuple") = true)) ∧ sp [.ref a, .ref b] H (fun v H' => ∃ c, v = .bl c ∧ Q v H') (fun _ _ _ => False)
theorem op_own {X : Cx} {n : Nat} {C : Addr} {sp : Sp} {ps : List Str} (D : HasM X.prog X.w X.K X.mg X.base n C "__eq__" ps sp) (hr : Room n X.A) : OpR X (compareOp .Eq) (rOwn X.K C sp) := by
  obtain ⟨f, fd, F, M, hb⟩ := D
  intro pins s σ H x y v u Q I rx ry h
  obtain ⟨a, dx, fs, b, rfl, rfl, ha, hy, hsp⟩ := h
  cases rx
  cases ry
  obtain ⟨mA, J, _⟩ := ins_get I.hok ha
  obtain ⟨od, J, _⟩ := J.look
  obtain ⟨m, hF⟩ := I.fr
  have hlook : ∃ tb, PySem.W.Looks (model X.prog X.w) s.heap (typeOf (.ref b)) tb ∧ PySem.W.notFirst X.K C tb = true := by
    rcases hy with ⟨dy, gs, hb'⟩ | ⟨⟨xs, hq⟩, nf⟩
    · obtain ⟨mB, J', _⟩ := ins_get I.hok hb'
      obtain ⟨od', J', _⟩ := J'.look
      exact ⟨.ref C, J'.type, by simp [PySem.W.notFirst]⟩
    · obtain ⟨its, r, ⟨o, ho, hc, n, hd⟩, hz⟩ := I.tuple hq
      refine ⟨.type "tuple", ?_, nf⟩
      exact hc ▸ (PySem.W.Looks.ld ho).andThen .now
  obtain ⟨tb, hl, nf⟩ := hlook
  show wpAny (model X.prog X.w) X.A (richCompare .Eq (.ref a) (.ref b)) (EP X pins σ Q) X.xe s
  refine PySem.W.cmp_K (op := .Eq) (tb := tb) hr.units0 hF I.ok.mod.kin J hl nf M.at_ M.fn ?_
  have e0 : Env0 X.prog X.w X.K X.mg X.base X.A X.stack s H := I.env0
  have hl := F.len _ _ _ _ hsp
  have r2 : Vals [V.ref a, V.ref b] [Value.ref a, Value.ref b] := .cons rfl (.cons rfl .nil)
  refine wpAny_call (codeAny_mono (F.run X.A X.stack s H ⟨[.ref a, .ref b], []⟩ [.ref a, .ref b] [.ref a, .ref b] _ _ hr e0 (by
    have := hb s [.ref a, .ref b] I.kIn (by simpa using hl)
    simpa using this) r2 hsp) fun r s' hq => ?_)
  cases r with
  | error e => exact hq.elim
  | ok fl =>
    cases fl with
    | ret w =>
      obtain ⟨z, H', I', rz, c, ez, q⟩ := I.after hq
      subst ez
      cases rz
      exact ⟨.bl c, H', I', rfl, q⟩
    | next => exact False.elim hq
    | brk => exact False.elim hq
    | cont => exact False.elim hq
end KQ
set_option Elab.async false
set_option maxRecDepth 100000
set_option maxHeartbeats 4000000
/-! B8: tuple * int, once and not at all too. -/
namespace KQ
open PySem PySem.Spec PyProof.Rows L2
theorem mul_one (l : Addr) (items : Array Value) (n : Nat) (dd : Option Addr) (sl : Array (Option Value)) (x : Int) (u : Tok) (c0 : (decide (x < -(2 ^ 63)) || decide (x ≥ 2 ^ 63)) = false) (c1 : (items.isEmpty || x == 1) = true) :
    Meets (Builtin.«tuple.__mul__» ⟨[.ref l, .int x u], []⟩) (fun _ R s => s.heap.get? l = some { cls := .type "tuple", dict := dd, data := .seq items n, slots := sl } ∧ R (.ok (.ret (Value.ref l))) { s with heap := s.heap, toks := s.toks }) :=
  .of_wp fun prog w A R s h => by
    obtain ⟨hp, g, d, tk, os⟩ := s
    obtain ⟨hl, h⟩ := h
    have f1 := AutoSeq1.idx_int
    wp_walk using wpAny_loadPart' hl
    repeat (first
      | (refine wpAny_ite_false (decide_eq_false (by rw [c0]; exact Bool.false_ne_true)) ?_; wp_walk using wpAny_loadPart' hl)
      | (refine wpAny_ite_true (decide_eq_true c1) ?_; wp_walk using wpAny_loadPart' hl))
    exact ⟨_, rfl, h⟩
theorem mul_none (l : Addr) (items : Array Value) (n : Nat) (dd : Option Addr) (sl : Array (Option Value)) (x : Int) (u : Tok) (c0 : (decide (x < -(2 ^ 63)) || decide (x ≥ 2 ^ 63)) = false) (c1 : (items.isEmpty || x == 1) = false) (c2 : (decide (x ≤ 0) || items.isEmpty) = true) :
    Meets (Builtin.«tuple.__mul__» ⟨[.ref l, .int x u], []⟩) (fun _ R s => s.heap.get? l = some { cls := .type "tuple", dict := dd, data := .seq items n, slots := sl } ∧
      R (.ok (.ret (Value.ref s.heap.objs.size))) { s with heap := s.heap.push { cls := Value.type "tuple", data := Data.seq #[] }, toks := s.toks }) :=
  .of_wp fun prog w A R s h => by
    obtain ⟨hp, g, d, tk, os⟩ := s
    obtain ⟨hl, h⟩ := h
    have f1 := AutoSeq1.idx_int
    wp_walk using wpAny_loadPart' hl
    repeat (first
      | (refine wpAny_ite_false (decide_eq_false (by rw [c0]; exact Bool.false_ne_true)) ?_; wp_walk using wpAny_loadPart' hl)
      | (refine wpAny_ite_false (decide_eq_false (by rw [c1]; exact Bool.false_ne_true)) ?_; wp_walk using wpAny_loadPart' hl)
      | (refine wpAny_ite_true (decide_eq_true c2) ?_; wp_walk using wpAny_loadPart' hl))
    exact ⟨_, rfl, h⟩
def rRepA (K : PySem.W.Frag) : R2 := fun x y H Q => ∃ l k xs, x = .ref l ∧ y = .int k ∧ SqT K H l xs ∧ xs ≠ [] ∧ 0 ≤ k ∧ k ≤ 1000 ∧ xs.length ≤ 1000 ∧ (k = 1 → Q (.ref l) H) ∧ (k ≠ 1 → ∀ p, H p = none → Q (.ref p) (upd H p (.tup (List.replicate k.toNat xs).flatten)))
theorem op_repA {X : Cx} : OpR X (binaryOp .Mult) (rRepA X.K) := by
  intro pins s σ H x y v u Q I rx ry h
  obtain ⟨l, k, xs, rfl, rfl, hT, hne, h1, h2, hz, q1, q2⟩ := h
  by_cases h3 : 2 ≤ k
  · exact op_repT pins s σ H _ _ v u Q I rx ry ⟨l, k, xs, rfl, rfl, hT, hne, h3, h2, hz, q2 (by omega)⟩
  cases rx
  obtain ⟨t, rfl⟩ := ry
  obtain ⟨its, r, ⟨⟨cls, dd, data, sl⟩, ho, hc, n, hd⟩, hs⟩ := I.tuple hT
  simp only at hc hd
  subst hc hd
  have hle : its.length = xs.length := r.length.symm
  have hi : its.toArray.isEmpty = false := by
    cases its with
    | nil => exact absurd (List.eq_nil_of_length_eq_zero hle.symm) hne
    | cons a b => rfl
  have c0 : (decide (k < -(2 ^ 63)) || decide (k ≥ 2 ^ 63)) = false := by
    rw [decide_eq_false (by omega), decide_eq_false (by omega)] <;> rfl
  by_cases k1 : k = 1
  · exact wpAny_binaryOp_repeat_ref (T := "tuple") (U := "int") (by decide) ⟨_, ho, rfl⟩ (fun s' => typeIs_int s' k t) noFill_tuple_mul F.fills_int_mul F.slot_int_rmul repeat_tuple F.slot_int_index.lookup
      (call_meets F.slot_int_rmul (typeIs_int s k t) F.entry_int_rmul (F.args_int_rmul_2 _ _) (int_rmul_tuple k t l its.toArray n dd sl)
        ⟨ho, rfl, ⟨_, ho, rfl⟩, call_meets F.slot_tuple_mul ⟨_, ho, rfl⟩ F.entry_tuple_mul (F.args_tuple_mul_2 _ _) (mul_one l its.toArray n dd sl k t c0 (by rw [hi, Bool.false_or]; exact beq_iff_eq.mpr k1)) ⟨ho, ⟨.ref l, H, I, rfl, q1 k1⟩⟩⟩)
  · have k0 : k = 0 := by omega
    subst k0
    refine wpAny_binaryOp_repeat_ref (T := "tuple") (U := "int") (by decide) ⟨_, ho, rfl⟩ (fun s' => typeIs_int s' 0 t) noFill_tuple_mul F.fills_int_mul F.slot_int_rmul repeat_tuple F.slot_int_index.lookup
      (call_meets F.slot_int_rmul (typeIs_int s 0 t) F.entry_int_rmul (F.args_int_rmul_2 _ _) (int_rmul_tuple 0 t l its.toArray n dd sl)
        ⟨ho, rfl, ⟨_, ho, rfl⟩, call_meets F.slot_tuple_mul ⟨_, ho, rfl⟩ F.entry_tuple_mul (F.args_tuple_mul_2 _ _) (mul_none l its.toArray n dd sl 0 t c0 (by rw [hi]; rfl) (by rfl)) ⟨ho, ?_⟩⟩)
    refine ⟨.ref s.heap.objs.size, _, I.laid (t' := s.toks) (o := .tup []) (fun b ob q => Heap.get?_push_of_some _ q) (Nat.le_refl _) ?_, rfl, q2 k1 _ (I.hok.fresh (Nat.le_refl _))⟩
    exact ⟨Nat.zero_le _, _, .nil, IsTup.new _ _⟩
end KQ
set_option Elab.async false
set_option maxRecDepth 100000
set_option maxHeartbeats 4000000
/-! B9: max(a list of numbers, default=0). -/
namespace KQ
open PySem
section
variable {prog : Program} {w : World} {A : Around} {R : Result → Shared → Prop} {I S : Addr} {fp wr : List Addr} {n : Nat} {P : Nat → Value → Prop} {St : Nat → Heap → Prop} {d : Value}
abbrev dkw (d : Value) : List (Str × Value) := [(Str.ofString "default", d)]
abbrev bestAt (c : Nat) (items : Array Value) : Obj := { cls := .type "list", dict := none, data := .seq items c, slots := #[] }
theorem mxd_loop (W : Walks prog w A.in1 I fp wr n P St) (bt : Nat → Nat → Bool) (hc : CmpOf prog w A.in1 .Gt P bt) (hf : S ∉ fp) : ∀ (k j : Nat) (s : Shared) (items : Array Value) (c : Nat), n - j = k → j ≤ n → St j s.heap →
    ((j = 0 ∧ items = #[]) ∨ ∃ vb, 0 < j ∧ items = #[vb, vb] ∧ P (argBest bt (j - 1)) vb) → s.heap.get? S = some (bestAt c items) →
    (∀ v h' tk, ((n = 0 ∧ v = d) ∨ (0 < n ∧ P (argBest bt (n - 1)) v)) → (∀ b o, b ∉ wr → b ≠ S → s.heap.get? b = some o → h'.get? b = some o) → R (.ok (.ret v)) { s with heap := h', toks := tk }) →
    codeAny (model prog w) A (.builtin "max.loop" ⟨[.ref I, .none, .ref S], dkw d⟩) R s := by
  have hw : S ∉ wr := fun h => hf (W.sub _ h)
  have hn : (toString "max" ++ toString ".loop" : String) = "max.loop" := by decide
  intro k
  induction k with
  | zero =>
    intro j s items c hk hj st hb hS hR
    have e : j = n := by omega
    refine codeAny_builtin F.entry_max_loop ?_; rw [Around.under_plainId F.plain_max_loop _]
    show wpAny _ A.in1 (seqItems? (.ref S) >>= _) _ _ s; refine wpAny_bind (wpAny_seqItems hS rfl ?_)
    show wpAny _ A.in1 (tryCatch (pyNext (.ref I)) _ >>= _) _ _ s; refine wpAny_bind (wpAny_tryCatch (W.done s _ _ (e ▸ st) fun h' tk k' => ?_))
    have hS' := k' S _ hw hS
    rcases hb with ⟨j0, rfl⟩ | ⟨vb, j0, rfl, pb⟩
    · show wpAny _ A.in1 (rule _ >>= _) _ _ _
      refine wpAny_bind (wpAny_rule (wpAny_pure (hR d _ tk (.inl ⟨by omega, rfl⟩) fun b o h1 _ q => k' b o h1 q)))
    · show wpAny _ A.in1 (updateSeq S (fun _ => #[]) >>= _) _ _ _; refine wpAny_bind ?_
      refine wpAny_updateSeq hS' rfl (wpAny_bind (wpAny_letGo (wpAny_pure (hR vb _ tk (.inr ⟨by omega, by rw [← e]; exact pb⟩) fun b o h1 h2 q => ?_))))
      exact (Heap.get?_update_other _ _ (Ne.symm h2)).trans (k' b o h1 q)
  | succ k ih =>
    intro j s items c hk hj st hb hS hR
    have hlt : j < n := by omega
    refine codeAny_builtin F.entry_max_loop ?_; rw [Around.under_plainId F.plain_max_loop _]
    show wpAny _ A.in1 (seqItems? (.ref S) >>= _) _ _ s; refine wpAny_bind (wpAny_seqItems hS rfl ?_)
    show wpAny _ A.in1 (tryCatch (pyNext (.ref I)) _ >>= _) _ _ s; refine wpAny_bind (wpAny_tryCatch (W.item j s _ _ hlt st fun v h' tk hP st' k' => ?_))
    have hS' := k' S _ hw hS
    rcases hb with ⟨j0, rfl⟩ | ⟨vb, j0, rfl, pb⟩
    · subst j0
      show wpAny _ A.in1 (updateSeq S (fun _ => #[v, v]) >>= _) _ _ _; refine wpAny_bind (wpAny_updateSeq hS' rfl ?_); rw [hn]
      refine wpAny_pure ⟨plainId_quiet F.plain_max_loop _, ih 1 _ #[v, v] _ (by omega) hlt (W.frame _ _ _ st' fun b hb o q => (Heap.get?_update_other _ _ (fun z : S = b => hf (by rw [z]; exact hb))).trans q) (.inr ⟨v, Nat.one_pos, rfl, hP⟩) (Heap.get?_update_self _ hS' rfl) fun v' h2 tk2 q2 k2 => ?_⟩
      exact hR v' h2 tk2 q2 fun b o h1 h2 q => k2 b o h1 h2 ((Heap.get?_update_other _ _ (Ne.symm h2)).trans (k' b o h1 q))
    · show wpAny _ A.in1 (tryCatch (holding [v, v] (richCompare .Gt v vb >>= _)) _ >>= _) _ _ _; refine wpAny_bind (wpAny_tryCatch (wpAny_holding (wpAny_bind (hc j (argBest bt (j - 1)) v vb _ _ _ hP pb ?_))))
      refine wpAny_bind (wpAny_holding (wpAny_truthy_bool (wpAny_bind (wpAny_letGo (wpAny_pure ?_)))))
      have ej : argBest bt (j + 1 - 1) = if bt j (argBest bt (j - 1)) then j else argBest bt (j - 1) := by
        obtain ⟨i, rfl⟩ : ∃ i, j = i + 1 := ⟨j - 1, by omega⟩
        rfl
      cases hb : bt j (argBest bt (j - 1)) with
      | true =>
        simp only [if_true]
        refine wpAny_bind (wpAny_updateSeq hS' rfl (wpAny_bind (wpAny_letGo ?_))); rw [hn]
        refine wpAny_pure ⟨plainId_quiet F.plain_max_loop _, ih (j + 1) _ #[v, v] _ (by omega) hlt (W.frame _ _ _ st' fun b hb o q => (Heap.get?_update_other _ _ (fun z : S = b => hf (by rw [z]; exact hb))).trans q) (.inr ⟨v, Nat.succ_pos _, rfl, by rw [ej, hb, if_pos rfl]; exact hP⟩) (Heap.get?_update_self _ hS' rfl) fun v' h2 tk2 q2 k2 => ?_⟩
        exact hR v' h2 tk2 q2 fun b o h1 h2 q => k2 b o h1 h2 ((Heap.get?_update_other _ _ (Ne.symm h2)).trans (k' b o h1 q))
      | false =>
        simp only [Bool.false_eq_true, if_false]
        refine wpAny_bind (wpAny_letGo ?_); rw [hn]
        refine wpAny_pure ⟨plainId_quiet F.plain_max_loop _, ih (j + 1) _ #[vb, vb] c (by omega) hlt st' (.inr ⟨vb, Nat.succ_pos _, rfl, by rw [ej, hb, if_neg Bool.false_ne_true]; exact pb⟩) hS' fun v' h2 tk2 q2 k2 => ?_⟩
        exact hR v' h2 tk2 q2 fun b o h1 h2 q => k2 b o h1 h2 (k' b o h1 q)
end
section
variable {prog : Program} {w : World} {A : Around} {E : Value → Shared → Prop} {s : Shared} {d : Value} {Q : Value → Shared → Prop}
theorem maxd_walk {x : Value} (h : wpAny (model prog w) A.in1 (pyIter x) (fun it s₂ => ∃ I fp wr n P St bt, it = .ref I ∧ Walks prog w A.in1 I fp wr n P St ∧ St 0 s₂.heap ∧ (∀ b ∈ fp, b < s₂.heap.objs.size) ∧ CmpOf prog w A.in1 .Gt P bt ∧
    ∀ v h' tk, ((n = 0 ∧ v = d) ∨ (0 < n ∧ P (argBest bt (n - 1)) v)) → (∀ b o, b ∉ wr → s₂.heap.get? b = some o → h'.get? b = some o) → Q v { s₂ with heap := h', toks := tk }) E s) (ha : argsOk "max" ⟨[x], dkw d⟩) :
    wpAny (model prog w) A (call (.builtin "max") [x] (dkw d)) Q E s := by
  have hn : (toString "max" ++ toString ".loop" : String) = "max.loop" := by decide
  refine PyProof.Rows.kmk_tree F.kind_max F.plain_max F.entry_max ha ?_
  show wpAny _ A.in1 (Builtin.Builtins.bindParams "max" ["key", "default"] 0 ⟨[], dkw d⟩ >>= _) _ _ s; refine wpAny_bind (wpAny_of_eq (show Builtin.Builtins.bindParams "max" ["key", "default"] 0 ⟨[], dkw d⟩ = pure [none, some d] from rfl) ?_)
  refine wpAny_bind (wpAny_pure (wpAny_bind (wpAny_mono h (fun it s₂ h₂ => ?_) fun _ _ e => e)))
  obtain ⟨I, fp, wr, n, P, St, bt, rfl, W, st, hfp, hc, hQ⟩ := h₂
  refine wpAny_bind (wpAny_newObj_type ?_); rw [hn]
  have hf : s₂.heap.objs.size ∉ fp := fun hm => Nat.lt_irrefl _ (hfp _ hm)
  refine wpAny_pure ⟨plainId_quiet F.plain_max_loop _, mxd_loop W bt hc hf _ 0 _ #[] _ rfl (Nat.zero_le _) (W.frame _ _ _ st fun b _ o e => Heap.get?_push_of_some _ e) (.inl ⟨rfl, rfl⟩) (Heap.get?_push_size _ rfl) fun v h' tk hP hk => ?_⟩
  exact hQ v h' tk hP fun b o hb e => hk b o hb (Nat.ne_of_lt (Heap.lt_size e)) (Heap.get?_push_of_some _ e)
end
open PySem.Spec PyProof.Rows L2
theorem args_maxd (a v : Value) : argsOk "max" ⟨[a], dkw v⟩ := by
  unfold argsOk
  kernel_rfl
def rMaxD0 (K : PySem.W.Frag) : List V → List V → Hp → VK → Prop := fun xs zs H Q => ∃ (a : Addr) (ns : List Int) (d : Int), xs = [.ref a] ∧ zs = [.int d] ∧ SqL K H a (ns.map V.int) ∧ (ns = [] → Q (.int d) H) ∧ ∀ m ∈ ns, (∀ y ∈ ns, y ≤ m) → Q (.int m) H
theorem cr_maxD0 {X : Cx} (hc : X.calm = true) : CallRK X (.builtin "max") [Str.ofString "default"] (rMaxD0 X.K) := by
  intro pins s σ H vs zs us ws Q I r1 r2 h
  obtain ⟨a, ns, d, rfl, rfl, hs, q0, q1⟩ := h
  obtain ⟨its, rv, hl, _⟩ := I.list hs
  rw [Vals.ref1 r1]
  cases r2 with
  | cons rd r2 =>
  cases r2
  obtain ⟨t, rfl⟩ := rd
  have hi := rv.ints
  obtain ⟨ys, e⟩ := hi.allInts.items
  have hn : numsOf (intItems ys).toList = ns := by rw [← e]; exact hi.numsOf
  rw [nums_intItems] at hn
  subst hn
  have hl' : s.heap.IsList a (intItems ys) := by rw [← e]; exact hl.isList
  show wpAny _ _ (call (.builtin "max") [.ref a] (dkw (.int d t))) _ _ _
  refine maxd_walk (iter_intList hl' fun s₂ e2 st hfp hlI => ?_) (args_maxd _ _)
  subst e2
  refine ⟨_, _, _, _, _, _, _, rfl, Walks.list (A := X.A.in1) (I.ok.hd hc) _ a hlI (intItems ys), st, hfp, CmpOf.ints_gt (numAt ys) (fun _ _ => intItems_at), fun v h' tk hP hk => ?_⟩
  have I' : Inv X pins σ H { s with heap := h', toks := tk } := I.kept (old_kept hk)
  have hsz : (intItems ys).size = ys.size := by simp [intItems]
  rw [hsz] at hP
  rcases hP with ⟨n0, rfl⟩ | ⟨n1, hP⟩
  · exact ⟨.int d, H, I', ⟨t, rfl⟩, q0 (List.eq_nil_of_length_eq_zero (by rw [List.length_map, Array.length_toList]; exact n0))⟩
  · obtain ⟨u, rfl⟩ := intItems_at hP
    obtain ⟨h1, h2⟩ := argBest_gt (numAt ys) (ys.size - 1)
    refine ⟨.int _, H, I', ⟨u, rfl⟩, q1 _ ?_ fun y hy => ?_⟩
    · rw [numAt_eq]; exact PySem.getD_mem (by rw [List.length_map, Array.length_toList]; omega)
    · obtain ⟨j, hj, rfl⟩ := mem_getD hy; rw [List.length_map, Array.length_toList] at hj; rw [← numAt_eq]; exact h2 j (by omega)
/-- a list's item, by values -/
theorem get_list {X : Cx} : PGet X fun x y H Q => 0 ≤ (match y with | .int i => i | _ => 0) ∧ rIxL X.K x y H Q := by
  intro pins s σ H o i ov iv Q I r1 r2 h
  obtain ⟨h0, p, xs, k, z, rfl, rfl, hq, he, q⟩ := h
  cases r1
  obtain ⟨t, rfl⟩ := r2
  obtain ⟨its, r, pl, hz⟩ := I.list hq
  obtain ⟨j, e1, e2, e3, e4, e5⟩ := atI_get he
  obtain ⟨u, eu, ru⟩ := r.get e2
  have hj : k.toNat = j := by
    rw [seqIndex_of h0 e5] at e1
    exact Option.some.inj e1
  have hl := r.length
  have hn := line63
  exact wpAny_getItem_list pl.isList h0 (by omega) (by rw [hj]; simpa using eu) ⟨z, H, I, ru, q⟩
/-- sum of a tuple of numbers -/
def rSumT (K : PySem.W.Frag) : List V → Hp → VK → Prop := fun vs H Q => ∃ (a : Addr) (ns : List Int), vs = [V.ref a] ∧ SqT K H a (ns.map V.int) ∧ Q (.int ns.sum) H
theorem cr_sumT {X : Cx} (hc : X.calm = true) : CallR X (.builtin "sum") (rSumT X.K) := by
  intro pins s σ H vs us Q I r h
  obtain ⟨a, ns, rfl, hs, q⟩ := h
  obtain ⟨its, rv, ht, _⟩ := I.tuple hs
  rw [Vals.ref1 r]
  have hi := rv.ints
  obtain ⟨ys, e⟩ := hi.allInts.items
  have hn : numsOf (intItems ys).toList = ns := by rw [← e]; exact hi.numsOf
  rw [nums_intItems] at hn
  have ht' : s.heap.IsTuple a (intItems ys) := by rw [← e]; exact ht
  have hlt : a < s.heap.objs.size := by obtain ⟨_, g, _⟩ := ht'; exact Heap.lt_size g
  refine call_sum_walkG (wpAny_pyIter_tuple ht' ?_)
  refine ⟨s.heap.objs.size, _, _, _, _, _, numAt ys, rfl, Walks.tuple (A := X.A.in1) (I.ok.hd hc) _ a (Nat.ne_of_lt hlt) (intItems ys), ⟨⟨_, Heap.get?_push_size _ rfl, rfl, rfl⟩, ?_⟩, fun b hb => ?_, (fun _ _ => intItems_at), fun h' tk t' hk => ?_⟩
  · obtain ⟨o, g, k1, k2⟩ := ht'
    exact ⟨o, Heap.get?_push_of_some _ g, k1, k2⟩
  · show b < (s.heap.push _).objs.size
    rw [Heap.size_push]
    have hb' : b = s.heap.objs.size ∨ b = a := by simpa using hb
    rcases hb' with z | z
    · rw [z]; exact Nat.lt_succ_self _
    · rw [z]; exact Nat.lt_succ_of_lt hlt
  · have kk : ∀ b o, s.heap.get? b = some o → h'.get? b = some o := fun b o g => hk b o (fun hm => by
      have : b = s.heap.objs.size := by simpa using hm
      rw [this] at g
      exact absurd (Heap.lt_size g) (Nat.lt_irrefl _)) (Heap.get?_push_of_some _ g)
    have I' : Inv X pins σ H { s with heap := h', toks := tk } := I.kept kk
    refine ⟨.int ns.sum, H, I', ⟨t', ?_⟩, q⟩
    have hsz : (intItems ys).size = ys.size := by simp [intItems]
    rw [hsz, preSum_eq, List.take_of_length_le (by simp), hn]
end KQ
set_option Elab.async false
set_option maxRecDepth 100000
set_option maxHeartbeats 4000000
/-! B10: a list grown by a tuple's items. -/
namespace KQ
open PySem PySem.Spec PyProof.Rows L2
theorem ext_tup (l b : Addr) (mine its : Array Value) (n n2 : Nat) (dd : Option Addr) (sl : Array (Option Value)) (c0 : ¬(!mine.isEmpty && Builtin.List.listTooLong (mine.size + its.size)) = true) (c1 : mine.size ≤ sizeLine) (c2 : (mine ++ its).size ≤ sizeLine + 1) :
    Meets (Builtin.«list.extend» ⟨[.ref l, .ref b], []⟩)
      (fun _ R s => s.heap.get? l = some { cls := .type "list", dict := none, data := .seq mine n, slots := #[] } ∧ s.heap.get? b = some { cls := .type "tuple", dict := dd, data := .seq its n2, slots := sl } ∧
        R (.ok (.ret Value.none)) { s with heap := s.heap.update l (Obj.mapSeq fun x => x ++ its), toks := s.toks }) := by
  refine .of_wp fun prog w A R s h => ?_
  obtain ⟨hp, g, d, tk, os⟩ := s
  obtain ⟨hl, hb, h⟩ := h
  have z1 := AutoSeq1.idx_int
  have z2 := AutoSeq1.sub_tuple_tuple
  have z3 := AutoSeq1.sub_list_list
  have z4 := AutoSeq1.sub_tuple_list
  have z5 := AutoSeq1.sub_list_tuple
  wp_walk using (wpAny_updateSeq hl rfl (hz := c1) (_hz' := c2)), wpAny_loadPart' hl, wpAny_loadPart' hb
  exact ⟨_, rfl, h⟩
section
variable {X : Cx}
def rExtendT (K : PySem.W.Frag) : V → List V → Hp → VK → Prop := fun x vs H Q => ∃ l b xs zs, x = .ref l ∧ vs = [.ref b] ∧ H l = some (.lst xs) ∧ SqT K H b zs ∧ xs.length + zs.length ≤ sizeLine ∧ Q .non (upd H l (.lst (xs ++ zs)))
theorem mt_extendT : MtM X "list.extend" (rExtendT X.K) := by
  intro pins s σ H x vs v us Q I rx rv h
  obtain ⟨l, b, xs, zs, rfl, rfl, hH, hB, hz, q⟩ := h
  cases rx
  obtain ⟨u, rfl, ru⟩ := rv.one
  cases ru
  obtain ⟨z, its, n, r, hl, e⟩ := I.lstM hH
  obtain ⟨its2, r2, ⟨⟨cls, dd, data, sl⟩, e2, hc, n2, hd⟩, hl2⟩ := I.tuple hB
  simp only at hc hd
  subst hc hd
  have l2 := r2.length
  have hsz : its.toArray.size + its2.toArray.size ≤ sizeLine := by rw [List.size_toArray, List.size_toArray]; omega
  have hlong : ¬ (!its.toArray.isEmpty && Builtin.List.listTooLong (its.toArray.size + its2.toArray.size)) = true := by
    rw [notLongL hsz, Bool.and_false]
    exact Bool.false_ne_true
  refine call_meets F.slot_list_extend ⟨_, e, rfl⟩ F.entry_list_extend (F.args_list_extend_2 _ _)
    (ext_tup l b its.toArray its2.toArray n n2 dd sl hlong (by rw [List.size_toArray]; omega) (by rw [Array.size_append]; omega)) ⟨e, e2, ?_⟩
  refine ⟨.non, _, I.lset (its' := its ++ its2) hH e (by simp) (r.append r2) ?_, rfl, q⟩
  rw [List.length_append]
  omega
end
end KQ
set_option Elab.async false
set_option maxRecDepth 100000
set_option maxHeartbeats 4000000
/-! B11: things by their types alone; max of a tuple. -/
namespace KQ
open PySem PySem.Spec PyProof.Rows L2
def rInt1 : List V → Hp → VK → Prop := fun xs H Q => (∃ i, xs = [.int i] ∧ Q (.int i) H) ∨ ∃ k, xs = [.bl k] ∧ Q (.int (if k then 1 else 0)) H
/-- a thing and the name of its type -/
inductive Dt (H : Hp) : V → String → Prop
  | non : Dt H .non "NoneType"
  | bl (b : Bool) : Dt H (.bl b) "bool"
  | int (i : Int) : Dt H (.int i) "int"
  | str (x : Str) : Dt H (.str x) "str"
  | lst {a : Addr} {xs : List V} (e : H a = some (.lst xs)) : Dt H (.ref a) "list"
  | tup {a : Addr} {xs : List V} (e : H a = some (.tup xs)) : Dt H (.ref a) "tuple"
  | dK {a : Addr} {kvs : List (Key × V)} (e : H a = some (.dK kvs)) : Dt H (.ref a) "dict"
theorem Dt.ty {K : PySem.W.Frag} {H : Hp} {v : V} {t : String} (d : Dt H v t) : TyX K H v (.type t) := by
  cases d with
  | non => exact .base .non
  | bl b => exact .base (.bl b)
  | int i => exact .base (.int i)
  | str x => exact .base (.str x)
  | lst e => exact .base (.lst e)
  | tup e => exact .base (.tup e)
  | dK e => exact .base (.dK e)
theorem Dt.in_ {H : Hp} {v : V} {t : String} (d : Dt H v t) : t ∈ tyNs := by cases d <;> simp [tyNs]
theorem Dt.kp {H H' : Hp} {v : V} {t : String} (d : Dt H v t) (k : ∀ a o, v = .ref a → H a = some o → H' a = some o) : Dt H' v t := by
  cases d with
  | non => exact .non
  | bl b => exact .bl b
  | int i => exact .int i
  | str x => exact .str x
  | lst e => exact .lst (k _ _ rfl e)
  | tup e => exact .tup (k _ _ rfl e)
  | dK e => exact .dK (k _ _ rfl e)
theorem Dt.same {H H' : Hp} {v : V} {t : String} (d : Dt H v t) (s : Same H H') : Dt H' v t := d.kp fun a o _ e => s a o e
abbrev isTy (T t : String) : Bool := t == T || (T == "int" && t == "bool")
theorem kd_T {K : PySem.W.Frag} {T : String} (h : ∀ s ∈ tyNs, kitB s T = some (s == T || (T == "int" && s == "bool"))) {H : Hp} {v : V} {t : String} (d : Dt H v t) : PySem.W.kitOne K (.type t) (.type T) = some (isTy T t) := kit_ty (h _ d.in_)
theorem Dt.kint {K : PySem.W.Frag} {H : Hp} {v : V} {t : String} (d : Dt H v t) : PySem.W.kitOne K (.type t) (.type "int") = some (isTy "int" t) := kd_T (by decide +kernel) d
theorem Dt.kbool {K : PySem.W.Frag} {H : Hp} {v : V} {t : String} (d : Dt H v t) : PySem.W.kitOne K (.type t) (.type "bool") = some (isTy "bool" t) := kd_T (by decide +kernel) d
theorem Dt.ktuple {K : PySem.W.Frag} {H : Hp} {v : V} {t : String} (d : Dt H v t) : PySem.W.kitOne K (.type t) (.type "tuple") = some (isTy "tuple" t) := kd_T (by decide +kernel) d
theorem Dt.klist {K : PySem.W.Frag} {H : Hp} {v : V} {t : String} (d : Dt H v t) : PySem.W.kitOne K (.type t) (.type "list") = some (isTy "list" t) := kd_T (by decide +kernel) d
theorem Dt.kstr {K : PySem.W.Frag} {H : Hp} {v : V} {t : String} (d : Dt H v t) : PySem.W.kitOne K (.type t) (.type "str") = some (isTy "str" t) := kd_T (by decide +kernel) d
theorem Rp.dt {N : Addr → Prop} {H : Hp} {v : V} {d : PyData} (r : Rp N H v d) : Dt H v (tyN d) := by
  cases r with
  | non => exact .non
  | bl b => exact .bl b
  | int i => exact .int i
  | str x => exact .str x
  | lst e _ _ => exact .lst e
  | tup e _ _ => exact .tup e
  | emp e _ => exact .dK e
/-- max of a tuple of numbers -/
def rMaxT (K : PySem.W.Frag) : List V → Hp → VK → Prop := fun vs H Q => ∃ (a : Addr) (ns : List Int), vs = [V.ref a] ∧ SqT K H a (ns.map V.int) ∧ 0 < ns.length ∧ ∀ m, m ∈ ns → (∀ y, y ∈ ns → y ≤ m) → Q (.int m) H
theorem cr_maxT {X : Cx} (hc : X.calm = true) : CallR X (.builtin "max") (rMaxT X.K) := by
  intro pins s σ H vs us Q I r h
  obtain ⟨a, ns, rfl, hs, hne, q⟩ := h
  obtain ⟨its, rv, ht, _⟩ := I.tuple hs
  rw [Vals.ref1 r]
  have hi := rv.ints
  obtain ⟨ys, e⟩ := hi.allInts.items
  have hn : numsOf (intItems ys).toList = ns := by rw [← e]; exact hi.numsOf
  rw [nums_intItems] at hn
  have ht' : s.heap.IsTuple a (intItems ys) := by rw [← e]; exact ht
  have hlt : a < s.heap.objs.size := by obtain ⟨_, g, _⟩ := ht'; exact Heap.lt_size g
  have hsz : (intItems ys).size = ys.size := by simp [intItems]
  have hpos : 0 < ys.size := by
    rw [← hn, List.length_map, Array.length_toList] at hne
    exact hne
  refine call_max_walk (wpAny_pyIter_tuple ht' ?_)
  refine ⟨s.heap.objs.size, _, _, _, _, _, _, rfl, Walks.tuple (A := X.A.in1) (I.ok.hd hc) _ a (Nat.ne_of_lt hlt) (intItems ys), ⟨⟨_, Heap.get?_push_size _ rfl, rfl, rfl⟩, ?_⟩, fun b hb => ?_, by rw [hsz]; exact hpos, CmpOf.ints_gt (numAt ys) (fun _ _ => intItems_at), fun v h' tk hP hk => ?_⟩
  · obtain ⟨o, g, k1, k2⟩ := ht'
    exact ⟨o, Heap.get?_push_of_some _ g, k1, k2⟩
  · show b < (s.heap.push _).objs.size
    rw [Heap.size_push]
    have hb' : b = s.heap.objs.size ∨ b = a := by simpa using hb
    rcases hb' with z | z
    · rw [z]; exact Nat.lt_succ_self _
    · rw [z]; exact Nat.lt_succ_of_lt hlt
  · have kk : ∀ b o, s.heap.get? b = some o → h'.get? b = some o := fun b o g => hk b o (fun hm => by
      have : b = s.heap.objs.size := by simpa using hm
      rw [this] at g
      exact absurd (Heap.lt_size g) (Nat.lt_irrefl _)) (Heap.get?_push_of_some _ g)
    have I' : Inv X pins σ H { s with heap := h', toks := tk } := I.kept kk
    rw [hsz] at hP
    obtain ⟨u, rfl⟩ := intItems_at hP
    obtain ⟨h1, h2⟩ := argBest_gt (numAt ys) (ys.size - 1)
    subst hn
    refine ⟨.int _, H, I', ⟨u, rfl⟩, q _ ?_ fun y hy => ?_⟩
    · rw [numAt_eq]; exact PySem.getD_mem (by rw [List.length_map, Array.length_toList]; omega)
    · obtain ⟨j, hj, rfl⟩ := mem_getD hy; rw [List.length_map, Array.length_toList] at hj; rw [← numAt_eq]; exact h2 j (by omega)
end KQ
namespace KQ
open PySem PySem.Spec PyProof.Rows L2
theorem same_new0 {H : Hp} {p : Addr} {o : HO} (h : H p = none) : Same H (upd H p o) := fun b u q => by rw [upd_ne (ne_of_none q h)]; exact q
theorem sput {H H1 : Hp} {x : Addr} {o : HO} (s : Same H H1) (h : H x = none) : Same H (upd H1 x o) := fun b u q => by
  rw [upd_ne (ne_of_none q h)]
  exact s b u q
theorem snew {H H1 : Hp} {x : Addr} {o : HO} (s : Same H H1) (h : H1 x = none) : Same H (upd H1 x o) := fun b u q => by
  rw [upd_ne (ne_of_none (s b u q) h)]
  exact s b u q
theorem kp_same {N : Addr → Prop} {H H1 : Hp} (s : Same H H1) : Kp N H H1 := fun a o e _ => s a o e
/-! ### a comprehension by the list that grows -/
structure Snoc (D : Addr) (Pn : Hp → Prop) (y : V) (H : Hp) : Prop where
  h : ∃ acc, H D = some (.lst acc) ∧ acc.length < sizeLine ∧ Pn (upd H D (.lst (acc ++ [y])))
theorem snoc_eq (D : Addr) (Pn : Hp → Prop) (y : V) (H : Hp) : Snoc D Pn y H = ∃ acc, H D = some (.lst acc) ∧ acc.length < sizeLine ∧ Pn (upd H D (.lst (acc ++ [y]))) := propext ⟨fun q => q.h, fun q => ⟨q⟩⟩
section
variable {J : It} {n : Nat} {G : Hp → Prop} {Y : Nat → Hp → V → Hp → Prop}
theorem lc_acc (w : Walk J n G Y) {g : TG} {tt : TT} {te : TE} {vs : List Nat} {σ : L2.St} {H1 : Hp} {D : Addr} {Qd : Hp → Prop} (acc : Nat → List V) (I : Nat → Hp → Prop) (N : Addr → Prop)
    (nN : ¬ N D) (nD : H1 D = none) (hsz : ∀ i, i < n → (acc i).length < sizeLine) (a0 : acc 0 = []) (i0 : I 0 (upd H1 D (.lst []))) (hI : ∀ i H xs, Kp N H1 H → I i H → I i (upd H D (.lst xs)))
    (hG : ∀ i H, i ≤ n → Kp N H1 H → I i H → G H)
    (hs : ∀ i x H H' (Pn : Hp → Prop), i < n → Kp N H1 H → H D = some (.lst (acc i)) → I i H → Y i H x H' → (∀ y H4, acc (i + 1) = acc i ++ [y] → Kp N H H4 → I (i + 1) H4 → Snoc D Pn y H4) → (∀ H4, acc (i + 1) = acc i → Kp N H H4 → I (i + 1) H4 → Pn H4) →
      g x (wipe σ vs) H' fun σ2 H2 => wipe σ2 vs = wipe σ vs ∧ tt σ2 H2 fun b H3 => if b = true then te σ2 H3 fun y H4 => Snoc D Pn y H4 else Pn H3)
    (hd : ∀ H, Kp N H1 H → H D = some (.lst (acc n)) → I n H → Qd H) :
    ∃ W : Nat → Nat → Hp → Prop, (∃ m, W 0 m (upd H1 D (.lst []))) ∧ ∀ i m H, W i m H →
      (J.stop i H ∧ Qd H) ∨ (J.go i H ∧ ∃ Nx : Hp → Prop, (∀ H', Nx H' → ∃ m', m' < m ∧ W (i + 1) m' H') ∧ ∀ x H', J.yld i H x H' → g x (wipe σ vs) H' fun σ2 H2 => wipe σ2 vs = wipe σ vs ∧ tt σ2 H2 fun b H3 =>
        if b = true then te σ2 H3 fun y H4 => ∃ acc, H4 D = some (.lst acc) ∧ acc.length < sizeLine ∧ Nx (upd H4 D (.lst (acc ++ [y]))) else Nx H3) := by
  have kD : ∀ {H xs}, Kp N H1 H → Kp N H1 (upd H D (.lst xs)) := fun {H xs} k a o e na => by
    rw [upd_ne (ne_of_none e nD)]
    exact k a o e na
  refine lc_it w (fun i H => Kp N H1 H ∧ H D = some (.lst (acc i)) ∧ I i H) ⟨kD Kp.refl, by rw [a0]; exact upd_same, i0⟩ (fun i H hi q => hG i H hi q.1 q.2.2) (fun i x H H' hi q y => ?_) fun H q => hd H q.1 q.2.1 q.2.2
  obtain ⟨q1, q2, q3⟩ := q
  have z := hs i x H H' (fun H => Kp N H1 H ∧ H D = some (.lst (acc (i + 1))) ∧ I (i + 1) H) hi q1 q2 q3 y
    (fun y H4 e k j => ⟨acc i, k D _ q2 nN, hsz i hi, kD (q1.trans k), by rw [upd_same, e], hI (i + 1) H4 _ (q1.trans k) j⟩) fun H4 e k j => ⟨q1.trans k, by rw [e]; exact k D _ q2 nN, j⟩
  simp only [snoc_eq] at z
  exact z
/-- .. each item gives one -/
theorem lc_map (w : Walk J n G Y) {g : TG} {te : TE} {vs : List Nat} {σ : L2.St} {H1 : Hp} {D : Addr} {Qd : Hp → Prop} (ys : List V) (hn : ys.length = n) (nD : H1 D = none) (hz : n ≤ 16777216)
    (hG : ∀ i H, i ≤ n → Same H1 H → G H)
    (hs : ∀ i x H H' (Pn : Hp → Prop), i < n → Same H1 H → Y i H x H' → (∀ y H4, ys[i]? = some y → Same H H4 → Snoc D Pn y H4) → g x (wipe σ vs) H' fun σ2 H2 => wipe σ2 vs = wipe σ vs ∧ te σ2 H2 fun y H4 => Snoc D Pn y H4)
    (hd : ∀ H, Same H1 H → H D = some (.lst ys) → Qd H) :
    ∃ W : Nat → Nat → Hp → Prop, (∃ m, W 0 m (upd H1 D (.lst []))) ∧ ∀ i m H, W i m H →
      (J.stop i H ∧ Qd H) ∨ (J.go i H ∧ ∃ Nx : Hp → Prop, (∀ H', Nx H' → ∃ m', m' < m ∧ W (i + 1) m' H') ∧ ∀ x H', J.yld i H x H' → g x (wipe σ vs) H' fun σ2 H2 => wipe σ2 vs = wipe σ vs ∧ tYes σ2 H2 fun b H3 =>
        if b = true then te σ2 H3 fun y H4 => ∃ acc, H4 D = some (.lst acc) ∧ acc.length < sizeLine ∧ Nx (upd H4 D (.lst (acc ++ [y]))) else Nx H3) := by
  have sm : ∀ {H H' : Hp}, Kp (fun _ => False) H H' → Same H H' := fun k a o e => k a o e (fun z => z)
  refine lc_acc w (fun i => ys.take i) (fun _ _ => True) (fun _ => False) (fun z => z) nD (fun i hi => ?_) rfl trivial (fun _ _ _ _ _ => trivial) (fun i H hi k _ => hG i H hi (sm k)) (fun i x H H' Pn hi k _ _ y fin _ => ?_) fun H k e _ => hd H (sm k) (by rw [← hn, List.take_length] at e; exact e)
  · rw [List.length_take, sizeLine_eq]
    omega
  · have z := hs i x H H' Pn hi (sm k) y fun y H4 e s => fin y H4 (by rw [List.take_add_one, e]; rfl) (kp_same s) trivial
    have e : (fun (σ2 : L2.St) (H2 : Hp) => wipe σ2 vs = wipe σ vs ∧ tYes σ2 H2 fun b H3 => if b = true then te σ2 H3 fun y H4 => Snoc D Pn y H4 else Pn H3) = fun σ2 H2 => wipe σ2 vs = wipe σ vs ∧ te σ2 H2 fun y H4 => Snoc D Pn y H4 := by
      funext σ2 H2
      have e2 : tYes σ2 H2 (fun b H3 => if b = true then te σ2 H3 fun y H4 => Snoc D Pn y H4 else Pn H3) = te σ2 H2 fun y H4 => Snoc D Pn y H4 := by
        show (if true = true then te σ2 H2 (fun y H4 => Snoc D Pn y H4) else Pn H2) = _
        exact if_pos rfl
      rw [e2]
    rw [e]
    exact z
end
theorem same_kpF {H H' : Hp} (k : Kp (fun _ => False) H H') : Same H H' := fun a o e => k a o e (fun z => z)
theorem sIx_none (n d : Nat) : HT.sIx n d none = d := rfl
theorem sIx_some (n d k : Nat) : HT.sIx n d (some (k : Int)) = min k n := HT.sIx_nat n d k
theorem cut_take {xs : List V} (k : Nat) : cutV xs none (some (k : Int)) = xs.take k := by
  rw [cutV, sIx_none, sIx_some, List.drop_zero, Nat.sub_zero]
  by_cases h : k ≤ xs.length
  · rw [Nat.min_eq_left h]
  · rw [Nat.min_eq_right (by omega), List.take_length, List.take_of_length_le (by omega)]
theorem cut_drop {xs : List V} (k : Nat) : cutV xs (some (k : Int)) none = xs.drop k := by
  rw [cutV, sIx_none, sIx_some]
  by_cases h : k ≤ xs.length
  · rw [Nat.min_eq_left h, List.take_of_length_le (by rw [List.length_drop]; omega)]
  · rw [Nat.min_eq_right (by omega), List.drop_length, List.drop_of_length_le (by omega), List.take_nil]
theorem walk_zipT {K : PySem.W.Frag} {a b : Addr} {xs ys : List V} {n : Nat} (hn : n = min xs.length ys.length) : Walk (RZ.ItzT K a b) n (fun H => SqT K H a xs ∧ SqT K H b ys) (YPair (fun i => xs[i]?) (fun i => ys[i]?)) := by
  subst hn
  refine ⟨fun i _ hi q => ?_, fun _ q => ⟨xs, ys, q.1, q.2, by omega⟩, fun i H v H' _ q y => ?_⟩
  · have h1 : i < xs.length := by omega
    have h2 : i < ys.length := by omega
    exact ⟨xs, ys, xs[i], ys[i], q.1, q.2, by simp [h1], by simp [h2]⟩
  · obtain ⟨T, x, z, h1, h2, h3, h4, h5⟩ := y
    exact ⟨T, x, z, h1, h2, h3, h4 xs q.1, h5 ys q.2⟩
/-- as a comprehension's turn over zip is met: a new pair -/
theorem ypair {xs ys : List V} {i : Nat} {H H' : Hp} {v : V} (y : YPair (fun i => xs[i]?) (fun i => ys[i]?) i H v H') : ∃ T x z, v = .ref T ∧ H T = none ∧ H' = upd H T (.tup [x, z]) ∧ xs[i]? = some x ∧ ys[i]? = some z := y
theorem cut_whole {xs : List V} {lo hi : Option Int} (h : HT.sIx xs.length 0 lo = 0 ∧ HT.sIx xs.length xs.length hi = xs.length) : cutV xs lo hi = xs := by
  rw [cutV, h.1, h.2, List.drop_zero, Nat.sub_zero, List.take_length]
theorem sl_go {K : PySem.W.Frag} {H : Hp} {a : Addr} {xs : List V} {lo hi : Option Int} {Q : VK} (ha : H a = some (.tup xs)) (h : ∀ b H1, Same H H1 → H1 b = some (.tup (cutV xs lo hi)) → Q (.ref b) H1) : rSlA K (.ref a) lo hi H Q :=
  ⟨a, xs, rfl, SqT.of ha, fun w => h a H (Same.refl H) (by rw [cut_whole w]; exact ha), fun _ p np => h p _ (same_new0 np) upd_same⟩
theorem cat_go {K : PySem.W.Frag} {H : Hp} {a b : Addr} {xs ys : List V} {Q : VK} (ha : H a = some (.tup xs)) (hb : H b = some (.tup ys)) (hz : xs.length + ys.length ≤ 16777216) (h : ∀ c H1, Same H H1 → H1 c = some (.tup (xs ++ ys)) → Q (.ref c) H1) : rCatA K (.ref a) (.ref b) H Q :=
  ⟨a, b, xs, ys, rfl, rfl, SqT.of ha, SqT.of hb, by rw [sizeLine_eq]; exact hz, fun e => h b H (Same.refl H) (by rw [e]; exact hb), fun _ e => h a H (Same.refl H) (by rw [e, List.append_nil]; exact ha), fun _ _ p np => h p _ (same_new0 np) upd_same⟩
theorem cut1 {xs : List V} : cutV xs (some 1) none = xs.drop 1 := cut_drop 1
end KQ
set_option Elab.async false
set_option maxRecDepth 100000
set_option maxHeartbeats 4000000
/-! B12: shares: the numbers that they are. -/
namespace KQ
open PySem PySem.Spec PyProof.Rows L2
/-- the places of a set below n as a number, place -1 first -/
def Vs (S : Int → Bool) : Nat → Nat
  | 0 => (S (-1)).toNat
  | j + 1 => 2 * Vs S j + (S (j : Int)).toNat
def put (S : Int → Bool) (p : Int) (b : Bool) : Int → Bool := fun q => if q = p then b else S q
theorem Vs_congr {S T : Int → Bool} : ∀ {n : Nat}, (∀ q : Int, -1 ≤ q → q < n → S q = T q) → S (-1) = T (-1) → Vs S n = Vs T n
  | 0, _, h => by simp only [Vs]; rw [h]
  | j + 1, h, h0 => by
    simp only [Vs]
    rw [Vs_congr (n := j) (fun q a b => h q a (by omega)) h0, h (j : Int) (by omega) (by omega)]
theorem Vs_put {S : Int → Bool} {p : Int} (h : S p = false) : ∀ {n : Nat}, -1 ≤ p → p < n → Vs (put S p true) n = Vs S n + 2 ^ (n - (p + 1).toNat)
  | 0, a, b => by
    obtain rfl : p = -1 := by omega
    simp [Vs, put, h]
  | j + 1, a, b => by
    simp only [Vs]
    by_cases e : p = j
    · subst e
      rw [Vs_congr (S := put S j true) (T := S) (fun q a b => by unfold put; rw [if_neg (by omega)]) (by unfold put; rw [if_neg (by omega)]), show put S (j : Int) true (j : Int) = true by simp [put], h]
      rw [show j + 1 - ((j : Int) + 1).toNat = 0 by omega]
      rfl
    · rw [Vs_put h (n := j) a (by omega), show put S p true (j : Int) = S (j : Int) by unfold put; rw [if_neg (fun z => e z.symm)]]
      rw [show j + 1 - (p + 1).toNat = (j - (p + 1).toNat) + 1 by omega, Nat.pow_succ]
      omega
theorem put_put {S : Int → Bool} {p : Int} (h : S p = true) : put (put S p false) p true = S := by
  funext q
  unfold put
  by_cases e : q = p
  · rw [if_pos e, e, h]
  · rw [if_neg e, if_neg e]
theorem Vs_del {S : Int → Bool} {p : Int} (h : S p = true) {n : Nat} (a : -1 ≤ p) (b : p < n) : Vs S n = Vs (put S p false) n + 2 ^ (n - (p + 1).toNat) := by
  have q := Vs_put (S := put S p false) (p := p) (by simp [put]) (n := n) a b
  rwa [put_put h] at q
theorem Vs_inj {S T : Int → Bool} : ∀ {n : Nat}, Vs S n = Vs T n → ∀ q : Int, -1 ≤ q → q < n → S q = T q
  | 0, e, q, a, b => by
    obtain rfl : q = -1 := by omega
    simp only [Vs] at e
    revert e
    cases S (-1) <;> cases T (-1) <;> simp
  | j + 1, e, q, a, b => by
    simp only [Vs] at e
    have h1 : (S (j : Int)).toNat ≤ 1 := by cases S (j : Int) <;> simp
    have h2 : (T (j : Int)).toNat ≤ 1 := by cases T (j : Int) <;> simp
    by_cases c : q = j
    · subst c
      have : (S (j : Int)).toNat = (T (j : Int)).toNat := by omega
      revert this
      cases S (j : Int) <;> cases T (j : Int) <;> simp
    · exact Vs_inj (n := j) (by omega) q a (by omega)
theorem Vs_neg {S : Int → Bool} (h : S (-1) = true) : ∀ n : Nat, 2 ^ n ≤ Vs S n
  | 0 => by simp [Vs, h]
  | j + 1 => by
    have := Vs_neg h j
    simp only [Vs, Nat.pow_succ]
    omega
theorem Vs_zero {S : Int → Bool} (h : S 0 = true) : ∀ j : Nat, 2 ^ j ≤ Vs S (j + 1)
  | 0 => by simp [Vs, h]
  | j + 1 => by
    have := Vs_zero h j
    rw [Vs, Nat.pow_succ]
    omega
theorem Vs_more {S : Int → Bool} (h : S 0 = true) {p : Int} (hp : 1 ≤ p) (hS : S p = true) : ∀ j : Nat, p < j + 1 → 2 ^ j < Vs S (j + 1)
  | 0, b => by omega
  | j + 1, b => by
    rw [Vs, Nat.pow_succ]
    by_cases c : p = j + 1
    · have q := Vs_zero h j
      have : (S ((j + 1 : Nat) : Int)).toNat = 1 := by rw [show ((j + 1 : Nat) : Int) = p by omega, hS]; rfl
      omega
    · have := Vs_more h hp hS j (by omega)
      omega
theorem Vs_lt {S : Int → Bool} (h : S (-1) = false) (h0 : S 0 = false) : ∀ j : Nat, Vs S (j + 1) + 1 ≤ 2 ^ j
  | 0 => by
    simp only [Vs, h]
    rw [show ((0 : Nat) : Int) = 0 from rfl, h0]
    decide
  | j + 1 => by
    have := Vs_lt h h0 j
    have : (S ((j + 1 : Nat) : Int)).toNat ≤ 1 := by cases S ((j + 1 : Nat) : Int) <;> simp
    rw [Vs, Nat.pow_succ]
    omega
theorem Vs_up {S : Int → Bool} {n : Nat} (h : ∀ q : Int, n ≤ q → S q = false) : ∀ k : Nat, Vs S (n + k) = 2 ^ k * Vs S n
  | 0 => by simp
  | k + 1 => by
    rw [show n + (k + 1) = (n + k) + 1 by omega, Vs, Vs_up h k, h _ (by omega), Nat.pow_succ]
    show 2 * (2 ^ k * Vs S n) + 0 = _
    rw [Nat.add_zero, ← Nat.mul_assoc, Nat.mul_comm 2]
/-- the set's places, ascending -/
def lotS (S : Int → Bool) : Nat → List Int
  | 0 => if S (-1) then [-1] else []
  | j + 1 => lotS S j ++ if S (j : Int) then [(j : Int)] else []
def lotV : Nat → Nat → List Int
  | 0, W => if W % 2 = 1 then [-1] else []
  | j + 1, W => lotV j (W / 2) ++ if W % 2 = 1 then [(j : Int)] else []
theorem lotV_Vs {S : Int → Bool} : ∀ n : Nat, lotV n (Vs S n) = lotS S n
  | 0 => by cases h : S (-1) <;> simp [lotV, lotS, Vs, h]
  | j + 1 => by
    cases h : S (j : Int)
    · simp only [lotV, lotS, Vs, h]
      rw [show (2 * Vs S j + false.toNat) / 2 = Vs S j by show (2 * Vs S j + 0) / 2 = _; omega, show (2 * Vs S j + false.toNat) % 2 = 0 by show (2 * Vs S j + 0) % 2 = _; omega, lotV_Vs j]
      rfl
    · simp only [lotV, lotS, Vs, h]
      rw [show (2 * Vs S j + true.toNat) / 2 = Vs S j by show (2 * Vs S j + 1) / 2 = _; omega, show (2 * Vs S j + true.toNat) % 2 = 1 by show (2 * Vs S j + 1) % 2 = _; omega, lotV_Vs j]
      rfl
theorem mem_lotS {S : Int → Bool} {q : Int} : ∀ {n : Nat}, q ∈ lotS S n ↔ (-1 ≤ q ∧ q < n ∧ S q = true)
  | 0 => by
    simp only [lotS]
    cases h : S (-1)
    · simp only [Bool.false_eq_true, if_false, List.not_mem_nil, false_iff]
      rintro ⟨a, b, c⟩
      rw [show q = -1 by omega, h] at c
      cases c
    · simp only [if_true, List.mem_singleton]
      exact ⟨fun e => by subst e; exact ⟨by omega, by omega, h⟩, fun ⟨a, b, c⟩ => by omega⟩
  | j + 1 => by
    simp only [lotS, List.mem_append, mem_lotS (n := j)]
    cases h : S (j : Int)
    · simp only [Bool.false_eq_true, if_false, List.not_mem_nil, or_false]
      constructor
      · rintro ⟨a, b, c⟩
        exact ⟨a, by omega, c⟩
      · rintro ⟨a, b, c⟩
        refine ⟨a, ?_, c⟩
        by_cases e : q = j
        · rw [e, h] at c; cases c
        · omega
    · simp only [if_true, List.mem_singleton]
      constructor
      · rintro (⟨a, b, c⟩ | e)
        · exact ⟨a, by omega, c⟩
        · subst e; exact ⟨by omega, by omega, h⟩
      · rintro ⟨a, b, c⟩
        by_cases e : q = j
        · exact .inr e
        · exact .inl ⟨a, by omega, c⟩
theorem lotS_asc {S : Int → Bool} : ∀ n : Nat, (lotS S n).Pairwise (· < ·)
  | 0 => by
    simp only [lotS]
    split <;> simp
  | j + 1 => by
    simp only [lotS]
    refine List.pairwise_append.mpr ⟨lotS_asc j, by split <;> simp, fun a ha b hb => ?_⟩
    have := (mem_lotS.mp ha).2.1
    split at hb
    · simp only [List.mem_singleton] at hb
      omega
    · simp at hb
theorem asc_ext : ∀ {l m : List Int}, l.Pairwise (· < ·) → m.Pairwise (· < ·) → (∀ q, q ∈ l ↔ q ∈ m) → l = m
  | [], [], _, _, _ => rfl
  | [], y :: m, _, _, h => absurd ((h y).mpr (List.mem_cons_self ..)) (List.not_mem_nil)
  | x :: l, [], _, _, h => absurd ((h x).mp (List.mem_cons_self ..)) (List.not_mem_nil)
  | x :: l, y :: m, hl, hm, h => by
    obtain ⟨a, hl'⟩ := List.pairwise_cons.mp hl
    obtain ⟨b, hm'⟩ := List.pairwise_cons.mp hm
    have e : x = y := by
      rcases List.mem_cons.mp ((h x).mp (List.mem_cons_self ..)) with e | e
      · exact e
      · rcases List.mem_cons.mp ((h y).mpr (List.mem_cons_self ..)) with e2 | e2
        · exact e2.symm
        · have := b x e
          have := a y e2
          omega
    subst e
    refine congrArg (x :: ·) (asc_ext hl' hm' fun q => ?_)
    constructor
    · intro hq
      rcases List.mem_cons.mp ((h q).mp (List.mem_cons_of_mem _ hq)) with e | e
      · have := a q hq; omega
      · exact e
    · intro hq
      rcases List.mem_cons.mp ((h q).mpr (List.mem_cons_of_mem _ hq)) with e | e
      · have := b q hq; omega
      · exact e
abbrev mS (ns : List Int) : Int → Bool := fun q => decide (q ∈ ns)
theorem lotS_mS {ns : List Int} {n : Nat} (h : ns.Pairwise (· < ·)) (hb : ∀ q ∈ ns, -1 ≤ q ∧ q < n) : lotS (mS ns) n = ns :=
  asc_ext (lotS_asc n) h fun q => mem_lotS.trans ⟨fun ⟨_, _, c⟩ => of_decide_eq_true c, fun c => ⟨(hb q c).1, (hb q c).2, decide_eq_true c⟩⟩
/-- a share's numbers -/
structure Sh (ns : List Int) : Prop where
  nn : ∀ q ∈ ns, 0 ≤ q
  asc : ns.Pairwise (· < ·)
  zero : 0 ∈ ns → ns = [0]
theorem Sh.le {ns : List Int} (h : Sh ns) {n : Nat} (hb : ∀ q ∈ ns, q < ((n + 1 : Nat) : Int)) : Vs (mS ns) (n + 1) ≤ 2 ^ n := by
  have h1 : mS ns (-1) = false := decide_eq_false fun z => by have := h.nn _ z; omega
  by_cases c : (0 : Int) ∈ ns
  · rw [h.zero c]
    have : ∀ j : Nat, Vs (mS [0]) (j + 1) = 2 ^ j := fun j => by
      induction j with
      | zero => rfl
      | succ j ih =>
        rw [Vs, ih, Nat.pow_succ, show mS [0] ((j + 1 : Nat) : Int) = false from decide_eq_false (by simp; omega)]
        show 2 * 2 ^ j + 0 = _
        omega
    rw [this]
    exact Nat.le_refl _
  · have := Vs_lt h1 (decide_eq_false c) n
    omega
/-- what is ascending within, and worth no more than the whole, is a share -/
theorem Sh.of {ns : List Int} {n : Nat} (h : ns.Pairwise (· < ·)) (hb : ∀ q ∈ ns, -1 ≤ q ∧ q < ((n + 1 : Nat) : Int)) (hv : Vs (mS ns) (n + 1) ≤ 2 ^ n) : Sh ns := by
  have p2 : 0 < 2 ^ n := Nat.pow_pos (by decide)
  have h1 : (-1 : Int) ∉ ns := fun z => by
    have := Vs_neg (S := mS ns) (decide_eq_true z) (n + 1)
    rw [Nat.pow_succ] at this
    omega
  refine ⟨fun q hq => ?_, h, fun z => asc_ext h (by simp) fun q => ⟨fun hq => ?_, fun e => ?_⟩⟩
  · have := (hb q hq).1
    by_cases e : q = -1
    · rw [e] at hq; exact absurd hq h1
    · omega
  · have b := hb q hq
    by_cases e : q = 0
    · simp [e]
    · by_cases e2 : q = -1
      · rw [e2] at hq; exact absurd hq h1
      · have := Vs_more (S := mS ns) (decide_eq_true z) (p := q) (by omega) (decide_eq_true hq) n (by omega)
        omega
  · simp only [List.mem_singleton] at e
    rw [e]; exact z
/-- the share that two come to -/
def addS (n : Nat) (ns ms : List Int) : Option (List Int) :=
  if Vs (mS ns) (n + 1) + Vs (mS ms) (n + 1) ≤ 2 ^ n then some (lotV (n + 1) (Vs (mS ns) (n + 1) + Vs (mS ms) (n + 1))) else none
abbrev Bd (n : Nat) (ns : List Int) : Prop := ∀ q ∈ ns, q < ((n + 1 : Nat) : Int)
theorem addS_comm {n : Nat} {ns ms : List Int} : addS n ns ms = addS n ms ns := by
  unfold addS
  rw [Nat.add_comm]
/-- what a set of that worth is -/
theorem addS_of {n : Nat} {ns ms ks : List Int} (h : ks.Pairwise (· < ·)) (hb : ∀ q ∈ ks, -1 ≤ q ∧ q < ((n + 1 : Nat) : Int)) (e : Vs (mS ks) (n + 1) = Vs (mS ns) (n + 1) + Vs (mS ms) (n + 1)) :
    (Sh ks ∧ addS n ns ms = some ks) ∨ (¬ Sh ks ∧ addS n ns ms = none) := by
  unfold addS
  rw [← e, lotV_Vs, lotS_mS h hb]
  by_cases c : Vs (mS ks) (n + 1) ≤ 2 ^ n
  · exact .inl ⟨Sh.of h hb c, if_pos c⟩
  · exact .inr ⟨fun s => c (s.le fun q hq => (hb q hq).2), if_neg c⟩
theorem lotV_ok {n W : Nat} (h : W < 2 ^ (n + 1)) : ∃ S : Int → Bool, Vs S n = W := by
  induction n generalizing W with
  | zero =>
    rcases (show W = 0 ∨ W = 1 by simp at h; omega) with rfl | rfl
    · exact ⟨fun _ => false, rfl⟩
    · exact ⟨fun _ => true, rfl⟩
  | succ n ih =>
    obtain ⟨S, hS⟩ := ih (W := W / 2) (by rw [Nat.pow_succ] at h; omega)
    refine ⟨put S n (decide (W % 2 = 1)), ?_⟩
    rw [Vs, Vs_congr (T := S) (fun q a b => by unfold put; rw [if_neg (by omega)]) (by unfold put; rw [if_neg (by omega)]), hS, show put S (n : Int) (decide (W % 2 = 1)) (n : Int) = decide (W % 2 = 1) by simp [put]]
    by_cases c : W % 2 = 1
    · simp [c]; omega
    · simp [c]; omega
theorem addS_some {n : Nat} {ns ms ks : List Int} (h : addS n ns ms = some ks) : Sh ks ∧ Bd n ks ∧ Vs (mS ks) (n + 1) = Vs (mS ns) (n + 1) + Vs (mS ms) (n + 1) ∧ Vs (mS ns) (n + 1) + Vs (mS ms) (n + 1) ≤ 2 ^ n := by
  unfold addS at h
  split at h
  · rename_i c
    cases h
    obtain ⟨S, hS⟩ := lotV_ok (n := n + 1) (W := Vs (mS ns) (n + 1) + Vs (mS ms) (n + 1)) (by rw [Nat.pow_succ, Nat.pow_succ]; have : 0 < 2 ^ n := Nat.pow_pos (by decide); omega)
    rw [← hS, lotV_Vs]
    have e : Vs (mS (lotS S (n + 1))) (n + 1) = Vs S (n + 1) := Vs_congr (fun q a b => by
      by_cases z : S q = true
      · rw [z]; exact decide_eq_true (mem_lotS.mpr ⟨a, b, z⟩)
      · rw [Bool.eq_false_iff.mpr z]; exact decide_eq_false fun y => z (mem_lotS.mp y).2.2) (by
      by_cases z : S (-1) = true
      · rw [z]; exact decide_eq_true (mem_lotS.mpr ⟨by omega, by omega, z⟩)
      · rw [Bool.eq_false_iff.mpr z]; exact decide_eq_false fun y => z (mem_lotS.mp y).2.2)
    have b : ∀ q ∈ lotS S (n + 1), -1 ≤ q ∧ q < ((n + 1 : Nat) : Int) := fun q hq => ⟨(mem_lotS.mp hq).1, (mem_lotS.mp hq).2.1⟩
    rw [e, hS]
    exact ⟨Sh.of (lotS_asc _) b (by rw [e, hS]; exact c), fun q hq => (b q hq).2, rfl, c⟩
  · cases h
/-- three in another order -/
theorem addS_third {n : Nat} {a b c d : List Int} (h : addS n a b = some d) (h2 : addS n d c ≠ none) : ∃ e, addS n a c = some e ∧ addS n e b = addS n d c ∧ addS n d c ≠ none := by
  obtain ⟨_, _, e1, _⟩ := addS_some h
  cases q : addS n d c with
  | none => exact absurd q h2
  | some r =>
    obtain ⟨_, _, e2, l2⟩ := addS_some q
    have l3 : Vs (mS a) (n + 1) + Vs (mS c) (n + 1) ≤ 2 ^ n := by omega
    have q3 : addS n a c = some (lotV (n + 1) (Vs (mS a) (n + 1) + Vs (mS c) (n + 1))) := if_pos l3
    refine ⟨_, q3, ?_, fun z => nomatch z⟩
    obtain ⟨_, _, e4, _⟩ := addS_some q3
    rw [← q]
    unfold addS
    rw [e4, e1, show Vs (mS a) (n + 1) + Vs (mS c) (n + 1) + Vs (mS b) (n + 1) = Vs (mS a) (n + 1) + Vs (mS b) (n + 1) + Vs (mS c) (n + 1) by omega]
theorem lotV_up : ∀ (k n W : Nat), lotV (n + k) (2 ^ k * W) = lotV n W
  | 0, n, W => by simp
  | k + 1, n, W => by
    rw [show n + (k + 1) = (n + k) + 1 by omega, lotV, show 2 ^ (k + 1) * W = 2 * (2 ^ k * W) by rw [Nat.pow_succ, Nat.mul_comm (2 ^ k) 2, Nat.mul_assoc], show 2 * (2 ^ k * W) / 2 = 2 ^ k * W by omega, show 2 * (2 ^ k * W) % 2 = 0 by omega, lotV_up k n W]
    simp
/-- more places make no difference -/
theorem addS_up {n k : Nat} {ns ms : List Int} (h1 : Bd n ns) (h2 : Bd n ms) : addS (n + k) ns ms = addS n ns ms := by
  have u : ∀ {l : List Int}, Bd n l → Vs (mS l) (n + 1 + k) = 2 ^ k * Vs (mS l) (n + 1) := fun h => Vs_up (fun q hq => decide_eq_false fun z => by have := h q z; omega) k
  unfold addS
  rw [show n + k + 1 = n + 1 + k by omega, u h1, u h2, ← Nat.mul_add, lotV_up, Nat.pow_add, Nat.mul_comm (2 ^ n)]
  have : 0 < 2 ^ k := Nat.pow_pos (by decide)
  by_cases c : Vs (mS ns) (n + 1) + Vs (mS ms) (n + 1) ≤ 2 ^ n
  · rw [if_pos c, if_pos (Nat.mul_le_mul_left _ c)]
  · rw [if_neg c, if_neg fun z => c (Nat.le_of_mul_le_mul_left z this)]
/-- two halves -/
theorem half_sh {ns : List Int} (h : Sh ns) : Sh (ns.map (· + 1)) :=
  ⟨fun q hq => by obtain ⟨p, hp, rfl⟩ := List.mem_map.mp hq; have := h.nn p hp; omega,
   List.pairwise_map.mpr (h.asc.imp fun h => by omega), fun z => by obtain ⟨p, hp, e⟩ := List.mem_map.mp z; have := h.nn p hp; omega⟩
theorem half_add {n : Nat} {ns : List Int} (h : Sh ns) (hb : ∀ q ∈ ns, q < n) : addS n (ns.map (· + 1)) (ns.map (· + 1)) = some ns := by
  have e : ∀ j : Nat, Vs (mS (ns.map (· + 1))) (j + 1) = Vs (mS ns) j := fun j => by
    have h1 : mS (ns.map (· + 1)) (-1) = false := decide_eq_false fun z => by obtain ⟨p, hp, e⟩ := List.mem_map.mp z; have := h.nn p hp; omega
    have h2 : ∀ q : Int, mS (ns.map (· + 1)) (q + 1) = mS ns q := fun q => by
      show decide _ = decide _
      congr 1
      exact propext ⟨fun z => by obtain ⟨p, hp, e⟩ := List.mem_map.mp z; rw [show q = p by omega]; exact hp, fun z => List.mem_map.mpr ⟨q, z, rfl⟩⟩
    induction j with
    | zero =>
      simp only [Vs, h1]
      have := h2 (-1)
      rw [show (-1 : Int) + 1 = 0 from rfl] at this
      rw [show ((0 : Nat) : Int) = 0 from rfl, this]
      show 2 * 0 + _ = _
      omega
    | succ j ih =>
      rw [Vs, ih, show ((j + 1 : Nat) : Int) = (j : Int) + 1 by omega, h2]
      rfl
  have b : ∀ q ∈ ns, -1 ≤ q ∧ q < ((n + 1 : Nat) : Int) := fun q hq => ⟨by have := h.nn q hq; omega, by have := hb q hq; omega⟩
  have v : Vs (mS ns) (n + 1) = Vs (mS (ns.map (· + 1))) (n + 1) + Vs (mS (ns.map (· + 1))) (n + 1) := by
    rw [e, Vs, show mS ns (n : Int) = false from decide_eq_false fun z => by have := hb _ z; omega]
    show 2 * Vs (mS ns) n + 0 = _
    omega
  rcases addS_of (ns := ns.map (· + 1)) (ms := ns.map (· + 1)) h.asc b v with q | q
  · exact q.2
  · exact absurd h q.1
end KQ
set_option Elab.async false
set_option maxRecDepth 100000
set_option maxHeartbeats 4000000
/-! B13: a tuple reversed by a slice. -/
namespace KQ
open PySem PySem.Spec PyProof.Rows L2
theorem adjust_rev (n : Nat) : Builtin.Slice.sliceAdjust none none (-1) (n : Int) = ((n : Int) - 1, -1) := by
  unfold Builtin.Slice.sliceAdjust
  simp
theorem places_rev (n : Nat) : Builtin.Slice.slicePlaces ((n : Int) - 1) (-1) (-1) = n := by
  unfold Builtin.Slice.slicePlaces
  have h1 : ¬ ((-1 : Int) > 0) := by omega
  simp only [h1, if_false]
  by_cases c : (n : Int) - 1 > -1
  · rw [if_pos c]
    have : ((n : Int) - 1 - -1 - 1) / (- -1) + 1 = n := by
      rw [show (- -1 : Int) = 1 by decide, Int.ediv_one]
      omega
    rw [this]
    omega
  · rw [if_neg c]
    omega
theorem pick_rev (xs : Array Value) : ((List.range xs.size).filterMap fun (m : Nat) => xs[(((xs.size : Int) - 1) + (m : Int) * (-1)).toNat]?).toArray = xs.toList.reverse.toArray := by
  congr 1
  apply List.ext_getElem?
  intro i
  have hm : ∀ l : List Nat, (∀ m ∈ l, m < xs.size) → (l.filterMap fun (m : Nat) => xs[(((xs.size : Int) - 1) + (m : Int) * (-1)).toNat]?) = l.map fun m => xs.toList.reverse.getD m Value.none := by
    intro l
    induction l with
    | nil => intro _; rfl
    | cons m l ih =>
      intro h
      have hm := h m (List.mem_cons_self ..)
      have e1 : (((xs.size : Int) - 1) + (m : Int) * (-1)).toNat = xs.size - 1 - m := by omega
      have e2 : xs[xs.size - 1 - m]? = some (xs.toList.reverse.getD m Value.none) := by
        have hl : m < xs.toList.reverse.length := by simp; omega
        rw [List.getD_eq_getElem?_getD, List.getElem?_reverse (by simpa using hm)]
        simp only [Array.length_toList, Array.getElem?_toList]
        rw [Array.getElem?_eq_getElem (by omega)]
        rfl
      rw [List.filterMap_cons, e1, e2, List.map_cons, ih fun m' h' => h m' (List.mem_cons_of_mem _ h')]
  rw [hm _ fun m h => List.mem_range.mp h, List.getElem?_map]
  by_cases c : i < xs.size
  · rw [List.getElem?_range c]
    have hl : i < xs.toList.reverse.length := by simpa using c
    simp only [Option.map_some, List.getD_eq_getElem?_getD]
    rw [List.getElem?_eq_getElem hl]
    rfl
  · rw [List.getElem?_eq_none (by simp; omega), List.getElem?_eq_none (by simp; omega)]
    rfl
section
variable {prog : Program} {w : World} {A : Around} {E : Value → Shared → Prop} {s : Shared}
theorem sliceApplied_rev {sl : Addr} {vs : Value} {n : Nat} {Q : Int × Int × Nat → Shared → Prop} (hs : s.heap.IsSliceOf sl .none .none vs) (ps : IsPart vs (some (-1)))
    (h : Q ((n : Int) - 1, -1, n) s) : wpAny (model prog w) A (Builtin.Slice.sliceApplied (.ref sl) (pure (n : Int))) Q E s := by
  obtain ⟨os, hos, hcs, hds⟩ := id hs
  unfold Builtin.Slice.sliceApplied Builtin.Slice.sliceFields
  refine wpAny_bind (wpAny_bind (wpAny_field hos hds (x := .none) rfl (wpAny_bind (wpAny_field hos hds (x := .none) rfl (wpAny_bind (wpAny_field hos hds (x := vs) rfl (wpAny_pure ?_)))))))
  refine wpAny_bind (HT.slicePart_ ps ?_)
  show wpAny _ _ (if ((-1 : Int) == 0) = true then _ else _) _ _ s
  rw [if_neg (by decide)]
  refine wpAny_bind (slicePart_none (wpAny_bind (slicePart_none (wpAny_bind (wpAny_pure ?_)))))
  show wpAny _ _ (match Builtin.Slice.sliceAdjust none none (-1) (n : Int) with | (lo, hi) => pure (lo, (-1 : Int), Builtin.Slice.slicePlaces lo hi (-1))) _ _ s
  rw [adjust_rev n]
  show wpAny _ _ (pure ((n : Int) - 1, (-1 : Int), Builtin.Slice.slicePlaces ((n : Int) - 1) (-1) (-1))) _ _ s
  rw [places_rev]
  exact wpAny_pure h
theorem getItem_tuple_rev {t sl : Addr} {items : Array Value} {vs : Value} {Q : Value → Shared → Prop} (ht : IsTup s.heap t items) (hs : s.heap.IsSliceOf sl .none .none vs) (ps : IsPart vs (some (-1)))
    (h : Q (.ref s.heap.objs.size) { s with heap := s.heap.push { cls := .type "tuple", data := .seq items.toList.reverse.toArray } })
    (hsz : items.size ≤ sizeLine) : wpAny (model prog w) A (getItem (.ref t) (.ref sl)) Q E s := by
  have htake : sizeOk (.seq items.toList.reverse.toArray) := by
    show items.toList.reverse.toArray.size ≤ sizeLine
    rw [List.size_toArray, List.length_reverse, Array.length_toList]
    exact hsz
  obtain ⟨os, hos, hcs, hds⟩ := id hs
  have hTs : s.TypeIs (.ref sl) "slice" := ⟨os, hos, hcs⟩
  unfold getItem
  try with_reducible refine wpAny_holding ?_
  first | refine wpAny_bind (wpAny_pure ?_) | skip
  refine wpAny_bind (wpAny_sequenceKey ht.typeIs (by decide) ?_)
  refine wpAny_bind (wpAny_callSpecial?_slot (name := Str.ofString "__getitem__") ht.typeIs PyProof.Rows.slot_tuple_getitem
    (wpAny_call_entry PyProof.Rows.slot_tuple_getitem ht.typeIs entry_tuple_getitem ?_ (args_tuple_getitem _ _)))
  show wpAny _ _ (Builtin.Tuple.tupleItemsOf (.ref t) >>= _) _ _ s
  refine wpAny_bind (tupleItemsOf_ ht ?_)
  refine wpAny_bind (wpAny_typeOf hTs ?_)
  rw [if_pos (by decide)]
  refine wpAny_bind (sliceApplied_rev hs ps ?_)
  have hno : ¬ (((((items.size : Nat) : Int) - 1) == 0 && (-1 : Int) == 1 && items.size == items.size) = true) := by simp
  show wpAny _ _ (if ((((items.size : Nat) : Int) - 1) == 0 && (-1 : Int) == 1 && items.size == items.size) = true then _ else _) _ _ s
  rw [if_neg hno, pick_rev]
  first
    | exact wpAny_bind (m := Builtin.Tuple.tupleExact _) (wpAny_newObj_type (wpAny_pure ⟨_, rfl, wpAny_pure h⟩) htake)
    | exact wpAny_bind (m := Builtin.Tuple.tupleExact _) (wpAny_newObj_type (wpAny_bind (wpAny_pure (wpAny_pure ⟨_, rfl, wpAny_pure h⟩))) htake)
    | exact wpAny_bind (wpAny_bind (m := Builtin.Tuple.tupleExact _) (wpAny_newObj_type (wpAny_pure (wpAny_pure ⟨_, rfl, wpAny_pure h⟩)) htake))
    | exact wpAny_bind (wpAny_bind (m := Builtin.Tuple.tupleExact _) (wpAny_newObj_type (wpAny_pure ⟨_, rfl, wpAny_pure h⟩) htake))
end
def tRevT (K : PySem.W.Frag) (te : TE) : TE := fun σ H Q => te σ H fun x H1 => ∃ a xs, x = .ref a ∧ SqT K H1 a xs ∧ ∀ p, H1 p = none → Q (.ref p) (upd H1 p (.tup xs.reverse))
theorem pe_revT {X : Cx} {e : Expr} {te : TE} {k : Nat} {p1 p2 p3 pos : Pos} (he : PE X e te) : PE X (.Subscript e (.Slice none none (some (.UnaryOp .USub (.Constant (.int 1) k p1) p2)) p3) pos) (tRevT X.K te) := by
  refine ⟨fun pins s σ H Q I h => ?_⟩
  refine Subscript_ (thn (he.run pins s σ H _ I h) fun v s1 ⟨x, H1, I1, r1, q1⟩ => ?_)
  obtain ⟨a, xs, ex, hx, q⟩ := q1
  subst ex
  cases r1
  have hst : PO X (some (.UnaryOp .USub (.Constant (.int 1) k p1) p2)) (tPart (tUn (rU fun i => .int (-i)) (tC (.int 1)))) := po_some (pe_un un_neg pe_int)
  refine wpAny_Slice (thn (po_none.run pins s1 σ H1 (fun o H2 => o = none ∧ H2 = H1) I1 ⟨rfl, rfl⟩) fun vl s2 ⟨l, H2, I2, pl, el, e2⟩ => ?_)
  subst el e2
  cases pl
  refine thn (po_none.run pins s2 σ H2 (fun o H3 => o = none ∧ H3 = H2) I2 ⟨rfl, rfl⟩) fun vu s3 ⟨u, H3, I3, pu, eu, e3⟩ => ?_
  subst eu e3
  cases pu
  refine thn (hst.run pins s3 σ H3 (fun o H4 => o = some (-1) ∧ H4 = H3) I3 ⟨1, rfl, -1, rfl, rfl, rfl⟩) fun vs s4 ⟨o, H4, I4, ps, eo, e4⟩ => ?_
  subst eo e4
  have I5 : Inv X pins σ H4 { s4 with heap := s4.heap.push { cls := .type "slice", data := .fields #[.none, .none, vs] } } := I4.kept (t' := s4.toks) fun b ob q => Heap.get?_push_of_some _ q
  obtain ⟨its, r, ht, hz⟩ := I5.tuple hx
  have hlen := r.length
  show wpAny (model X.prog X.w) X.A (subscriptTail e (.Slice none none (some (.UnaryOp .USub (.Constant (.int 1) k p1) p2)) p3) (.ref a) (.ref s4.heap.objs.size)) (EP X pins σ Q) X.xe { s4 with heap := s4.heap.push { cls := .type "slice", data := .fields #[.none, .none, vs] } }
  refine tail_any (ops := [.ref a, .ref s4.heap.objs.size]) ht.typeIs (PyProof.Rows.slot_tuple_getitem.lookup) ?_ (by with_unfolding_all rfl)
  refine getItem_tuple_rev ht (Heap.IsSliceOf.new _ .none .none vs) ps ?_ (by rw [List.size_toArray]; omega)
  refine ⟨.ref _, _, I5.laid (t' := s4.toks) (o := .tup xs.reverse) (fun b ob q => Heap.get?_push_of_some _ q) (Nat.le_refl _) ?_, rfl, q _ (I5.hok.fresh (Nat.le_refl _))⟩
  exact ⟨by rw [List.length_reverse]; exact hz, _, r.reverse, IsTup.new _ _⟩
/-- a text some times behind itself -/
def rRepS : R2 := fun x y H Q => ∃ (z : Str) (n : Nat), x = .str z ∧ y = .int (n : Int) ∧ 2 ≤ n ∧ n ≤ 1000 ∧ 0 < z.length ∧ z.length ≤ 1000 ∧ (⟨(List.replicate n z.cps).foldl (· ++ ·) #[]⟩ : Str).length ≤ 1000000 ∧ Q (.str ⟨(List.replicate n z.cps).foldl (· ++ ·) #[]⟩) H
theorem op_repS {X : Cx} : OpR X (binaryOp .Mult) rRepS := by
  intro pins s σ H x y v u Q I rx ry h
  obtain ⟨z, n, rfl, rfl, h2, h3, h4, h5, h6, q⟩ := h
  obtain ⟨t, rfl⟩ := rx
  obtain ⟨t', rfl⟩ := ry
  refine P.mul_str ?_ (fun _ _ => ?_) (fun _ _ => ?_) ?_
  · rw [decide_eq_false (by omega), decide_eq_false (by omega)]; rfl
  · have h9 : (2 ^ 63 - 1 : Int) / (n : Int) ≥ (2 ^ 63 - 1 : Int) / 1000 := by
      rw [ge_iff_le, Int.le_ediv_iff_mul_le (by omega)]
      have e : (2 ^ 63 - 1 : Int) / 1000 = 9223372036854775 := by decide
      rw [e]
      omega
    have e : (2 ^ 63 - 1 : Int) / 1000 = 9223372036854775 := by decide
    omega
  · have : z.length * (n : Int).toNat ≤ 1000000 := by
      rw [Int.toNat_natCast]
      exact Nat.le_trans (Nat.mul_le_mul h5 h3) (by decide)
    show decide (z.length * (n : Int).toNat > sizeLine) = false
    rw [sizeLine_eq]
    exact decide_eq_false (by omega)
  · rw [if_neg (by omega), if_neg (by simp; omega), Int.toNat_natCast]
    refine ⟨?_, ?_⟩
    · rw [sizeLine_eq]
      omega
    · exact ⟨.str _, H, I.tok _, ⟨_, rfl⟩, q⟩
/-- f(), f by its promise -/
theorem pe_h0 {X : Cx} {k : Nat} {x : Str} {ps : List Str} {sp : Sp} {p pos : Pos} (D : Has X.prog X.w X.K X.mg X.base k x ps sp) (hr : Room k X.A) (hg : Gl X x) (hdb : (x == ("__debug__" : Str)) = false := by decide) :
    PE X (.Call (.Name x p) [] [] pos) (tCall sp [] E0 tNil) := by
  obtain ⟨f, fd, G, m, kp, b⟩ := D
  exact pe_call0 G hr hg m kp b .nil pass0 hdb
end KQ
set_option Elab.async false
set_option maxRecDepth 100000
set_option maxHeartbeats 4000000
/-! B14: isinstance of a caught error that is one, whatever own dict it has. -/
namespace KQ
section
open PySem PySem.W PySem.Spec PySem.Calls PyProof.Rows
theorem kq_yes {K : Frag} {x t c : Value} {H : Heap → Prop} (ty : ∀ (M : Model) (h : Heap), H h → Looks M h (typeOf x) t) (e : kitOne K t c = some true) : Answers (fun s => K.In s.heap ∧ H s.heap) x c true := by
  rintro dep tk prog w A R ⟨h0, g, d, tt, os⟩ ⟨⟨X, p⟩, hq⟩
  have L := ty (model prog w) h0 p
  have fin : ∀ k, R (.ok (.ret (.bool true))) ⟨h0, g, d, k, os⟩ := fun k => hq k
  unfold Builtin.«isinstance.nested»
  refine wpAny_bind (L.at ?_)
  unfold kitOne at e
  cases q : t == c with
  | true =>
    rw [if_pos rfl]
    exact wpAny_bind (wpAny_rule (wpAny_pure (fin tt)))
  | false =>
    rw [q, if_neg Bool.false_ne_true] at e
    rw [if_neg Bool.false_ne_true]
    obtain ⟨h1, h2, h3⟩ := kit_cls (M := model prog w) X e
    refine wpAny_bind (h1.at ?_)
    rw [if_pos (by decide)]
    k_delta "plainIsInstance"
    refine wpAny_bind (wpAny_bind (h2.at ?_))
    show wpAny _ _ (if (!true) = true then _ else _) _ _ _
    rw [if_neg (by decide)]
    refine wpAny_bind ((L.andThen h3).at ?_)
    show wpAny _ _ (if true = true then _ else _) _ _ _
    rw [if_pos rfl]
    exact wpAny_pure (wpAny_pure (fin tt))
end
open PySem PySem.Spec PyProof.Rows L2
/-- isinstance(e, c), e the exception that the suite holds, of a class by which it is one -/
def rIsY (K : PySem.W.Frag) (a : Addr) (cls : Value) : List V → Hp → VK → Prop := fun xs H Q => ∃ (c : V) (cv : Value), xs = [.ref a, c] ∧ (∀ u, RelV c u → u = cv) ∧ PySem.W.kitOne K cls cv = some true ∧ Q (.bl true) H
theorem call_isY {X : Cx} {a : Addr} {cls : Value} {d : Option Addr} {oe : Obj} {pn : List (Addr × Obj)} (hz : Zc cls d oe) : CallR (X.suite a ((a, oe) :: pn)) (.builtin "isinstance") (rIsY X.K a cls) := by
  intro pins s σ H xs us Q I r h
  obtain ⟨c, cv, rfl, hcv, e, q⟩ := h
  cases r with
  | cons rx rr =>
    cases rr with
    | cons rt rr =>
      cases rr
      cases rx
      have ec := hcv _ rt
      subst ec
      obtain ⟨hget, _⟩ := I.pin (a, oe) (List.mem_append.mpr (.inl List.mem_cons_self))
      have L : ∀ (M : Model) (h : Heap), h.get? a = some oe → PySem.W.Looks M h (typeOf (.ref a)) cls := fun M h g A Q E s k q => wpAny_typeOf_ref (k _ _ g) (by rw [hz.1]; exact q)
      exact call_isinstance (S := fun _ R s => (X.K.In s.heap ∧ s.heap.get? a = some oe) ∧ ∀ tk, R (.ok (.ret (.bool true))) { s with toks := tk })
        (fun prog w A R s hs => isinstance_outer (kq_yes (K := X.K) (H := fun h => h.get? a = some oe) L e 0 _ prog w A R s hs) (fun z => nomatch z)) ⟨⟨I.kIn, hget⟩, fun tk => ⟨.bl true, H, I.kept (t' := tk) fun _ _ z => z, rfl, q⟩⟩
end KQ
set_option Elab.async false
set_option maxRecDepth 100000
set_option maxHeartbeats 4000000
/-! B15: xs[a:] = ys; a method that may raise, where it is known not to. -/
namespace KQ
open PySem PySem.Spec PyProof.Rows L2
section
variable {prog : Program} {w : World} {A : Around} {E : Value → Shared → Prop} {s : Shared}
theorem bounds_tail {a n : Nat} (h : a ≤ n) : sliceBounds (some (a : Int)) none none n = ((a : Int), (n : Int), 1) := by
  simp only [sliceBounds, Option.getD_none]
  have h1 : ¬ ((a : Int) < 0) := by omega
  simp only [h1, if_false, show (1 : Int) > 0 by decide, if_true]
  congr 1
  omega
set_option maxRecDepth 100000 in
theorem setItem_tail {l b sl : Addr} {items new : Array Value} {n n2 : Nat} {vl : Value} {a : Nat} {Q : Unit → Shared → Prop}
    (e : s.heap.get? l = some { cls := .type "list", data := .seq items n }) (e2 : s.heap.get? b = some { cls := .type "list", data := .seq new n2 }) (hne : l ≠ b)
    (hs : s.heap.IsSliceOf sl vl .none .none) (pl : IsPart vl (some (a : Int))) (hc : a ≤ items.size)
    (hsz : items.size + new.size ≤ sizeLine) (h : Q () { s with heap := s.heap.update l (Obj.mapSeq fun xs => xs.extract 0 a ++ new ++ xs.extract items.size xs.size) }) :
    wpAny (model prog w) A (setItem (.ref l) (.ref sl) (.ref b)) Q E s := by
  have hl : s.heap.IsList l items := PySem.IsL.isList e
  have hb : s.heap.IsList b new := PySem.IsL.isList e2
  obtain ⟨os, hos, hcs, hds⟩ := id hs
  have hTs : s.TypeIs (.ref sl) "slice" := ⟨os, hos, hcs⟩
  have hstep : ¬ ((rawPart none == rawInt 0) = true) := Bool.false_ne_true
  have hsame : Builtin.List.listSameRef (.ref l) (.ref b) = false := by
    unfold Builtin.List.listSameRef
    exact beq_eq_false_iff_ne.mpr hne
  have hmax : (max (a : Int) (items.size : Int)).toNat = items.size := by omega
  have hz' : ((fun xs : Array Value => xs.extract 0 a ++ new ++ xs.extract items.size xs.size) items).size ≤ sizeLine + 1 := by
    simp only [Array.size_append, Array.size_extract]
    omega
  unfold setItem
  try with_reducible refine wpAny_holding ?_
  first | refine wpAny_bind (wpAny_pure ?_) | skip
  refine wpAny_bind (wpAny_sequenceKey hl.typeIs (by decide) ?_)
  refine wpAny_bind (wpAny_callSpecial?_slot (name := Str.ofString "__setitem__") hl.typeIs slot_list_setitem
    (wpAny_call_entry slot_list_setitem hl.typeIs entry_list_setitem ?_ (args_list_setitem _ _ _)))
  show wpAny _ _ (Builtin.List.listSubscript? (.ref sl) >>= _) _ _ s
  refine wpAny_bind ?_
  unfold Builtin.List.listSubscript?
  refine wpAny_bind (wpAny_specialOf hTs slice_no_index ?_)
  simp only [Option.isNone_none, if_true]
  refine wpAny_pure ?_
  show wpAny _ _ (typeOf (.ref sl) >>= _) _ _ s
  refine wpAny_bind (wpAny_typeOf hTs ?_)
  first
    | rw [if_neg (by decide)]
    | refine PySem.W.KFB.if_not (by decide) ?_
  rw [listSliceParts_eq]
  refine wpAny_bind (wpAny_bind (wpAny_field hos hds (x := .none) rfl (wpAny_bind (wpAny_listPart .none ?_))))
  rw [if_neg hstep]
  refine wpAny_bind (wpAny_field hos hds (x := vl) rfl (wpAny_bind (wpAny_listPart pl ?_)))
  refine wpAny_bind (wpAny_field hos hds (x := .none) rfl (wpAny_bind (wpAny_listPart .none (wpAny_pure ?_))))
  first
    | simp only [hsame, Bool.false_eq_true, if_false]
    | refine PySem.W.KFB.if_not hsame ?_
    | (dsimp only
       rw [if_neg (by rw [hsame]; exact Bool.false_ne_true)])
  refine wpAny_bind (m := Builtin.List.listAllItems (.ref b) "must assign iterable to extended slice") ?_
  unfold Builtin.List.listAllItems
  refine wpAny_bind (wpAny_typeOf hb.typeIs ?_)
  first
    | refine PySem.W.KFB.if_so (by decide) ?_
    | rw [if_pos (by decide)]
    | simp only [beq_self_eq_true, Bool.true_or, if_true]
  unfold Builtin.List.listItems
  refine wpAny_bind (wpAny_seqItems e2 rfl (wpAny_pure ?_))
  refine wpAny_bind (wpAny_bind (wpAny_seqItems e rfl (wpAny_pure ?_)))
  refine wpAny_bind (wpAny_of_eq ((sliceIndices_raw (some (a : Int)) none none items.size (by simp)).trans (congrArg (pure : Int × Int × Int → Sem (Int × Int × Int)) (bounds_tail hc))) ?_)
  show wpAny _ _ (if ((1 : Int) == 1) = true then _ else _) _ _ s
  rw [if_pos (by decide)]
  refine wpAny_bind (wpAny_rule ?_)
  first
    | simp only [notLongL hsz, Bool.false_eq_true, if_false]
    | refine PySem.W.KFB.if_not (notLongL hsz) ?_
  first | refine wpAny_bind (wpAny_pure ?_) | skip
  show wpAny _ _ (updateSeq l (fun xs => xs.extract 0 ((a : Int)).toNat ++ new ++ xs.extract (max (a : Int) (items.size : Int)).toNat xs.size) >>= _) _ _ s
  rw [hmax, Int.toNat_natCast]
  refine wpAny_bind (wpAny_updateSeq (hz := Nat.le_trans (Nat.le_add_right _ _) hsz) (_hz' := hz') e rfl ?_)
  refine wpAny_bind (wpAny_letGo ?_)
  first
    | exact wpAny_bind (wpAny_pure (wpAny_pure ⟨.none, rfl, wpAny_pure h⟩))
    | exact wpAny_pure ⟨.none, rfl, wpAny_pure h⟩
end
section
variable {X : Cx}
theorem set_tail {pins : List (Addr × Obj)} {s : Shared} {σ : L2.St} {H : Hp} {l b sl : Addr} {xs ys : List V} {a : Int} {vl : Value} {Q : Unit → Shared → Prop} (I : Inv X pins σ H s)
    (hH : H l = some (.lst xs)) (hB : H b = some (.lst ys)) (hne : l ≠ b) (hs : s.heap.IsSliceOf sl vl .none .none) (pl : IsPart vl (some a)) (h0 : 0 ≤ a) (hac : a ≤ xs.length)
    (hz : xs.length + ys.length ≤ sizeLine) (h : ∀ s', Inv X pins σ (upd H l (.lst (xs.take a.toNat ++ ys))) s' → Q () s') :
    wpAny (model X.prog X.w) X.A (setItem (.ref l) (.ref sl) (.ref b)) Q X.xe s := by
  obtain ⟨z, its, n, r, hl, e⟩ := I.lstM hH
  obtain ⟨z2, its2, n2, r2, hl2, e2⟩ := I.lstM hB
  obtain ⟨a', rfl⟩ := Int.eq_ofNat_of_zero_le h0
  simp only [Int.toNat_natCast] at h
  refine setItem_tail (a := a') e e2 hne hs pl (by rw [List.size_toArray]; omega) (by rw [List.size_toArray, List.size_toArray]; omega) (h _ ?_)
  refine I.lset (its' := its.take a' ++ its2) (t' := s.toks) hH e ?_ (Vals.append (r.take _) r2) ?_
  · refine (splice_eq its its2 a' its.toArray.size).trans ?_
    rw [List.size_toArray, List.drop_length, List.append_nil]
  · rw [List.length_append, List.length_take]
    omega
/-- o[a:] = .. -/
def gTail (to : TE) (tl : TO) : TG := fun v σ H Q => to σ H fun o H1 => tl σ H1 fun lo H2 => ∃ (l b : Addr) (xs ys : List V) (a : Int), o = .ref l ∧ lo = some a ∧ v = .ref b ∧ H2 l = some (.lst xs) ∧ H2 b = some (.lst ys) ∧ l ≠ b ∧ 0 ≤ a ∧ a ≤ xs.length ∧ xs.length + ys.length ≤ 16777216 ∧ Q σ (upd H2 l (.lst (xs.take a.toNat ++ ys)))
theorem pg_tail {o : Expr} {lo : Option Expr} {to : TE} {tl : TO} {pos p2 : Pos} (ho : PE X o to) (hl : PO X lo tl)
    (ha : ∀ v, assign (.Subscript o (.Slice lo none none p2) pos) X.env v = (do
      let ov ← holding [v] (eval o X.env)
      let iv ← holding [v, ov] (eval (.Slice lo none none p2) X.env)
      standAt pos
      holding [v, ov, iv] (setItem ov iv v)
      release [iv, v, ov] []) := by intro _; rfl) : PG X (.Subscript o (.Slice lo none none p2) pos) (gTail to tl) := by
  refine ⟨fun pins s σ H v u Q I r h => ?_⟩
  rw [ha]
  refine wpAny_bind (wpAny_holding (thn (ho.run pins s σ H _ I h) fun ov s1 ⟨x, H1, I1, r1, q1⟩ => ?_))
  refine wpAny_bind (wpAny_holding ?_)
  refine wpAny_Slice (thn (hl.run pins s1 σ H1 _ I1 q1) fun vl s2 ⟨l, H2, I2, pl, q2⟩ => ?_)
  rw [evalPart_none]
  refine wpAny_pure ?_
  refine wpAny_pure ?_
  obtain ⟨a, b, xs, ys, i, rfl, rfl, rfl, e1, e2, hne, h0, hac, hz, q⟩ := q2
  cases r1
  cases r
  have I4 : Inv X pins σ H2 { s2 with heap := s2.heap.push { cls := .type "slice", data := .fields #[vl, .none, .none] } } := I2.kept (t' := s2.toks) fun b ob q => Heap.get?_push_of_some _ q
  refine wpAny_bind (wpAny_standAt (wpAny_bind (wpAny_holding ?_)))
  refine set_tail I4 e1 e2 hne (Heap.IsSliceOf.new ..) pl h0 hac (by rw [sizeLine_eq]; exact hz) fun s' I' => ?_
  exact wpAny_release ⟨σ, _, I', q⟩
end
section
variable {X : Cx} {k : Nat} {C : Addr} {x m : Str} {ps : List Str} {sp : Sp} {e o : Expr} {es : List Expr} {p pos apos : Pos} {ta : TE} {t : TA} {pl : Sem Bool}
theorem pe_mXc (D : HasMX X.prog X.w X.K X.mg X.base k C m ps sp) (c : Cls X.K C) (hr : Room k X.A) (ho : PE X o ta) (ha : PA X (e :: es) t)
    (hst : starEach (e :: es) X.env = (false, eval e X.env) :: starEach es X.env := by rfl) (hpl : (backTo pos (starEach es X.env)).any (·.1) = false := by rfl)
    (ht : eval (.Call (.Attribute o m apos) (e :: es) [] pos) X.env = (do
      let ov ← eval o X.env
      standAt apos.atName
      let (f, first) ← holding [ov] (getMethod ov m pl)
      callWith pos f first (backTo pos (starEach (e :: es) X.env)) (backToKw pos (keywordEach [] X.env))) := by rfl) :
    PE X (.Call (.Attribute o m apos) (e :: es) [] pos) (tMeth C m sp [] E0 ta t) := by
  obtain ⟨f, fd, G, M, b⟩ := D
  exact pe_meth ho c M G hr b .nil passL ha hst hpl ht
end
end KQ
set_option Elab.async false
set_option maxRecDepth 100000
set_option maxHeartbeats 4000000
/-! B16: zip of a list and a tuple. -/
namespace KQ
open PySem PySem.Spec PyProof.Rows L2
abbrev zlt1 (h : Heap) (a : Addr) : Heap := h.push { cls := .type "list_iterator", data := .fields #[.ref a, .int 0 0] }
abbrev zlt2 (h : Heap) (a b : Addr) : Heap := (zlt1 h a).push { cls := .type "tuple_iterator", data := .fields #[.ref b, .int 0 0] }
abbrev zlt3 (h : Heap) (a b : Addr) : Heap := (zlt2 h a b).push { cls := .type "tuple", data := .seq #[.ref h.objs.size, .ref (zlt1 h a).objs.size] }
abbrev zlt4 (h : Heap) (a b : Addr) : Heap := (zlt3 h a b).push { cls := .type "tuple", data := .seq #[.none, .none] }
abbrev zlt5 (h : Heap) (a b : Addr) : Heap := (zlt4 h a b).push { cls := .type "zip", data := .fields #[.none, .bool false, .bool false, .ref (zlt2 h a b).objs.size, .ref (zlt3 h a b).objs.size] }
theorem meets_zlt (a b : Addr) (xs ys : Array Value) :
    Meets (Builtin.«zip.__new__» ⟨[.type "zip", .ref a, .ref b], []⟩) (fun _ R s => s.heap.IsList a xs ∧ s.heap.IsTuple b ys ∧
      R (.ok (.ret (.ref (zlt4 s.heap a b).objs.size))) { s with heap := zlt5 s.heap a b }) :=
  .of_wp fun prog w A R s h => by
    obtain ⟨hp, g, d, tk, os⟩ := s; obtain ⟨ha, hb, h⟩ := h
    have hsub := sub_zip
    have hA : Heap.IsList (Shared.heap ⟨hp, g, d, tk, os⟩) a xs := ha
    have hB : Heap.IsTuple (Shared.heap ⟨hp.push { cls := .type "list_iterator", data := .fields #[.ref a, .int 0 0] }, g, d, tk, os⟩) b ys := Heap.IsTuple.push hb _
    wp_walk using wpAny_pyIter_list hA, wpAny_pyIter_tuple hB
    exact ⟨_, rfl, h⟩
section
variable {prog : Program} {w : World} {A : Around} {E : Value → Shared → Prop} {s : Shared}
theorem call_zlt {a b : Addr} {xs ys : Array Value} {Q : Value → Shared → Prop} (ha : s.heap.IsList a xs) (hb : s.heap.IsTuple b ys)
    (h : ∀ h', IsZip h' (s.heap.objs.size + 4) (s.heap.objs.size + 2) (s.heap.objs.size + 3) .none → IsPair h' (s.heap.objs.size + 2) (.ref s.heap.objs.size) (.ref (s.heap.objs.size + 1)) →
      IsPair h' (s.heap.objs.size + 3) .none .none → h'.IsListIter s.heap.objs.size a 0 → h'.IsTupleIter (s.heap.objs.size + 1) b 0 →
      (∀ c o, s.heap.get? c = some o → h'.get? c = some o) → Q (.ref (s.heap.objs.size + 4)) { s with heap := h' }) :
    wpAny (model prog w) A (call (.type "zip") [.ref a, .ref b]) Q E s := by
  refine callType_new F.called_zip (by decide) (F.typeCall_zip_2 _ _) (F.newCall_zip_2 _ _) (fun obj => F.args_object_init_3 obj _ _) F.entry_zip_new (meets_zlt a b xs ys) ⟨ha, hb, ?_⟩
  have n1 : (zlt1 s.heap a).objs.size = s.heap.objs.size + 1 := Heap.size_push ..
  have n2 : (zlt2 s.heap a b).objs.size = s.heap.objs.size + 2 := by rw [Heap.size_push, n1]
  have n3 : (zlt3 s.heap a b).objs.size = s.heap.objs.size + 3 := by rw [Heap.size_push, n2]
  have n4 : (zlt4 s.heap a b).objs.size = s.heap.objs.size + 4 := by rw [Heap.size_push, n3]
  have up4 : ∀ c o, (zlt4 s.heap a b).get? c = some o → (zlt5 s.heap a b).get? c = some o := fun c o e => Heap.get?_push_of_some _ e
  have up3 : ∀ c o, (zlt3 s.heap a b).get? c = some o → (zlt5 s.heap a b).get? c = some o := fun c o e => up4 c o (Heap.get?_push_of_some _ e)
  have up2 : ∀ c o, (zlt2 s.heap a b).get? c = some o → (zlt5 s.heap a b).get? c = some o := fun c o e => up3 c o (Heap.get?_push_of_some _ e)
  have up1 : ∀ c o, (zlt1 s.heap a).get? c = some o → (zlt5 s.heap a b).get? c = some o := fun c o e => up2 c o (Heap.get?_push_of_some _ e)
  have g5 : (zlt5 s.heap a b).get? (zlt4 s.heap a b).objs.size = some _ := Heap.get?_push_size _ rfl
  have g4 : (zlt5 s.heap a b).get? (zlt3 s.heap a b).objs.size = some _ := up4 _ _ (Heap.get?_push_size _ rfl)
  have g3 : (zlt5 s.heap a b).get? (zlt2 s.heap a b).objs.size = some _ := up3 _ _ (Heap.get?_push_size _ rfl)
  have g2 : (zlt5 s.heap a b).get? (zlt1 s.heap a).objs.size = some _ := up2 _ _ (Heap.get?_push_size _ rfl)
  have g1 : (zlt5 s.heap a b).get? s.heap.objs.size = some _ := up1 _ _ (Heap.get?_push_size _ rfl)
  show _ ∧ _
  rw [n2, n3, n4] at g5
  rw [n1, n2] at g3
  rw [n3] at g4
  rw [n1] at g2
  rw [n4]
  exact ⟨⟨_, g5, rfl⟩, h _ g5 g3 g4 ⟨_, g1, rfl, rfl⟩ ⟨_, g2, rfl, rfl⟩ fun c o e => up1 c o (Heap.get?_push_of_some _ e)⟩
end
/-- the list at a and the tuple at b as they stand at each turn, the items in new pairs -/
def ItzM (K : PySem.W.Frag) (a b : Addr) : It :=
  ⟨fun i H => ∃ (xs ys : List V) (x y : V), SqL K H a xs ∧ SqT K H b ys ∧ xs[i]? = some x ∧ ys[i]? = some y,
    fun i H v H' => ∃ T x y, v = .ref T ∧ H T = none ∧ H' = upd H T (.tup [x, y]) ∧ (∀ xs, SqL K H a xs → xs[i]? = some x) ∧ ∀ ys, SqT K H b ys → ys[i]? = some y,
    fun i H => ∃ xs ys : List V, SqL K H a xs ∧ SqT K H b ys ∧ i ≤ xs.length ∧ i ≤ ys.length ∧ (i = xs.length ∨ i = ys.length)⟩
theorem sep_of {z TI TO i1 i2 a b : Addr} (D : ZipApart z TI TO i1 i2 a b) : ZipSep2 z TI TO i1 i2 [i1, a] [i2, b] where
  TIz := D.TIz
  TOz := D.TOz
  TITO := D.TITO
  TIi1 := D.TIi1
  mem1 := by simp
  zf1 := by have := D.i1z; have := D.l1z; simp only [List.mem_cons, List.not_mem_nil, or_false, not_or]; exact ⟨D.i1z.symm, D.l1z.symm⟩
  Tf1 := by simp only [List.mem_cons, List.not_mem_nil, or_false, not_or]; exact ⟨D.TOi1, D.l1TO.symm⟩
  TIi2 := D.TIi2
  mem2 := by simp
  zf2 := by simp only [List.mem_cons, List.not_mem_nil, or_false, not_or]; exact ⟨D.i2z.symm, D.l2z.symm⟩
  Tf2 := by simp only [List.mem_cons, List.not_mem_nil, or_false, not_or]; exact ⟨D.TOi2, D.l2TO.symm⟩
  sep1_2 := by simp only [List.mem_cons, List.not_mem_nil, or_false, not_or]; exact ⟨D.i12, D.l2i1.symm⟩
  sep2_1 := by simp only [List.mem_cons, List.not_mem_nil, or_false, not_or]; exact ⟨D.i12.symm, D.l1i2.symm⟩
theorem turn_zlt {P : Program} {w : World} {K : PySem.W.Frag} {elts : List Expr} {kk : Nat} {tpos : Pos} {a b z TI TO i1 i2 : Addr} (D : ZipApart z TI TO i1 i2 a b) :
    Turn P w K (.Tuple elts kk tpos) (ItzM K a b) [z, TI, TO, i1, i2] z (fun i h => IsZip h z TI TO .none ∧ IsPair h TI (.ref i1) (.ref i2) ∧ (∃ x y, IsPair h TO x y) ∧ h.IsListIter i1 a i ∧ h.IsTupleIter i2 b i) where
  mem := by simp
  obj := fun i h st c hc => by
    obtain ⟨hz, hTI, ⟨x, y, hTO⟩, ⟨o1, e1, _, d1⟩, ⟨o2, e2, _, d2⟩⟩ := st
    simp only [List.mem_cons, List.not_mem_nil, or_false] at hc
    rcases hc with rfl | rfl | rfl | rfl | rfl
    · exact ⟨_, hz, fun v q => nomatch q⟩
    · exact ⟨_, hTI, fun v q => nomatch q⟩
    · exact ⟨_, hTO, fun v q => nomatch q⟩
    · exact ⟨o1, e1, fun v q => by rw [d1] at q; cases q⟩
    · exact ⟨o2, e2, fun v q => by rw [d2] at q; cases q⟩
  keep := fun i h h' st k => by
    obtain ⟨hz, hTI, ⟨x, y, hTO⟩, h1, h2⟩ := st
    exact ⟨k z (by simp) _ hz, k TI (by simp) _ hTI, ⟨x, y, k TO (by simp) _ hTO⟩, h1.at fun o q => k i1 (by simp) o q, h2.at fun o q => k i2 (by simp) o q⟩
  item := by
    intro X hP hw hK hc i pins s σ H E I hf st hg
    subst hP hw hK
    obtain ⟨hz, hTI, ⟨x0, y0, hTO⟩, h1, h2⟩ := st
    obtain ⟨xs, ys, x, y, hqx, hqy, hx, hy⟩ := hg
    obtain ⟨its, rv, p, _⟩ := I.list hqx
    obtain ⟨its2, rv2, p2, _⟩ := I.tuple hqy
    obtain ⟨u, hu, ru⟩ := rv.get hx
    obtain ⟨u2, hu2, ru2⟩ := rv2.get hy
    have hzl : z < s.heap.objs.size := Heap.lt_size hz
    have ha : X.A.in1.handled = none := I.ok.hd hc
    have lx : i < its.toArray.size := by have := (List.getElem?_eq_some_iff.mp hu).1; simpa using this
    have ly : i < its2.toArray.size := by have := (List.getElem?_eq_some_iff.mp hu2).1; simpa using this
    refine wpAny_pyNext_zipD2_item (sep_of D) (Draws.list ha i1 a D.l1i1 its.toArray) (Draws.tuple ha i2 b D.l2i2 its2.toArray) hz hTI hTO ⟨h1, p.isList⟩ ⟨h2, p2⟩ lx ly fun w1 w2 h' tk e1 e2 z' TO' st1 st2 hT hsz hk => ?_
    obtain rfl : u = w1 := by rw [List.getElem?_toArray] at e1; exact Option.some.inj (hu.symm.trans e1)
    obtain rfl : u2 = w2 := by rw [List.getElem?_toArray] at e2; exact Option.some.inj (hu2.symm.trans e2)
    refine ⟨_, rfl, wpAny_letOwnedTupleGo_zip (s := { s with heap := h', toks := tk }) z' fun h'' z'' sb => ?_⟩
    have hT2 : h''.get? s.heap.objs.size = some { cls := .type "tuple", data := .seq #[u, u2] } := (sb.2 _ (Nat.ne_of_gt hzl)).trans hT
    have new : ObjOk X.prog X.w (upd H s.heap.objs.size (.tup [x, y])) h'' s.heap.objs.size (.tup [x, y]) := ⟨by show 2 ≤ sizeLine; decide, [u, u2], .cons ru (.cons ru2 .nil), ⟨_, hT2, rfl, _, rfl⟩⟩
    have I1 : Inv X pins σ (upd H s.heap.objs.size (.tup [x, y])) { s with heap := h'', toks := tk } :=
      I.turnedNew (t' := tk) (ch := [z, TI, TO, i1, i2]) (fun c o hb q => by
        simp only [List.mem_cons, List.not_mem_nil, or_false, not_or] at hb
        exact (sb.2 c hb.1).trans (hk c o hb.1 hb.2.2.1 hb.2.2.2.1 hb.2.2.2.2 q)) hf (Nat.le_refl _) new
    refine ⟨.ref s.heap.objs.size, _, I1, rfl, ⟨_, x, y, rfl, I.hok.fresh (Nat.le_refl _), rfl, fun l hl => by rw [I.list_inj hl hqx]; exact hx, fun l hl => by rw [I.tuple_inj hl hqy]; exact hy⟩, ⟨z'', ?_, ⟨u, u2, ?_⟩, ?_, ?_⟩, fun c hcm => ?_⟩
    · exact (sb.2 _ D.TIz).trans (hk _ _ D.TIz D.TITO D.TIi1 D.TIi2 hTI)
    · exact (sb.2 _ D.TOz).trans TO'
    · exact st1.1.at fun o q => (sb.2 _ D.i1z).trans q
    · exact st2.1.at fun o q => (sb.2 _ D.i2z).trans q
    · have hlt : c < s.heap.objs.size := by
        obtain ⟨o1, f1, _⟩ := h1
        obtain ⟨o2, f2, _⟩ := h2
        simp only [List.mem_cons, List.not_mem_nil, or_false] at hcm
        rcases hcm with rfl | rfl | rfl | rfl | rfl
        · exact hzl
        · exact Heap.lt_size hTI
        · exact Heap.lt_size hTO
        · exact Heap.lt_size f1
        · exact Heap.lt_size f2
      rw [upd_ne (Nat.ne_of_lt hlt)]
      exact (hf c hcm).1
  done := by
    intro X hP hw hK hc i pins s σ H E I hf st hg
    subst hP hw hK
    obtain ⟨hz, hTI, ⟨x0, y0, hTO⟩, h1, h2⟩ := st
    obtain ⟨xs, ys, hqx, hqy, le1, le2, hend⟩ := hg
    obtain ⟨its, rv, p, _⟩ := I.list hqx
    obtain ⟨its2, rv2, p2, _⟩ := I.tuple hqy
    have l1 := rv.length
    have l2 := rv2.length
    have ha : X.A.in1.handled = none := I.ok.hd hc
    refine wpAny_pyNext_zipD2_end (sep_of D) (Draws.list ha i1 a D.l1i1 its.toArray) (Draws.tuple ha i2 b D.l2i2 its2.toArray) hz hTI hTO ⟨h1, p.isList⟩ ⟨h2, p2⟩ (by rw [List.size_toArray]; omega) (by rw [List.size_toArray]; omega) (by rw [List.size_toArray, List.size_toArray]; omega) fun h' tk hk => ⟨rfl, ?_⟩
    exact I.turnedL (t' := tk) (ch := [z, TI, TO, i1, i2]) (fun c o hb q => by
      simp only [List.mem_cons, List.not_mem_nil, or_false, not_or] at hb
      exact hk c o hb.1 hb.2.2.1 hb.2.2.2.1 hb.2.2.2.2 q) hf
  self := fun A i s Q E st h => wpAny_pyIter_zip st.1 h
def iZipM (K : PySem.W.Frag) (ta : TA) : TI := fun σ H R => ta σ H fun vs H1 => ∃ a b xs ys, vs = [.ref a, .ref b] ∧ SqL K H1 a xs ∧ SqT K H1 b ys ∧ R (ItzM K a b) H1
theorem pi_zipM {X : Cx} {e e2 : Expr} {ta : TA} {p pos tpos : Pos} {elts : List Expr} {kk : Nat} (hg : Gl X "zip") (hm : X.mg "zip" = none) (ha : PA X [e, e2] ta)
    (hs : starEach [e, e2] X.env = (false, eval e X.env) :: starEach [e2] X.env := by rfl) (hpl : (backTo pos (starEach [e2] X.env)).any (·.1) = false := by rfl) :
    PI X (.Tuple elts kk tpos) (.Call (.Name "zip" p) [e, e2] [] pos) (iZipM X.K ta) := by
  refine ⟨fun pins s σ H R I h => ?_⟩
  refine Call_ (ld_blt I hg hm PyProof.Rows.boot_zip (PyProof.Rows.callWith_type1 (thn (ha.run pos pins s σ H _ I h) fun us s1 ⟨vs, H1, I1, r1, q1⟩ => ?_) hs hpl))
  obtain ⟨a, b, xs, ys, rfl, hqx, hqy, q⟩ := q1
  cases r1 with
  | cons r rr =>
    cases rr with
    | cons r' rr =>
      cases rr
      cases r
      cases r'
      obtain ⟨its, rv, p1, _⟩ := I1.list hqx
      obtain ⟨its2, rv2, p2, _⟩ := I1.tuple hqy
      obtain ⟨o2, ho2, _⟩ := id p2
      refine call_zlt p1.isList (show s1.heap.IsTuple b its2.toArray from p2) fun h' hz hTI hTO h1 h2 hk => wpAny_pyIter_zip hz ?_
      have I2 : Inv X pins σ H1 { s1 with heap := h' } := I1.kept (t' := s1.toks) hk
      refine ⟨s1.heap.objs.size + 4, [s1.heap.objs.size + 4, s1.heap.objs.size + 2, s1.heap.objs.size + 3, s1.heap.objs.size, s1.heap.objs.size + 1], _, _, H1, rfl, I2, turn_zlt (PySem.W.ktu_apart s1.heap.objs.size a b p1.lt (Heap.lt_size ho2)), ⟨hz, hTI, ⟨_, _, hTO⟩, h1, h2⟩, fun c hcm => ?_, q⟩
      have hle : s1.heap.objs.size ≤ c := by
        simp only [List.mem_cons, List.not_mem_nil, or_false] at hcm
        rcases hcm with rfl | rfl | rfl | rfl | rfl
        all_goals first | exact Nat.le_refl _ | exact Nat.le_add_right _ _
      exact I1.fpOk hle (I1.hok.fresh hle)
theorem walk_zlt {K : PySem.W.Frag} {a b : Addr} {xs ys : List V} {n : Nat} (hn : n = min xs.length ys.length) : Walk (ItzM K a b) n (fun H => SqL K H a xs ∧ SqT K H b ys) (YPair (fun i => xs[i]?) (fun i => ys[i]?)) := by
  subst hn
  refine ⟨fun i _ hi q => ?_, fun _ q => ⟨xs, ys, q.1, q.2, by omega, by omega, by omega⟩, fun i H v H' _ q y => ?_⟩
  · have h1 : i < xs.length := by omega
    have h2 : i < ys.length := by omega
    exact ⟨xs, ys, xs[i], ys[i], q.1, q.2, by simp [h1], by simp [h2]⟩
  · obtain ⟨T, x, z, h1, h2, h3, h4, h5⟩ := y
    exact ⟨T, x, z, h1, h2, h3, h4 xs q.1, h5 ys q.2⟩
end KQ
set_option Elab.async false
set_option maxRecDepth 100000
set_option maxHeartbeats 4000000
/-! B17: sorted of a dict of ints, any number of them. -/
namespace KQ
open PySem PySem.Spec PyProof.Rows L2
section
variable {X : Cx}
theorem call_sortedDA (hcalm : X.calm = true) : CallR X (.builtin "sorted") (fun xs H Q => ∃ (a : Addr) (kvs : List (Key × V)) (ks : List Int), xs = [.ref a] ∧ Rd H a (.dK kvs) ∧ kvs.map (·.1) = ks.map Sum.inl ∧ ks.length ≤ 16777216 ∧
    ∀ (ys : List Int) (p : Addr), ys.Perm ks → ys.Pairwise (· ≤ ·) → H p = none → Q (.ref p) (upd H p (.lst (ys.map V.int)))) := by
  intro pins s σ H xs us Q I r q
  obtain ⟨a, kvs, ks, rfl, hd, hks, hz, q⟩ := q
  obtain ⟨u, rfl, rx⟩ := vals1 r
  cases rx
  obtain ⟨z, lo, vs, rel, dd⟩ := dk_rd I.hok hd
  obtain ⟨ep, hat⟩ := dd.dictAt
  have hkeys : vs.map (·.1) = ks.map Sum.inl := rel.keys.symm.trans hks
  have hl : vs.length = ks.length := by simpa using congrArg List.length hkeys
  refine Calls.call_function_entry PyProof.Rows.kind_sorted PyProof.Rows.plain_sorted PyProof.Rows.entry_sorted (PyProof.Rows.args_sorted1 _) ?_
  unfold Builtin.«sorted»
  refine wpAny_bind (m := checkCount "sorted" 1 1 _) (wpAny_pure ?_)
  refine wpAny_bind (PySem.W.kdu_collect (A := X.A.in1) (PySem.W.kdl_dict (knd := mixKind X.prog X.w) (kvs := vs) (ep := ep) lo) (I.ok.hd hcalm) hat (by rw [hl, sizeLine_eq]; exact hz) fun h' tk acc hk hacc => ?_)
  have hal : acc.toList.length = ks.length := by rw [Array.length_toList, hacc.1, hl]
  have hS : IntsAre acc.toList ks := ints_each hal fun j v e => by
    obtain ⟨k, x, e1, e2⟩ := hacc.2 j v (by rw [← Array.getElem?_toList]; exact e)
    have e3 : (vs.map (·.1))[j]? = some k := by rw [List.getElem?_map, e1]; rfl
    rw [hkeys, List.getElem?_map] at e3
    obtain ⟨y, e4, rfl⟩ := Option.map_eq_some_iff.mp e3
    rcases keyIs_shape (show keyIs (Sum.inl y) v = true from e2) with ⟨i, t, ek, ev⟩ | ⟨z, t, ek, ev⟩
    · cases ek
      exact ⟨y, t, e4, ev⟩
    · cases ek
  have I1 : Inv X pins σ H { s with heap := h', toks := tk } := I.kept hk
  refine wpAny_bind (wpAny_newList ?_ (by rw [hal, sizeLine_eq]; exact hz))
  have hoL : (h'.push (seqObj "list" acc.toList.toArray 0)).get? h'.objs.size = some (seqObj "list" acc.toList.toArray 0) := Heap.get?_push_size _ rfl
  show wpAny _ _ _ _ _ { s with heap := h'.push (seqObj "list" acc.toList.toArray 0), toks := tk }
  refine wpAny_bind (wpAny_holding (wpAny_call_entry PyProof.Rows.slot_list_sort ⟨_, hoL, rfl⟩ PyProof.Rows.entry_list_sort
    (SrtO.list_sort_ord (s := { s with heap := h'.push (seqObj "list" acc.toList.toArray 0), toks := tk }) SrtO.swo_int hoL (by rw [hal, sizeLine_eq]; exact hz) (fun h2 => SrtO.ints_sortable hS h2) fun out h1 h2 => ⟨_, rfl, ?_⟩) (PyProof.Rows.args_list_sort _)))
  obtain ⟨k1, k2, k3⟩ := SrtO.ints_out hS h1 h2
  obtain ⟨e', he'⟩ := PyProof.Rows.sortedHeap_at (vs := acc.toList) (out := out.toArray) hoL
  have hlen : ((out.map SrtO.iv).map V.int).length ≤ sizeLine := by rw [List.length_map, k2.length_eq, sizeLine_eq]; exact hz
  refine wpAny_pure ⟨_, rfl, .ref h'.objs.size, upd H h'.objs.size (.lst ((out.map SrtO.iv).map V.int)), I1.laid (t' := tk) (fun b u e => ?_) (Nat.le_refl _)
    (show ObjOk X.prog X.w _ _ _ (.lst ((out.map SrtO.iv).map V.int)) from ⟨hlen, out, e', vals_of_ints k1, he'⟩), rfl, q _ _ k2 k3 (I1.hok.fresh (Nat.le_refl _))⟩
  have hb : b < h'.objs.size := Heap.lt_size e
  rw [PyProof.Rows.sortedHeap_old (Nat.ne_of_lt hb) (by rw [size_push']; exact Nat.lt_succ_of_lt hb)]
  exact Heap.get?_push_of_some _ e
end
end KQ
set_option Elab.async false
set_option maxRecDepth 100000
set_option maxHeartbeats 4000000
namespace KQ
open PySem PySem.Spec PyProof.Rows L2
def top (i : Nat) : Stmt := PySem.Challenge.pw_knownquiet_k12_whole_states_by_own_deeds.main.body.getD i (.Pass ⟨0, 0, 0, 0⟩)
abbrev s_BadWorks___init__ : Stmt := inClass (top 2) 0
theorem sc_BadWorks___init__ : FnScope ["self", "part"] ["self", "part"] (defScope s_BadWorks___init__) := ⟨rfl, rfl, rfl, by decide +kernel, rfl, by decide +kernel, by decide +kernel⟩
abbrev s_is_number : Stmt := top 10
theorem sc_is_number : FnScope ["thing"] ["thing"] (defScope s_is_number) := ⟨rfl, rfl, rfl, by decide +kernel, rfl, by decide +kernel, by decide +kernel⟩
abbrev s_is_below : Stmt := top 11
theorem sc_is_below : FnScope ["bound", "thing"] ["bound", "thing"] (defScope s_is_below) := ⟨rfl, rfl, rfl, by decide +kernel, rfl, by decide +kernel, by decide +kernel⟩
abbrev s_is_flag : Stmt := top 12
theorem sc_is_flag : FnScope ["thing"] ["thing"] (defScope s_is_flag) := ⟨rfl, rfl, rfl, by decide +kernel, rfl, by decide +kernel, by decide +kernel⟩
abbrev s_is_tuple_of : Stmt := top 13
theorem sc_is_tuple_of : FnScope ["many", "thing"] ["many", "thing"] (defScope s_is_tuple_of) := ⟨rfl, rfl, rfl, by decide +kernel, rfl, by decide +kernel, by decide +kernel⟩
abbrev s_rises : Stmt := top 14
theorem sc_rises : FnScope ["items", "one", "other"] ["items"] (defScope s_rises) := ⟨rfl, rfl, rfl, by decide +kernel, rfl, by decide +kernel, by decide +kernel⟩
abbrev s_is_lot : Stmt := top 15
theorem sc_is_lot : FnScope ["thing", "item"] ["thing"] (defScope s_is_lot) := ⟨rfl, rfl, rfl, by decide +kernel, rfl, by decide +kernel, by decide +kernel⟩
abbrev s_with_item : Stmt := top 16
theorem sc_with_item : FnScope ["items", "at", "item"] ["items", "at", "item"] (defScope s_with_item) := ⟨rfl, rfl, rfl, by decide +kernel, rfl, by decide +kernel, by decide +kernel⟩
abbrev s_is_share : Stmt := top 19
theorem sc_is_share : FnScope ["thing"] ["thing"] (defScope s_is_share) := ⟨rfl, rfl, rfl, by decide +kernel, rfl, by decide +kernel, by decide +kernel⟩
abbrev s_is_some_share : Stmt := top 20
theorem sc_is_some_share : FnScope ["thing"] ["thing"] (defScope s_is_some_share) := ⟨rfl, rfl, rfl, by decide +kernel, rfl, by decide +kernel, by decide +kernel⟩
abbrev s_added : Stmt := top 21
theorem sc_added : FnScope ["one", "other", "both"] ["one", "other"] (defScope s_added) := ⟨rfl, rfl, rfl, by decide +kernel, rfl, by decide +kernel, by decide +kernel⟩
abbrev s_merged : Stmt := top 22
theorem sc_merged : FnScope ["shares", "there", "share", "number", "place"] ["shares"] (defScope s_merged) := ⟨rfl, rfl, rfl, by decide +kernel, rfl, by decide +kernel, by decide +kernel⟩
abbrev s_halved : Stmt := top 23
theorem sc_halved : FnScope ["share", "number"] ["share"] (defScope s_halved) := ⟨rfl, rfl, rfl, by decide +kernel, rfl, by decide +kernel, by decide +kernel⟩
abbrev s_Works___init__ : Stmt := inClass (top 29) 0
theorem sc_Works___init__ : FnScope ["self", "many", "rules", "number", "rule"] ["self", "many", "rules"] (defScope s_Works___init__) := ⟨rfl, rfl, rfl, by decide +kernel, rfl, by decide +kernel, by decide +kernel⟩
abbrev s_Works___eq__ : Stmt := inClass (top 29) 1
theorem sc_Works___eq__ : FnScope ["self", "other"] ["self", "other"] (defScope s_Works___eq__) := ⟨rfl, rfl, rfl, by decide +kernel, rfl, by decide +kernel, by decide +kernel⟩
abbrev s_is_rule : Stmt := top 30
theorem sc_is_rule : FnScope ["many", "kinds", "thing", "pair"] ["many", "kinds", "thing"] (defScope s_is_rule) := ⟨rfl, rfl, rfl, by decide +kernel, rfl, by decide +kernel, by decide +kernel⟩
abbrev s_is_rule_pair : Stmt := top 31
theorem sc_is_rule_pair : FnScope ["many", "kinds", "thing"] ["many", "kinds", "thing"] (defScope s_is_rule_pair) := ⟨rfl, rfl, rfl, by decide +kernel, rfl, by decide +kernel, by decide +kernel⟩
abbrev s_is_house : Stmt := top 32
theorem sc_is_house : FnScope ["works", "thing"] ["works", "thing"] (defScope s_is_house) := ⟨rfl, rfl, rfl, by decide +kernel, rfl, by decide +kernel, by decide +kernel⟩
abbrev s_is_task : Stmt := top 33
theorem sc_is_task : FnScope ["works", "thing"] ["works", "thing"] (defScope s_is_task) := ⟨rfl, rfl, rfl, by decide +kernel, rfl, by decide +kernel, by decide +kernel⟩
abbrev s_are_tasks : Stmt := top 34
theorem sc_are_tasks : FnScope ["works", "thing", "item"] ["works", "thing"] (defScope s_are_tasks) := ⟨rfl, rfl, rfl, by decide +kernel, rfl, by decide +kernel, by decide +kernel⟩
abbrev s_check_house : Stmt := top 35
theorem sc_check_house : FnScope ["works", "house"] ["works", "house"] (defScope s_check_house) := ⟨rfl, rfl, rfl, by decide +kernel, rfl, by decide +kernel, by decide +kernel⟩
abbrev s_check_task : Stmt := top 36
theorem sc_check_task : FnScope ["works", "task"] ["works", "task"] (defScope s_check_task) := ⟨rfl, rfl, rfl, by decide +kernel, rfl, by decide +kernel, by decide +kernel⟩
abbrev s_sent_by : Stmt := top 37
theorem sc_sent_by : FnScope ["works", "house", "task", "kind", "fuel", "step", "sent"] ["works", "house", "task"] (defScope s_sent_by) := ⟨rfl, rfl, rfl, by decide +kernel, rfl, by decide +kernel, by decide +kernel⟩
abbrev s_many_tasks : Stmt := top 38
theorem sc_many_tasks : FnScope ["works", "task", "kind", "fuel"] ["works", "task"] (defScope s_many_tasks) := ⟨rfl, rfl, rfl, by decide +kernel, rfl, by decide +kernel, by decide +kernel⟩
abbrev s_many_by_fuel : Stmt := top 39
theorem sc_many_by_fuel : FnScope ["works", "rows", "_", "below", "pair", "rule"] ["works"] (defScope s_many_by_fuel) := ⟨rfl, rfl, rfl, by decide +kernel, rfl, by decide +kernel, by decide +kernel⟩
abbrev s_begun : Stmt := top 49
theorem sc_begun : FnScope ["works", "house"] ["works", "house"] (defScope s_begun) := ⟨rfl, rfl, rfl, by decide +kernel, rfl, by decide +kernel, by decide +kernel⟩
abbrev s_is_word : Stmt := top 50
theorem sc_is_word : FnScope ["works", "thing", "name", "rest"] ["works", "thing"] (defScope s_is_word) := ⟨rfl, rfl, rfl, by decide +kernel, rfl, by decide +kernel, by decide +kernel⟩
abbrev s_is_sign : Stmt := top 51
theorem sc_is_sign : FnScope ["thing"] ["thing"] (defScope s_is_sign) := ⟨rfl, rfl, rfl, by decide +kernel, rfl, by decide +kernel, by decide +kernel⟩
abbrev s_is_parent : Stmt := top 52
theorem sc_is_parent : FnScope ["works", "house", "thing"] ["works", "house", "thing"] (defScope s_is_parent) := ⟨rfl, rfl, rfl, by decide +kernel, rfl, by decide +kernel, by decide +kernel⟩
abbrev s_is_state : Stmt := top 53
theorem sc_is_state : FnScope ["works", "house", "thing", "bag", "parent", "deficit", "sent", "told", "black", "sign", "share", "said", "item"] ["works", "house", "thing"] (defScope s_is_state) := ⟨rfl, rfl, rfl, by decide +kernel, rfl, by decide +kernel, by decide +kernel⟩
abbrev s_gifted : Stmt := top 54
theorem sc_gifted : FnScope ["works", "state", "task", "bag", "parent", "deficit", "sent", "told", "black", "sign", "share", "_"] ["works", "state", "task"] (defScope s_gifted) := ⟨rfl, rfl, rfl, by decide +kernel, rfl, by decide +kernel, by decide +kernel⟩
abbrev s_check_gift : Stmt := top 55
theorem sc_check_gift : FnScope ["works", "task"] ["works", "task"] (defScope s_check_gift) := ⟨rfl, rfl, rfl, by decide +kernel, rfl, by decide +kernel, by decide +kernel⟩
abbrev s_done : Stmt := top 56
theorem sc_done : FnScope ["works", "house", "state", "bag", "parent", "deficit", "sent", "told", "black", "sign", "share", "said", "letters", "many", "out", "to", "task", "behind"] ["works", "house", "state"] (defScope s_done) := ⟨rfl, rfl, rfl, by decide +kernel, rfl, by decide +kernel, by decide +kernel⟩
abbrev s_ended : Stmt := top 57
theorem sc_ended : FnScope ["house", "state", "out", "bag", "parent", "deficit", "sent", "told", "black", "sign", "share", "said"] ["house", "state", "out"] (defScope s_ended) := ⟨rfl, rfl, rfl, by decide +kernel, rfl, by decide +kernel, by decide +kernel⟩
abbrev s_heard : Stmt := top 58
theorem sc_heard : FnScope ["works", "house", "state", "sender", "word"] ["works", "house", "state", "sender", "word"] (defScope s_heard) := ⟨rfl, rfl, rfl, by decide +kernel, rfl, by decide +kernel, by decide +kernel⟩
abbrev s_heard_word : Stmt := top 59
theorem sc_heard_word : FnScope ["house", "state", "sender", "word", "name"] ["house", "state", "sender", "word"] (defScope s_heard_word) := ⟨rfl, rfl, rfl, by decide +kernel, rfl, by decide +kernel, by decide +kernel⟩
abbrev s_heard_task : Stmt := top 60
theorem sc_heard_task : FnScope ["house", "state", "sender", "word", "bag", "parent", "deficit", "sent", "told", "_", "sign", "share", "said", "out"] ["house", "state", "sender", "word"] (defScope s_heard_task) := ⟨rfl, rfl, rfl, by decide +kernel, rfl, by decide +kernel, by decide +kernel⟩
abbrev s_heard_answer : Stmt := top 61
theorem sc_heard_answer : FnScope ["house", "state", "bag", "parent", "deficit", "sent", "told", "black", "sign", "share", "said"] ["house", "state"] (defScope s_heard_answer) := ⟨rfl, rfl, rfl, by decide +kernel, rfl, by decide +kernel, by decide +kernel⟩
abbrev s_with_sign : Stmt := top 62
theorem sc_with_sign : FnScope ["state", "sign"] ["state", "sign"] (defScope s_with_sign) := ⟨rfl, rfl, rfl, by decide +kernel, rfl, by decide +kernel, by decide +kernel⟩
abbrev s_with_share : Stmt := top 63
theorem sc_with_share : FnScope ["state", "share", "both"] ["state", "share"] (defScope s_with_share) := ⟨rfl, rfl, rfl, by decide +kernel, rfl, by decide +kernel, by decide +kernel⟩
abbrev s_can_pass : Stmt := top 64
theorem sc_can_pass : FnScope ["state"] ["state"] (defScope s_can_pass) := ⟨rfl, rfl, rfl, by decide +kernel, rfl, by decide +kernel, by decide +kernel⟩
abbrev s_passed : Stmt := top 65
theorem sc_passed : FnScope ["works", "house", "state", "bag", "parent", "deficit", "sent", "told", "black", "sign", "share", "_", "all_sent", "all_told", "stained", "behind"] ["works", "house", "state"] (defScope s_passed) := ⟨rfl, rfl, rfl, by decide +kernel, rfl, by decide +kernel, by decide +kernel⟩
abbrev s_says : Stmt := top 66
theorem sc_says : FnScope ["works", "state"] ["works", "state"] (defScope s_says) := ⟨rfl, rfl, rfl, by decide +kernel, rfl, by decide +kernel, by decide +kernel⟩
abbrev s_law_hand : Stmt := top 68
theorem sc_law_hand : FnScope ["script", "cell"] ["script"] (defScope s_law_hand) := ⟨rfl, rfl, rfl, by decide +kernel, rfl, by decide +kernel, by decide +kernel⟩
abbrev s_law_draw : Stmt := top 69
theorem sc_law_draw : FnScope ["hand", "many", "cell", "digit", "number"] ["hand", "many"] (defScope s_law_draw) := ⟨rfl, rfl, rfl, by decide +kernel, rfl, by decide +kernel, by decide +kernel⟩
abbrev s_law_is : Stmt := top 70
theorem sc_law_is : FnScope ["told", "due", "one", "two"] ["told", "due"] (defScope s_law_is) := ⟨rfl, rfl, rfl, by decide +kernel, rfl, by decide +kernel, by decide +kernel⟩
abbrev s_law_worth : Stmt := top 71
theorem sc_law_worth : FnScope ["share", "top", "found", "place"] ["share", "top"] (defScope s_law_worth) := ⟨rfl, rfl, rfl, by decide +kernel, rfl, by decide +kernel, by decide +kernel⟩
abbrev s_law_lot_of : Stmt := top 72
theorem sc_law_lot_of : FnScope ["worth", "top", "found", "left", "turn"] ["worth", "top"] (defScope s_law_lot_of) := ⟨rfl, rfl, rfl, by decide +kernel, rfl, by decide +kernel, by decide +kernel⟩
abbrev s_law_sum : Stmt := top 73
theorem sc_law_sum : FnScope ["one", "other", "top", "worth"] ["one", "other"] (defScope s_law_sum) := ⟨rfl, rfl, rfl, by decide +kernel, rfl, by decide +kernel, by decide +kernel⟩
abbrev s_law_halved : Stmt := top 74
theorem sc_law_halved : FnScope ["share", "place"] ["share"] (defScope s_law_halved) := ⟨rfl, rfl, rfl, by decide +kernel, rfl, by decide +kernel, by decide +kernel⟩
abbrev s_law_rules : Stmt := top 75
theorem sc_law_rules : FnScope ["hand", "many", "kinds", "found", "kind", "pairs", "turn"] ["hand"] (defScope s_law_rules) := ⟨rfl, rfl, rfl, by decide +kernel, rfl, by decide +kernel, by decide +kernel⟩
abbrev s_law_sends : Stmt := top 76
theorem sc_law_sends : FnScope ["works", "house", "task", "step", "kind"] ["works", "house", "task"] (defScope s_law_sends) := ⟨rfl, rfl, rfl, by decide +kernel, rfl, by decide +kernel, by decide +kernel⟩
abbrev s_law_task : Stmt := top 77
theorem sc_law_task : FnScope ["hand", "works"] ["hand", "works"] (defScope s_law_task) := ⟨rfl, rfl, rfl, by decide +kernel, rfl, by decide +kernel, by decide +kernel⟩
abbrev s_law_begun : Stmt := top 78
theorem sc_law_begun : FnScope ["house"] ["house"] (defScope s_law_begun) := ⟨rfl, rfl, rfl, by decide +kernel, rfl, by decide +kernel, by decide +kernel⟩
abbrev s_law_gift : Stmt := top 79
theorem sc_law_gift : FnScope ["state", "task"] ["state", "task"] (defScope s_law_gift) := ⟨rfl, rfl, rfl, by decide +kernel, rfl, by decide +kernel, by decide +kernel⟩
abbrev s_law_ended : Stmt := top 80
theorem sc_law_ended : FnScope ["house", "state", "out", "bag", "parent", "deficit", "sent", "got", "black", "sign", "share", "said"] ["house", "state", "out"] (defScope s_law_ended) := ⟨rfl, rfl, rfl, by decide +kernel, rfl, by decide +kernel, by decide +kernel⟩
abbrev s_law_do : Stmt := top 81
theorem sc_law_do : FnScope ["works", "house", "state", "bag", "parent", "deficit", "sent", "got", "black", "sign", "share", "said", "letters", "out", "to", "task", "many", "later"] ["works", "house", "state"] (defScope s_law_do) := ⟨rfl, rfl, rfl, by decide +kernel, rfl, by decide +kernel, by decide +kernel⟩
abbrev s_law_hear : Stmt := top 82
theorem sc_law_hear : FnScope ["house", "state", "sender", "word", "bag", "parent", "deficit", "sent", "got", "black", "sign", "share", "said", "out", "later"] ["house", "state", "sender", "word"] (defScope s_law_hear) := ⟨rfl, rfl, rfl, by decide +kernel, rfl, by decide +kernel, by decide +kernel⟩
abbrev s_law_can_pass : Stmt := top 83
theorem sc_law_can_pass : FnScope ["state"] ["state"] (defScope s_law_can_pass) := ⟨rfl, rfl, rfl, by decide +kernel, rfl, by decide +kernel, by decide +kernel⟩
abbrev s_law_pass : Stmt := top 84
theorem sc_law_pass : FnScope ["works", "house", "state", "sent", "got", "black", "is_black", "later"] ["works", "house", "state"] (defScope s_law_pass) := ⟨rfl, rfl, rfl, by decide +kernel, rfl, by decide +kernel, by decide +kernel⟩
abbrev s_law_says : Stmt := top 85
theorem sc_law_says : FnScope ["state"] ["state"] (defScope s_law_says) := ⟨rfl, rfl, rfl, by decide +kernel, rfl, by decide +kernel, by decide +kernel⟩
abbrev s_law_drawn_share : Stmt := top 86
theorem sc_law_drawn_share : FnScope ["hand", "most", "found", "turn", "place"] ["hand"] (defScope s_law_drawn_share) := ⟨rfl, rfl, rfl, by decide +kernel, rfl, by decide +kernel, by decide +kernel⟩
abbrev s_law_drawn_word : Stmt := top 87
theorem sc_law_drawn_word : FnScope ["hand", "works", "kind"] ["hand", "works"] (defScope s_law_drawn_word) := ⟨rfl, rfl, rfl, by decide +kernel, rfl, by decide +kernel, by decide +kernel⟩
abbrev s_law_drawn_state : Stmt := top 88
theorem sc_law_drawn_state : FnScope ["hand", "works", "house", "bag", "turn", "parent", "numbers", "sign", "share"] ["hand", "works", "house"] (defScope s_law_drawn_state) := ⟨rfl, rfl, rfl, by decide +kernel, rfl, by decide +kernel, by decide +kernel⟩
abbrev s_law_called : Stmt := top 89
theorem sc_law_called : FnScope ["ruled", "house", "state", "deed", "told"] ["ruled", "house", "state", "deed"] (defScope s_law_called) := ⟨rfl, rfl, rfl, by decide +kernel, rfl, by decide +kernel, by decide +kernel⟩
abbrev s_law_due : Stmt := top 90
theorem sc_law_due : FnScope ["works", "house", "state", "deed"] ["works", "house", "state", "deed"] (defScope s_law_due) := ⟨rfl, rfl, rfl, by decide +kernel, rfl, by decide +kernel, by decide +kernel⟩
abbrev s_law_deed : Stmt := top 91
theorem sc_law_deed : FnScope ["hand", "works", "house", "kind"] ["hand", "works", "house"] (defScope s_law_deed) := ⟨rfl, rfl, rfl, by decide +kernel, rfl, by decide +kernel, by decide +kernel⟩
abbrev s_law_balanced : Stmt := top 92
theorem sc_law_balanced : FnScope ["hand", "state", "apart", "turn", "sent", "heard_there", "sign"] ["hand", "state"] (defScope s_law_balanced) := ⟨rfl, rfl, rfl, by decide +kernel, rfl, by decide +kernel, by decide +kernel⟩
abbrev s_law : Stmt := top 93
theorem sc_law : FnScope ["script", "hand", "works", "ruled", "turn", "house", "state", "due", "again", "deed", "to", "word"] ["script"] (defScope s_law) := ⟨rfl, rfl, rfl, by decide +kernel, rfl, by decide +kernel, by decide +kernel⟩
end KQ
set_option Elab.async false
set_option maxRecDepth 100000
set_option maxHeartbeats 4000000
namespace KQ
open PySem PySem.Spec PyProof.Rows L2

/-- the built-in names that no text of ours binds -/
structure Bi (mg : Str → Option Value) : Prop where
  len : mg "len" = none
  isinstance : mg "isinstance" = none
  int : mg "int" = none
  bool : mg "bool" = none
  tuple : mg "tuple" = none
  list : mg "list" = none
  str : mg "str" = none
  zip : mg "zip" = none
  range : mg "range" = none
  max : mg "max" = none
  sorted : mg "sorted" = none
  all : mg "all" = none
  sum : mg "sum" = none
  enumerate : mg "enumerate" = none
  abs : mg "abs" = none
  ord : mg "ord" = none
  min : mg "min" = none
  any : mg "any" = none
  dict : mg "dict" = none
  repr : mg "repr" = none
  reversed : mg "reversed" = none

/-! ### the drawing hand: the script's ints at l, four ints beside it -/
def HandOk (H : Hp) (h l : Addr) : Prop := ∃ (xs : List Int) (i b s c : Int), H h = some (.lst [.ref l, .int i, .int b, .int s, .int c]) ∧ H l = some (.lst (xs.map V.int)) ∧
  0 ≤ i ∧ i ≤ xs.length ∧ 0 ≤ b ∧ 0 ≤ s ∧ s < 2147483647 ∧ xs.length ≤ 1000
abbrev Nh (h : Addr) : Addr → Prop := fun a => a = h
theorem HandOk.same {H H' : Hp} {h l : Addr} (k : HandOk H h l) (e : Same H H') : HandOk H' h l := by
  obtain ⟨xs, i, b, s, c, h1, h2, r⟩ := k
  exact ⟨xs, i, b, s, c, e _ _ h1, e _ _ h2, r⟩
theorem same_new {H : Hp} {p : Addr} {o : HO} (h : H p = none) : Same H (upd H p o) := fun b u q => by rw [upd_ne (ne_of_none q h)]; exact q
theorem HandOk.new {H : Hp} {h l p : Addr} {o : HO} (k : HandOk H h l) (n : H p = none) : HandOk (upd H p o) h l := k.same (same_new n)
theorem HandOk.ne {H : Hp} {h l p : Addr} (k : HandOk H h l) (n : H p = none) : p ≠ h := by
  obtain ⟨xs, i, b, s, c, h1, _⟩ := k
  exact (ne_of_none h1 n).symm
theorem HandOk.ne0 {H : Hp} {h l p : Addr} (k : HandOk H h l) (n : H p = none) : p ≠ l := by
  obtain ⟨xs, i, b, s, c, _, h2, _⟩ := k
  exact (ne_of_none h2 n).symm
/-- what stands at the hand's two places is a list -/
theorem HandOk.lst {H : Hp} {h l : Addr} (k : HandOk H h l) : (∃ xs, H h = some (.lst xs)) ∧ ∃ xs, H l = some (.lst xs) := by
  obtain ⟨xs, i, b, s, c, h1, h2, _⟩ := k
  exact ⟨⟨_, h1⟩, _, h2⟩
/-- the hand's own list -/
abbrev hL (l : Addr) (i b s c : Int) : HO := .lst [.ref l, .int i, .int b, .int s, .int c]
def spHand (K : PySem.W.Frag) : Sp := fun vs H Q _ => ∃ (a : Addr) (ns : List Int), vs = [.ref a] ∧ SqL K H a (ns.map V.int) ∧ ns.length ≤ 1000 ∧ ∀ (h l : Addr) (H' : Hp), H h = none → H l = none → Same H H' → HandOk H' h l → Q (.ref h) H'
def spTake : Sp := fun vs H Q _ => ∃ (h l : Addr) (m : Int), vs = [.ref h, .int m] ∧ HandOk H h l ∧ 0 < m ∧ m < 1073741824 ∧
  ∀ (r : Int) (H' : Hp), 0 ≤ r → r < m → HandOk H' h l → (∀ a, a ≠ h → H' a = H a) → Q (.int r) H'
section
variable {P : Program} {w : World} {K : PySem.W.Frag} {mg : Str → Option Value} {base : Heap}
theorem fmod_lt' {a m : Int} (h : 0 < m) : 0 ≤ a.fmod m ∧ a.fmod m < m := by
  rw [Int.fmod_eq_emod_of_nonneg a (Int.le_of_lt h)]
  exact ⟨Int.emod_nonneg a (by omega), Int.emod_lt_of_pos a h⟩
theorem fdiv_nn {a m : Int} (h : 0 < m) (ha : 0 ≤ a) : 0 ≤ a.fdiv m := by
  rw [Int.fdiv_eq_ediv_of_nonneg a (Int.le_of_lt h)]
  exact Int.ediv_nonneg ha (Int.le_of_lt h)
theorem atI_map {xs : List Int} {i : Int} (h0 : 0 ≤ i) (h : i < xs.length) : ∃ v, atI (xs.map V.int) i = some (.int v) := by
  have hk : i.toNat < xs.length := by omega
  have q : atI (xs.map V.int) ((i.toNat : Nat) : Int) = some (.int xs[i.toNat]) := atI_nat (by rw [List.getElem?_map, List.getElem?_eq_getElem hk] <;> rfl)
  rw [show ((i.toNat : Nat) : Int) = i by omega] at q
  exact ⟨_, q⟩
end
end KQ
set_option Elab.async false
set_option maxRecDepth 100000
set_option maxHeartbeats 4000000
namespace KQ
open PySem PySem.Spec PyProof.Rows L2
theorem ifT {c : Bool} {A B : Prop} (h : c = true) (a : A) : if c = true then A else B := by rw [if_pos h]; exact a
theorem ifF {c : Bool} {A B : Prop} (h : c = false) (b : B) : if c = true then A else B := by rw [h, if_neg Bool.false_ne_true]; exact b
theorem atI_some {xs : List V} {i : Int} (h0 : 0 ≤ i) (h : i < xs.length) : ∃ v, atI xs i = some v ∧ v ∈ xs ∧ xs[i.toNat]? = some v := by
  have hk : i.toNat < xs.length := by omega
  have q : atI xs ((i.toNat : Nat) : Int) = some xs[i.toNat] := atI_nat (List.getElem?_eq_getElem hk)
  rw [show ((i.toNat : Nat) : Int) = i by omega] at q
  exact ⟨_, q, List.getElem_mem hk, List.getElem?_eq_getElem hk⟩
def spPick : Sp := fun vs H Q _ => ∃ (h l t : Addr) (xs : List V), vs = [.ref h, .ref t] ∧ HandOk H h l ∧ H t = some (.lst xs) ∧ t ≠ h ∧ 0 < xs.length ∧ xs.length < 1073741824 ∧
  ∀ (v : V) (H' : Hp), v ∈ xs → HandOk H' h l → (∀ a, a ≠ h → H' a = H a) → Q v H'
def spIsInt : Sp := fun vs H Q _ => ∃ (N : Addr → Prop) (v : V) (d : PyData), vs = [v] ∧ Rp N H v d ∧ Q (.bl (intOf d).isSome) H
def within (d : PyData) (lo hi : Int) : Bool := match intOf d with
  | some i => decide (lo ≤ i) && decide (i ≤ hi)
  | none => false
def spWithin : Sp := fun vs H Q _ => ∃ (N : Addr → Prop) (v : V) (d : PyData) (lo hi : Int), vs = [v, .int lo, .int hi] ∧ Rp N H v d ∧ Q (.bl (within d lo hi)) H
def spSame (n : Nat) : Sp := fun vs H Q _ => ∃ (N N' : Addr → Prop) (a b : V) (d : PyData), vs = [a, b] ∧ Rp N H a d ∧ Rp N' H b d ∧ d.depth ≤ n ∧ d.canLay0 = true ∧ ∀ H', Same H H' → Q (.bl true) H'
theorem isInt_is (d : PyData) : (isT "int" d && !isT "bool" d) = (intOf d).isSome := by cases d <;> rfl
section
variable {P : Program} {w : World} {K : PySem.W.Frag} {mg : Str → Option Value} {base : Heap}
end
end KQ
set_option Elab.async false
set_option maxRecDepth 100000
set_option maxHeartbeats 4000000
namespace KQ
open PySem PySem.Spec PyProof.Rows L2
local macro_rules | `(tactic| walk_at "kq hp") => `(tactic| (first | assumption | exact upd_same | (rw [upd_ne (by first | assumption | exact Ne.symm (by assumption))]; first | assumption | exact upd_same | (rw [upd_ne (by first | assumption | exact Ne.symm (by assumption))]; first | assumption | exact upd_same))))
local macro_rules | `(tactic| walk_at "kq do") => `(tactic| (first | decide | omega))
local macro_rules | `(tactic| walk_at "kq cl") => `(tactic| focus (first | rfl | assumption | exact upd_same | exact SqL.of (by walk_at "kq hp") | exact SqT.of (by walk_at "kq hp") | exact Or.inl (SqL.of (by walk_at "kq hp")) | exact Or.inr (SqT.of (by walk_at "kq hp")) | exact Or.inl ⟨rfl, _, SqL.of (by walk_at "kq hp")⟩ | walk_at "kq hp" | decide | exact Nat.le_of_ble_eq_true rfl | omega | (show ∃ xs, SqL _ _ _ xs; exact ⟨_, SqL.of (by walk_at "kq hp")⟩) | (show ∃ xs, SqT _ _ _ xs; exact ⟨_, SqT.of (by walk_at "kq hp")⟩) | exact DGet.k (k := Sum.inl _) (by walk_at "kq hp") | (show V.int _ = kV (Sum.inl _); rfl) | (show ∃ z, V.str _ = V.str z; exact ⟨_, rfl⟩) | exact Or.inl ⟨by walk_at "kq do", by walk_at "kq do"⟩ | exact Or.inr ⟨by walk_at "kq do", by walk_at "kq do"⟩ | exact ⟨by walk_at "kq do", by walk_at "kq do"⟩ | exact ⟨by decide, by decide, by decide⟩ | exact L2.ClsV.ty _ | exact Dt.ty (by assumption) | exact Dt.kint (by assumption) | exact Dt.kbool (by assumption) | exact Dt.ktuple (by assumption) | exact Dt.klist (by assumption) | exact Dt.kstr (by assumption)))
local macro_rules | `(tactic| trivial) => `(tactic| repeat (first | (apply And.intro; walk_at "kq cl") | (apply Exists.intro; apply And.intro; walk_at "kq cl") | (apply Exists.intro; apply Exists.intro; apply And.intro; walk_at "kq cl") | (apply Exists.intro; apply Exists.intro; apply Exists.intro; apply And.intro; walk_at "kq cl") | (apply Exists.intro; apply Exists.intro; apply Exists.intro; apply Exists.intro; apply And.intro; walk_at "kq cl") | (apply Exists.intro; apply Exists.intro; apply Exists.intro; apply Exists.intro; apply Exists.intro; apply And.intro; walk_at "kq cl") | (apply Exists.intro; apply Exists.intro; apply Exists.intro; apply Exists.intro; apply Exists.intro; apply Exists.intro; apply And.intro; walk_at "kq cl") | (apply Exists.intro; apply Exists.intro; apply Exists.intro; apply Exists.intro; apply Exists.intro; apply Exists.intro; apply Exists.intro; apply And.intro; walk_at "kq cl") | (apply Exists.intro; apply Exists.intro; apply Exists.intro; apply Exists.intro; apply Exists.intro; apply Exists.intro; apply Exists.intro; apply Exists.intro; apply And.intro; walk_at "kq cl") | (apply Exists.intro; apply Exists.intro; apply Exists.intro; apply Exists.intro; apply Exists.intro; apply Exists.intro; apply Exists.intro; apply Exists.intro; apply Exists.intro; apply And.intro; walk_at "kq cl") | refine Or.inl ⟨_, rfl, ?_⟩ | refine Or.inr ⟨_, rfl, ?_⟩ | refine Or.inr ⟨SqT.of (by walk_at "kq hp"), SqT.of (by walk_at "kq hp"), ?_⟩ | refine Or.inl ⟨SqL.of (by walk_at "kq hp"), SqL.of (by walk_at "kq hp"), ?_⟩ | refine Or.inl ⟨SqL.of (by walk_at "kq hp"), ?_⟩ | refine Or.inr ⟨SqT.of (by walk_at "kq hp"), ?_⟩ | refine ifT rfl ?_ | refine ifF rfl ?_))
section
variable {P : Program} {w : World} {K : PySem.W.Frag} {mg : Str → Option Value} {base : Heap}
theorem d_law_draw (B : Bi mg) (F : FunAt K mg "_law_draw" s_law_draw) : Has P w K mg base 1 "_law_draw" ["hand", "many"] spTake := by
  refine mk_has F sc_law_draw (fun _ _ _ _ _ _ us hl => match us, hl with | [_, _], _ => rfl) (fun vs H Q E h => ?_) fun f cdv A outer s H vs Q E hr h => ?_
  · obtain ⟨a, l, m, rfl, _⟩ := h
    rfl
  obtain ⟨h, l, m, rfl, ⟨xs, i, b, sd, c, e1, e2, hi0, hi1, hb, hs0, hs1, hx⟩, hm0, hm1, k⟩ := h
  refine ⟨_, (C8.pss_cut (ps_if (PW.pt (pw_and (pt_cmpR op_eq (pe_ix ix_list (pv 0) pe_int (fun _ _ => rfl)) pe_int (nomark _)) (pw_and1 (pt_cmpR op_lt (pe_ix ix_list (pv 0) pe_int (fun _ _ => rfl)) (pe_callB call_len_seq rfl B.len PySem.boot_len (pa_cons (pe_ix ix_list (pv 0) pe_int (fun _ _ => rfl)) pa_nil)) (nomark _)))))
    (pss_cons (ps_set (i := 2) sc_law_draw.nd rfl (Or.inl rfl) (pe_ix ix_list (pe_ix ix_list (pv 0) pe_int (fun _ _ => rfl)) (pe_ix ix_list (pv 0) pe_int (fun _ _ => rfl)) (fun _ _ => rfl)))
    (pss_cons (ps_asg (pe_op op_add (pe_ix ix_list (pv 0) pe_int (fun _ _ => rfl)) pe_int) (pg_sub (pv 0) pe_int set_list))
    (pss_cons (ps_asg (pe_op op_mod (pe_callTy call_int1 rfl B.int (by decide +kernel) (pa_cons (pe_op op_add (pe_op op_add (pe_op op_mul (pe_ix ix_list (pv 0) pe_int (fun _ _ => rfl)) pe_int) (pe_op op_mul (pv 2) pe_int)) pe_int) pa_nil)) pe_int) (pg_sub (pv 0) pe_int set_list))
    (pss_one (ps_if (pt_cmpR op_ge (pv 2) (pe_op op_pow pe_int pe_int) (nomark _))
    (pss_one (ps_asg (pv 2) (pg_sub (pv 0) pe_int set_list)))
    pss_nil)))))
    pss_nil)
    (pss_cons (ps_if (pt_cmpR op_gt (pe_ix ix_list (pv 0) pe_int (fun _ _ => rfl)) pe_int (nomark _))
    (pss_cons (ps_set (i := 3) sc_law_draw.nd rfl (Or.inl rfl) (pe_op op_modN (pe_callTy call_int1 rfl B.int (by decide +kernel) (pa_cons (pe_ix ix_list (pv 0) pe_int (fun _ _ => rfl)) pa_nil)) (pv 1)))
    (pss_cons (ps_asg (pe_op op_fdivN (pe_ix ix_list (pv 0) pe_int (fun _ _ => rfl)) (pv 1)) (pg_sub (pv 0) pe_int set_list))
    (pss_one (ps_ret (pv 3)))))
    pss_nil)
    (pss_cons (ps_asg (pe_op op_add (pe_ix ix_list (pv 0) pe_int (fun _ _ => rfl)) pe_int) (pg_sub (pv 0) pe_int set_list))
    (pss_cons (ps_set (i := 4) sc_law_draw.nd rfl (Or.inl rfl) (pe_op op_mod (pe_callTy call_int1 rfl B.int (by decide +kernel) (pa_cons (pe_op op_mul (pe_callTy call_int1 rfl B.int (by decide +kernel) (pa_cons (pe_op op_add (pe_ix ix_list (pv 0) pe_int (fun _ _ => rfl)) (pe_op op_mul pe_int (pe_ix ix_list (pv 0) pe_int (fun _ _ => rfl)))) pa_nil)) pe_int) pa_nil)) pe_int))
    (pss_cons (ps_set (i := 4) sc_law_draw.nd rfl (Or.inl rfl) (pe_op op_mod (pe_callTy call_int1 rfl B.int (by decide +kernel) (pa_cons (pe_op op_mul (pv 4) (pe_op op_add (pe_op op_fdiv (pv 4) pe_int) pe_int)) pa_nil)) pe_int))
    (pss_cons (ps_set (i := 4) sc_law_draw.nd rfl (Or.inl rfl) (pe_op op_mod (pe_callTy call_int1 rfl B.int (by decide +kernel) (pa_cons (pe_op op_mul (pv 4) (pe_op op_add (pe_op op_fdiv (pv 4) pe_int) pe_int)) pa_nil)) pe_int))
    (pss_one (ps_ret (pe_op op_modN (pe_callTy call_int1 rfl B.int (by decide +kernel) (pa_cons (pe_op op_fdiv (pv 4) pe_int) pa_nil)) (pv 1)))))))))), ?_⟩
  have nlh : l ≠ h := ne_of e2 e1 (by intro z; injection z with z; cases xs <;> simp at z)
  refine ⟨fun σ H' => ∃ (i b sd : Int) (v : Option V), σ = [Option.some (.ref h), Option.some (.int m), v, none, none] ∧ H' h = Option.some (hL l i b sd c) ∧ (∀ a, a ≠ h → H' a = H a) ∧ 0 ≤ i ∧ i ≤ xs.length ∧ 0 ≤ b ∧ 0 ≤ sd ∧ sd < 2147483647, ?_, ?_⟩
  · trivial
    refine ite2 (fun c1 => ?_) (fun c1 => ?_)
    · trivial
      refine ite2 (fun c2 => ?_) (fun c2 => ?_)
      · have c2' := of_decide_eq_true c2
        rw [List.length_map] at c2'
        obtain ⟨v, hv⟩ := atI_map (xs := xs) hi0 c2'
        trivial
        have m0 : 0 ≤ (sd * 69621 + v * 16 + 11) % 2147483629 := Int.emod_nonneg _ (by decide)
        have m1 : (sd * 69621 + v * 16 + 11) % 2147483629 < 2147483629 := Int.emod_lt_of_pos _ (by decide)
        have z : (0 : Int) ≤ 10 ^ (18 : Int).toNat := by decide
        refine ite2 (fun c3 => ?_) (fun c3 => ?_)
        · have c3' := of_decide_eq_true c3
          trivial
          exact ⟨fun a ha => by simp only [upd_ne ha], by omega, by omega, by omega, m0, by omega⟩
        · trivial
          exact ⟨fun a ha => by simp only [upd_ne ha], by omega, by omega, by omega, m0, by omega⟩
      · trivial
        exact ⟨fun a ha => rfl, hi0, hi1, hb, hs0, hs1⟩
    · trivial
      exact ⟨fun a ha => rfl, hi0, hi1, hb, hs0, hs1⟩
  · rintro σ H1 ⟨i, b, sd, v, rfl, g1, gk, hi0, hi1, hb, hs0, hs1⟩
    have gl : H1 l = Option.some (.lst (xs.map V.int)) := (gk l nlh).trans e2
    trivial
    refine ite2 (fun c1 => ?_) (fun c1 => ?_)
    · trivial
      exact k _ _ (fmod_lt' hm0).1 (fmod_lt' hm0).2 ⟨xs, i, _, sd, c, upd_same, by rw [upd_ne nlh]; exact gl, hi0, hi1, fdiv_nn hm0 hb, hs0, hs1, hx⟩ fun a ha => by rw [upd_ne ha]; exact gk a ha
    · trivial
      exact k _ _ (fmod_lt' hm0).1 (fmod_lt' hm0).2 ⟨xs, i, b, _, _, upd_same, by rw [upd_ne nlh]; exact gl, hi0, hi1, hb, hs0, hs1, hx⟩ fun a ha => by rw [upd_ne ha]; exact gk a ha
theorem d_law_hand (B : Bi mg) (F : FunAt K mg "_law_hand" s_law_hand) : Has P w K mg base 1 "_law_hand" ["script"] (spHand K) := by
  refine mk_has F sc_law_hand (fun _ _ _ _ _ _ us hl => match us, hl with | [_], _ => rfl) (fun vs H Q E h => ?_) fun f cdv A outer s H vs Q E hr h => ?_
  · obtain ⟨a, ns, rfl, _⟩ := h
    rfl
  obtain ⟨a, ns, rfl, hS, hl, k⟩ := h
  refine ⟨_, (pss_one (ps_ret (pe_lst (pa_cons (pe_lc (own := [("cell", 1)]) (g := gName 1) (tt := tYes) (te := (tCB rInt1 (tCons (tVar 1) tNil))) rfl sc_law_hand.nd (pi_list (pe_slice sl_list (pv 0) po_none (po_some pe_int))) (blkOk_by (own := [("cell", 1)]) (N := ["script", "cell"]) (sc := defScope s_law_hand) (by decide +kernel)) (fun _ _ _ _ _ => (pg_name (i := 1) sc_law_hand.nd rfl (Or.inl rfl))) (fun _ _ _ _ _ => pts_nil) (fun _ _ _ _ _ => (pe_callTy call_int1 rfl B.int (by decide +kernel) (pa_cons (pv 1) pa_nil)))) (pa_cons pe_int (pa_cons pe_int (pa_cons (pe_op op_add pe_int (pe_callB call_len_seq rfl B.len PySem.boot_len (pa_cons (pe_slice sl_list (pv 0) po_none (po_some pe_int)) pa_nil))) (pa_cons pe_int pa_nil)))))))), ?_⟩
  trivial
  intro p np
  have sp := same_new (o := .lst (cutV (ns.map V.int) none (some 63))) np
  trivial
  intro D nD
  have ec : cutV (ns.map V.int) none (some 63) = (ns.take 63).map V.int := (cut_take 63).trans (List.map_take ..).symm
  rw [ec] at sp nD ⊢
  refine lc_map walk_list ((ns.take 63).map V.int) rfl nD (by simp; omega) (fun i H' _ s => SqL.of (s _ _ upd_same)) (fun i x H3 H4 Pn hi s1 y fin => ?_) fun H3 s1 e1 => ?_
  · obtain ⟨rfl, hx⟩ := y
    obtain ⟨v, hv, rfl⟩ := List.mem_map.mp (List.mem_of_getElem? hx)
    trivial
    exact fin _ _ hx (Same.refl _)
  · have hS' := (sp.trans s1).seq hS
    trivial
    intro p2 n2
    trivial
    intro p3 n3
    have n2' : H p2 = none := (sp.trans s1).free n2
    have h3 : H3 D = some (.lst ((ns.take 63).map V.int)) := e1
    have d2 : D ≠ p2 := ne_of_none h3 n2
    have d3 : D ≠ p3 := ne_of_none (by rw [upd_ne d2]; exact h3) n3
    refine k p3 D _ (?_) (sp.free nD) ((sp.trans s1).trans ((same_new n2).trans (same_new n3))) ⟨ns.take 63, 0, 0, _, 0, upd_same, by rw [upd_ne d3, upd_ne d2]; exact h3, by omega, by omega, by omega, ?_, ?_, ?_⟩
    · exact ((sp.trans s1).trans (same_new n2)).free n3
    · rw [ec]; simp; omega
    · rw [ec]; simp; omega
    · simp; omega
end
end KQ
set_option Elab.async false
set_option maxRecDepth 100000
set_option maxHeartbeats 4000000
namespace KQ
open PySem PySem.Spec PyProof.Rows L2
local macro_rules | `(tactic| walk_at "kq hp") => `(tactic| (first | assumption | exact upd_same | (rw [upd_ne (by first | assumption | exact Ne.symm (by assumption))]; first | assumption | exact upd_same | (rw [upd_ne (by first | assumption | exact Ne.symm (by assumption))]; first | assumption | exact upd_same))))
local macro_rules | `(tactic| walk_at "kq do") => `(tactic| (first | decide | omega))
local macro_rules | `(tactic| walk_at "kq cl") => `(tactic| focus (first | rfl | assumption | exact upd_same | exact SqL.of (by walk_at "kq hp") | exact SqT.of (by walk_at "kq hp") | exact Or.inl (SqL.of (by walk_at "kq hp")) | exact Or.inr (SqT.of (by walk_at "kq hp")) | exact Or.inl ⟨rfl, _, SqL.of (by walk_at "kq hp")⟩ | walk_at "kq hp" | decide | exact Nat.le_of_ble_eq_true rfl | omega | (show ∃ xs, SqL _ _ _ xs; exact ⟨_, SqL.of (by walk_at "kq hp")⟩) | (show ∃ xs, SqT _ _ _ xs; exact ⟨_, SqT.of (by walk_at "kq hp")⟩) | exact DGet.k (k := Sum.inl _) (by walk_at "kq hp") | (show V.int _ = kV (Sum.inl _); rfl) | (show ∃ z, V.str _ = V.str z; exact ⟨_, rfl⟩) | exact Or.inl ⟨by walk_at "kq do", by walk_at "kq do"⟩ | exact Or.inr ⟨by walk_at "kq do", by walk_at "kq do"⟩ | exact ⟨by walk_at "kq do", by walk_at "kq do"⟩ | exact ⟨by decide, by decide, by decide⟩ | exact L2.ClsV.ty _ | exact Dt.ty (by assumption) | exact Dt.kint (by assumption) | exact Dt.kbool (by assumption) | exact Dt.ktuple (by assumption) | exact Dt.klist (by assumption) | exact Dt.kstr (by assumption)))
local macro_rules | `(tactic| trivial) => `(tactic| repeat (first | refine sl_go (by walk_at "kq hp") ?_ | (unfold tNoPart; refine sl_go (by walk_at "kq hp") ?_) | refine cat_go (by walk_at "kq hp") (by walk_at "kq hp") ?_ ?_ | (apply And.intro; walk_at "kq cl") | (apply Exists.intro; apply And.intro; walk_at "kq cl") | (apply Exists.intro; apply Exists.intro; apply And.intro; walk_at "kq cl") | (apply Exists.intro; apply Exists.intro; apply Exists.intro; apply And.intro; walk_at "kq cl") | (apply Exists.intro; apply Exists.intro; apply Exists.intro; apply Exists.intro; apply And.intro; walk_at "kq cl") | (apply Exists.intro; apply Exists.intro; apply Exists.intro; apply Exists.intro; apply Exists.intro; apply And.intro; walk_at "kq cl") | (apply Exists.intro; apply Exists.intro; apply Exists.intro; apply Exists.intro; apply Exists.intro; apply Exists.intro; apply And.intro; walk_at "kq cl") | (apply Exists.intro; apply Exists.intro; apply Exists.intro; apply Exists.intro; apply Exists.intro; apply Exists.intro; apply Exists.intro; apply And.intro; walk_at "kq cl") | (apply Exists.intro; apply Exists.intro; apply Exists.intro; apply Exists.intro; apply Exists.intro; apply Exists.intro; apply Exists.intro; apply Exists.intro; apply And.intro; walk_at "kq cl") | (apply Exists.intro; apply Exists.intro; apply Exists.intro; apply Exists.intro; apply Exists.intro; apply Exists.intro; apply Exists.intro; apply Exists.intro; apply Exists.intro; apply And.intro; walk_at "kq cl") | refine Or.inl ⟨_, rfl, ?_⟩ | refine Or.inr ⟨_, rfl, ?_⟩ | refine Or.inr ⟨SqT.of (by walk_at "kq hp"), SqT.of (by walk_at "kq hp"), ?_⟩ | refine Or.inl ⟨SqL.of (by walk_at "kq hp"), SqL.of (by walk_at "kq hp"), ?_⟩ | refine Or.inl ⟨SqL.of (by walk_at "kq hp"), ?_⟩ | refine Or.inr ⟨SqT.of (by walk_at "kq hp"), ?_⟩ | refine ifT rfl ?_ | refine ifF rfl ?_))
def numV : V → Bool
  | .int i => decide (0 ≤ i)
  | _ => false
def intV : V → Int
  | .int i => i
  | _ => 0
def ascB (ns : List Int) : Bool := (ns.zip ns.tail).all fun p => decide (p.1 < p.2)
def shL (xs : List V) : Bool := xs.all numV && ascB (xs.map intV) && (decide (xs.length < 2) || decide (0 < intV (xs.headD .non)))
def shV (H : Hp) : V → Bool
  | .ref a => match H a with
    | some (.tup xs) => shL xs
    | _ => false
  | _ => false
/-- a thing as it may be judged -/
structure Tg (H : Hp) (v : V) : Prop where
  t : ∃ t, Dt H v t
  xs : ∀ a xs, v = .ref a → H a = some (.tup xs) → xs.length ≤ 1000 ∧ ∀ x ∈ xs, ∃ t, Dt H x t
theorem Tg.same {H H' : Hp} {v : V} (g : Tg H v) (s : Same H H') : Tg H' v := by
  obtain ⟨t, d⟩ := g.t
  refine ⟨⟨t, d.same s⟩, fun a xs e h => ?_⟩
  subst e
  have h0 : H a = some (.tup xs) := by
    cases d with
    | lst e => rw [s _ _ e] at h; cases h
    | tup e => rw [s _ _ e] at h; rw [e, h]
    | dK e => rw [s _ _ e] at h; cases h
  obtain ⟨h1, h2⟩ := g.xs a xs rfl h0
  exact ⟨h1, fun x hx => let ⟨t, d⟩ := h2 x hx; ⟨t, d.same s⟩⟩
def spNum : Sp := fun vs H Q _ => ∃ (v : V) (t : String), vs = [v] ∧ Dt H v t ∧ Q (.bl (numV v)) H
def spRises : Sp := fun vs H Q _ => ∃ (a : Addr) (ns : List Int), vs = [.ref a] ∧ H a = some (.tup (ns.map V.int)) ∧ ns.length ≤ 1000 ∧ ∀ H', Same H H' → Q (.bl (ascB ns)) H'
section
variable {P : Program} {w : World} {K : PySem.W.Frag} {mg : Str → Option Value} {base : Heap}
theorem d_is_num (B : Bi mg) (F : FunAt K mg "is_number" s_is_number) : Has P w K mg base 1 "is_number" ["thing"] spNum := by
  refine mk_has F sc_is_number (fun _ _ _ _ _ _ us hl => match us, hl with | [_], _ => rfl) (fun vs H Q E h => ?_) fun f cdv A outer s H vs Q E hr h => ?_
  · obtain ⟨v, t, rfl, _⟩ := h
    rfl
  obtain ⟨v, t, rfl, d, k⟩ := h
  refine ⟨_, (pss_one (ps_ret (pe_and (pe_callB call_isi rfl B.isinstance (by decide +kernel) (pa_cons (pv 0) (pa_cons (pe_bltn (v := .ty "int") rfl B.int (by decide +kernel) rfl) pa_nil))) (pe_and (pe_not (pe_callB call_isi rfl B.isinstance (by decide +kernel) (pa_cons (pv 0) (pa_cons (pe_bltn (v := .ty "bool") rfl B.bool (by decide +kernel) rfl) pa_nil)))) (pe_one (pe_cmpR op_ge (pv 0) pe_int (nomark _))))))), ?_⟩
  trivial
  cases d with
  | int i =>
    have d := Dt.int (H := H) i
    trivial
    exact k
  | bl b =>
    have d := Dt.bl (H := H) b
    trivial
    exact k
  | _ => trivial; exact k
theorem d_rises (B : Bi mg) (F : FunAt K mg "rises" s_rises) : Has P w K mg base 1 "rises" ["items"] spRises := by
  refine mk_has F sc_rises (fun _ _ _ _ _ _ us hl => match us, hl with | [_], _ => rfl) (fun vs H Q E h => ?_) fun f cdv A outer s H vs Q E hr h => ?_
  · obtain ⟨a, ns, rfl, _⟩ := h
    rfl
  obtain ⟨a, ns, rfl, ha, hl, k⟩ := h
  refine ⟨_, (pss_one (ps_ret (pe_callB (cr_all rfl) rfl B.all (by decide +kernel) (pa_cons (pe_lc (own := [("one", 1), ("other", 2)]) (g := gTup K 2 (gCons (gName 1) (gCons (gName 2) gNil))) (tt := tYes) (te := (tOp (rI0 fun i j => .bl (decide (i < j))) (tVar 1) (tVar 2))) rfl sc_rises.nd (RZ.pi_zipA rfl B.zip (pa_cons (pv 0) (pa_cons (pe_slice sl_tupA (pv 0) (po_some pe_int) po_none) pa_nil))) (blkOk_by (own := [("one", 1), ("other", 2)]) (N := ["items", "one", "other"]) (sc := defScope s_rises) (by decide +kernel)) (fun _ _ _ _ _ => (pg_tup rfl (pgs_cons (pg_name (i := 1) sc_rises.nd rfl (Or.inl rfl)) (pgs_cons (pg_name (i := 2) sc_rises.nd rfl (Or.inl rfl)) pgs_nil)))) (fun _ _ _ _ _ => pts_nil) (fun _ _ _ _ _ => (pe_cmpR op_lt (pv 1) (pv 2) (nomark _)))) pa_nil)))), ?_⟩
  trivial
  intro b H1 s1 eb
  rw [cut1, ← List.map_drop] at eb
  have ha1 := s1 _ _ ha
  trivial
  intro D nD
  have e0 : min (ns.map V.int).length ((ns.drop 1).map V.int).length = ns.length - 1 := by simp
  refine lc_map (walk_zipT e0.symm) ((ns.zip ns.tail).map fun p => V.bl (decide (p.1 < p.2))) (by simp) nD (by omega) (fun i H' _ s => ⟨SqT.of (s _ _ ha1), SqT.of (s _ _ eb)⟩) (fun i x H3 H4 Pn hi s2 y fin => ?_) fun H3 s2 e1 => ?_
  · obtain ⟨T, x, z, rfl, nT, rfl, gx, gz⟩ := ypair y
    have i1 : i < ns.length := by omega
    have i2 : i < ns.tail.length := by simp; omega
    have i3 : i < (ns.drop 1).length := by simp; omega
    obtain rfl : x = .int ns[i] := by rw [List.getElem?_map, List.getElem?_eq_getElem i1] at gx; exact (Option.some.inj gx).symm
    obtain rfl : z = .int ns.tail[i] := by
      rw [List.getElem?_map, List.getElem?_eq_getElem i3] at gz
      rw [← Option.some.inj gz]
      simp
    trivial
    exact fin _ _ (by rw [List.getElem?_map, List.getElem?_eq_getElem (by simp; omega)]; simp) (same_new0 nT)
  · have e2 : ((ns.zip ns.tail).map fun p => V.bl (decide (p.1 < p.2))) = ((ns.zip ns.tail).map fun p => decide (p.1 < p.2)).map V.bl := by rw [List.map_map]; rfl
    rw [e2] at e1
    trivial
    have e3 : (List.map (fun p => decide (p.fst < p.snd)) (ns.zip ns.tail)).all id = ascB ns := by simp [ascB, List.all_map, Function.comp_def]
    rw [e3]
    exact k H3 (s1.trans s2)
theorem nums_back {xs : List V} (h : xs.all numV = true) : (xs.map intV).map V.int = xs := by
  rw [List.map_map]
  conv => rhs; rw [← List.map_id xs]
  refine List.map_congr_left fun x hx => ?_
  have := List.all_eq_true.mp h x hx
  cases x <;> simp_all [numV, intV]
def lotB (xs : List V) : Bool := xs.all numV && ascB (xs.map intV)
def tupB (f : List V → Bool) (H : Hp) : V → Bool
  | .ref a => match H a with
    | some (.tup xs) => f xs
    | _ => false
  | _ => false
theorem tupB_at {f : List V → Bool} {H : Hp} {a : Addr} {xs : List V} (h : H a = some (.tup xs)) : tupB f H (.ref a) = f xs := by simp [tupB, h]
theorem tupB_no {f : List V → Bool} {H : Hp} {v : V} {t : String} (d : Dt H v t) (h : t ≠ "tuple") : tupB f H v = false := by
  cases d with
  | tup e => exact absurd rfl h
  | lst e => simp [tupB, e]
  | dK e => simp [tupB, e]
  | _ => rfl
theorem Dt.tup_inv {H : Hp} {v : V} {t : String} (d : Dt H v t) (h : t = "tuple") : ∃ a xs, v = .ref a ∧ H a = some (.tup xs) := by
  cases d with
  | tup e => exact ⟨_, _, rfl, e⟩
  | _ => exact absurd h (by decide)
def spTup (f : List V → Bool) : Sp := fun vs H Q _ => ∃ v : V, vs = [v] ∧ Tg H v ∧ ∀ H', Same H H' → Q (.bl (tupB f H v)) H'
theorem d_is_lot (B : Bi mg) (F : FunAt K mg "is_lot" s_is_lot) (D_is_number : Has P w K mg base 1 "is_number" ["thing"] spNum) (D_rises : Has P w K mg base 1 "rises" ["items"] spRises) : Has P w K mg base 2 "is_lot" ["thing"] (spTup lotB) := by
  refine mk_has F sc_is_lot (fun _ _ _ _ _ _ us hl => match us, hl with | [_], _ => rfl) (fun vs H Q E h => ?_) fun f cdv A outer s H vs Q E hr h => ?_
  · obtain ⟨v, rfl, _⟩ := h
    rfl
  obtain ⟨v, rfl, g, k⟩ := h
  obtain ⟨t, d⟩ := g.t
  refine ⟨_, (pss_one (ps_ret (pe_and (pe_callB call_isi rfl B.isinstance (by decide +kernel) (pa_cons (pv 0) (pa_cons (pe_bltn (v := .ty "tuple") rfl B.tuple (by decide +kernel) rfl) pa_nil))) (pe_and (pe_callB (cr_all rfl) rfl B.all (by decide +kernel) (pa_cons (pe_lc (own := [("item", 1)]) (g := gName 1) (tt := tYes) (te := (tCall spNum [] E0 (tCons (tVar 1) tNil))) rfl sc_is_lot.nd (pi_tup (pv 0)) (blkOk_by (own := [("item", 1)]) (N := ["thing", "item"]) (sc := defScope s_is_lot) (by decide +kernel)) (fun _ _ _ _ _ => (pg_name (i := 1) sc_is_lot.nd rfl (Or.inl rfl))) (fun _ _ _ _ _ => pts_nil) (fun _ _ _ _ _ => (pe_h D_is_number (hr.mono (by decide)) rfl (pa_cons (pv 1) pa_nil)))) pa_nil)) (pe_one (pe_h D_rises (hr.mono (by decide)) rfl (pa_cons (pv 0) pa_nil))))))), ?_⟩
  by_cases ht : t = "tuple"
  · obtain ⟨a, xs, rfl, ea⟩ := d.tup_inv ht
    subst ht
    obtain ⟨hl, hx⟩ := g.xs a xs rfl ea
    rw [tupB_at ea] at k
    trivial
    intro D nD
    refine lc_map (walk_tup (xs := xs)) (xs.map fun x => V.bl (numV x)) (by simp) nD (by omega) (fun i H' _ s => SqT.of (s _ _ ea)) (fun i x H3 H4 Pn hi s2 y fin => ?_) fun H3 s2 e1 => ?_
    · obtain ⟨rfl, gx⟩ := y
      obtain ⟨tx, dx⟩ := hx x (List.mem_of_getElem? gx)
      have dx3 := dx.same s2
      trivial
      exact fin _ _ (by rw [List.getElem?_map, gx]; rfl) (Same.refl _)
    · have e2 : (xs.map fun x => V.bl (numV x)) = (xs.map numV).map V.bl := by rw [List.map_map]; rfl
      rw [e2] at e1
      trivial
      have e3 : (List.map numV xs).all id = xs.all numV := by simp [List.all_map]
      rw [e3]
      refine ite2 (fun c => ?_) (fun c => ?_)
      · have ea3 := s2 _ _ ea
        rw [← nums_back c] at ea3
        refine ⟨_, rfl, a, xs.map intV, rfl, ea3, by simpa using hl, fun H4 s4 => ?_⟩
        have := k H4 (s2.trans s4)
        rw [lotB, c, Bool.true_and] at this
        exact this
      · have := k H3 s2
        rw [lotB, Bool.eq_false_iff.mpr c, Bool.false_and] at this
        exact this
  · rw [tupB_no d ht] at k
    trivial
    refine ifF (by simp [isTy, ht]) (k H (Same.refl H))
theorem d_is_share (B : Bi mg) (F : FunAt K mg "is_share" s_is_share) (D_is_lot : Has P w K mg base 2 "is_lot" ["thing"] (spTup lotB)) : Has P w K mg base 3 "is_share" ["thing"] (spTup shL) := by
  refine mk_has F sc_is_share (fun _ _ _ _ _ _ us hl => match us, hl with | [_], _ => rfl) (fun vs H Q E h => ?_) fun f cdv A outer s H vs Q E hr h => ?_
  · obtain ⟨v, rfl, _⟩ := h
    rfl
  obtain ⟨v, rfl, g, k⟩ := h
  obtain ⟨t, d⟩ := g.t
  refine ⟨_, (pss_one (ps_ret (pe_and (pe_h D_is_lot (hr.mono (by decide)) rfl (pa_cons (pv 0) pa_nil)) (pe_one (pe_or (pe_cmpR op_lt (pe_callB call_len_seq rfl B.len PySem.boot_len (pa_cons (pv 0) pa_nil)) pe_int (nomark _)) (pe_one (pe_cmpR op_gt (pe_ix ix_tup (pv 0) pe_int (fun _ _ => rfl)) pe_int (nomark _)))))))), ?_⟩
  trivial
  intro H1 s1
  by_cases ht : t = "tuple"
  · obtain ⟨a, xs, rfl, ea⟩ := d.tup_inv ht
    have ea1 := s1 _ _ ea
    rw [tupB_at ea] at k ⊢
    trivial
    refine ite2 (fun c => ?_) (fun c => ?_)
    · have e := k H1 s1
      rw [shL, ← lotB, c, Bool.true_and] at e
      trivial
      refine ite2 (fun c2 => ?_) (fun c2 => ?_)
      · rw [show decide (xs.length < 2) = true by have := of_decide_eq_true c2; exact decide_eq_true (by omega), Bool.true_or] at e
        exact e
      · have c3 := of_decide_eq_false (Bool.eq_false_iff.mpr c2)
        rw [show decide (xs.length < 2) = false from decide_eq_false (by omega), Bool.false_or] at e
        have n1 := nums_back (xs := xs) (by rw [lotB, Bool.and_eq_true] at c; exact c.1)
        match xs, n1, c3, ea1, e with
        | x :: r, n1, _, ea1, e =>
          have ex : V.int (intV x) = x := by simp only [List.map_cons] at n1; exact (List.cons.inj n1).1
          have a0 : atI (x :: r) 0 = Option.some (.int (intV x)) := by rw [ex]; exact atI_nat (show (x :: r)[0]? = Option.some x from rfl)
          trivial
          exact e
    · have := k H1 s1
      rw [shL, ← lotB, Bool.eq_false_iff.mpr c, Bool.false_and] at this
      exact this
  · rw [tupB_no d ht] at k ⊢
    trivial
    exact k H1 s1
theorem d_is_some_share (B : Bi mg) (F : FunAt K mg "is_some_share" s_is_some_share) (D_is_share : Has P w K mg base 3 "is_share" ["thing"] (spTup shL)) : Has P w K mg base 4 "is_some_share" ["thing"] (spTup fun xs => shL xs && decide (0 < xs.length)) := by
  refine mk_has F sc_is_some_share (fun _ _ _ _ _ _ us hl => match us, hl with | [_], _ => rfl) (fun vs H Q E h => ?_) fun f cdv A outer s H vs Q E hr h => ?_
  · obtain ⟨v, rfl, _⟩ := h
    rfl
  obtain ⟨v, rfl, g, k⟩ := h
  obtain ⟨t, d⟩ := g.t
  refine ⟨_, (pss_one (ps_ret (pe_and (pe_h D_is_share (hr.mono (by decide)) rfl (pa_cons (pv 0) pa_nil)) (pe_one (pe_cmpR op_gt (pe_callB call_len_seq rfl B.len PySem.boot_len (pa_cons (pv 0) pa_nil)) pe_int (nomark _)))))), ?_⟩
  trivial
  intro H1 s1
  by_cases ht : t = "tuple"
  · obtain ⟨a, xs, rfl, ea⟩ := d.tup_inv ht
    have ea1 := s1 _ _ ea
    rw [tupB_at ea] at k ⊢
    trivial
    refine ite2 (fun c => ?_) (fun c => ?_)
    · have e := k H1 s1
      rw [c, Bool.true_and, show decide (0 < xs.length) = decide ((0 : Int) < xs.length) by congr 1; exact propext ⟨fun h => by omega, fun h => by omega⟩] at e
      trivial
      exact e
    · have := k H1 s1
      rw [Bool.eq_false_iff.mpr c, Bool.false_and] at this
      exact this
  · rw [tupB_no d ht] at k ⊢
    trivial
    exact k H1 s1
end
end KQ
set_option Elab.async false
set_option maxRecDepth 100000
set_option maxHeartbeats 4000000
namespace KQ
open PySem PySem.Spec PyProof.Rows L2
local macro_rules | `(tactic| walk_at "kq hp") => `(tactic| (first | assumption | exact upd_same | (rw [upd_ne (by first | assumption | exact Ne.symm (by assumption))]; first | assumption | exact upd_same | (rw [upd_ne (by first | assumption | exact Ne.symm (by assumption))]; first | assumption | exact upd_same))))
local macro_rules | `(tactic| walk_at "kq do") => `(tactic| (first | decide | omega))
local macro_rules | `(tactic| walk_at "kq cl") => `(tactic| focus (first | rfl | assumption | exact upd_same | exact SqL.of (by walk_at "kq hp") | exact SqT.of (by walk_at "kq hp") | exact Or.inl (SqL.of (by walk_at "kq hp")) | exact Or.inr (SqT.of (by walk_at "kq hp")) | exact Or.inl ⟨rfl, _, SqL.of (by walk_at "kq hp")⟩ | walk_at "kq hp" | decide | exact Nat.le_of_ble_eq_true rfl | omega | (show ∃ xs, SqL _ _ _ xs; exact ⟨_, SqL.of (by walk_at "kq hp")⟩) | (show ∃ xs, SqT _ _ _ xs; exact ⟨_, SqT.of (by walk_at "kq hp")⟩) | exact DGet.k (k := Sum.inl _) (by walk_at "kq hp") | (show V.int _ = kV (Sum.inl _); rfl) | (show ∃ z, V.str _ = V.str z; exact ⟨_, rfl⟩) | exact Or.inl ⟨by walk_at "kq do", by walk_at "kq do"⟩ | exact Or.inr ⟨by walk_at "kq do", by walk_at "kq do"⟩ | exact ⟨by walk_at "kq do", by walk_at "kq do"⟩ | exact ⟨by decide, by decide, by decide⟩ | exact L2.ClsV.ty _ | exact Dt.ty (by assumption) | exact Dt.kint (by assumption) | exact Dt.kbool (by assumption) | exact Dt.ktuple (by assumption) | exact Dt.klist (by assumption) | exact Dt.kstr (by assumption)))
local macro_rules | `(tactic| trivial) => `(tactic| repeat (first | (apply And.intro; walk_at "kq cl") | (apply Exists.intro; apply And.intro; walk_at "kq cl") | (apply Exists.intro; apply Exists.intro; apply And.intro; walk_at "kq cl") | (apply Exists.intro; apply Exists.intro; apply Exists.intro; apply And.intro; walk_at "kq cl") | (apply Exists.intro; apply Exists.intro; apply Exists.intro; apply Exists.intro; apply And.intro; walk_at "kq cl") | (apply Exists.intro; apply Exists.intro; apply Exists.intro; apply Exists.intro; apply Exists.intro; apply And.intro; walk_at "kq cl") | (apply Exists.intro; apply Exists.intro; apply Exists.intro; apply Exists.intro; apply Exists.intro; apply Exists.intro; apply And.intro; walk_at "kq cl") | (apply Exists.intro; apply Exists.intro; apply Exists.intro; apply Exists.intro; apply Exists.intro; apply Exists.intro; apply Exists.intro; apply And.intro; walk_at "kq cl") | (apply Exists.intro; apply Exists.intro; apply Exists.intro; apply Exists.intro; apply Exists.intro; apply Exists.intro; apply Exists.intro; apply Exists.intro; apply And.intro; walk_at "kq cl") | (apply Exists.intro; apply Exists.intro; apply Exists.intro; apply Exists.intro; apply Exists.intro; apply Exists.intro; apply Exists.intro; apply Exists.intro; apply Exists.intro; apply And.intro; walk_at "kq cl") | refine Or.inl ⟨_, rfl, ?_⟩ | refine Or.inr ⟨_, rfl, ?_⟩ | refine Or.inr ⟨SqT.of (by walk_at "kq hp"), SqT.of (by walk_at "kq hp"), ?_⟩ | refine Or.inl ⟨SqL.of (by walk_at "kq hp"), SqL.of (by walk_at "kq hp"), ?_⟩ | refine Or.inl ⟨SqL.of (by walk_at "kq hp"), ?_⟩ | refine Or.inr ⟨SqT.of (by walk_at "kq hp"), ?_⟩ | refine ifT rfl ?_ | refine ifF rfl ?_))
def dk (ks : List Int) : List (Key × V) := ks.map fun k => (Sum.inl k, V.bl true)
theorem dk_in {ks : List Int} {p : Int} (h : p ∈ ks) : valV (dk ks) (Sum.inl p) = some (.bl true) := by
  induction ks with
  | nil => simp at h
  | cons k ks ih =>
    by_cases e : k = p
    · subst e; exact valV_pos rfl
    · exact (valV_neg (p := (Sum.inl k, V.bl true)) (by simpa using e)).trans (ih (by rcases List.mem_cons.mp h with z | z; exact absurd z.symm e; exact z))
theorem dk_no {ks : List Int} {p : Int} (h : p ∉ ks) : valV (dk ks) (Sum.inl p) = none := by
  induction ks with
  | nil => rfl
  | cons k ks ih =>
    have e : k ≠ p := fun z => h (by rw [z]; exact List.mem_cons_self ..)
    exact (valV_neg (p := (Sum.inl k, V.bl true)) (by simpa using e)).trans (ih fun z => h (List.mem_cons_of_mem _ z))
theorem dk_drop {ks : List Int} {p : Int} : dropK (dk ks) (Sum.inl p) = dk (ks.filter fun q => decide (q ≠ p)) := by
  induction ks with
  | nil => rfl
  | cons k ks ih =>
    have ih' : List.filter (fun kv : Key × V => decide (kv.1 ≠ Sum.inl p)) (dk ks) = dk (ks.filter fun q => decide (q ≠ p)) := ih
    show List.filter _ ((Sum.inl k, V.bl true) :: dk ks) = _
    by_cases e : k = p
    · rw [List.filter_cons_of_neg (by simp [e]), List.filter_cons_of_neg (by simp [e]), ih']
    · rw [List.filter_cons_of_pos (by simp [e]), List.filter_cons_of_pos (by simp [e]), ih']
      rfl
theorem dk_put {ks : List Int} {p : Int} (h : p ∉ ks) : putK (dk ks) (Sum.inl p) (.bl true) = dk (ks ++ [p]) := by
  unfold putK
  rw [valV_any, dk_no h]
  simp [dk]
theorem mS_drop {ks : List Int} {p : Int} : mS (ks.filter fun q => decide (q ≠ p)) = put (mS ks) p false := by
  funext q
  by_cases e : q = p
  · subst e; simp [put]
  · simp [put, e]
theorem mS_put {ks : List Int} {p : Int} : mS (ks ++ [p]) = put (mS ks) p true := by
  funext q
  by_cases e : q = p
  · subst e; simp [put]
  · simp [put, e]
theorem Vs_mono {S T : Int → Bool} (h : ∀ q, S q = true → T q = true) : ∀ n : Nat, Vs S n ≤ Vs T n
  | 0 => by
    simp only [Vs]
    cases a : S (-1)
    · simp
    · rw [h _ a]; simp
  | j + 1 => by
    have := Vs_mono h j
    simp only [Vs]
    cases a : S (j : Int)
    · simp; omega
    · rw [h _ a]; simp; omega
theorem Vs_nil : ∀ n : Nat, Vs (mS []) n = 0
  | 0 => rfl
  | j + 1 => by rw [Vs, Vs_nil j]; rfl
/-- one number more of a share -/
theorem Vs_take {ns : List Int} (h : Sh ns) {n : Nat} (hb : Bd n ns) {j : Nat} {q : Int} (e : ns[j]? = some q) : Vs (mS (ns.take (j + 1))) (n + 1) = Vs (mS (ns.take j)) (n + 1) + 2 ^ (n + 1 - (q + 1).toNat) := by
  have hq := List.mem_of_getElem? e
  have t : ns.take (j + 1) = ns.take j ++ [q] := by rw [List.take_add_one, e]; rfl
  have a := h.asc
  have nq : q ∉ ns.take j := fun z => by
    rw [← List.take_append_drop (j + 1) ns, t] at a
    have b := (List.pairwise_append.mp (List.pairwise_append.mp a).1).2.2 q z q (by simp)
    omega
  rw [t, mS_put, Vs_put (decide_eq_false nq) (by have := h.nn q hq; omega) (hb q hq)]
def mu4 (σ : L2.St) : Nat := match σ[4]? with
  | some (some (V.int p)) => (p + 2).toNat
  | _ => 0
structure DI (D : Addr) (H0 : Hp) (n : Nat) (ks : List Int) (c : Nat) (H : Hp) : Prop where
  s : Same H0 H
  e : H D = some (.dK (dk ks))
  nd : ks.Nodup
  b : ∀ q ∈ ks, -1 ≤ q ∧ q < ((n + 1 : Nat) : Int)
  l : ks.length ≤ c
theorem DI.del {D : Addr} {H0 H : Hp} {n c : Nat} {ks : List Int} {p : Int} (d : DI D H0 n ks c H) (nD : H0 D = none) (h : p ∈ ks) : DI D H0 n (ks.filter fun q => decide (q ≠ p)) c (upd H D (.dK (dropK (dk ks) (Sum.inl p)))) :=
  ⟨sput d.s nD, by rw [dk_drop]; exact upd_same, d.nd.filter _, fun q hq => d.b q (List.mem_filter.mp hq).1, Nat.le_trans (List.length_filter_le _ _) d.l⟩
theorem DI.add {D : Addr} {H0 H : Hp} {n c : Nat} {ks : List Int} {p : Int} (d : DI D H0 n ks c H) (nD : H0 D = none) (h : p ∉ ks) (h1 : -1 ≤ p) (h2 : p < ((n + 1 : Nat) : Int)) : DI D H0 n (ks ++ [p]) (c + 1) (upd H D (.dK (putK (dk ks) (Sum.inl p) (.bl true)))) :=
  ⟨sput d.s nD, by rw [dk_put h]; exact upd_same, List.nodup_append.mpr ⟨d.nd, by simp, fun a ha b hb e => h (by simp at hb; rw [← hb, ← e]; exact ha)⟩, fun q hq => by
    rcases List.mem_append.mp hq with z | z
    · exact d.b q z
    · simp at z; subst z; exact ⟨h1, h2⟩, by have := d.l; simp; omega⟩
def spMerged : Sp := fun vs H Q _ => ∃ (n : Nat) (s a b : Addr) (ns ms : List Int), vs = [.ref s] ∧ H s = some (.tup [.ref a, .ref b]) ∧ H a = some (.tup (ns.map V.int)) ∧ H b = some (.tup (ms.map V.int)) ∧
  Sh ns ∧ Sh ms ∧ Bd n ns ∧ Bd n ms ∧ ns.length + ms.length ≤ 1000 ∧ ∀ p H' ks, Same H H' → H' p = some (.tup (ks.map V.int)) → ks.Pairwise (· < ·) → (∀ q ∈ ks, -1 ≤ q ∧ q < ((n + 1 : Nat) : Int)) →
  Vs (mS ks) (n + 1) = Vs (mS ns) (n + 1) + Vs (mS ms) (n + 1) → ks.length ≤ ns.length + ms.length → Q (.ref p) H'
section
variable {P : Program} {w : World} {K : PySem.W.Frag} {mg : Str → Option Value} {base : Heap}
theorem d_merged (B : Bi mg) (F : FunAt K mg "merged" s_merged) : Has P w K mg base 1 "merged" ["shares"] spMerged := by
  refine mk_has F sc_merged (fun _ _ _ _ _ _ us hl => match us, hl with | [_], _ => rfl) (fun vs H Q E h => ?_) fun f cdv A outer s H vs Q E hr h => ?_
  · obtain ⟨n, s, a, b, ns, ms, rfl, _⟩ := h
    rfl
  obtain ⟨n, s, a, b, ns, ms, rfl, es, ea, eb, hns, hms, bn, bm, hl, k⟩ := h
  have hu := hu_of hr
  refine ⟨_, (pss_cons (ps_set (i := 1) sc_merged.nd rfl (Or.inl rfl) pe_dnewK)
    (pss_cons (ps_for PassesOwn.never rfl (pi_tup (pv 0)) (pg_name (i := 2) sc_merged.nd rfl (Or.inl rfl))
    (pss_one (ps_for PassesOwn.never rfl (pi_tup (pv 2)) (pg_name (i := 3) sc_merged.nd rfl (Or.inl rfl))
    (pss_cons (ps_set (i := 4) sc_merged.nd rfl (Or.inl rfl) (pv 3))
    (pss_cons (ps_while PassesOwn.never (pt_cmp (pc_din hu (pv 4) (pv 1)))
    (pss_cons (ps_ddel (pv 1) (pv 4))
    (pss_one (ps_aug (i := 4) sc_merged.nd rfl (Or.inl rfl) pe_int ip_sub))))
    (pss_one (ps_dput hu (pv 1) (pv 4) pe_bl rfl)))))))
    (pss_one (ps_ret (pe_callTy call_tuple_of rfl B.tuple (by decide +kernel) (pa_cons (pe_callB (call_sortedDA rfl) rfl B.sorted (by decide +kernel) (pa_cons (pv 1) pa_nil)) pa_nil)))))), ?_⟩
  intro D nD
  have sD := same_new0 (o := .dK []) nD
  have es1 := sD _ _ es
  have p2 : 0 < 2 ^ n := Nat.pow_pos (by decide)
  have p21 : 2 ^ (n + 1) = 2 ^ n + 2 ^ n := by rw [Nat.pow_succ]; omega
  trivial
  let tt : Nat → Nat := fun i => match i with | 0 => 0 | 1 => Vs (mS ns) (n + 1) | _ => Vs (mS ns) (n + 1) + Vs (mS ms) (n + 1)
  let cc : Nat → Nat := fun i => match i with | 0 => 0 | 1 => ns.length | _ => ns.length + ms.length
  refine for_it (walk_tup (xs := [V.ref a, V.ref b])) (fun i σ H' => ∃ ks v2 v3 v4, σ = [some (.ref s), some (.ref D), v2, v3, v4] ∧ DI D H n ks (cc i) H' ∧ Vs (mS ks) (n + 1) = tt i) ?_ (fun i σ H' _ ⟨ks, v2, v3, v4, _, d, _⟩ => SqT.of (d.s _ _ es)) ?_ ?_
  · exact ⟨[], _, _, _, rfl, ⟨sD, upd_same, List.nodup_nil, by simp, Nat.zero_le _⟩, Vs_nil _⟩
  · rintro i x σ H1 H2 hi ⟨ks, v2, v3, v4, rfl, d, ev⟩ ⟨rfl, hx⟩
    obtain ⟨xa, l, rfl, ex, hsl, bl, et, ec, el, hcl⟩ : ∃ xa l, x = .ref xa ∧ H xa = some (.tup (l.map V.int)) ∧ Sh l ∧ Bd n l ∧ tt (i + 1) = tt i + Vs (mS l) (n + 1) ∧ cc (i + 1) = cc i + l.length ∧ tt i ≤ 2 ^ n ∧ cc (i + 1) ≤ 1000 := by
      match i, hi with
      | 0, _ => exact ⟨a, ns, (Option.some.inj hx).symm, ea, hns, bn, by simp [tt], by simp [cc], Nat.zero_le _, by show ns.length ≤ 1000; omega⟩
      | 1, _ => exact ⟨b, ms, (Option.some.inj hx).symm, eb, hms, bm, rfl, rfl, hns.le bn, hl⟩
    have ex1 := d.s _ _ ex
    trivial
    refine for_it (walk_tup (xs := l.map V.int)) (fun j σ H' => ∃ ks v3 v4, σ = [some (.ref s), some (.ref D), some (.ref xa), v3, v4] ∧ DI D H n ks (cc i + j) H' ∧ Vs (mS ks) (n + 1) = tt i + Vs (mS (l.take j)) (n + 1)) ?_ (fun j σ H' _ ⟨ks, v3, v4, _, d, _⟩ => SqT.of (d.s _ _ ex)) ?_ ?_
    · exact ⟨ks, _, _, rfl, d, by rw [List.take_zero, Vs_nil]; exact ev⟩
    · rintro j x σ H3 H4 hj ⟨ks, v3, v4, rfl, d, ev⟩ ⟨rfl, hx⟩
      obtain ⟨q, hq, rfl⟩ : ∃ q, l[j]? = some q ∧ x = .int q := by
        rw [List.getElem?_map] at hx
        obtain ⟨q, h1, h2⟩ := Option.map_eq_some_iff.mp hx
        exact ⟨q, h1, h2.symm⟩
      have q0 := hsl.nn q (List.mem_of_getElem? hq)
      have q1 := bl q (List.mem_of_getElem? hq)
      have ew := Vs_take hsl bl hq
      have em : Vs (mS (l.take (j + 1))) (n + 1) ≤ Vs (mS l) (n + 1) := Vs_mono (fun z hz => decide_eq_true (List.mem_of_mem_take (of_decide_eq_true hz))) _
      have el2 := hsl.le bl
      trivial
      refine while_by (fun σ H' => ∃ ks p, σ = [some (.ref s), some (.ref D), some (.ref xa), some (.int q), some (.int p)] ∧ DI D H n ks (cc i + j) H' ∧ -1 ≤ p ∧ p < ((n + 1 : Nat) : Int) ∧ Vs (mS ks) (n + 1) + 2 ^ (n + 1 - (p + 1).toNat) = tt i + Vs (mS (l.take (j + 1))) (n + 1))
        (fun σ _ => mu4 σ) ?_ ?_ ?_
      · exact ⟨ks, q, rfl, d, by omega, q1, by omega⟩
      · rintro σ H5 ⟨ks, p, rfl, d, p0, p1, ev⟩
        have eD := d.e
        trivial
        by_cases hm : p ∈ ks
        · refine ifT (by rw [dk_in hm]; rfl) ?_
          have nz : p ≠ -1 := fun z => by
            have := Vs_neg (S := mS ks) (decide_eq_true (z ▸ hm)) (n + 1)
            rw [z] at ev
            have e0 : 2 ^ (n + 1 - ((-1 : Int) + 1).toNat) = 2 ^ (n + 1) := rfl
            omega
          have ed := Vs_del (S := mS ks) (decide_eq_true hm) p0 p1
          have ew2 : 2 ^ (n + 1 - (p - 1 + 1).toNat) = 2 ^ (n + 1 - (p + 1).toNat) + 2 ^ (n + 1 - (p + 1).toNat) := by
            rw [show n + 1 - (p - 1 + 1).toNat = (n + 1 - (p + 1).toNat) + 1 by omega, Nat.pow_succ]
            omega
          have sm := dk_in hm
          trivial
          refine ⟨(show V.int p = kV (Sum.inl p) from rfl), by rw [sm]; rfl, ?_⟩
          trivial
          refine ⟨⟨_, p - 1, rfl, d.del nD hm, by omega, by omega, ?_⟩, ?_⟩
          · rw [mS_drop]; omega
          · show (p - 1 + 2).toNat < (p + 2).toNat; omega
        · refine ifF (by rw [dk_no hm]; rfl) ?_
          trivial
          refine ⟨DPut.k (k := Sum.inl p) eD (by rw [sizeLine_eq, dk, List.length_map]; have := d.l; have hj' : j < l.length := (by simpa using hj); omega), ?_⟩
          refine ⟨ks ++ [p], _, _, rfl, d.add nD hm p0 p1, ?_⟩
          rw [mS_put, Vs_put (decide_eq_false hm) p0 p1]
          exact ev
      · rintro σ H Q Q' hQ ⟨v, h1, v2, h2, a, o, e, g, c, e2, q⟩
        exact ⟨v, h1, v2, h2, a, o, e, g, c, e2, hQ _ _ q⟩
    · rintro σ H3 ⟨ks, v3, v4, rfl, d, ev⟩
      refine ⟨ks, _, _, _, rfl, ?_, ?_⟩
      · rw [ec]; simpa using d
      · rw [et, ev, List.take_of_length_le (by simp)]
  · rintro σ H1 ⟨ks, v2, v3, v4, rfl, d, ev⟩
    have eD := d.e
    have dl := d.l
    have dl' : ks.length ≤ ns.length + ms.length := dl
    refine ⟨_, rfl, _, _, ks, rfl, .inl eD, by simp [dk], by omega, fun ys p hp hy np => ?_⟩
    trivial
    intro p2 n2
    refine k p2 _ ys (snew (snew d.s np) n2) upd_same ?_ (fun q hq => d.b q (hp.mem_iff.mp hq)) ?_ (by rw [hp.length_eq]; exact dl')
    · exact List.Pairwise.imp₂ (fun h1 h2 => by omega) hy ((hp.nodup_iff).mpr d.nd)
    · rw [show mS ys = mS ks from funext fun q => decide_eq_decide.mpr hp.mem_iff]
      exact ev
end
end KQ
set_option Elab.async false
set_option maxRecDepth 100000
set_option maxHeartbeats 4000000
namespace KQ
open PySem PySem.Spec PyProof.Rows L2
local macro_rules | `(tactic| walk_at "kq hp") => `(tactic| (first | assumption | exact upd_same | (rw [upd_ne (by first | assumption | exact Ne.symm (by assumption))]; first | assumption | exact upd_same | (rw [upd_ne (by first | assumption | exact Ne.symm (by assumption))]; first | assumption | exact upd_same))))
local macro_rules | `(tactic| walk_at "kq do") => `(tactic| (first | decide | omega))
local macro_rules | `(tactic| walk_at "kq cl") => `(tactic| focus (first | rfl | assumption | exact upd_same | exact SqL.of (by walk_at "kq hp") | exact SqT.of (by walk_at "kq hp") | exact Or.inl (SqL.of (by walk_at "kq hp")) | exact Or.inr (SqT.of (by walk_at "kq hp")) | exact Or.inl ⟨rfl, _, SqL.of (by walk_at "kq hp")⟩ | walk_at "kq hp" | decide | exact Nat.le_of_ble_eq_true rfl | omega | (show ∃ xs, SqL _ _ _ xs; exact ⟨_, SqL.of (by walk_at "kq hp")⟩) | (show ∃ xs, SqT _ _ _ xs; exact ⟨_, SqT.of (by walk_at "kq hp")⟩) | exact DGet.k (k := Sum.inl _) (by walk_at "kq hp") | (show V.int _ = kV (Sum.inl _); rfl) | (show ∃ z, V.str _ = V.str z; exact ⟨_, rfl⟩) | exact Or.inl ⟨by walk_at "kq do", by walk_at "kq do"⟩ | exact Or.inr ⟨by walk_at "kq do", by walk_at "kq do"⟩ | exact ⟨by walk_at "kq do", by walk_at "kq do"⟩ | exact ⟨by decide, by decide, by decide⟩ | exact L2.ClsV.ty _ | exact Dt.ty (by assumption) | exact Dt.kint (by assumption) | exact Dt.kbool (by assumption) | exact Dt.ktuple (by assumption) | exact Dt.klist (by assumption) | exact Dt.kstr (by assumption)))
local macro_rules | `(tactic| trivial) => `(tactic| repeat (first | (apply And.intro; walk_at "kq cl") | (apply Exists.intro; apply And.intro; walk_at "kq cl") | (apply Exists.intro; apply Exists.intro; apply And.intro; walk_at "kq cl") | (apply Exists.intro; apply Exists.intro; apply Exists.intro; apply And.intro; walk_at "kq cl") | (apply Exists.intro; apply Exists.intro; apply Exists.intro; apply Exists.intro; apply And.intro; walk_at "kq cl") | (apply Exists.intro; apply Exists.intro; apply Exists.intro; apply Exists.intro; apply Exists.intro; apply And.intro; walk_at "kq cl") | (apply Exists.intro; apply Exists.intro; apply Exists.intro; apply Exists.intro; apply Exists.intro; apply Exists.intro; apply And.intro; walk_at "kq cl") | (apply Exists.intro; apply Exists.intro; apply Exists.intro; apply Exists.intro; apply Exists.intro; apply Exists.intro; apply Exists.intro; apply And.intro; walk_at "kq cl") | (apply Exists.intro; apply Exists.intro; apply Exists.intro; apply Exists.intro; apply Exists.intro; apply Exists.intro; apply Exists.intro; apply Exists.intro; apply And.intro; walk_at "kq cl") | (apply Exists.intro; apply Exists.intro; apply Exists.intro; apply Exists.intro; apply Exists.intro; apply Exists.intro; apply Exists.intro; apply Exists.intro; apply Exists.intro; apply And.intro; walk_at "kq cl") | refine Or.inl ⟨_, rfl, ?_⟩ | refine Or.inr ⟨_, rfl, ?_⟩ | refine Or.inr ⟨SqT.of (by walk_at "kq hp"), SqT.of (by walk_at "kq hp"), ?_⟩ | refine Or.inl ⟨SqL.of (by walk_at "kq hp"), SqL.of (by walk_at "kq hp"), ?_⟩ | refine Or.inl ⟨SqL.of (by walk_at "kq hp"), ?_⟩ | refine Or.inr ⟨SqT.of (by walk_at "kq hp"), ?_⟩ | refine ifT rfl ?_ | refine ifF rfl ?_))
theorem ascB_iff : ∀ {ns : List Int}, ascB ns = true ↔ ns.Pairwise (· < ·)
  | [] => by simp [ascB]
  | [x] => by simp [ascB]
  | x :: y :: r => by
    have ih := ascB_iff (ns := y :: r)
    have e : ascB (x :: y :: r) = (decide (x < y) && ascB (y :: r)) := rfl
    rw [e, Bool.and_eq_true, decide_eq_true_eq, ih]
    constructor
    · rintro ⟨h1, h2⟩
      refine List.pairwise_cons.mpr ⟨fun z hz => ?_, h2⟩
      rcases List.mem_cons.mp hz with rfl | hz
      · exact h1
      · exact Int.lt_trans h1 ((List.pairwise_cons.mp h2).1 z hz)
    · intro h
      exact ⟨(List.pairwise_cons.mp h).1 y (List.mem_cons_self ..), (List.pairwise_cons.mp h).2⟩
theorem shL_iff {ks : List Int} : shL (ks.map V.int) = true ↔ Sh ks := by
  have e1 : (ks.map V.int).map intV = ks := by
    rw [List.map_map]
    exact List.map_id'' (fun _ => rfl) ks
  have e2 : (ks.map V.int).all numV = true ↔ ∀ q ∈ ks, 0 ≤ q := by simp [numV]
  rw [shL, Bool.and_eq_true, Bool.and_eq_true, e1, e2, ascB_iff]
  constructor
  · rintro ⟨⟨h1, h2⟩, h3⟩
    refine ⟨h1, h2, fun z => ?_⟩
    match ks, h1, h2, h3, z with
    | [x], h1, h2, h3, z => simp at z; rw [z]
    | x :: y :: r, h1, h2, h3, z =>
      have h4 : 0 < x := by
        simp [intV] at h3
        omega
      rcases List.mem_cons.mp z with e | e
      · omega
      · have := (List.pairwise_cons.mp h2).1 0 e
        omega
  · rintro ⟨h1, h2, h3⟩
    refine ⟨⟨h1, h2⟩, ?_⟩
    match ks, h1, h2, h3 with
    | [], _, _, _ => rfl
    | [x], _, _, _ => rfl
    | x :: y :: r, h1, h2, h3 =>
      have : 0 < x := by
        have a := h1 x (List.mem_cons_self ..)
        by_cases e : x = 0
        · have := h3 (by rw [e]; exact List.mem_cons_self ..)
          simp at this
        · omega
      simp [intV, this]
theorem Tg.ints {H : Hp} {a : Addr} {ks : List Int} (h : H a = some (.tup (ks.map V.int))) (hl : ks.length ≤ 1000) : Tg H (.ref a) :=
  ⟨⟨_, .tup h⟩, fun b xs e h2 => by
    cases e
    rw [h] at h2
    cases h2
    exact ⟨by simpa using hl, fun x hx => by obtain ⟨q, _, rfl⟩ := List.mem_map.mp hx; exact ⟨_, .int q⟩⟩⟩
theorem tupB_same {f : List V → Bool} {H H1 : Hp} {v : V} (g : Tg H v) (s : Same H H1) : tupB f H1 v = tupB f H v := by
  obtain ⟨t, d⟩ := g.t
  by_cases ht : t = "tuple"
  · obtain ⟨a, xs, rfl, ea⟩ := d.tup_inv ht
    rw [tupB_at ea, tupB_at (s _ _ ea)]
  · rw [tupB_no d ht, tupB_no (d.same s) ht]
theorem share_inv {H : Hp} {v : V} (g : Tg H v) (e : tupB shL H v = true) : ∃ a ns, v = .ref a ∧ H a = some (.tup (ns.map V.int)) ∧ Sh ns ∧ ns.length ≤ 1000 := by
  obtain ⟨t, d⟩ := g.t
  by_cases ht : t = "tuple"
  · obtain ⟨a, xs, rfl, ea⟩ := d.tup_inv ht
    rw [tupB_at ea] at e
    have n1 := nums_back (xs := xs) (by rw [shL, Bool.and_eq_true, Bool.and_eq_true] at e; exact e.1.1)
    have hl := (g.xs a xs rfl ea).1
    generalize xs.map intV = ns at n1
    subst n1
    exact ⟨a, ns, rfl, ea, shL_iff.mp e, by simpa using hl⟩
  · rw [tupB_no d ht] at e
    cases e
def spAdded : Sp := fun vs H Q _ => ∃ (n : Nat) (a b : Addr) (ns ms : List Int), vs = [.ref a, .ref b] ∧ H a = some (.tup (ns.map V.int)) ∧ H b = some (.tup (ms.map V.int)) ∧
  Sh ns ∧ Sh ms ∧ Bd n ns ∧ Bd n ms ∧ ns.length + ms.length ≤ 1000 ∧ (addS n ns ms = none → ∀ H', Same H H' → Q .non H') ∧
  ∀ ks, addS n ns ms = some ks → ks.length ≤ ns.length + ms.length → ∀ p H', Same H H' → H' p = some (.tup (ks.map V.int)) → Q (.ref p) H'
def spCheckShare (CN : Addr) : Sp := fun vs H Q E => ∃ v : V, vs = [v] ∧ Tg H v ∧ (tupB shL H v = false → ∀ H', Same H H' → E (.ref CN) none H') ∧ (tupB shL H v = true → ∀ H', Same H H' → Q .non H')
def spSumOf (CN : Addr) : Sp := fun vs H Q E => ∃ v1 v2 : V, vs = [v1, v2] ∧ Tg H v1 ∧ Tg H v2 ∧ ((tupB shL H v1 && tupB shL H v2) = false → ∀ H', Same H H' → E (.ref CN) none H') ∧
  ∀ a b ns ms, v1 = .ref a → v2 = .ref b → H a = some (.tup (ns.map V.int)) → H b = some (.tup (ms.map V.int)) → Sh ns → Sh ms → ∃ n, Bd n ns ∧ Bd n ms ∧ ns.length + ms.length ≤ 1000 ∧ (addS n ns ms = none → ∀ H', Same H H' → E (.ref CN) none H') ∧
    ∀ ks, addS n ns ms = some ks → ks.length ≤ ns.length + ms.length → ∀ p H', Same H H' → H' p = some (.tup (ks.map V.int)) → Q (.ref p) H'
def spHalved : Sp := fun vs H Q _ => ∃ (a : Addr) (ns : List Int), vs = [.ref a] ∧ H a = some (.tup (ns.map V.int)) ∧ ns.length ≤ 1000 ∧ ∀ p H', Same H H' → H' p = some (.tup ((ns.map (· + 1)).map V.int)) → Q (.ref p) H'
def spHalf (CN : Addr) : Sp := fun vs H Q E => ∃ v : V, vs = [v] ∧ Tg H v ∧ (tupB (fun xs => shL xs && decide (0 < xs.length)) H v = false → ∀ H', Same H H' → E (.ref CN) none H') ∧
  ∀ a ns, v = .ref a → H a = some (.tup (ns.map V.int)) → Sh ns → ns ≠ [] → ∀ p H', Same H H' → H' p = some (.tup ((ns.map (· + 1)).map V.int)) → Q (.ref p) H'
section
variable {P : Program} {w : World} {K : PySem.W.Frag} {mg : Str → Option Value} {base : Heap} {CN : Addr}
theorem d_added (F : FunAt K mg "added" s_added) (D_merged : Has P w K mg base 1 "merged" ["shares"] spMerged) (D_is_share : Has P w K mg base 3 "is_share" ["thing"] (spTup shL)) : Has P w K mg base 4 "added" ["one", "other"] spAdded := by
  refine mk_has F sc_added (fun _ _ _ _ _ _ us hl => match us, hl with | [_, _], _ => rfl) (fun vs H Q E h => ?_) fun f cdv A outer s H vs Q E hr h => ?_
  · obtain ⟨n, a, b, ns, ms, rfl, _⟩ := h
    rfl
  obtain ⟨n, a, b, ns, ms, rfl, ea, eb, hns, hms, bn, bm, hl, k1, k2⟩ := h
  refine ⟨_, (pss_cons (ps_set (i := 2) sc_added.nd rfl (Or.inl rfl) (pe_h D_merged (hr.mono (by decide)) rfl (pa_cons (pe_tup (pa_cons (pv 0) (pa_cons (pv 1) pa_nil))) pa_nil)))
    (pss_one (ps_ret (pe_ifExp (pt_val (pe_h D_is_share (hr.mono (by decide)) rfl (pa_cons (pv 2) pa_nil))) (pv 2) pe_non)))), ?_⟩
  trivial
  intro t nt
  have st := same_new0 (o := .tup [.ref a, .ref b]) nt
  refine ⟨n, t, a, b, ns, ms, rfl, upd_same, st _ _ ea, st _ _ eb, hns, hms, bn, bm, hl, fun p H1 ks s1 ep hp hb ev hk => ?_⟩
  have g := Tg.ints ep (by omega)
  trivial
  intro H2 s2
  have ep2 := s2 _ _ ep
  rw [tupB_at ep]
  rcases addS_of hp hb ev with ⟨q1, q2⟩ | ⟨q1, q2⟩
  · rw [shL_iff.mpr q1]
    trivial
    exact k2 ks q2 hk p H2 ((st.trans s1).trans s2) ep2
  · rw [Bool.eq_false_iff.mpr fun z => q1 (shL_iff.mp z)]
    trivial
    exact k1 q2 H2 ((st.trans s1).trans s2)
theorem d_halved (B : Bi mg) (F : FunAt K mg "halved" s_halved) : Has P w K mg base 1 "halved" ["share"] spHalved := by
  refine mk_has F sc_halved (fun _ _ _ _ _ _ us hl => match us, hl with | [_], _ => rfl) (fun vs H Q E h => ?_) fun f cdv A outer s H vs Q E hr h => ?_
  · obtain ⟨a, ns, rfl, _⟩ := h
    rfl
  obtain ⟨a, ns, rfl, ea, hl, k⟩ := h
  refine ⟨_, (pss_one (ps_ret (pe_callTy call_tuple_of rfl B.tuple (by decide +kernel) (pa_cons (pe_lc (own := [("number", 1)]) (g := gName 1) (tt := tYes) (te := (tOp (rI0 fun i j => .int (i + j)) (tVar 1) (tC (.int 1)))) rfl sc_halved.nd (pi_tup (pv 0)) (blkOk_by (own := [("number", 1)]) (N := ["share", "number"]) (sc := defScope s_halved) (by decide +kernel)) (fun _ _ _ _ _ => (pg_name (i := 1) sc_halved.nd rfl (Or.inl rfl))) (fun _ _ _ _ _ => pts_nil) (fun _ _ _ _ _ => (pe_op op_add (pv 1) pe_int))) pa_nil)))), ?_⟩
  trivial
  intro D nD
  refine lc_map (walk_tup (xs := ns.map V.int)) ((ns.map (· + 1)).map V.int) (by simp) nD (by simp; omega) (fun i H' _ s => SqT.of (s _ _ ea)) (fun i x H3 H4 Pn hi s2 y fin => ?_) fun H3 s2 e1 => ?_
  · obtain ⟨rfl, gx⟩ := y
    rw [List.getElem?_map] at gx
    obtain ⟨q, hq, rfl⟩ := Option.map_eq_some_iff.mp gx
    trivial
    exact fin _ _ (by rw [List.getElem?_map, List.getElem?_map, hq]; rfl) (Same.refl _)
  · trivial
    intro p np
    exact k p _ (snew s2 np) upd_same
end
end KQ
set_option Elab.async false
set_option maxRecDepth 100000
set_option maxHeartbeats 4000000
namespace KQ
open PySem PySem.Spec PyProof.Rows L2
theorem okB {c b : Bool} {Q : VK} {H : Hp} (h : c = b) (q : Q (.bl b) H) : Q (.bl c) H := by rw [h]; exact q
theorem Rp.notN {N : Addr → Prop} {H : Hp} {v : V} {d : PyData} (r : Rp N H v d) (h : d ≠ .none) : decide (v = .non) = false := by
  cases r <;> simp at h ⊢
theorem Rp.notB {N : Addr → Prop} {H : Hp} {v : V} {d : PyData} (r : Rp N H v d) {b : Bool} (h : d ≠ .bool b) : decide (v = .bl b) = false := by
  cases r <;> simp at h ⊢
  exact h
theorem RpAll.at_ {N : Addr → Prop} {H : Hp} : ∀ {vs : List V} {ds : List PyData} {i : Nat} {v : V}, RpAll N H vs ds → vs[i]? = some v → ∃ d, d ∈ ds ∧ ds[i]? = some d ∧ Rp N H v d
  | _, _, _, _, .nil, e => by simp at e
  | _, _, 0, _, .cons r _, e => by simp at e; subst e; exact ⟨_, List.mem_cons_self, rfl, r⟩
  | _, _, i + 1, _, .cons _ t, e => by
    obtain ⟨d, m, g, r⟩ := t.at_ (i := i) (by simpa using e)
    exact ⟨d, List.mem_cons_of_mem _ m, by simpa using g, r⟩
theorem depth_mem : ∀ {ds : List PyData} {d : PyData}, d ∈ ds → d.depth ≤ PyData.depthAll ds
  | x :: xs, d, h => by
    unfold PyData.depthAll
    rcases List.mem_cons.mp h with rfl | h
    · exact Nat.le_max_left _ _
    · exact Nat.le_trans (depth_mem h) (Nat.le_max_right _ _)
theorem lay_mem : ∀ {ds : List PyData} {d : PyData}, PyData.canLayAll0 ds = true → d ∈ ds → d.canLay0 = true
  | x :: xs, d, e, h => by
    unfold PyData.canLayAll0 at e
    rw [Bool.and_eq_true] at e
    rcases List.mem_cons.mp h with rfl | h
    · exact e.1
    · exact lay_mem e.2 h
section
variable {P : Program} {w : World} {K : PySem.W.Frag} {mg : Str → Option Value} {base : Heap}
end
end KQ
set_option Elab.async false
set_option maxRecDepth 100000
set_option maxHeartbeats 4000000
namespace KQ
open PySem PySem.Spec PyProof.Rows L2
theorem has_none {P : Program} {w : World} {K : PySem.W.Frag} {mg : Str → Option Value} {base : Heap} {x : Str} {st : Stmt} {ps : List Str} {k : Nat} {sp : Sp} (F : FunAt K mg x st) (hb : BindsTo? st x ps) (no : ∀ vs H Q E, ¬ sp vs H Q E) : Has P w K mg base k x ps sp := by
  obtain ⟨f, fd, F, m⟩ := F
  exact ⟨f, fd, ⟨fun vs H Q E h => absurd h (no vs H Q E), fun A outer s H args us vs Q E _ _ _ _ h => absurd h (no vs H Q E)⟩, m, F.kp, F.binds hb⟩
/-- the odd things -/
def odds : List PyData := [.none, .bool true, .bool false, .str "", .str "do", .str "0", .tuple [], .list [], .dict [], .tuple [.int 0], .list [.int 0, .int 0], .tuple [.tuple []],
  .int (-1), .int 13, .int (10 ^ 20 - 1), .tuple [.int 0, .int 13], .tuple [.bool true, .int 0], .tuple [.int 0, .int 0, .int 0]]
def spOdd : Sp := fun vs H Q _ => ∃ h l : Addr, vs = [.ref h] ∧ HandOk H h l ∧ ∀ (v : V) (d : PyData) (H' : Hp), d ∈ odds → Rp (Nh h) H' v d → HandOk H' h l → Kp (Nh h) H H' → Q v H'
theorem lt6 {i : Int} (h0 : 0 ≤ i) (h : i < 6) : i = 0 ∨ i = 1 ∨ i = 2 ∨ i = 3 ∨ i = 4 ∨ i = 5 := by omega
theorem Kp.hand {H H' : Hp} {h : Addr} (k : ∀ a, a ≠ h → H' a = H a) : Kp (Nh h) H H' := fun a o e n => by rw [k a n]; exact e
theorem Kp.hn {H : Hp} {h p : Addr} {H0 : Hp} {o : HO} (k : Kp (Nh h) H0 H) (n : H p = none) : Kp (Nh h) H0 (upd H p o) := k.new' n
/-- a datum just laid -/
theorem Rp.tup0 {H : Hp} {h l p : Addr} {vs : List V} {ds : List PyData} (ho : HandOk H h l) (n : H p = none) (r : RpAll (Nh h) H vs ds) : Rp (Nh h) (upd H p (.tup vs)) (.ref p) (.tuple ds) :=
  .tup upd_same (ho.ne n) (r.to (Kp.new n))
theorem Rp.lst0 {H : Hp} {h l p : Addr} {vs : List V} {ds : List PyData} (ho : HandOk H h l) (n : H p = none) (r : RpAll (Nh h) H vs ds) : Rp (Nh h) (upd H p (.lst vs)) (.ref p) (.list ds) :=
  .lst upd_same (ho.ne n) (r.to (Kp.new n))
theorem Rp.emp0 {H : Hp} {h l p : Addr} (ho : HandOk H h l) (n : H p = none) : Rp (Nh h) (upd H p (.dK [])) (.ref p) (.dict []) :=
  .emp upd_same (ho.ne n)
abbrev rI1 {N : Addr → Prop} {H : Hp} (i : Int) : RpAll N H [.int i] [.int i] := .cons (.int i) .nil
section
variable {P : Program} {w : World} {K : PySem.W.Frag} {mg : Str → Option Value} {base : Heap}
end
end KQ
set_option Elab.async false
set_option maxRecDepth 100000
set_option maxHeartbeats 4000000
namespace KQ
open PySem PySem.Spec PyProof.Rows L2
local macro_rules | `(tactic| walk_at "kq hp") => `(tactic| (first | assumption | exact upd_same | (rw [upd_ne (by first | assumption | exact Ne.symm (by assumption))]; first | assumption | exact upd_same | (rw [upd_ne (by first | assumption | exact Ne.symm (by assumption))]; first | assumption | exact upd_same))))
local macro_rules | `(tactic| walk_at "kq do") => `(tactic| (first | decide | omega))
local macro_rules | `(tactic| walk_at "kq cl") => `(tactic| focus (first | rfl | assumption | exact upd_same | exact SqL.of (by walk_at "kq hp") | exact SqT.of (by walk_at "kq hp") | exact Or.inl (SqL.of (by walk_at "kq hp")) | exact Or.inr (SqT.of (by walk_at "kq hp")) | exact Or.inl ⟨rfl, _, SqL.of (by walk_at "kq hp")⟩ | walk_at "kq hp" | decide | exact Nat.le_of_ble_eq_true rfl | omega | (show ∃ xs, SqL _ _ _ xs; exact ⟨_, SqL.of (by walk_at "kq hp")⟩) | (show ∃ xs, SqT _ _ _ xs; exact ⟨_, SqT.of (by walk_at "kq hp")⟩) | exact DGet.k (k := Sum.inl _) (by walk_at "kq hp") | (show V.int _ = kV (Sum.inl _); rfl) | (show ∃ z, V.str _ = V.str z; exact ⟨_, rfl⟩) | exact Or.inl ⟨by walk_at "kq do", by walk_at "kq do"⟩ | exact Or.inr ⟨by walk_at "kq do", by walk_at "kq do"⟩ | exact ⟨by walk_at "kq do", by walk_at "kq do"⟩ | exact ⟨by decide, by decide, by decide⟩ | exact L2.ClsV.ty _ | exact Dt.ty (by assumption) | exact Dt.kint (by assumption) | exact Dt.kbool (by assumption) | exact Dt.ktuple (by assumption) | exact Dt.klist (by assumption) | exact Dt.kstr (by assumption)))
local macro_rules | `(tactic| trivial) => `(tactic| repeat (first | (apply And.intro; walk_at "kq cl") | (apply Exists.intro; apply And.intro; walk_at "kq cl") | (apply Exists.intro; apply Exists.intro; apply And.intro; walk_at "kq cl") | (apply Exists.intro; apply Exists.intro; apply Exists.intro; apply And.intro; walk_at "kq cl") | (apply Exists.intro; apply Exists.intro; apply Exists.intro; apply Exists.intro; apply And.intro; walk_at "kq cl") | (apply Exists.intro; apply Exists.intro; apply Exists.intro; apply Exists.intro; apply Exists.intro; apply And.intro; walk_at "kq cl") | (apply Exists.intro; apply Exists.intro; apply Exists.intro; apply Exists.intro; apply Exists.intro; apply Exists.intro; apply And.intro; walk_at "kq cl") | (apply Exists.intro; apply Exists.intro; apply Exists.intro; apply Exists.intro; apply Exists.intro; apply Exists.intro; apply Exists.intro; apply And.intro; walk_at "kq cl") | (apply Exists.intro; apply Exists.intro; apply Exists.intro; apply Exists.intro; apply Exists.intro; apply Exists.intro; apply Exists.intro; apply Exists.intro; apply And.intro; walk_at "kq cl") | (apply Exists.intro; apply Exists.intro; apply Exists.intro; apply Exists.intro; apply Exists.intro; apply Exists.intro; apply Exists.intro; apply Exists.intro; apply Exists.intro; apply And.intro; walk_at "kq cl") | refine Or.inl ⟨_, rfl, ?_⟩ | refine Or.inr ⟨_, rfl, ?_⟩ | refine Or.inr ⟨SqT.of (by walk_at "kq hp"), SqT.of (by walk_at "kq hp"), ?_⟩ | refine Or.inl ⟨SqL.of (by walk_at "kq hp"), SqL.of (by walk_at "kq hp"), ?_⟩ | refine Or.inl ⟨SqL.of (by walk_at "kq hp"), ?_⟩ | refine Or.inr ⟨SqT.of (by walk_at "kq hp"), ?_⟩ | refine ifT rfl ?_ | refine ifF rfl ?_))
mutual
def thin : PyData → Bool
  | .tuple ds => decide (ds.length ≤ 1000) && thinAll ds
  | .list ds => decide (ds.length ≤ 1000) && thinAll ds
  | _ => true
def thinAll : List PyData → Bool
  | [] => true
  | d :: ds => thin d && thinAll ds
end
theorem thin_mem : ∀ {ds : List PyData} {d : PyData}, thinAll ds = true → d ∈ ds → thin d = true
  | [], _, _, h => absurd h (List.not_mem_nil)
  | x :: ds, d, e, h => by
    rw [thinAll, Bool.and_eq_true] at e
    rcases List.mem_cons.mp h with rfl | h
    · exact e.1
    · exact thin_mem e.2 h
/-- two that stand for one thing are told alike -/
def spIs (n : Nat) : Sp := fun vs H Q _ => ∃ (N N' : Addr → Prop) (a b : V) (d : PyData), vs = [a, b] ∧ Rp N H a d ∧ Rp N' H b d ∧ d.depth ≤ n ∧ d.canLay0 = true ∧ thin d = true ∧ ∀ H', Same H H' → Q (.bl true) H'
theorem isiT_go {K : PySem.W.Frag} {N : Addr → Prop} {H : Hp} {v : V} {d : PyData} {tp : Addr} {Q : VK} (r : Rp N H v d) (h : H tp = some (.tup [.ty "tuple", .ty "list"])) (q : Q (.bl (isT "tuple" d || isT "list" d)) H) : rIsiT K [v, .ref tp] H Q := by
  refine ⟨v, tp, _, _, [.type "tuple", .type "list"], _, rfl, h, .cons (.ty _) (.cons (.ty _) .nil), r.ty, ?_, q⟩
  have z : ∀ b : Bool, b = (b || false) := fun b => by simp
  cases e1 : isT "tuple" d with
  | true => exact kitAny_cons (b := true) (by rw [kit_tuple, e1]) (fun z => nomatch z) fun _ => rfl
  | false =>
    refine kitAny_cons (b := false) (by rw [kit_tuple, e1]) (fun _ => ?_) fun z => nomatch z
    cases e2 : isT "list" d with
    | true => exact kitAny_cons (b := true) (by rw [kit_list, e2]) (fun z => nomatch z) fun _ => rfl
    | false => exact kitAny_cons (b := false) (by rw [kit_list, e2]) (fun _ => kitAny_nil) fun z => nomatch z
section
variable {P : Program} {w : World} {K : PySem.W.Frag} {mg : Str → Option Value} {base : Heap}
theorem is_step (B : Bi mg) (F : FunAt K mg "_law_is" s_law_is) (n : Nat) (D_law_is : Has P w K mg base n "_law_is" ["told", "due"] (fun vs H Q E => ∃ m, m + 1 = n ∧ spIs m vs H Q E)) :
    Has P w K mg base (n + 1) "_law_is" ["told", "due"] (spIs n) := by
  refine mk_has F sc_law_is (fun _ _ _ _ _ _ us hl => match us, hl with | [_, _], _ => rfl) (fun vs H Q E h => ?_) fun f cdv A outer s H vs Q E hr h => ?_
  · obtain ⟨N, N', a, b, d, rfl, _⟩ := h
    rfl
  obtain ⟨N, N', a, b, d, rfl, ra, rb, hd, hc, ht, k⟩ := h
  refine ⟨_, (pss_cons (ps_if (pt_val (pe_callB call_isiT rfl B.isinstance (by decide +kernel) (pa_cons (pv 1) (pa_cons (pe_tup (pa_cons (pe_bltn (v := .ty "tuple") rfl B.tuple (by decide +kernel) rfl) (pa_cons (pe_bltn (v := .ty "list") rfl B.list (by decide +kernel) rfl) pa_nil))) pa_nil))))
    (pss_cons (ps_if (PW.pt (pw_or (pt_cmpR op_ne (pe_callB call_isi rfl B.isinstance (by decide +kernel) (pa_cons (pv 0) (pa_cons (pe_bltn (v := .ty "tuple") rfl B.tuple (by decide +kernel) rfl) pa_nil))) (pe_callB call_isi rfl B.isinstance (by decide +kernel) (pa_cons (pv 1) (pa_cons (pe_bltn (v := .ty "tuple") rfl B.tuple (by decide +kernel) rfl) pa_nil))) (nomark _)) (pw_or1 (pt_not (pt_val (pe_callB call_isiT rfl B.isinstance (by decide +kernel) (pa_cons (pv 0) (pa_cons (pe_tup (pa_cons (pe_bltn (v := .ty "tuple") rfl B.tuple (by decide +kernel) rfl) (pa_cons (pe_bltn (v := .ty "list") rfl B.list (by decide +kernel) rfl) pa_nil))) pa_nil))))))))
    (pss_one (ps_ret pe_bl))
    pss_nil)
    (pss_one (ps_ret (pe_and (pe_cmpR op_eq (pe_callB call_len_seq rfl B.len PySem.boot_len (pa_cons (pv 0) pa_nil)) (pe_callB call_len_seq rfl B.len PySem.boot_len (pa_cons (pv 1) pa_nil)) (nomark _)) (pe_one (pe_callB (cr_all rfl) rfl B.all (by decide +kernel) (pa_cons (pe_lc (own := [("one", 2), ("two", 3)]) (g := gTup K 2 (gCons (gName 2) (gCons (gName 3) gNil))) (tt := tYes) (te := (tCall (fun vs H Q E => ∃ m, m + 1 = n ∧ spIs m vs H Q E) [] E0 (tCons (tVar 2) (tCons (tVar 3) tNil)))) rfl sc_law_is.nd (RZ.pi_zipA rfl B.zip (pa_cons (pv 0) (pa_cons (pv 1) pa_nil))) (blkOk_by (own := [("one", 2), ("two", 3)]) (N := ["told", "due", "one", "two"]) (sc := defScope s_law_is) (by decide +kernel)) (fun _ _ _ _ _ => (pg_tup rfl (pgs_cons (pg_name (i := 2) sc_law_is.nd rfl (Or.inl rfl)) (pgs_cons (pg_name (i := 3) sc_law_is.nd rfl (Or.inl rfl)) pgs_nil)))) (fun _ _ _ _ _ => pts_nil) (fun _ _ _ _ _ => (pe_h D_law_is hr rfl (pa_cons (pv 2) (pa_cons (pv 3) pa_nil))))) pa_nil)))))))
    pss_nil)
    (pss_one (ps_ret (pe_and (pe_cmpR op_eq (pe_callB call_isi rfl B.isinstance (by decide +kernel) (pa_cons (pv 0) (pa_cons (pe_bltn (v := .ty "bool") rfl B.bool (by decide +kernel) rfl) pa_nil))) (pe_callB call_isi rfl B.isinstance (by decide +kernel) (pa_cons (pv 1) (pa_cons (pe_bltn (v := .ty "bool") rfl B.bool (by decide +kernel) rfl) pa_nil))) (nomark _)) (pe_one (pe_cmpR op_eq (pv 0) (pv 1) (nomark _))))))), ?_⟩
  trivial
  intro t1 n1
  have st1 := same_new0 (o := .tup [.ty "tuple", .ty "list"]) n1
  have rb1 := rb.to (Kp.of_same st1)
  have ra1 := ra.to (Kp.of_same st1)
  unfold tNil
  refine isiT_go rb1 upd_same ?_
  have k0 : ∀ {c : Bool} {H1 : Hp}, Same H H1 → c = true → Q (.bl c) H1 := fun s e => by rw [e]; exact k _ s
  have da := ra1.dt
  have db := rb1.dt
  cases d with
  | dict kvs => simp [PyData.canLay0] at hc
  | tuple ds =>
    trivial
    intro t2 n2
    have ra2 := ra1.to (Kp.new (o := .tup [.ty "tuple", .ty "list"]) n2)
    refine isiT_go ra2 upd_same ?_
    cases ra with
    | @tup pa xs _ ha na aa =>
    cases rb with
    | @tup pb ys _ hb nb ab =>
    have s2 := st1.trans (same_new0 (o := .tup [.ty "tuple", .ty "list"]) n2)
    have ha2 := s2 _ _ ha
    have hb2 := s2 _ _ hb
    rw [thin, Bool.and_eq_true, decide_eq_true_eq] at ht
    have aa_len : xs.length ≤ 16777216 := by have := ht.1; have := aa.length; omega
    have el : xs.length = ys.length := aa.length.trans ab.length.symm
    trivial
    refine ifT (by rw [el]; simp) ?_
    trivial
    intro D nD
    refine lc_map (walk_zipT (show xs.length = min xs.length ys.length by rw [el]; simp)) (List.replicate xs.length (.bl true)) (by simp) nD aa_len (fun i H' _ s => ⟨SqT.of (s _ _ ha2), SqT.of (s _ _ hb2)⟩) (fun i x H3 H4 Pn hi s3 y fin => ?_) fun H3 s3 e1 => ?_
    · obtain ⟨T, x, z, rfl, nT, rfl, gx, gz⟩ := ypair y
      obtain ⟨dx, mx, gdx, rx⟩ := aa.at_ gx
      obtain ⟨dz, mz, gdz, rz⟩ := ab.at_ gz
      rw [gdx] at gdz
      cases gdz
      have s4 : Same H (upd H3 T (.tup [x, z])) := (s2.trans s3).trans (same_new0 nT)
      have hd' : dx.depth + 1 ≤ n := Nat.le_trans (Nat.succ_le_succ (depth_mem mx)) hd
      refine ⟨_, _, rfl, SqT.of upd_same, rfl, _, _, rfl, _, _, rfl, rfl, rfl, ?_⟩
      refine ⟨_, rfl, _, rfl, n - 1, by omega, N, N', x, z, dx, rfl, rx.to (Kp.of_same s4), rz.to (Kp.of_same s4), by omega, lay_mem hc mx, thin_mem ht.2 mx, fun H5 s5 => ?_⟩
      exact fin _ _ (by rw [List.getElem?_replicate, if_pos hi]) ((same_new0 nT).trans s5)
    · rw [show (List.replicate xs.length (V.bl true)) = (List.replicate xs.length true).map V.bl by simp] at e1
      trivial
      exact k0 (s2.trans s3) (by simp)
  | list ds =>
    trivial
    intro t2 n2
    have ra2 := ra1.to (Kp.new (o := .tup [.ty "tuple", .ty "list"]) n2)
    refine isiT_go ra2 upd_same ?_
    cases ra with
    | @lst pa xs _ ha na aa =>
    cases rb with
    | @lst pb ys _ hb nb ab =>
    have s2 := st1.trans (same_new0 (o := .tup [.ty "tuple", .ty "list"]) n2)
    have ha2 := s2 _ _ ha
    have hb2 := s2 _ _ hb
    rw [thin, Bool.and_eq_true, decide_eq_true_eq] at ht
    have aa_len : xs.length ≤ 16777216 := by have := ht.1; have := aa.length; omega
    have el : xs.length = ys.length := aa.length.trans ab.length.symm
    trivial
    refine ifT (by rw [el]; simp) ?_
    trivial
    intro D nD
    refine lc_map (walk_zip (show xs.length = min xs.length ys.length by rw [el]; simp)) (List.replicate xs.length (.bl true)) (by simp) nD aa_len (fun i H' _ s => ⟨SqL.of (s _ _ ha2), SqL.of (s _ _ hb2)⟩) (fun i x H3 H4 Pn hi s3 y fin => ?_) fun H3 s3 e1 => ?_
    · obtain ⟨T, x, z, rfl, nT, rfl, gx, gz⟩ := ypair y
      obtain ⟨dx, mx, gdx, rx⟩ := aa.at_ gx
      obtain ⟨dz, mz, gdz, rz⟩ := ab.at_ gz
      rw [gdx] at gdz
      cases gdz
      have s4 : Same H (upd H3 T (.tup [x, z])) := (s2.trans s3).trans (same_new0 nT)
      have hd' : dx.depth + 1 ≤ n := Nat.le_trans (Nat.succ_le_succ (depth_mem mx)) hd
      refine ⟨_, _, rfl, SqT.of upd_same, rfl, _, _, rfl, _, _, rfl, rfl, rfl, ?_⟩
      refine ⟨_, rfl, _, rfl, n - 1, by omega, N, N', x, z, dx, rfl, rx.to (Kp.of_same s4), rz.to (Kp.of_same s4), by omega, lay_mem hc mx, thin_mem ht.2 mx, fun H5 s5 => ?_⟩
      exact fin _ _ (by rw [List.getElem?_replicate, if_pos hi]) ((same_new0 nT).trans s5)
    · rw [show (List.replicate xs.length (V.bl true)) = (List.replicate xs.length true).map V.bl by simp] at e1
      trivial
      exact k0 (s2.trans s3) (by simp)
  | none =>
    cases ra; cases rb
    trivial
    exact k0 st1 (by simp)
  | int i =>
    cases ra; cases rb
    trivial
    exact k0 st1 (by simp)
  | bool i =>
    cases ra; cases rb
    trivial
    exact k0 st1 (by simp)
  | str i =>
    cases ra; cases rb
    trivial
    exact k0 st1 (by simp)
theorem d_law_is (B : Bi mg) (F : FunAt K mg "_law_is" s_law_is) : ∀ n : Nat, Has P w K mg base (n + 1) "_law_is" ["told", "due"] (spIs n)
  | 0 => is_step B F 0 (has_none F (fun _ _ _ _ _ _ us hl => match us, hl with | [_, _], _ => rfl) fun _ _ _ _ ⟨_, e, _⟩ => nomatch e)
  | n + 1 => is_step B F (n + 1) ((d_law_is B F n).imp fun _ _ _ _ ⟨m, e, q⟩ => by cases e; exact q)
end
end KQ
set_option Elab.async false
set_option maxRecDepth 100000
set_option maxHeartbeats 4000000
namespace KQ
open PySem PySem.Spec PyProof.Rows L2
local macro_rules | `(tactic| walk_at "kq hp") => `(tactic| (first | assumption | exact upd_same | (rw [upd_ne (by first | assumption | exact Ne.symm (by assumption))]; first | assumption | exact upd_same | (rw [upd_ne (by first | assumption | exact Ne.symm (by assumption))]; first | assumption | exact upd_same))))
local macro_rules | `(tactic| walk_at "kq do") => `(tactic| (first | decide | omega))
local macro_rules | `(tactic| walk_at "kq cl") => `(tactic| focus (first | rfl | assumption | exact upd_same | exact SqL.of (by walk_at "kq hp") | exact SqT.of (by walk_at "kq hp") | exact Or.inl (SqL.of (by walk_at "kq hp")) | exact Or.inr (SqT.of (by walk_at "kq hp")) | exact Or.inl ⟨rfl, _, SqL.of (by walk_at "kq hp")⟩ | walk_at "kq hp" | decide | exact Nat.le_of_ble_eq_true rfl | omega | (show ∃ xs, SqL _ _ _ xs; exact ⟨_, SqL.of (by walk_at "kq hp")⟩) | (show ∃ xs, SqT _ _ _ xs; exact ⟨_, SqT.of (by walk_at "kq hp")⟩) | exact DGet.k (k := Sum.inl _) (by walk_at "kq hp") | (show V.int _ = kV (Sum.inl _); rfl) | (show ∃ z, V.str _ = V.str z; exact ⟨_, rfl⟩) | exact Or.inl ⟨by walk_at "kq do", by walk_at "kq do"⟩ | exact Or.inr ⟨by walk_at "kq do", by walk_at "kq do"⟩ | exact ⟨by walk_at "kq do", by walk_at "kq do"⟩ | exact ⟨by decide, by decide, by decide⟩ | exact L2.ClsV.ty _ | exact Dt.ty (by assumption) | exact Dt.kint (by assumption) | exact Dt.kbool (by assumption) | exact Dt.ktuple (by assumption) | exact Dt.klist (by assumption) | exact Dt.kstr (by assumption)))
local macro_rules | `(tactic| trivial) => `(tactic| repeat (first | (apply And.intro; walk_at "kq cl") | (apply Exists.intro; apply And.intro; walk_at "kq cl") | (apply Exists.intro; apply Exists.intro; apply And.intro; walk_at "kq cl") | (apply Exists.intro; apply Exists.intro; apply Exists.intro; apply And.intro; walk_at "kq cl") | (apply Exists.intro; apply Exists.intro; apply Exists.intro; apply Exists.intro; apply And.intro; walk_at "kq cl") | (apply Exists.intro; apply Exists.intro; apply Exists.intro; apply Exists.intro; apply Exists.intro; apply And.intro; walk_at "kq cl") | (apply Exists.intro; apply Exists.intro; apply Exists.intro; apply Exists.intro; apply Exists.intro; apply Exists.intro; apply And.intro; walk_at "kq cl") | (apply Exists.intro; apply Exists.intro; apply Exists.intro; apply Exists.intro; apply Exists.intro; apply Exists.intro; apply Exists.intro; apply And.intro; walk_at "kq cl") | (apply Exists.intro; apply Exists.intro; apply Exists.intro; apply Exists.intro; apply Exists.intro; apply Exists.intro; apply Exists.intro; apply Exists.intro; apply And.intro; walk_at "kq cl") | (apply Exists.intro; apply Exists.intro; apply Exists.intro; apply Exists.intro; apply Exists.intro; apply Exists.intro; apply Exists.intro; apply Exists.intro; apply Exists.intro; apply And.intro; walk_at "kq cl") | refine Or.inl ⟨_, rfl, ?_⟩ | refine Or.inr ⟨_, rfl, ?_⟩ | refine Or.inr ⟨SqT.of (by walk_at "kq hp"), SqT.of (by walk_at "kq hp"), ?_⟩ | refine Or.inl ⟨SqL.of (by walk_at "kq hp"), SqL.of (by walk_at "kq hp"), ?_⟩ | refine Or.inl ⟨SqL.of (by walk_at "kq hp"), ?_⟩ | refine Or.inr ⟨SqT.of (by walk_at "kq hp"), ?_⟩ | refine ifT rfl ?_ | refine ifF rfl ?_))
def betw (v : V) (lo hi : Int) : Bool := match v with
  | .int i => decide (lo ≤ i) && decide (i ≤ hi)
  | _ => false
def spLNum : Sp := fun vs H Q _ => ∃ (v y : V) (t : String) (lo hi : Int), vs = [v, .int lo, y] ∧ Dt H v t ∧ (∀ i, v = .int i → y = .int hi) ∧ Q (.bl (betw v lo hi)) H
def spWorth : Sp := fun vs H Q _ => ∃ (a : Addr) (ns : List Int) (top : Nat), vs = [.ref a, .int (top : Int)] ∧ H a = some (.tup (ns.map V.int)) ∧ Sh ns ∧ top ≤ 1000 ∧ Q (.int (Vs (mS ns) (top + 1) : Nat)) H
def spLotOf : Sp := fun vs H Q _ => ∃ (W top : Nat), vs = [.int (W : Int), .int (top : Int)] ∧ W < 2 ^ (top + 1) ∧ top ≤ 1000 ∧ ∀ p H', Same H H' → H' p = some (.tup ((lotV (top + 1) W).map V.int)) → Q (.ref p) H'
theorem inV_int {ns : List Int} {q : Int} : inV (.int q) (ns.map V.int) = decide (q ∈ ns) := by
  induction ns with
  | nil => rfl
  | cons n ns ih =>
    have e : inV (.int q) (List.map V.int (n :: ns)) = (eqV (.int n) (.int q) || inV (.int q) (ns.map V.int)) := rfl
    rw [e, ih]
    by_cases c : q = n
    · subst c; simp [eqV]
    · have : ¬ n = q := fun z => c z.symm
      simp [eqV, c, this]
theorem flat_ints {ns : List Int} : (ns.map V.int).all flatV = true := by simp [flatV]
section
variable {P : Program} {w : World} {K : PySem.W.Frag} {mg : Str → Option Value} {base : Heap}
theorem d_law_worth (B : Bi mg) (F : FunAt K mg "_law_worth" s_law_worth) : Has P w K mg base 1 "_law_worth" ["share", "top"] spWorth := by
  refine mk_has F sc_law_worth (fun _ _ _ _ _ _ us hl => match us, hl with | [_, _], _ => rfl) (fun vs H Q E h => ?_) fun f cdv A outer s H vs Q E hr h => ?_
  · obtain ⟨a, ns, top, rfl, _⟩ := h
    rfl
  obtain ⟨a, ns, top, rfl, ea, hs, hl, k⟩ := h
  refine ⟨_, (pss_cons (ps_set (i := 2) sc_law_worth.nd rfl (Or.inl rfl) pe_int)
    (pss_cons (ps_for PassesOwn.never rfl (pi_range1 rfl B.range (pa_cons (pe_op op_add (pv 1) pe_int) pa_nil)) (pg_name (i := 3) sc_law_worth.nd rfl (Or.inl rfl))
    (pss_one (ps_set (i := 2) sc_law_worth.nd rfl (Or.inl rfl) (pe_op op_add (pe_op op_mul (pv 2) pe_int) (pe_callTy call_int1 rfl B.int (by decide +kernel) (pa_cons (pe_cmpR op_in_seq (pv 3) (pv 0) (by rfl)) pa_nil))))))
    (pss_one (ps_ret (pv 2))))), ?_⟩
  trivial
  have h1 : mS ns (-1) = false := decide_eq_false fun z => by have := hs.nn _ z; omega
  refine for_it walk_range (fun i σ H' => ∃ v, σ = [some (.ref a), some (.int (top : Int)), some (.int (Vs (mS ns) i : Nat)), v] ∧ H' = H) ?_ (fun _ _ _ _ _ => trivial) ?_ ?_
  · exact ⟨_, by rw [Vs, h1]; rfl, rfl⟩
  · rintro i x σ H1 H2 hi ⟨v, rfl, rfl⟩ ⟨rfl, rfl⟩
    refine ⟨_, rfl, _, _, rfl, rfl, .inr ⟨by decide, by decide⟩, _, rfl, _, rfl, a, _, rfl, .inr (SqT.of ea), rfl, flat_ints, ?_⟩
    rw [inV_int]
    have e : ((Vs (mS ns) (i + 1) : Nat) : Int) = ((Vs (mS ns) i : Nat) : Int) * 2 + (if decide ((0 : Int) + (i : Int) ∈ ns) = true then 1 else 0) := by
      rw [Vs, Int.zero_add]
      show ((2 * Vs (mS ns) i + (decide ((i : Int) ∈ ns)).toNat : Nat) : Int) = _
      cases decide ((i : Int) ∈ ns) <;> simp <;> omega
    refine .inr ⟨_, rfl, ?_⟩
    trivial
    refine ⟨some (.int (0 + (i : Nat))), ?_, rfl⟩
    rw [e]
    rfl
  · rintro σ H1 ⟨v, rfl, rfl⟩
    trivial
    exact k
theorem d_law_lot_of (B : Bi mg) (F : FunAt K mg "_law_lot_of" s_law_lot_of) : Has P w K mg base 1 "_law_lot_of" ["worth", "top"] spLotOf := by
  refine mk_has F sc_law_lot_of (fun _ _ _ _ _ _ us hl => match us, hl with | [_, _], _ => rfl) (fun vs H Q E h => ?_) fun f cdv A outer s H vs Q E hr h => ?_
  · obtain ⟨W, top, rfl, _⟩ := h
    rfl
  obtain ⟨W, top, rfl, hW, hl, k⟩ := h
  refine ⟨_, (pss_cons (ps_set (i := 2) sc_law_lot_of.nd rfl (Or.inl rfl) (pe_lst pa_nil))
    (pss_cons (ps_set (i := 3) sc_law_lot_of.nd rfl (Or.inl rfl) (pv 0))
    (pss_cons (ps_for PassesOwn.never rfl (pi_range1 rfl B.range (pa_cons (pe_op op_add (pv 1) pe_int) pa_nil)) (pg_name (i := 4) sc_law_lot_of.nd rfl (Or.inl rfl))
    (C8.pss_cut (ps_if (pt_cmpR op_eq (pe_op op_mod (pe_callTy call_int1 rfl B.int (by decide +kernel) (pa_cons (pv 3) pa_nil)) pe_int) pe_int (nomark _))
    (pss_one (ps_expr (pe_bm PySem.F.plainAttrs_list PySem.F.slot_list_append PySem.F.type_list_append mt_append (pv 2) (pa_cons (pe_op op_sub (pv 1) (pv 4)) pa_nil))))
    pss_nil)
    (pss_one (ps_set (i := 3) sc_law_lot_of.nd rfl (Or.inl rfl) (pe_op op_fdiv (pv 3) pe_int)))))
    (pss_one (ps_ret (pe_callTy call_tuple_of rfl B.tuple (by decide +kernel) (pa_cons (pe_revL (pv 2)) pa_nil))))))), ?_⟩
  trivial
  intro D nD
  trivial
  refine for_it walk_range (fun i σ H' => ∃ (ks : List Int) (v : Option V), σ = [some (.int (W : Int)), some (.int (top : Int)), some (.ref D), some (.int (W / 2 ^ i : Nat)), v] ∧ Same H H' ∧ H' D = some (.lst (ks.map V.int)) ∧ ks.length ≤ i ∧ i ≤ top + 1 ∧ lotV (top + 1) W = lotV (top + 1 - i) (W / 2 ^ i) ++ ks.reverse) ?_ (fun _ _ _ _ _ => trivial) ?_ ?_
  · exact ⟨[], none, by rw [Nat.pow_zero, Nat.div_one]; rfl, same_new0 nD, upd_same, Nat.le_refl _, Nat.zero_le _, by simp⟩
  · rintro i x σ H1 H2 hi ⟨ks, v, rfl, s1, e1, hk, hi2, el⟩ ⟨rfl, rfl⟩
    have ht : top + 1 - i = (top - i) + 1 := by omega
    have lv : lotV (top - i + 1) (W / 2 ^ i) = lotV (top - i) (W / 2 ^ i / 2) ++ if (W / 2 ^ i) % 2 = 1 then [((top - i : Nat) : Int)] else [] := rfl
    have e2 : W / 2 ^ (i + 1) = W / 2 ^ i / 2 := by rw [Nat.pow_succ, Nat.div_div_eq_div_mul]
    rw [ht, lv] at el
    refine ⟨fun σ H' => ∃ ls : List Int, σ = [some (.int (W : Int)), some (.int (top : Int)), some (.ref D), some (.int (W / 2 ^ i : Nat)), some (.int (0 + (i : Nat)))] ∧ Same H H' ∧ H' D = some (.lst (ls.map V.int)) ∧ ls.length ≤ i + 1 ∧ lotV (top + 1) W = lotV (top - i) (W / 2 ^ i / 2) ++ ls.reverse, ?_, ?_⟩
    · trivial
      refine ite2 (fun c => ?_) (fun c => ?_)
      · have c' : (W / 2 ^ i) % 2 = 1 := by have := of_decide_eq_true c; injection this with this; omega
        rw [if_pos c'] at el
        trivial
        refine ⟨by rw [sizeLine_eq, List.length_map]; omega, ks ++ [((top : Nat) : Int) - (0 + (i : Nat))], rfl, sput s1 nD, by rw [upd_same, List.map_append]; rfl, by simp; omega, ?_⟩
        rw [el, List.reverse_append, List.append_assoc]
        congr 2
        simp
        omega
      · have c' : ¬ (W / 2 ^ i) % 2 = 1 := fun z => c (decide_eq_true (by rw [V.int.injEq]; omega))
        rw [if_neg c', List.append_nil] at el
        exact ⟨ks, rfl, s1, e1, by omega, el⟩
    · rintro σ H3 ⟨ls, rfl, s3, e3, hk3, el3⟩
      trivial
      refine ⟨ls, some (.int (0 + (i : Nat))), ?_, s3, e3, hk3, by omega, by rw [e2, show top + 1 - (i + 1) = top - i by omega]; exact el3⟩
      rw [e2, show ((W / 2 ^ i / 2 : Nat) : Int) = ((W / 2 ^ i : Nat) : Int) / 2 by omega]
      rfl
  · rintro σ H1 ⟨ks, v, rfl, s1, e1, hk, hi2, el⟩
    have e0 : (((top : Nat) : Int) + 1).toNat = top + 1 := by omega
    rw [e0, Nat.sub_self, Nat.div_eq_of_lt hW] at el
    have el' : lotV (top + 1) W = ks.reverse := by rw [el]; rfl
    trivial
    intro p np
    trivial
    intro p2 n2
    refine k p2 _ (snew (snew s1 np) n2) ?_
    rw [upd_same, el', List.map_reverse]
end
end KQ
set_option Elab.async false
set_option maxRecDepth 100000
set_option maxHeartbeats 4000000
namespace KQ
open PySem PySem.Spec PyProof.Rows L2
local macro_rules | `(tactic| walk_at "kq hp") => `(tactic| (first | assumption | exact upd_same | (rw [upd_ne (by first | assumption | exact Ne.symm (by assumption))]; first | assumption | exact upd_same | (rw [upd_ne (by first | assumption | exact Ne.symm (by assumption))]; first | assumption | exact upd_same))))
local macro_rules | `(tactic| walk_at "kq do") => `(tactic| (first | decide | omega))
local macro_rules | `(tactic| walk_at "kq cl") => `(tactic| focus (first | rfl | assumption | exact upd_same | exact SqL.of (by walk_at "kq hp") | exact SqT.of (by walk_at "kq hp") | exact Or.inl (SqL.of (by walk_at "kq hp")) | exact Or.inr (SqT.of (by walk_at "kq hp")) | exact Or.inl ⟨rfl, _, SqL.of (by walk_at "kq hp")⟩ | walk_at "kq hp" | decide | exact Nat.le_of_ble_eq_true rfl | omega | (show ∃ xs, SqL _ _ _ xs; exact ⟨_, SqL.of (by walk_at "kq hp")⟩) | (show ∃ xs, SqT _ _ _ xs; exact ⟨_, SqT.of (by walk_at "kq hp")⟩) | exact DGet.k (k := Sum.inl _) (by walk_at "kq hp") | (show V.int _ = kV (Sum.inl _); rfl) | (show ∃ z, V.str _ = V.str z; exact ⟨_, rfl⟩) | exact Or.inl ⟨by walk_at "kq do", by walk_at "kq do"⟩ | exact Or.inr ⟨by walk_at "kq do", by walk_at "kq do"⟩ | exact ⟨by walk_at "kq do", by walk_at "kq do"⟩ | exact ⟨by decide, by decide, by decide⟩ | exact L2.ClsV.ty _ | exact Dt.ty (by assumption) | exact Dt.kint (by assumption) | exact Dt.kbool (by assumption) | exact Dt.ktuple (by assumption) | exact Dt.klist (by assumption) | exact Dt.kstr (by assumption)))
local macro_rules | `(tactic| trivial) => `(tactic| repeat (first | refine sl_go (by walk_at "kq hp") ?_ | (unfold tNoPart; refine sl_go (by walk_at "kq hp") ?_) | refine cat_go (by walk_at "kq hp") (by walk_at "kq hp") ?_ ?_ | (apply And.intro; walk_at "kq cl") | (apply Exists.intro; apply And.intro; walk_at "kq cl") | (apply Exists.intro; apply Exists.intro; apply And.intro; walk_at "kq cl") | (apply Exists.intro; apply Exists.intro; apply Exists.intro; apply And.intro; walk_at "kq cl") | (apply Exists.intro; apply Exists.intro; apply Exists.intro; apply Exists.intro; apply And.intro; walk_at "kq cl") | (apply Exists.intro; apply Exists.intro; apply Exists.intro; apply Exists.intro; apply Exists.intro; apply And.intro; walk_at "kq cl") | (apply Exists.intro; apply Exists.intro; apply Exists.intro; apply Exists.intro; apply Exists.intro; apply Exists.intro; apply And.intro; walk_at "kq cl") | (apply Exists.intro; apply Exists.intro; apply Exists.intro; apply Exists.intro; apply Exists.intro; apply Exists.intro; apply Exists.intro; apply And.intro; walk_at "kq cl") | (apply Exists.intro; apply Exists.intro; apply Exists.intro; apply Exists.intro; apply Exists.intro; apply Exists.intro; apply Exists.intro; apply Exists.intro; apply And.intro; walk_at "kq cl") | (apply Exists.intro; apply Exists.intro; apply Exists.intro; apply Exists.intro; apply Exists.intro; apply Exists.intro; apply Exists.intro; apply Exists.intro; apply Exists.intro; apply And.intro; walk_at "kq cl") | refine Or.inl ⟨_, rfl, ?_⟩ | refine Or.inr ⟨_, rfl, ?_⟩ | refine Or.inr ⟨SqT.of (by walk_at "kq hp"), SqT.of (by walk_at "kq hp"), ?_⟩ | refine Or.inl ⟨SqL.of (by walk_at "kq hp"), SqL.of (by walk_at "kq hp"), ?_⟩ | refine Or.inl ⟨SqL.of (by walk_at "kq hp"), ?_⟩ | refine Or.inr ⟨SqT.of (by walk_at "kq hp"), ?_⟩ | refine ifT rfl ?_ | refine ifF rfl ?_))
def spLSum : Sp := fun vs H Q _ => ∃ (a b : Addr) (ns ms : List Int), vs = [.ref a, .ref b] ∧ H a = some (.tup (ns.map V.int)) ∧ H b = some (.tup (ms.map V.int)) ∧ Sh ns ∧ Sh ms ∧ (∀ q ∈ ns, q ≤ 1000) ∧ (∀ q ∈ ms, q ≤ 1000) ∧ ns.length + ms.length ≤ 100000 ∧
  (addS 1000 ns ms = none → ∀ H', Same H H' → Q .non H') ∧ ∀ ks, addS 1000 ns ms = some ks → ∀ p H', Same H H' → H' p = some (.tup (ks.map V.int)) → Q (.ref p) H'
theorem Vs_one : ∀ j : Nat, Vs (mS [0]) (j + 1) = 2 ^ j
  | 0 => rfl
  | j + 1 => by
    rw [Vs, Vs_one j, Nat.pow_succ, show mS [0] ((j + 1 : Nat) : Int) = false from decide_eq_false (by simp; omega)]
    show 2 * 2 ^ j + 0 = _
    omega
theorem sh_one : Sh [0] := ⟨by simp, by simp, fun _ => rfl⟩
section
variable {P : Program} {w : World} {K : PySem.W.Frag} {mg : Str → Option Value} {base : Heap}
theorem d_law_sum (B : Bi mg) (F : FunAt K mg "_law_sum" s_law_sum) (D_law_worth : Has P w K mg base 1 "_law_worth" ["share", "top"] spWorth) (D_law_lot_of : Has P w K mg base 1 "_law_lot_of" ["worth", "top"] spLotOf) : Has P w K mg base 2 "_law_sum" ["one", "other"] spLSum := by
  refine mk_has F sc_law_sum (fun _ _ _ _ _ _ us hl => match us, hl with | [_, _], _ => rfl) (fun vs H Q E h => ?_) fun f cdv A outer s H vs Q E hr h => ?_
  · obtain ⟨a, b, ns, ms, rfl, _⟩ := h
    rfl
  obtain ⟨a, b, ns, ms, rfl, ea, eb, hns, hms, ln, lm, hl, k1, k2⟩ := h
  refine ⟨_, (pss_cons (ps_set (i := 2) sc_law_sum.nd rfl (Or.inl rfl) (pe_callB (cr_maxT rfl) rfl B.max (by decide +kernel) (pa_cons (pe_op op_catA (pe_op op_catA (pe_tup (pa_cons pe_int pa_nil)) (pv 0)) (pv 1)) pa_nil)))
    (pss_cons (ps_set (i := 3) sc_law_sum.nd rfl (Or.inl rfl) (pe_op op_add (pe_h D_law_worth (hr.mono (by decide)) rfl (pa_cons (pv 0) (pa_cons (pv 2) pa_nil))) (pe_h D_law_worth (hr.mono (by decide)) rfl (pa_cons (pv 1) (pa_cons (pv 2) pa_nil)))))
    (pss_cons (ps_if (pt_cmpR op_gt (pv 3) (pe_h D_law_worth (hr.mono (by decide)) rfl (pa_cons (pe_tup (pa_cons pe_int pa_nil)) (pa_cons (pv 2) pa_nil))) (nomark _))
    (pss_one (ps_ret pe_non))
    pss_nil)
    (pss_one (ps_ret (pe_h D_law_lot_of (hr.mono (by decide)) rfl (pa_cons (pv 3) (pa_cons (pv 2) pa_nil)))))))), ?_⟩
  trivial
  intro z nz
  have sz := same_new0 (o := .tup [.int 0]) nz
  have ea1 := sz _ _ ea
  have eb1 := sz _ _ eb
  trivial
  · simp; omega
  intro c H1 s1 ec
  have eb2 := s1 _ _ eb1
  trivial
  · simp; omega
  intro c2 H2 s2 ec2
  rw [show [V.int 0] ++ ns.map V.int ++ ms.map V.int = ((0 : Int) :: ns ++ ms).map V.int by simp] at ec2
  have sT := (sz.trans s1).trans s2
  have ea3 := sT _ _ ea
  have eb3 := sT _ _ eb
  trivial
  intro m hm hle
  obtain ⟨top, rfl⟩ : ∃ top : Nat, m = (top : Int) := ⟨m.toNat, by have := hle 0 (by simp); omega⟩
  have bn : Bd top ns := fun q hq => by have := hle q (by simp [hq]); omega
  have bm : Bd top ms := fun q hq => by have := hle q (by simp [hq]); omega
  have ht : top ≤ 1000 := by
    rcases (by simpa using hm : (top : Nat) = 0 ∨ (top : Int) ∈ ns ∨ (top : Int) ∈ ms) with z | z | z
    · omega
    · have := ln _ z; omega
    · have := lm _ z; omega
  have up : addS 1000 ns ms = addS top ns ms := by
    have := addS_up (n := top) (k := 1000 - top) bn bm
    rwa [show top + (1000 - top) = 1000 by omega] at this
  rw [up] at k1 k2
  have v1 := hns.le bn
  have v2 := hms.le bm
  refine ⟨_, rfl, _, rfl, a, ns, top, rfl, ea3, hns, ht, _, rfl, _, rfl, b, ms, top, rfl, eb3, hms, ht, _, _, rfl, rfl, ?_⟩
  trivial
  intro o no
  have so := same_new0 (o := .tup [.int 0]) no
  refine ⟨_, rfl, o, [0], top, rfl, upd_same, sh_one, ht, ?_⟩
  rw [Vs_one]
  trivial
  refine ite2 (fun c => ?_) (fun c => ?_)
  · have c' := of_decide_eq_true c
    have n1 : addS top ns ms = none := if_neg (by omega)
    trivial
    exact k1 n1 _ (sT.trans so)
  · have c' := of_decide_eq_false (Bool.eq_false_iff.mpr c)
    have n1 : addS top ns ms = some (lotV (top + 1) (Vs (mS ns) (top + 1) + Vs (mS ms) (top + 1))) := if_pos (by omega)
    have p2 : 0 < 2 ^ top := Nat.pow_pos (by decide)
    refine ⟨_, rfl, _, rfl, Vs (mS ns) (top + 1) + Vs (mS ms) (top + 1), top, rfl, by rw [Nat.pow_succ]; omega, ht, fun p H' s3 ep => ?_⟩
    exact k2 _ n1 p H' ((sT.trans so).trans s3) ep
end
end KQ
set_option Elab.async false
set_option maxRecDepth 100000
set_option maxHeartbeats 4000000
namespace KQ
open PySem PySem.Spec PyProof.Rows L2
local macro_rules | `(tactic| walk_at "kq hp") => `(tactic| (first | assumption | exact upd_same | (rw [upd_ne (by first | assumption | exact Ne.symm (by assumption))]; first | assumption | exact upd_same | (rw [upd_ne (by first | assumption | exact Ne.symm (by assumption))]; first | assumption | exact upd_same))))
local macro_rules | `(tactic| walk_at "kq do") => `(tactic| (first | decide | omega))
local macro_rules | `(tactic| walk_at "kq cl") => `(tactic| focus (first | rfl | assumption | exact upd_same | exact SqL.of (by walk_at "kq hp") | exact SqT.of (by walk_at "kq hp") | exact Or.inl (SqL.of (by walk_at "kq hp")) | exact Or.inr (SqT.of (by walk_at "kq hp")) | exact Or.inl ⟨rfl, _, SqL.of (by walk_at "kq hp")⟩ | walk_at "kq hp" | decide | exact Nat.le_of_ble_eq_true rfl | omega | (show ∃ xs, SqL _ _ _ xs; exact ⟨_, SqL.of (by walk_at "kq hp")⟩) | (show ∃ xs, SqT _ _ _ xs; exact ⟨_, SqT.of (by walk_at "kq hp")⟩) | exact DGet.k (k := Sum.inl _) (by walk_at "kq hp") | (show V.int _ = kV (Sum.inl _); rfl) | (show ∃ z, V.str _ = V.str z; exact ⟨_, rfl⟩) | exact Or.inl ⟨by walk_at "kq do", by walk_at "kq do"⟩ | exact Or.inr ⟨by walk_at "kq do", by walk_at "kq do"⟩ | exact ⟨by walk_at "kq do", by walk_at "kq do"⟩ | exact ⟨by decide, by decide, by decide⟩ | exact L2.ClsV.ty _ | exact Dt.ty (by assumption) | exact Dt.kint (by assumption) | exact Dt.kbool (by assumption) | exact Dt.ktuple (by assumption) | exact Dt.klist (by assumption) | exact Dt.kstr (by assumption)))
local macro_rules | `(tactic| trivial) => `(tactic| repeat (first | refine sl_go (by walk_at "kq hp") ?_ | (unfold tNoPart; refine sl_go (by walk_at "kq hp") ?_) | refine cat_go (by walk_at "kq hp") (by walk_at "kq hp") ?_ ?_ | (apply And.intro; walk_at "kq cl") | (apply Exists.intro; apply And.intro; walk_at "kq cl") | (apply Exists.intro; apply Exists.intro; apply And.intro; walk_at "kq cl") | (apply Exists.intro; apply Exists.intro; apply Exists.intro; apply And.intro; walk_at "kq cl") | (apply Exists.intro; apply Exists.intro; apply Exists.intro; apply Exists.intro; apply And.intro; walk_at "kq cl") | (apply Exists.intro; apply Exists.intro; apply Exists.intro; apply Exists.intro; apply Exists.intro; apply And.intro; walk_at "kq cl") | (apply Exists.intro; apply Exists.intro; apply Exists.intro; apply Exists.intro; apply Exists.intro; apply Exists.intro; apply And.intro; walk_at "kq cl") | (apply Exists.intro; apply Exists.intro; apply Exists.intro; apply Exists.intro; apply Exists.intro; apply Exists.intro; apply Exists.intro; apply And.intro; walk_at "kq cl") | (apply Exists.intro; apply Exists.intro; apply Exists.intro; apply Exists.intro; apply Exists.intro; apply Exists.intro; apply Exists.intro; apply Exists.intro; apply And.intro; walk_at "kq cl") | (apply Exists.intro; apply Exists.intro; apply Exists.intro; apply Exists.intro; apply Exists.intro; apply Exists.intro; apply Exists.intro; apply Exists.intro; apply Exists.intro; apply And.intro; walk_at "kq cl") | refine Or.inl ⟨_, rfl, ?_⟩ | refine Or.inr ⟨_, rfl, ?_⟩ | refine Or.inr ⟨SqT.of (by walk_at "kq hp"), SqT.of (by walk_at "kq hp"), ?_⟩ | refine Or.inl ⟨SqL.of (by walk_at "kq hp"), SqL.of (by walk_at "kq hp"), ?_⟩ | refine Or.inl ⟨SqL.of (by walk_at "kq hp"), ?_⟩ | refine Or.inr ⟨SqT.of (by walk_at "kq hp"), ?_⟩ | refine ifT rfl ?_ | refine ifF rfl ?_))
theorem tYes_ok' {σ : L2.St} {H : Hp} {Q : Bool → Hp → Prop} (h : Q true H) : tYes σ H Q := h
theorem HandOk.upd' {H : Hp} {h l D : Addr} {o : HO} (k : HandOk H h l) (n1 : D ≠ h) (n2 : D ≠ l) : HandOk (upd H D o) h l := by
  obtain ⟨xs, i, b, s, c, h1, h2, r⟩ := k
  exact ⟨xs, i, b, s, c, by rw [upd_ne n1.symm]; exact h1, by rw [upd_ne n2.symm]; exact h2, r⟩
theorem nodup_le2 {α : Type} [DecidableEq α] : ∀ {l l' : List α}, l.Nodup → (∀ x ∈ l, x ∈ l') → l.length ≤ l'.length
  | [], _, _, _ => Nat.zero_le _
  | x :: l, l', nd, h => by
    obtain ⟨nx, nd⟩ := List.nodup_cons.mp nd
    have m := h x (List.mem_cons_self ..)
    have ih := nodup_le2 (l' := l'.erase x) nd fun y hy => (List.mem_erase_of_ne (fun e => nx (by rw [← e]; exact hy))).mpr (h y (List.mem_cons_of_mem _ hy))
    rw [List.length_erase_of_mem m] at ih
    have := List.length_pos_of_mem m
    simp only [List.length_cons]
    omega
/-- a small share -/
structure SmS (ns : List Int) : Prop where
  sh : Sh ns
  l : ns.length ≤ 5
  b : ∀ q ∈ ns, q ≤ 200
def spDrawnS : Sp := fun vs H Q _ => ∃ h l : Addr, vs = [.ref h] ∧ HandOk H h l ∧ ∀ (a : Addr) (ns : List Int) (H' : Hp), SmS ns → H' a = some (.tup (ns.map V.int)) → HandOk H' h l → Kp (Nh h) H H' → Q (.ref a) H'
/-- the places from 1 up to i that are among these -/
def places (fs : List Int) (i : Nat) : List Int := ((List.range i).map fun (j : Nat) => (1 : Int) + (j : Int)).filter fun q => decide (q ∈ fs)
theorem places_succ {fs : List Int} {i : Nat} : places fs (i + 1) = places fs i ++ if decide ((1 : Int) + (i : Int) ∈ fs) = true then [(1 : Int) + (i : Int)] else [] := by
  unfold places
  rw [List.range_succ, List.map_append, List.filter_append]
  congr 1
  simp only [List.map_cons, List.map_nil, List.filter_cons, List.filter_nil]
theorem places_asc (fs : List Int) (i : Nat) : (places fs i).Pairwise (· < ·) := by
  refine List.Pairwise.filter _ (List.pairwise_map.mpr (List.Pairwise.imp (fun h => by omega) List.pairwise_lt_range))
theorem places_mem {fs : List Int} {i : Nat} {q : Int} (h : q ∈ places fs i) : 1 ≤ q ∧ q ≤ i ∧ q ∈ fs := by
  obtain ⟨h1, h2⟩ := List.mem_filter.mp h
  obtain ⟨j, hj, rfl⟩ := List.mem_map.mp h1
  have := List.mem_range.mp hj
  exact ⟨by omega, by omega, of_decide_eq_true h2⟩
theorem places_sm {fs : List Int} {i : Nat} (hi : i ≤ 200) (hf : fs.length ≤ 5) : SmS (places fs i) := by
  refine ⟨⟨fun q hq => by have := (places_mem hq).1; omega, places_asc fs i, fun z => by have := (places_mem z).1; omega⟩, ?_, fun q hq => by have := (places_mem hq).2.1; omega⟩
  refine Nat.le_trans (nodup_le2 (List.Pairwise.imp (fun h => by omega) (places_asc fs i)) fun x hx => (places_mem hx).2.2) hf
theorem places_len (fs : List Int) (i : Nat) : (places fs i).length ≤ i := by
  refine Nat.le_trans (List.length_filter_le _ _) (by simp)
section
variable {P : Program} {w : World} {K : PySem.W.Frag} {mg : Str → Option Value} {base : Heap}
end
end KQ
set_option Elab.async false
set_option maxRecDepth 100000
set_option maxHeartbeats 4000000
namespace KQ
open PySem PySem.Spec PyProof.Rows L2
def numOf (d : PyData) : Bool := match intOf d with
  | some i => decide (0 ≤ i)
  | none => false
def below (b : Int) (d : PyData) : Bool := match intOf d with
  | some i => decide (0 ≤ i) && decide (i < b)
  | none => false
def spIsNumber : Sp := fun vs H Q _ => ∃ (N : Addr → Prop) (v : V) (d : PyData), vs = [v] ∧ Rp N H v d ∧ Q (.bl (numOf d)) H
def spIsBelow : Sp := fun vs H Q _ => ∃ (N : Addr → Prop) (v : V) (d : PyData) (b : Int), vs = [.int b, v] ∧ Rp N H v d ∧ Q (.bl (below b d)) H
theorem lk_head {x : Str} {v : V} {r : List (Str × V)} : ((x, v) :: r).lookup x = some v := by simp [List.lookup]
theorem lk_next {x y : Str} {v : V} {r : List (Str × V)} (h : ¬ y = x) : ((x, v) :: r).lookup y = r.lookup y := by
  have e : (y == x) = false := by simpa using h
  simp [List.lookup, e]
def lenIs (m : Int) : PyData → Bool
  | .tuple ds => decide ((ds.length : Int) = m)
  | _ => false
def spTupOf : Sp := fun vs H Q _ => ∃ (N : Addr → Prop) (v : V) (d : PyData) (m : Int), vs = [.int m, v] ∧ Rp N H v d ∧ Q (.bl (lenIs m d)) H
section
variable {P : Program} {w : World} {K : PySem.W.Frag} {mg : Str → Option Value} {base : Heap}
theorem d_is_number (B : Bi mg) (F : FunAt K mg "is_number" s_is_number) : Has P w K mg base 1 "is_number" ["thing"] spIsNumber := by
  refine mk_has F sc_is_number (fun _ _ _ _ _ _ us hl => match us, hl with | [_], _ => rfl) (fun vs H Q E h => ?_) fun f cdv A outer s H vs Q E hr h => ?_
  · obtain ⟨N, v, d, rfl, _⟩ := h
    rfl
  obtain ⟨N, v, d, rfl, r, k⟩ := h
  refine ⟨_, (pss_one (ps_ret (pe_and (pe_callB call_isi rfl B.isinstance (by decide +kernel) (pa_cons (pv 0) (pa_cons (pe_bltn (v := .ty "int") rfl B.int (by decide +kernel) rfl) pa_nil))) (pe_and (pe_not (pe_callB call_isi rfl B.isinstance (by decide +kernel) (pa_cons (pv 0) (pa_cons (pe_bltn (v := .ty "bool") rfl B.bool (by decide +kernel) rfl) pa_nil)))) (pe_one (pe_cmpR op_ge (pv 0) pe_int (nomark _))))))), ?_⟩
  refine ⟨_, rfl, _, _, _, _, _, rfl, .ty "int", r.ty, kit_int d, _, rfl, ?_⟩
  unfold numOf at k
  cases d with
  | int i =>
    cases r
    refine ifT rfl ⟨_, rfl, _, _, _, _, _, rfl, .ty "bool", (Rp.int (N := N) i).ty, kit_bool _, _, rfl, _, rfl, ifT rfl ⟨_, rfl, _, _, rfl, rfl, k⟩⟩
  | bool b => exact ifT rfl ⟨_, rfl, _, _, _, _, _, rfl, .ty "bool", r.ty, kit_bool _, _, rfl, _, rfl, ifF rfl k⟩
  | none => exact ifF rfl k
  | str x => exact ifF rfl k
  | list x => exact ifF rfl k
  | tuple x => exact ifF rfl k
  | dict x => exact ifF rfl k
theorem d_is_below (F : FunAt K mg "is_below" s_is_below) (D_is_number : Has P w K mg base 1 "is_number" ["thing"] spIsNumber) : Has P w K mg base 2 "is_below" ["bound", "thing"] spIsBelow := by
  refine mk_has F sc_is_below (fun _ _ _ _ _ _ us hl => match us, hl with | [_, _], _ => rfl) (fun vs H Q E h => ?_) fun f cdv A outer s H vs Q E hr h => ?_
  · obtain ⟨N, v, d, b, rfl, _⟩ := h
    rfl
  obtain ⟨N, v, d, b, rfl, r, k⟩ := h
  refine ⟨_, (pss_one (ps_ret (pe_and (pe_h D_is_number (hr.mono (by decide)) rfl (pa_cons (pv 1) pa_nil)) (pe_one (pe_cmpR op_lt (pv 1) (pv 0) (nomark _)))))), ?_⟩
  refine ⟨_, rfl, N, v, d, rfl, r, _, rfl, ?_⟩
  unfold below at k
  unfold numOf
  cases e : intOf d with
  | none =>
    rw [e] at k
    exact ifF rfl k
  | some i =>
    rw [e] at k
    have ed : d = .int i := by cases d <;> simp_all [intOf]
    subst ed
    cases r
    have k' : Q (.bl (decide (0 ≤ i) && decide (i < b))) H := k
    show if decide (0 ≤ i) = true then _ else _
    cases e1 : decide (0 ≤ i) with
    | true =>
      rw [e1] at k'
      exact ifT rfl ⟨_, rfl, _, rfl, _, _, rfl, rfl, k'⟩
    | false =>
      rw [e1] at k'
      exact ifF rfl k'
theorem d_is_tuple_of (B : Bi mg) (F : FunAt K mg "is_tuple_of" s_is_tuple_of) : Has P w K mg base 1 "is_tuple_of" ["many", "thing"] spTupOf := by
  refine mk_has F sc_is_tuple_of (fun _ _ _ _ _ _ us hl => match us, hl with | [_, _], _ => rfl) (fun vs H Q E h => ?_) fun f cdv A outer s H vs Q E hr h => ?_
  · obtain ⟨N, v, d, m, rfl, _⟩ := h
    rfl
  obtain ⟨N, v, d, m, rfl, r, k⟩ := h
  refine ⟨_, (pss_one (ps_ret (pe_and (pe_callB call_isi rfl B.isinstance (by decide +kernel) (pa_cons (pv 1) (pa_cons (pe_bltn (v := .ty "tuple") rfl B.tuple (by decide +kernel) rfl) pa_nil))) (pe_one (pe_cmpR op_eq (pe_callB call_len_seq rfl B.len PySem.boot_len (pa_cons (pv 1) pa_nil)) (pv 0) (nomark _)))))), ?_⟩
  refine ⟨_, rfl, _, _, _, _, _, rfl, .ty "tuple", r.ty, kit_tuple d, _, rfl, ?_⟩
  cases d with
  | tuple ds =>
    cases r with
    | tup e n ra =>
    exact ifT rfl ⟨_, rfl, _, _, rfl, .inr (SqT.of e), _, rfl, rfl, okB (by rw [ra.length]; simp [lenIs]) k⟩
  | bool b => exact ifF rfl k
  | int b => exact ifF rfl k
  | none => exact ifF rfl k
  | str x => exact ifF rfl k
  | list x => exact ifF rfl k
  | dict x => exact ifF rfl k
end
end KQ
set_option Elab.async false
set_option maxRecDepth 100000
set_option maxHeartbeats 4000000
namespace KQ
open PySem PySem.Spec PyProof.Rows L2
/-! ### works: what is asked of rules and tasks -/
def isPair (m k : Int) : PyData → Bool
  | .tuple [a, b] => below m a && below k b
  | _ => false
def isRule (m k : Int) : PyData → Bool
  | .tuple ds => decide (ds.length ≤ 4) && ds.all (isPair m k)
  | _ => false
def spPair : Sp := fun vs H Q _ => ∃ (N : Addr → Prop) (v : V) (d : PyData) (m k : Int), vs = [.int m, .int k, v] ∧ Rp N H v d ∧ Q (.bl (isPair m k d)) H
def spRule : Sp := fun vs H Q _ => ∃ (N : Addr → Prop) (v : V) (d : PyData) (m k : Int), vs = [.int m, .int k, v] ∧ Rp N H v d ∧ ∀ H', Same H H' → Q (.bl (isRule m k d)) H'
theorem tYes_ok {σ : L2.St} {H : Hp} {Q : Bool → Hp → Prop} (h : Q true H) : tYes σ H Q := h
theorem map_take {α β : Type} {f : α → β} {ds : List α} {i : Nat} {d : α} (h : ds[i]? = some d) : (ds.take (i + 1)).map f = (ds.take i).map f ++ [f d] := by
  rw [List.take_add_one, h, List.map_append] <;> rfl
section
variable {P : Program} {w : World} {K : PySem.W.Frag} {mg : Str → Option Value} {base : Heap} {t1 t2 t3 t4 : Tok}
theorem d_is_rule_pair (F : FunAt K mg "is_rule_pair" s_is_rule_pair) (D_is_tuple_of : Has P w K mg base 1 "is_tuple_of" ["many", "thing"] spTupOf) (D_is_below : Has P w K mg base 2 "is_below" ["bound", "thing"] spIsBelow) : Has P w K mg base 3 "is_rule_pair" ["many", "kinds", "thing"] spPair := by
  refine mk_has F sc_is_rule_pair (fun _ _ _ _ _ _ us hl => match us, hl with | [_, _, _], _ => rfl) (fun vs H Q E h => ?_) fun f cdv A outer s H vs Q E hr h => ?_
  · obtain ⟨N, v, d, m, k, rfl, _⟩ := h
    rfl
  obtain ⟨N, v, d, m, n, rfl, r, k⟩ := h
  refine ⟨_, (pss_one (ps_ret (pe_and (pe_h D_is_tuple_of (hr.mono (by decide)) rfl (pa_cons pe_int (pa_cons (pv 2) pa_nil))) (pe_and (pe_h D_is_below (hr.mono (by decide)) rfl (pa_cons (pv 0) (pa_cons (pe_ix ix_tup (pv 2) pe_int (fun _ _ => rfl)) pa_nil))) (pe_one (pe_h D_is_below (hr.mono (by decide)) rfl (pa_cons (pv 1) (pa_cons (pe_ix ix_tup (pv 2) pe_int (fun _ _ => rfl)) pa_nil)))))))), ?_⟩
  refine ⟨_, rfl, N, v, d, 2, rfl, r, _, rfl, ?_⟩
  cases d with
  | tuple ds =>
    cases r with
    | tup e no ra =>
    cases ra with
    | nil => exact ifF rfl k
    | cons rx ra =>
    cases ra with
    | nil => exact ifF rfl k
    | cons ry ra =>
    cases ra with
    | nil =>
      rename_i x a y b
      refine ifT rfl ⟨_, rfl, _, rfl, _, _, _, _, rfl, rfl, SqT.of e, rfl, N, _, _, _, rfl, rx, _, rfl, ?_⟩
      cases e1 : below m a with
      | true => exact ifT rfl ⟨_, rfl, _, rfl, _, _, _, _, rfl, rfl, SqT.of e, rfl, N, _, _, _, rfl, ry, okB (by simp [isPair, e1]) k⟩
      | false => exact ifF rfl (okB (by simp [isPair, e1]) k)
    | cons rz ra => exact ifF (by simp [lenIs]; omega) k
  | bool b => exact ifF rfl k
  | int b => exact ifF rfl k
  | none => exact ifF rfl k
  | str x => exact ifF rfl k
  | list x => exact ifF rfl k
  | dict x => exact ifF rfl k
theorem d_is_rule (B : Bi mg) (F : FunAt K mg "is_rule" s_is_rule) (g_MOST_PAIRS : mg "MOST_PAIRS" = some (.int 4 t3)) (D_is_rule_pair : Has P w K mg base 3 "is_rule_pair" ["many", "kinds", "thing"] spPair) : Has P w K mg base 4 "is_rule" ["many", "kinds", "thing"] spRule := by
  refine mk_has F sc_is_rule (fun _ _ _ _ _ _ us hl => match us, hl with | [_, _, _], _ => rfl) (fun vs H Q E h => ?_) fun f cdv A outer s H vs Q E hr h => ?_
  · obtain ⟨N, v, d, m, k, rfl, _⟩ := h
    rfl
  obtain ⟨N, v, d, m, n, rfl, r, k⟩ := h
  refine ⟨_, (pss_cons (ps_if (PW.pt (pw_or (pt_not (pt_val (pe_callB call_isi rfl B.isinstance (by decide +kernel) (pa_cons (pv 2) (pa_cons (pe_bltn (v := .ty "tuple") rfl B.tuple (by decide +kernel) rfl) pa_nil))))) (pw_or1 (pt_cmpR op_gt (pe_callB call_len_seq rfl B.len PySem.boot_len (pa_cons (pv 2) pa_nil)) (pe_glob (v := .int 4) rfl g_MOST_PAIRS ⟨_, rfl⟩) (nomark _)))))
    (pss_one (ps_ret pe_bl))
    pss_nil)
    (pss_one (ps_ret (pe_callB (cr_all rfl) rfl B.all (by decide +kernel) (pa_cons (pe_lc (own := [("pair", 3)]) (g := gName 3) (tt := tYes) (te := (tCall spPair [] E0 (tCons (tVar 0) (tCons (tVar 1) (tCons (tVar 3) tNil))))) rfl sc_is_rule.nd (pi_tup (pv 2)) (blkOk_by (own := [("pair", 3)]) (N := ["many", "kinds", "thing", "pair"]) (sc := defScope s_is_rule) (by decide +kernel)) (fun _ _ _ _ _ => (pg_name (i := 3) sc_is_rule.nd rfl (Or.inl rfl))) (fun _ _ _ _ _ => pts_nil) (fun _ _ _ _ _ => (pe_h D_is_rule_pair (hr.mono (by decide)) rfl (pa_cons (pv 0) (pa_cons (pv 1) (pa_cons (pv 3) pa_nil)))))) pa_nil))))), ?_⟩
  refine ⟨_, rfl, _, _, _, _, _, rfl, .ty "tuple", r.ty, kit_tuple d, _, rfl, ?_⟩
  cases d with
  | tuple ds =>
    cases r with
    | @tup p xs _ e no ra =>
    refine ifF rfl ⟨_, rfl, _, _, rfl, .inr (SqT.of e), _, _, rfl, rfl, _, rfl, ?_⟩
    refine ite2 (fun c => ?_) (fun c => ?_)
    · have c' := of_decide_eq_true c
      rw [ra.length] at c'
      exact okB (by simp [isRule]; omega) (k H (Same.refl H))
    have hlen : ds.length ≤ 4 := by
      have c' : ¬ (4 < (xs.length : Int)) := fun z => c (decide_eq_true z)
      rw [ra.length] at c'
      omega
    refine ⟨_, rfl, _, rfl, ⟨xs, SqT.of e⟩, fun D nD => lc_tup (K := K) (a := p) (xs := xs) (fun i H' => Same H H' ∧ H' D = some (.lst ((ds.take i).map fun d => .bl (isPair m n d)))) ⟨same_new nD, upd_same⟩ (fun i H' _ z => SqT.of (z.1 _ _ e)) (fun i x H' hx z => ?_) fun H' z => ?_⟩
    · obtain ⟨d, md, gd, rd⟩ := ra.at_ hx
      refine ⟨rfl, ?_⟩
      refine tYes_ok ?_
      rw [if_pos rfl]
      refine ⟨_, rfl, _, rfl, _, rfl, N, x, d, m, n, rfl, rd.to (Kp.of_same z.1), _, z.2, ?_, ?_, ?_⟩
      · rw [List.length_map, List.length_take]
        exact Nat.lt_of_le_of_lt (Nat.le_trans (Nat.min_le_right _ _) hlen) (by decide)
      · exact fun b o q => by rw [upd_ne (ne_of_none q nD)]; exact z.1 b o q
      · rw [upd_same, map_take gd]
    · refine ⟨D, ds.map (isPair m n), rfl, SqL.of ?_, okB ?_ (k H' z.1)⟩
      · rw [z.2, List.map_map, ra.length, List.take_length]
        rfl
      · simp [isRule, hlen, List.all_map]
  | bool b => exact ifT rfl (k _ (Same.refl H))
  | int b => exact ifT rfl (k _ (Same.refl H))
  | none => exact ifT rfl (k _ (Same.refl H))
  | str x => exact ifT rfl (k _ (Same.refl H))
  | list x => exact ifT rfl (k _ (Same.refl H))
  | dict x => exact ifT rfl (k _ (Same.refl H))
end
end KQ
set_option Elab.async false
set_option maxRecDepth 100000
set_option maxHeartbeats 4000000
namespace KQ
open PySem PySem.Spec PyProof.Rows L2
/-! ### Works -/
mutual
theorem Rp.dp {K : PySem.W.Frag} {N : Addr → Prop} {H : Hp} : ∀ {v : V} {d : PyData}, Rp N H v d → d.canLay0 = true → Dp K H v d
  | _, _, .non, _ => .non
  | _, _, .bl b, _ => .bl b
  | _, _, .int i, _ => .int i
  | _, _, .str x, _ => .str x
  | _, _, .lst e _ r, c => .lst (SqL.of e) (r.dp (by simpa [PyData.canLay0] using c))
  | _, _, .tup e _ r, c => .tup (SqT.of e) (r.dp (by simpa [PyData.canLay0] using c))
  | _, _, .emp _ _, c => by simp [PyData.canLay0] at c
theorem RpAll.dp {K : PySem.W.Frag} {N : Addr → Prop} {H : Hp} : ∀ {vs : List V} {ds : List PyData}, RpAll N H vs ds → PyData.canLayAll0 ds = true → DpAll K H vs ds
  | _, _, .nil, _ => .nil
  | _, _, .cons r t, c => by
    unfold PyData.canLayAll0 at c
    rw [Bool.and_eq_true] at c
    exact .cons (r.dp c.1) (t.dp c.2)
end
theorem lay_of {d : PyData} (h : SeqAt.shaped d = true) : d.canLay0 = true := SeqAt.canLay_of_shaped h
def firstBad (f : PyData → Bool) : Nat → List PyData → Option Nat
  | _, [] => none
  | i, d :: ds => if f d then firstBad f (i + 1) ds else some i
theorem firstBad_at {f : PyData → Bool} {ds : List PyData} {i : Nat} {d : PyData} (h : ds[i]? = some d) : firstBad f i (ds.drop i) = if f d then firstBad f (i + 1) (ds.drop (i + 1)) else some i := by
  obtain ⟨hl, e⟩ := List.getElem?_eq_some_iff.mp h
  rw [List.drop_eq_getElem_cons hl, e]
  rfl
def num (d : PyData) : Int := (intOf d).getD 0
/-- what is wrong with many and rules -/
def badW (dm dr : PyData) : Option V :=
  if within dm 1 6 = false then some (.str "many") else match dr with
  | .tuple ds => if ds.length = 0 ∨ 6 < ds.length then some (.int (-1)) else (firstBad (isRule (num dm) ds.length) 0 ds).map fun i => .int (i : Nat)
  | _ => some (.int (-1))
def wF (vm vr : V) : List (Str × V) := [("many", vm), ("rules", vr)]
theorem fne3 : ¬ (("many" : Str) = "rules") := by decide +kernel
theorem wF_new {vm vr : V} : putF "rules" vr (putF "many" vm []) = wF vm vr := by
  show (if ("many" : Str) = "rules" then _ else (("many" : Str), vm) :: putF "rules" vr []) = _
  rw [if_neg fne3] <;> rfl
theorem wF_m {vm vr : V} : (wF vm vr).lookup ("many" : Str) = some vm := lk_head
theorem wF_r {vm vr : V} : (wF vm vr).lookup ("rules" : Str) = some vr := (lk_next (by decide +kernel)).trans lk_head
theorem wF_no {vm vr : V} {m : Str} (h1 : ¬ m = "many") (h2 : ¬ m = "rules") : (wF vm vr).lookup m = none := (lk_next h1).trans ((lk_next h2).trans rfl)
def WorksAt (C : Addr) (H : Hp) (p : Addr) (vm vr : V) : Prop := ∃ dx, H p = some (.ins C dx (wF vm vr))
theorem WorksAt.same {C : Addr} {H H' : Hp} {p : Addr} {vm vr : V} (o : WorksAt C H p vm vr) (k : Same H H') : WorksAt C H' p vm vr := ⟨o.choose, k _ _ o.choose_spec⟩
/-- what the written part says of the class Works -/
structure WorksC (K : PySem.W.Frag) (mg : Str → Option Value) (C : Addr) : Prop where
  g : mg "Works" = some (.ref C)
  cl : Cls K C
  n1 : NoAttr K C "many"
  n2 : NoAttr K C "rules"
  ha : PySem.W.findIn K (.ref C) "__class__" = some (some (.builtin "object.__class__"))
  hn : PySem.W.specialIn K (.builtin "object.__class__") "__get__" = some (some (.builtin "getset_descriptor.__get__"))
  htk : PySem.W.takesIn K (.builtin "object.__class__") = some true
  hm : PySem.W.mroIn K C (.type "object") = some true
  k1 : PySem.W.kitOne K (.ref C) (.ref C) = some true
  k0 : PySem.W.kitOne K (.type "tuple") (.ref C) = some false
  nf : PySem.W.notFirst K C (.type "tuple") = true
theorem WorksC.ty {K : PySem.W.Frag} {mg : Str → Option Value} {C : Addr} (T : WorksC K mg C) {H : Hp} {a dx : Addr} {fs : List (Str × V)} (h : H a = some (.ins C dx fs)) : TyX K H (.ref a) (.ref C) :=
  .base (.ins h T.cl T.ha T.hn T.htk T.hm)
def spWInit (C CB : Addr) : Sp := fun vs H Q E => ∃ (N : Addr → Prop) (p dx : Addr) (vm vr : V) (dm dr : PyData), vs = [.ref p, vm, vr] ∧ H p = some (.ins C dx []) ∧ Rp N H vm dm ∧ Rp N H vr dr ∧
  (∀ e, badW dm dr = some e → ∀ (d : Addr) (H' : Hp), Same H H' → H' d = none → E (.ref CB) (some d) (upd H' d (.xd [("part", e)]))) ∧
  (badW dm dr = none → ∀ H', H' p = some (.ins C dx (wF vm vr)) → Kp (Nh p) H H' → Q .non H')
def spWEq (C : Addr) : Sp := fun vs H Q _ => ∃ (a b : Addr) (vm vr : V), vs = [.ref a, .ref b] ∧ WorksAt C H a vm vr ∧
  (((∃ xs, H b = some (.tup xs)) ∧ Q (.bl false) H) ∨ ∃ (N : Addr → Prop) (vm' vr' : V) (dr dr' : PyData) (i j : Int), WorksAt C H b vm' vr' ∧ vm = .int i ∧ vm' = .int j ∧ Rp N H vr dr ∧ Rp N H vr' dr' ∧ SeqAt.shaped dr = true ∧ SeqAt.shaped dr' = true ∧ Q (.bl (decide (i = j) && PyData.eqv dr dr')) H)
def spIsHouse (C : Addr) : Sp := fun vs H Q _ => ∃ (N : Addr → Prop) (a : Addr) (m : Int) (vr v : V) (d : PyData), vs = [.ref a, v] ∧ WorksAt C H a (.int m) vr ∧ Rp N H v d ∧ Q (.bl (below m d)) H
def spIsTask (C : Addr) : Sp := fun vs H Q _ => ∃ (N : Addr → Prop) (a r : Addr) (vm v : V) (rs : List V) (d : PyData), vs = [.ref a, v] ∧ WorksAt C H a vm (.ref r) ∧ H r = some (.tup rs) ∧ Rp N H v d ∧ Q (.bl (isPair rs.length 13 d)) H
def spCheckHouse (C CN : Addr) : Sp := fun vs H Q E => ∃ (N : Addr → Prop) (a : Addr) (m : Int) (vr v : V) (d : PyData), vs = [.ref a, v] ∧ WorksAt C H a (.int m) vr ∧ Rp N H v d ∧ (below m d = false → E (.ref CN) none H) ∧ (below m d = true → Q .non H)
def spCheckTask (C CN : Addr) : Sp := fun vs H Q E => ∃ (N : Addr → Prop) (a r : Addr) (vm v : V) (rs : List V) (d : PyData), vs = [.ref a, v] ∧ WorksAt C H a vm (.ref r) ∧ H r = some (.tup rs) ∧ Rp N H v d ∧
  (isPair rs.length 13 d = false → E (.ref CN) none H) ∧ (isPair rs.length 13 d = true → Q .non H)
section
variable {P : Program} {w : World} {K : PySem.W.Frag} {mg : Str → Option Value} {base : Heap} {t1 t2 t3 t4 : Tok} {C CB CN : Addr}
theorem d_is_house (T : WorksC K mg C) (F : FunAt K mg "is_house" s_is_house) (D_is_below : Has P w K mg base 2 "is_below" ["bound", "thing"] spIsBelow) : Has P w K mg base 3 "is_house" ["works", "thing"] (spIsHouse C) := by
  refine mk_has F sc_is_house (fun _ _ _ _ _ _ us hl => match us, hl with | [_, _], _ => rfl) (fun vs H Q E h => ?_) fun f cdv A outer s H vs Q E hr h => ?_
  · obtain ⟨N, a, m, vr, v, d, rfl, _⟩ := h
    rfl
  obtain ⟨N, a, m, vr, v, d, rfl, ⟨dx, ha⟩, r, k⟩ := h
  refine ⟨_, (pss_one (ps_ret (pe_h D_is_below (hr.mono (by decide)) rfl (pa_cons (pe_fld (pv 0) rfl) (pa_cons (pv 1) pa_nil))))), ?_⟩
  exact ⟨_, rfl, a, C, dx, _, _, rfl, ha, T.cl, T.n1, wF_m, _, rfl, N, v, d, m, rfl, r, k⟩
theorem d_check_house (x_NoHouse : ExcAt K mg "NoHouse" CN) (F : FunAt K mg "check_house" s_check_house) (D_is_house : Has P w K mg base 3 "is_house" ["works", "thing"] (spIsHouse C)) : HasX P w K mg base 4 "check_house" ["works", "house"] (spCheckHouse C CN) := by
  refine mk_hasX F sc_check_house (fun _ _ _ _ _ _ us hl => match us, hl with | [_, _], _ => rfl) (fun vs H Q E h => ?_) fun f cdv A outer s H vs Q E hr h => ?_
  · obtain ⟨N, a, m, vr, v, d, rfl, _⟩ := h
    rfl
  obtain ⟨N, a, m, vr, v, d, rfl, ha, r, k1, k2⟩ := h
  refine ⟨_, (pss_one (ps_if (pt_not (pt_val (pe_h D_is_house (hr.mono (by decide)) rfl (pa_cons (pv 0) (pa_cons (pv 1) pa_nil)))))
    (pss_one (ps_rz rfl (takes_of rfl rfl rfl rfl) x_NoHouse rfl))
    pss_nil)), ?_⟩
  refine ⟨_, rfl, _, rfl, N, a, m, vr, v, d, rfl, ha, r, _, rfl, ?_⟩
  cases e : below m d with
  | true => exact ifF rfl (k2 e)
  | false => exact ifT rfl (k1 e)
theorem d_is_task (B : Bi mg) (T : WorksC K mg C) (F : FunAt K mg "is_task" s_is_task) (g_MOST_FUEL : mg "MOST_FUEL" = some (.int 12 t4)) (D_is_tuple_of : Has P w K mg base 1 "is_tuple_of" ["many", "thing"] spTupOf) (D_is_below : Has P w K mg base 2 "is_below" ["bound", "thing"] spIsBelow) : Has P w K mg base 3 "is_task" ["works", "thing"] (spIsTask C) := by
  refine mk_has F sc_is_task (fun _ _ _ _ _ _ us hl => match us, hl with | [_, _], _ => rfl) (fun vs H Q E h => ?_) fun f cdv A outer s H vs Q E hr h => ?_
  · obtain ⟨N, a, r, vm, v, rs, d, rfl, _⟩ := h
    rfl
  obtain ⟨N, a, r, vm, v, rs, d, rfl, ⟨dx, ha⟩, hrs, rd, k⟩ := h
  refine ⟨_, (pss_one (ps_ret (pe_and (pe_h D_is_tuple_of (hr.mono (by decide)) rfl (pa_cons pe_int (pa_cons (pv 1) pa_nil))) (pe_and (pe_h D_is_below (hr.mono (by decide)) rfl (pa_cons (pe_callB call_len_seq rfl B.len PySem.boot_len (pa_cons (pe_fld (pv 0) rfl) pa_nil)) (pa_cons (pe_ix ix_tup (pv 1) pe_int (fun _ _ => rfl)) pa_nil))) (pe_one (pe_h D_is_below (hr.mono (by decide)) rfl (pa_cons (pe_op op_add (pe_glob (v := .int 12) rfl g_MOST_FUEL ⟨_, rfl⟩) pe_int) (pa_cons (pe_ix ix_tup (pv 1) pe_int (fun _ _ => rfl)) pa_nil)))))))), ?_⟩
  refine ⟨_, rfl, N, v, d, 2, rfl, rd, _, rfl, ?_⟩
  cases d with
  | tuple ds =>
    cases rd with
    | tup e no ra =>
    cases ra with
    | nil => exact ifF rfl k
    | cons rx ra =>
    cases ra with
    | nil => exact ifF rfl k
    | cons ry ra =>
    cases ra with
    | nil =>
      rename_i x y1 y b
      refine ifT rfl ⟨_, rfl, a, C, dx, _, _, rfl, ha, T.cl, T.n2, wF_r, _, _, rfl, .inr (SqT.of hrs), _, rfl, _, _, _, _, rfl, rfl, SqT.of e, rfl, N, _, _, _, rfl, rx, _, rfl, ?_⟩
      cases e1 : below rs.length y1 with
      | true => exact ifT rfl ⟨_, _, rfl, rfl, _, rfl, _, _, _, _, rfl, rfl, SqT.of e, rfl, N, _, _, _, rfl, ry, okB (by simp [isPair, e1]) k⟩
      | false => exact ifF rfl (okB (by simp [isPair, e1]) k)
    | cons rz ra => exact ifF (by simp [lenIs]; omega) k
  | bool b => exact ifF rfl k
  | int b => exact ifF rfl k
  | none => exact ifF rfl k
  | str x => exact ifF rfl k
  | list x => exact ifF rfl k
  | dict x => exact ifF rfl k
theorem d_check_task (x_NoTask : ExcAt K mg "NoTask" CN) (F : FunAt K mg "check_task" s_check_task) (D_is_task : Has P w K mg base 3 "is_task" ["works", "thing"] (spIsTask C)) : HasX P w K mg base 4 "check_task" ["works", "task"] (spCheckTask C CN) := by
  refine mk_hasX F sc_check_task (fun _ _ _ _ _ _ us hl => match us, hl with | [_, _], _ => rfl) (fun vs H Q E h => ?_) fun f cdv A outer s H vs Q E hr h => ?_
  · obtain ⟨N, a, r, vm, v, rs, d, rfl, _⟩ := h
    rfl
  obtain ⟨N, a, r, vm, v, rs, d, rfl, ha, hrs, rd, k1, k2⟩ := h
  refine ⟨_, (pss_one (ps_if (pt_not (pt_val (pe_h D_is_task (hr.mono (by decide)) rfl (pa_cons (pv 0) (pa_cons (pv 1) pa_nil)))))
    (pss_one (ps_rz rfl (takes_of rfl rfl rfl rfl) x_NoTask rfl))
    pss_nil)), ?_⟩
  refine ⟨_, rfl, _, rfl, N, a, r, vm, v, rs, d, rfl, ha, hrs, rd, _, rfl, ?_⟩
  cases e : isPair rs.length 13 d with
  | true => exact ifF rfl (k2 e)
  | false => exact ifT rfl (k1 e)
theorem d_works_eq (B : Bi mg) (T : WorksC K mg C) (F : MethAt K C "__eq__" "Works.__eq__" s_Works___eq__) : HasM P w K mg base 1 C "__eq__" ["self", "other"] (spWEq C) := by
  refine mk_hasM F sc_Works___eq__ (fun _ _ _ _ _ _ us hl => match us, hl with | [_, _], _ => rfl) (fun vs H Q E h => ?_) fun f cdv A outer s H vs Q E hr h => ?_
  · obtain ⟨a, b, vm, vr, rfl, _⟩ := h
    rfl
  obtain ⟨a, b, vm, vr, rfl, ⟨dx, ha⟩, k⟩ := h
  have hu := hu_of hr
  refine ⟨_, (pss_one (ps_ret (pe_and (pe_callB call_isi rfl B.isinstance (by decide +kernel) (pa_cons (pv 1) (pa_cons (pe_glob (v := .ref C) rfl T.g rfl) pa_nil))) (pe_and (pe_cmpR op_eq (pe_fld (pv 0) rfl) (pe_fld (pv 1) rfl) (nomark _)) (pe_one (pe_cmpR (op_eqD hr.units) (pe_fld (pv 0) rfl) (pe_fld (pv 1) rfl) (nomark _))))))), ?_⟩
  rcases k with ⟨⟨xs, hb⟩, k⟩ | ⟨N, vm', vr', dr, dr', i, j, ⟨dy, hb⟩, rfl, rfl, r, r', sh, sh', k⟩
  · exact ⟨_, rfl, _, _, _, _, _, rfl, .own C, .base (.tup hb), T.k0, _, rfl, ifF rfl k⟩
  · refine ⟨_, rfl, _, _, _, _, _, rfl, .own C, T.ty hb, T.k1, _, rfl, ifT rfl ?_⟩
    refine ⟨_, rfl, a, C, dx, _, _, rfl, ha, T.cl, T.n1, wF_m, _, rfl, b, C, dy, _, _, rfl, hb, T.cl, T.n1, wF_m, rfl, _, rfl, ?_⟩
    cases e : decide (i = j) with
    | false =>
      rw [e] at k
      exact ifF (by show decide (V.int i = V.int j) = false; simp at e ⊢; exact e) k
    | true =>
      rw [e] at k
      exact ifT (by show decide (V.int i = V.int j) = true; simp at e ⊢; exact e) ⟨_, rfl, a, C, dx, _, _, rfl, ha, T.cl, T.n2, wF_r, _, rfl, b, C, dy, _, _, rfl, hb, T.cl, T.n2, wF_r, dr, dr', r.dp (lay_of sh), r'.dp (lay_of sh'), sh, sh', k⟩
end
end KQ
set_option Elab.async false
set_option maxRecDepth 100000
set_option maxHeartbeats 4000000
namespace KQ
open PySem PySem.Spec PyProof.Rows L2
theorem within_num {d : PyData} {lo hi : Int} (h : within d lo hi = true) : d = .int (num d) ∧ lo ≤ num d ∧ num d ≤ hi := by
  unfold within at h
  cases d <;> simp [intOf] at h
  exact ⟨rfl, h⟩
theorem below_int {d : PyData} {b : Int} (h : below b d = true) : d = .int (num d) := by
  unfold below at h
  cases d <;> simp [intOf] at h
  rfl
theorem below7 (d : PyData) : within d 1 6 = (below 7 d && !decide (num d = 0)) := by
  unfold within below num
  cases e : intOf d with
  | none => rfl
  | some i =>
    show (decide (1 ≤ i) && decide (i ≤ 6)) = (decide (0 ≤ i) && decide (i < 7) && !decide (i = 0))
    rw [Bool.eq_iff_iff]
    simp
    omega
section
variable {P : Program} {w : World} {K : PySem.W.Frag} {mg : Str → Option Value} {base : Heap} {t1 t2 t3 t4 : Tok} {C CB CN : Addr}
set_option maxHeartbeats 8000000 in
theorem d_works_init (B : Bi mg) (T : WorksC K mg C) (F : InitAt K mg "Works" C "Works.__init__" s_Works___init__) (g_MOST_HOUSES : mg "MOST_HOUSES" = some (.int 6 t1)) (g_MOST_KINDS : mg "MOST_KINDS" = some (.int 6 t2)) (x_BadWorks : ErrAt P w K mg base "BadWorks" CB "part")
    (D_is_below : Has P w K mg base 2 "is_below" ["bound", "thing"] spIsBelow) (D_is_rule : Has P w K mg base 4 "is_rule" ["many", "kinds", "thing"] spRule) : HasCX P w K mg base 5 "Works" C ["self", "many", "rules"] (spWInit C CB) := by
  refine mk_hasCX F sc_Works___init__ (fun _ _ _ _ _ _ us hl => match us, hl with | [_, _, _], _ => rfl) (fun vs H Q E h => ?_) fun f cdv A outer s H vs Q E hr h => ?_
  · obtain ⟨N, p, dx, vm, vr, dm, dr, rfl, _⟩ := h
    rfl
  obtain ⟨N, p, dx, vm, vr, dm, dr, rfl, hp, rm, rr, kE, kQ⟩ := h
  refine ⟨_, (pss_cons (ps_if (PW.pt (pw_or (pt_not (pt_val (pe_h D_is_below (hr.mono (by decide)) rfl (pa_cons (pe_op op_add (pe_glob (v := .int 6) rfl g_MOST_HOUSES ⟨_, rfl⟩) pe_int) (pa_cons (pv 1) pa_nil))))) (pw_or1 (pt_cmpR op_eq (pv 1) pe_int (nomark _)))))
    (pss_one (ps_rx rfl (takes_of rfl rfl rfl rfl) x_BadWorks (hr.mono (by decide)) (pa_cons pe_str pa_nil) rfl))
    pss_nil)
    (pss_cons (ps_if (PW.pt (pw_or (pt_not (pt_val (pe_callB call_isi rfl B.isinstance (by decide +kernel) (pa_cons (pv 2) (pa_cons (pe_bltn (v := .ty "tuple") rfl B.tuple (by decide +kernel) rfl) pa_nil))))) (pw_or (pt_cmpR op_eq (pe_callB call_len_seq rfl B.len PySem.boot_len (pa_cons (pv 2) pa_nil)) pe_int (nomark _)) (pw_or1 (pt_cmpR op_gt (pe_callB call_len_seq rfl B.len PySem.boot_len (pa_cons (pv 2) pa_nil)) (pe_glob (v := .int 6) rfl g_MOST_KINDS ⟨_, rfl⟩) (nomark _))))))
    (pss_one (ps_rx rfl (takes_of rfl rfl rfl rfl) x_BadWorks (hr.mono (by decide)) (pa_cons (pe_un un_neg pe_int) pa_nil) rfl))
    pss_nil)
    (pss_cons (ps_for (passes_of rfl) rfl (pi_enumT rfl B.enumerate (pa_cons (pv 2) pa_nil)) (pg_tup rfl (pgs_cons (pg_name (i := 3) sc_Works___init__.nd rfl (Or.inl rfl)) (pgs_cons (pg_name (i := 4) sc_Works___init__.nd rfl (Or.inl rfl)) pgs_nil)))
    (pss_one (ps_if (pt_not (pt_val (pe_h D_is_rule (hr.mono (by decide)) rfl (pa_cons (pv 1) (pa_cons (pe_callB call_len_seq rfl B.len PySem.boot_len (pa_cons (pv 2) pa_nil)) (pa_cons (pv 4) pa_nil))))))
    (pss_one (ps_rx rfl (takes_of rfl rfl rfl rfl) x_BadWorks (hr.mono (by decide)) (pa_cons (pv 3) pa_nil) rfl))
    pss_nil)))
    (pss_cons (ps_fld (pv 0) (pv 1) rfl)
    (pss_one (ps_fld (pv 0) (pv 2) rfl)))))), ?_⟩
  refine ⟨_, _, rfl, rfl, _, rfl, N, vm, dm, 7, rfl, rm, _, rfl, ?_⟩
  have e7 := below7 dm
  cases c1 : below 7 dm with
  | false =>
    rw [c1, Bool.false_and] at e7
    exact ifT rfl (mk_err fun d hd => kE _ (by unfold badW; rw [if_pos e7]) d H (Same.refl H) hd)
  | true =>
  refine ifF rfl ?_
  rw [c1, Bool.true_and] at e7
  have c1i := below_int c1
  rw [c1i] at rm
  have evm : vm = .int (num dm) := by cases rm; rfl
  subst evm
  refine ⟨_, rfl, rfl, _, rfl, ?_⟩
  by_cases z : num dm = 0
  · rw [decide_eq_true z, Bool.not_true] at e7
    exact ifT (by rw [z]; rfl) (mk_err fun d hd => kE _ (by unfold badW; rw [if_pos e7]) d H (Same.refl H) hd)
  rw [decide_eq_false z, Bool.not_false] at e7
  have n7 : ¬ within dm 1 6 = false := by rw [e7]; exact Bool.noConfusion
  refine ifF (by simpa using z) ?_
  refine ⟨_, rfl, _, _, _, _, _, rfl, .ty "tuple", rr.ty, kit_tuple dr, _, rfl, ?_⟩
  have other : (∀ ds, dr ≠ .tuple ds) → badW dm dr = some (.int (-1)) := fun h => by
    unfold badW
    rw [if_neg n7]
    cases dr <;> first | rfl | exact absurd rfl (h _)
  cases dr with
  | tuple ds =>
    cases rr with
    | @tup r xs _ er nr ra =>
    have ex : badW dm (.tuple ds) = if ds.length = 0 ∨ 6 < ds.length then some (.int (-1)) else (firstBad (isRule (num dm) ds.length) 0 ds).map fun i => .int (i : Nat) := by
      unfold badW
      rw [if_neg n7]
    refine ifF rfl ⟨_, rfl, _, _, rfl, .inr (SqT.of er), rfl, _, rfl, ?_⟩
    have hl := ra.length
    by_cases l0 : ds.length = 0
    · rw [if_pos (.inl l0)] at ex
      exact ifT (by rw [hl, l0]; rfl) ⟨_, rfl, mk_err fun d hd => kE _ ex d H (Same.refl H) hd⟩
    refine ifF (by rw [hl]; simpa using l0) ⟨_, rfl, _, _, rfl, .inr (SqT.of er), _, _, rfl, rfl, _, rfl, ?_⟩
    by_cases l6 : 6 < ds.length
    · rw [if_pos (.inr l6)] at ex
      exact ifT (by rw [hl]; simpa using (by omega : (6 : Int) < ds.length)) ⟨_, rfl, mk_err fun d hd => kE _ ex d H (Same.refl H) hd⟩
    refine ifF (by rw [hl]; simpa using (by omega : (ds.length : Int) ≤ 6)) ?_
    rw [if_neg (fun z => z.elim l0 l6)] at ex
    refine ⟨_, rfl, r, xs, rfl, SqT.of er, for_et (fun i σ H' => ∃ v3 v4, σ = [some (.ref p), some (.int (num dm)), some (.ref r), v3, v4] ∧ Same H H' ∧ badW dm (.tuple ds) = (firstBad (isRule (num dm) ds.length) i (ds.drop i)).map fun i => .int (i : Nat))
      ⟨none, none, rfl, Same.refl H, ex⟩ (fun i σ H' ⟨_, _, _, e, _⟩ => SqT.of (e _ _ er)) ?_ ?_⟩
    · rintro i x Ti σ H' hx ⟨v3, v4, rfl, e, eb⟩ nT
      obtain ⟨dx', mx, gx, rx⟩ := ra.at_ hx
      have e2 : Same H (upd H' Ti (.tup [.int (i : Nat), x])) := e.trans (same_new nT)
      rw [firstBad_at gx] at eb
      refine ⟨_, _, rfl, SqT.of upd_same, rfl, _, _, rfl, _, _, rfl, rfl, ?_⟩
      refine ⟨_, rfl, _, rfl, _, _, rfl, .inr (SqT.of (e2 _ _ er)), _, rfl, N, x, dx', num dm, _, rfl, rx.to (Kp.of_same e2), fun H3 e3 => ⟨_, rfl, ?_⟩⟩
      have e4 := e2.trans e3
      rw [hl]
      cases c : isRule (num dm) ds.length dx' with
      | true =>
        rw [c, if_pos rfl] at eb
        exact ifF rfl ⟨_, _, rfl, e4, eb⟩
      | false =>
        rw [c, if_neg Bool.false_ne_true] at eb
        exact ifT rfl ⟨_, rfl, mk_err fun d hd => kE _ eb d H3 e4 hd⟩
    · rintro σ H' ⟨v3, v4, rfl, e, eb⟩
      have el : ds.drop xs.length = [] := by rw [hl]; exact List.drop_length
      rw [el] at eb
      refine ⟨_, rfl, _, rfl, p, C, dx, [], rfl, e _ _ hp, T.cl, T.n1, (by show 0 < 1000; decide), ?_⟩
      refine ⟨_, rfl, _, rfl, p, C, dx, _, rfl, upd_same, T.cl, T.n2, (by show 1 < 1000; decide), ?_⟩
      refine kQ eb _ (by rw [upd_same, wF_new]) fun a o q n => ?_
      rw [upd_ne n, upd_ne n]
      exact e _ _ q
  | bool b => exact ifT rfl ⟨_, rfl, mk_err fun d hd => kE _ (other fun _ z => nomatch z) d H (Same.refl H) hd⟩
  | int b => exact ifT rfl ⟨_, rfl, mk_err fun d hd => kE _ (other fun _ z => nomatch z) d H (Same.refl H) hd⟩
  | none => exact ifT rfl ⟨_, rfl, mk_err fun d hd => kE _ (other fun _ z => nomatch z) d H (Same.refl H) hd⟩
  | str x => exact ifT rfl ⟨_, rfl, mk_err fun d hd => kE _ (other fun _ z => nomatch z) d H (Same.refl H) hd⟩
  | list x => exact ifT rfl ⟨_, rfl, mk_err fun d hd => kE _ (other fun _ z => nomatch z) d H (Same.refl H) hd⟩
  | dict x => exact ifT rfl ⟨_, rfl, mk_err fun d hd => kE _ (other fun _ z => nomatch z) d H (Same.refl H) hd⟩
end
end KQ
set_option Elab.async false
set_option maxRecDepth 100000
set_option maxHeartbeats 4000000
namespace KQ
open PySem PySem.Spec PyProof.Rows L2
/-! ### what a task sends -/
abbrev Rules := List (List (Int × Int))
def pairD (p : Int × Int) : PyData := .tuple [.int p.1, .int p.2]
def ruleD (ps : List (Int × Int)) : PyData := .tuple (ps.map pairD)
def rulesD (R : Rules) : PyData := .tuple (R.map ruleD)
def sentI (m h f : Int) (p : Int × Int) : PyData := .tuple [.int ((h + p.1).fmod m), .tuple [.int p.2, .int (f - 1)]]
def sentD (m : Int) (R : Rules) (h k f : Int) : List PyData := if f = 0 then [] else (R.getD k.toNat []).map (sentI m h f)
theorem below_inv {b : Int} {d : PyData} (h : below b d = true) : ∃ i, d = .int i ∧ 0 ≤ i ∧ i < b := by
  unfold below at h
  cases d <;> simp [intOf] at h
  exact ⟨_, rfl, h⟩
theorem isPair_inv {m k : Int} {d : PyData} (h : isPair m k d = true) : ∃ i j, d = .tuple [.int i, .int j] ∧ 0 ≤ i ∧ i < m ∧ 0 ≤ j ∧ j < k := by
  unfold isPair at h
  split at h
  · rw [Bool.and_eq_true] at h
    obtain ⟨i, rfl, i0, i1⟩ := below_inv h.1
    obtain ⟨j, rfl, j0, j1⟩ := below_inv h.2
    exact ⟨i, j, rfl, i0, i1, j0, j1⟩
  · exact absurd h (by decide)
abbrev NF : Addr → Prop := fun _ => False
def spSentBy (C CH CT : Addr) : Sp := fun vs H Q E => ∃ (N : Addr → Prop) (a r : Addr) (m : Int) (R : Rules) (v v' : V) (dh dt : PyData), vs = [.ref a, v, v'] ∧ WorksAt C H a (.int m) (.ref r) ∧ 0 < m ∧ Rp N H (.ref r) (rulesD R) ∧ (∀ ps ∈ R, ps.length ≤ 1000) ∧ Rp N H v dh ∧ Rp N H v' dt ∧
  (below m dh = false → E (.ref CH) none H) ∧ (below m dh = true → isPair R.length 13 dt = false → E (.ref CT) none H) ∧
  (∀ h k f, dh = .int h → dt = .tuple [.int k, .int f] → below m dh = true → isPair R.length 13 dt = true → ∀ T H', Same H H' → Rp NF H' (.ref T) (.tuple (sentD m R h k f)) → Q (.ref T) H')
section
variable {P : Program} {w : World} {K : PySem.W.Frag} {mg : Str → Option Value} {base : Heap} {t1 t2 t3 t4 : Tok} {C CB CH CT : Addr}
set_option maxHeartbeats 8000000 in
theorem d_sent_by (B : Bi mg) (T : WorksC K mg C) (F : FunAt K mg "sent_by" s_sent_by) (D_check_house : HasX P w K mg base 4 "check_house" ["works", "house"] (spCheckHouse C CH)) (D_check_task : HasX P w K mg base 4 "check_task" ["works", "task"] (spCheckTask C CT)) :
    HasX P w K mg base 5 "sent_by" ["works", "house", "task"] (spSentBy C CH CT) := by
  refine mk_hasX F sc_sent_by (fun _ _ _ _ _ _ us hl => match us, hl with | [_, _, _], _ => rfl) (fun vs H Q E h => ?_) fun f cdv A outer s H vs Q E hr h => ?_
  · obtain ⟨N, a, r, m, R, v, v', dh, dt, rfl, _⟩ := h
    rfl
  obtain ⟨N, a, r, m, R, v, v', dh, dt, rfl, ha, hm, rr, hps, rh, rt, kh, kt, kQ⟩ := h
  refine ⟨_, (pss_cons (ps_expr (pe_hX (takes_of rfl rfl rfl rfl) D_check_house (hr.mono (by decide)) rfl (pa_cons (pv 0) (pa_cons (pv 1) pa_nil))))
    (pss_cons (ps_expr (pe_hX (takes_of rfl rfl rfl rfl) D_check_task (hr.mono (by decide)) rfl (pa_cons (pv 0) (pa_cons (pv 2) pa_nil))))
    (pss_cons (ps_asg (pv 2) (pg_tup rfl (pgs_cons (pg_name (i := 3) sc_sent_by.nd rfl (Or.inl rfl)) (pgs_cons (pg_name (i := 4) sc_sent_by.nd rfl (Or.inr rfl)) pgs_nil))))
    (pss_cons (ps_if (pt_cmpR op_eq (pv 4) pe_int (nomark _))
    (pss_one (ps_ret (pe_tup pa_nil)))
    pss_nil)
    (pss_one (ps_ret (pe_callTy call_tuple_of rfl B.tuple (by decide +kernel) (pa_cons (pe_lc (own := [("step", 5), ("sent", 6)]) (g := gTup K 2 (gCons (gName 5) (gCons (gName 6) gNil))) (tt := tYes) (te := (tTup (tCons (tOp (rI (fun _ j => j ≠ 0) fun i j => .int (i.fmod j)) (tOp (rI0 fun i j => .int (i + j)) (tVar 1) (tVar 5)) (tFld K (tVar 0) "many")) (tCons (tTup (tCons (tVar 6) (tCons (tOp (rI0 fun i j => .int (i - j)) (tVar 4) (tC (.int 1))) tNil))) tNil)))) rfl sc_sent_by.nd (pi_tup (pe_ix ix_tup (pe_fld (pv 0) rfl) (pv 3) (fun _ _ => rfl))) (blkOk_by (own := [("step", 5), ("sent", 6)]) (N := ["works", "house", "task", "kind", "fuel", "step", "sent"]) (sc := defScope s_sent_by) (by decide +kernel)) (fun _ _ _ _ _ => (pg_tup rfl (pgs_cons (pg_name (i := 5) sc_sent_by.nd rfl (Or.inl rfl)) (pgs_cons (pg_name (i := 6) sc_sent_by.nd rfl (Or.inl rfl)) pgs_nil)))) (fun _ _ _ _ _ => pts_nil) (fun _ _ _ _ _ => (pe_tup (pa_cons (pe_op op_modN (pe_op op_add (pv 1) (pv 5)) (pe_fld (pv 0) rfl)) (pa_cons (pe_tup (pa_cons (pv 6) (pa_cons (pe_op op_sub (pv 4) pe_int) pa_nil))) pa_nil))))) pa_nil)))))))), ?_⟩
  cases rr with
  | @tup _ xs _ er nr ra =>
  have hl : xs.length = R.length := ra.length.trans (List.length_map _)
  refine ⟨_, rfl, _, rfl, N, a, m, .ref r, v, dh, rfl, ha, rh, fun e => kh e, fun eh => ?_⟩
  refine ⟨_, rfl, _, rfl, N, a, r, .int m, v', xs, dt, rfl, ha, er, rt, fun e => kt eh (by rw [← hl]; exact e), fun et => ?_⟩
  rw [hl] at et
  obtain ⟨hh, rfl, h0, h1⟩ := below_inv eh
  obtain ⟨kk, ff, rfl, k0, k1, f0, f1⟩ := isPair_inv et
  have fin := kQ hh kk ff rfl rfl eh et
  cases rh
  cases rt with
  | tup et' nt' rt' =>
  cases rt' with
  | cons rk rt' =>
  cases rt' with
  | cons rf rt' =>
  cases rt'
  cases rk
  cases rf
  refine ⟨_, rfl, _, _, rfl, SqT.of et', rfl, _, _, rfl, _, _, rfl, rfl, ?_⟩
  refine ⟨_, rfl, rfl, _, rfl, ?_⟩
  by_cases z : ff = 0
  · refine ifT (by rw [z]; rfl) ⟨(by show 0 ≤ sizeLine; decide), fun p np => fin p _ (same_new np) (.tup upd_same (fun z => z) ?_)⟩
    unfold sentD
    rw [if_pos z]
    exact .nil
  refine ifF (by simpa using z) ?_
  obtain ⟨x, hx, _, gx⟩ := atI_some (xs := xs) k0 (by rw [hl]; exact k1)
  obtain ⟨d, gd, rd⟩ := ra.get gx
  rw [List.getElem?_map] at gd
  obtain ⟨ps, gp, rfl⟩ := Option.map_eq_some_iff.mp gd
  have hsd : sentD m R hh kk ff = ps.map (sentI m hh ff) := by
    unfold sentD
    rw [if_neg z, List.getD_eq_getElem?_getD, gp] <;> rfl
  rw [hsd] at fin
  have hlen := hps ps (List.mem_of_getElem? gp)
  cases rd with
  | @tup q ys _ eq nq ry =>
  have hly : ys.length = ps.length := ry.length.trans (List.length_map _)
  obtain ⟨dx, hax⟩ := ha
  refine ⟨_, rfl, a, C, dx, _, _, rfl, hax, T.cl, T.n2, wF_r, _, rfl, _, _, _, _, rfl, rfl, SqT.of er, hx, q, rfl, ⟨ys, SqT.of eq⟩, fun D nD => ?_⟩
  refine lc_tup (K := K) (a := q) (xs := ys) (fun i H' => Same H H' ∧ ∃ acc, H' D = some (.lst acc) ∧ RpAll (fun b => b = D) H' acc ((ps.take i).map (sentI m hh ff))) ⟨same_new nD, [], upd_same, .nil⟩ (fun i H' _ z => SqT.of (z.1 _ _ eq)) (fun i y H' hy z => ?_) fun H' z => ?_
  · obtain ⟨d, gd, rd⟩ := ry.get hy
    rw [List.getElem?_map] at gd
    obtain ⟨p, gp', rfl⟩ := Option.map_eq_some_iff.mp gd
    have hil : i < ps.length := by
      obtain ⟨h1, _⟩ := List.getElem?_eq_some_iff.mp gp'
      exact h1
    obtain ⟨e1, acc, eD, rA⟩ := z
    cases rd with
    | @tup b zs _ eb nb rz =>
    cases rz with
    | cons r1 rz =>
    cases rz with
    | cons r2 rz =>
    cases rz
    cases r1
    cases r2
    refine ⟨_, _, rfl, SqT.of (e1 _ _ eb), rfl, _, _, rfl, _, _, rfl, rfl, rfl, ?_⟩
    refine tYes_ok ?_
    rw [if_pos rfl]
    refine ⟨_, rfl, _, rfl, _, _, rfl, rfl, _, rfl, a, C, dx, _, _, rfl, e1 _ _ hax, T.cl, T.n1, wF_m, _, _, rfl, rfl, by omega, ?_⟩
    refine ⟨_, rfl, _, rfl, _, _, rfl, rfl, (by show 2 ≤ sizeLine; decide), fun T1 n1 => ⟨(by show 2 ≤ sizeLine; decide), fun T2 n2 => ?_⟩⟩
    have s1 := same_new (o := .tup [.int p.2, .int (ff - 1)]) n1
    have s2 := s1.trans (same_new (o := .tup [.int ((hh + p.1).fmod m), .ref T1]) n2)
    refine ⟨acc, s2 _ _ eD, ?_, fun b o q => ?_, acc ++ [.ref T2], upd_same, ?_⟩
    · rw [rA.length, List.length_map, List.length_take]
      exact Nat.lt_of_le_of_lt (Nat.le_trans (Nat.min_le_right _ _) hlen) (by decide)
    · rw [upd_ne (ne_of_none q nD)]
      exact s2 _ _ (e1 b o q)
    · rw [map_take gp']
      have nD1 : ¬ T1 = D := fun z => by rw [z, eD] at n1; cases n1
      have nD2 : ¬ T2 = D := fun z => by rw [z, s1 _ _ eD] at n2; cases n2
      refine RpAll.to (.app (rA.to (Kp.of_same s2)) (.cons (.tup upd_same nD2 (.cons (.int _) (.cons (.tup ?_ nD1 (.cons (.int _) (.cons (.int _) .nil))) .nil))) .nil)) (Kp.put rfl)
      exact same_new n2 _ _ upd_same
  · obtain ⟨e1, acc, eD, rA⟩ := z
    rw [hly, List.take_length] at rA
    refine ⟨D, acc, rfl, .inl ⟨SqL.of eD, fun p np => fin p _ (e1.trans (same_new np)) (.tup upd_same (fun z => z) ?_)⟩⟩
    exact (rA.to (Kp.of_same (same_new np))).kp (N' := NF) Kp.refl fun _ _ _ _ z => z
end
end KQ
set_option Elab.async false
set_option maxRecDepth 100000
set_option maxHeartbeats 4000000
namespace KQ
open PySem PySem.Spec PyProof.Rows L2
/-! ### the law's own judges of works -/
theorem below_with (b : Int) (d : PyData) : within d 0 (b - 1) = below b d := by
  unfold within below
  cases intOf d with
  | none => rfl
  | some i =>
    show (decide (0 ≤ i) && decide (i ≤ b - 1)) = (decide (0 ≤ i) && decide (i < b))
    rw [Bool.eq_iff_iff]
    simp
    omega
def spLawRule : Sp := fun vs H Q _ => ∃ (N : Addr → Prop) (v : V) (d : PyData) (m k : Int), vs = [.int m, .int k, v] ∧ Rp N H v d ∧ Q (.bl (isRule m k d)) H
def spBad : Sp := fun vs H Q _ => ∃ (N : Addr → Prop) (vm vr : V) (dm dr : PyData), vs = [vm, vr] ∧ Rp N H vm dm ∧ Rp N H vr dr ∧ Q ((badW dm dr).getD .non) H
def spLawIsTask : Sp := fun vs H Q _ => ∃ (N : Addr → Prop) (r : Addr) (rs : List V) (v : V) (d : PyData), vs = [.ref r, v] ∧ H r = some (.tup rs) ∧ Rp N H v d ∧ Q (.bl (isPair rs.length 13 d)) H
def spLawTask : Sp := fun vs H Q _ => ∃ (h l r : Addr) (rs : List V) (o : Int), vs = [.ref h, .ref r, .int o] ∧ HandOk H h l ∧ H r = some (.tup rs) ∧ 0 < rs.length ∧ rs.length ≤ 1000 ∧ 0 ≤ o ∧ o ≤ 1000 ∧
  ∀ (T : Addr) (d : PyData) (H' : Hp), HandOk H' h l → Kp (Nh h) H H' → Rp (Nh h) H' (.ref T) d → Q (.ref T) H'
def spLawSent : Sp := fun vs H Q _ => ∃ (N : Addr → Prop) (r t : Addr) (m h k f : Int) (R : Rules), vs = [.int m, .ref r, .int h, .ref t] ∧ 0 < m ∧ Rp N H (.ref r) (rulesD R) ∧ (∀ ps ∈ R, ps.length ≤ 1000) ∧ H t = some (.tup [.int k, .int f]) ∧ 0 ≤ k ∧ k < R.length ∧ 0 ≤ f ∧
  ∀ (L : Addr) (acc : List V) (H' : Hp), H L = none → Same H H' → H' L = some (.lst acc) → RpAll (fun b => b = L) H' acc (sentD m R h k f) → Q (.ref L) H'
section
variable {P : Program} {w : World} {K : PySem.W.Frag} {mg : Str → Option Value} {base : Heap}
end
end KQ
set_option Elab.async false
set_option maxRecDepth 100000
set_option maxHeartbeats 4000000
namespace KQ
open PySem PySem.Spec PyProof.Rows L2
/-! ### works of the law's own making -/
/-- a new instance, not yet filled -/
theorem ins_new {H : Hp} {x dx C : Addr} (nx : H x = none) (nd : H dx = none) (ne : dx ≠ x) : Same H (upd (upd H dx (.own x)) x (.ins C dx [])) := fun b o z => by
  rw [upd_ne (ne_of_none z nx), upd_ne (ne_of_none z nd)]
  exact z
theorem same_kp {H H1 H' : Hp} {x : Addr} (s : Same H H1) (nx : H x = none) (k : Kp (Nh x) H1 H') : Same H H' := fun b o z => k b o (s b o z) (ne_of_none z nx)
theorem Rp.nf {N : Addr → Prop} {H : Hp} {v : V} {d : PyData} (r : Rp N H v d) : Rp NF H v d := r.kp (N' := NF) Kp.refl fun _ _ _ _ z => z

structure OkRule (m n : Int) (o : Nat) (ps : List (Int × Int)) : Prop where
  len : ps.length ≤ o
  at_ : ∀ p ∈ ps, (0 ≤ p.1 ∧ p.1 < m) ∧ 0 ≤ p.2 ∧ p.2 < n
def spLawRules : Sp := fun vs H Q _ => ∃ (h l : Addr) (m n o : Int), vs = [.ref h, .int m, .int n, .int o] ∧ HandOk H h l ∧ 0 < m ∧ m ≤ 1000 ∧ 0 < n ∧ n ≤ 1000 ∧ 0 < o ∧ o ≤ 1000 ∧
  ∀ (R : Rules) (r : Addr) (H' : Hp), HandOk H' h l → Kp (Nh h) H H' → Rp (Nh h) H' (.ref r) (rulesD R) → (R.length : Int) = n → (∀ ps ∈ R, OkRule m n o.toNat ps) → Q (.ref r) H'
/-- works as the law makes them -/
structure OkWorks (m : Int) (R : Rules) : Prop where
  m1 : 1 ≤ m
  m6 : m ≤ 6
  r1 : 1 ≤ R.length
  r6 : R.length ≤ 6
  at_ : ∀ ps ∈ R, OkRule m R.length 4 ps
def spSome : Sp := fun vs H Q _ => ∃ h l : Addr, vs = [.ref h] ∧ HandOk H h l ∧
  ∀ (m : Int) (R : Rules) (T r : Addr) (H' : Hp), HandOk H' h l → Kp (Nh h) H H' → Rp (Nh h) H' (.ref r) (rulesD R) → OkWorks m R → H' T = some (.tup [.int m, .ref r]) → T ≠ h → Q (.ref T) H'
section
variable {P : Program} {w : World} {K : PySem.W.Frag} {mg : Str → Option Value} {base : Heap}
end
end KQ
set_option Elab.async false
set_option maxRecDepth 100000
set_option maxHeartbeats 4000000
namespace KQ
open PySem PySem.Spec PyProof.Rows L2
/-! ### data of good works -/
theorem pairD_dl (p : Int × Int) : (pairD p).depth = 1 ∧ (pairD p).canLay0 = true := by simp [pairD, PyData.depth, PyData.depthAll, PyData.canLay0, PyData.canLayAll0]
theorem pairsD_dl : ∀ ps : List (Int × Int), PyData.depthAll (ps.map pairD) ≤ 1 ∧ PyData.canLayAll0 (ps.map pairD) = true
  | [] => by simp [PyData.depthAll, PyData.canLayAll0]
  | p :: ps => by
    have h1 := pairD_dl p
    have h2 := pairsD_dl ps
    simp [PyData.depthAll, PyData.canLayAll0, h1.1, h1.2, h2.2]
    omega
theorem ruleD_dl (ps : List (Int × Int)) : (ruleD ps).depth ≤ 2 ∧ (ruleD ps).canLay0 = true := by
  have h := pairsD_dl ps
  simp only [ruleD, PyData.depth, PyData.canLay0]
  exact ⟨by omega, h.2⟩
theorem rulesD_dl' : ∀ R : Rules, PyData.depthAll (R.map ruleD) ≤ 2 ∧ PyData.canLayAll0 (R.map ruleD) = true
  | [] => by simp [PyData.depthAll, PyData.canLayAll0]
  | p :: ps => by
    have h1 := ruleD_dl p
    have h2 := rulesD_dl' ps
    simp [PyData.depthAll, PyData.canLayAll0, h1.2, h2.2]
    omega
theorem rulesD_dl (R : Rules) : (rulesD R).depth ≤ 3 ∧ (rulesD R).canLay0 = true := by
  have h := rulesD_dl' R
  simp only [rulesD, PyData.depth, PyData.canLay0]
  exact ⟨by omega, h.2⟩
theorem rulesD_sh (R : Rules) : SeqAt.shaped (rulesD R) = true := by
  have h := rulesD_dl R
  unfold SeqAt.shaped
  rw [h.2, Bool.true_and]
  exact decide_eq_true (by omega)
theorem sentI_dl (m h f : Int) (p : Int × Int) : (sentI m h f p).depth = 2 ∧ (sentI m h f p).canLay0 = true := by simp [sentI, PyData.depth, PyData.depthAll, PyData.canLay0, PyData.canLayAll0]
theorem sents_dl (m h f : Int) : ∀ ps : List (Int × Int), PyData.depthAll (ps.map (sentI m h f)) ≤ 2 ∧ PyData.canLayAll0 (ps.map (sentI m h f)) = true
  | [] => by simp [PyData.depthAll, PyData.canLayAll0]
  | p :: ps => by
    have h1 := sentI_dl m h f p
    have h2 := sents_dl m h f ps
    simp [PyData.depthAll, PyData.canLayAll0, h1.1, h1.2, h2.2]
    omega
theorem sentD_dl (m : Int) (R : Rules) (h k f : Int) : PyData.depthAll (sentD m R h k f) ≤ 2 ∧ PyData.canLayAll0 (sentD m R h k f) = true := by
  unfold sentD
  split
  · simp [PyData.depthAll, PyData.canLayAll0]
  · exact sents_dl _ _ _ _
theorem isPair_ok {m k : Int} {p : Int × Int} (h : (0 ≤ p.1 ∧ p.1 < m) ∧ 0 ≤ p.2 ∧ p.2 < k) : isPair m k (pairD p) = true := by
  simp only [pairD, isPair, below, intOf]
  simp [h.1.1, h.1.2, h.2.1, h.2.2]
theorem isRule_ok {m k : Int} {ps : List (Int × Int)} (h : OkRule m k 4 ps) : isRule m k (ruleD ps) = true := by
  simp only [ruleD, isRule, List.length_map]
  rw [Bool.and_eq_true, List.all_map, List.all_eq_true]
  exact ⟨decide_eq_true h.len, fun p hp => isPair_ok (h.at_ p hp)⟩
theorem firstBad_none {f : PyData → Bool} : ∀ {i : Nat} {ds : List PyData}, (∀ d ∈ ds, f d = true) → firstBad f i ds = none
  | _, [], _ => rfl
  | i, d :: ds, h => by
    show (if f d then firstBad f (i + 1) ds else some i) = none
    rw [if_pos (h d List.mem_cons_self)]
    exact firstBad_none fun e he => h e (List.mem_cons_of_mem _ he)
theorem firstBad_all {f : PyData → Bool} : ∀ {i : Nat} {ds : List PyData}, firstBad f i ds = none → ∀ d ∈ ds, f d = true
  | _, [], _, _, h => nomatch h
  | i, d :: ds, e, x, h => by
    have e' : (if f d then firstBad f (i + 1) ds else some i) = none := e
    by_cases c : f d = true
    · rw [if_pos c] at e'
      rcases List.mem_cons.mp h with rfl | h
      · exact c
      · exact firstBad_all e' x h
    · rw [if_neg c] at e'
      cases e'
theorem badW_ok {m : Int} {R : Rules} (h : OkWorks m R) : badW (.int m) (rulesD R) = none := by
  have c : ¬ within (.int m) 1 6 = false := by simp [within, intOf, h.m1, h.m6]
  have h1 := h.r1
  have h6 := h.r6
  unfold badW
  rw [if_neg c]
  simp only [rulesD, List.length_map]
  rw [if_neg (by omega), firstBad_none]
  · rfl
  intro d hd
  obtain ⟨ps, hp, rfl⟩ := List.mem_map.mp hd
  exact isRule_ok (h.at_ ps hp)
theorem isPair_inv' {m k : Int} {d : PyData} (h : isPair m k d = true) : ∃ p, d = pairD p := by
  obtain ⟨i, j, rfl, _⟩ := isPair_inv h
  exact ⟨(i, j), rfl⟩
theorem all_map {f : PyData → Bool} {α : Type} {g : α → PyData} (h : ∀ d, f d = true → ∃ a, d = g a) : ∀ ds : List PyData, (∀ d ∈ ds, f d = true) → ∃ as : List α, ds = as.map g
  | [], _ => ⟨[], rfl⟩
  | d :: ds, q => by
    obtain ⟨a, rfl⟩ := h d (q d List.mem_cons_self)
    obtain ⟨as, rfl⟩ := all_map h ds fun e he => q e (List.mem_cons_of_mem _ he)
    exact ⟨a :: as, rfl⟩
theorem isRule_inv {m k : Int} {d : PyData} (h : isRule m k d = true) : ∃ ps, d = ruleD ps := by
  cases d with
  | tuple ds =>
    simp only [isRule, Bool.and_eq_true, List.all_eq_true] at h
    obtain ⟨ps, rfl⟩ := all_map (fun d => isPair_inv') ds h.2
    exact ⟨ps, rfl⟩
  | bool b => cases h
  | int b => cases h
  | none => cases h
  | str x => cases h
  | list x => cases h
  | dict x => cases h
theorem badW_inv {dm dr : PyData} (h : badW dm dr = none) : dm = .int (num dm) ∧ ∃ R, dr = rulesD R := by
  unfold badW at h
  by_cases c : within dm 1 6 = false
  · rw [if_pos c] at h
    cases h
  rw [if_neg c] at h
  have c' : within dm 1 6 = true := by simpa using c
  refine ⟨(within_num c').1, ?_⟩
  cases dr with
  | tuple ds =>
    simp only at h
    by_cases c2 : ds.length = 0 ∨ 6 < ds.length
    · rw [if_pos c2] at h
      cases h
    rw [if_neg c2, Option.map_eq_none_iff] at h
    obtain ⟨R, rfl⟩ := all_map (fun d => isRule_inv) ds (firstBad_all h)
    exact ⟨R, rfl⟩
  | bool b => cases h
  | int b => cases h
  | none => cases h
  | str x => cases h
  | list x => cases h
  | dict x => cases h
/-- what is told of bad works is a word or a number -/
theorem badW_flat {dm dr : PyData} {e : V} (h : badW dm dr = some e) : ∃ d : PyData, (∀ N H, Rp N H e d) ∧ d.depth = 0 ∧ d.canLay0 = true := by
  unfold badW at h
  by_cases c : within dm 1 6 = false
  · rw [if_pos c] at h
    cases h
    exact ⟨.str "many", fun _ _ => .str _, rfl, by decide +kernel⟩
  rw [if_neg c] at h
  have neg : some (V.int (-1)) = some e → ∃ d : PyData, (∀ N H, Rp N H e d) ∧ d.depth = 0 ∧ d.canLay0 = true := fun z => by
    cases z
    exact ⟨_, fun _ _ => .int _, rfl, rfl⟩
  cases dr with
  | tuple ds =>
    simp only at h
    by_cases c2 : ds.length = 0 ∨ 6 < ds.length
    · rw [if_pos c2] at h
      exact neg h
    rw [if_neg c2] at h
    obtain ⟨i, _, rfl⟩ := Option.map_eq_some_iff.mp h
    exact ⟨_, fun _ _ => .int _, rfl, rfl⟩
  | bool b => exact neg h
  | int b => exact neg h
  | none => exact neg h
  | str x => exact neg h
  | list x => exact neg h
  | dict x => exact neg h
end KQ
set_option Elab.async false
set_option maxRecDepth 100000
set_option maxHeartbeats 4000000
namespace KQ
open PySem PySem.Spec PyProof.Rows L2
/-! ### tasks counted by their trees -/
def kin (R : Rules) (k : Int) : List (Int × Int) := R.getD k.toNat []
/-- done at d of the tree of k's task with fuel f, given to h -/
def lc (m : Int) (R : Rules) : Nat → Int → Int → Int → Int
  | 0, _, h, d => if d = h then 1 else 0
  | f + 1, k, h, d => (if d = h then 1 else 0) + ((kin R k).map fun p => lc m R f p.2 ((h + p.1).fmod m) d).sum
/-- a row of numbers, one a house -/
def fl (m : Int) (g : Int → Int) : List V := (List.range m.toNat).map fun (d : Nat) => .int (g (d : Int))
theorem fl_len {m : Int} {g : Int → Int} : (fl m g).length = m.toNat := by simp [fl]
theorem fl_get {m : Int} {g : Int → Int} {i : Nat} (h : i < m.toNat) : (fl m g)[i]? = some (.int (g i)) := by
  unfold fl
  rw [List.getElem?_map, List.getElem?_range h] <;> rfl
theorem fl_at {m : Int} {g : Int → Int} {i : Int} (h0 : 0 ≤ i) (h1 : i < m) : atI (fl m g) i = some (.int (g i)) := by
  have q : atI (fl m g) ((i.toNat : Nat) : Int) = some (.int (g ((i.toNat : Nat) : Int))) := atI_nat (fl_get (by omega))
  rw [show ((i.toNat : Nat) : Int) = i by omega] at q
  exact q
theorem fl_set {m : Int} {g : Int → Int} {i : Int} {x : Int} (h0 : 0 ≤ i) : (fl m g).set i.toNat (.int x) = fl m fun d => if d = i then x else g d := by
  apply List.ext_getElem?
  intro j
  rw [List.getElem?_set]
  by_cases hj : j < m.toNat
  · rw [fl_get hj, fl_get hj, fl_len]
    by_cases e : i.toNat = j
    · rw [if_pos e, if_pos (by omega), if_pos (by omega)]
    · rw [if_neg e, if_neg (by omega)]
  · have n1 : ∀ g, (fl m g)[j]? = none := fun g => List.getElem?_eq_none (by rw [fl_len]; omega)
    rw [n1, n1, fl_len]
    split <;> first | rfl | (split <;> first | omega | rfl)
theorem fl_congr {m : Int} {g g' : Int → Int} (h : ∀ d, 0 ≤ d → d < m → g d = g' d) : fl m g = fl m g' := by
  unfold fl
  apply List.map_congr_left
  intro d hd
  rw [List.mem_range] at hd
  rw [h d (by omega) (by omega)]
theorem fl_zero {m : Int} : (List.replicate m.toNat [V.int 0]).flatten = fl m fun _ => 0 := by
  unfold fl
  induction m.toNat with
  | zero => rfl
  | succ n ih => rw [List.replicate_succ, List.flatten_cons, ih, List.range_succ_eq_map, List.map_cons, List.map_map] <;> rfl
theorem ixN_ok {n : Nat} {i : Int} (h0 : 0 ≤ i) (h1 : i < n) : ixN n i = some i.toNat := by
  unfold ixN
  rw [if_pos h0, if_pos h1]
theorem nodup_le {α : Type} [DecidableEq α] : ∀ {l l' : List α}, l.Nodup → (∀ x ∈ l, x ∈ l') → l.length ≤ l'.length
  | [], _, _, _ => Nat.zero_le _
  | x :: xs, l', nd, h => by
    rw [List.nodup_cons] at nd
    have hx := h x List.mem_cons_self
    have q := nodup_le (l' := l'.erase x) nd.2 fun y hy => (List.mem_erase_of_ne fun (z : y = x) => nd.1 (z ▸ hy)).mpr (h y (List.mem_cons_of_mem _ hy))
    rw [List.length_erase_of_mem hx] at q
    have := List.length_pos_of_mem hx
    rw [List.length_cons]
    omega
def keyOf (h k f : Int) : List Key := [.inl h, .inl k, .inl f]
def keysAll : List (List Key) := (List.range 6).flatMap fun h => (List.range 6).flatMap fun k => (List.range 13).map fun f => keyOf (h : Nat) (k : Nat) (f : Nat)
theorem keysAll_len : keysAll.length = 468 := by decide +kernel
theorem keyOf_in {h k f : Int} (h0 : 0 ≤ h) (h1 : h < 6) (k0 : 0 ≤ k) (k1 : k < 6) (f0 : 0 ≤ f) (f1 : f < 13) : keyOf h k f ∈ keysAll := by
  unfold keysAll
  rw [List.mem_flatMap]
  refine ⟨h.toNat, List.mem_range.mpr (by omega), List.mem_flatMap.mpr ⟨k.toNat, List.mem_range.mpr (by omega), List.mem_map.mpr ⟨f.toNat, List.mem_range.mpr (by omega), ?_⟩⟩⟩
  rw [Int.toNat_of_nonneg h0, Int.toNat_of_nonneg k0, Int.toNat_of_nonneg f0]
/-- what was counted before -/
structure Kept (m : Int) (R : Rules) (H : Hp) (kp : Addr) (kvs : List (List Key × V)) : Prop where
  at_ : H kp = some (.dT kvs)
  nd : (kvs.map (·.1)).Nodup
  ok : ∀ e ∈ kvs, ∃ (h k : Int) (f : Nat) (a : Addr), e = (keyOf h k f, .ref a) ∧ (0 ≤ h ∧ h < m) ∧ (0 ≤ k ∧ k < R.length) ∧ f ≤ 12 ∧ H a = some (.tup (fl m (lc m R f k h)))
abbrev Nk (kp : Addr) : Addr → Prop := fun a => a = kp
theorem Kept.len {m : Int} {R : Rules} {H : Hp} {kp : Addr} {kvs : List (List Key × V)} (K : Kept m R H kp kvs) (hm : m ≤ 6) (hR : R.length ≤ 6) : kvs.length ≤ 468 := by
  rw [← keysAll_len, ← List.length_map (f := (·.1))]
  refine nodup_le K.nd fun x hx => ?_
  obtain ⟨e, he, rfl⟩ := List.mem_map.mp hx
  obtain ⟨h, k, f, a, rfl, hh, hk, hf, _⟩ := K.ok e he
  exact keyOf_in hh.1 (by omega) hk.1 (by omega) (by omega) (by omega)
theorem Kept.kp {m : Int} {R : Rules} {H H' : Hp} {kp : Addr} {kvs : List (List Key × V)} (K : Kept m R H kp kvs) (k : Same H H') : Kept m R H' kp kvs :=
  ⟨k _ _ K.at_, K.nd, fun e he => let ⟨h, x, f, a, q1, q2, q3, q4, q5⟩ := K.ok e he; ⟨h, x, f, a, q1, q2, q3, q4, k _ _ q5⟩⟩
theorem Kept.but {m : Int} {R : Rules} {H H' : Hp} {kp Fd : Addr} {kvs : List (List Key × V)} {xs : List V} (K : Kept m R H kp kvs) (e : H Fd = some (.lst xs)) (k : ∀ a, a ≠ Fd → H' a = H a) : Kept m R H' kp kvs :=
  ⟨(k _ (ne_of K.at_ e (by intro z; cases z))).trans K.at_, K.nd, fun x he => let ⟨h, y, f, a, q1, q2, q3, q4, q5⟩ := K.ok x he; ⟨h, y, f, a, q1, q2, q3, q4, (k _ (ne_of q5 e (by intro z; cases z))).trans q5⟩⟩
/-- .. and what is found there -/
theorem Kept.get {m : Int} {R : Rules} {H : Hp} {kp : Addr} {kvs : List (List Key × V)} (K : Kept m R H kp kvs) {h k : Int} {f : Nat} {v : V} (e : valV kvs (keyOf h k f) = some v) : ∃ a, v = .ref a ∧ H a = some (.tup (fl m (lc m R f k h))) := by
  unfold valV at e
  obtain ⟨x, hx, rfl⟩ := Option.map_eq_some_iff.mp e
  have hk := List.find?_some hx
  obtain ⟨h', k', f', a, rfl, _, _, _, ea⟩ := K.ok x (List.mem_of_find?_eq_some hx)
  have hk' : keyOf h' k' f' = keyOf h k f := of_decide_eq_true hk
  simp only [keyOf, List.cons.injEq, Sum.inl.injEq, and_true] at hk'
  obtain ⟨rfl, rfl, e3⟩ := hk'
  have e4 : f' = f := by omega
  subst e4
  exact ⟨a, rfl, ea⟩
theorem Kept.put {m : Int} {R : Rules} {H : Hp} {kp : Addr} {kvs : List (List Key × V)} (K : Kept m R H kp kvs) {h k : Int} {f : Nat} {a : Addr} (hh : 0 ≤ h ∧ h < m) (hk : 0 ≤ k ∧ k < R.length) (hf : f ≤ 12) (ea : H a = some (.tup (fl m (lc m R f k h)))) :
    Kept m R (upd H kp (.dT (putK kvs (keyOf h k f) (.ref a)))) kp (putK kvs (keyOf h k f) (.ref a)) := by
  have nk : ∀ {b xs}, H b = some (.tup xs) → b ≠ kp := fun e => ne_of e K.at_ (by intro z; cases z)
  have old : ∀ e ∈ kvs, ∃ (h' k' : Int) (f' : Nat) (a' : Addr), e = (keyOf h' k' f', .ref a') ∧ (0 ≤ h' ∧ h' < m) ∧ (0 ≤ k' ∧ k' < R.length) ∧ f' ≤ 12 ∧ upd H kp (.dT (putK kvs (keyOf h k f) (.ref a))) a' = some (.tup (fl m (lc m R f' k' h'))) := fun e he => by
    obtain ⟨h', k', f', a', q1, q2, q3, q4, q5⟩ := K.ok e he
    exact ⟨h', k', f', a', q1, q2, q3, q4, by rw [upd_ne (nk q5)]; exact q5⟩
  have new : ∃ (h' k' : Int) (f' : Nat) (a' : Addr), (keyOf h k f, V.ref a) = (keyOf h' k' f', .ref a') ∧ (0 ≤ h' ∧ h' < m) ∧ (0 ≤ k' ∧ k' < R.length) ∧ f' ≤ 12 ∧ upd H kp (.dT (putK kvs (keyOf h k f) (.ref a))) a' = some (.tup (fl m (lc m R f' k' h'))) :=
    ⟨h, k, f, a, rfl, hh, hk, hf, by rw [upd_ne (nk ea)]; exact ea⟩
  refine ⟨upd_same, ?_, ?_⟩
  · unfold putK
    split
    · rw [List.map_map]
      have : (fun x : List Key × V => x.1) ∘ (fun kv : List Key × V => if kv.1 = keyOf h k f then (kv.1, V.ref a) else kv) = fun x => x.1 := by
        funext x
        show (if x.1 = keyOf h k f then (x.1, V.ref a) else x).1 = x.1
        split <;> rfl
      rw [this]
      exact K.nd
    · rename_i c
      rw [List.map_append, List.nodup_append]
      refine ⟨K.nd, by simp, fun x hx y hy z => c ?_⟩
      rw [List.any_eq_true]
      obtain ⟨e, he, rfl⟩ := List.mem_map.mp hx
      have hy' : y = keyOf h k f := by simpa using hy
      exact ⟨e, he, decide_eq_true (z.trans hy')⟩
  · intro e he
    unfold putK at he
    split at he
    · obtain ⟨x, hx, rfl⟩ := List.mem_map.mp he
      split
      · rename_i q
        rw [q]
        exact new
      · exact old x hx
    · rcases List.mem_append.mp he with z | z
      · exact old e z
      · cases List.mem_singleton.mp z
        exact new
def spCounts (n : Nat) : Sp := fun vs H Q _ => ∃ (kp r t : Addr) (m h k : Int) (f : Nat) (R : Rules) (kvs : List (List Key × V)), vs = [.int m, .ref r, .ref kp, .int h, .ref t] ∧ OkWorks m R ∧ Rp (Nk kp) H (.ref r) (rulesD R) ∧ Kept m R H kp kvs ∧
  (0 ≤ h ∧ h < m) ∧ (0 ≤ k ∧ k < R.length) ∧ f ≤ n ∧ n ≤ 12 ∧ H t = some (.tup [.int k, .int (f : Int)]) ∧
  ∀ (a : Addr) (kvs' : List (List Key × V)) (H' : Hp), Kept m R H' kp kvs' → Kp (Nk kp) H H' → H' a = some (.tup (fl m (lc m R f k h))) → Q (.ref a) H'
section
variable {P : Program} {w : World} {K : PySem.W.Frag} {mg : Str → Option Value} {base : Heap}
end
end KQ
set_option Elab.async false
set_option maxRecDepth 100000
set_option maxHeartbeats 4000000
namespace KQ
open PySem PySem.Spec PyProof.Rows L2
section
variable {P : Program} {w : World} {K : PySem.W.Frag} {mg : Str → Option Value} {base : Heap}
end
/-! ### all tasks of a tree -/
def tot (R : Rules) : Nat → Int → Int
  | 0, _ => 1
  | f + 1, k => 1 + ((kin R k).map fun p => tot R f p.2).sum
def lg (R : Rules) : Nat → Int → Int
  | 0, _ => 1
  | f + 1, k => 1 + ((kin R k).map fun p => lg R f p.2).foldl max 0
theorem fl_snoc {i : Nat} {g : Int → Int} : fl (i : Int) g ++ [.int (g (i : Int))] = fl ((i + 1 : Nat) : Int) g := by
  unfold fl
  rw [Int.toNat_natCast, Int.toNat_natCast, List.range_succ, List.map_append] <;> rfl
theorem at_last {xs : List V} {i : Nat} (h : xs.length = i + 1) : atI xs (-1) = xs[i]? := by
  unfold atI ixN
  rw [if_neg (by decide), if_pos (by omega)]
  show xs[((-1 : Int) + xs.length).toNat]? = _
  rw [show ((-1 : Int) + xs.length).toNat = i by omega]
def spRows (C : Addr) : Sp := fun vs H Q _ => ∃ (N : Addr → Prop) (a r : Addr) (vm : V) (m : Int) (R : Rules), vs = [.ref a] ∧ WorksAt C H a vm (.ref r) ∧ Rp N H (.ref r) (rulesD R) ∧ OkWorks m R ∧
  ∀ (L : Addr) (rows : List Addr) (H' : Hp), Same H H' → H' L = some (.lst (rows.map V.ref)) → rows.length = 13 → (∀ (f : Nat) (x : Addr), rows[f]? = some x → H' x = some (.lst (fl R.length (tot R f)))) → Q (.ref L) H'
theorem kin_get {R : Rules} {i : Nat} {ps : List (Int × Int)} (h : R[i]? = some ps) : kin R (i : Int) = ps := by
  unfold kin
  rw [Int.toNat_natCast, List.getD_eq_getElem?_getD, h] <;> rfl
section
variable {P : Program} {w : World} {K : PySem.W.Frag} {mg : Str → Option Value} {base : Heap} {t4 : Tok} {C : Addr}
set_option maxHeartbeats 16000000 in
theorem d_many_by_fuel (B : Bi mg) (T : WorksC K mg C) (F : FunAt K mg "many_by_fuel" s_many_by_fuel) (g_MOST_FUEL : mg "MOST_FUEL" = some (.int 12 t4)) : Has P w K mg base 1 "many_by_fuel" ["works"] (spRows C) := by
  refine mk_has F sc_many_by_fuel (fun _ _ _ _ _ _ us hl => match us, hl with | [_], _ => rfl) (fun vs H Q E h => ?_) fun f cdv A outer s H vs Q E hr h => ?_
  · obtain ⟨N, a, r, vm, m, R, rfl, _⟩ := h
    rfl
  obtain ⟨N, a, r, vm, m, R, rfl, ⟨dx, ha⟩, rr, ok, k⟩ := h
  refine ⟨_, (pss_cons (ps_set (i := 1) sc_many_by_fuel.nd rfl (Or.inl rfl) (pe_lst (pa_cons (pe_lc (own := [("_", 2)]) (g := gName 2) (tt := tYes) (te := (tC (.int 1))) rfl sc_many_by_fuel.nd (pi_tup (pe_fld (pv 0) rfl)) (blkOk_by (own := [("_", 2)]) (N := ["works", "rows", "_", "below", "pair", "rule"]) (sc := defScope s_many_by_fuel) (by decide +kernel)) (fun _ _ _ _ _ => (pg_name (i := 2) sc_many_by_fuel.nd rfl (Or.inl rfl))) (fun _ _ _ _ _ => pts_nil) (fun _ _ _ _ _ => pe_int)) pa_nil)))
    (pss_cons (ps_for PassesOwn.never rfl (pi_range1 rfl B.range (pa_cons (pe_glob (v := .int 12) rfl g_MOST_FUEL ⟨_, rfl⟩) pa_nil)) (pg_name (i := 2) sc_many_by_fuel.nd rfl (Or.inl rfl))
    (pss_cons (ps_set (i := 3) sc_many_by_fuel.nd rfl (Or.inr rfl) (pe_ix ix_list (pv 1) (pe_un un_neg pe_int) (fun _ _ => rfl)))
    (pss_one (ps_expr (pe_bm PySem.F.plainAttrs_list PySem.F.slot_list_append PySem.F.type_list_append mt_append (pv 1) (pa_cons (pe_lc (own := [("rule", 5)]) (g := gName 5) (tt := tYes) (te := (tOp (rI0 fun i j => .int (i + j)) (tC (.int 1)) (tCB (rSum K) (tCons (tLc (iTup K (tVar 5)) (gName 4) tYes (tOp (rIxL K) (tVar 3) (tOp (rIxT K) (tVar 4) (tC (.int 1)))) [4]) tNil)))) rfl sc_many_by_fuel.nd (pi_tup (pe_fld (pv 0) rfl)) (blkOk_by (own := [("rule", 5)]) (N := ["works", "rows", "_", "below", "pair", "rule"]) (sc := defScope s_many_by_fuel) (by decide +kernel)) (fun _ _ _ _ _ => (pg_name (i := 5) sc_many_by_fuel.nd rfl (Or.inl rfl))) (fun _ _ _ _ _ => pts_nil) (fun _ _ _ _ _ => (pe_op op_add pe_int (pe_callB (cr_sum rfl) rfl B.sum (by decide +kernel) (pa_cons (pe_lc (own := [("pair", 4)]) (g := gName 4) (tt := tYes) (te := (tOp (rIxL K) (tVar 3) (tOp (rIxT K) (tVar 4) (tC (.int 1))))) rfl sc_many_by_fuel.nd (pi_tup (pv 5)) (blkOk_by (own := [("pair", 4)]) (N := ["works", "rows", "_", "below", "pair", "rule"]) (by rfl)) (fun _ _ _ _ _ => (pg_name (i := 4) sc_many_by_fuel.nd rfl (Or.inl rfl))) (fun _ _ _ _ _ => pts_nil) (fun _ _ _ _ _ => (pe_ix ix_list (pv 3) (pe_ix ix_tup (pv 4) pe_int (fun _ _ => rfl)) (fun _ _ => rfl)))) pa_nil))))) pa_nil))))))
    (pss_one (ps_ret (pv 1))))), ?_⟩
  cases rr with
  | @tup _ xs _ er nr ra =>
  have hl : xs.length = R.length := ra.length.trans (List.length_map _)
  have o6 := ok.r6
  have o1 := ok.r1
  refine ⟨_, rfl, a, C, dx, _, _, rfl, ha, T.cl, T.n2, wF_r, r, rfl, ⟨xs, SqT.of er⟩, fun D nD => ?_⟩
  refine lc_tup (K := K) (a := r) (xs := xs) (fun i H' => Same H H' ∧ H' D = some (.lst (fl i fun _ => 1))) ⟨same_new nD, upd_same⟩ (fun i H' _ z => SqT.of (z.1 _ _ er)) (fun i y H' hy z => ?_) fun H' z => ?_
  · refine ⟨rfl, ?_⟩
    refine tYes_ok ?_
    rw [if_pos rfl]
    refine ⟨_, z.2, ?_, fun b o q => by rw [upd_ne (ne_of_none q nD)]; exact z.1 b o q, ?_⟩
    · rw [fl_len]
      have := (List.getElem?_eq_some_iff.mp hy).1
      exact Nat.lt_of_lt_of_le (show (i : Int).toNat < 7 by omega) (by decide)
    · rw [upd_same, fl_snoc (g := fun _ => 1)]
  obtain ⟨s1, eD⟩ := z
  rw [hl] at eD
  refine ⟨(by show 1 ≤ sizeLine; decide), fun L nL => ?_⟩
  have hDL : D ≠ L := ne_of_none eD nL
  have nL0 : H L = none := s1.free nL
  have sL := same_new (o := .lst [.ref D]) nL
  refine ⟨12, rfl, by decide, by decide, for_range (lo := 0) (n := 12) (fun i σ H' => ∃ v2 v3 v4 v5 rows, σ = [some (.ref a), some (.ref L), v2, v3, v4, v5] ∧ Same H H' ∧ H' L = some (.lst (rows.map V.ref)) ∧ rows.length = i + 1 ∧ ∀ (f : Nat) (x : Addr), rows[f]? = some x → x ≠ L ∧ H' x = some (.lst (fl R.length (tot R f))))
    ⟨_, _, _, _, [D], rfl, s1.trans sL, upd_same, rfl, fun f x hx => ?_⟩ ?_ ?_⟩
  · cases f with
    | zero =>
      simp at hx
      subst hx
      refine ⟨hDL, (sL _ _ eD).trans ?_⟩
      exact congrArg (fun x => some (HO.lst x)) (fl_congr fun d _ _ => rfl)
    | succ f => simp at hx
  · rintro i σ H1 hi ⟨v2, v3, v4, v5, rows, rfl, s1, eL, lr, hrow⟩
    obtain ⟨x, hx⟩ : ∃ x, rows[i]? = some x := ⟨_, List.getElem?_eq_getElem (by omega)⟩
    obtain ⟨hxL, ex⟩ := hrow i x hx
    refine ⟨_, rfl, _, rfl, L, _, _, .ref x, rfl, rfl, SqL.of eL, (by rw [at_last (i := i) (by rw [List.length_map, lr]), List.getElem?_map, hx]; rfl), ?_⟩
    refine ⟨_, rfl, .inl ⟨rfl, _, SqL.of eL⟩, _, rfl, a, C, dx, _, _, rfl, s1 _ _ ha, T.cl, T.n2, wF_r, r, rfl, ⟨xs, SqT.of (s1 _ _ er)⟩, fun E nE => ?_⟩
    refine lc_tup (K := K) (a := r) (xs := xs) (fun j H2 => Same H1 H2 ∧ H2 E = some (.lst (fl (j : Int) (tot R (i + 1))))) ⟨same_new nE, upd_same⟩ (fun j H2 _ z => SqT.of (z.1 _ _ (s1 _ _ er))) (fun j y H2 hy z => ?_) fun H2 z => ?_
    · obtain ⟨s2, eE⟩ := z
      have hjx := (List.getElem?_eq_some_iff.mp hy).1
      obtain ⟨d, gd, rd⟩ := ra.get hy
      rw [List.getElem?_map] at gd
      obtain ⟨ps, gp, rfl⟩ := Option.map_eq_some_iff.mp gd
      have hps := ok.at_ ps (List.mem_of_getElem? gp)
      have s02 := s1.trans s2
      cases rd with
      | @tup q ys _ eq nq ry =>
      have hly : ys.length = ps.length := ry.length.trans (List.length_map _)
      refine ⟨rfl, ?_⟩
      refine tYes_ok ?_
      rw [if_pos rfl]
      try unfold tC
      refine ⟨_, rfl, q, rfl, ⟨ys, SqT.of (s02 _ _ eq)⟩, fun G nG => ?_⟩
      refine lc_tup (K := K) (a := q) (xs := ys) (fun l H3 => Same H2 H3 ∧ H3 G = some (.lst ((ps.take l).map fun p => .int (tot R i p.2)))) ⟨same_new nG, upd_same⟩ (fun l H3 _ z => SqT.of (z.1 _ _ (s02 _ _ eq))) (fun l y' H3 hy' z => ?_) fun H3 z => ?_
      · obtain ⟨s3, eG⟩ := z
        have hlx := (List.getElem?_eq_some_iff.mp hy').1
        obtain ⟨d, gd, rd⟩ := ry.get hy'
        rw [List.getElem?_map] at gd
        obtain ⟨p, gp', rfl⟩ := Option.map_eq_some_iff.mp gd
        have hp := hps.at_ p (List.mem_of_getElem? gp')
        have s03 := s02.trans s3
        cases rd with
        | @tup b zs _ eb nb rz =>
        cases rz with
        | cons r1 rz =>
        cases rz with
        | cons r2 rz =>
        cases rz
        cases r1
        cases r2
        refine ⟨rfl, ?_⟩
        refine tYes_ok ?_
        rw [if_pos rfl]
        refine ⟨_, rfl, _, rfl, b, _, _, _, rfl, rfl, SqT.of (s03 _ _ eb), rfl, x, _, _, _, rfl, rfl, SqL.of (s3 _ _ (s2 _ _ ex)), fl_at hp.2.1 hp.2.2, _, eG, ?_, fun b o q => by rw [upd_ne (ne_of_none q nG)]; exact s3 b o q, ?_⟩
        · rw [List.length_map, List.length_take]
          have := hps.len
          exact Nat.lt_of_le_of_lt (show min l ps.length ≤ 4 by omega) (by decide)
        · rw [upd_same, map_take gp']
      · obtain ⟨s3, eG⟩ := z
        rw [hly, List.take_length] at eG
        refine ⟨G, ps.map fun p => tot R i p.2, rfl, SqL.of ?_, _, _, rfl, rfl, _, s3 _ _ eE, ?_, fun b o q => ?_, ?_⟩
        · rw [eG, List.map_map]
          rfl
        · rw [fl_len]
          exact Nat.lt_of_lt_of_le (show (j : Int).toNat < 7 by omega) (by decide)
        · rw [upd_ne (ne_of_none q nE)]
          exact s3 b o (s2 b o q)
        · rw [upd_same, ← fl_snoc]
          refine congrArg (fun x => some (HO.lst (fl (j : Int) (tot R (i + 1)) ++ [.int x]))) ?_
          show 1 + _ = 1 + _
          rw [kin_get gp]
    · obtain ⟨s2, eE⟩ := z
      have eL2 := s2 _ _ eL
      have hEL : E ≠ L := (ne_of_none eL nE).symm
      refine ⟨L, _, _, rfl, rfl, eL2, ?_, ?_⟩
      · rw [List.length_map, lr]
        exact Nat.lt_of_lt_of_le (show i + 1 < 14 by omega) (by decide)
      refine ⟨_, _, _, _, rows ++ [E], rfl, fun b o q => ?_, ?_, by rw [List.length_append, lr] <;> rfl, fun f x' hx' => ?_⟩
      · have hb : b ≠ L := fun z => by
          rw [z, nL0] at q
          cases q
        rw [upd_ne hb]
        exact s2 b o (s1 b o q)
      · rw [upd_same, List.map_append]
        rfl
      · by_cases hf : f < rows.length
        · rw [List.getElem?_append_left hf] at hx'
          obtain ⟨h1, h2⟩ := hrow f x' hx'
          exact ⟨h1, by rw [upd_ne h1]; exact s2 _ _ h2⟩
        · rw [List.getElem?_append_right (by omega)] at hx'
          have e0 : f - rows.length = 0 := by
            rcases Nat.eq_zero_or_pos (f - rows.length) with z | z
            · exact z
            · rw [List.getElem?_eq_none (by show 1 ≤ _; omega)] at hx'
              cases hx'
          rw [e0] at hx'
          cases hx'
          have ef : f = i + 1 := by omega
          subst ef
          refine ⟨hEL, ?_⟩
          rw [upd_ne hEL, eE, hl]
  · rintro σ H1 ⟨v2, v3, v4, v5, rows, rfl, s1, eL, lr, hrow⟩
    exact ⟨_, rfl, k L rows H1 s1 eL lr fun f x hx => (hrow f x hx).2⟩
end
end KQ
set_option Elab.async false
set_option maxRecDepth 100000
set_option maxHeartbeats 4000000
namespace KQ
open PySem PySem.Spec PyProof.Rows L2
/-- enumerate of a list, turn by turn -/
theorem for_el {K : PySem.W.Frag} {a : Addr} {xs : List V} {g : TG} {tb : TS} {D : Ends} {σ : L2.St} {H : Hp} (Pv : Nat → L2.St → Hp → Prop) (h0 : Pv 0 σ H) (hq : ∀ i σ H, Pv i σ H → SqL K H a xs)
    (hs : ∀ (i : Nat) (x : V) (T : Addr) (σ : L2.St) (H : Hp), xs[i]? = some x → Pv i σ H → H T = none → g (.ref T) σ (upd H T (.tup [.int (i : Nat), x])) fun σ2 H2 => tb { D with nx := Pv (i + 1), ct := Pv (i + 1), bk := D.nx } σ2 H2) (hd : ∀ σ H, Pv xs.length σ H → D.nx σ H) :
    ∃ W : Nat → Nat → L2.St → Hp → Prop, (∃ m, W 0 m σ H) ∧ ∀ i m σ H, W i m σ H →
      ((Ite K a).stop i H ∧ D.nx σ H) ∨ ((Ite K a).go i H ∧ ∃ N : L2.St → Hp → Prop, (∀ σ' H', N σ' H' → ∃ m', m' < m ∧ W (i + 1) m' σ' H') ∧ ∀ x H', (Ite K a).yld i H x H' → g x σ H' fun σ2 H2 => tb { D with nx := N, ct := N, bk := D.nx } σ2 H2) := by
  refine ⟨fun i m σ H => m = xs.length - i ∧ i ≤ xs.length ∧ Pv i σ H, ⟨_, rfl, Nat.zero_le _, h0⟩, ?_⟩
  rintro i m σ H ⟨rfl, hi, pv⟩
  have q := hq i σ H pv
  rcases Nat.lt_or_eq_of_le hi with hlt | he
  · refine .inr ⟨⟨xs, xs[i], q, by simp [hlt]⟩, Pv (i + 1), fun σ' H' p' => ⟨_, by omega, rfl, hlt, p'⟩, ?_⟩
    rintro x H' ⟨T, y, rfl, nT, rfl, hy⟩
    exact hs i y T σ H (hy xs q) pv nT
  · subst he
    exact .inl ⟨⟨xs, q, Nat.le_refl _⟩, hd σ H pv⟩
/-! ### counts by how far -/
def cn (m : Int) (R : Rules) : Nat → Int → Int → Int
  | 0, _, d => if d = 0 then 1 else 0
  | f + 1, k, d => (if d = 0 then 1 else 0) + ((kin R k).map fun p => cn m R f p.2 ((d - p.1).fmod m)).sum
theorem fm {m : Int} (h : 0 < m) (a : Int) : a.fmod m = a % m := Int.fmod_eq_emod_of_nonneg a (Int.le_of_lt h)
theorem shift {m s j d : Int} (hm : 0 < m) (j0 : 0 ≤ j) (j1 : j < m) (d0 : 0 ≤ d) (d1 : d < m) : d = (s + j).fmod m ↔ (d - s).fmod m = j := by
  rw [fm hm, fm hm]
  constructor
  · rintro rfl
    rw [Int.sub_emod, Int.emod_emod, ← Int.sub_emod, show s + j - s = j by omega]
    exact Int.emod_eq_of_lt j0 j1
  · intro e
    rw [← e, Int.add_emod, Int.emod_emod, ← Int.add_emod, show s + (d - s) = d by omega]
    exact (Int.emod_eq_of_lt d0 d1).symm
theorem lc_cn {m : Int} {R : Rules} (hm : 0 < m) : ∀ (f : Nat) (k h d : Int), 0 ≤ h → h < m → 0 ≤ d → d < m → lc m R f k h d = cn m R f k ((d - h).fmod m) := by
  have z : ∀ h d : Int, 0 ≤ h → h < m → 0 ≤ d → d < m → (d = h ↔ (d - h).fmod m = 0) := fun h d h0 h1 d0 d1 => by
    rw [← shift hm (Int.le_refl 0) hm d0 d1, Int.add_zero, fm hm, Int.emod_eq_of_lt h0 h1]
  intro f
  induction f with
  | zero =>
    intro k h d h0 h1 d0 d1
    show (if d = h then (1 : Int) else 0) = if (d - h).fmod m = 0 then 1 else 0
    simp only [z h d h0 h1 d0 d1]
  | succ f ih =>
    intro k h d h0 h1 d0 d1
    show (if d = h then (1 : Int) else 0) + _ = (if (d - h).fmod m = 0 then 1 else 0) + _
    simp only [z h d h0 h1 d0 d1]
    congr 2
    apply List.map_congr_left
    intro p _
    have q := fmod_lt' (a := h + p.1) hm
    rw [ih p.2 _ d q.1 q.2 d0 d1]
    congr 1
    rw [fm hm, fm hm, fm hm, fm hm, Int.sub_emod, Int.emod_emod, ← Int.sub_emod, Int.sub_emod ((d - h) % m), Int.emod_emod, ← Int.sub_emod, show d - (h + p.1) = d - h - p.1 by omega]
/-- rows of counts as spread has laid them -/
def RowsAt (m : Int) (R : Rules) (H : Hp) (b : Addr) (f : Nat) : Prop := ∃ xs : List Addr, H b = some (.lst (xs.map V.ref)) ∧ xs.length = R.length ∧ ∀ (k : Nat) (x : Addr), xs[k]? = some x → H x = some (.lst (fl m (cn m R f k)))
theorem RowsAt.same {m : Int} {R : Rules} {H H' : Hp} {b : Addr} {f : Nat} (r : RowsAt m R H b f) (k : Same H H') : RowsAt m R H' b f :=
  let ⟨xs, e, l, q⟩ := r
  ⟨xs, k _ _ e, l, fun i x h => k _ _ (q i x h)⟩
def spSpread (C : Addr) : Sp := fun vs H Q _ => ∃ (N : Addr → Prop) (a q b : Addr) (m : Int) (vr : V) (ps : List (Int × Int)) (R : Rules) (f : Nat), vs = [.ref a, .ref q, .ref b] ∧ WorksAt C H a (.int m) vr ∧ 1 ≤ m ∧ m ≤ 6 ∧ Rp N H (.ref q) (ruleD ps) ∧ (ps = [] ∨ (RowsAt m R H b f ∧ ∀ p ∈ ps, 0 ≤ p.2 ∧ p.2 < R.length)) ∧
  ∀ (L : Addr) (H' : Hp), H L = none → Same H H' → H' L = some (.lst (fl m fun d => (if d = 0 then 1 else 0) + (ps.map fun p => cn m R f p.2 ((d - p.1).fmod m)).sum)) → Q (.ref L) H'
section
variable {P : Program} {w : World} {K : PySem.W.Frag} {mg : Str → Option Value} {base : Heap} {t4 : Tok} {C : Addr}
end
end KQ
set_option Elab.async false
set_option maxRecDepth 100000
set_option maxHeartbeats 4000000
namespace KQ
open PySem PySem.Spec PyProof.Rows L2
theorem maxf {ns : List Int} {m : Int} (h0 : ∀ y ∈ ns, 0 ≤ y) (hm : m ∈ ns) (h : ∀ y ∈ ns, y ≤ m) : ns.foldl max 0 = m := by
  have g : ∀ (l : List Int) (z : Int), z ≤ l.foldl max z ∧ (∀ y ∈ l, y ≤ l.foldl max z) ∧ (l.foldl max z = z ∨ l.foldl max z ∈ l) := by
    intro l
    induction l with
    | nil => intro z; exact ⟨Int.le_refl _, (fun _ h => nomatch h), Or.inl rfl⟩
    | cons a l ih =>
      intro z
      obtain ⟨i1, i2, i3⟩ := ih (max z a)
      have l1 : z ≤ max z a := Int.le_max_left z a
      have l2 : a ≤ max z a := Int.le_max_right z a
      refine ⟨Int.le_trans l1 i1, fun y hy => ?_, ?_⟩
      · rcases List.mem_cons.mp hy with rfl | hy
        · exact Int.le_trans l2 i1
        · exact i2 y hy
      · rcases i3 with i3 | i3
        · rw [List.foldl_cons, i3]
          by_cases c : z ≤ a
          · exact .inr (by rw [Int.max_eq_right c]; exact List.mem_cons_self)
          · exact .inl (Int.max_eq_left (by omega))
        · exact .inr (List.mem_cons_of_mem _ i3)
  obtain ⟨g1, g2, g3⟩ := g ns 0
  have a1 := g2 m hm
  have a2 : ns.foldl max 0 ≤ m := by
    rcases g3 with e | e
    · rw [e]; exact h0 m hm
    · exact h _ e
  omega
theorem lg_pos {R : Rules} : ∀ (f : Nat) (k : Int), 0 ≤ lg R f k
  | 0, _ => by show (0 : Int) ≤ 1; decide
  | f + 1, k => by
    have g : ∀ (l : List Int) (z : Int), 0 ≤ z → 0 ≤ l.foldl max z := by
      intro l
      induction l with
      | nil => intro z h; exact h
      | cons a l ih => intro z h; exact ih _ (Int.le_trans h (Int.le_max_left z a))
    have := g ((kin R k).map fun p => lg R f p.2) 0 (Int.le_refl 0)
    show 0 ≤ 1 + _
    omega
theorem fl_app {n i : Nat} {g : Int → Int} (h : i < n) : (fl (n : Int) g)[i]? = some (.int (g i)) := fl_get (by omega)
/-- a task of these works -/
def spTaskX (C CT : Addr) (g : Rules → Nat → Int → Int) : Sp := fun vs H Q E => ∃ (N : Addr → Prop) (a r : Addr) (vm v : V) (m : Int) (R : Rules) (dt : PyData), vs = [.ref a, v] ∧ WorksAt C H a vm (.ref r) ∧ Rp N H (.ref r) (rulesD R) ∧ OkWorks m R ∧ Rp N H v dt ∧
  (isPair R.length 13 dt = false → E (.ref CT) none H) ∧ (∀ k f, dt = .tuple [.int k, .int f] → isPair R.length 13 dt = true → ∀ H', Same H H' → Q (.int (g R f.toNat k)) H')
section
variable {P : Program} {w : World} {K : PySem.W.Frag} {mg : Str → Option Value} {base : Heap} {t4 : Tok} {C CH CT : Addr}
theorem d_many_tasks (F : FunAt K mg "many_tasks" s_many_tasks) (D_check_task : HasX P w K mg base 4 "check_task" ["works", "task"] (spCheckTask C CT)) (D_many_by_fuel : Has P w K mg base 1 "many_by_fuel" ["works"] (spRows C)) : HasX P w K mg base 5 "many_tasks" ["works", "task"] (spTaskX C CT tot) := by
  refine mk_hasX F sc_many_tasks (fun _ _ _ _ _ _ us hl => match us, hl with | [_, _], _ => rfl) (fun vs H Q E h => ?_) fun f cdv A outer s H vs Q E hr h => ?_
  · obtain ⟨N, a, r, vm, v, m, R, dt, rfl, _⟩ := h
    rfl
  obtain ⟨N, a, r, vm, v, m, R, dt, rfl, ha, rr, ok, rt, kE, kQ⟩ := h
  refine ⟨_, (pss_cons (ps_expr (pe_hX (takes_of rfl rfl rfl rfl) D_check_task (hr.mono (by decide)) rfl (pa_cons (pv 0) (pa_cons (pv 1) pa_nil))))
    (pss_cons (ps_asg (pv 1) (pg_tup rfl (pgs_cons (pg_name (i := 2) sc_many_tasks.nd rfl (Or.inl rfl)) (pgs_cons (pg_name (i := 3) sc_many_tasks.nd rfl (Or.inl rfl)) pgs_nil))))
    (pss_one (ps_ret (pe_ix ix_list (pe_ix ix_list (pe_h D_many_by_fuel (hr.mono (by decide)) rfl (pa_cons (pv 0) pa_nil)) (pv 3) (fun _ _ => rfl)) (pv 2) (fun _ _ => rfl)))))), ?_⟩
  have rr' := rr
  cases rr' with
  | @tup _ xs _ er nr ra =>
  have hl : xs.length = R.length := ra.length.trans (List.length_map _)
  refine ⟨_, rfl, _, rfl, N, a, r, vm, v, xs, dt, rfl, ha, er, rt, fun e => kE (by rw [← hl]; exact e), fun et => ?_⟩
  rw [hl] at et
  obtain ⟨kk, ff, rfl, k0, k1, f0, f1⟩ := isPair_inv et
  have fin := kQ kk ff rfl et
  cases rt with
  | tup et' nt' rt' =>
  cases rt' with
  | cons rk rt' =>
  cases rt' with
  | cons rf rt' =>
  cases rt'
  cases rk
  cases rf
  refine ⟨_, rfl, _, _, rfl, SqT.of et', rfl, _, _, rfl, _, _, rfl, rfl, ?_⟩
  refine ⟨_, rfl, N, a, r, vm, m, R, rfl, ha, rr, ok, fun L rows H' s1 eL lr hrow => ?_⟩
  obtain ⟨x, hx⟩ : ∃ x, rows[ff.toNat]? = some x := ⟨_, List.getElem?_eq_getElem (by omega)⟩
  have ex := hrow _ _ hx
  have hat : atI (rows.map V.ref) ff = some (.ref x) := by
    have q : atI (rows.map V.ref) ((ff.toNat : Nat) : Int) = some (.ref x) := atI_nat (by rw [List.getElem?_map, hx]; rfl)
    rwa [show ((ff.toNat : Nat) : Int) = ff by omega] at q
  exact ⟨_, rfl, L, _, _, _, rfl, rfl, SqL.of eL, hat, _, rfl, x, _, _, _, rfl, rfl, SqL.of ex, fl_at k0 k1, fin H' s1⟩
end
end KQ
set_option Elab.async false
set_option maxRecDepth 100000
set_option maxHeartbeats 4000000
namespace KQ
open PySem PySem.Spec PyProof.Rows L2
local macro_rules | `(tactic| walk_at "kq hp") => `(tactic| (first | assumption | exact upd_same | (rw [upd_ne (by first | assumption | exact Ne.symm (by assumption))]; first | assumption | exact upd_same | (rw [upd_ne (by first | assumption | exact Ne.symm (by assumption))]; first | assumption | exact upd_same))))
local macro_rules | `(tactic| walk_at "kq do") => `(tactic| (first | decide | omega))
local macro_rules | `(tactic| walk_at "kq cl") => `(tactic| focus (first | rfl | assumption | exact upd_same | exact SqL.of (by walk_at "kq hp") | exact SqT.of (by walk_at "kq hp") | exact Or.inl (SqL.of (by walk_at "kq hp")) | exact Or.inr (SqT.of (by walk_at "kq hp")) | exact Or.inl ⟨rfl, _, SqL.of (by walk_at "kq hp")⟩ | walk_at "kq hp" | decide | exact Nat.le_of_ble_eq_true rfl | omega | (show ∃ xs, SqL _ _ _ xs; exact ⟨_, SqL.of (by walk_at "kq hp")⟩) | (show ∃ xs, SqT _ _ _ xs; exact ⟨_, SqT.of (by walk_at "kq hp")⟩) | exact DGet.k (k := Sum.inl _) (by walk_at "kq hp") | (show V.int _ = kV (Sum.inl _); rfl) | (show ∃ z, V.str _ = V.str z; exact ⟨_, rfl⟩) | exact Or.inl ⟨by walk_at "kq do", by walk_at "kq do"⟩ | exact Or.inr ⟨by walk_at "kq do", by walk_at "kq do"⟩ | exact ⟨by walk_at "kq do", by walk_at "kq do"⟩ | exact ⟨by decide, by decide, by decide⟩ | exact L2.ClsV.ty _ | exact Dt.ty (by assumption) | exact Dt.kint (by assumption) | exact Dt.kbool (by assumption) | exact Dt.ktuple (by assumption) | exact Dt.klist (by assumption) | exact Dt.kstr (by assumption)))
local macro_rules | `(tactic| trivial) => `(tactic| repeat (first | refine sl_go (by walk_at "kq hp") ?_ | (unfold tNoPart; refine sl_go (by walk_at "kq hp") ?_) | refine cat_go (by walk_at "kq hp") (by walk_at "kq hp") ?_ ?_ | (apply And.intro; walk_at "kq cl") | (apply Exists.intro; apply And.intro; walk_at "kq cl") | (apply Exists.intro; apply Exists.intro; apply And.intro; walk_at "kq cl") | (apply Exists.intro; apply Exists.intro; apply Exists.intro; apply And.intro; walk_at "kq cl") | (apply Exists.intro; apply Exists.intro; apply Exists.intro; apply Exists.intro; apply And.intro; walk_at "kq cl") | (apply Exists.intro; apply Exists.intro; apply Exists.intro; apply Exists.intro; apply Exists.intro; apply And.intro; walk_at "kq cl") | (apply Exists.intro; apply Exists.intro; apply Exists.intro; apply Exists.intro; apply Exists.intro; apply Exists.intro; apply And.intro; walk_at "kq cl") | (apply Exists.intro; apply Exists.intro; apply Exists.intro; apply Exists.intro; apply Exists.intro; apply Exists.intro; apply Exists.intro; apply And.intro; walk_at "kq cl") | (apply Exists.intro; apply Exists.intro; apply Exists.intro; apply Exists.intro; apply Exists.intro; apply Exists.intro; apply Exists.intro; apply Exists.intro; apply And.intro; walk_at "kq cl") | (apply Exists.intro; apply Exists.intro; apply Exists.intro; apply Exists.intro; apply Exists.intro; apply Exists.intro; apply Exists.intro; apply Exists.intro; apply Exists.intro; apply And.intro; walk_at "kq cl") | refine Or.inl ⟨_, rfl, ?_⟩ | refine Or.inr ⟨_, rfl, ?_⟩ | refine Or.inr ⟨SqT.of (by walk_at "kq hp"), SqT.of (by walk_at "kq hp"), ?_⟩ | refine Or.inl ⟨SqL.of (by walk_at "kq hp"), SqL.of (by walk_at "kq hp"), ?_⟩ | refine Or.inl ⟨SqL.of (by walk_at "kq hp"), ?_⟩ | refine Or.inr ⟨SqT.of (by walk_at "kq hp"), ?_⟩ | refine ifT rfl ?_ | refine ifF rfl ?_))
/-! ### states of houses, words -/
/-- tuples stay -/
def Tk (H H' : Hp) : Prop := ∀ a xs, H a = some (.tup xs) → H' a = some (.tup xs)
theorem Tk.refl {H : Hp} : Tk H H := fun _ _ e => e
theorem Tk.trans {H H1 H2 : Hp} (a : Tk H H1) (b : Tk H1 H2) : Tk H H2 := fun c xs e => b c xs (a c xs e)
theorem tk_of {H H' : Hp} (s : Same H H') : Tk H H' := fun a xs e => s a _ e
theorem Tk.lst {H : Hp} {p : Addr} {ys : List V} {o : HO} (e : H p = some (.lst ys)) : Tk H (upd H p o) := fun a xs e' => by
  rw [upd_ne (fun z => by rw [z, e] at e'; cases e')]
  exact e'
mutual
/-- tuples of flat things -/
inductive Tr (H : Hp) : V → PyData → Prop
  | non : Tr H .non .none
  | bl (b : Bool) : Tr H (.bl b) (.bool b)
  | int (i : Int) : Tr H (.int i) (.int i)
  | str (x : Str) : Tr H (.str x) (.str x)
  | tup {a : Addr} {xs : List V} {ds : List PyData} : H a = some (.tup xs) → TrAll H xs ds → Tr H (.ref a) (.tuple ds)
inductive TrAll (H : Hp) : List V → List PyData → Prop
  | nil : TrAll H [] []
  | cons {v : V} {vs : List V} {d : PyData} {ds : List PyData} : Tr H v d → TrAll H vs ds → TrAll H (v :: vs) (d :: ds)
end
mutual
theorem Tr.tk {H H' : Hp} (k : Tk H H') : ∀ {v : V} {d : PyData}, Tr H v d → Tr H' v d
  | _, _, .non => .non
  | _, _, .bl b => .bl b
  | _, _, .int i => .int i
  | _, _, .str x => .str x
  | _, _, .tup e r => .tup (k _ _ e) (r.tk k)
theorem TrAll.tk {H H' : Hp} (k : Tk H H') : ∀ {vs : List V} {ds : List PyData}, TrAll H vs ds → TrAll H' vs ds
  | _, _, .nil => .nil
  | _, _, .cons r t => .cons (r.tk k) (t.tk k)
end
mutual
theorem Tr.rp {H : Hp} : ∀ {v : V} {d : PyData}, Tr H v d → Rp NF H v d
  | _, _, .non => .non
  | _, _, .bl b => .bl b
  | _, _, .int i => .int i
  | _, _, .str x => .str x
  | _, _, .tup e r => .tup e (fun z => z) r.rp
theorem TrAll.rp {H : Hp} : ∀ {vs : List V} {ds : List PyData}, TrAll H vs ds → RpAll NF H vs ds
  | _, _, .nil => .nil
  | _, _, .cons r t => .cons r.rp t.rp
end
theorem TrAll.len {H : Hp} : ∀ {vs : List V} {ds : List PyData}, TrAll H vs ds → vs.length = ds.length
  | _, _, .nil => rfl
  | _, _, .cons _ t => congrArg (· + 1) t.len
theorem TrAll.app {H : Hp} : ∀ {vs ws : List V} {ds es : List PyData}, TrAll H vs ds → TrAll H ws es → TrAll H (vs ++ ws) (ds ++ es)
  | _, _, _, _, .nil, s => s
  | _, _, _, _, .cons r t, s => .cons r (t.app s)
theorem TrAll.at_ {H : Hp} : ∀ {vs : List V} {ds : List PyData} {i : Nat} {v : V}, TrAll H vs ds → vs[i]? = some v → ∃ d, ds[i]? = some d ∧ Tr H v d
  | _, _, _, _, .nil, e => by simp at e
  | _, _, 0, _, .cons r _, e => by simp at e; subst e; exact ⟨_, rfl, r⟩
  | _, _, i + 1, _, .cons _ t, e => by simpa using t.at_ (i := i) (by simpa using e)
theorem tr_ints {H : Hp} : ∀ ns : List Int, TrAll H (ns.map V.int) (ns.map PyData.int)
  | [] => .nil
  | n :: ns => .cons (.int n) (tr_ints ns)
theorem tr_ints_inv {H : Hp} : ∀ {vs : List V} {ns : List Int}, TrAll H vs (ns.map PyData.int) → vs = ns.map V.int
  | [], [], _ => rfl
  | _ :: _, [], h => by cases h
  | [], _ :: _, h => by cases h
  | v :: vs, n :: ns, h => by
    cases h with
    | cons r t =>
      cases r
      rw [List.map_cons, tr_ints_inv t]
/-- a tuple, maybe one of the text's own -/
def Tp (K : PySem.W.Frag) (H : Hp) (a : Addr) (xs : List V) : Prop := H a = some (.tup xs) ∨ ((∀ H', SqT K H' a xs) ∧ ∃ o, K.lookup a = some o ∧ o.cls = .type "tuple")
theorem Tp.tk {K : PySem.W.Frag} {H H' : Hp} {a : Addr} {xs : List V} (t : Tp K H a xs) (k : Tk H H') : Tp K H' a xs := t.imp (k a xs) id
theorem Tp.sq {K : PySem.W.Frag} {H : Hp} {a : Addr} {xs : List V} (t : Tp K H a xs) : SqT K H a xs := t.elim SqT.of fun z => z.1 H
theorem Tp.ty {K : PySem.W.Frag} {H : Hp} {a : Addr} {xs : List V} (t : Tp K H a xs) : TyX K H (.ref a) (.type "tuple") := t.elim (fun e => .base (.tup e)) fun ⟨_, _, e, c⟩ => .kTuple e c
mutual
/-- .. maybe with some of the text's own -/
inductive Tc (K : PySem.W.Frag) (H : Hp) : V → PyData → Prop
  | non : Tc K H .non .none
  | bl (b : Bool) : Tc K H (.bl b) (.bool b)
  | int (i : Int) : Tc K H (.int i) (.int i)
  | str (x : Str) : Tc K H (.str x) (.str x)
  | tup {a : Addr} {xs : List V} {ds : List PyData} : Tp K H a xs → TcAll K H xs ds → Tc K H (.ref a) (.tuple ds)
inductive TcAll (K : PySem.W.Frag) (H : Hp) : List V → List PyData → Prop
  | nil : TcAll K H [] []
  | cons {v : V} {vs : List V} {d : PyData} {ds : List PyData} : Tc K H v d → TcAll K H vs ds → TcAll K H (v :: vs) (d :: ds)
end
mutual
theorem Tc.tk {K : PySem.W.Frag} {H H' : Hp} (k : Tk H H') : ∀ {v : V} {d : PyData}, Tc K H v d → Tc K H' v d
  | _, _, .non => .non
  | _, _, .bl b => .bl b
  | _, _, .int i => .int i
  | _, _, .str x => .str x
  | _, _, .tup e r => .tup (e.tk k) (r.tk k)
theorem TcAll.tk {K : PySem.W.Frag} {H H' : Hp} (k : Tk H H') : ∀ {vs : List V} {ds : List PyData}, TcAll K H vs ds → TcAll K H' vs ds
  | _, _, .nil => .nil
  | _, _, .cons r t => .cons (r.tk k) (t.tk k)
end
mutual
theorem Tr.tc {K : PySem.W.Frag} {H : Hp} : ∀ {v : V} {d : PyData}, Tr H v d → Tc K H v d
  | _, _, .non => .non
  | _, _, .bl b => .bl b
  | _, _, .int i => .int i
  | _, _, .str x => .str x
  | _, _, .tup e r => .tup (.inl e) r.tc
theorem TrAll.tc {K : PySem.W.Frag} {H : Hp} : ∀ {vs : List V} {ds : List PyData}, TrAll H vs ds → TcAll K H vs ds
  | _, _, .nil => .nil
  | _, _, .cons r t => .cons r.tc t.tc
end
theorem TcAll.len {K : PySem.W.Frag} {H : Hp} : ∀ {vs : List V} {ds : List PyData}, TcAll K H vs ds → vs.length = ds.length
  | _, _, .nil => rfl
  | _, _, .cons _ t => congrArg (· + 1) t.len
theorem TcAll.app {K : PySem.W.Frag} {H : Hp} : ∀ {vs ws : List V} {ds es : List PyData}, TcAll K H vs ds → TcAll K H ws es → TcAll K H (vs ++ ws) (ds ++ es)
  | _, _, _, _, .nil, s => s
  | _, _, _, _, .cons r t, s => .cons r (t.app s)
theorem TcAll.at_ {K : PySem.W.Frag} {H : Hp} : ∀ {vs : List V} {ds : List PyData} {i : Nat} {v : V}, TcAll K H vs ds → vs[i]? = some v → ∃ d, ds[i]? = some d ∧ Tc K H v d
  | _, _, _, _, .nil, e => by simp at e
  | _, _, 0, _, .cons r _, e => by simp at e; subst e; exact ⟨_, rfl, r⟩
  | _, _, i + 1, _, .cons _ t, e => by simpa using t.at_ (i := i) (by simpa using e)
/-- a house's state -/
structure Hs where
  bag : List (Int × Int)
  par : Option Int
  de : Int
  se : Int
  tl : Int
  bk : Bool
  sg : Option (Int × Int × Int)
  sh : List Int
  sd : Bool
inductive Wd where
  | task (k f : Int) (ns : List Int)
  | ans
  | sign (a b c : Int)
  | share (ns : List Int)
  | mark (n : Int)
def taskP (t : Int × Int) : PyData := .tuple [.int t.1, .int t.2]
def optP : Option Int → PyData
  | none => .none
  | some i => .int i
def optV : Option Int → V
  | none => .non
  | some i => .int i
def sgP : Option (Int × Int × Int) → PyData
  | none => .none
  | some (a, b, c) => .tuple [.int a, .int b, .int c]
def shP (ns : List Int) : PyData := .tuple (ns.map PyData.int)
def Hs.P (s : Hs) : PyData := .tuple [.tuple (s.bag.map taskP), optP s.par, .int s.de, .int s.se, .int s.tl, .bool s.bk, sgP s.sg, shP s.sh, .bool s.sd]
def Wd.P : Wd → PyData
  | .task k f ns => .tuple [.str "task", .int k, .int f, shP ns]
  | .ans => .tuple [.str "answer"]
  | .sign a b c => .tuple [.str "sign", .int a, .int b, .int c]
  | .share ns => .tuple [.str "share", shP ns]
  | .mark n => .tuple [.str "mark", .int n]
def outP (o : Int × Wd) : PyData := .tuple [.int o.1, o.2.P]
theorem optP_V {H : Hp} : ∀ o : Option Int, Tr H (optV o) (optP o)
  | none => .non
  | some i => .int i
def SgAt (H : Hp) (v : V) : Option (Int × Int × Int) → Prop
  | none => v = .non
  | some (a, b, c) => ∃ g, v = .ref g ∧ H g = some (.tup [.int a, .int b, .int c])
theorem SgAt.tk {H H' : Hp} (k : Tk H H') : ∀ {v : V} {o : Option (Int × Int × Int)}, SgAt H v o → SgAt H' v o
  | _, none, h => h
  | _, some (_, _, _), ⟨g, e, h⟩ => ⟨g, e, k _ _ h⟩
theorem SgAt.tr {H : Hp} : ∀ {v : V} {o : Option (Int × Int × Int)}, SgAt H v o → Tr H v (sgP o)
  | _, none, h => by cases h; exact .non
  | _, some (_, _, _), ⟨g, e, h⟩ => by subst e; exact .tup h (.cons (.int _) (.cons (.int _) (.cons (.int _) .nil)))
/-- a state at a -/
structure Hs9 (H : Hp) (a : Addr) (s : Hs) (ba sa : Addr) (bs : List V) (gv : V) : Prop where
  e : H a = some (.tup [.ref ba, optV s.par, .int s.de, .int s.se, .int s.tl, .bl s.bk, gv, .ref sa, .bl s.sd])
  b : H ba = some (.tup bs)
  t : TrAll H bs (s.bag.map taskP)
  g : SgAt H gv s.sg
  s : H sa = some (.tup (s.sh.map V.int))
def HsAt (H : Hp) (a : Addr) (s : Hs) : Prop := ∃ ba sa bs gv, Hs9 H a s ba sa bs gv
theorem Hs9.tk {H H' : Hp} {a ba sa : Addr} {s : Hs} {bs : List V} {gv : V} (h : Hs9 H a s ba sa bs gv) (k : Tk H H') : Hs9 H' a s ba sa bs gv := ⟨k _ _ h.e, k _ _ h.b, h.t.tk k, h.g.tk k, k _ _ h.s⟩
theorem HsAt.tk {H H' : Hp} {a : Addr} {s : Hs} (h : HsAt H a s) (k : Tk H H') : HsAt H' a s := let ⟨ba, sa, bs, gv, z⟩ := h; ⟨ba, sa, bs, gv, z.tk k⟩
theorem HsAt.tr {H : Hp} {a : Addr} {s : Hs} (h : HsAt H a s) : Tr H (.ref a) s.P := by
  obtain ⟨ba, sa, bs, gv, z⟩ := h
  exact .tup z.e (.cons (.tup z.b z.t) (.cons (optP_V _) (.cons (.int _) (.cons (.int _) (.cons (.int _) (.cons (.bl _) (.cons z.g.tr (.cons (.tup z.s (tr_ints _)) (.cons (.bl _) .nil)))))))))
def WdAt (H : Hp) (a : Addr) : Wd → Prop
  | .task k f ns => ∃ s, H a = some (.tup [.str "task", .int k, .int f, .ref s]) ∧ H s = some (.tup (ns.map V.int))
  | .ans => H a = some (.tup [.str "answer"])
  | .sign x y z => H a = some (.tup [.str "sign", .int x, .int y, .int z])
  | .share ns => ∃ s, H a = some (.tup [.str "share", .ref s]) ∧ H s = some (.tup (ns.map V.int))
  | .mark n => H a = some (.tup [.str "mark", .int n])
theorem WdAt.tk {H H' : Hp} {a : Addr} {w : Wd} (h : WdAt H a w) (k : Tk H H') : WdAt H' a w := by
  cases w with
  | task x f ns => obtain ⟨s, h1, h2⟩ := h; exact ⟨s, k _ _ h1, k _ _ h2⟩
  | ans => exact k _ _ h
  | sign x y z => exact k _ _ h
  | share ns => obtain ⟨s, h1, h2⟩ := h; exact ⟨s, k _ _ h1, k _ _ h2⟩
  | mark n => exact k _ _ h
theorem WdAt.tr {H : Hp} {a : Addr} {w : Wd} (h : WdAt H a w) : Tr H (.ref a) w.P := by
  cases w with
  | task x f ns => obtain ⟨s, h1, h2⟩ := h; exact .tup h1 (.cons (.str _) (.cons (.int _) (.cons (.int _) (.cons (.tup h2 (tr_ints _)) .nil))))
  | ans => exact .tup h (.cons (.str _) .nil)
  | sign x y z => exact .tup h (.cons (.str _) (.cons (.int _) (.cons (.int _) (.cons (.int _) .nil))))
  | share ns => obtain ⟨s, h1, h2⟩ := h; exact .tup h1 (.cons (.str _) (.cons (.tup h2 (tr_ints _)) .nil))
  | mark n => exact .tup h (.cons (.str _) (.cons (.int _) .nil))
/-- what a house does when it may be idle -/
def endA (h : Int) (s : Hs) (out : List (Int × Wd)) : Hs × List (Int × Wd) := match s.par with
  | none => (s, out)
  | some p => if s.de = 0 then ({ s with par := none }, if 0 < h then out ++ [(p, .ans)] else out) else (s, out)
def endB (h : Int) (r : Hs × List (Int × Wd)) : Hs × List (Int × Wd) := if 0 < h ∧ 0 < r.1.sh.length then ({ r.1 with sh := [] }, r.2 ++ [(0, .share r.1.sh)]) else r
def endL (h : Int) (s : Hs) (out : List (Int × Wd)) : Hs × List (Int × Wd) := if 0 < s.bag.length then (s, out) else endB h (endA h s out)
def sentL (m : Int) (R : Rules) (h : Int) (t : Int × Int) : List (Int × Int × Int) := if t.2 = 0 then [] else (R.getD t.1.toNat []).map fun p => ((h + p.1).fmod m, p.2, t.2 - 1)
def giftL (s : Hs) (t : Int × Int) : Hs := { s with bag := s.bag ++ [t], par := some (s.par.getD 0), sd := false }
/-- the words sent with tasks, the share halved again and again -/
def outsL (sh : List Int) : Nat → List (Int × Int × Int) → List (Int × Wd)
  | _, [] => []
  | i, (to, k, f) :: r => (to, .task k f (sh.map (· + ((i : Int) + 1)))) :: outsL sh (i + 1) r
inductive Why where
  | there | share | word | sign
def doneL (m : Int) (R : Rules) (h : Int) (s : Hs) : Sum Why (Hs × List (Int × Wd)) := match s.bag with
  | [] => .inl .there
  | t :: b => if 0 < (sentL m R h t).length ∧ s.sh.length = 0 then .inl .share
    else .inr (endL h { s with bag := b, de := s.de + (sentL m R h t).length, se := s.se + (sentL m R h t).length, sh := s.sh.map (· + ((sentL m R h t).length : Int)) } (outsL s.sh 0 (sentL m R h t)))
def heardL (h : Int) (s : Hs) (snd : Int) : Wd → Sum Why (Hs × List (Int × Wd))
  | .task k f ns => match addS 1000 s.sh ns with
    | none => .inl .word
    | some sh => .inr ({ s with bag := s.bag ++ [(k, f)], par := some (s.par.getD (if 0 < h then snd else 0)), tl := s.tl + 1, bk := true, sh := sh }, if s.par.isSome then [(snd, .ans)] else [])
  | .ans => if s.de = 0 then .inl .word else .inr (endL h { s with de := s.de - 1 } [])
  | .sign a b c => if s.sg.isSome then .inl .word else .inr ({ s with sg := some (a, b, c) }, [])
  | .share ns => if 0 < h then .inl .word else match addS 1000 s.sh ns with
    | none => .inl .word
    | some sh => .inr ({ s with sh := sh }, [])
  | .mark _ => .inr (s, [])
def passL (m : Int) (h : Int) (s : Hs) : Sum Why (Hs × List (Int × Wd)) := match s.sg with
  | none => .inl .sign
  | some (a, b, c) => if 0 < s.bag.length ∨ s.sd = true then .inl .sign
    else if h = 0 ∧ (s.bk || decide (c = 1)) = false ∧ a + s.se = b + s.tl then .inr ({ s with sd := true }, [])
    else .inr ({ s with bk := false, sg := none, sd := false }, if h = 0 then [(m - 1, .sign 0 0 0)] else [(h - 1, .sign (a + s.se) (b + s.tl) (if (s.bk || decide (c = 1)) = true then 1 else 0))])
def saysL (s : Hs) : PyData := .tuple [.bool s.par.isNone, .bool s.sd, .bool (decide (s.bag.length = 0) && decide (s.sh = [0]))]
/-- a state and what is sent -/
def TwoAt (K : PySem.W.Frag) (H : Hp) (T : Addr) (r : Hs × List (Int × Wd)) : Prop := ∃ a o os, H T = some (.tup [.ref a, .ref o]) ∧ HsAt H a r.1 ∧ Tp K H o os ∧ TcAll K H os (r.2.map outP)
theorem TwoAt.tk {K : PySem.W.Frag} {H H' : Hp} {T : Addr} {r : Hs × List (Int × Wd)} (h : TwoAt K H T r) (k : Tk H H') : TwoAt K H' T r := by
  obtain ⟨a, o, os, h1, h2, h3, h4⟩ := h
  exact ⟨a, o, os, k _ _ h1, h2.tk k, h3.tk k, h4.tk k⟩
end KQ
set_option Elab.async false
set_option maxRecDepth 100000
set_option maxHeartbeats 4000000
namespace KQ
open PySem PySem.Spec PyProof.Rows L2
local macro_rules | `(tactic| walk_at "kq hp") => `(tactic| (first | assumption | exact upd_same | (rw [upd_ne (by first | assumption | exact Ne.symm (by assumption))]; first | assumption | exact upd_same | (rw [upd_ne (by first | assumption | exact Ne.symm (by assumption))]; first | assumption | exact upd_same))))
local macro_rules | `(tactic| walk_at "kq do") => `(tactic| (first | decide | omega))
local macro_rules | `(tactic| walk_at "kq cl") => `(tactic| focus (first | rfl | assumption | exact upd_same | exact SqL.of (by walk_at "kq hp") | exact SqT.of (by walk_at "kq hp") | exact Or.inl (SqL.of (by walk_at "kq hp")) | exact Or.inr (SqT.of (by walk_at "kq hp")) | exact Or.inl ⟨rfl, _, SqL.of (by walk_at "kq hp")⟩ | walk_at "kq hp" | decide | exact Nat.le_of_ble_eq_true rfl | omega | (show ∃ xs, SqL _ _ _ xs; exact ⟨_, SqL.of (by walk_at "kq hp")⟩) | (show ∃ xs, SqT _ _ _ xs; exact ⟨_, SqT.of (by walk_at "kq hp")⟩) | exact DGet.k (k := Sum.inl _) (by walk_at "kq hp") | (show V.int _ = kV (Sum.inl _); rfl) | (show ∃ z, V.str _ = V.str z; exact ⟨_, rfl⟩) | exact Or.inl ⟨by walk_at "kq do", by walk_at "kq do"⟩ | exact Or.inr ⟨by walk_at "kq do", by walk_at "kq do"⟩ | exact ⟨by walk_at "kq do", by walk_at "kq do"⟩ | exact ⟨by decide, by decide, by decide⟩ | exact L2.ClsV.ty _ | exact Dt.ty (by assumption) | exact Dt.kint (by assumption) | exact Dt.kbool (by assumption) | exact Dt.ktuple (by assumption) | exact Dt.klist (by assumption) | exact Dt.kstr (by assumption)))
local macro_rules | `(tactic| trivial) => `(tactic| repeat (first | refine sl_go (by walk_at "kq hp") ?_ | (unfold tNoPart; refine sl_go (by walk_at "kq hp") ?_) | refine cat_go (by walk_at "kq hp") (by walk_at "kq hp") ?_ ?_ | (apply And.intro; walk_at "kq cl") | (apply Exists.intro; apply And.intro; walk_at "kq cl") | (apply Exists.intro; apply Exists.intro; apply And.intro; walk_at "kq cl") | (apply Exists.intro; apply Exists.intro; apply Exists.intro; apply And.intro; walk_at "kq cl") | (apply Exists.intro; apply Exists.intro; apply Exists.intro; apply Exists.intro; apply And.intro; walk_at "kq cl") | (apply Exists.intro; apply Exists.intro; apply Exists.intro; apply Exists.intro; apply Exists.intro; apply And.intro; walk_at "kq cl") | (apply Exists.intro; apply Exists.intro; apply Exists.intro; apply Exists.intro; apply Exists.intro; apply Exists.intro; apply And.intro; walk_at "kq cl") | (apply Exists.intro; apply Exists.intro; apply Exists.intro; apply Exists.intro; apply Exists.intro; apply Exists.intro; apply Exists.intro; apply And.intro; walk_at "kq cl") | (apply Exists.intro; apply Exists.intro; apply Exists.intro; apply Exists.intro; apply Exists.intro; apply Exists.intro; apply Exists.intro; apply Exists.intro; apply And.intro; walk_at "kq cl") | (apply Exists.intro; apply Exists.intro; apply Exists.intro; apply Exists.intro; apply Exists.intro; apply Exists.intro; apply Exists.intro; apply Exists.intro; apply Exists.intro; apply And.intro; walk_at "kq cl") | refine Or.inl ⟨_, rfl, ?_⟩ | refine Or.inr ⟨_, rfl, ?_⟩ | refine Or.inr ⟨SqT.of (by walk_at "kq hp"), SqT.of (by walk_at "kq hp"), ?_⟩ | refine Or.inl ⟨SqL.of (by walk_at "kq hp"), SqL.of (by walk_at "kq hp"), ?_⟩ | refine Or.inl ⟨SqL.of (by walk_at "kq hp"), ?_⟩ | refine Or.inr ⟨SqT.of (by walk_at "kq hp"), ?_⟩ | refine ifT rfl ?_ | refine ifF rfl ?_))
theorem catC_go {K : PySem.W.Frag} {H : Hp} {a b : Addr} {xs ys : List V} {Q : VK} (ha : Tp K H a xs) (hb : Tp K H b ys) (hz : xs.length + ys.length ≤ 16777216) (h : ∀ c H1, Same H H1 → Tp K H1 c (xs ++ ys) → Q (.ref c) H1) : rCatA K (.ref a) (.ref b) H Q :=
  ⟨a, b, xs, ys, rfl, rfl, ha.sq, hb.sq, by rw [sizeLine_eq]; exact hz, fun e => h b H (Same.refl H) (by rw [e]; exact hb), fun _ e => h a H (Same.refl H) (by rw [e, List.append_nil]; exact ha), fun _ _ p np => h p _ (same_new0 np) (.inl upd_same)⟩
def spEnded (K : PySem.W.Frag) : Sp := fun vs H Q _ => ∃ (h : Int) (a o : Addr) (s : Hs) (os : List V) (out : List (Int × Wd)), vs = [.int h, .ref a, .ref o] ∧ HsAt H a s ∧ Tp K H o os ∧ TcAll K H os (out.map outP) ∧ os.length ≤ 1000 ∧
  ∀ T H', Same H H' → TwoAt K H' T (endL h s out) → Q (.ref T) H'
def spWithItem : Sp := fun vs H Q _ => ∃ (a : Addr) (xs : List V) (i : Nat) (v : V), vs = [.ref a, .int (i : Int), v] ∧ H a = some (.tup xs) ∧ i < xs.length ∧ xs.length ≤ 1000 ∧ ∀ T H', Same H H' → H' T = some (.tup (xs.take i ++ [v] ++ xs.drop (i + 1))) → Q (.ref T) H'
def spDone (K : PySem.W.Frag) (C CH CT CI CS : Addr) : Sp := fun vs H Q E => ∃ (w r a : Addr) (m h : Int) (R : Rules) (s : Hs), vs = [.ref w, .int h, .ref a] ∧ WorksAt C H w (.int m) (.ref r) ∧ OkWorks m R ∧ Tr H (.ref r) (rulesD R) ∧ 0 ≤ h ∧ h < m ∧ HsAt H a s ∧
  (∀ t ∈ s.bag, 0 ≤ t.1 ∧ t.1 < R.length ∧ 0 ≤ t.2 ∧ t.2 < 13) ∧ s.sh.length ≤ 1000 ∧
  (match doneL m R h s with
   | .inl .there => ∀ H', Same H H' → E (.ref CI) none H'
   | .inl _ => ∀ H', Same H H' → E (.ref CS) none H'
   | .inr p => ∀ T H', Same H H' → TwoAt K H' T p → Q (.ref T) H')
section
variable {P : Program} {w : World} {K : PySem.W.Frag} {mg : Str → Option Value} {base : Heap} {C CH CT CI CS AN : Addr}
theorem d_with_item (B : Bi mg) (F : FunAt K mg "with_item" s_with_item) : Has P w K mg base 1 "with_item" ["items", "at", "item"] spWithItem := by
  refine mk_has F sc_with_item (fun _ _ _ _ _ _ us hl => match us, hl with | [_, _, _], _ => rfl) (fun vs H Q E h => ?_) fun f cdv A outer s H vs Q E hr h => ?_
  · obtain ⟨a, xs, i, v, rfl, _⟩ := h
    rfl
  obtain ⟨a, xs, i, v, rfl, ea, hi, hl, k⟩ := h
  refine ⟨_, (pss_one (ps_ret (pe_op op_catA (pe_op op_catA (pe_slice sl_tupA (pv 0) po_none (po_some (pv 1))) (pe_tup (pa_cons (pv 2) pa_nil))) (pe_slice sl_tupA (pv 0) (po_some (pe_op op_add (pv 1) pe_int)) po_none)))), ?_⟩
  trivial
  rw [cut_take]
  intro q1 H1 s1 e1
  have ea1 := s1 _ _ ea
  trivial
  intro q2 nq2
  have s2 := same_new0 (o := .tup [v]) nq2
  have e2 : upd H1 q2 (.tup [v]) q2 = some (.tup [v]) := upd_same
  have e12 := s2 _ _ e1
  have ea2 := s2 _ _ ea1
  generalize upd H1 q2 (.tup [v]) = H2 at *
  refine cat_go e12 e2 (by rw [List.length_take]; simp; omega) fun q3 H3 s3 e3 => ?_
  have ea3 := s3 _ _ ea2
  trivial
  rw [show ((i : Int) + 1) = ((i + 1 : Nat) : Int) by omega, cut_drop]
  intro q4 H4 s4 e4
  refine cat_go (s4 _ _ e3) e4 (by simp [List.length_take]; omega) fun q5 H5 s5 e5 => ?_
  exact k q5 H5 ((((s1.trans s2).trans s3).trans s4).trans s5) e5
theorem d_ended (B : Bi mg) (F : FunAt K mg "ended" s_ended) (g_ANSWER : mg "ANSWER" = some (.ref AN)) (tAN : ∀ H, SqT K H AN [.str "answer"]) (kAN : ∃ o, K.lookup AN = some o ∧ o.cls = .type "tuple") : Has P w K mg base 1 "ended" ["house", "state", "out"] (spEnded K) := by
  refine mk_has F sc_ended (fun _ _ _ _ _ _ us hl => match us, hl with | [_, _, _], _ => rfl) (fun vs H Q E h => ?_) fun f cdv A outer s H vs Q E hr h => ?_
  · obtain ⟨h, a, o, st, os, out, rfl, _⟩ := h
    rfl
  obtain ⟨h, a, o, st, os, out, rfl, ⟨ba, sa, bs, gv, z⟩, ho, hos, hlo, k⟩ := h
  refine ⟨_, (pss_cons (ps_asg (pv 1) (pg_tup rfl (pgs_cons (pg_name (i := 3) sc_ended.nd rfl (Or.inl rfl)) (pgs_cons (pg_name (i := 4) sc_ended.nd rfl (Or.inl rfl)) (pgs_cons (pg_name (i := 5) sc_ended.nd rfl (Or.inl rfl)) (pgs_cons (pg_name (i := 6) sc_ended.nd rfl (Or.inl rfl)) (pgs_cons (pg_name (i := 7) sc_ended.nd rfl (Or.inl rfl)) (pgs_cons (pg_name (i := 8) sc_ended.nd rfl (Or.inl rfl)) (pgs_cons (pg_name (i := 9) sc_ended.nd rfl (Or.inl rfl)) (pgs_cons (pg_name (i := 10) sc_ended.nd rfl (Or.inl rfl)) (pgs_cons (pg_name (i := 11) sc_ended.nd rfl (Or.inl rfl)) pgs_nil)))))))))))
    (pss_cons (ps_if (pt_cmpR op_gt (pe_callB call_len_seq rfl B.len PySem.boot_len (pa_cons (pv 3) pa_nil)) pe_int (nomark _))
    (pss_one (ps_ret (pe_tup (pa_cons (pv 1) (pa_cons (pv 2) pa_nil)))))
    pss_nil)
    (C8.pss_cut (ps_if (PW.pt (pw_and (pt_cmpR op_eq (pv 5) pe_int (nomark _)) (pw_and1 (pt_cmp (pc_notN (pv 4))))))
    (C8.pss_cut (ps_if (pt_cmpR op_gt (pv 0) pe_int (nomark _))
    (pss_one (ps_set (i := 2) sc_ended.nd rfl (Or.inl rfl) (pe_op op_catA (pv 2) (pe_tup (pa_cons (pe_tup (pa_cons (pv 4) (pa_cons (pe_glob (v := .ref AN) rfl g_ANSWER rfl) pa_nil))) pa_nil)))))
    pss_nil)
    (pss_one (ps_set (i := 4) sc_ended.nd rfl (Or.inl rfl) pe_non)))
    pss_nil)
    (C8.pss_cut (ps_if (PW.pt (pw_and (pt_cmpR op_gt (pv 0) pe_int (nomark _)) (pw_and1 (pt_cmpR op_gt (pe_callB call_len_seq rfl B.len PySem.boot_len (pa_cons (pv 10) pa_nil)) pe_int (nomark _)))))
    (pss_cons (ps_set (i := 2) sc_ended.nd rfl (Or.inl rfl) (pe_op op_catA (pv 2) (pe_tup (pa_cons (pe_tup (pa_cons pe_int (pa_cons (pe_tup (pa_cons pe_str (pa_cons (pv 10) pa_nil))) pa_nil))) pa_nil))))
    (pss_one (ps_set (i := 10) sc_ended.nd rfl (Or.inl rfl) (pe_tup pa_nil))))
    pss_nil)
    (pss_one (ps_ret (pe_tup (pa_cons (pe_tup (pa_cons (pv 3) (pa_cons (pv 4) (pa_cons (pv 5) (pa_cons (pv 6) (pa_cons (pv 7) (pa_cons (pv 8) (pa_cons (pv 9) (pa_cons (pv 10) (pa_cons (pv 11) pa_nil)))))))))) (pa_cons (pv 2) pa_nil))))))))), ?_⟩
  have ea := z.e
  have eb := z.b
  have es := z.s
  refine ⟨_, rfl, a, _, rfl, SqT.of ea, rfl, _, _, rfl, _, _, rfl, _, _, rfl, _, _, rfl, _, _, rfl, _, _, rfl, _, _, rfl, _, _, rfl, _, _, rfl, rfl, ?_⟩
  have lb : bs.length = st.bag.length := by have := z.t.len; rw [List.length_map] at this; exact this
  trivial
  refine ite2 (fun c => ?_) (fun c => ?_)
  · have c' : 0 < st.bag.length := by have := of_decide_eq_true c; omega
    trivial
    intro T nT
    have sT := same_new0 (o := .tup [.ref a, .ref o]) nT
    refine k T _ sT ⟨a, o, os, upd_same, ?_, ho.tk (tk_of sT), ?_⟩
    · rw [endL, if_pos c']
      exact HsAt.tk ⟨ba, sa, bs, gv, z⟩ (tk_of sT)
    · rw [endL, if_pos c']
      exact hos.tk (tk_of sT)
  have c' : ¬ 0 < st.bag.length := by have := of_decide_eq_false (Bool.eq_false_iff.mpr c); omega
  trivial
  refine ⟨fun σ H' => ∃ o1 os1, σ = [some (.int h), some (.ref a), some (.ref o1), some (.ref ba), some (optV (endA h st out).1.par), some (.int st.de), some (.int st.se), some (.int st.tl), some (.bl st.bk), some gv, some (.ref sa), some (.bl st.sd)] ∧ Same H H' ∧ Tp K H' o1 os1 ∧ TcAll K H' os1 ((endA h st out).2.map outP) ∧ os1.length ≤ 1001, ?_, ?_⟩
  · have no : (st.par = none ∨ st.de ≠ 0) → (fun (σ : L2.St) (H' : Hp) => ∃ o1 os1, σ = [some (.int h), some (.ref a), some (.ref o1), some (.ref ba), some (optV (endA h st out).1.par), some (.int st.de), some (.int st.se), some (.int st.tl), some (.bl st.bk), some gv, some (.ref sa), some (.bl st.sd)] ∧ Same H H' ∧ Tp K H' o1 os1 ∧ TcAll K H' os1 ((endA h st out).2.map outP) ∧ os1.length ≤ 1001) [some (.int h), some (.ref a), some (.ref o), some (.ref ba), some (optV st.par), some (.int st.de), some (.int st.se), some (.int st.tl), some (.bl st.bk), some gv, some (.ref sa), some (.bl st.sd)] H := fun hn => by
      have e : endA h st out = (st, out) := by
        unfold endA
        cases hp : st.par with
        | none => rfl
        | some p => rcases hn with z | z
                    · rw [hp] at z; cases z
                    · exact if_neg z
      rw [e]
      exact ⟨o, os, rfl, Same.refl H, ho, hos, by omega⟩
    trivial
    refine ite2 (fun c1 => ?_) (fun c1 => ?_)
    · have c1' : st.de = 0 := by simpa using of_decide_eq_true c1
      cases hp : st.par with
      | none =>
        refine ⟨_, rfl, ?_⟩
        refine ⟨false, rfl, ifF rfl ?_⟩
        have := no (.inl hp)
        rw [hp] at this
        exact this
      | some p =>
        have eA : endA h st out = ({ st with par := none }, if 0 < h then out ++ [(p, .ans)] else out) := by
          unfold endA
          rw [hp]
          exact if_pos c1'
        refine ⟨_, rfl, ?_⟩
        refine ⟨true, rfl, ifT rfl ?_⟩
        rw [eA]
        refine ⟨fun σ H' => ∃ o1 os1, σ = [some (.int h), some (.ref a), some (.ref o1), some (.ref ba), some (.int p), some (.int st.de), some (.int st.se), some (.int st.tl), some (.bl st.bk), some gv, some (.ref sa), some (.bl st.sd)] ∧ Same H H' ∧ Tp K H' o1 os1 ∧ TcAll K H' os1 ((if 0 < h then out ++ [(p, Wd.ans)] else out).map outP) ∧ os1.length ≤ 1001, ?_, ?_⟩
        · trivial
          refine ite2 (fun c2 => ?_) (fun c2 => ?_)
          · have c2' : 0 < h := of_decide_eq_true c2
            rw [if_pos c2']
            trivial
            intro q1 nq1
            have s1 := same_new0 (o := .tup [optV (some p), .ref AN]) nq1
            have e1 : upd H q1 (.tup [optV (some p), .ref AN]) q1 = some (.tup [optV (some p), .ref AN]) := upd_same
            generalize upd H q1 (.tup [optV (some p), .ref AN]) = H1 at *
            trivial
            intro q2 nq2
            have s2 := same_new0 (o := .tup [.ref q1]) nq2
            have e2 : upd H1 q2 (.tup [.ref q1]) q2 = some (.tup [.ref q1]) := upd_same
            have e12 := s2 _ _ e1
            generalize upd H1 q2 (.tup [.ref q1]) = H2 at *
            have s02 := s1.trans s2
            refine catC_go (ho.tk (tk_of s02)) (.inl e2) (by simp; omega) fun q3 H3 s3 t3 => ?_
            refine ⟨q3, _, rfl, s02.trans s3, t3, ?_, by simp; omega⟩
            rw [List.map_append]
            exact ((hos.tk (tk_of s02)).tk (tk_of s3)).app (.cons (.tup (.inl (s3 _ _ e12)) (.cons (.int _) (.cons (.tup (.inr ⟨tAN, kAN⟩) (.cons (.str _) .nil)) .nil))) .nil)
          · have c2' : ¬ 0 < h := of_decide_eq_false (Bool.eq_false_iff.mpr c2)
            rw [if_neg c2']
            exact ⟨o, os, rfl, Same.refl H, ho, hos, by omega⟩
        · rintro σ H1 ⟨o1, os1, rfl, s1, t1, h1, l1⟩
          exact ⟨o1, os1, rfl, s1, t1, h1, l1⟩
    · have c1' : st.de ≠ 0 := fun z => c1 (decide_eq_true (by rw [z]))
      exact no (.inr c1')
  · rintro σ H1 ⟨o1, os1, rfl, s1, t1, h1, l1⟩
    have es1 := s1 _ _ es
    have eE : endL h st out = endB h (endA h st out) := if_neg c'
    have hA : (endA h st out).1 = { st with par := (endA h st out).1.par } := by
      unfold endA
      cases st.par with
      | none => rfl
      | some p => dsimp only; split <;> rfl
    have hAs : (endA h st out).1.sh = st.sh := by rw [hA]
    refine ⟨fun σ H' => ∃ o2 os2 sa2, σ = [some (.int h), some (.ref a), some (.ref o2), some (.ref ba), some (optV (endA h st out).1.par), some (.int st.de), some (.int st.se), some (.int st.tl), some (.bl st.bk), some gv, some (.ref sa2), some (.bl st.sd)] ∧ Same H H' ∧ Tp K H' o2 os2 ∧ TcAll K H' os2 ((endL h st out).2.map outP) ∧ H' sa2 = some (.tup ((endL h st out).1.sh.map V.int)) ∧ (endL h st out).1 = { (endA h st out).1 with sh := (endL h st out).1.sh }, ?_, ?_⟩
    · trivial
      have no : ¬ (0 < h ∧ 0 < st.sh.length) → endL h st out = endA h st out := fun n => by
        rw [eE, endB, hAs, if_neg n]
      refine ite2 (fun c1 => ?_) (fun c1 => ?_)
      · have c1' : 0 < h := of_decide_eq_true c1
        trivial
        refine ite2 (fun c2 => ?_) (fun c2 => ?_)
        · have c2' : 0 < st.sh.length := by have := of_decide_eq_true c2; rw [List.length_map] at this; omega
          have e2L : endL h st out = ({ (endA h st out).1 with sh := [] }, (endA h st out).2 ++ [(0, .share st.sh)]) := by rw [eE, endB, hAs, if_pos ⟨c1', c2'⟩]
          rw [e2L]
          trivial
          intro q1 nq1
          have sq1 := same_new0 (o := .tup [.str "share", .ref sa]) nq1
          have e1 : upd H1 q1 (.tup [.str "share", .ref sa]) q1 = some (.tup [.str "share", .ref sa]) := upd_same
          generalize upd H1 q1 (.tup [.str "share", .ref sa]) = H2 at *
          trivial
          intro q2 nq2
          have sq2 := same_new0 (o := .tup [.int 0, .ref q1]) nq2
          have e2 : upd H2 q2 (.tup [.int 0, .ref q1]) q2 = some (.tup [.int 0, .ref q1]) := upd_same
          have e12 := sq2 _ _ e1
          generalize upd H2 q2 (.tup [.int 0, .ref q1]) = H3 at *
          trivial
          intro q3 nq3
          have sq3 := same_new0 (o := .tup [.ref q2]) nq3
          have e3 : upd H3 q3 (.tup [.ref q2]) q3 = some (.tup [.ref q2]) := upd_same
          have e13 := sq3 _ _ e12
          have e23 := sq3 _ _ e2
          generalize upd H3 q3 (.tup [.ref q2]) = H4 at *
          have s14 := (sq1.trans sq2).trans sq3
          refine catC_go (t1.tk (tk_of s14)) (.inl e3) (by simp; omega) fun q5 H5 s5 t5 => ?_
          trivial
          intro q6 nq6
          have sq6 := same_new0 (o := .tup []) nq6
          have e6 : upd H5 q6 (.tup []) q6 = some (.tup []) := upd_same
          have s16 := (s14.trans s5).trans sq6
          refine ⟨q5, _, q6, rfl, s1.trans s16, t5.tk (tk_of sq6), ?_, e6, rfl⟩
          rw [List.map_append]
          exact (h1.tk (tk_of s16)).app (.cons (.tup (.inl ((s5.trans sq6) _ _ e23)) (.cons (.int _) (.cons (.tup (.inl ((s5.trans sq6) _ _ e13)) (.cons (.str _) (.cons (.tup (.inl (s16 _ _ es1)) (tr_ints _).tc) .nil))) .nil))) .nil)
        · have c2' : ¬ 0 < st.sh.length := by have := of_decide_eq_false (Bool.eq_false_iff.mpr c2); rw [List.length_map] at this; omega
          rw [no (fun n => c2' n.2)]
          exact ⟨o1, os1, sa, rfl, s1, t1, h1, by rw [hAs]; exact es1, by rfl⟩
      · have c1' : ¬ 0 < h := of_decide_eq_false (Bool.eq_false_iff.mpr c1)
        rw [no (fun n => c1' n.1)]
        exact ⟨o1, os1, sa, rfl, s1, t1, h1, by rw [hAs]; exact es1, by rfl⟩
    · rintro σ H2 ⟨o2, os2, sa2, rfl, s2, t2, h2, e2, hL⟩
      trivial
      intro T1 nT1
      have sT1 := same_new0 (o := .tup [.ref ba, optV (endA h st out).1.par, .int st.de, .int st.se, .int st.tl, .bl st.bk, gv, .ref sa2, .bl st.sd]) nT1
      have eT1 : upd H2 T1 (.tup [.ref ba, optV (endA h st out).1.par, .int st.de, .int st.se, .int st.tl, .bl st.bk, gv, .ref sa2, .bl st.sd]) T1 = some (.tup [.ref ba, optV (endA h st out).1.par, .int st.de, .int st.se, .int st.tl, .bl st.bk, gv, .ref sa2, .bl st.sd]) := upd_same
      generalize upd H2 T1 (.tup [.ref ba, optV (endA h st out).1.par, .int st.de, .int st.se, .int st.tl, .bl st.bk, gv, .ref sa2, .bl st.sd]) = H3 at *
      trivial
      intro T nT
      have sT := same_new0 (o := .tup [.ref T1, .ref o2]) nT
      have s23 := sT1.trans sT
      refine k T _ (s2.trans s23) ⟨T1, o2, os2, upd_same, ?_, t2.tk (tk_of s23), h2.tk (tk_of s23)⟩
      rw [hL, hA]
      exact ⟨ba, sa2, bs, gv, sT _ _ eT1, (s2.trans s23) _ _ eb, z.t.tk (tk_of (s2.trans s23)), z.g.tk (tk_of (s2.trans s23)), s23 _ _ e2⟩
end
end KQ
set_option Elab.async false
set_option maxRecDepth 100000
set_option maxHeartbeats 4000000
namespace KQ
open PySem PySem.Spec PyProof.Rows L2
local macro_rules | `(tactic| walk_at "kq hp") => `(tactic| (first | assumption | exact upd_same | (rw [upd_ne (by first | assumption | exact Ne.symm (by assumption))]; first | assumption | exact upd_same | (rw [upd_ne (by first | assumption | exact Ne.symm (by assumption))]; first | assumption | exact upd_same))))
local macro_rules | `(tactic| walk_at "kq do") => `(tactic| (first | decide | omega))
local macro_rules | `(tactic| walk_at "kq cl") => `(tactic| focus (first | rfl | assumption | exact upd_same | exact SqL.of (by walk_at "kq hp") | exact SqT.of (by walk_at "kq hp") | exact Or.inl (SqL.of (by walk_at "kq hp")) | exact Or.inr (SqT.of (by walk_at "kq hp")) | exact Or.inl ⟨rfl, _, SqL.of (by walk_at "kq hp")⟩ | walk_at "kq hp" | decide | exact Nat.le_of_ble_eq_true rfl | omega | (show ∃ xs, SqL _ _ _ xs; exact ⟨_, SqL.of (by walk_at "kq hp")⟩) | (show ∃ xs, SqT _ _ _ xs; exact ⟨_, SqT.of (by walk_at "kq hp")⟩) | exact DGet.k (k := Sum.inl _) (by walk_at "kq hp") | (show V.int _ = kV (Sum.inl _); rfl) | (show ∃ z, V.str _ = V.str z; exact ⟨_, rfl⟩) | exact Or.inl ⟨by walk_at "kq do", by walk_at "kq do"⟩ | exact Or.inr ⟨by walk_at "kq do", by walk_at "kq do"⟩ | exact ⟨by walk_at "kq do", by walk_at "kq do"⟩ | exact ⟨by decide, by decide, by decide⟩ | exact L2.ClsV.ty _ | exact Dt.ty (by assumption) | exact Dt.kint (by assumption) | exact Dt.kbool (by assumption) | exact Dt.ktuple (by assumption) | exact Dt.klist (by assumption) | exact Dt.kstr (by assumption)))
local macro_rules | `(tactic| trivial) => `(tactic| repeat (first | refine sl_go (by walk_at "kq hp") ?_ | (unfold tNoPart; refine sl_go (by walk_at "kq hp") ?_) | refine cat_go (by walk_at "kq hp") (by walk_at "kq hp") ?_ ?_ | (apply And.intro; walk_at "kq cl") | (apply Exists.intro; apply And.intro; walk_at "kq cl") | (apply Exists.intro; apply Exists.intro; apply And.intro; walk_at "kq cl") | (apply Exists.intro; apply Exists.intro; apply Exists.intro; apply And.intro; walk_at "kq cl") | (apply Exists.intro; apply Exists.intro; apply Exists.intro; apply Exists.intro; apply And.intro; walk_at "kq cl") | (apply Exists.intro; apply Exists.intro; apply Exists.intro; apply Exists.intro; apply Exists.intro; apply And.intro; walk_at "kq cl") | (apply Exists.intro; apply Exists.intro; apply Exists.intro; apply Exists.intro; apply Exists.intro; apply Exists.intro; apply And.intro; walk_at "kq cl") | (apply Exists.intro; apply Exists.intro; apply Exists.intro; apply Exists.intro; apply Exists.intro; apply Exists.intro; apply Exists.intro; apply And.intro; walk_at "kq cl") | (apply Exists.intro; apply Exists.intro; apply Exists.intro; apply Exists.intro; apply Exists.intro; apply Exists.intro; apply Exists.intro; apply Exists.intro; apply And.intro; walk_at "kq cl") | (apply Exists.intro; apply Exists.intro; apply Exists.intro; apply Exists.intro; apply Exists.intro; apply Exists.intro; apply Exists.intro; apply Exists.intro; apply Exists.intro; apply And.intro; walk_at "kq cl") | refine Or.inl ⟨_, rfl, ?_⟩ | refine Or.inr ⟨_, rfl, ?_⟩ | refine Or.inr ⟨SqT.of (by walk_at "kq hp"), SqT.of (by walk_at "kq hp"), ?_⟩ | refine Or.inl ⟨SqL.of (by walk_at "kq hp"), SqL.of (by walk_at "kq hp"), ?_⟩ | refine Or.inl ⟨SqL.of (by walk_at "kq hp"), ?_⟩ | refine Or.inr ⟨SqT.of (by walk_at "kq hp"), ?_⟩ | refine ifT rfl ?_ | refine ifF rfl ?_))
def sntP (x : Int × Int × Int) : PyData := .tuple [.int x.1, .tuple [.int x.2.1, .int x.2.2]]
theorem sentD_L {m : Int} {R : Rules} {h : Int} {t : Int × Int} : sentD m R h t.1 t.2 = (sentL m R h t).map sntP := by
  unfold sentD sentL
  split
  · rfl
  · rw [List.map_map]
    rfl
theorem outs_snoc {sh : List Int} : ∀ {j : Nat} {L : List (Int × Int × Int)} {x : Int × Int × Int}, outsL sh j (L ++ [x]) = outsL sh j L ++ [(x.1, .task x.2.1 x.2.2 (sh.map (· + (((j + L.length : Nat) : Int) + 1))))]
  | j, [], (to, k, f) => rfl
  | j, (to, k, f) :: L, x => by
    rw [List.cons_append, outsL, outsL, outs_snoc (j := j + 1), List.cons_append, List.length_cons, show j + 1 + L.length = j + (L.length + 1) by omega]
theorem map_add {sh : List Int} {i : Nat} : (sh.map (· + (i : Int))).map (· + 1) = sh.map (· + ((i : Int) + 1)) := by
  rw [List.map_map]
  exact List.map_congr_left fun x _ => by show x + (i : Int) + 1 = x + ((i : Int) + 1); omega
theorem sent_len {m : Int} {R : Rules} {h : Int} {t : Int × Int} (o : OkWorks m R) : (sentL m R h t).length ≤ 4 := by
  unfold sentL
  split
  · simp
  · rw [List.length_map]
    by_cases c : t.1.toNat < R.length
    · have : R.getD t.1.toNat [] = R[t.1.toNat] := by simp [List.getD_eq_getElem?_getD, c]
      rw [this]
      exact (o.at_ _ (List.getElem_mem c)).len
    · rw [List.getD_eq_getElem?_getD, List.getElem?_eq_none (by omega)]
      simp
section
variable {P : Program} {w : World} {K : PySem.W.Frag} {mg : Str → Option Value} {base : Heap} {C CH CT CI CS AN : Addr}
theorem d_done (B : Bi mg) (F : FunAt K mg "done" s_done) (x_NothingThere : ExcAt K mg "NothingThere" CI) (x_NoShare : ExcAt K mg "NoShare" CS) (D_check_house : HasX P w K mg base 4 "check_house" ["works", "house"] (spCheckHouse C CH)) (D_sent_by : HasX P w K mg base 5 "sent_by" ["works", "house", "task"] (spSentBy C CH CT)) (D_halved : Has P w K mg base 1 "halved" ["share"] spHalved) (D_ended : Has P w K mg base 1 "ended" ["house", "state", "out"] (spEnded K)) : HasX P w K mg base 6 "done" ["works", "house", "state"] (spDone K C CH CT CI CS) := by
  refine mk_hasX F sc_done (fun _ _ _ _ _ _ us hl => match us, hl with | [_, _, _], _ => rfl) (fun vs H Q E h => ?_) fun f cdv A outer s H vs Q E hr h => ?_
  · obtain ⟨w, r, a, m, h, R, st, rfl, _⟩ := h
    rfl
  obtain ⟨w0, r, a, m, h, R, st, rfl, hw, ok, rr, h0, h1, ⟨ba, sa, bs, gv, z⟩, hbag, hshl, k⟩ := h
  refine ⟨_, (pss_cons (ps_expr (pe_hX (takes_of rfl rfl rfl rfl) D_check_house (hr.mono (by decide)) rfl (pa_cons (pv 0) (pa_cons (pv 1) pa_nil))))
    (pss_cons (ps_asg (pv 2) (pg_tup rfl (pgs_cons (pg_name (i := 3) sc_done.nd rfl (Or.inl rfl)) (pgs_cons (pg_name (i := 4) sc_done.nd rfl (Or.inl rfl)) (pgs_cons (pg_name (i := 5) sc_done.nd rfl (Or.inl rfl)) (pgs_cons (pg_name (i := 6) sc_done.nd rfl (Or.inl rfl)) (pgs_cons (pg_name (i := 7) sc_done.nd rfl (Or.inl rfl)) (pgs_cons (pg_name (i := 8) sc_done.nd rfl (Or.inl rfl)) (pgs_cons (pg_name (i := 9) sc_done.nd rfl (Or.inl rfl)) (pgs_cons (pg_name (i := 10) sc_done.nd rfl (Or.inl rfl)) (pgs_cons (pg_name (i := 11) sc_done.nd rfl (Or.inl rfl)) pgs_nil)))))))))))
    (pss_cons (ps_if (pt_cmpR op_eq (pe_callB call_len_seq rfl B.len PySem.boot_len (pa_cons (pv 3) pa_nil)) pe_int (nomark _))
    (pss_one (ps_rz rfl (takes_of rfl rfl rfl rfl) x_NothingThere rfl))
    pss_nil)
    (pss_cons (ps_set (i := 12) sc_done.nd rfl (Or.inl rfl) (pe_hX (takes_of rfl rfl rfl rfl) D_sent_by (hr.mono (by decide)) rfl (pa_cons (pv 0) (pa_cons (pv 1) (pa_cons (pe_ix ix_tup (pv 3) pe_int (fun _ _ => rfl)) pa_nil)))))
    (pss_cons (ps_set (i := 13) sc_done.nd rfl (Or.inl rfl) (pe_callB call_len_seq rfl B.len PySem.boot_len (pa_cons (pv 12) pa_nil)))
    (C8.pss_cut (ps_if (PW.pt (pw_and (pt_cmpR op_gt (pv 13) pe_int (nomark _)) (pw_and1 (pt_cmpR op_eq (pe_callB call_len_seq rfl B.len PySem.boot_len (pa_cons (pv 10) pa_nil)) pe_int (nomark _)))))
    (pss_one (ps_rz rfl (takes_of rfl rfl rfl rfl) x_NoShare rfl))
    pss_nil)
    (pss_cons (ps_set (i := 14) sc_done.nd rfl (Or.inl rfl) (pe_lst pa_nil))
    (pss_cons (ps_for (passes_of rfl) rfl (pi_tup (pv 12)) (pg_tup rfl (pgs_cons (pg_name (i := 15) sc_done.nd rfl (Or.inl rfl)) (pgs_cons (pg_name (i := 16) sc_done.nd rfl (Or.inl rfl)) pgs_nil)))
    (pss_cons (ps_set (i := 10) sc_done.nd rfl (Or.inl rfl) (pe_h D_halved (hr.mono (by decide)) rfl (pa_cons (pv 10) pa_nil)))
    (pss_one (ps_expr (pe_bm PySem.F.plainAttrs_list PySem.F.slot_list_append PySem.F.type_list_append mt_append (pv 14) (pa_cons (pe_tup (pa_cons (pv 15) (pa_cons (pe_op op_catA (pe_op op_catA (pe_tup (pa_cons pe_str pa_nil)) (pv 16)) (pe_tup (pa_cons (pv 10) pa_nil))) pa_nil))) pa_nil))))))
    (pss_cons (ps_set (i := 17) sc_done.nd rfl (Or.inl rfl) (pe_tup (pa_cons (pe_slice sl_tupA (pv 3) (po_some pe_int) po_none) (pa_cons (pv 4) (pa_cons (pe_op op_add (pv 5) (pv 13)) (pa_cons (pe_op op_add (pv 6) (pv 13)) (pa_cons (pv 7) (pa_cons (pv 8) (pa_cons (pv 9) (pa_cons (pv 10) (pa_cons (pv 11) pa_nil)))))))))))
    (pss_one (ps_ret (pe_h D_ended (hr.mono (by decide)) rfl (pa_cons (pv 1) (pa_cons (pv 17) (pa_cons (pe_callTy call_tuple_of rfl B.tuple (by decide +kernel) (pa_cons (pv 14) pa_nil)) pa_nil))))))))))))))), ?_⟩
  have ea := z.e
  have eb := z.b
  have es := z.s
  have lb : bs.length = st.bag.length := by have := z.t.len; rw [List.length_map] at this; exact this
  have hbel : below m (.int h) = true := by show (decide (0 ≤ h) && decide (h < m)) = true; rw [decide_eq_true h0, decide_eq_true h1]; rfl
  have kF : below m (.int h) = false → ∀ H0 : Hp, E (.ref CH) none H0 := fun e => by rw [hbel] at e; cases e
  refine ⟨_, rfl, _, rfl, NF, w0, m, .ref r, .int h, .int h, rfl, hw, .int _, fun e => kF e _, fun _ => ?_⟩
  refine ⟨_, rfl, a, _, rfl, SqT.of ea, rfl, _, _, rfl, _, _, rfl, _, _, rfl, _, _, rfl, _, _, rfl, _, _, rfl, _, _, rfl, _, _, rfl, _, _, rfl, rfl, ?_⟩
  trivial
  refine ite2 (fun c => ?_) (fun c => ?_)
  · have hb0 : bs = [] := by simpa using of_decide_eq_true c
    have c' : st.bag = [] := List.length_eq_zero_iff.mp (by rw [← lb, hb0]; rfl)
    unfold doneL at k
    rw [c'] at k
    exact k H (Same.refl H)
  have c' : st.bag.length ≠ 0 := fun zz => c (decide_eq_true (by rw [lb, zz]; rfl))
  obtain ⟨t, bag', hbg⟩ : ∃ t b, st.bag = t :: b := List.exists_cons_of_length_pos (by omega)
  have zt := z.t
  rw [hbg, List.map_cons] at zt
  obtain ⟨b0, bs', rfl⟩ : ∃ x y, bs = x :: y := List.exists_cons_of_length_pos (by rw [lb]; omega)
  cases zt with
  | cons rt rts =>
  obtain ⟨ht0, ht1, ht2, ht3⟩ := hbag t (by rw [hbg]; exact List.mem_cons_self ..)
  have a0 : atI (b0 :: bs') 0 = some b0 := atI_nat (show (b0 :: bs')[0]? = some b0 from rfl)
  have hps : ∀ ps ∈ R, ps.length ≤ 1000 := fun ps hp => Nat.le_trans (ok.at_ ps hp).len (by decide)
  have hpair : isPair R.length 13 (taskP t) = true := by
    show (below R.length (.int t.1) && below 13 (.int t.2)) = true
    unfold below
    simp [intOf, ht0, ht1, ht2, ht3]
  have kT : isPair R.length 13 (taskP t) = false → ∀ H0 : Hp, E (.ref CT) none H0 := fun e => by rw [hpair] at e; cases e
  have lL := sent_len (m := m) (h := h) (t := t) ok
  have kd : doneL m R h st = if 0 < (sentL m R h t).length ∧ st.sh.length = 0 then .inl .share else .inr (endL h { st with bag := bag', de := st.de + (sentL m R h t).length, se := st.se + (sentL m R h t).length, sh := st.sh.map (· + ((sentL m R h t).length : Int)) } (outsL st.sh 0 (sentL m R h t))) := by
    unfold doneL
    rw [hbg]
  rw [kd] at k
  refine ⟨_, rfl, _, rfl, _, rfl, _, _, _, _, rfl, rfl, SqT.of eb, a0, NF, w0, r, m, R, .int h, b0, .int h, taskP t, rfl, hw, by have := ok.m1; omega, rr.rp, hps, .int _, rt.rp, fun e => kF e _, fun _ e => kT e _, fun h' k' f' eh ek _ _ T H1 s1 rT => ?_⟩
  cases eh
  cases ek
  rw [sentD_L] at rT
  generalize sentL m R h t = L at *
  cases rT with
  | @tup T xs _ eT _ aT =>
  have lx : xs.length = L.length := by have := aT.length; rw [List.length_map] at this; exact this
  have z1 := z.tk (tk_of s1)
  have es1 := z1.s
  trivial
  refine ⟨fun σ H' => σ = [some (.ref w0), some (.int h), some (.ref a), some (.ref ba), some (optV st.par), some (.int st.de), some (.int st.se), some (.int st.tl), some (.bl st.bk), some gv, some (.ref sa), some (.bl st.sd), some (.ref T), some (.int (xs.length : Nat)), none, none, none, none] ∧ H' = H1 ∧ ¬ (0 < L.length ∧ st.sh.length = 0), ?_, ?_⟩
  · trivial
    refine ite2 (fun c1 => ?_) (fun c1 => ?_)
    · have c1' : 0 < L.length := by have := of_decide_eq_true c1; omega
      trivial
      refine ite2 (fun c2 => ?_) (fun c2 => ?_)
      · have c2' : st.sh.length = 0 := by simpa using of_decide_eq_true c2
        rw [if_pos ⟨c1', c2'⟩] at k
        exact k H1 s1
      · exact ⟨rfl, rfl, fun zz => c2 (decide_eq_true (by rw [List.length_map, zz.2]; rfl))⟩
    · exact ⟨rfl, rfl, fun zz => c1 (decide_eq_true (by omega))⟩
  rintro σ H2 ⟨rfl, rfl, nsh⟩
  rw [if_neg nsh] at k
  trivial
  intro q nq
  have sq := same_new0 (o := .lst []) nq
  have eq : upd H2 q (.lst []) q = some (.lst []) := upd_same
  have hq0 : H2 q = none := nq
  have eT1 := sq _ _ eT
  have es2 := sq _ _ es1
  generalize upd H2 q (.lst []) = H3 at *
  trivial
  refine for_it (walk_tup (xs := xs)) (fun i σ H' => ∃ (sa' : Addr) (os : List V) (v15 v16 : Option V), σ = [some (.ref w0), some (.int h), some (.ref a), some (.ref ba), some (optV st.par), some (.int st.de), some (.int st.se), some (.int st.tl), some (.bl st.bk), some gv, some (.ref sa'), some (.bl st.sd), some (.ref T), some (.int (xs.length : Nat)), some (.ref q), v15, v16, none] ∧ Same H2 H' ∧ H' q = some (.lst os) ∧ os.length = i ∧ TrAll H' os ((outsL st.sh 0 (L.take i)).map outP) ∧ H' sa' = some (.tup ((st.sh.map (· + (i : Int))).map V.int))) ⟨sa, [], none, none, rfl, sq, eq, rfl, .nil, by rw [es2]; congr 3; simp⟩ (fun i σ H' _ q => ?_) (fun i x σ H4 H5 hi q y => ?_) fun σ H4 q => ?_
  · obtain ⟨_, _, _, _, _, s, _⟩ := q
    exact SqT.of (s _ _ eT)
  · obtain ⟨sa', os, v15, v16, rfl, s4, eq4, lo, to, esa⟩ := q
    obtain ⟨rfl, gx⟩ := y
    obtain ⟨dx, _, gdx, rx⟩ := aT.at_ gx
    rw [List.getElem?_map] at gdx
    obtain ⟨⟨to1, k1, f1⟩, gL, rfl⟩ := Option.map_eq_some_iff.mp gdx
    dsimp only [sntP] at rx
    cases rx with
    | @tup pa ys _ ep _ ap =>
    cases ap with
    | cons r1 ap =>
    cases r1
    cases ap with
    | cons r2 ap =>
    cases ap
    cases r2 with
    | @tup pb zs _ eb2 _ ab =>
    cases ab with
    | cons r3 ab =>
    cases r3
    cases ab with
    | cons r4 ab =>
    cases r4
    cases ab
    have ep4 := s4 _ _ ep
    have eb4 := s4 _ _ eb2
    refine ⟨pa, _, rfl, SqT.of ep4, rfl, _, _, rfl, _, _, rfl, rfl, ?_⟩
    refine ⟨_, rfl, sa', _, rfl, esa, by rw [List.length_map]; exact hshl, fun q6 H6 s6 e6 => ?_⟩
    rw [map_add] at e6
    have eb6 := s6 _ _ eb4
    have eq6 := s6 _ _ eq4
    trivial
    intro u1 nu1
    have su1 := same_new0 (o := .tup [.str "task"]) nu1
    have eu1 : upd H6 u1 (.tup [.str "task"]) u1 = some (.tup [.str "task"]) := upd_same
    have eb7 := su1 _ _ eb6
    generalize upd H6 u1 (.tup [.str "task"]) = H7 at *
    refine ⟨_, rfl, cat_go eu1 eb7 (by simp) fun u2 H8 su2 eu2 => ?_⟩
    trivial
    intro u3 nu3
    have su3 := same_new0 (o := .tup [.ref q6]) nu3
    have eu3 : upd H8 u3 (.tup [.ref q6]) u3 = some (.tup [.ref q6]) := upd_same
    have eu23 := su3 _ _ eu2
    generalize upd H8 u3 (.tup [.ref q6]) = H9 at *
    refine cat_go eu23 eu3 (by simp) fun u4 HA su4 eu4 => ?_
    trivial
    intro u5 nu5
    have su5 := same_new0 (o := .tup [.int to1, .ref u4]) nu5
    have eu5 : upd HA u5 (.tup [.int to1, .ref u4]) u5 = some (.tup [.int to1, .ref u4]) := upd_same
    have eu45 := su5 _ _ eu4
    generalize upd HA u5 (.tup [.int to1, .ref u4]) = HB at *
    have s6B := (((su1.trans su2).trans su3).trans su4).trans su5
    have s4B := s6.trans s6B
    have eqB := s4B _ _ eq4
    have e6B := s6B _ _ e6
    trivial
    have hli : i < L.length := by omega
    refine ⟨by rw [sizeLine_eq]; omega, q6, os ++ [.ref u5], _, _, rfl, sput (s4.trans s4B) hq0, upd_same, by rw [List.length_append, lo]; rfl, ?_, ?_⟩
    · have kB : Tk HB (upd HB q (.lst (os ++ [.ref u5]))) := Tk.lst eqB
      rw [List.take_add_one, gL]
      show TrAll _ _ ((outsL st.sh 0 (L.take i ++ [(to1, k1, f1)])).map outP)
      rw [outs_snoc, List.map_append, List.length_take, Nat.min_eq_left (by omega), Nat.zero_add]
      refine TrAll.app ((to.tk (tk_of s4B)).tk kB) (.cons (Tr.tk kB (.tup eu5 (.cons (.int _) (.cons (.tup eu45 (.cons (.str _) (.cons (.int _) (.cons (.int _) (.cons (.tup e6B (tr_ints _)) .nil))))) .nil)))) .nil)
    · have : q6 ≠ q := ne_of e6B eqB (by intro z; cases z)
      rw [upd_ne this, e6B]
      rfl
  · obtain ⟨sa', os, v15, v16, rfl, s4, eq4, lo, to, esa⟩ := q
    have eb4 := (s1.trans s4) _ _ eb
    have z4 := z1.tk (tk_of s4)
    trivial
    rw [cut1]
    intro u1 H5 su1 eu1
    have s5 := s4.trans su1
    trivial
    intro u2 nu2
    have su2 := same_new0 (o := .tup [.ref u1, optV st.par, .int (st.de + (xs.length : Nat)), .int (st.se + (xs.length : Nat)), .int st.tl, .bl st.bk, gv, .ref sa', .bl st.sd]) nu2
    have eu2 : upd H5 u2 (.tup [.ref u1, optV st.par, .int (st.de + (xs.length : Nat)), .int (st.se + (xs.length : Nat)), .int st.tl, .bl st.bk, gv, .ref sa', .bl st.sd]) u2 = some (.tup [.ref u1, optV st.par, .int (st.de + (xs.length : Nat)), .int (st.se + (xs.length : Nat)), .int st.tl, .bl st.bk, gv, .ref sa', .bl st.sd]) := upd_same
    have eu12 := su2 _ _ eu1
    have esa2 := (su1.trans su2) _ _ esa
    have eq2 := (su1.trans su2) _ _ eq4
    have to2 := to.tk (tk_of (su1.trans su2))
    have s6 := s5.trans su2
    generalize upd H5 u2 (.tup [.ref u1, optV st.par, .int (st.de + (xs.length : Nat)), .int (st.se + (xs.length : Nat)), .int st.tl, .bl st.bk, gv, .ref sa', .bl st.sd]) = H6 at *
    trivial
    intro u3 nu3
    have su3 := same_new0 (o := .tup os) nu3
    have s7 := s6.trans su3
    have z7 := z1.tk (tk_of s7)
    rw [lx] at eu2 esa2 to2
    rw [List.take_length] at to2
    refine ⟨h, u2, u3, { st with bag := bag', de := st.de + L.length, se := st.se + L.length, sh := st.sh.map (· + (L.length : Int)) }, os, outsL st.sh 0 L, rfl, ⟨u1, sa', bs', gv, su3 _ _ eu2, su3 _ _ eu12, ?_, z7.g, su3 _ _ esa2⟩, .inl upd_same, (to2.tk (tk_of su3)).tc, by omega, fun T2 H8 s8 t8 => k T2 H8 ((s1.trans s7).trans s8) t8⟩
    exact rts.tk (tk_of (s1.trans s7))
end
end KQ
set_option Elab.async false
set_option maxRecDepth 100000
set_option maxHeartbeats 4000000
namespace KQ
open PySem PySem.Spec PyProof.Rows L2
local macro_rules | `(tactic| walk_at "kq hp") => `(tactic| (first | assumption | exact upd_same | (rw [upd_ne (by first | assumption | exact Ne.symm (by assumption))]; first | assumption | exact upd_same | (rw [upd_ne (by first | assumption | exact Ne.symm (by assumption))]; first | assumption | exact upd_same))))
local macro_rules | `(tactic| walk_at "kq do") => `(tactic| (first | decide | omega))
local macro_rules | `(tactic| walk_at "kq cl") => `(tactic| focus (first | rfl | assumption | exact upd_same | exact SqL.of (by walk_at "kq hp") | exact SqT.of (by walk_at "kq hp") | exact Or.inl (SqL.of (by walk_at "kq hp")) | exact Or.inr (SqT.of (by walk_at "kq hp")) | exact Or.inl ⟨rfl, _, SqL.of (by walk_at "kq hp")⟩ | walk_at "kq hp" | decide | exact Nat.le_of_ble_eq_true rfl | omega | (show ∃ xs, SqL _ _ _ xs; exact ⟨_, SqL.of (by walk_at "kq hp")⟩) | (show ∃ xs, SqT _ _ _ xs; exact ⟨_, SqT.of (by walk_at "kq hp")⟩) | exact DGet.k (k := Sum.inl _) (by walk_at "kq hp") | (show V.int _ = kV (Sum.inl _); rfl) | (show ∃ z, V.str _ = V.str z; exact ⟨_, rfl⟩) | exact Or.inl ⟨by walk_at "kq do", by walk_at "kq do"⟩ | exact Or.inr ⟨by walk_at "kq do", by walk_at "kq do"⟩ | exact ⟨by walk_at "kq do", by walk_at "kq do"⟩ | exact ⟨by decide, by decide, by decide⟩ | exact L2.ClsV.ty _ | exact Dt.ty (by assumption) | exact Dt.kint (by assumption) | exact Dt.kbool (by assumption) | exact Dt.ktuple (by assumption) | exact Dt.klist (by assumption) | exact Dt.kstr (by assumption)))
local macro_rules | `(tactic| trivial) => `(tactic| repeat (first | refine sl_go (by walk_at "kq hp") ?_ | (unfold tNoPart; refine sl_go (by walk_at "kq hp") ?_) | refine cat_go (by walk_at "kq hp") (by walk_at "kq hp") ?_ ?_ | (apply And.intro; walk_at "kq cl") | (apply Exists.intro; apply And.intro; walk_at "kq cl") | (apply Exists.intro; apply Exists.intro; apply And.intro; walk_at "kq cl") | (apply Exists.intro; apply Exists.intro; apply Exists.intro; apply And.intro; walk_at "kq cl") | (apply Exists.intro; apply Exists.intro; apply Exists.intro; apply Exists.intro; apply And.intro; walk_at "kq cl") | (apply Exists.intro; apply Exists.intro; apply Exists.intro; apply Exists.intro; apply Exists.intro; apply And.intro; walk_at "kq cl") | (apply Exists.intro; apply Exists.intro; apply Exists.intro; apply Exists.intro; apply Exists.intro; apply Exists.intro; apply And.intro; walk_at "kq cl") | (apply Exists.intro; apply Exists.intro; apply Exists.intro; apply Exists.intro; apply Exists.intro; apply Exists.intro; apply Exists.intro; apply And.intro; walk_at "kq cl") | (apply Exists.intro; apply Exists.intro; apply Exists.intro; apply Exists.intro; apply Exists.intro; apply Exists.intro; apply Exists.intro; apply Exists.intro; apply And.intro; walk_at "kq cl") | (apply Exists.intro; apply Exists.intro; apply Exists.intro; apply Exists.intro; apply Exists.intro; apply Exists.intro; apply Exists.intro; apply Exists.intro; apply Exists.intro; apply And.intro; walk_at "kq cl") | refine Or.inl ⟨_, rfl, ?_⟩ | refine Or.inr ⟨_, rfl, ?_⟩ | refine Or.inr ⟨SqT.of (by walk_at "kq hp"), SqT.of (by walk_at "kq hp"), ?_⟩ | refine Or.inl ⟨SqL.of (by walk_at "kq hp"), SqL.of (by walk_at "kq hp"), ?_⟩ | refine Or.inl ⟨SqL.of (by walk_at "kq hp"), ?_⟩ | refine Or.inr ⟨SqT.of (by walk_at "kq hp"), ?_⟩ | refine ifT rfl ?_ | refine ifF rfl ?_))
/-- shares that may be summed -/
structure ShOk (ns ms : List Int) : Prop where
  a : Sh ns
  b : Sh ms
  na : ∀ q ∈ ns, q ≤ 1000
  nb : ∀ q ∈ ms, q ≤ 1000
  l : ns.length + ms.length ≤ 1000
def spWSign (CW : Addr) : Sp := fun vs H Q E => ∃ (a g : Addr) (s : Hs) (x y z : Int), vs = [.ref a, .ref g] ∧ HsAt H a s ∧ H g = some (.tup [.int x, .int y, .int z]) ∧ (s.sg.isSome = true → E (.ref CW) none H) ∧
  (s.sg.isSome = false → ∀ T H', Same H H' → HsAt H' T { s with sg := some (x, y, z) } → Q (.ref T) H')
def spWShare (CW : Addr) : Sp := fun vs H Q E => ∃ (a b : Addr) (s : Hs) (ns : List Int), vs = [.ref a, .ref b] ∧ HsAt H a s ∧ H b = some (.tup (ns.map V.int)) ∧ ShOk s.sh ns ∧ (addS 1000 s.sh ns = none → ∀ H', Same H H' → E (.ref CW) none H') ∧
  (∀ ks, addS 1000 s.sh ns = some ks → ∀ T H', Same H H' → HsAt H' T { s with sh := ks } → Q (.ref T) H')
def spHAns (K : PySem.W.Frag) (CW : Addr) : Sp := fun vs H Q E => ∃ (h : Int) (a : Addr) (s : Hs), vs = [.int h, .ref a] ∧ HsAt H a s ∧ (s.de = 0 → E (.ref CW) none H) ∧ (s.de ≠ 0 → ∀ T H', Same H H' → TwoAt K H' T (endL h { s with de := s.de - 1 } []) → Q (.ref T) H')
def spHWord (K : PySem.W.Frag) (CW : Addr) : Sp := fun vs H Q E => ∃ (h snd : Int) (a b : Addr) (s : Hs) (w : Wd), vs = [.int h, .ref a, .int snd, .ref b] ∧ HsAt H a s ∧ WdAt H b w ∧ s.bag.length ≤ 1000 ∧ (∀ k f ns, w = .task k f ns → ShOk s.sh ns) ∧ (∀ ns, w = .share ns → ShOk s.sh ns) ∧
  (match heardL h s snd w with
   | .inl _ => ∀ H', Same H H' → E (.ref CW) none H'
   | .inr p => ∀ T H', Same H H' → TwoAt K H' T p → Q (.ref T) H')
section
variable {P : Program} {w : World} {K : PySem.W.Frag} {mg : Str → Option Value} {base : Heap} {C CH CT CI CS CW AN : Addr} {t1 t2 t3 t4 : Tok}
theorem d_with_sign (F : FunAt K mg "with_sign" s_with_sign) (g_SIGN : mg "SIGN" = some (.int 6 t1)) (x_NoWord : ExcAt K mg "NoWord" CW) (D_with_item : Has P w K mg base 1 "with_item" ["items", "at", "item"] spWithItem) : HasX P w K mg base 2 "with_sign" ["state", "sign"] (spWSign CW) := by
  refine mk_hasX F sc_with_sign (fun _ _ _ _ _ _ us hl => match us, hl with | [_, _], _ => rfl) (fun vs H Q E h => ?_) fun f cdv A outer s H vs Q E hr h => ?_
  · obtain ⟨a, g, st, x, y, z, rfl, _⟩ := h
    rfl
  obtain ⟨a, g, st, x, y, z, rfl, ⟨ba, sa, bs, gv, zz⟩, eg, k1, k2⟩ := h
  refine ⟨_, (pss_cons (ps_if (pt_cmp (pc_notN (pe_ix ix_tup (pv 0) (pe_glob (v := .int 6) rfl g_SIGN ⟨_, rfl⟩) (fun _ _ => rfl))))
    (pss_one (ps_rz rfl (takes_of rfl rfl rfl rfl) x_NoWord rfl))
    pss_nil)
    (pss_one (ps_ret (pe_h D_with_item (hr.mono (by decide)) rfl (pa_cons (pv 0) (pa_cons (pe_glob (v := .int 6) rfl g_SIGN ⟨_, rfl⟩) (pa_cons (pv 1) pa_nil))))))), ?_⟩
  have ea := zz.e
  have a6 : atI [V.ref ba, optV st.par, .int st.de, .int st.se, .int st.tl, .bl st.bk, gv, .ref sa, .bl st.sd] 6 = some gv := atI_nat rfl
  refine ⟨_, rfl, _, _, _, _, rfl, rfl, SqT.of ea, a6, ?_⟩
  have hg := zz.g
  cases hs : st.sg with
  | none =>
    rw [hs] at hg
    cases hg
    refine ⟨false, rfl, ifF rfl ?_⟩
    refine ⟨_, rfl, _, rfl, a, _, 6, _, rfl, ea, by simp, by simp, fun T H1 s1 e1 => ?_⟩
    refine k2 (by rw [hs]; rfl) T H1 s1 ⟨ba, sa, bs, .ref g, ?_, s1 _ _ zz.b, zz.t.tk (tk_of s1), ⟨g, rfl, s1 _ _ eg⟩, s1 _ _ zz.s⟩
    exact e1
  | some p =>
    obtain ⟨x', y', z'⟩ := p
    rw [hs] at hg
    obtain ⟨g', rfl, _⟩ := hg
    refine ⟨true, rfl, ifT rfl ?_⟩
    exact k1 (by rw [hs]; rfl)
theorem d_with_share (F : FunAt K mg "with_share" s_with_share) (g_SHARE : mg "SHARE" = some (.int 7 t1)) (x_NoWord : ExcAt K mg "NoWord" CW) (D_with_item : Has P w K mg base 1 "with_item" ["items", "at", "item"] spWithItem) (D_added : Has P w K mg base 4 "added" ["one", "other"] spAdded) : HasX P w K mg base 5 "with_share" ["state", "share"] (spWShare CW) := by
  refine mk_hasX F sc_with_share (fun _ _ _ _ _ _ us hl => match us, hl with | [_, _], _ => rfl) (fun vs H Q E h => ?_) fun f cdv A outer s H vs Q E hr h => ?_
  · obtain ⟨a, g, st, ns, rfl, _⟩ := h
    rfl
  obtain ⟨a, b, st, ns, rfl, ⟨ba, sa, bs, gv, zz⟩, eb, so, k1, k2⟩ := h
  refine ⟨_, (pss_cons (ps_set (i := 2) sc_with_share.nd rfl (Or.inl rfl) (pe_h D_added (hr.mono (by decide)) rfl (pa_cons (pe_ix ix_tup (pv 0) (pe_glob (v := .int 7) rfl g_SHARE ⟨_, rfl⟩) (fun _ _ => rfl)) (pa_cons (pv 1) pa_nil))))
    (pss_cons (ps_if (pt_cmp (pc_isN (pv 2)))
    (pss_one (ps_rz rfl (takes_of rfl rfl rfl rfl) x_NoWord rfl))
    pss_nil)
    (pss_one (ps_ret (pe_h D_with_item (hr.mono (by decide)) rfl (pa_cons (pv 0) (pa_cons (pe_glob (v := .int 7) rfl g_SHARE ⟨_, rfl⟩) (pa_cons (pv 2) pa_nil)))))))), ?_⟩
  have ea := zz.e
  have a7 : atI [V.ref ba, optV st.par, .int st.de, .int st.se, .int st.tl, .bl st.bk, gv, .ref sa, .bl st.sd] 7 = some (.ref sa) := atI_nat rfl
  refine ⟨_, rfl, _, _, _, _, rfl, rfl, SqT.of ea, a7, _, rfl, 1000, sa, b, st.sh, ns, rfl, zz.s, eb, so.a, so.b, fun q hq => by have := so.na q hq; omega, fun q hq => by have := so.nb q hq; omega, so.l, fun e H1 s1 => ?_, fun ks e _ p H1 s1 ep => ?_⟩
  · refine ⟨_, rfl, ?_⟩
    refine ⟨true, rfl, ifT rfl ?_⟩
    exact k1 e H1 s1
  · refine ⟨_, rfl, ?_⟩
    refine ⟨false, rfl, ifF rfl ?_⟩
    have z1 := zz.tk (tk_of s1)
    refine ⟨_, rfl, _, rfl, a, _, 7, .ref p, rfl, z1.e, by simp, by simp, fun T H2 s2 e2 => ?_⟩
    exact k2 ks e T H2 (s1.trans s2) ⟨ba, p, bs, gv, e2, s2 _ _ z1.b, z1.t.tk (tk_of s2), z1.g.tk (tk_of s2), s2 _ _ ep⟩
theorem d_heard_answer (F : FunAt K mg "heard_answer" s_heard_answer) (x_NoWord : ExcAt K mg "NoWord" CW) (D_ended : Has P w K mg base 1 "ended" ["house", "state", "out"] (spEnded K)) : HasX P w K mg base 2 "heard_answer" ["house", "state"] (spHAns K CW) := by
  refine mk_hasX F sc_heard_answer (fun _ _ _ _ _ _ us hl => match us, hl with | [_, _], _ => rfl) (fun vs H Q E h => ?_) fun f cdv A outer s H vs Q E hr h => ?_
  · obtain ⟨h, a, st, rfl, _⟩ := h
    rfl
  obtain ⟨h, a, st, rfl, ⟨ba, sa, bs, gv, zz⟩, k1, k2⟩ := h
  refine ⟨_, (pss_cons (ps_asg (pv 1) (pg_tup rfl (pgs_cons (pg_name (i := 2) sc_heard_answer.nd rfl (Or.inl rfl)) (pgs_cons (pg_name (i := 3) sc_heard_answer.nd rfl (Or.inl rfl)) (pgs_cons (pg_name (i := 4) sc_heard_answer.nd rfl (Or.inl rfl)) (pgs_cons (pg_name (i := 5) sc_heard_answer.nd rfl (Or.inl rfl)) (pgs_cons (pg_name (i := 6) sc_heard_answer.nd rfl (Or.inl rfl)) (pgs_cons (pg_name (i := 7) sc_heard_answer.nd rfl (Or.inl rfl)) (pgs_cons (pg_name (i := 8) sc_heard_answer.nd rfl (Or.inl rfl)) (pgs_cons (pg_name (i := 9) sc_heard_answer.nd rfl (Or.inl rfl)) (pgs_cons (pg_name (i := 10) sc_heard_answer.nd rfl (Or.inl rfl)) pgs_nil)))))))))))
    (pss_cons (ps_if (pt_cmpR op_eq (pv 4) pe_int (nomark _))
    (pss_one (ps_rz rfl (takes_of rfl rfl rfl rfl) x_NoWord rfl))
    pss_nil)
    (pss_one (ps_ret (pe_h D_ended (hr.mono (by decide)) rfl (pa_cons (pv 0) (pa_cons (pe_tup (pa_cons (pv 2) (pa_cons (pv 3) (pa_cons (pe_op op_sub (pv 4) pe_int) (pa_cons (pv 5) (pa_cons (pv 6) (pa_cons (pv 7) (pa_cons (pv 8) (pa_cons (pv 9) (pa_cons (pv 10) pa_nil)))))))))) (pa_cons (pe_tup pa_nil) pa_nil)))))))), ?_⟩
  have ea := zz.e
  refine ⟨_, rfl, a, _, rfl, SqT.of ea, rfl, _, _, rfl, _, _, rfl, _, _, rfl, _, _, rfl, _, _, rfl, _, _, rfl, _, _, rfl, _, _, rfl, _, _, rfl, rfl, ?_⟩
  trivial
  refine ite2 (fun c => ?_) (fun c => ?_)
  · have c' : st.de = 0 := by simpa using of_decide_eq_true c
    exact k1 c'
  have c' : st.de ≠ 0 := fun z => c (decide_eq_true (by rw [z]))
  trivial
  intro q nq
  have sq := same_new0 (o := .tup [.ref ba, optV st.par, .int (st.de - 1), .int st.se, .int st.tl, .bl st.bk, gv, .ref sa, .bl st.sd]) nq
  have eq : upd H q (.tup [.ref ba, optV st.par, .int (st.de - 1), .int st.se, .int st.tl, .bl st.bk, gv, .ref sa, .bl st.sd]) q = some (.tup [.ref ba, optV st.par, .int (st.de - 1), .int st.se, .int st.tl, .bl st.bk, gv, .ref sa, .bl st.sd]) := upd_same
  generalize upd H q (.tup [.ref ba, optV st.par, .int (st.de - 1), .int st.se, .int st.tl, .bl st.bk, gv, .ref sa, .bl st.sd]) = H1 at *
  trivial
  intro u nu
  have su := same_new0 (o := .tup []) nu
  have z2 := zz.tk (tk_of (sq.trans su))
  exact ⟨h, q, u, { st with de := st.de - 1 }, [], [], rfl, ⟨ba, sa, bs, gv, su _ _ eq, z2.b, z2.t, z2.g, z2.s⟩, .inl upd_same, .nil, by decide, fun T H3 s3 t3 => k2 c' T H3 ((sq.trans su).trans s3) t3⟩
theorem cut_13 {x y z u : V} : cutV [x, y, z, u] (some 1) (some 3) = [y, z] := rfl
theorem d_heard_task (B : Bi mg) (F : FunAt K mg "heard_task" s_heard_task) (g_ANSWER : mg "ANSWER" = some (.ref AN)) (tAN : ∀ H, SqT K H AN [.str "answer"]) (kAN : ∃ o, K.lookup AN = some o ∧ o.cls = .type "tuple") (D_with_share : HasX P w K mg base 5 "with_share" ["state", "share"] (spWShare CW)) :
    HasX P w K mg base 6 "heard_task" ["house", "state", "sender", "word"] (fun vs H Q E => ∃ (h snd : Int) (a b : Addr) (s : Hs) (kk ff : Int) (ns : List Int), vs = [.int h, .ref a, .int snd, .ref b] ∧ HsAt H a s ∧ WdAt H b (.task kk ff ns) ∧ ShOk s.sh ns ∧ s.bag.length ≤ 1000 ∧
      (addS 1000 s.sh ns = none → ∀ H', Same H H' → E (.ref CW) none H') ∧
      (∀ sh, addS 1000 s.sh ns = some sh → ∀ T H', Same H H' → TwoAt K H' T ({ s with bag := s.bag ++ [(kk, ff)], par := some (s.par.getD (if 0 < h then snd else 0)), tl := s.tl + 1, bk := true, sh := sh }, if s.par.isSome then [(snd, .ans)] else []) → Q (.ref T) H')) := by
  refine mk_hasX F sc_heard_task (fun _ _ _ _ _ _ us hl => match us, hl with | [_, _, _, _], _ => rfl) (fun vs H Q E h => ?_) fun f cdv A outer s H vs Q E hr h => ?_
  · obtain ⟨h, snd, a, b, st, kk, ff, ns, rfl, _⟩ := h
    rfl
  obtain ⟨h, snd, a, b, st, kk, ff, ns, rfl, hst, ⟨sw, eb, esw⟩, so, lbg, k1, k2⟩ := h
  refine ⟨_, (pss_cons (ps_asg (pe_hX (takes_of rfl rfl rfl rfl) D_with_share (hr.mono (by decide)) rfl (pa_cons (pv 1) (pa_cons (pe_ix ix_tup (pv 3) pe_int (fun _ _ => rfl)) pa_nil))) (pg_tup rfl (pgs_cons (pg_name (i := 4) sc_heard_task.nd rfl (Or.inl rfl)) (pgs_cons (pg_name (i := 5) sc_heard_task.nd rfl (Or.inl rfl)) (pgs_cons (pg_name (i := 6) sc_heard_task.nd rfl (Or.inl rfl)) (pgs_cons (pg_name (i := 7) sc_heard_task.nd rfl (Or.inl rfl)) (pgs_cons (pg_name (i := 8) sc_heard_task.nd rfl (Or.inl rfl)) (pgs_cons (pg_name (i := 9) sc_heard_task.nd rfl (Or.inl rfl)) (pgs_cons (pg_name (i := 10) sc_heard_task.nd rfl (Or.inl rfl)) (pgs_cons (pg_name (i := 11) sc_heard_task.nd rfl (Or.inl rfl)) (pgs_cons (pg_name (i := 12) sc_heard_task.nd rfl (Or.inl rfl)) pgs_nil)))))))))))
    (C8.pss_cut (ps_if (pt_cmp (pc_isN (pv 5)))
    (pss_cons (ps_set (i := 5) sc_heard_task.nd rfl (Or.inl rfl) (pe_ifExp (pt_cmpR op_gt (pv 0) pe_int (nomark _)) (pv 2) pe_int))
    (pss_one (ps_set (i := 13) sc_heard_task.nd rfl (Or.inl rfl) (pe_tup pa_nil))))
    (pss_one (ps_set (i := 13) sc_heard_task.nd rfl (Or.inl rfl) (pe_tup (pa_cons (pe_tup (pa_cons (pv 2) (pa_cons (pe_glob (v := .ref AN) rfl g_ANSWER rfl) pa_nil))) pa_nil)))))
    (pss_one (ps_ret (pe_tup (pa_cons (pe_tup (pa_cons (pe_op op_catA (pv 4) (pe_tup (pa_cons (pe_slice sl_tupA (pv 3) (po_some pe_int) (po_some pe_int)) pa_nil))) (pa_cons (pv 5) (pa_cons (pv 6) (pa_cons (pv 7) (pa_cons (pe_op op_add (pv 8) pe_int) (pa_cons pe_bl (pa_cons (pv 10) (pa_cons (pv 11) (pa_cons (pv 12) pa_nil)))))))))) (pa_cons (pv 13) pa_nil))))))), ?_⟩
  have a3 : atI [V.str "task", .int kk, .int ff, .ref sw] 3 = some (.ref sw) := atI_nat rfl
  refine ⟨_, rfl, _, rfl, _, _, _, _, rfl, rfl, SqT.of eb, a3, a, sw, st, ns, rfl, hst, esw, so, k1, fun sh e T0 H1 s1 hst1 => ?_⟩
  obtain ⟨ba, sa, bs, gv, zz⟩ := hst1
  have ea := zz.e
  have eb1 := s1 _ _ eb
  have lb : bs.length = st.bag.length := by have := zz.t.len; rw [List.length_map] at this; exact this
  refine ⟨T0, _, rfl, SqT.of ea, rfl, _, _, rfl, _, _, rfl, _, _, rfl, _, _, rfl, _, _, rfl, _, _, rfl, _, _, rfl, _, _, rfl, _, _, rfl, rfl, ?_⟩
  refine ⟨fun σ H' => ∃ (o : Addr) (os : List V), σ = [some (.int h), some (.ref a), some (.int snd), some (.ref b), some (.ref ba), some (.int (st.par.getD (if 0 < h then snd else 0))), some (.int st.de), some (.int st.se), some (.int st.tl), some (.bl st.bk), some gv, some (.ref sa), some (.bl st.sd), some (.ref o)] ∧ Same H1 H' ∧ H' o = some (.tup os) ∧ TcAll K H' os ((if st.par.isSome then [(snd, Wd.ans)] else []).map outP), ?_, ?_⟩
  · cases hp : st.par with
    | none =>
      refine ⟨_, rfl, ?_⟩
      refine ⟨true, rfl, ifT rfl ?_⟩
      trivial
      refine ite2 (fun c => ?_) (fun c => ?_)
      · have c' : 0 < h := of_decide_eq_true c
        trivial
        intro q nq
        refine ⟨q, [], ?_, same_new0 nq, upd_same, .nil⟩
        rw [if_pos c']
        rfl
      · have c' : ¬ 0 < h := of_decide_eq_false (Bool.eq_false_iff.mpr c)
        trivial
        intro q nq
        refine ⟨q, [], ?_, same_new0 nq, upd_same, .nil⟩
        rw [if_neg c']
        rfl
    | some p =>
      refine ⟨_, rfl, ?_⟩
      refine ⟨false, rfl, ifF rfl ?_⟩
      trivial
      intro q1 nq1
      have sq1 := same_new0 (o := .tup [.int snd, .ref AN]) nq1
      have e1 : upd H1 q1 (.tup [.int snd, .ref AN]) q1 = some (.tup [.int snd, .ref AN]) := upd_same
      generalize upd H1 q1 (.tup [.int snd, .ref AN]) = H2 at *
      trivial
      intro q2 nq2
      have sq2 := same_new0 (o := .tup [.ref q1]) nq2
      exact ⟨q2, _, rfl, sq1.trans sq2, upd_same, .cons (.tup (.inl (sq2 _ _ e1)) (.cons (.int _) (.cons (.tup (.inr ⟨tAN, kAN⟩) (.cons (.str _) .nil)) .nil))) .nil⟩
  · rintro σ H2 ⟨o, os, rfl, s2, eo, to⟩
    have z2 := zz.tk (tk_of s2)
    have eb2 := s2 _ _ eb1
    trivial
    rw [cut_13]
    intro q1 H3 sq1 e1
    have ebg := sq1 _ _ z2.b
    trivial
    intro q2 nq2
    have sq2 := same_new0 (o := .tup [.ref q1]) nq2
    have e2 : upd H3 q2 (.tup [.ref q1]) q2 = some (.tup [.ref q1]) := upd_same
    have e12 := sq2 _ _ e1
    have ebg2 := sq2 _ _ ebg
    generalize upd H3 q2 (.tup [.ref q1]) = H4 at *
    refine cat_go ebg2 e2 (by simp; omega) fun q3 H5 sq3 e3 => ?_
    have s25 := (sq1.trans sq2).trans sq3
    have z5 := z2.tk (tk_of s25)
    have e15 := sq3 _ _ e12
    trivial
    intro q4 nq4
    have sq4 := same_new0 (o := .tup [.ref q3, .int (st.par.getD (if 0 < h then snd else 0)), .int st.de, .int st.se, .int (st.tl + 1), .bl true, gv, .ref sa, .bl st.sd]) nq4
    have e4 : upd H5 q4 (.tup [.ref q3, .int (st.par.getD (if 0 < h then snd else 0)), .int st.de, .int st.se, .int (st.tl + 1), .bl true, gv, .ref sa, .bl st.sd]) q4 = some (.tup [.ref q3, .int (st.par.getD (if 0 < h then snd else 0)), .int st.de, .int st.se, .int (st.tl + 1), .bl true, gv, .ref sa, .bl st.sd]) := upd_same
    generalize upd H5 q4 (.tup [.ref q3, .int (st.par.getD (if 0 < h then snd else 0)), .int st.de, .int st.se, .int (st.tl + 1), .bl true, gv, .ref sa, .bl st.sd]) = H6 at *
    trivial
    intro T nT
    have sT := same_new0 (o := .tup [.ref q4, .ref o]) nT
    have s56 := sq4.trans sT
    have s26 := s25.trans s56
    refine k2 sh e T _ ((s1.trans s2).trans s26) ⟨q4, o, os, upd_same, ⟨q3, sa, bs ++ [.ref q1], gv, sT _ _ e4, s56 _ _ e3, ?_, z5.g.tk (tk_of s56), s56 _ _ z5.s⟩, .inl (s26 _ _ eo), to.tk (tk_of s26)⟩
    show TrAll _ _ ((st.bag ++ [(kk, ff)]).map taskP)
    rw [List.map_append]
    exact (z5.t.tk (tk_of s56)).app (.cons (.tup (s56 _ _ e15) (.cons (.int _) (.cons (.int _) .nil))) .nil)
end
end KQ
set_option Elab.async false
set_option maxRecDepth 100000
set_option maxHeartbeats 4000000
namespace KQ
open PySem PySem.Spec PyProof.Rows L2
local macro_rules | `(tactic| walk_at "kq hp") => `(tactic| (first | assumption | exact upd_same | (rw [upd_ne (by first | assumption | exact Ne.symm (by assumption))]; first | assumption | exact upd_same | (rw [upd_ne (by first | assumption | exact Ne.symm (by assumption))]; first | assumption | exact upd_same))))
local macro_rules | `(tactic| walk_at "kq do") => `(tactic| (first | decide | omega))
local macro_rules | `(tactic| walk_at "kq cl") => `(tactic| focus (first | rfl | assumption | exact upd_same | exact SqL.of (by walk_at "kq hp") | exact SqT.of (by walk_at "kq hp") | exact Or.inl (SqL.of (by walk_at "kq hp")) | exact Or.inr (SqT.of (by walk_at "kq hp")) | exact Or.inl ⟨rfl, _, SqL.of (by walk_at "kq hp")⟩ | walk_at "kq hp" | decide | exact Nat.le_of_ble_eq_true rfl | omega | (show ∃ xs, SqL _ _ _ xs; exact ⟨_, SqL.of (by walk_at "kq hp")⟩) | (show ∃ xs, SqT _ _ _ xs; exact ⟨_, SqT.of (by walk_at "kq hp")⟩) | exact DGet.k (k := Sum.inl _) (by walk_at "kq hp") | (show V.int _ = kV (Sum.inl _); rfl) | (show ∃ z, V.str _ = V.str z; exact ⟨_, rfl⟩) | exact Or.inl ⟨by walk_at "kq do", by walk_at "kq do"⟩ | exact Or.inr ⟨by walk_at "kq do", by walk_at "kq do"⟩ | exact ⟨by walk_at "kq do", by walk_at "kq do"⟩ | exact ⟨by decide, by decide, by decide⟩ | exact L2.ClsV.ty _ | exact Dt.ty (by assumption) | exact Dt.kint (by assumption) | exact Dt.kbool (by assumption) | exact Dt.ktuple (by assumption) | exact Dt.klist (by assumption) | exact Dt.kstr (by assumption)))
local macro_rules | `(tactic| trivial) => `(tactic| repeat (first | refine sl_go (by walk_at "kq hp") ?_ | (unfold tNoPart; refine sl_go (by walk_at "kq hp") ?_) | refine cat_go (by walk_at "kq hp") (by walk_at "kq hp") ?_ ?_ | (apply And.intro; walk_at "kq cl") | (apply Exists.intro; apply And.intro; walk_at "kq cl") | (apply Exists.intro; apply Exists.intro; apply And.intro; walk_at "kq cl") | (apply Exists.intro; apply Exists.intro; apply Exists.intro; apply And.intro; walk_at "kq cl") | (apply Exists.intro; apply Exists.intro; apply Exists.intro; apply Exists.intro; apply And.intro; walk_at "kq cl") | (apply Exists.intro; apply Exists.intro; apply Exists.intro; apply Exists.intro; apply Exists.intro; apply And.intro; walk_at "kq cl") | (apply Exists.intro; apply Exists.intro; apply Exists.intro; apply Exists.intro; apply Exists.intro; apply Exists.intro; apply And.intro; walk_at "kq cl") | (apply Exists.intro; apply Exists.intro; apply Exists.intro; apply Exists.intro; apply Exists.intro; apply Exists.intro; apply Exists.intro; apply And.intro; walk_at "kq cl") | (apply Exists.intro; apply Exists.intro; apply Exists.intro; apply Exists.intro; apply Exists.intro; apply Exists.intro; apply Exists.intro; apply Exists.intro; apply And.intro; walk_at "kq cl") | (apply Exists.intro; apply Exists.intro; apply Exists.intro; apply Exists.intro; apply Exists.intro; apply Exists.intro; apply Exists.intro; apply Exists.intro; apply Exists.intro; apply And.intro; walk_at "kq cl") | refine Or.inl ⟨_, rfl, ?_⟩ | refine Or.inr ⟨_, rfl, ?_⟩ | refine Or.inr ⟨SqT.of (by walk_at "kq hp"), SqT.of (by walk_at "kq hp"), ?_⟩ | refine Or.inl ⟨SqL.of (by walk_at "kq hp"), SqL.of (by walk_at "kq hp"), ?_⟩ | refine Or.inl ⟨SqL.of (by walk_at "kq hp"), ?_⟩ | refine Or.inr ⟨SqT.of (by walk_at "kq hp"), ?_⟩ | refine ifT rfl ?_ | refine ifF rfl ?_))
def OkWd (R : Rules) : Wd → Prop
  | .task k f ns => 0 ≤ k ∧ k < R.length ∧ 0 ≤ f ∧ f < 13 ∧ Sh ns ∧ 0 < ns.length ∧ ns.length ≤ 1000
  | .ans => True
  | .sign a b c => 0 ≤ a ∧ 0 ≤ b ∧ 0 ≤ c ∧ c < 2
  | .share ns => Sh ns ∧ 0 < ns.length ∧ ns.length ≤ 1000
  | .mark n => 0 ≤ n ∧ n < 1000
def spSign3 : Sp := fun vs H Q _ => ∃ (g : Addr) (a b c : Int), vs = [.ref g] ∧ H g = some (.tup [.int a, .int b, .int c]) ∧ 0 ≤ a ∧ 0 ≤ b ∧ 0 ≤ c ∧ c < 2 ∧ Q (.bl true) H
def spIsWord (C : Addr) : Sp := fun vs H Q _ => ∃ (w r b : Addr) (m : Int) (R : Rules) (wd : Wd), vs = [.ref w, .ref b] ∧ WorksAt C H w (.int m) (.ref r) ∧ Tr H (.ref r) (rulesD R) ∧ WdAt H b wd ∧ OkWd R wd ∧ ∀ H', Same H H' → Q (.bl true) H'
def spHeard (K : PySem.W.Frag) (C CW : Addr) : Sp := fun vs H Q E => ∃ (w r a b : Addr) (m h snd : Int) (R : Rules) (s : Hs) (wd : Wd), vs = [.ref w, .int h, .ref a, .int snd, .ref b] ∧ WorksAt C H w (.int m) (.ref r) ∧ Tr H (.ref r) (rulesD R) ∧ 0 ≤ h ∧ h < m ∧ 0 ≤ snd ∧ snd < m ∧ HsAt H a s ∧ WdAt H b wd ∧ OkWd R wd ∧ s.bag.length ≤ 1000 ∧
  (∀ k f ns, wd = .task k f ns → ShOk s.sh ns) ∧ (∀ ns, wd = .share ns → ShOk s.sh ns) ∧
  (match heardL h s snd wd with
   | .inl _ => ∀ H', Same H H' → E (.ref CW) none H'
   | .inr p => ∀ T H', Same H H' → TwoAt K H' T p → Q (.ref T) H')
theorem below_t {b i : Int} (h0 : 0 ≤ i) (h1 : i < b) : below b (.int i) = true := by
  show (decide (0 ≤ i) && decide (i < b)) = true
  rw [decide_eq_true h0, decide_eq_true h1]
  rfl
theorem sh_tg {H : Hp} {a : Addr} {ns : List Int} (e : H a = some (.tup (ns.map V.int))) (l : ns.length ≤ 1000) : Tg H (.ref a) := ⟨⟨_, .tup e⟩, fun b xs eb ex => by
  cases eb
  rw [e] at ex
  cases ex
  refine ⟨by rw [List.length_map]; exact l, fun x hx => ?_⟩
  obtain ⟨i, _, rfl⟩ := List.mem_map.mp hx
  exact ⟨_, .int i⟩⟩
theorem intsV (ns : List Int) : (ns.map V.int).map intV = ns := by rw [List.map_map]; exact List.map_id' ns
section
variable {P : Program} {w : World} {K : PySem.W.Frag} {mg : Str → Option Value} {base : Heap} {C CH CT CI CS CW AN : Addr} {t1 t2 t3 t4 : Tok}
theorem d_is_sign (B : Bi mg) (F : FunAt K mg "is_sign" s_is_sign) (D_is_tuple_of : Has P w K mg base 1 "is_tuple_of" ["many", "thing"] spTupOf) (D_is_number : Has P w K mg base 1 "is_number" ["thing"] spIsNumber) (D_is_below : Has P w K mg base 2 "is_below" ["bound", "thing"] spIsBelow) : Has P w K mg base 3 "is_sign" ["thing"] spSign3 := by
  refine mk_has F sc_is_sign (fun _ _ _ _ _ _ us hl => match us, hl with | [_], _ => rfl) (fun vs H Q E h => ?_) fun f cdv A outer s H vs Q E hr h => ?_
  · obtain ⟨g, a, b, c, rfl, _⟩ := h
    rfl
  obtain ⟨g, a, b, c, rfl, eg, h0, h1, h2, h3, k⟩ := h
  refine ⟨_, (pss_one (ps_ret (pe_and (pe_h D_is_tuple_of (hr.mono (by decide)) rfl (pa_cons pe_int (pa_cons (pv 0) pa_nil))) (pe_and (pe_h D_is_number (hr.mono (by decide)) rfl (pa_cons (pe_ix ix_tup (pv 0) pe_int (fun _ _ => rfl)) pa_nil)) (pe_and (pe_h D_is_number (hr.mono (by decide)) rfl (pa_cons (pe_ix ix_tup (pv 0) pe_int (fun _ _ => rfl)) pa_nil)) (pe_one (pe_h D_is_below (hr.mono (by decide)) rfl (pa_cons pe_int (pa_cons (pe_ix ix_tup (pv 0) pe_int (fun _ _ => rfl)) pa_nil))))))))), ?_⟩
  have rg : Rp NF H (.ref g) (.tuple [.int a, .int b, .int c]) := .tup eg (fun z => z) (.cons (.int _) (.cons (.int _) (.cons (.int _) .nil)))
  have a0 : atI [V.int a, .int b, .int c] 0 = some (.int a) := atI_nat rfl
  have a1 : atI [V.int a, .int b, .int c] 1 = some (.int b) := atI_nat rfl
  have a2 : atI [V.int a, .int b, .int c] 2 = some (.int c) := atI_nat rfl
  refine ⟨_, rfl, NF, .ref g, _, 3, rfl, rg, true, rfl, ifT rfl ?_⟩
  refine ⟨_, rfl, _, _, _, _, rfl, rfl, SqT.of eg, a0, NF, .int a, .int a, rfl, .int _, true, by show V.bl (decide (0 ≤ a)) = _; rw [decide_eq_true h0], ifT rfl ?_⟩
  refine ⟨_, rfl, _, _, _, _, rfl, rfl, SqT.of eg, a1, NF, .int b, .int b, rfl, .int _, true, by show V.bl (decide (0 ≤ b)) = _; rw [decide_eq_true h1], ifT rfl ?_⟩
  refine ⟨_, rfl, _, _, _, _, rfl, rfl, SqT.of eg, a2, NF, .int c, .int c, _, rfl, .int _, ?_⟩
  rw [below_t h2 h3]
  exact k
theorem d_is_word (B : Bi mg) (F : FunAt K mg "is_word" s_is_word) (g_PICTURES : mg "PICTURES" = some (.int 1000 t1)) (D_is_sign : Has P w K mg base 3 "is_sign" ["thing"] spSign3) (D_is_task : Has P w K mg base 3 "is_task" ["works", "thing"] (spIsTask C)) (D_is_some_share : Has P w K mg base 4 "is_some_share" ["thing"] (spTup fun xs => shL xs && decide (0 < xs.length))) (D_is_below : Has P w K mg base 2 "is_below" ["bound", "thing"] spIsBelow) : Has P w K mg base 5 "is_word" ["works", "thing"] (spIsWord C) := by
  refine mk_has F sc_is_word (fun _ _ _ _ _ _ us hl => match us, hl with | [_, _], _ => rfl) (fun vs H Q E h => ?_) fun f cdv A outer s H vs Q E hr h => ?_
  · obtain ⟨w, r, b, m, R, wd, rfl, _⟩ := h
    rfl
  obtain ⟨w0, r, b, m, R, wd, rfl, hw, tr, hb, ow, k⟩ := h
  refine ⟨_, (pss_cons (ps_if (PW.pt (pw_or (pt_not (pt_val (pe_callB call_isi rfl B.isinstance (by decide +kernel) (pa_cons (pv 1) (pa_cons (pe_bltn (v := .ty "tuple") rfl B.tuple (by decide +kernel) rfl) pa_nil))))) (pw_or (pt_cmpR op_eq (pe_callB call_len_seq rfl B.len PySem.boot_len (pa_cons (pv 1) pa_nil)) pe_int (nomark _)) (pw_or1 (pt_not (pt_val (pe_callB call_isi rfl B.isinstance (by decide +kernel) (pa_cons (pe_ix ix_tup (pv 1) pe_int (fun _ _ => rfl)) (pa_cons (pe_bltn (v := .ty "str") rfl B.str (by decide +kernel) rfl) pa_nil)))))))))
    (pss_one (ps_ret pe_bl))
    pss_nil)
    (pss_cons (ps_par (i := 2) (j := 3) rfl sc_is_word.nd rfl rfl (by decide) rfl rfl (pa_cons (pe_ix ix_tup (pv 1) pe_int (fun _ _ => rfl)) (pa_cons (pe_slice sl_tupA (pv 1) (po_some pe_int) po_none) pa_nil)) rfl)
    (pss_cons (ps_if (pt_cmpR op_eq (pv 2) pe_str (nomark _))
    (pss_one (ps_ret (pe_and (pe_cmpR op_eq (pe_callB call_len_seq rfl B.len PySem.boot_len (pa_cons (pv 3) pa_nil)) pe_int (nomark _)) (pe_and (pe_h D_is_task (hr.mono (by decide)) rfl (pa_cons (pv 0) (pa_cons (pe_slice sl_tupA (pv 3) po_none (po_some pe_int)) pa_nil))) (pe_one (pe_h D_is_some_share (hr.mono (by decide)) rfl (pa_cons (pe_ix ix_tup (pv 3) pe_int (fun _ _ => rfl)) pa_nil)))))))
    pss_nil)
    (pss_cons (ps_if (pt_cmpR op_eq (pv 2) pe_str (nomark _))
    (pss_one (ps_ret (pe_cmpR op_eq (pe_callB call_len_seq rfl B.len PySem.boot_len (pa_cons (pv 3) pa_nil)) pe_int (nomark _))))
    pss_nil)
    (pss_cons (ps_if (pt_cmpR op_eq (pv 2) pe_str (nomark _))
    (pss_one (ps_ret (pe_h D_is_sign (hr.mono (by decide)) rfl (pa_cons (pv 3) pa_nil))))
    pss_nil)
    (pss_cons (ps_if (pt_cmpR op_eq (pv 2) pe_str (nomark _))
    (pss_one (ps_ret (pe_and (pe_cmpR op_eq (pe_callB call_len_seq rfl B.len PySem.boot_len (pa_cons (pv 3) pa_nil)) pe_int (nomark _)) (pe_one (pe_h D_is_some_share (hr.mono (by decide)) rfl (pa_cons (pe_ix ix_tup (pv 3) pe_int (fun _ _ => rfl)) pa_nil))))))
    pss_nil)
    (pss_one (ps_ret (pe_and (pe_cmpR op_eq (pv 2) pe_str (nomark _)) (pe_and (pe_cmpR op_eq (pe_callB call_len_seq rfl B.len PySem.boot_len (pa_cons (pv 3) pa_nil)) pe_int (nomark _)) (pe_one (pe_h D_is_below (hr.mono (by decide)) rfl (pa_cons (pe_glob (v := .int 1000) rfl g_PICTURES ⟨_, rfl⟩) (pa_cons (pe_ix ix_tup (pv 3) pe_int (fun _ _ => rfl)) pa_nil)))))))))))))), ?_⟩
  have shT : ∀ {H1 : Hp} {sw : Addr} {ns : List Int}, H1 sw = some (.tup (ns.map V.int)) → Sh ns → 0 < ns.length → tupB (fun xs => shL xs && decide (0 < xs.length)) H1 (.ref sw) = true := fun {H1 sw ns} e o l => by
    rw [tupB_at e]
    show (shL (ns.map V.int) && decide (0 < (ns.map V.int).length)) = true
    rw [shL_iff.mpr o, List.length_map, decide_eq_true l]
    rfl
  cases wd with
  | task kk ff ns =>
    obtain ⟨sw, eb, es⟩ := hb
    obtain ⟨o1, o2, o3, o4, o5, o6, o7⟩ := ow
    have d0 := Dt.tup eb
    have a0 : atI [V.str "task", .int kk, .int ff, .ref sw] 0 = some (.str "task") := atI_nat rfl
    have dS : Dt H (.str "task") "str" := .str _
    trivial
    rw [cut1]
    intro q H1 s1 e1
    have e1 : H1 q = some (.tup [.int kk, .int ff, .ref sw]) := e1
    have hw1 := hw.same s1
    refine ⟨_, _, rfl, ?_⟩
    refine ⟨_, rfl, ?_⟩
    trivial
    rw [show cutV [V.int kk, .int ff, .ref sw] none (some 2) = [.int kk, .int ff] from rfl]
    intro q2 H2 s2 e2
    have e12 := s2 _ _ e1
    have es2 := s2 _ _ (s1 _ _ es)
    cases tr with
    | @tup _ rs _ er ar =>
    have lr : rs.length = R.length := by have := ar.len; rw [List.length_map] at this; exact this
    have hp : isPair rs.length 13 (.tuple [.int kk, .int ff]) = true := by
      show (below rs.length (.int kk) && below 13 (.int ff)) = true
      rw [below_t o1 (by omega), below_t o3 o4]
      rfl
    have a2 : atI [V.int kk, .int ff, .ref sw] 2 = some (.ref sw) := atI_nat rfl
    refine ⟨NF, w0, r, .int m, .ref q2, rs, .tuple [.int kk, .int ff], rfl, hw1.same s2, s2 _ _ (s1 _ _ er), .tup e2 (fun z => z) (.cons (.int _) (.cons (.int _) .nil)), true, congrArg V.bl hp, ifT rfl ?_⟩
    refine ⟨_, rfl, _, _, _, _, rfl, rfl, SqT.of e12, a2, .ref sw, rfl, sh_tg es2 o7, fun H3 s3 => ?_⟩
    exact okB (shT es2 o5 o6) (k H3 ((s1.trans s2).trans s3))
  | ans =>
    have d0 := Dt.tup hb
    have a0 : atI [V.str "answer"] 0 = some (.str "answer") := atI_nat rfl
    have dS : Dt H (.str "answer") "str" := .str _
    trivial
    rw [cut1]
    intro q H1 s1 e1
    have e1 : H1 q = some (.tup []) := e1
    refine ⟨_, _, rfl, ?_⟩
    refine ⟨_, rfl, ?_⟩
    trivial
    exact okB (by simp) (k H1 s1)
  | sign x y z =>
    obtain ⟨o1, o2, o3, o4⟩ := ow
    have d0 := Dt.tup hb
    have a0 : atI [V.str "sign", .int x, .int y, .int z] 0 = some (.str "sign") := atI_nat rfl
    have dS : Dt H (.str "sign") "str" := .str _
    trivial
    rw [cut1]
    intro q H1 s1 e1
    have e1 : H1 q = some (.tup [.int x, .int y, .int z]) := e1
    refine ⟨_, _, rfl, ?_⟩
    refine ⟨_, rfl, ?_⟩
    trivial
    exact k H1 s1
  | share ns =>
    obtain ⟨sw, eb, es⟩ := hb
    obtain ⟨o5, o6, o7⟩ := ow
    have d0 := Dt.tup eb
    have a0 : atI [V.str "share", .ref sw] 0 = some (.str "share") := atI_nat rfl
    have dS : Dt H (.str "share") "str" := .str _
    trivial
    rw [cut1]
    intro q H1 s1 e1
    have e1 : H1 q = some (.tup [.ref sw]) := e1
    have es1 := s1 _ _ es
    have a0' : atI [V.ref sw] 0 = some (.ref sw) := atI_nat rfl
    refine ⟨_, _, rfl, ?_⟩
    refine ⟨_, rfl, ?_⟩
    trivial
    exact ⟨sh_tg es1 o7, fun H3 s3 => okB (shT es1 o5 o6) (k H3 (s1.trans s3))⟩
  | mark n =>
    obtain ⟨o5, o6⟩ := ow
    have d0 := Dt.tup hb
    have a0 : atI [V.str "mark", .int n] 0 = some (.str "mark") := atI_nat rfl
    have dS : Dt H (.str "mark") "str" := .str _
    trivial
    rw [cut1]
    intro q H1 s1 e1
    have e1 : H1 q = some (.tup [.int n]) := e1
    have a0' : atI [V.int n] 0 = some (.int n) := atI_nat rfl
    refine ⟨_, _, rfl, ?_⟩
    refine ⟨_, rfl, ?_⟩
    trivial
    all_goals first | exact ⟨(Rp.int n : Rp NF H1 (.int n) (.int n)), okB (below_t o5 o6) (k H1 s1)⟩ | skip
theorem d_heard_word (B : Bi mg) (F : FunAt K mg "heard_word" s_heard_word) (x_NoWord : ExcAt K mg "NoWord" CW) (D_heard_answer : HasX P w K mg base 2 "heard_answer" ["house", "state"] (spHAns K CW)) (D_with_sign : HasX P w K mg base 2 "with_sign" ["state", "sign"] (spWSign CW)) (D_with_share : HasX P w K mg base 5 "with_share" ["state", "share"] (spWShare CW))
    (D_heard_task : HasX P w K mg base 6 "heard_task" ["house", "state", "sender", "word"] (fun vs H Q E => ∃ (h snd : Int) (a b : Addr) (s : Hs) (kk ff : Int) (ns : List Int), vs = [.int h, .ref a, .int snd, .ref b] ∧ HsAt H a s ∧ WdAt H b (.task kk ff ns) ∧ ShOk s.sh ns ∧ s.bag.length ≤ 1000 ∧
      (addS 1000 s.sh ns = none → ∀ H', Same H H' → E (.ref CW) none H') ∧
      (∀ sh, addS 1000 s.sh ns = some sh → ∀ T H', Same H H' → TwoAt K H' T ({ s with bag := s.bag ++ [(kk, ff)], par := some (s.par.getD (if 0 < h then snd else 0)), tl := s.tl + 1, bk := true, sh := sh }, if s.par.isSome then [(snd, .ans)] else []) → Q (.ref T) H'))) :
    HasX P w K mg base 7 "heard_word" ["house", "state", "sender", "word"] (spHWord K CW) := by
  refine mk_hasX F sc_heard_word (fun _ _ _ _ _ _ us hl => match us, hl with | [_, _, _, _], _ => rfl) (fun vs H Q E h => ?_) fun f cdv A outer s H vs Q E hr h => ?_
  · obtain ⟨h, snd, a, b, st, wd, rfl, _⟩ := h
    rfl
  obtain ⟨h, snd, a, b, st, wd, rfl, hst, hb, lbg, so1, so2, k⟩ := h
  refine ⟨_, (pss_cons (ps_set (i := 4) sc_heard_word.nd rfl (Or.inl rfl) (pe_ix ix_tup (pv 3) pe_int (fun _ _ => rfl)))
    (pss_cons (ps_if (pt_cmpR op_eq (pv 4) pe_str (nomark _))
    (pss_one (ps_ret (pe_hX (takes_of rfl rfl rfl rfl) D_heard_task (hr.mono (by decide)) rfl (pa_cons (pv 0) (pa_cons (pv 1) (pa_cons (pv 2) (pa_cons (pv 3) pa_nil)))))))
    pss_nil)
    (pss_cons (ps_if (pt_cmpR op_eq (pv 4) pe_str (nomark _))
    (pss_one (ps_ret (pe_hX (takes_of rfl rfl rfl rfl) D_heard_answer (hr.mono (by decide)) rfl (pa_cons (pv 0) (pa_cons (pv 1) pa_nil)))))
    pss_nil)
    (pss_cons (ps_if (pt_cmpR op_eq (pv 4) pe_str (nomark _))
    (pss_one (ps_ret (pe_tup (pa_cons (pe_hX (takes_of rfl rfl rfl rfl) D_with_sign (hr.mono (by decide)) rfl (pa_cons (pv 1) (pa_cons (pe_slice sl_tupA (pv 3) (po_some pe_int) po_none) pa_nil))) (pa_cons (pe_tup pa_nil) pa_nil)))))
    pss_nil)
    (pss_cons (ps_if (pt_cmpR op_eq (pv 4) pe_str (nomark _))
    (pss_cons (ps_if (pt_cmpR op_gt (pv 0) pe_int (nomark _))
    (pss_one (ps_rz rfl (takes_of rfl rfl rfl rfl) x_NoWord rfl))
    pss_nil)
    (pss_one (ps_ret (pe_tup (pa_cons (pe_hX (takes_of rfl rfl rfl rfl) D_with_share (hr.mono (by decide)) rfl (pa_cons (pv 1) (pa_cons (pe_ix ix_tup (pv 3) pe_int (fun _ _ => rfl)) pa_nil))) (pa_cons (pe_tup pa_nil) pa_nil))))))
    pss_nil)
    (pss_one (ps_ret (pe_tup (pa_cons (pv 1) (pa_cons (pe_tup pa_nil) pa_nil)))))))))), ?_⟩
  cases wd with
  | task kk ff ns =>
    dsimp only [heardL] at k
    obtain ⟨sw, eb, es⟩ := id hb
    have a0 : atI [V.str "task", .int kk, .int ff, .ref sw] 0 = some (.str "task") := atI_nat rfl
    have so := so1 _ _ _ rfl
    refine ⟨_, rfl, _, _, _, _, rfl, rfl, SqT.of eb, a0, ?_⟩
    trivial
    refine ⟨fun e => ?_, fun sh e => ?_⟩
    · simp only [e] at k
      exact k
    · simp only [e] at k
      exact k
  | ans =>
    dsimp only [heardL] at k
    have a0 : atI [V.str "answer"] 0 = some (.str "answer") := atI_nat rfl
    refine ⟨_, rfl, _, _, _, _, rfl, rfl, SqT.of hb, a0, ?_⟩
    trivial
    refine ⟨fun e => ?_, fun e => ?_⟩
    · rw [if_pos e] at k
      exact k H (Same.refl H)
    · rw [if_neg e] at k
      exact k
  | sign x y z =>
    dsimp only [heardL] at k
    have a0 : atI [V.str "sign", .int x, .int y, .int z] 0 = some (.str "sign") := atI_nat rfl
    refine ⟨_, rfl, _, _, _, _, rfl, rfl, SqT.of hb, a0, ?_⟩
    trivial
    rw [cut1]
    intro q H1 s1 e1
    have e1 : H1 q = some (.tup [.int x, .int y, .int z]) := e1
    have hst1 := hst.tk (tk_of s1)
    refine ⟨a, q, st, x, y, z, rfl, hst1, e1, fun e => ?_, fun e T H2 s2 t2 => ?_⟩
    · rw [if_pos e] at k
      exact k H1 s1
    · rw [if_neg (by rw [e]; decide)] at k
      trivial
      intro u nu
      have su := same_new0 (o := .tup []) nu
      have eu : upd H2 u (.tup []) u = some (.tup []) := upd_same
      have t2u := t2.tk (tk_of su)
      generalize upd H2 u (.tup []) = H3 at *
      trivial
      intro T2 nT2
      have sT := same_new0 (o := .tup [.ref T, .ref u]) nT2
      exact k T2 _ (((s1.trans s2).trans su).trans sT) ⟨T, u, [], upd_same, t2u.tk (tk_of sT), .inl (sT _ _ eu), .nil⟩
  | share ns =>
    dsimp only [heardL] at k
    obtain ⟨sw, eb, es⟩ := id hb
    have so := so2 _ rfl
    have a0 : atI [V.str "share", .ref sw] 0 = some (.str "share") := atI_nat rfl
    have a1 : atI [V.str "share", .ref sw] 1 = some (.ref sw) := atI_nat rfl
    refine ⟨_, rfl, _, _, _, _, rfl, rfl, SqT.of eb, a0, ?_⟩
    trivial
    refine ite2 (fun c => ?_) (fun c => ?_)
    · have c' : 0 < h := of_decide_eq_true c
      rw [if_pos c'] at k
      exact k H (Same.refl H)
    · have c' : ¬ 0 < h := of_decide_eq_false (Bool.eq_false_iff.mpr c)
      rw [if_neg c'] at k
      refine ⟨_, rfl, _, rfl, _, _, _, _, rfl, rfl, SqT.of eb, a1, a, sw, st, ns, rfl, hst, es, so, fun e => ?_, fun sh e T H2 s2 t2 => ?_⟩
      · simp only [e] at k
        exact k
      · simp only [e] at k
        trivial
        intro u nu
        have su := same_new0 (o := .tup []) nu
        have eu : upd H2 u (.tup []) u = some (.tup []) := upd_same
        have t2u := t2.tk (tk_of su)
        generalize upd H2 u (.tup []) = H3 at *
        trivial
        intro T2 nT2
        have sT := same_new0 (o := .tup [.ref T, .ref u]) nT2
        exact k T2 _ ((s2.trans su).trans sT) ⟨T, u, [], upd_same, t2u.tk (tk_of sT), .inl (sT _ _ eu), .nil⟩
  | mark n =>
    dsimp only [heardL] at k
    have a0 : atI [V.str "mark", .int n] 0 = some (.str "mark") := atI_nat rfl
    refine ⟨_, rfl, _, _, _, _, rfl, rfl, SqT.of hb, a0, ?_⟩
    trivial
    intro u nu
    have su := same_new0 (o := .tup []) nu
    have eu : upd H u (.tup []) u = some (.tup []) := upd_same
    have t2u := hst.tk (tk_of su)
    generalize upd H u (.tup []) = H3 at *
    trivial
    intro T2 nT2
    have sT := same_new0 (o := .tup [.ref a, .ref u]) nT2
    exact k T2 _ (su.trans sT) ⟨a, u, [], upd_same, t2u.tk (tk_of sT), .inl (sT _ _ eu), .nil⟩
theorem d_heard (F : FunAt K mg "heard" s_heard) (x_NoWord : ExcAt K mg "NoWord" CW) (D_check_house : HasX P w K mg base 4 "check_house" ["works", "house"] (spCheckHouse C CH)) (D_is_word : Has P w K mg base 5 "is_word" ["works", "thing"] (spIsWord C)) (D_heard_word : HasX P w K mg base 7 "heard_word" ["house", "state", "sender", "word"] (spHWord K CW)) : HasX P w K mg base 8 "heard" ["works", "house", "state", "sender", "word"] (spHeard K C CW) := by
  refine mk_hasX F sc_heard (fun _ _ _ _ _ _ us hl => match us, hl with | [_, _, _, _, _], _ => rfl) (fun vs H Q E h => ?_) fun f cdv A outer s H vs Q E hr h => ?_
  · obtain ⟨w, r, a, b, m, h, snd, R, st, wd, rfl, _⟩ := h
    rfl
  obtain ⟨w0, r, a, b, m, h, snd, R, st, wd, rfl, hw, tr, h0, h1, h2, h3, hst, hb, ow, lbg, so1, so2, k⟩ := h
  refine ⟨_, (pss_cons (ps_expr (pe_hX (takes_of rfl rfl rfl rfl) D_check_house (hr.mono (by decide)) rfl (pa_cons (pv 0) (pa_cons (pv 1) pa_nil))))
    (pss_cons (ps_expr (pe_hX (takes_of rfl rfl rfl rfl) D_check_house (hr.mono (by decide)) rfl (pa_cons (pv 0) (pa_cons (pv 3) pa_nil))))
    (pss_cons (ps_if (pt_not (pt_val (pe_h D_is_word (hr.mono (by decide)) rfl (pa_cons (pv 0) (pa_cons (pv 4) pa_nil)))))
    (pss_one (ps_rz rfl (takes_of rfl rfl rfl rfl) x_NoWord rfl))
    pss_nil)
    (pss_one (ps_ret (pe_hX (takes_of rfl rfl rfl rfl) D_heard_word (hr.mono (by decide)) rfl (pa_cons (pv 1) (pa_cons (pv 2) (pa_cons (pv 3) (pa_cons (pv 4) pa_nil)))))))))), ?_⟩
  have hb1 := below_t h0 h1
  have hb2 := below_t h2 h3
  have kF : below m (.int h) = false → ∀ H0 : Hp, E (.ref CH) none H0 := fun e => by rw [hb1] at e; cases e
  have kG : below m (.int snd) = false → ∀ H0 : Hp, E (.ref CH) none H0 := fun e => by rw [hb2] at e; cases e
  refine ⟨_, rfl, _, rfl, NF, w0, m, .ref r, .int h, .int h, rfl, hw, .int _, fun e => kF e _, fun _ => ?_⟩
  refine ⟨_, rfl, _, rfl, NF, w0, m, .ref r, .int snd, .int snd, rfl, hw, .int _, fun e => kG e _, fun _ => ?_⟩
  refine ⟨_, rfl, _, rfl, w0, r, b, m, R, wd, rfl, hw, tr, hb, ow, fun H1 s1 => ?_⟩
  refine ⟨_, rfl, ifF rfl ?_⟩
  have hst1 := hst.tk (tk_of s1)
  refine ⟨_, rfl, _, rfl, _, rfl, _, rfl, h, snd, a, b, st, wd, rfl, hst1, hb.tk (tk_of s1), lbg, so1, so2, ?_⟩
  · cases e : heardL h st snd wd with
    | inl z =>
      rw [e] at k
      exact fun H' s' => k H' (s1.trans s')
    | inr p =>
      rw [e] at k
      exact fun T H' s' => k T H' (s1.trans s')
end
end KQ
set_option Elab.async false
set_option maxRecDepth 100000
set_option maxHeartbeats 4000000
namespace KQ
open PySem PySem.Spec PyProof.Rows L2
local macro_rules | `(tactic| walk_at "kq hp") => `(tactic| (first | assumption | exact upd_same | (rw [upd_ne (by first | assumption | exact Ne.symm (by assumption))]; first | assumption | exact upd_same | (rw [upd_ne (by first | assumption | exact Ne.symm (by assumption))]; first | assumption | exact upd_same))))
local macro_rules | `(tactic| walk_at "kq do") => `(tactic| (first | decide | omega))
local macro_rules | `(tactic| walk_at "kq cl") => `(tactic| focus (first | rfl | assumption | exact upd_same | exact SqL.of (by walk_at "kq hp") | exact SqT.of (by walk_at "kq hp") | exact Or.inl (SqL.of (by walk_at "kq hp")) | exact Or.inr (SqT.of (by walk_at "kq hp")) | exact Or.inl ⟨rfl, _, SqL.of (by walk_at "kq hp")⟩ | walk_at "kq hp" | decide | exact Nat.le_of_ble_eq_true rfl | omega | (show ∃ xs, SqL _ _ _ xs; exact ⟨_, SqL.of (by walk_at "kq hp")⟩) | (show ∃ xs, SqT _ _ _ xs; exact ⟨_, SqT.of (by walk_at "kq hp")⟩) | exact DGet.k (k := Sum.inl _) (by walk_at "kq hp") | (show V.int _ = kV (Sum.inl _); rfl) | (show ∃ z, V.str _ = V.str z; exact ⟨_, rfl⟩) | exact Or.inl ⟨by walk_at "kq do", by walk_at "kq do"⟩ | exact Or.inr ⟨by walk_at "kq do", by walk_at "kq do"⟩ | exact ⟨by walk_at "kq do", by walk_at "kq do"⟩ | exact ⟨by decide, by decide, by decide⟩ | exact L2.ClsV.ty _ | exact Dt.ty (by assumption) | exact Dt.kint (by assumption) | exact Dt.kbool (by assumption) | exact Dt.ktuple (by assumption) | exact Dt.klist (by assumption) | exact Dt.kstr (by assumption)))
local macro_rules | `(tactic| trivial) => `(tactic| repeat (first | refine sl_go (by walk_at "kq hp") ?_ | (unfold tNoPart; refine sl_go (by walk_at "kq hp") ?_) | refine cat_go (by walk_at "kq hp") (by walk_at "kq hp") ?_ ?_ | (apply And.intro; walk_at "kq cl") | (apply Exists.intro; apply And.intro; walk_at "kq cl") | (apply Exists.intro; apply Exists.intro; apply And.intro; walk_at "kq cl") | (apply Exists.intro; apply Exists.intro; apply Exists.intro; apply And.intro; walk_at "kq cl") | (apply Exists.intro; apply Exists.intro; apply Exists.intro; apply Exists.intro; apply And.intro; walk_at "kq cl") | (apply Exists.intro; apply Exists.intro; apply Exists.intro; apply Exists.intro; apply Exists.intro; apply And.intro; walk_at "kq cl") | (apply Exists.intro; apply Exists.intro; apply Exists.intro; apply Exists.intro; apply Exists.intro; apply Exists.intro; apply And.intro; walk_at "kq cl") | (apply Exists.intro; apply Exists.intro; apply Exists.intro; apply Exists.intro; apply Exists.intro; apply Exists.intro; apply Exists.intro; apply And.intro; walk_at "kq cl") | (apply Exists.intro; apply Exists.intro; apply Exists.intro; apply Exists.intro; apply Exists.intro; apply Exists.intro; apply Exists.intro; apply Exists.intro; apply And.intro; walk_at "kq cl") | (apply Exists.intro; apply Exists.intro; apply Exists.intro; apply Exists.intro; apply Exists.intro; apply Exists.intro; apply Exists.intro; apply Exists.intro; apply Exists.intro; apply And.intro; walk_at "kq cl") | refine Or.inl ⟨_, rfl, ?_⟩ | refine Or.inr ⟨_, rfl, ?_⟩ | refine Or.inr ⟨SqT.of (by walk_at "kq hp"), SqT.of (by walk_at "kq hp"), ?_⟩ | refine Or.inl ⟨SqL.of (by walk_at "kq hp"), SqL.of (by walk_at "kq hp"), ?_⟩ | refine Or.inl ⟨SqL.of (by walk_at "kq hp"), ?_⟩ | refine Or.inr ⟨SqT.of (by walk_at "kq hp"), ?_⟩ | refine ifT rfl ?_ | refine ifF rfl ?_))
def canB (s : Hs) : Bool := s.sg.isSome && decide (s.bag.length = 0) && !s.sd
def spCan : Sp := fun vs H Q _ => ∃ (a : Addr) (s : Hs), vs = [.ref a] ∧ HsAt H a s ∧ Q (.bl (canB s)) H
def spPassed (K : PySem.W.Frag) (C CG : Addr) : Sp := fun vs H Q E => ∃ (w a : Addr) (vr : V) (m h : Int) (s : Hs), vs = [.ref w, .int h, .ref a] ∧ WorksAt C H w (.int m) vr ∧ 0 ≤ h ∧ h < m ∧ HsAt H a s ∧
  (match passL m h s with
   | .inl _ => E (.ref CG) none H
   | .inr p => ∀ T H', Same H H' → TwoAt K H' T p → Q (.ref T) H')
def spSays : Sp := fun vs H Q _ => ∃ (a : Addr) (v : V) (s : Hs), vs = [v, .ref a] ∧ HsAt H a s ∧ ∀ T H', Same H H' → Tr H' (.ref T) (saysL s) → Q (.ref T) H'
theorem passL_no {m h : Int} {s : Hs} (e : canB s = false) : passL m h s = .inl .sign := by
  unfold passL
  cases hs : s.sg with
  | none => rfl
  | some p =>
    obtain ⟨x, y, z⟩ := p
    refine if_pos ?_
    unfold canB at e
    rw [hs] at e
    by_cases c : s.bag.length = 0
    · right
      rw [decide_eq_true c] at e
      simpa using e
    · left; omega
theorem can_yes {s : Hs} (e : canB s = true) : ∃ x y z, s.sg = some (x, y, z) ∧ s.bag.length = 0 ∧ s.sd = false := by
  unfold canB at e
  rw [Bool.and_eq_true, Bool.and_eq_true] at e
  obtain ⟨⟨e1, e2⟩, e3⟩ := e
  obtain ⟨p, hp⟩ := Option.isSome_iff_exists.mp e1
  exact ⟨p.1, p.2.1, p.2.2, hp, of_decide_eq_true e2, by simpa using e3⟩
section
variable {P : Program} {w : World} {K : PySem.W.Frag} {mg : Str → Option Value} {base : Heap} {C CH CT CI CS CW CG AN WH : Addr} {t1 t2 t3 t4 : Tok}
theorem d_can_pass (B : Bi mg) (F : FunAt K mg "can_pass" s_can_pass) (g_SIGN : mg "SIGN" = some (.int 6 t1)) (g_BAG : mg "BAG" = some (.int 0 t2)) (g_SAID : mg "SAID" = some (.int 8 t3)) : Has P w K mg base 1 "can_pass" ["state"] spCan := by
  refine mk_has F sc_can_pass (fun _ _ _ _ _ _ us hl => match us, hl with | [_], _ => rfl) (fun vs H Q E h => ?_) fun f cdv A outer s H vs Q E hr h => ?_
  · obtain ⟨a, st, rfl, _⟩ := h
    rfl
  obtain ⟨a, st, rfl, ⟨ba, sa, bs, gv, zz⟩, k⟩ := h
  refine ⟨_, (pss_one (ps_ret (pe_and (pe_cmp (pc_notN (pe_ix ix_tup (pv 0) (pe_glob (v := .int 6) rfl g_SIGN ⟨_, rfl⟩) (fun _ _ => rfl))) rfl) (pe_and (pe_cmpR op_eq (pe_callB call_len_seq rfl B.len PySem.boot_len (pa_cons (pe_ix ix_tup (pv 0) (pe_glob (v := .int 0) rfl g_BAG ⟨_, rfl⟩) (fun _ _ => rfl)) pa_nil)) pe_int (nomark _)) (pe_one (pe_not (pe_ix ix_tup (pv 0) (pe_glob (v := .int 8) rfl g_SAID ⟨_, rfl⟩) (fun _ _ => rfl)))))))), ?_⟩
  have ea := zz.e
  have eb := zz.b
  have lb : bs.length = st.bag.length := by have := zz.t.len; rw [List.length_map] at this; exact this
  have a6 : atI [V.ref ba, optV st.par, .int st.de, .int st.se, .int st.tl, .bl st.bk, gv, .ref sa, .bl st.sd] 6 = some gv := atI_nat rfl
  have a0 : atI [V.ref ba, optV st.par, .int st.de, .int st.se, .int st.tl, .bl st.bk, gv, .ref sa, .bl st.sd] 0 = some (.ref ba) := atI_nat rfl
  have a8 : atI [V.ref ba, optV st.par, .int st.de, .int st.se, .int st.tl, .bl st.bk, gv, .ref sa, .bl st.sd] 8 = some (.bl st.sd) := atI_nat rfl
  have hg := zz.g
  unfold canB at k
  refine ⟨_, rfl, _, _, _, _, rfl, rfl, SqT.of ea, a6, ?_⟩
  cases hs : st.sg with
  | none =>
    rw [hs] at hg k
    cases hg
    exact ⟨false, rfl, ifF rfl k⟩
  | some p =>
    obtain ⟨x, y, z⟩ := p
    rw [hs] at hg k
    obtain ⟨g, rfl, _⟩ := hg
    refine ⟨true, rfl, ifT rfl ?_⟩
    refine ⟨_, rfl, _, _, _, _, rfl, rfl, SqT.of ea, a0, _, _, rfl, .inr (SqT.of eb), ?_⟩
    by_cases c : st.bag.length = 0
    · rw [decide_eq_true c] at k
      refine ⟨rfl, true, congrArg V.bl (decide_eq_true (by rw [lb, c]; rfl)), ifT rfl ?_⟩
      refine ⟨_, rfl, _, _, _, _, rfl, rfl, SqT.of ea, a8, _, rfl, ?_⟩
      exact k
    · rw [decide_eq_false c] at k
      refine ⟨rfl, false, congrArg V.bl (decide_eq_false (fun z => c (by have := V.int.inj z; omega))), ifF rfl ?_⟩
      exact k
theorem d_passed (B : Bi mg) (T : WorksC K mg C) (F : FunAt K mg "passed" s_passed) (x_NoSign : ExcAt K mg "NoSign" CG) (D_check_house : HasX P w K mg base 4 "check_house" ["works", "house"] (spCheckHouse C CH)) (D_can_pass : Has P w K mg base 1 "can_pass" ["state"] spCan) : HasX P w K mg base 5 "passed" ["works", "house", "state"] (spPassed K C CG) := by
  refine mk_hasX F sc_passed (fun _ _ _ _ _ _ us hl => match us, hl with | [_, _, _], _ => rfl) (fun vs H Q E h => ?_) fun f cdv A outer s H vs Q E hr h => ?_
  · obtain ⟨w, a, vr, m, h, st, rfl, _⟩ := h
    rfl
  obtain ⟨w0, a, vr, m, h, st, rfl, hw, h0, h1, hst, k⟩ := h
  have nW1 := T.n1
  have cW := T.cl
  refine ⟨_, (pss_cons (ps_expr (pe_hX (takes_of rfl rfl rfl rfl) D_check_house (hr.mono (by decide)) rfl (pa_cons (pv 0) (pa_cons (pv 1) pa_nil))))
    (pss_cons (ps_if (pt_not (pt_val (pe_h D_can_pass (hr.mono (by decide)) rfl (pa_cons (pv 2) pa_nil))))
    (pss_one (ps_rz rfl (takes_of rfl rfl rfl rfl) x_NoSign rfl))
    pss_nil)
    (pss_cons (ps_asg (pv 2) (pg_tup rfl (pgs_cons (pg_name (i := 3) sc_passed.nd rfl (Or.inl rfl)) (pgs_cons (pg_name (i := 4) sc_passed.nd rfl (Or.inl rfl)) (pgs_cons (pg_name (i := 5) sc_passed.nd rfl (Or.inl rfl)) (pgs_cons (pg_name (i := 6) sc_passed.nd rfl (Or.inl rfl)) (pgs_cons (pg_name (i := 7) sc_passed.nd rfl (Or.inl rfl)) (pgs_cons (pg_name (i := 8) sc_passed.nd rfl (Or.inl rfl)) (pgs_cons (pg_name (i := 9) sc_passed.nd rfl (Or.inl rfl)) (pgs_cons (pg_name (i := 10) sc_passed.nd rfl (Or.inl rfl)) (pgs_cons (pg_name (i := 11) sc_passed.nd rfl (Or.inl rfl)) pgs_nil)))))))))))
    (pss_cons (ps_par (i := 12) (j := 13) rfl sc_passed.nd rfl rfl (by decide) rfl rfl (pa_cons (pe_op op_add (pe_ix ix_tup (pv 9) pe_int (fun _ _ => rfl)) (pv 6)) (pa_cons (pe_op op_add (pe_ix ix_tup (pv 9) pe_int (fun _ _ => rfl)) (pv 7)) pa_nil)) rfl)
    (C8.pss_cut (ps_set (i := 14) sc_passed.nd rfl (Or.inl rfl) (pe_or (pv 8) (pe_one (pe_cmpR op_eq (pe_ix ix_tup (pv 9) pe_int (fun _ _ => rfl)) pe_int (nomark _)))))
    (C8.pss_cut (ps_if (PW.pt (pw_and (pt_cmpR op_eq (pv 1) pe_int (nomark _)) (pw_and (pt_not (pt_val (pv 14))) (pw_and1 (pt_cmpR op_eq (pv 12) (pv 13) (nomark _))))))
    (pss_one (ps_ret (pe_tup (pa_cons (pe_tup (pa_cons (pv 3) (pa_cons (pv 4) (pa_cons (pv 5) (pa_cons (pv 6) (pa_cons (pv 7) (pa_cons (pv 8) (pa_cons (pv 9) (pa_cons (pv 10) (pa_cons pe_bl pa_nil)))))))))) (pa_cons (pe_tup pa_nil) pa_nil)))))
    pss_nil)
    (pss_cons (ps_set (i := 15) sc_passed.nd rfl (Or.inl rfl) (pe_tup (pa_cons (pv 3) (pa_cons (pv 4) (pa_cons (pv 5) (pa_cons (pv 6) (pa_cons (pv 7) (pa_cons pe_bl (pa_cons pe_non (pa_cons (pv 10) (pa_cons pe_bl pa_nil)))))))))))
    (pss_cons (ps_if (pt_cmpR op_eq (pv 1) pe_int (nomark _))
    (pss_one (ps_ret (pe_tup (pa_cons (pv 15) (pa_cons (pe_tup (pa_cons (pe_tup (pa_cons (pe_op op_sub (pe_fld (pv 0) rfl) pe_int) (pa_cons (pe_tup (pa_cons pe_str (pa_cons pe_int (pa_cons pe_int (pa_cons pe_int pa_nil))))) pa_nil))) pa_nil)) pa_nil)))))
    pss_nil)
    (pss_one (ps_ret (pe_tup (pa_cons (pv 15) (pa_cons (pe_tup (pa_cons (pe_tup (pa_cons (pe_op op_sub (pv 1) pe_int) (pa_cons (pe_tup (pa_cons pe_str (pa_cons (pv 12) (pa_cons (pv 13) (pa_cons (pe_ifExp (pt_val (pv 14)) pe_int pe_int) pa_nil))))) pa_nil))) pa_nil)) pa_nil))))))))))))), ?_⟩
  have hb1 := below_t h0 h1
  have kF : below m (.int h) = false → ∀ H0 : Hp, E (.ref CH) none H0 := fun e => by rw [hb1] at e; cases e
  refine ⟨_, rfl, _, rfl, NF, w0, m, vr, .int h, .int h, rfl, hw, .int _, fun e => kF e _, fun _ => ?_⟩
  refine ⟨_, rfl, a, st, rfl, hst, ?_⟩
  cases hc : canB st with
  | false =>
    refine ⟨_, rfl, ifT rfl ?_⟩
    rw [passL_no hc] at k
    exact k
  | true =>
  refine ⟨_, rfl, ifF rfl ?_⟩
  obtain ⟨x, y, z, hsg, hbag, hsd⟩ := can_yes hc
  have kp : passL m h st = if h = 0 ∧ (st.bk || decide (z = 1)) = false ∧ x + st.se = y + st.tl then .inr ({ st with sd := true }, [])
    else .inr ({ st with bk := false, sg := none, sd := false }, if h = 0 then [(m - 1, .sign 0 0 0)] else [(h - 1, .sign (x + st.se) (y + st.tl) (if (st.bk || decide (z = 1)) = true then 1 else 0))]) := by
    unfold passL
    rw [hsg]
    exact if_neg (fun zz => zz.elim (fun q => by omega) (fun q => by rw [hsd] at q; cases q))
  rw [kp] at k
  obtain ⟨ba, sa, bs, gv, zz⟩ := hst
  have ea := zz.e
  have hg := zz.g
  rw [hsg] at hg
  obtain ⟨g, rfl, eg⟩ := hg
  have a0 : atI [V.int x, .int y, .int z] 0 = some (.int x) := atI_nat rfl
  have a1 : atI [V.int x, .int y, .int z] 1 = some (.int y) := atI_nat rfl
  have a2 : atI [V.int x, .int y, .int z] 2 = some (.int z) := atI_nat rfl
  obtain ⟨dxw, ew⟩ := id hw
  refine ⟨_, rfl, a, _, rfl, SqT.of ea, rfl, _, _, rfl, _, _, rfl, _, _, rfl, _, _, rfl, _, _, rfl, _, _, rfl, _, _, rfl, _, _, rfl, _, _, rfl, rfl, ?_⟩
  trivial
  refine ⟨fun σ H' => σ = [some (.ref w0), some (.int h), some (.ref a), some (.ref ba), some (optV st.par), some (.int st.de), some (.int st.se), some (.int st.tl), some (.bl st.bk), some (.ref g), some (.ref sa), some (.bl st.sd), some (.int (x + st.se)), some (.int (y + st.tl)), some (.bl (st.bk || decide (z = 1))), none] ∧ H' = H, ?_, ?_⟩
  · cases hbk : st.bk with
    | true => exact ⟨_, rfl, true, rfl, ifT rfl ⟨rfl, rfl⟩⟩
    | false =>
      refine ⟨_, rfl, false, rfl, ifF rfl ⟨_, rfl, _, _, _, _, rfl, rfl, SqT.of eg, a2, rfl, ?_, rfl⟩⟩
      rw [show decide (V.int z = V.int 1) = decide (z = 1) from decide_eq_decide.mpr ⟨fun e => V.int.inj e, fun e => by rw [e]⟩]
      rfl
  rintro σ H1 ⟨rfl, rfl⟩
  generalize hst' : (st.bk || decide (z = 1)) = stn at *
  trivial
  refine ⟨fun σ H' => σ = [some (.ref w0), some (.int h), some (.ref a), some (.ref ba), some (optV st.par), some (.int st.de), some (.int st.se), some (.int st.tl), some (.bl st.bk), some (.ref g), some (.ref sa), some (.bl st.sd), some (.int (x + st.se)), some (.int (y + st.tl)), some (.bl stn), none] ∧ H' = H1 ∧ ¬ (h = 0 ∧ stn = false ∧ x + st.se = y + st.tl), ?_, ?_⟩
  · trivial
    refine ite2 (fun c1 => ?_) (fun c1 => ?_)
    · have c1' : h = 0 := by simpa using of_decide_eq_true c1
      cases stn with
      | true =>
        trivial
        exact fun zz => nomatch zz.2.1
      | false =>
        trivial
        refine ite2 (fun c2 => ?_) (fun c2 => ?_)
        · have c2' : x + st.se = y + st.tl := by simpa using of_decide_eq_true c2
          rw [if_pos ⟨c1', rfl, c2'⟩] at k
          trivial
          intro q1 nq1
          have sq1 := same_new0 (o := .tup [.ref ba, optV st.par, .int st.de, .int st.se, .int st.tl, .bl st.bk, .ref g, .ref sa, .bl true]) nq1
          have e1 : upd H1 q1 (.tup [.ref ba, optV st.par, .int st.de, .int st.se, .int st.tl, .bl st.bk, .ref g, .ref sa, .bl true]) q1 = some (.tup [.ref ba, optV st.par, .int st.de, .int st.se, .int st.tl, .bl st.bk, .ref g, .ref sa, .bl true]) := upd_same
          generalize upd H1 q1 (.tup [.ref ba, optV st.par, .int st.de, .int st.se, .int st.tl, .bl st.bk, .ref g, .ref sa, .bl true]) = H2 at *
          trivial
          intro q2 nq2
          have sq2 := same_new0 (o := .tup []) nq2
          have e2 : upd H2 q2 (.tup []) q2 = some (.tup []) := upd_same
          have e12 := sq2 _ _ e1
          generalize upd H2 q2 (.tup []) = H3 at *
          trivial
          intro q3 nq3
          have sq3 := same_new0 (o := .tup [.ref q1, .ref q2]) nq3
          have s03 := (sq1.trans sq2).trans sq3
          have z3 := zz.tk (tk_of s03)
          exact k q3 _ s03 ⟨q1, q2, [], upd_same, ⟨ba, sa, bs, .ref g, sq3 _ _ e12, z3.b, z3.t, z3.g, z3.s⟩, .inl (sq3 _ _ e2), .nil⟩
        · exact ⟨rfl, rfl, fun zz => c2 (decide_eq_true (by rw [zz.2.2]))⟩
    · exact ⟨rfl, rfl, fun zz => c1 (decide_eq_true (by rw [zz.1]))⟩
  rintro σ H2 ⟨rfl, rfl, nc⟩
  rw [if_neg nc] at k
  trivial
  intro q nq
  have sq := same_new0 (o := .tup [.ref ba, optV st.par, .int st.de, .int st.se, .int st.tl, .bl false, .non, .ref sa, .bl false]) nq
  have eq : upd H2 q (.tup [.ref ba, optV st.par, .int st.de, .int st.se, .int st.tl, .bl false, .non, .ref sa, .bl false]) q = some (.tup [.ref ba, optV st.par, .int st.de, .int st.se, .int st.tl, .bl false, .non, .ref sa, .bl false]) := upd_same
  have ew1 := sq _ _ ew
  generalize upd H2 q (.tup [.ref ba, optV st.par, .int st.de, .int st.se, .int st.tl, .bl false, .non, .ref sa, .bl false]) = H3 at *
  have fin : ∀ {H4 : Hp} {T1 T2 T3 T4 : Addr} {to a b c : Int}, Same H3 H4 → H4 T1 = some (.tup [.str "sign", .int a, .int b, .int c]) → H4 T2 = some (.tup [.int to, .ref T1]) → H4 T3 = some (.tup [.ref T2]) → H4 T4 = some (.tup [.ref q, .ref T3]) →
      TwoAt K H4 T4 ({ st with bk := false, sg := none, sd := false }, [(to, .sign a b c)]) := fun {H4 T1 T2 T3 T4 to a b c} s4 e1 e2 e3 e4 => by
    have z4 := zz.tk (tk_of (sq.trans s4))
    exact ⟨q, T3, _, e4, ⟨ba, sa, bs, .non, s4 _ _ eq, z4.b, z4.t, rfl, z4.s⟩, .inl e3, .cons (.tup (.inl e2) (.cons (.int _) (.cons (.tup (.inl e1) (.cons (.str _) (.cons (.int _) (.cons (.int _) (.cons (.int _) .nil))))) .nil))) .nil⟩
  trivial
  refine ite2 (fun c1 => ?_) (fun c1 => ?_)
  · have c1' : h = 0 := by simpa using of_decide_eq_true c1
    rw [if_pos c1'] at k
    trivial
    intro q1 nq1
    have sq1 := same_new0 (o := .tup [.str "sign", .int 0, .int 0, .int 0]) nq1
    have e1 : upd H3 q1 (.tup [.str "sign", .int 0, .int 0, .int 0]) q1 = some (.tup [.str "sign", .int 0, .int 0, .int 0]) := upd_same
    generalize upd H3 q1 (.tup [.str "sign", .int 0, .int 0, .int 0]) = H4 at *
    trivial
    intro q2 nq2
    have sq2 := same_new0 (o := .tup [.int (m - 1), .ref q1]) nq2
    have e2 : upd H4 q2 (.tup [.int (m - 1), .ref q1]) q2 = some (.tup [.int (m - 1), .ref q1]) := upd_same
    have e12 := sq2 _ _ e1
    generalize upd H4 q2 (.tup [.int (m - 1), .ref q1]) = H5 at *
    trivial
    intro q3 nq3
    have sq3 := same_new0 (o := .tup [.ref q2]) nq3
    have e3 : upd H5 q3 (.tup [.ref q2]) q3 = some (.tup [.ref q2]) := upd_same
    have e13 := sq3 _ _ e12
    have e23 := sq3 _ _ e2
    generalize upd H5 q3 (.tup [.ref q2]) = H6 at *
    trivial
    intro q4 nq4
    have sq4 := same_new0 (o := .tup [.ref q, .ref q3]) nq4
    exact k q4 _ (sq.trans (((sq1.trans sq2).trans sq3).trans sq4)) (fin (((sq1.trans sq2).trans sq3).trans sq4) (sq4 _ _ e13) (sq4 _ _ e23) (sq4 _ _ e3) upd_same)
  · have c1' : ¬ h = 0 := fun zz => c1 (decide_eq_true (by rw [zz]))
    rw [if_neg c1'] at k
    trivial
    cases stn with
    | true =>
      trivial
      intro q1 nq1
      have sq1 := same_new0 (o := .tup [.str "sign", .int (x + st.se), .int (y + st.tl), .int 1]) nq1
      have e1 : upd H3 q1 (.tup [.str "sign", .int (x + st.se), .int (y + st.tl), .int 1]) q1 = some (.tup [.str "sign", .int (x + st.se), .int (y + st.tl), .int 1]) := upd_same
      generalize upd H3 q1 (.tup [.str "sign", .int (x + st.se), .int (y + st.tl), .int 1]) = H4 at *
      trivial
      intro q2 nq2
      have sq2 := same_new0 (o := .tup [.int (h - 1), .ref q1]) nq2
      have e2 : upd H4 q2 (.tup [.int (h - 1), .ref q1]) q2 = some (.tup [.int (h - 1), .ref q1]) := upd_same
      have e12 := sq2 _ _ e1
      generalize upd H4 q2 (.tup [.int (h - 1), .ref q1]) = H5 at *
      trivial
      intro q3 nq3
      have sq3 := same_new0 (o := .tup [.ref q2]) nq3
      have e3 : upd H5 q3 (.tup [.ref q2]) q3 = some (.tup [.ref q2]) := upd_same
      have e13 := sq3 _ _ e12
      have e23 := sq3 _ _ e2
      generalize upd H5 q3 (.tup [.ref q2]) = H6 at *
      trivial
      intro q4 nq4
      have sq4 := same_new0 (o := .tup [.ref q, .ref q3]) nq4
      exact k q4 _ (sq.trans (((sq1.trans sq2).trans sq3).trans sq4)) (fin (((sq1.trans sq2).trans sq3).trans sq4) (sq4 _ _ e13) (sq4 _ _ e23) (sq4 _ _ e3) upd_same)
    | false =>
      trivial
      intro q1 nq1
      have sq1 := same_new0 (o := .tup [.str "sign", .int (x + st.se), .int (y + st.tl), .int 0]) nq1
      have e1 : upd H3 q1 (.tup [.str "sign", .int (x + st.se), .int (y + st.tl), .int 0]) q1 = some (.tup [.str "sign", .int (x + st.se), .int (y + st.tl), .int 0]) := upd_same
      generalize upd H3 q1 (.tup [.str "sign", .int (x + st.se), .int (y + st.tl), .int 0]) = H4 at *
      trivial
      intro q2 nq2
      have sq2 := same_new0 (o := .tup [.int (h - 1), .ref q1]) nq2
      have e2 : upd H4 q2 (.tup [.int (h - 1), .ref q1]) q2 = some (.tup [.int (h - 1), .ref q1]) := upd_same
      have e12 := sq2 _ _ e1
      generalize upd H4 q2 (.tup [.int (h - 1), .ref q1]) = H5 at *
      trivial
      intro q3 nq3
      have sq3 := same_new0 (o := .tup [.ref q2]) nq3
      have e3 : upd H5 q3 (.tup [.ref q2]) q3 = some (.tup [.ref q2]) := upd_same
      have e13 := sq3 _ _ e12
      have e23 := sq3 _ _ e2
      generalize upd H5 q3 (.tup [.ref q2]) = H6 at *
      trivial
      intro q4 nq4
      have sq4 := same_new0 (o := .tup [.ref q, .ref q3]) nq4
      exact k q4 _ (sq.trans (((sq1.trans sq2).trans sq3).trans sq4)) (fin (((sq1.trans sq2).trans sq3).trans sq4) (sq4 _ _ e13) (sq4 _ _ e23) (sq4 _ _ e3) upd_same)
theorem d_says (B : Bi mg) (F : FunAt K mg "says" s_says) (g_PARENT : mg "PARENT" = some (.int 1 t1)) (g_BAG : mg "BAG" = some (.int 0 t2)) (g_SAID : mg "SAID" = some (.int 8 t3)) (g_SHARE : mg "SHARE" = some (.int 7 t4)) (g_WHOLE : mg "WHOLE" = some (.ref WH)) (tWH : ∀ H, SqT K H WH [.int 0]) : Has P w K mg base 1 "says" ["works", "state"] spSays := by
  refine mk_has F sc_says (fun _ _ _ _ _ _ us hl => match us, hl with | [_, _], _ => rfl) (fun vs H Q E h => ?_) fun f cdv A outer s H vs Q E hr h => ?_
  · obtain ⟨a, v, st, rfl, _⟩ := h
    rfl
  obtain ⟨a, v, st, rfl, ⟨ba, sa, bs, gv, zz⟩, k⟩ := h
  refine ⟨_, (pss_one (ps_ret (pe_tup (pa_cons (pe_cmp (pc_isN (pe_ix ix_tup (pv 1) (pe_glob (v := .int 1) rfl g_PARENT ⟨_, rfl⟩) (fun _ _ => rfl))) rfl) (pa_cons (pe_ix ix_tup (pv 1) (pe_glob (v := .int 8) rfl g_SAID ⟨_, rfl⟩) (fun _ _ => rfl)) (pa_cons (pe_and (pe_cmpR op_eq (pe_callB call_len_seq rfl B.len PySem.boot_len (pa_cons (pe_ix ix_tup (pv 1) (pe_glob (v := .int 0) rfl g_BAG ⟨_, rfl⟩) (fun _ _ => rfl)) pa_nil)) pe_int (nomark _)) (pe_one (pe_cmpR (op_eqD hr.units) (pe_ix ix_tup (pv 1) (pe_glob (v := .int 7) rfl g_SHARE ⟨_, rfl⟩) (fun _ _ => rfl)) (pe_glob (v := .ref WH) rfl g_WHOLE rfl) (nomark _)))) pa_nil)))))), ?_⟩
  have ea := zz.e
  have eb := zz.b
  have es := zz.s
  have lb : bs.length = st.bag.length := by have := zz.t.len; rw [List.length_map] at this; exact this
  have a0 : atI [V.ref ba, optV st.par, .int st.de, .int st.se, .int st.tl, .bl st.bk, gv, .ref sa, .bl st.sd] 0 = some (.ref ba) := atI_nat rfl
  have a1 : atI [V.ref ba, optV st.par, .int st.de, .int st.se, .int st.tl, .bl st.bk, gv, .ref sa, .bl st.sd] 1 = some (optV st.par) := atI_nat rfl
  have a7 : atI [V.ref ba, optV st.par, .int st.de, .int st.se, .int st.tl, .bl st.bk, gv, .ref sa, .bl st.sd] 7 = some (.ref sa) := atI_nat rfl
  have a8 : atI [V.ref ba, optV st.par, .int st.de, .int st.se, .int st.tl, .bl st.bk, gv, .ref sa, .bl st.sd] 8 = some (.bl st.sd) := atI_nat rfl
  refine ⟨_, rfl, _, _, _, _, rfl, rfl, SqT.of ea, a1, ?_⟩
  have hpn : decide (optV st.par = V.non) = st.par.isNone := by cases st.par <;> rfl
  refine ⟨_, rfl, _, _, _, _, rfl, rfl, SqT.of ea, a8, ?_⟩
  refine ⟨_, rfl, _, _, _, _, rfl, rfl, SqT.of ea, a0, _, _, rfl, .inr (SqT.of eb), rfl, ?_⟩
  have fin : ∀ {b : Bool}, b = (decide (st.bag.length = 0) && decide (st.sh = [0])) → ∀ T, H T = none → Q (.ref T) (upd H T (.tup [.bl (decide (optV st.par = V.non)), .bl st.sd, .bl b])) := fun {b} e T nT => by
    refine k T _ (same_new0 nT) ?_
    unfold saysL
    rw [← e, ← hpn]
    exact .tup upd_same (.cons (.bl _) (.cons (.bl _) (.cons (.bl _) .nil)))
  by_cases c : st.bag.length = 0
  · refine ⟨true, congrArg V.bl (decide_eq_true (by rw [lb, c]; rfl)), ifT rfl ?_⟩
    refine ⟨_, rfl, _, _, _, _, rfl, rfl, SqT.of ea, a7, ?_⟩
    have hrow : ∀ ns : List Int, SeqAt.shaped (.tuple (ns.map PyData.int)) = true := fun ns => by
      have h1 : PyData.canLayAll0 (ns.map PyData.int) = true ∧ PyData.depthAll (ns.map PyData.int) = 0 := by
        induction ns with
        | nil => exact ⟨rfl, rfl⟩
        | cons x xs ih =>
          rw [List.map_cons]
          unfold PyData.canLayAll0
          simp only [PyData.depthAll, PyData.depth, ih.1, ih.2]
          exact ⟨rfl, rfl⟩
      unfold SeqAt.shaped
      rw [show (PyData.tuple (ns.map PyData.int)).canLay0 = true from h1.1, decide_eq_true (by simp only [PyData.depth]; omega)]
      rfl
    refine ⟨.tuple (st.sh.map PyData.int), .tuple ([0].map PyData.int), ((Tr.tup es (tr_ints _)).rp).dp (SeqAt.canLay_of_shaped (hrow _)), .tup (tWH H) (.cons (.int _) .nil), hrow _, hrow _, ?_⟩
    trivial
    refine fin ?_
    rw [decide_eq_true c, Bool.true_and]
    show PyData.eqvAll (st.sh.map PyData.int) ([0].map PyData.int) = _
    have : ∀ ns ms : List Int, PyData.eqvAll (ns.map PyData.int) (ms.map PyData.int) = decide (ns = ms) := fun ns => by
      induction ns with
      | nil => intro ms; cases ms <;> rfl
      | cons n ns ih =>
        intro ms
        cases ms with
        | nil => rfl
        | cons m ms =>
          rw [List.map_cons, List.map_cons, PyData.eqvAll, ih]
          show ((n == m) && decide (ns = ms)) = _
          by_cases h1 : n = m <;> by_cases h2 : ns = ms <;> simp [h1, h2]
    exact this _ _
  · refine ⟨false, congrArg V.bl (decide_eq_false (fun z => c (by have := V.int.inj z; omega))), ifF rfl ?_⟩
    trivial
    refine fin ?_
    rw [decide_eq_false c, Bool.false_and]
end
end KQ
set_option Elab.async false
set_option maxRecDepth 100000
set_option maxHeartbeats 4000000
namespace KQ
open PySem PySem.Spec PyProof.Rows L2
local macro_rules | `(tactic| walk_at "kq hp") => `(tactic| (first | assumption | exact upd_same | (rw [upd_ne (by first | assumption | exact Ne.symm (by assumption))]; first | assumption | exact upd_same | (rw [upd_ne (by first | assumption | exact Ne.symm (by assumption))]; first | assumption | exact upd_same))))
local macro_rules | `(tactic| walk_at "kq do") => `(tactic| (first | decide | omega))
local macro_rules | `(tactic| walk_at "kq cl") => `(tactic| focus (first | rfl | assumption | exact upd_same | exact SqL.of (by walk_at "kq hp") | exact SqT.of (by walk_at "kq hp") | exact Or.inl (SqL.of (by walk_at "kq hp")) | exact Or.inr (SqT.of (by walk_at "kq hp")) | exact Or.inl ⟨rfl, _, SqL.of (by walk_at "kq hp")⟩ | walk_at "kq hp" | decide | exact Nat.le_of_ble_eq_true rfl | omega | (show ∃ xs, SqL _ _ _ xs; exact ⟨_, SqL.of (by walk_at "kq hp")⟩) | (show ∃ xs, SqT _ _ _ xs; exact ⟨_, SqT.of (by walk_at "kq hp")⟩) | exact DGet.k (k := Sum.inl _) (by walk_at "kq hp") | (show V.int _ = kV (Sum.inl _); rfl) | (show ∃ z, V.str _ = V.str z; exact ⟨_, rfl⟩) | exact Or.inl ⟨by walk_at "kq do", by walk_at "kq do"⟩ | exact Or.inr ⟨by walk_at "kq do", by walk_at "kq do"⟩ | exact ⟨by walk_at "kq do", by walk_at "kq do"⟩ | exact ⟨by decide, by decide, by decide⟩ | exact L2.ClsV.ty _ | exact Dt.ty (by assumption) | exact Dt.kint (by assumption) | exact Dt.kbool (by assumption) | exact Dt.ktuple (by assumption) | exact Dt.klist (by assumption) | exact Dt.kstr (by assumption)))
local macro_rules | `(tactic| trivial) => `(tactic| repeat (first | refine sl_go (by walk_at "kq hp") ?_ | (unfold tNoPart; refine sl_go (by walk_at "kq hp") ?_) | refine cat_go (by walk_at "kq hp") (by walk_at "kq hp") ?_ ?_ | (apply And.intro; walk_at "kq cl") | (apply Exists.intro; apply And.intro; walk_at "kq cl") | (apply Exists.intro; apply Exists.intro; apply And.intro; walk_at "kq cl") | (apply Exists.intro; apply Exists.intro; apply Exists.intro; apply And.intro; walk_at "kq cl") | (apply Exists.intro; apply Exists.intro; apply Exists.intro; apply Exists.intro; apply And.intro; walk_at "kq cl") | (apply Exists.intro; apply Exists.intro; apply Exists.intro; apply Exists.intro; apply Exists.intro; apply And.intro; walk_at "kq cl") | (apply Exists.intro; apply Exists.intro; apply Exists.intro; apply Exists.intro; apply Exists.intro; apply Exists.intro; apply And.intro; walk_at "kq cl") | (apply Exists.intro; apply Exists.intro; apply Exists.intro; apply Exists.intro; apply Exists.intro; apply Exists.intro; apply Exists.intro; apply And.intro; walk_at "kq cl") | (apply Exists.intro; apply Exists.intro; apply Exists.intro; apply Exists.intro; apply Exists.intro; apply Exists.intro; apply Exists.intro; apply Exists.intro; apply And.intro; walk_at "kq cl") | (apply Exists.intro; apply Exists.intro; apply Exists.intro; apply Exists.intro; apply Exists.intro; apply Exists.intro; apply Exists.intro; apply Exists.intro; apply Exists.intro; apply And.intro; walk_at "kq cl") | refine Or.inl ⟨_, rfl, ?_⟩ | refine Or.inr ⟨_, rfl, ?_⟩ | refine Or.inr ⟨SqT.of (by walk_at "kq hp"), SqT.of (by walk_at "kq hp"), ?_⟩ | refine Or.inl ⟨SqL.of (by walk_at "kq hp"), SqL.of (by walk_at "kq hp"), ?_⟩ | refine Or.inl ⟨SqL.of (by walk_at "kq hp"), ?_⟩ | refine Or.inr ⟨SqT.of (by walk_at "kq hp"), ?_⟩ | refine ifT rfl ?_ | refine ifF rfl ?_))
def begunL (h : Int) : Hs := if h = 0 then ⟨[], none, 0, 0, 0, false, some (0, 0, 0), [0], true⟩ else ⟨[], none, 0, 0, 0, false, none, [], false⟩
/-- a state that can be -/
structure OkHs (m h : Int) (R : Rules) (s : Hs) : Prop where
  bag : ∀ t ∈ s.bag, 0 ≤ t.1 ∧ t.1 < R.length ∧ 0 ≤ t.2 ∧ t.2 < 13
  par : ∀ p, s.par = some p → 0 ≤ p ∧ p < m ∧ (h = 0 → p = 0)
  de : 0 ≤ s.de
  se : 0 ≤ s.se
  tl : 0 ≤ s.tl
  sg : ∀ x y z, s.sg = some (x, y, z) → 0 ≤ x ∧ 0 ≤ y ∧ 0 ≤ z ∧ z < 2
  sh : Sh s.sh
  sl : s.sh.length ≤ 1000
  bl : s.bag.length ≤ 1000
  sd : s.sd = true → h = 0
def spBegun (K : PySem.W.Frag) (C : Addr) : Sp := fun vs H Q _ => ∃ (w : Addr) (vr : V) (m h : Int), vs = [.ref w, .int h] ∧ WorksAt C H w (.int m) vr ∧ 0 ≤ h ∧ h < m ∧ ∀ T H', Same H H' → Tc K H' (.ref T) (begunL h).P → Q (.ref T) H'
def spGift (K : PySem.W.Frag) (C : Addr) : Sp := fun vs H Q _ => ∃ (w r a b : Addr) (m : Int) (R : Rules) (s : Hs) (t : Int × Int), vs = [.ref w, .ref a, .ref b] ∧ WorksAt C H w (.int m) (.ref r) ∧ OkWorks m R ∧ Tr H (.ref r) (rulesD R) ∧ HsAt H a s ∧ s.bag.length ≤ 1000 ∧ Tr H (.ref b) (taskP t) ∧
  0 ≤ t.1 ∧ t.1 < R.length ∧ 0 ≤ t.2 ∧ t.2 < 13 ∧ tot R t.2.toNat t.1 ≤ 500 ∧ ∀ T H', Same H H' → TwoAt K H' T (giftL s t, []) → Q (.ref T) H'
def spIsState (C : Addr) : Sp := fun vs H Q _ => ∃ (w r a : Addr) (m h : Int) (R : Rules) (s : Hs), vs = [.ref w, .int h, .ref a] ∧ WorksAt C H w (.int m) (.ref r) ∧ Tr H (.ref r) (rulesD R) ∧ 0 ≤ h ∧ h < m ∧ HsAt H a s ∧ OkHs m h R s ∧ ∀ H', Same H H' → Q (.bl true) H'
def spAreT (C : Addr) : Sp := fun vs H Q _ => ∃ (w r b : Addr) (m : Int) (R : Rules) (bs : List V) (bag : List (Int × Int)), vs = [.ref w, .ref b] ∧ WorksAt C H w (.int m) (.ref r) ∧ Tr H (.ref r) (rulesD R) ∧ H b = some (.tup bs) ∧ TrAll H bs (bag.map taskP) ∧ (∀ t ∈ bag, 0 ≤ t.1 ∧ t.1 < R.length ∧ 0 ≤ t.2 ∧ t.2 < 13) ∧ bag.length ≤ 1000 ∧ ∀ H', Same H H' → Q (.bl true) H'
def spIsPar (C : Addr) : Sp := fun vs H Q _ => ∃ (w : Addr) (vr : V) (m h : Int) (o : Option Int), vs = [.ref w, .int h, optV o] ∧ WorksAt C H w (.int m) vr ∧ (∀ p, o = some p → 0 ≤ p ∧ p < m ∧ (h = 0 → p = 0)) ∧ 0 ≤ h ∧ Q (.bl true) H
theorem task_pair {R : Rules} {n : Nat} {t : Int × Int} (e : n = R.length) (h : 0 ≤ t.1 ∧ t.1 < R.length ∧ 0 ≤ t.2 ∧ t.2 < 13) : isPair n 13 (taskP t) = true := by
  obtain ⟨h0, h1, h2, h3⟩ := h
  show (below n (.int t.1) && below 13 (.int t.2)) = true
  rw [below_t h0 (by omega), below_t h2 h3]
  rfl
section
variable {P : Program} {w : World} {K : PySem.W.Frag} {mg : Str → Option Value} {base : Heap} {C CH CT CI CS CW CG AN WH : Addr} {t1 t2 t3 t4 : Tok}
theorem d_is_flag (F : FunAt K mg "is_flag" s_is_flag) (B : Bi mg) : Has P w K mg base 1 "is_flag" ["thing"] (fun vs H Q _ => ∃ b : Bool, vs = [.bl b] ∧ Q (.bl true) H) := by
  refine mk_has F sc_is_flag (fun _ _ _ _ _ _ us hl => match us, hl with | [_], _ => rfl) (fun vs H Q E h => ?_) fun f cdv A outer s H vs Q E hr h => ?_
  · obtain ⟨b, rfl, _⟩ := h
    rfl
  obtain ⟨b, rfl, k⟩ := h
  refine ⟨_, (pss_one (ps_ret (pe_callB call_isi rfl B.isinstance (by decide +kernel) (pa_cons (pv 0) (pa_cons (pe_bltn (v := .ty "bool") rfl B.bool (by decide +kernel) rfl) pa_nil))))), ?_⟩
  have d0 : Dt H (.bl b) "bool" := .bl b
  exact ⟨_, rfl, _, _, _, _, _, rfl, .ty "bool", d0.ty, d0.kbool, k⟩
theorem d_is_parent (F : FunAt K mg "is_parent" s_is_parent) (D_is_house : Has P w K mg base 3 "is_house" ["works", "thing"] (spIsHouse C)) : Has P w K mg base 4 "is_parent" ["works", "house", "thing"] (spIsPar C) := by
  refine mk_has F sc_is_parent (fun _ _ _ _ _ _ us hl => match us, hl with | [_, _, _], _ => rfl) (fun vs H Q E h => ?_) fun f cdv A outer s H vs Q E hr h => ?_
  · obtain ⟨w, vr, m, h, o, rfl, _⟩ := h
    rfl
  obtain ⟨w0, vr, m, h, o, rfl, hw, ho, h0, k⟩ := h
  refine ⟨_, (pss_cons (ps_if (pt_cmp (pc_isN (pv 2)))
    (pss_one (ps_ret pe_bl))
    pss_nil)
    (pss_one (ps_ret (pe_and (pe_h D_is_house (hr.mono (by decide)) rfl (pa_cons (pv 0) (pa_cons (pv 2) pa_nil))) (pe_one (pe_or (pe_cmpR op_gt (pv 1) pe_int (nomark _)) (pe_one (pe_cmpR op_eq (pv 2) pe_int (nomark _))))))))), ?_⟩
  cases o with
  | none => exact ⟨_, rfl, true, rfl, ifT rfl k⟩
  | some p =>
    obtain ⟨p0, p1, p2⟩ := ho p rfl
    refine ⟨_, rfl, false, rfl, ifF rfl ?_⟩
    refine ⟨_, rfl, _, rfl, NF, w0, m, vr, .int p, .int p, rfl, hw, .int _, ?_⟩
    rw [below_t p0 p1]
    refine ⟨true, rfl, ifT rfl ?_⟩
    by_cases c : 0 < h
    · refine ⟨_, rfl, _, _, rfl, rfl, true, congrArg V.bl (decide_eq_true c), ifT rfl ?_⟩
      exact k
    · have e0 : p = 0 := p2 (by omega)
      refine ⟨_, rfl, _, _, rfl, rfl, false, congrArg V.bl (decide_eq_false c), ifF rfl ?_⟩
      refine ⟨_, rfl, rfl, ?_⟩
      exact okB (decide_eq_true (by rw [e0]; rfl)) k
theorem d_are_t (B : Bi mg) (F : FunAt K mg "are_tasks" s_are_tasks) (D_is_task : Has P w K mg base 3 "is_task" ["works", "thing"] (spIsTask C)) : Has P w K mg base 4 "are_tasks" ["works", "thing"] (spAreT C) := by
  refine mk_has F sc_are_tasks (fun _ _ _ _ _ _ us hl => match us, hl with | [_, _], _ => rfl) (fun vs H Q E h => ?_) fun f cdv A outer s H vs Q E hr h => ?_
  · obtain ⟨w, r, b, m, R, bs, bag, rfl, _⟩ := h
    rfl
  obtain ⟨w0, r, b, m, R, bs, bag, rfl, hw, tr, eb, tb, ok, lbg, k⟩ := h
  refine ⟨_, (pss_one (ps_ret (pe_and (pe_callB call_isi rfl B.isinstance (by decide +kernel) (pa_cons (pv 1) (pa_cons (pe_bltn (v := .ty "tuple") rfl B.tuple (by decide +kernel) rfl) pa_nil))) (pe_one (pe_callB (cr_all rfl) rfl B.all (by decide +kernel) (pa_cons (pe_lc (own := [("item", 2)]) (g := gName 2) (tt := tYes) (te := (tCall (spIsTask C) [] E0 (tCons (tVar 0) (tCons (tVar 2) tNil)))) rfl sc_are_tasks.nd (pi_tup (pv 1)) (blkOk_by (own := [("item", 2)]) (N := ["works", "thing", "item"]) (sc := defScope s_are_tasks) (by decide +kernel)) (fun _ _ _ _ _ => (pg_name (i := 2) sc_are_tasks.nd rfl (Or.inl rfl))) (fun _ _ _ _ _ => pts_nil) (fun _ _ _ _ _ => (pe_h D_is_task (hr.mono (by decide)) rfl (pa_cons (pv 0) (pa_cons (pv 2) pa_nil))))) pa_nil)))))), ?_⟩
  have d0 := Dt.tup eb
  have lb : bs.length = bag.length := by have := tb.len; rw [List.length_map] at this; exact this
  cases tr with
  | @tup _ rs _ er ar =>
  have lr : rs.length = R.length := by have := ar.len; rw [List.length_map] at this; exact this
  trivial
  intro D nD
  refine lc_map (walk_tup (xs := bs)) (List.replicate bs.length (.bl true)) (by simp) nD (by omega) (fun i H' _ s => SqT.of (s _ _ eb)) (fun i x H3 H4 Pn hi s3 y fin => ?_) fun H3 s3 e3 => ?_
  · obtain ⟨rfl, gx⟩ := y
    obtain ⟨dx, gdx, rx⟩ := tb.at_ gx
    rw [List.getElem?_map] at gdx
    obtain ⟨t, gt, rfl⟩ := Option.map_eq_some_iff.mp gdx
    refine ⟨rfl, ?_⟩
    refine ⟨_, rfl, _, rfl, NF, w0, r, .int m, x, rs, taskP t, rfl, hw.same s3, s3 _ _ er, (rx.tk (tk_of s3)).rp, ?_⟩
    rw [task_pair lr (ok t (List.mem_of_getElem? gt))]
    exact fin _ _ (by rw [List.getElem?_replicate, if_pos hi]) (Same.refl _)
  rw [show (List.replicate bs.length (V.bl true)) = (List.replicate bs.length true).map V.bl by simp] at e3
  refine ⟨_, _, rfl, SqL.of e3, ?_⟩
  rw [show (List.replicate bs.length true).all id = true by simp]
  exact k H3 s3
theorem d_begun (B : Bi mg) (F : FunAt K mg "begun" s_begun) (g_WHOLE : mg "WHOLE" = some (.ref WH)) (tWH : ∀ H, SqT K H WH [.int 0]) (kWH : ∃ o, K.lookup WH = some o ∧ o.cls = .type "tuple") (D_check_house : HasX P w K mg base 4 "check_house" ["works", "house"] (spCheckHouse C CH)) : HasX P w K mg base 5 "begun" ["works", "house"] (spBegun K C) := by
  refine mk_hasX F sc_begun (fun _ _ _ _ _ _ us hl => match us, hl with | [_, _], _ => rfl) (fun vs H Q E h => ?_) fun f cdv A outer s H vs Q E hr h => ?_
  · obtain ⟨w, vr, m, h, rfl, _⟩ := h
    rfl
  obtain ⟨w0, vr, m, h, rfl, hw, h0, h1, k⟩ := h
  refine ⟨_, (pss_cons (ps_expr (pe_hX (takes_of rfl rfl rfl rfl) D_check_house (hr.mono (by decide)) rfl (pa_cons (pv 0) (pa_cons (pv 1) pa_nil))))
    (pss_cons (ps_if (pt_cmpR op_eq (pv 1) pe_int (nomark _))
    (pss_one (ps_ret (pe_tup (pa_cons (pe_tup pa_nil) (pa_cons pe_non (pa_cons pe_int (pa_cons pe_int (pa_cons pe_int (pa_cons pe_bl (pa_cons (pe_tup (pa_cons pe_int (pa_cons pe_int (pa_cons pe_int pa_nil)))) (pa_cons (pe_glob (v := .ref WH) rfl g_WHOLE rfl) (pa_cons pe_bl pa_nil))))))))))))
    pss_nil)
    (pss_one (ps_ret (pe_tup (pa_cons (pe_tup pa_nil) (pa_cons pe_non (pa_cons pe_int (pa_cons pe_int (pa_cons pe_int (pa_cons pe_bl (pa_cons pe_non (pa_cons (pe_tup pa_nil) (pa_cons pe_bl pa_nil)))))))))))))), ?_⟩
  have hb1 := below_t h0 h1
  have kF : below m (.int h) = false → ∀ H0 : Hp, E (.ref CH) none H0 := fun e => by rw [hb1] at e; cases e
  refine ⟨_, rfl, _, rfl, NF, w0, m, vr, .int h, .int h, rfl, hw, .int _, fun e => kF e _, fun _ => ?_⟩
  trivial
  refine ite2 (fun c => ?_) (fun c => ?_)
  · have c' : h = 0 := by simpa using of_decide_eq_true c
    trivial
    intro q1 nq1
    have s1 := same_new0 (o := .tup []) nq1
    have e1 : upd H q1 (.tup []) q1 = some (.tup []) := upd_same
    generalize upd H q1 (.tup []) = H1 at *
    trivial
    intro q2 nq2
    have s2 := same_new0 (o := .tup [.int 0, .int 0, .int 0]) nq2
    have e2 : upd H1 q2 (.tup [.int 0, .int 0, .int 0]) q2 = some (.tup [.int 0, .int 0, .int 0]) := upd_same
    have e12 := s2 _ _ e1
    generalize upd H1 q2 (.tup [.int 0, .int 0, .int 0]) = H2 at *
    trivial
    intro T nT
    have sT := same_new0 (o := .tup [.ref q1, .non, .int 0, .int 0, .int 0, .bl false, .ref q2, .ref WH, .bl true]) nT
    refine k T _ ((s1.trans s2).trans sT) ?_
    rw [begunL, if_pos c']
    exact .tup (.inl upd_same) (.cons (.tup (.inl (sT _ _ e12)) .nil) (.cons .non (.cons (.int _) (.cons (.int _) (.cons (.int _) (.cons (.bl _) (.cons (.tup (.inl (sT _ _ e2)) (.cons (.int _) (.cons (.int _) (.cons (.int _) .nil)))) (.cons (.tup (.inr ⟨tWH, kWH⟩) (.cons (.int _) .nil)) (.cons (.bl _) .nil)))))))))
  · have c' : ¬ h = 0 := fun z => c (decide_eq_true (by rw [z]))
    trivial
    intro q1 nq1
    have s1 := same_new0 (o := .tup []) nq1
    have e1 : upd H q1 (.tup []) q1 = some (.tup []) := upd_same
    generalize upd H q1 (.tup []) = H1 at *
    trivial
    intro q2 nq2
    have s2 := same_new0 (o := .tup []) nq2
    have e2 : upd H1 q2 (.tup []) q2 = some (.tup []) := upd_same
    have e12 := s2 _ _ e1
    generalize upd H1 q2 (.tup []) = H2 at *
    trivial
    intro T nT
    have sT := same_new0 (o := .tup [.ref q1, .non, .int 0, .int 0, .int 0, .bl false, .non, .ref q2, .bl false]) nT
    refine k T _ ((s1.trans s2).trans sT) ?_
    rw [begunL, if_neg c']
    exact .tup (.inl upd_same) (.cons (.tup (.inl (sT _ _ e12)) .nil) (.cons .non (.cons (.int _) (.cons (.int _) (.cons (.int _) (.cons (.bl _) (.cons .non (.cons (.tup (.inl (sT _ _ e2)) .nil) (.cons (.bl _) .nil)))))))))
end
end KQ
set_option Elab.async false
set_option maxRecDepth 100000
set_option maxHeartbeats 4000000
namespace KQ
open PySem PySem.Spec PyProof.Rows L2
local macro_rules | `(tactic| walk_at "kq hp") => `(tactic| (first | assumption | exact upd_same | (rw [upd_ne (by first | assumption | exact Ne.symm (by assumption))]; first | assumption | exact upd_same | (rw [upd_ne (by first | assumption | exact Ne.symm (by assumption))]; first | assumption | exact upd_same))))
local macro_rules | `(tactic| walk_at "kq do") => `(tactic| (first | decide | omega))
local macro_rules | `(tactic| walk_at "kq cl") => `(tactic| focus (first | rfl | assumption | exact upd_same | exact SqL.of (by walk_at "kq hp") | exact SqT.of (by walk_at "kq hp") | exact Or.inl (SqL.of (by walk_at "kq hp")) | exact Or.inr (SqT.of (by walk_at "kq hp")) | exact Or.inl ⟨rfl, _, SqL.of (by walk_at "kq hp")⟩ | walk_at "kq hp" | decide | exact Nat.le_of_ble_eq_true rfl | omega | (show ∃ xs, SqL _ _ _ xs; exact ⟨_, SqL.of (by walk_at "kq hp")⟩) | (show ∃ xs, SqT _ _ _ xs; exact ⟨_, SqT.of (by walk_at "kq hp")⟩) | exact DGet.k (k := Sum.inl _) (by walk_at "kq hp") | (show V.int _ = kV (Sum.inl _); rfl) | (show ∃ z, V.str _ = V.str z; exact ⟨_, rfl⟩) | exact Or.inl ⟨by walk_at "kq do", by walk_at "kq do"⟩ | exact Or.inr ⟨by walk_at "kq do", by walk_at "kq do"⟩ | exact ⟨by walk_at "kq do", by walk_at "kq do"⟩ | exact ⟨by decide, by decide, by decide⟩ | exact L2.ClsV.ty _ | exact Dt.ty (by assumption) | exact Dt.kint (by assumption) | exact Dt.kbool (by assumption) | exact Dt.ktuple (by assumption) | exact Dt.klist (by assumption) | exact Dt.kstr (by assumption)))
local macro_rules | `(tactic| trivial) => `(tactic| repeat (first | refine sl_go (by walk_at "kq hp") ?_ | (unfold tNoPart; refine sl_go (by walk_at "kq hp") ?_) | refine cat_go (by walk_at "kq hp") (by walk_at "kq hp") ?_ ?_ | (apply And.intro; walk_at "kq cl") | (apply Exists.intro; apply And.intro; walk_at "kq cl") | (apply Exists.intro; apply Exists.intro; apply And.intro; walk_at "kq cl") | (apply Exists.intro; apply Exists.intro; apply Exists.intro; apply And.intro; walk_at "kq cl") | (apply Exists.intro; apply Exists.intro; apply Exists.intro; apply Exists.intro; apply And.intro; walk_at "kq cl") | (apply Exists.intro; apply Exists.intro; apply Exists.intro; apply Exists.intro; apply Exists.intro; apply And.intro; walk_at "kq cl") | (apply Exists.intro; apply Exists.intro; apply Exists.intro; apply Exists.intro; apply Exists.intro; apply Exists.intro; apply And.intro; walk_at "kq cl") | (apply Exists.intro; apply Exists.intro; apply Exists.intro; apply Exists.intro; apply Exists.intro; apply Exists.intro; apply Exists.intro; apply And.intro; walk_at "kq cl") | (apply Exists.intro; apply Exists.intro; apply Exists.intro; apply Exists.intro; apply Exists.intro; apply Exists.intro; apply Exists.intro; apply Exists.intro; apply And.intro; walk_at "kq cl") | (apply Exists.intro; apply Exists.intro; apply Exists.intro; apply Exists.intro; apply Exists.intro; apply Exists.intro; apply Exists.intro; apply Exists.intro; apply Exists.intro; apply And.intro; walk_at "kq cl") | refine Or.inl ⟨_, rfl, ?_⟩ | refine Or.inr ⟨_, rfl, ?_⟩ | refine Or.inr ⟨SqT.of (by walk_at "kq hp"), SqT.of (by walk_at "kq hp"), ?_⟩ | refine Or.inl ⟨SqL.of (by walk_at "kq hp"), SqL.of (by walk_at "kq hp"), ?_⟩ | refine Or.inl ⟨SqL.of (by walk_at "kq hp"), ?_⟩ | refine Or.inr ⟨SqT.of (by walk_at "kq hp"), ?_⟩ | refine ifT rfl ?_ | refine ifF rfl ?_))
section
variable {P : Program} {w : World} {K : PySem.W.Frag} {mg : Str → Option Value} {base : Heap} {C CH CT CI CS CW CG AN WH : Addr} {t1 t2 t3 t4 : Tok}
theorem d_check_gift (F : FunAt K mg "check_gift" s_check_gift) (g_MOST_TASKS : mg "MOST_TASKS" = some (.int 500 t1)) (x_NoTask : ExcAt K mg "NoTask" CT) (D_check_task : HasX P w K mg base 4 "check_task" ["works", "task"] (spCheckTask C CT)) (D_many_tasks : HasX P w K mg base 5 "many_tasks" ["works", "task"] (spTaskX C CT tot)) :
    HasX P w K mg base 6 "check_gift" ["works", "task"] (fun vs H Q _ => ∃ (w r b : Addr) (m : Int) (R : Rules) (t : Int × Int), vs = [.ref w, .ref b] ∧ WorksAt C H w (.int m) (.ref r) ∧ OkWorks m R ∧ Tr H (.ref r) (rulesD R) ∧ Tr H (.ref b) (taskP t) ∧ 0 ≤ t.1 ∧ t.1 < R.length ∧ 0 ≤ t.2 ∧ t.2 < 13 ∧ tot R t.2.toNat t.1 ≤ 500 ∧ ∀ H', Same H H' → Q .non H') := by
  refine mk_hasX F sc_check_gift (fun _ _ _ _ _ _ us hl => match us, hl with | [_, _], _ => rfl) (fun vs H Q E h => ?_) fun f cdv A outer s H vs Q E hr h => ?_
  · obtain ⟨w, r, b, m, R, t, rfl, _⟩ := h
    rfl
  obtain ⟨w0, r, b, m, R, t, rfl, hw, ok, tr, tb, h0, h1, h2, h3, ht, k⟩ := h
  refine ⟨_, (pss_cons (ps_expr (pe_hX (takes_of rfl rfl rfl rfl) D_check_task (hr.mono (by decide)) rfl (pa_cons (pv 0) (pa_cons (pv 1) pa_nil))))
    (pss_one (ps_if (pt_cmpR op_gt (pe_hX (takes_of rfl rfl rfl rfl) D_many_tasks (hr.mono (by decide)) rfl (pa_cons (pv 0) (pa_cons (pv 1) pa_nil))) (pe_glob (v := .int 500) rfl g_MOST_TASKS ⟨_, rfl⟩) (nomark _))
    (pss_one (ps_rz rfl (takes_of rfl rfl rfl rfl) x_NoTask rfl))
    pss_nil))), ?_⟩
  obtain ⟨rs, er, ar⟩ : ∃ rs, H r = some (.tup rs) ∧ TrAll H rs (R.map ruleD) := by cases tr with | tup e a => exact ⟨_, e, a⟩
  have lr : rs.length = R.length := by have := ar.len; rw [List.length_map] at this; exact this
  have hp := task_pair lr ⟨h0, h1, h2, h3⟩
  have hp2 : isPair R.length 13 (taskP t) = true := task_pair rfl ⟨h0, h1, h2, h3⟩
  have k1 : isPair rs.length 13 (taskP t) = false → ∀ H0 : Hp, E (.ref CT) none H0 := fun e => by rw [hp] at e; cases e
  have k2 : isPair R.length 13 (taskP t) = false → ∀ H0 : Hp, E (.ref CT) none H0 := fun e => by rw [hp2] at e; cases e
  refine ⟨_, rfl, _, rfl, NF, w0, r, .int m, .ref b, rs, taskP t, rfl, hw, er, tb.rp, fun e => k1 e _, fun _ => ?_⟩
  refine ⟨_, rfl, _, rfl, NF, w0, r, .int m, .ref b, m, R, taskP t, rfl, hw, tr.rp, ok, tb.rp, fun e => k2 e _, fun kk ff e _ H1 s1 => ?_⟩
  cases e
  trivial
  refine ite2 (fun c => ?_) (fun c => ?_)
  · have := of_decide_eq_true c
    omega
  · exact k H1 s1
theorem d_gifted (B : Bi mg) (F : FunAt K mg "gifted" s_gifted)
    (D_check_gift : HasX P w K mg base 6 "check_gift" ["works", "task"] (fun vs H Q _ => ∃ (w r b : Addr) (m : Int) (R : Rules) (t : Int × Int), vs = [.ref w, .ref b] ∧ WorksAt C H w (.int m) (.ref r) ∧ OkWorks m R ∧ Tr H (.ref r) (rulesD R) ∧ Tr H (.ref b) (taskP t) ∧ 0 ≤ t.1 ∧ t.1 < R.length ∧ 0 ≤ t.2 ∧ t.2 < 13 ∧ tot R t.2.toNat t.1 ≤ 500 ∧ ∀ H', Same H H' → Q .non H')) : HasX P w K mg base 7 "gifted" ["works", "state", "task"] (spGift K C) := by
  refine mk_hasX F sc_gifted (fun _ _ _ _ _ _ us hl => match us, hl with | [_, _, _], _ => rfl) (fun vs H Q E h => ?_) fun f cdv A outer s H vs Q E hr h => ?_
  · obtain ⟨w, r, a, b, m, R, st, t, rfl, _⟩ := h
    rfl
  obtain ⟨w0, r, a, b, m, R, st, t, rfl, hw, ok, tr, hst, lbg, tb, h0, h1, h2, h3, ht, k⟩ := h
  refine ⟨_, (pss_cons (ps_expr (pe_hX (takes_of rfl rfl rfl rfl) D_check_gift (hr.mono (by decide)) rfl (pa_cons (pv 0) (pa_cons (pv 2) pa_nil))))
    (pss_cons (ps_asg (pv 1) (pg_tup rfl (pgs_cons (pg_name (i := 3) sc_gifted.nd rfl (Or.inl rfl)) (pgs_cons (pg_name (i := 4) sc_gifted.nd rfl (Or.inl rfl)) (pgs_cons (pg_name (i := 5) sc_gifted.nd rfl (Or.inl rfl)) (pgs_cons (pg_name (i := 6) sc_gifted.nd rfl (Or.inl rfl)) (pgs_cons (pg_name (i := 7) sc_gifted.nd rfl (Or.inl rfl)) (pgs_cons (pg_name (i := 8) sc_gifted.nd rfl (Or.inl rfl)) (pgs_cons (pg_name (i := 9) sc_gifted.nd rfl (Or.inl rfl)) (pgs_cons (pg_name (i := 10) sc_gifted.nd rfl (Or.inl rfl)) (pgs_cons (pg_name (i := 11) sc_gifted.nd rfl (Or.inl rfl)) pgs_nil)))))))))))
    (C8.pss_cut (ps_if (pt_cmp (pc_isN (pv 4)))
    (pss_one (ps_set (i := 4) sc_gifted.nd rfl (Or.inl rfl) pe_int))
    pss_nil)
    (pss_one (ps_ret (pe_tup (pa_cons (pe_tup (pa_cons (pe_op op_catA (pv 3) (pe_tup (pa_cons (pv 2) pa_nil))) (pa_cons (pv 4) (pa_cons (pv 5) (pa_cons (pv 6) (pa_cons (pv 7) (pa_cons (pv 8) (pa_cons (pv 9) (pa_cons (pv 10) (pa_cons pe_bl pa_nil)))))))))) (pa_cons (pe_tup pa_nil) pa_nil)))))))), ?_⟩
  refine ⟨_, rfl, _, rfl, w0, r, b, m, R, t, rfl, hw, ok, tr, tb, h0, h1, h2, h3, ht, fun H1 s1 => ?_⟩
  obtain ⟨ba, sa, bs, gv, z0⟩ := hst
  have zz := z0.tk (tk_of s1)
  have ea := zz.e
  have lb : bs.length = st.bag.length := by have := zz.t.len; rw [List.length_map] at this; exact this
  refine ⟨_, rfl, a, _, rfl, SqT.of ea, rfl, _, _, rfl, _, _, rfl, _, _, rfl, _, _, rfl, _, _, rfl, _, _, rfl, _, _, rfl, _, _, rfl, _, _, rfl, rfl, ?_⟩
  refine ⟨fun σ H' => σ = [some (.ref w0), some (.ref a), some (.ref b), some (.ref ba), some (.int (st.par.getD 0)), some (.int st.de), some (.int st.se), some (.int st.tl), some (.bl st.bk), some gv, some (.ref sa), some (.bl st.sd)] ∧ H' = H1, ?_, ?_⟩
  · cases hp : st.par with
    | none => exact ⟨_, rfl, true, rfl, ifT rfl ⟨rfl, rfl⟩⟩
    | some p => exact ⟨_, rfl, false, rfl, ifF rfl ⟨rfl, rfl⟩⟩
  · rintro σ H2 ⟨rfl, rfl⟩
    have eb := zz.b
    trivial
    intro q1 nq1
    have sq1 := same_new0 (o := .tup [.ref b]) nq1
    have e1 : upd H2 q1 (.tup [.ref b]) q1 = some (.tup [.ref b]) := upd_same
    have eb1 := sq1 _ _ eb
    generalize upd H2 q1 (.tup [.ref b]) = H3 at *
    refine cat_go eb1 e1 (by simp; omega) fun q2 H4 sq2 e2 => ?_
    trivial
    intro q3 nq3
    have sq3 := same_new0 (o := .tup [.ref q2, .int (st.par.getD 0), .int st.de, .int st.se, .int st.tl, .bl st.bk, gv, .ref sa, .bl false]) nq3
    have e3 : upd H4 q3 (.tup [.ref q2, .int (st.par.getD 0), .int st.de, .int st.se, .int st.tl, .bl st.bk, gv, .ref sa, .bl false]) q3 = some (.tup [.ref q2, .int (st.par.getD 0), .int st.de, .int st.se, .int st.tl, .bl st.bk, gv, .ref sa, .bl false]) := upd_same
    have e23 := sq3 _ _ e2
    generalize upd H4 q3 (.tup [.ref q2, .int (st.par.getD 0), .int st.de, .int st.se, .int st.tl, .bl st.bk, gv, .ref sa, .bl false]) = H5 at *
    trivial
    intro q4 nq4
    have sq4 := same_new0 (o := .tup []) nq4
    have e4 : upd H5 q4 (.tup []) q4 = some (.tup []) := upd_same
    have e34 := sq4 _ _ e3
    have e24 := sq4 _ _ e23
    generalize upd H5 q4 (.tup []) = H6 at *
    trivial
    intro T nT
    have sT := same_new0 (o := .tup [.ref q3, .ref q4]) nT
    have s26 := ((sq1.trans sq2).trans sq3).trans sq4
    have z6 := zz.tk (tk_of (s26.trans sT))
    refine k T _ (s1.trans (s26.trans sT)) ⟨q3, q4, [], upd_same, ⟨q2, sa, bs ++ [.ref b], gv, sT _ _ e34, sT _ _ e24, ?_, z6.g, z6.s⟩, .inl (sT _ _ e4), .nil⟩
    show TrAll _ _ ((st.bag ++ [t]).map taskP)
    rw [List.map_append]
    exact z6.t.app (.cons (tb.tk (tk_of (s1.trans (s26.trans sT)))) .nil)
theorem d_is_state (B : Bi mg) (F : FunAt K mg "is_state" s_is_state) (D_check_house : HasX P w K mg base 4 "check_house" ["works", "house"] (spCheckHouse C CH)) (D_is_tuple_of : Has P w K mg base 1 "is_tuple_of" ["many", "thing"] spTupOf) (D_is_number : Has P w K mg base 1 "is_number" ["thing"] spIsNumber) (D_are_tasks : Has P w K mg base 4 "are_tasks" ["works", "thing"] (spAreT C)) (D_is_parent : Has P w K mg base 4 "is_parent" ["works", "house", "thing"] (spIsPar C))
    (D_is_flag : Has P w K mg base 1 "is_flag" ["thing"] (fun vs H Q _ => ∃ b : Bool, vs = [.bl b] ∧ Q (.bl true) H)) (D_is_sign : Has P w K mg base 3 "is_sign" ["thing"] spSign3) (D_is_share : Has P w K mg base 3 "is_share" ["thing"] (spTup shL)) : HasX P w K mg base 5 "is_state" ["works", "house", "thing"] (spIsState C) := by
  refine mk_hasX F sc_is_state (fun _ _ _ _ _ _ us hl => match us, hl with | [_, _, _], _ => rfl) (fun vs H Q E h => ?_) fun f cdv A outer s H vs Q E hr h => ?_
  · obtain ⟨w, r, a, m, h, R, st, rfl, _⟩ := h
    rfl
  obtain ⟨w0, r, a, m, h, R, st, rfl, hw, tr, h0, h1, hst, ok, k⟩ := h
  refine ⟨_, (pss_cons (ps_expr (pe_hX (takes_of rfl rfl rfl rfl) D_check_house (hr.mono (by decide)) rfl (pa_cons (pv 0) (pa_cons (pv 1) pa_nil))))
    (pss_cons (ps_if (pt_not (pt_val (pe_h D_is_tuple_of (hr.mono (by decide)) rfl (pa_cons pe_int (pa_cons (pv 2) pa_nil)))))
    (pss_one (ps_ret pe_bl))
    pss_nil)
    (pss_cons (ps_asg (pv 2) (pg_tup rfl (pgs_cons (pg_name (i := 3) sc_is_state.nd rfl (Or.inl rfl)) (pgs_cons (pg_name (i := 4) sc_is_state.nd rfl (Or.inl rfl)) (pgs_cons (pg_name (i := 5) sc_is_state.nd rfl (Or.inl rfl)) (pgs_cons (pg_name (i := 6) sc_is_state.nd rfl (Or.inl rfl)) (pgs_cons (pg_name (i := 7) sc_is_state.nd rfl (Or.inl rfl)) (pgs_cons (pg_name (i := 8) sc_is_state.nd rfl (Or.inl rfl)) (pgs_cons (pg_name (i := 9) sc_is_state.nd rfl (Or.inl rfl)) (pgs_cons (pg_name (i := 10) sc_is_state.nd rfl (Or.inl rfl)) (pgs_cons (pg_name (i := 11) sc_is_state.nd rfl (Or.inl rfl)) pgs_nil)))))))))))
    (pss_cons (ps_if (PW.pt (pw_or (pt_not (pt_val (pe_h D_are_tasks (hr.mono (by decide)) rfl (pa_cons (pv 0) (pa_cons (pv 3) pa_nil))))) (pw_or1 (pt_not (pt_val (pe_h D_is_parent (hr.mono (by decide)) rfl (pa_cons (pv 0) (pa_cons (pv 1) (pa_cons (pv 4) pa_nil)))))))))
    (pss_one (ps_ret pe_bl))
    pss_nil)
    (pss_cons (ps_if (pt_not (pt_val (pe_callB (cr_all rfl) rfl B.all (by decide +kernel) (pa_cons (pe_lc (own := [("item", 12)]) (g := gName 12) (tt := tYes) (te := (tCall spIsNumber [] E0 (tCons (tVar 12) tNil))) rfl sc_is_state.nd (pi_tup (pe_tup (pa_cons (pv 5) (pa_cons (pv 6) (pa_cons (pv 7) pa_nil))))) (blkOk_by (own := [("item", 12)]) (N := ["works", "house", "thing", "bag", "parent", "deficit", "sent", "told", "black", "sign", "share", "said", "item"]) (sc := defScope s_is_state) (by decide +kernel)) (fun _ _ _ _ _ => (pg_name (i := 12) sc_is_state.nd rfl (Or.inl rfl))) (fun _ _ _ _ _ => pts_nil) (fun _ _ _ _ _ => (pe_h D_is_number (hr.mono (by decide)) rfl (pa_cons (pv 12) pa_nil)))) pa_nil))))
    (pss_one (ps_ret pe_bl))
    pss_nil)
    (C8.pss_cut (ps_if (PW.pt (pw_or (pt_not (pt_val (pe_h D_is_flag (hr.mono (by decide)) rfl (pa_cons (pv 8) pa_nil)))) (pw_or (pt_not (pt_val (pe_h D_is_flag (hr.mono (by decide)) rfl (pa_cons (pv 11) pa_nil)))) (pw_or1 (PW.pt (pw_and (pt_val (pv 11)) (pw_and1 (pt_cmpR op_gt (pv 1) pe_int (nomark _)))))))))
    (pss_one (ps_ret pe_bl))
    pss_nil)
    (pss_one (ps_ret (pe_and (pe_or (pe_cmp (pc_isN (pv 9)) rfl) (pe_one (pe_h D_is_sign (hr.mono (by decide)) rfl (pa_cons (pv 9) pa_nil)))) (pe_one (pe_h D_is_share (hr.mono (by decide)) rfl (pa_cons (pv 10) pa_nil)))))))))))), ?_⟩
  have hb1 := below_t h0 h1
  have kF : below m (.int h) = false → ∀ H0 : Hp, E (.ref CH) none H0 := fun e => by rw [hb1] at e; cases e
  refine ⟨_, rfl, _, rfl, NF, w0, m, .ref r, .int h, .int h, rfl, hw, .int _, fun e => kF e _, fun _ => ?_⟩
  refine ⟨_, rfl, NF, .ref a, st.P, 9, rfl, hst.tr.rp, ?_⟩
  refine ⟨true, rfl, ifF rfl ?_⟩
  obtain ⟨ba, sa, bs, gv, zz⟩ := hst
  have ea := zz.e
  refine ⟨_, rfl, a, _, rfl, SqT.of ea, rfl, _, _, rfl, _, _, rfl, _, _, rfl, _, _, rfl, _, _, rfl, _, _, rfl, _, _, rfl, _, _, rfl, _, _, rfl, rfl, ?_⟩
  refine ⟨_, rfl, _, rfl, w0, r, ba, m, R, bs, st.bag, rfl, hw, tr, zz.b, zz.t, ok.bag, ok.bl, fun H1 s1 => ?_⟩
  refine ⟨true, rfl, ifF rfl ?_⟩
  have hw1 := hw.same s1
  have z1 := zz.tk (tk_of s1)
  refine ⟨_, rfl, _, rfl, _, rfl, w0, .ref r, m, h, st.par, rfl, hw1, ok.par, h0, ?_⟩
  refine ⟨true, rfl, ifF rfl ?_⟩
  trivial
  intro p np
  have sp := same_new0 (o := .tup [.int st.de, .int st.se, .int st.tl]) np
  have ep : upd H1 p (.tup [.int st.de, .int st.se, .int st.tl]) p = some (.tup [.int st.de, .int st.se, .int st.tl]) := upd_same
  have z2 := z1.tk (tk_of sp)
  have s2 := s1.trans sp
  generalize upd H1 p (.tup [.int st.de, .int st.se, .int st.tl]) = H2 at *
  refine ⟨p, rfl, ⟨_, SqT.of ep⟩, fun D nD => ?_⟩
  refine lc_map (walk_tup (xs := [V.int st.de, .int st.se, .int st.tl])) [V.bl true, .bl true, .bl true] rfl nD (by simp) (fun i H' _ s => SqT.of (s _ _ ep)) (fun i x H3 H4 Pn hi s3 y fin => ?_) fun H3 s3 e3 => ?_
  · obtain ⟨rfl, gx⟩ := y
    obtain ⟨n, rfl, hn⟩ : ∃ n : Int, x = .int n ∧ 0 ≤ n := by
      have := ok.de
      have := ok.se
      have := ok.tl
      match i, gx with
      | 0, gx => simp at gx; exact ⟨_, gx.symm, by omega⟩
      | 1, gx => simp at gx; exact ⟨_, gx.symm, by omega⟩
      | 2, gx => simp at gx; exact ⟨_, gx.symm, by omega⟩
      | i + 3, gx => simp at gx
    refine ⟨rfl, ?_⟩
    refine ⟨_, rfl, NF, .int n, .int n, rfl, .int _, ?_⟩
    rw [show numOf (.int n) = true from decide_eq_true hn]
    refine fin _ _ ?_ (Same.refl _)
    have hi3 : i < 3 := hi
    rcases (show i = 0 ∨ i = 1 ∨ i = 2 by omega) with rfl | rfl | rfl <;> rfl
  rw [show [V.bl true, .bl true, .bl true] = [true, true, true].map V.bl from rfl] at e3
  refine ⟨_, _, rfl, SqL.of e3, ?_⟩
  refine ⟨true, rfl, ifF rfl ?_⟩
  have z3 := z2.tk (tk_of s3)
  refine ⟨fun σ H' => σ = [some (.ref w0), some (.int h), some (.ref a), some (.ref ba), some (optV st.par), some (.int st.de), some (.int st.se), some (.int st.tl), some (.bl st.bk), some gv, some (.ref sa), some (.bl st.sd), none] ∧ H' = H3, ?_, ?_⟩
  · refine ⟨_, rfl, st.bk, rfl, ?_⟩
    refine ⟨true, rfl, ifF rfl ?_⟩
    refine ⟨_, rfl, st.sd, rfl, ?_⟩
    refine ⟨true, rfl, ifF rfl ?_⟩
    cases hsd : st.sd with
    | false => exact ⟨_, rfl, false, rfl, ifF rfl ⟨rfl, rfl⟩⟩
    | true =>
      refine ⟨_, rfl, true, rfl, ifT rfl ?_⟩
      have e0 := ok.sd hsd
      trivial
      refine ite2 (fun c => ?_) (fun c => ?_)
      · have := of_decide_eq_true c
        omega
      · exact ⟨rfl, rfl⟩
  rintro σ H4 ⟨rfl, rfl⟩
  have hg := z3.g
  have es := z3.s
  have shr : ∀ {H5 : Hp}, Same H4 H5 → _ := fun {H5} s5 => k H5 ((s2.trans s3).trans s5)
  have fin : ∀ {H5 : Hp}, Same H4 H5 → Q (.bl (tupB shL H4 (.ref sa))) H5 := fun {H5} s5 => by
    rw [tupB_at es, shL_iff.mpr ok.sh]
    exact shr s5
  cases hs : st.sg with
  | none =>
    rw [hs] at hg
    cases hg
    refine ⟨_, rfl, true, rfl, ifT rfl ?_⟩
    refine ⟨true, rfl, ifT rfl ?_⟩
    exact ⟨_, rfl, .ref sa, rfl, sh_tg es ok.sl, fun H5 s5 => fin s5⟩
  | some q =>
    obtain ⟨x, y, z⟩ := q
    rw [hs] at hg
    obtain ⟨g, rfl, eg⟩ := hg
    obtain ⟨o1, o2, o3, o4⟩ := ok.sg x y z hs
    refine ⟨_, rfl, false, rfl, ifF rfl ?_⟩
    refine ⟨_, rfl, g, x, y, z, rfl, eg, o1, o2, o3, o4, ?_⟩
    refine ⟨true, rfl, ifT rfl ?_⟩
    exact ⟨_, rfl, .ref sa, rfl, sh_tg es ok.sl, fun H5 s5 => fin s5⟩
end
end KQ
set_option Elab.async false
set_option maxRecDepth 100000
set_option maxHeartbeats 4000000
namespace KQ
open PySem PySem.Spec PyProof.Rows L2
local macro_rules | `(tactic| walk_at "kq hp") => `(tactic| (first | assumption | exact upd_same | (rw [upd_ne (by first | assumption | exact Ne.symm (by assumption))]; first | assumption | exact upd_same | (rw [upd_ne (by first | assumption | exact Ne.symm (by assumption))]; first | assumption | exact upd_same))))
local macro_rules | `(tactic| walk_at "kq do") => `(tactic| (first | decide | omega))
local macro_rules | `(tactic| walk_at "kq cl") => `(tactic| focus (first | rfl | assumption | exact upd_same | exact SqL.of (by walk_at "kq hp") | exact SqT.of (by walk_at "kq hp") | exact Or.inl (SqL.of (by walk_at "kq hp")) | exact Or.inr (SqT.of (by walk_at "kq hp")) | exact Or.inl ⟨rfl, _, SqL.of (by walk_at "kq hp")⟩ | walk_at "kq hp" | decide | exact Nat.le_of_ble_eq_true rfl | omega | (show ∃ xs, SqL _ _ _ xs; exact ⟨_, SqL.of (by walk_at "kq hp")⟩) | (show ∃ xs, SqT _ _ _ xs; exact ⟨_, SqT.of (by walk_at "kq hp")⟩) | exact DGet.k (k := Sum.inl _) (by walk_at "kq hp") | (show V.int _ = kV (Sum.inl _); rfl) | (show ∃ z, V.str _ = V.str z; exact ⟨_, rfl⟩) | exact Or.inl ⟨by walk_at "kq do", by walk_at "kq do"⟩ | exact Or.inr ⟨by walk_at "kq do", by walk_at "kq do"⟩ | exact ⟨by walk_at "kq do", by walk_at "kq do"⟩ | exact ⟨by decide, by decide, by decide⟩ | exact L2.ClsV.ty _ | exact Dt.ty (by assumption) | exact Dt.kint (by assumption) | exact Dt.kbool (by assumption) | exact Dt.ktuple (by assumption) | exact Dt.klist (by assumption) | exact Dt.kstr (by assumption)))
local macro_rules | `(tactic| trivial) => `(tactic| repeat (first | refine sl_go (by walk_at "kq hp") ?_ | (unfold tNoPart; refine sl_go (by walk_at "kq hp") ?_) | refine cat_go (by walk_at "kq hp") (by walk_at "kq hp") ?_ ?_ | (apply And.intro; walk_at "kq cl") | (apply Exists.intro; apply And.intro; walk_at "kq cl") | (apply Exists.intro; apply Exists.intro; apply And.intro; walk_at "kq cl") | (apply Exists.intro; apply Exists.intro; apply Exists.intro; apply And.intro; walk_at "kq cl") | (apply Exists.intro; apply Exists.intro; apply Exists.intro; apply Exists.intro; apply And.intro; walk_at "kq cl") | (apply Exists.intro; apply Exists.intro; apply Exists.intro; apply Exists.intro; apply Exists.intro; apply And.intro; walk_at "kq cl") | (apply Exists.intro; apply Exists.intro; apply Exists.intro; apply Exists.intro; apply Exists.intro; apply Exists.intro; apply And.intro; walk_at "kq cl") | (apply Exists.intro; apply Exists.intro; apply Exists.intro; apply Exists.intro; apply Exists.intro; apply Exists.intro; apply Exists.intro; apply And.intro; walk_at "kq cl") | (apply Exists.intro; apply Exists.intro; apply Exists.intro; apply Exists.intro; apply Exists.intro; apply Exists.intro; apply Exists.intro; apply Exists.intro; apply And.intro; walk_at "kq cl") | (apply Exists.intro; apply Exists.intro; apply Exists.intro; apply Exists.intro; apply Exists.intro; apply Exists.intro; apply Exists.intro; apply Exists.intro; apply Exists.intro; apply And.intro; walk_at "kq cl") | refine Or.inl ⟨_, rfl, ?_⟩ | refine Or.inr ⟨_, rfl, ?_⟩ | refine Or.inr ⟨SqT.of (by walk_at "kq hp"), SqT.of (by walk_at "kq hp"), ?_⟩ | refine Or.inl ⟨SqL.of (by walk_at "kq hp"), SqL.of (by walk_at "kq hp"), ?_⟩ | refine Or.inl ⟨SqL.of (by walk_at "kq hp"), ?_⟩ | refine Or.inr ⟨SqT.of (by walk_at "kq hp"), ?_⟩ | refine ifT rfl ?_ | refine ifF rfl ?_))
/-! ### the law's own deeds -/
def whyS : Why → Str
  | .there => "nothing there"
  | .share => "share"
  | .word => "word"
  | .sign => "sign"
abbrev Res9 := Sum Why (Hs × List (Int × Wd))
def DueAt (H : Hp) (T : Addr) : Res9 → Prop
  | .inl y => H T = some (.tup [.str "refused", .str (whyS y)])
  | .inr p => ∃ a o os, H T = some (.tup [.str "told", .ref a, .ref o]) ∧ HsAt H a p.1 ∧ H o = some (.tup os) ∧ TrAll H os (p.2.map outP)
theorem DueAt.tk {H H' : Hp} {T : Addr} {r : Res9} (h : DueAt H T r) (k : Tk H H') : DueAt H' T r := by
  cases r with
  | inl y => exact k _ _ h
  | inr p =>
    obtain ⟨a, o, os, h1, h2, h3, h4⟩ := h
    exact ⟨a, o, os, k _ _ h1, h2.tk k, k _ _ h3, h4.tk k⟩
def spLSends : Sp := fun vs H Q _ => ∃ (lw r ta : Addr) (m h : Int) (R : Rules) (t : Int × Int), vs = [.ref lw, .int h, .ref ta] ∧ H lw = some (.tup [.int m, .ref r]) ∧ Tr H (.ref r) (rulesD R) ∧ OkWorks m R ∧ H ta = some (.tup [.int t.1, .int t.2]) ∧ 0 ≤ t.1 ∧ t.1 < R.length ∧
  ∀ q xs H', Same H H' → H q = none → H' q = some (.lst xs) → TrAll H' xs ((sentL m R h t).map sntP) → Q (.ref q) H'
def spLEnded : Sp := fun vs H Q _ => ∃ (h : Int) (a o : Addr) (s : Hs) (os : List V) (out : List (Int × Wd)), vs = [.int h, .ref a, .ref o] ∧ HsAt H a s ∧ H o = some (.lst os) ∧ TrAll H os (out.map outP) ∧ os.length ≤ 1000 ∧
  ∀ b os' H', (∀ c u, H c = some u → c ≠ o → H' c = some u) → H' o = some (.lst os') → TrAll H' os' ((endL h s out).2.map outP) → HsAt H' b (endL h s out).1 → os'.length ≤ os.length + 2 → Q (.ref b) H'
def spLDo : Sp := fun vs H Q _ => ∃ (lw r a : Addr) (m h : Int) (R : Rules) (s : Hs), vs = [.ref lw, .int h, .ref a] ∧ H lw = some (.tup [.int m, .ref r]) ∧ Tr H (.ref r) (rulesD R) ∧ OkWorks m R ∧ HsAt H a s ∧ (∀ t ∈ s.bag, 0 ≤ t.1 ∧ t.1 < R.length ∧ 0 ≤ t.2 ∧ t.2 < 13) ∧ s.sh.length ≤ 1000 ∧
  ∀ T H', Same H H' → DueAt H' T (doneL m R h s) → Q (.ref T) H'
theorem fr_tk {H H' : Hp} {o : Addr} {os : List V} (e : H o = some (.lst os)) (f : ∀ c u, H c = some u → c ≠ o → H' c = some u) : Tk H H' := fun a xs ea => f a _ ea (ne_of e ea (by intro z; cases z)).symm
section
variable {P : Program} {w : World} {K : PySem.W.Frag} {mg : Str → Option Value} {base : Heap}
theorem d_law_halved (B : Bi mg) (F : FunAt K mg "_law_halved" s_law_halved) : Has P w K mg base 1 "_law_halved" ["share"] spHalved := by
  refine mk_has F sc_law_halved (fun _ _ _ _ _ _ us hl => match us, hl with | [_], _ => rfl) (fun vs H Q E h => ?_) fun f cdv A outer s H vs Q E hr h => ?_
  · obtain ⟨a, ns, rfl, _⟩ := h
    rfl
  obtain ⟨a, ns, rfl, ea, hl, k⟩ := h
  refine ⟨_, (pss_one (ps_ret (pe_callTy call_tuple_of rfl B.tuple (by decide +kernel) (pa_cons (pe_lc (own := [("place", 1)]) (g := gName 1) (tt := tYes) (te := (tOp (rI0 fun i j => .int (i + j)) (tVar 1) (tC (.int 1)))) rfl sc_law_halved.nd (pi_tup (pv 0)) (blkOk_by (own := [("place", 1)]) (N := ["share", "place"]) (sc := defScope s_law_halved) (by decide +kernel)) (fun _ _ _ _ _ => (pg_name (i := 1) sc_law_halved.nd rfl (Or.inl rfl))) (fun _ _ _ _ _ => pts_nil) (fun _ _ _ _ _ => (pe_op op_add (pv 1) pe_int))) pa_nil)))), ?_⟩
  trivial
  intro D nD
  refine lc_map (walk_tup (xs := ns.map V.int)) ((ns.map (· + 1)).map V.int) (by simp) nD (by rw [List.length_map]; omega) (fun i H' _ s => SqT.of (s _ _ ea)) (fun i x H3 H4 Pn hi s3 y fin => ?_) fun H3 s3 e3 => ?_
  · obtain ⟨rfl, gx⟩ := y
    rw [List.getElem?_map] at gx
    obtain ⟨n, gn, rfl⟩ := Option.map_eq_some_iff.mp gx
    trivial
    exact fin _ _ (by rw [List.getElem?_map, List.getElem?_map, gn]; rfl) (Same.refl _)
  · trivial
    intro p np
    exact k p _ (snew s3 np) upd_same
theorem d_law_sends (B : Bi mg) (F : FunAt K mg "_law_sends" s_law_sends) : Has P w K mg base 1 "_law_sends" ["works", "house", "task"] spLSends := by
  refine mk_has F sc_law_sends (fun _ _ _ _ _ _ us hl => match us, hl with | [_, _, _], _ => rfl) (fun vs H Q E h => ?_) fun f cdv A outer s H vs Q E hr h => ?_
  · obtain ⟨lw, r, ta, m, h, R, t, rfl, _⟩ := h
    rfl
  obtain ⟨lw, r, ta, m, h, R, t, rfl, ew, tr, ok, et, h0, h1, k⟩ := h
  refine ⟨_, (pss_cons (ps_if (pt_cmpR op_eq (pe_ix ix_tup (pv 2) pe_int (fun _ _ => rfl)) pe_int (nomark _))
    (pss_one (ps_ret (pe_lst pa_nil)))
    pss_nil)
    (pss_one (ps_ret (pe_lc (own := [("step", 3), ("kind", 4)]) (g := gTup K 2 (gCons (gName 3) (gCons (gName 4) gNil))) (tt := tYes) (te := (tTup (tCons (tOp (rI (fun _ j => j ≠ 0) fun i j => .int (i.fmod j)) (tCB rInt1 (tCons (tOp (rI0 fun i j => .int (i + j)) (tVar 1) (tVar 3)) tNil)) (tOp (rIxT K) (tVar 0) (tC (.int 0)))) (tCons (tTup (tCons (tVar 4) (tCons (tOp (rI0 fun i j => .int (i - j)) (tOp (rIxT K) (tVar 2) (tC (.int 1))) (tC (.int 1))) tNil))) tNil)))) rfl sc_law_sends.nd (pi_tup (pe_ix ix_tup (pe_ix ix_tup (pv 0) pe_int (fun _ _ => rfl)) (pe_ix ix_tup (pv 2) pe_int (fun _ _ => rfl)) (fun _ _ => rfl))) (blkOk_by (own := [("step", 3), ("kind", 4)]) (N := ["works", "house", "task", "step", "kind"]) (sc := defScope s_law_sends) (by decide +kernel)) (fun _ _ _ _ _ => (pg_tup rfl (pgs_cons (pg_name (i := 3) sc_law_sends.nd rfl (Or.inl rfl)) (pgs_cons (pg_name (i := 4) sc_law_sends.nd rfl (Or.inl rfl)) pgs_nil)))) (fun _ _ _ _ _ => pts_nil) (fun _ _ _ _ _ => (pe_tup (pa_cons (pe_op op_modN (pe_callTy call_int1 rfl B.int (by decide +kernel) (pa_cons (pe_op op_add (pv 1) (pv 3)) pa_nil)) (pe_ix ix_tup (pv 0) pe_int (fun _ _ => rfl))) (pa_cons (pe_tup (pa_cons (pv 4) (pa_cons (pe_op op_sub (pe_ix ix_tup (pv 2) pe_int (fun _ _ => rfl)) pe_int) pa_nil))) pa_nil)))))))), ?_⟩
  have a0 : atI [V.int t.1, .int t.2] 0 = some (.int t.1) := atI_nat rfl
  have a1 : atI [V.int t.1, .int t.2] 1 = some (.int t.2) := atI_nat rfl
  have b0 : atI [V.int m, .ref r] 0 = some (.int m) := atI_nat rfl
  have b1 : atI [V.int m, .ref r] 1 = some (.ref r) := atI_nat rfl
  refine ⟨_, rfl, _, _, _, _, rfl, rfl, SqT.of et, a1, rfl, ?_⟩
  unfold sentL at k
  trivial
  refine ite2 (fun c => ?_) (fun c => ?_)
  · have c' : t.2 = 0 := by simpa using of_decide_eq_true c
    rw [if_pos c'] at k
    trivial
    intro q nq
    exact k q [] _ (same_new0 nq) nq upd_same .nil
  have c' : ¬ t.2 = 0 := fun z => c (decide_eq_true (by rw [z]))
  rw [if_neg c'] at k
  obtain ⟨j, hj⟩ := Int.eq_ofNat_of_zero_le h0
  have hjl : j < R.length := by omega
  have hR : R.getD t.1.toNat [] = R[j] := by rw [hj]; simp [List.getD_eq_getElem?_getD, hjl]
  rw [hR] at k
  cases tr with
  | @tup _ rs _ er ar =>
  have lr : rs.length = R.length := by have := ar.len; rw [List.length_map] at this; exact this
  obtain ⟨rj, hrj⟩ : ∃ x, rs[j]? = some x := ⟨_, List.getElem?_eq_getElem (by omega)⟩
  obtain ⟨d, gd, rd⟩ := ar.at_ hrj
  rw [List.getElem?_map, List.getElem?_eq_getElem hjl] at gd
  cases gd
  have aj : atI rs t.1 = some rj := by rw [hj]; exact atI_nat hrj
  cases rd with
  | @tup pj ys _ ej aj2 =>
  have ly : ys.length = R[j].length := by have := aj2.len; rw [List.length_map] at this; exact this
  have l4 := (ok.at_ _ (List.getElem_mem hjl)).len
  refine ⟨_, rfl, _, _, _, _, rfl, rfl, SqT.of ew, b1, _, rfl, _, _, _, _, rfl, rfl, SqT.of et, a0, _, _, _, _, rfl, rfl, SqT.of er, aj, ?_⟩
  refine ⟨pj, rfl, ⟨_, SqT.of ej⟩, fun D nD => ?_⟩
  refine lc_it (walk_tup (xs := ys)) (fun i H' => Same H H' ∧ ∃ zs, H' D = some (.lst zs) ∧ zs.length = i ∧ TrAll H' zs (((R[j].take i).map fun p => ((h + p.1).fmod m, p.2, t.2 - 1)).map sntP)) ⟨same_new0 nD, [], upd_same, rfl, .nil⟩ (fun i H' _ q => SqT.of (q.1 _ _ ej)) (fun i x H5 H6 hi q y => ?_) fun H5 q => ?_
  · obtain ⟨s5, zs, eD, lz, rz⟩ := q
    obtain ⟨rfl, gx⟩ := y
    obtain ⟨d, gd, rd⟩ := aj2.at_ gx
    rw [List.getElem?_map] at gd
    obtain ⟨⟨p1, p2⟩, gp, rfl⟩ := Option.map_eq_some_iff.mp gd
    dsimp only [pairD] at rd
    cases rd with
    | @tup px xs _ ep ap =>
    cases ap with
    | cons r1 ap =>
    cases r1
    cases ap with
    | cons r2 ap =>
    cases r2
    cases ap
    have ep5 := s5 _ _ ep
    have ew5 := s5 _ _ ew
    have et5 := s5 _ _ et
    have hm : m ≠ 0 := by have := ok.m1; omega
    refine ⟨px, _, rfl, SqT.of ep5, rfl, _, _, rfl, _, _, rfl, rfl, rfl, ?_⟩
    refine tYes_ok ?_
    rw [if_pos rfl]
    trivial
    intro u1 nu1
    trivial
    have su1 := same_new0 (o := .tup [.int p2, .int (t.2 - 1)]) nu1
    have eu1 : upd H6 u1 (.tup [.int p2, .int (t.2 - 1)]) u1 = some (.tup [.int p2, .int (t.2 - 1)]) := upd_same
    have eD1 := su1 _ _ eD
    have nD5 : D ≠ u1 := fun z => by rw [← z, eD] at nu1; cases nu1
    show ∀ p, (upd H6 u1 (.tup [.int p2, .int (t.2 - 1)])) p = none → _
    generalize upd H6 u1 (.tup [.int p2, .int (t.2 - 1)]) = H7 at *
    intro u2 nu2
    have su2 := same_new0 (o := .tup [.int ((h + p1).fmod m), .ref u1]) nu2
    have eu2 : upd H7 u2 (.tup [.int ((h + p1).fmod m), .ref u1]) u2 = some (.tup [.int ((h + p1).fmod m), .ref u1]) := upd_same
    have eu12 := su2 _ _ eu1
    have eD2 := su2 _ _ eD1
    refine ⟨zs, eD2, by rw [sizeLine_eq]; have := (ok.at_ _ (List.getElem_mem hjl)).len; omega, sput ((s5.trans su1).trans su2) nD, zs ++ [.ref u2], upd_same, by simp [lz], ?_⟩
    rw [List.take_add_one, gp, List.map_append, List.map_append]
    refine TrAll.tk (Tk.lst eD2) ((rz.tk (tk_of (su1.trans su2))).app (.cons ?_ .nil))
    exact .tup eu2 (.cons (.int _) (.cons (.tup eu12 (.cons (.int _) (.cons (.int _) .nil))) .nil))
  · obtain ⟨s5, zs, eD, lz, rz⟩ := q
    rw [List.take_of_length_le (by omega)] at rz
    exact k D zs H5 s5 nD eD rz
theorem d_law_ended (B : Bi mg) (F : FunAt K mg "_law_ended" s_law_ended) : Has P w K mg base 1 "_law_ended" ["house", "state", "out"] spLEnded := by
  refine mk_has F sc_law_ended (fun _ _ _ _ _ _ us hl => match us, hl with | [_, _, _], _ => rfl) (fun vs H Q E h => ?_) fun f cdv A outer s H vs Q E hr h => ?_
  · obtain ⟨h, a, o, st, os, out, rfl, _⟩ := h
    rfl
  obtain ⟨h, a, o, st, os, out, rfl, ⟨ba, sa, bs, gv, z⟩, ho, hos, hlo, k⟩ := h
  refine ⟨_, (pss_cons (ps_asg (pv 1) (pg_tup rfl (pgs_cons (pg_name (i := 3) sc_law_ended.nd rfl (Or.inl rfl)) (pgs_cons (pg_name (i := 4) sc_law_ended.nd rfl (Or.inl rfl)) (pgs_cons (pg_name (i := 5) sc_law_ended.nd rfl (Or.inl rfl)) (pgs_cons (pg_name (i := 6) sc_law_ended.nd rfl (Or.inl rfl)) (pgs_cons (pg_name (i := 7) sc_law_ended.nd rfl (Or.inl rfl)) (pgs_cons (pg_name (i := 8) sc_law_ended.nd rfl (Or.inl rfl)) (pgs_cons (pg_name (i := 9) sc_law_ended.nd rfl (Or.inl rfl)) (pgs_cons (pg_name (i := 10) sc_law_ended.nd rfl (Or.inl rfl)) (pgs_cons (pg_name (i := 11) sc_law_ended.nd rfl (Or.inl rfl)) pgs_nil)))))))))))
    (pss_cons (ps_if (pt_cmpR op_gt (pe_callB call_len_seq rfl B.len PySem.boot_len (pa_cons (pv 3) pa_nil)) pe_int (nomark _))
    (pss_one (ps_ret (pv 1)))
    pss_nil)
    (C8.pss_cut (ps_if (PW.pt (pw_and (pt_cmpR op_eq (pv 5) pe_int (nomark _)) (pw_and1 (pt_cmp (pc_notN (pv 4))))))
    (C8.pss_cut (ps_if (pt_cmpR op_gt (pv 0) pe_int (nomark _))
    (pss_one (ps_expr (pe_bm PySem.F.plainAttrs_list PySem.F.slot_list_append PySem.F.type_list_append mt_append (pv 2) (pa_cons (pe_tup (pa_cons (pv 4) (pa_cons (pe_tup (pa_cons pe_str pa_nil)) pa_nil))) pa_nil))))
    pss_nil)
    (pss_one (ps_set (i := 4) sc_law_ended.nd rfl (Or.inl rfl) pe_non)))
    pss_nil)
    (C8.pss_cut (ps_if (PW.pt (pw_and (pt_cmpR op_gt (pv 0) pe_int (nomark _)) (pw_and1 (pt_cmpR op_gt (pe_callB call_len_seq rfl B.len PySem.boot_len (pa_cons (pv 10) pa_nil)) pe_int (nomark _)))))
    (pss_cons (ps_expr (pe_bm PySem.F.plainAttrs_list PySem.F.slot_list_append PySem.F.type_list_append mt_append (pv 2) (pa_cons (pe_tup (pa_cons pe_int (pa_cons (pe_tup (pa_cons pe_str (pa_cons (pv 10) pa_nil))) pa_nil))) pa_nil)))
    (pss_one (ps_set (i := 10) sc_law_ended.nd rfl (Or.inl rfl) (pe_tup pa_nil))))
    pss_nil)
    (pss_one (ps_ret (pe_tup (pa_cons (pv 3) (pa_cons (pv 4) (pa_cons (pv 5) (pa_cons (pv 6) (pa_cons (pv 7) (pa_cons (pv 8) (pa_cons (pv 9) (pa_cons (pv 10) (pa_cons (pv 11) pa_nil)))))))))))))))), ?_⟩
  have ea := z.e
  have eb := z.b
  have es := z.s
  refine ⟨_, rfl, a, _, rfl, SqT.of ea, rfl, _, _, rfl, _, _, rfl, _, _, rfl, _, _, rfl, _, _, rfl, _, _, rfl, _, _, rfl, _, _, rfl, _, _, rfl, rfl, ?_⟩
  have lb : bs.length = st.bag.length := by have := z.t.len; rw [List.length_map] at this; exact this
  trivial
  refine ite2 (fun c => ?_) (fun c => ?_)
  · have c' : 0 < st.bag.length := by have := of_decide_eq_true c; omega
    trivial
    refine k a os H (fun _ _ e _ => e) ho ?_ ?_ (by omega)
    · rw [endL, if_pos c']
      exact hos
    · rw [endL, if_pos c']
      exact ⟨ba, sa, bs, gv, z⟩
  have c' : ¬ 0 < st.bag.length := by have := of_decide_eq_false (Bool.eq_false_iff.mpr c); omega
  trivial
  refine ⟨fun σ H' => ∃ os1, σ = [some (.int h), some (.ref a), some (.ref o), some (.ref ba), some (optV (endA h st out).1.par), some (.int st.de), some (.int st.se), some (.int st.tl), some (.bl st.bk), some gv, some (.ref sa), some (.bl st.sd)] ∧ (∀ c u, H c = some u → c ≠ o → H' c = some u) ∧ H' o = some (.lst os1) ∧ TrAll H' os1 ((endA h st out).2.map outP) ∧ os1.length ≤ os.length + 1, ?_, ?_⟩
  · have no : (st.par = none ∨ st.de ≠ 0) → (fun (σ : L2.St) (H' : Hp) => ∃ os1, σ = [some (.int h), some (.ref a), some (.ref o), some (.ref ba), some (optV (endA h st out).1.par), some (.int st.de), some (.int st.se), some (.int st.tl), some (.bl st.bk), some gv, some (.ref sa), some (.bl st.sd)] ∧ (∀ c u, H c = some u → c ≠ o → H' c = some u) ∧ H' o = some (.lst os1) ∧ TrAll H' os1 ((endA h st out).2.map outP) ∧ os1.length ≤ os.length + 1) [some (.int h), some (.ref a), some (.ref o), some (.ref ba), some (optV st.par), some (.int st.de), some (.int st.se), some (.int st.tl), some (.bl st.bk), some gv, some (.ref sa), some (.bl st.sd)] H := fun hn => by
      have e : endA h st out = (st, out) := by
        unfold endA
        cases hp : st.par with
        | none => rfl
        | some p => rcases hn with z | z
                    · rw [hp] at z; cases z
                    · exact if_neg z
      rw [e]
      exact ⟨os, rfl, fun _ _ e _ => e, ho, hos, by omega⟩
    trivial
    refine ite2 (fun c1 => ?_) (fun c1 => ?_)
    · have c1' : st.de = 0 := by simpa using of_decide_eq_true c1
      cases hp : st.par with
      | none =>
        refine ⟨_, rfl, ?_⟩
        refine ⟨false, rfl, ifF rfl ?_⟩
        have := no (.inl hp)
        rw [hp] at this
        exact this
      | some p =>
        have eA : endA h st out = ({ st with par := none }, if 0 < h then out ++ [(p, .ans)] else out) := by
          unfold endA
          rw [hp]
          exact if_pos c1'
        refine ⟨_, rfl, ?_⟩
        refine ⟨true, rfl, ifT rfl ?_⟩
        rw [eA]
        refine ⟨fun σ H' => ∃ os1, σ = [some (.int h), some (.ref a), some (.ref o), some (.ref ba), some (.int p), some (.int st.de), some (.int st.se), some (.int st.tl), some (.bl st.bk), some gv, some (.ref sa), some (.bl st.sd)] ∧ (∀ c u, H c = some u → c ≠ o → H' c = some u) ∧ H' o = some (.lst os1) ∧ TrAll H' os1 ((if 0 < h then out ++ [(p, Wd.ans)] else out).map outP) ∧ os1.length ≤ os.length + 1, ?_, ?_⟩
        · trivial
          refine ite2 (fun c2 => ?_) (fun c2 => ?_)
          · have c2' : 0 < h := of_decide_eq_true c2
            rw [if_pos c2']
            trivial
            intro q1 nq1
            have s1 := same_new0 (o := .tup [.str "answer"]) nq1
            have e1 : upd H q1 (.tup [.str "answer"]) q1 = some (.tup [.str "answer"]) := upd_same
            have ho1 := s1 _ _ ho
            generalize upd H q1 (.tup [.str "answer"]) = H1 at *
            trivial
            intro q2 nq2
            have s2 := same_new0 (o := .tup [optV (some p), .ref q1]) nq2
            have e2 : upd H1 q2 (.tup [optV (some p), .ref q1]) q2 = some (.tup [optV (some p), .ref q1]) := upd_same
            have e12 := s2 _ _ e1
            have ho2 := s2 _ _ ho1
            generalize upd H1 q2 (.tup [optV (some p), .ref q1]) = H2 at *
            have s02 := s1.trans s2
            trivial
            refine ⟨by rw [sizeLine_eq]; omega, os ++ [.ref q2], rfl, fun c u q n => by rw [upd_ne n]; exact s02 _ _ q, upd_same, ?_, by simp⟩
            rw [List.map_append]
            refine TrAll.tk (Tk.lst ho2) ((hos.tk (tk_of s02)).app (.cons (.tup e2 (.cons (.int _) (.cons (.tup e12 (.cons (.str _) .nil)) .nil))) .nil))
          · have c2' : ¬ 0 < h := of_decide_eq_false (Bool.eq_false_iff.mpr c2)
            rw [if_neg c2']
            exact ⟨os, rfl, fun _ _ e _ => e, ho, hos, by omega⟩
        · rintro σ H1 ⟨os1, rfl, s1, t1, h1, l1⟩
          exact ⟨os1, rfl, s1, t1, h1, l1⟩
    · have c1' : st.de ≠ 0 := fun z => c1 (decide_eq_true (by rw [z]))
      exact no (.inr c1')
  · rintro σ H1 ⟨os1, rfl, s1, t1, h1, l1⟩
    have es1 := s1 _ _ es (ne_of ho es (by intro z; cases z)).symm
    have eE : endL h st out = endB h (endA h st out) := if_neg c'
    have hA : (endA h st out).1 = { st with par := (endA h st out).1.par } := by
      unfold endA
      cases st.par with
      | none => rfl
      | some p => dsimp only; split <;> rfl
    have hAs : (endA h st out).1.sh = st.sh := by rw [hA]
    refine ⟨fun σ H' => ∃ os2 sa2, σ = [some (.int h), some (.ref a), some (.ref o), some (.ref ba), some (optV (endA h st out).1.par), some (.int st.de), some (.int st.se), some (.int st.tl), some (.bl st.bk), some gv, some (.ref sa2), some (.bl st.sd)] ∧ (∀ c u, H c = some u → c ≠ o → H' c = some u) ∧ H' o = some (.lst os2) ∧ TrAll H' os2 ((endL h st out).2.map outP) ∧ os2.length ≤ os.length + 2 ∧ H' sa2 = some (.tup ((endL h st out).1.sh.map V.int)) ∧ (endL h st out).1 = { (endA h st out).1 with sh := (endL h st out).1.sh }, ?_, ?_⟩
    · trivial
      have no : ¬ (0 < h ∧ 0 < st.sh.length) → endL h st out = endA h st out := fun n => by
        rw [eE, endB, hAs, if_neg n]
      refine ite2 (fun c1 => ?_) (fun c1 => ?_)
      · have c1' : 0 < h := of_decide_eq_true c1
        trivial
        refine ite2 (fun c2 => ?_) (fun c2 => ?_)
        · have c2' : 0 < st.sh.length := by have := of_decide_eq_true c2; rw [List.length_map] at this; omega
          have e2L : endL h st out = ({ (endA h st out).1 with sh := [] }, (endA h st out).2 ++ [(0, .share st.sh)]) := by rw [eE, endB, hAs, if_pos ⟨c1', c2'⟩]
          rw [e2L]
          trivial
          intro q1 nq1
          have sq1 := same_new0 (o := .tup [.str "share", .ref sa]) nq1
          have e1 : upd H1 q1 (.tup [.str "share", .ref sa]) q1 = some (.tup [.str "share", .ref sa]) := upd_same
          have t2 := sq1 _ _ t1
          generalize upd H1 q1 (.tup [.str "share", .ref sa]) = H2 at *
          trivial
          intro q2 nq2
          have sq2 := same_new0 (o := .tup [.int 0, .ref q1]) nq2
          have e2 : upd H2 q2 (.tup [.int 0, .ref q1]) q2 = some (.tup [.int 0, .ref q1]) := upd_same
          have e12 := sq2 _ _ e1
          have t3 := sq2 _ _ t2
          generalize upd H2 q2 (.tup [.int 0, .ref q1]) = H3 at *
          have s13 := sq1.trans sq2
          trivial
          refine ⟨by rw [sizeLine_eq]; omega, ?_⟩
          have k3 : Tk H3 (upd H3 o (.lst (os1 ++ [.ref q2]))) := Tk.lst t3
          have s3 : ∀ c u, H c = some u → c ≠ o → upd H3 o (.lst (os1 ++ [.ref q2])) c = some u := fun c u q n => by rw [upd_ne n]; exact s13 _ _ (s1 _ _ q n)
          have t4 : upd H3 o (.lst (os1 ++ [.ref q2])) o = some (.lst (os1 ++ [.ref q2])) := upd_same
          generalize upd H3 o (.lst (os1 ++ [.ref q2])) = H4 at *
          trivial
          intro q6 nq6
          have sq6 := same_new0 (o := .tup []) nq6
          have e6 : upd H4 q6 (.tup []) q6 = some (.tup []) := upd_same
          refine ⟨_, q6, rfl, fun c u q n => sq6 _ _ (s3 _ _ q n), sq6 _ _ t4, ?_, by simp; omega, e6, rfl⟩
          rw [List.map_append]
          refine TrAll.tk (tk_of sq6) (TrAll.tk k3 ((h1.tk (tk_of s13)).app (.cons (.tup e2 (.cons (.int _) (.cons (.tup e12 (.cons (.str _) (.cons (.tup (s13 _ _ es1) (tr_ints _)) .nil))) .nil))) .nil)))
        · have c2' : ¬ 0 < st.sh.length := by have := of_decide_eq_false (Bool.eq_false_iff.mpr c2); rw [List.length_map] at this; omega
          rw [no (fun n => c2' n.2)]
          exact ⟨os1, sa, rfl, s1, t1, h1, by omega, by rw [hAs]; exact es1, by rfl⟩
      · have c1' : ¬ 0 < h := of_decide_eq_false (Bool.eq_false_iff.mpr c1)
        rw [no (fun n => c1' n.1)]
        exact ⟨os1, sa, rfl, s1, t1, h1, by omega, by rw [hAs]; exact es1, by rfl⟩
    · rintro σ H2 ⟨os2, sa2, rfl, s2, t2, h2, l2, e2, hL⟩
      have eb2 := s2 _ _ eb (ne_of ho eb (by intro z; cases z)).symm
      have k2 : Tk H H2 := fr_tk ho s2
      trivial
      intro T1 nT1
      have sT1 := same_new0 (o := .tup [.ref ba, optV (endA h st out).1.par, .int st.de, .int st.se, .int st.tl, .bl st.bk, gv, .ref sa2, .bl st.sd]) nT1
      refine k T1 _ _ (fun c u q n => sT1 _ _ (s2 _ _ q n)) (sT1 _ _ t2) (h2.tk (tk_of sT1)) ?_ l2
      rw [hL, hA]
      exact ⟨ba, sa2, bs, gv, upd_same, sT1 _ _ eb2, (z.t.tk k2).tk (tk_of sT1), (z.g.tk k2).tk (tk_of sT1), sT1 _ _ e2⟩
end
end KQ
set_option Elab.async false
set_option maxRecDepth 100000
set_option maxHeartbeats 4000000
namespace KQ
open PySem PySem.Spec PyProof.Rows L2
local macro_rules | `(tactic| walk_at "kq hp") => `(tactic| (first | assumption | exact upd_same | (rw [upd_ne (by first | assumption | exact Ne.symm (by assumption))]; first | assumption | exact upd_same | (rw [upd_ne (by first | assumption | exact Ne.symm (by assumption))]; first | assumption | exact upd_same))))
local macro_rules | `(tactic| walk_at "kq do") => `(tactic| (first | decide | omega))
local macro_rules | `(tactic| walk_at "kq cl") => `(tactic| focus (first | rfl | assumption | exact upd_same | exact SqL.of (by walk_at "kq hp") | exact SqT.of (by walk_at "kq hp") | exact Or.inl (SqL.of (by walk_at "kq hp")) | exact Or.inr (SqT.of (by walk_at "kq hp")) | exact Or.inl ⟨rfl, _, SqL.of (by walk_at "kq hp")⟩ | walk_at "kq hp" | decide | exact Nat.le_of_ble_eq_true rfl | omega | (show ∃ xs, SqL _ _ _ xs; exact ⟨_, SqL.of (by walk_at "kq hp")⟩) | (show ∃ xs, SqT _ _ _ xs; exact ⟨_, SqT.of (by walk_at "kq hp")⟩) | exact DGet.k (k := Sum.inl _) (by walk_at "kq hp") | (show V.int _ = kV (Sum.inl _); rfl) | (show ∃ z, V.str _ = V.str z; exact ⟨_, rfl⟩) | exact Or.inl ⟨by walk_at "kq do", by walk_at "kq do"⟩ | exact Or.inr ⟨by walk_at "kq do", by walk_at "kq do"⟩ | exact ⟨by walk_at "kq do", by walk_at "kq do"⟩ | exact ⟨by decide, by decide, by decide⟩ | exact L2.ClsV.ty _ | exact Dt.ty (by assumption) | exact Dt.kint (by assumption) | exact Dt.kbool (by assumption) | exact Dt.ktuple (by assumption) | exact Dt.klist (by assumption) | exact Dt.kstr (by assumption)))
local macro_rules | `(tactic| trivial) => `(tactic| repeat (first | refine sl_go (by walk_at "kq hp") ?_ | (unfold tNoPart; refine sl_go (by walk_at "kq hp") ?_) | refine cat_go (by walk_at "kq hp") (by walk_at "kq hp") ?_ ?_ | (apply And.intro; walk_at "kq cl") | (apply Exists.intro; apply And.intro; walk_at "kq cl") | (apply Exists.intro; apply Exists.intro; apply And.intro; walk_at "kq cl") | (apply Exists.intro; apply Exists.intro; apply Exists.intro; apply And.intro; walk_at "kq cl") | (apply Exists.intro; apply Exists.intro; apply Exists.intro; apply Exists.intro; apply And.intro; walk_at "kq cl") | (apply Exists.intro; apply Exists.intro; apply Exists.intro; apply Exists.intro; apply Exists.intro; apply And.intro; walk_at "kq cl") | (apply Exists.intro; apply Exists.intro; apply Exists.intro; apply Exists.intro; apply Exists.intro; apply Exists.intro; apply And.intro; walk_at "kq cl") | (apply Exists.intro; apply Exists.intro; apply Exists.intro; apply Exists.intro; apply Exists.intro; apply Exists.intro; apply Exists.intro; apply And.intro; walk_at "kq cl") | (apply Exists.intro; apply Exists.intro; apply Exists.intro; apply Exists.intro; apply Exists.intro; apply Exists.intro; apply Exists.intro; apply Exists.intro; apply And.intro; walk_at "kq cl") | (apply Exists.intro; apply Exists.intro; apply Exists.intro; apply Exists.intro; apply Exists.intro; apply Exists.intro; apply Exists.intro; apply Exists.intro; apply Exists.intro; apply And.intro; walk_at "kq cl") | refine Or.inl ⟨_, rfl, ?_⟩ | refine Or.inr ⟨_, rfl, ?_⟩ | refine Or.inr ⟨SqT.of (by walk_at "kq hp"), SqT.of (by walk_at "kq hp"), ?_⟩ | refine Or.inl ⟨SqL.of (by walk_at "kq hp"), SqL.of (by walk_at "kq hp"), ?_⟩ | refine Or.inl ⟨SqL.of (by walk_at "kq hp"), ?_⟩ | refine Or.inr ⟨SqT.of (by walk_at "kq hp"), ?_⟩ | refine ifT rfl ?_ | refine ifF rfl ?_))
def spLBegun : Sp := fun vs H Q _ => ∃ h : Int, vs = [.int h] ∧ ∀ a H', Same H H' → HsAt H' a (begunL h) → Q (.ref a) H'
def spLGift : Sp := fun vs H Q _ => ∃ (a ta : Addr) (s : Hs) (t : Int × Int), vs = [.ref a, .ref ta] ∧ HsAt H a s ∧ Tr H (.ref ta) (taskP t) ∧ s.par.getD 0 = 0 ∧ s.bag.length ≤ 1000 ∧ ∀ b H', Same H H' → HsAt H' b (giftL s t) → Q (.ref b) H'
section
variable {P : Program} {w : World} {K : PySem.W.Frag} {mg : Str → Option Value} {base : Heap}
theorem d_law_begun (B : Bi mg) (F : FunAt K mg "_law_begun" s_law_begun) : Has P w K mg base 1 "_law_begun" ["house"] spLBegun := by
  refine mk_has F sc_law_begun (fun _ _ _ _ _ _ us hl => match us, hl with | [_], _ => rfl) (fun vs H Q E h => ?_) fun f cdv A outer s H vs Q E hr h => ?_
  · obtain ⟨h, rfl, _⟩ := h
    rfl
  obtain ⟨h, rfl, k⟩ := h
  refine ⟨_, (pss_cons (ps_if (pt_cmpR op_eq (pv 0) pe_int (nomark _))
    (pss_one (ps_ret (pe_tup (pa_cons (pe_tup pa_nil) (pa_cons pe_non (pa_cons pe_int (pa_cons pe_int (pa_cons pe_int (pa_cons pe_bl (pa_cons (pe_tup (pa_cons pe_int (pa_cons pe_int (pa_cons pe_int pa_nil)))) (pa_cons (pe_tup (pa_cons pe_int pa_nil)) (pa_cons pe_bl pa_nil))))))))))))
    pss_nil)
    (pss_one (ps_ret (pe_tup (pa_cons (pe_tup pa_nil) (pa_cons pe_non (pa_cons pe_int (pa_cons pe_int (pa_cons pe_int (pa_cons pe_bl (pa_cons pe_non (pa_cons (pe_tup pa_nil) (pa_cons pe_bl pa_nil))))))))))))), ?_⟩
  trivial
  refine ite2 (fun c => ?_) (fun c => ?_)
  · have c' : h = 0 := by simpa using of_decide_eq_true c
    trivial
    intro q1 nq1
    have s1 := same_new0 (o := .tup []) nq1
    have e1 : upd H q1 (.tup []) q1 = some (.tup []) := upd_same
    generalize upd H q1 (.tup []) = H1 at *
    trivial
    intro q2 nq2
    have s2 := same_new0 (o := .tup [.int 0, .int 0, .int 0]) nq2
    have e2 : upd H1 q2 (.tup [.int 0, .int 0, .int 0]) q2 = some (.tup [.int 0, .int 0, .int 0]) := upd_same
    have e12 := s2 _ _ e1
    generalize upd H1 q2 (.tup [.int 0, .int 0, .int 0]) = H2 at *
    trivial
    intro q3 nq3
    have s3 := same_new0 (o := .tup [.int 0]) nq3
    have e3 : upd H2 q3 (.tup [.int 0]) q3 = some (.tup [.int 0]) := upd_same
    have e13 := s3 _ _ e12
    have e23 := s3 _ _ e2
    generalize upd H2 q3 (.tup [.int 0]) = H3 at *
    trivial
    intro T nT
    have sT := same_new0 (o := .tup [.ref q1, .non, .int 0, .int 0, .int 0, .bl false, .ref q2, .ref q3, .bl true]) nT
    refine k T _ (((s1.trans s2).trans s3).trans sT) ?_
    rw [begunL, if_pos c']
    exact ⟨q1, q3, [], .ref q2, upd_same, sT _ _ e13, .nil, ⟨q2, rfl, sT _ _ e23⟩, sT _ _ e3⟩
  · have c' : ¬ h = 0 := fun z => c (decide_eq_true (by rw [z]))
    trivial
    intro q1 nq1
    have s1 := same_new0 (o := .tup []) nq1
    have e1 : upd H q1 (.tup []) q1 = some (.tup []) := upd_same
    generalize upd H q1 (.tup []) = H1 at *
    trivial
    intro q2 nq2
    have s2 := same_new0 (o := .tup []) nq2
    have e2 : upd H1 q2 (.tup []) q2 = some (.tup []) := upd_same
    have e12 := s2 _ _ e1
    generalize upd H1 q2 (.tup []) = H2 at *
    trivial
    intro T nT
    have sT := same_new0 (o := .tup [.ref q1, .non, .int 0, .int 0, .int 0, .bl false, .non, .ref q2, .bl false]) nT
    refine k T _ ((s1.trans s2).trans sT) ?_
    rw [begunL, if_neg c']
    exact ⟨q1, q2, [], .non, upd_same, sT _ _ e12, .nil, rfl, sT _ _ e2⟩
theorem d_law_gift (B : Bi mg) (F : FunAt K mg "_law_gift" s_law_gift) : Has P w K mg base 1 "_law_gift" ["state", "task"] spLGift := by
  refine mk_has F sc_law_gift (fun _ _ _ _ _ _ us hl => match us, hl with | [_, _], _ => rfl) (fun vs H Q E h => ?_) fun f cdv A outer s H vs Q E hr h => ?_
  · obtain ⟨a, ta, st, t, rfl, _⟩ := h
    rfl
  obtain ⟨a, ta, st, t, rfl, ⟨ba, sa, bs, gv, z⟩, tt, hp, hbl, k⟩ := h
  refine ⟨_, (pss_one (ps_ret (pe_op op_catA (pe_op op_catA (pe_tup (pa_cons (pe_op op_catA (pe_ix ix_tup (pv 0) pe_int (fun _ _ => rfl)) (pe_tup (pa_cons (pv 1) pa_nil))) (pa_cons pe_int pa_nil))) (pe_slice sl_tupA (pv 0) (po_some pe_int) (po_some pe_int))) (pe_tup (pa_cons pe_bl pa_nil))))), ?_⟩
  have ea := z.e
  have eb := z.b
  have es := z.s
  have lb : bs.length = st.bag.length := by have := z.t.len; rw [List.length_map] at this; exact this
  have a0 : atI [V.ref ba, optV st.par, .int st.de, .int st.se, .int st.tl, .bl st.bk, gv, .ref sa, .bl st.sd] 0 = some (.ref ba) := atI_nat rfl
  refine ⟨_, rfl, _, _, _, _, rfl, rfl, SqT.of ea, a0, ?_⟩
  trivial
  intro q1 nq1
  have s1 := same_new0 (o := .tup [.ref ta]) nq1
  have e1 : upd H q1 (.tup [.ref ta]) q1 = some (.tup [.ref ta]) := upd_same
  have eb1 := s1 _ _ eb
  generalize upd H q1 (.tup [.ref ta]) = H1 at *
  refine cat_go eb1 e1 (by simp; omega) fun q2 H2 s2 e2 => ?_
  trivial
  intro q3 nq3
  have s3 := same_new0 (o := .tup [.ref q2, .int 0]) nq3
  have e3 : upd H2 q3 (.tup [.ref q2, .int 0]) q3 = some (.tup [.ref q2, .int 0]) := upd_same
  have e23 := s3 _ _ e2
  generalize upd H2 q3 (.tup [.ref q2, .int 0]) = H3 at *
  have s03 := (s1.trans s2).trans s3
  have ea3 := s03 _ _ ea
  trivial
  rw [show cutV [V.ref ba, optV st.par, .int st.de, .int st.se, .int st.tl, .bl st.bk, gv, .ref sa, .bl st.sd] (some 2) (some 8) = [V.int st.de, .int st.se, .int st.tl, .bl st.bk, gv, .ref sa] from rfl]
  intro q4 H4 s4 e4
  refine cat_go (s4 _ _ e3) e4 (by simp) fun q5 H5 s5 e5 => ?_
  trivial
  intro q6 nq6
  have s6 := same_new0 (o := .tup [.bl false]) nq6
  have e6 : upd H5 q6 (.tup [.bl false]) q6 = some (.tup [.bl false]) := upd_same
  have e56 := s6 _ _ e5
  have s06 := ((s03.trans s4).trans s5).trans s6
  have e26 := ((s4.trans s5).trans s6) _ _ e23
  generalize upd H5 q6 (.tup [.bl false]) = H6 at *
  refine cat_go e56 e6 (by simp) fun q7 H7 s7 e7 => ?_
  have z7 := z.tk (tk_of (s06.trans s7))
  refine k q7 H7 (s06.trans s7) ⟨q2, sa, bs ++ [.ref ta], gv, ?_, s7 _ _ e26, ?_, z7.g, z7.s⟩
  · rw [e7]
    show _ = some (HO.tup [.ref q2, .int (st.par.getD 0), .int st.de, .int st.se, .int st.tl, .bl st.bk, gv, .ref sa, .bl false])
    rw [hp]
    rfl
  · show TrAll H7 _ ((st.bag ++ [t]).map taskP)
    rw [List.map_append]
    exact z7.t.app (.cons (tt.tk (tk_of (s06.trans s7))) .nil)
theorem d_law_can_pass (B : Bi mg) (F : FunAt K mg "_law_can_pass" s_law_can_pass) : Has P w K mg base 1 "_law_can_pass" ["state"] spCan := by
  refine mk_has F sc_law_can_pass (fun _ _ _ _ _ _ us hl => match us, hl with | [_], _ => rfl) (fun vs H Q E h => ?_) fun f cdv A outer s H vs Q E hr h => ?_
  · obtain ⟨a, st, rfl, _⟩ := h
    rfl
  obtain ⟨a, st, rfl, ⟨ba, sa, bs, gv, zz⟩, k⟩ := h
  refine ⟨_, (pss_one (ps_ret (pe_and (pe_cmp (pc_notN (pe_ix ix_tup (pv 0) pe_int (fun _ _ => rfl))) rfl) (pe_and (pe_cmpR op_eq (pe_callB call_len_seq rfl B.len PySem.boot_len (pa_cons (pe_ix ix_tup (pv 0) pe_int (fun _ _ => rfl)) pa_nil)) pe_int (nomark _)) (pe_one (pe_not (pe_ix ix_tup (pv 0) pe_int (fun _ _ => rfl)))))))), ?_⟩
  have ea := zz.e
  have eb := zz.b
  have lb : bs.length = st.bag.length := by have := zz.t.len; rw [List.length_map] at this; exact this
  have a6 : atI [V.ref ba, optV st.par, .int st.de, .int st.se, .int st.tl, .bl st.bk, gv, .ref sa, .bl st.sd] 6 = some gv := atI_nat rfl
  have a0 : atI [V.ref ba, optV st.par, .int st.de, .int st.se, .int st.tl, .bl st.bk, gv, .ref sa, .bl st.sd] 0 = some (.ref ba) := atI_nat rfl
  have a8 : atI [V.ref ba, optV st.par, .int st.de, .int st.se, .int st.tl, .bl st.bk, gv, .ref sa, .bl st.sd] 8 = some (.bl st.sd) := atI_nat rfl
  have hg := zz.g
  unfold canB at k
  refine ⟨_, rfl, _, _, _, _, rfl, rfl, SqT.of ea, a6, ?_⟩
  cases hs : st.sg with
  | none =>
    rw [hs] at hg k
    cases hg
    exact ⟨false, rfl, ifF rfl k⟩
  | some p =>
    obtain ⟨x, y, z⟩ := p
    rw [hs] at hg k
    obtain ⟨g, rfl, _⟩ := hg
    refine ⟨true, rfl, ifT rfl ?_⟩
    refine ⟨_, rfl, _, _, _, _, rfl, rfl, SqT.of ea, a0, _, _, rfl, .inr (SqT.of eb), ?_⟩
    by_cases c : st.bag.length = 0
    · rw [decide_eq_true c] at k
      refine ⟨rfl, true, congrArg V.bl (decide_eq_true (by rw [lb, c]; rfl)), ifT rfl ?_⟩
      refine ⟨_, rfl, _, _, _, _, rfl, rfl, SqT.of ea, a8, _, rfl, ?_⟩
      exact k
    · rw [decide_eq_false c] at k
      refine ⟨rfl, false, congrArg V.bl (decide_eq_false (fun z => c (by have := V.int.inj z; omega))), ifF rfl ?_⟩
      exact k
theorem d_law_says (B : Bi mg) (F : FunAt K mg "_law_says" s_law_says) : Has P w K mg base 1 "_law_says" ["state"] (fun vs H Q _ => ∃ (a : Addr) (s : Hs), vs = [.ref a] ∧ HsAt H a s ∧ ∀ T H', Same H H' → Tr H' (.ref T) (saysL s) → Q (.ref T) H') := by
  refine mk_has F sc_law_says (fun _ _ _ _ _ _ us hl => match us, hl with | [_], _ => rfl) (fun vs H Q E h => ?_) fun f cdv A outer s H vs Q E hr h => ?_
  · obtain ⟨a, st, rfl, _⟩ := h
    rfl
  obtain ⟨a, st, rfl, ⟨ba, sa, bs, gv, zz⟩, k⟩ := h
  refine ⟨_, (pss_one (ps_ret (pe_tup (pa_cons (pe_cmp (pc_isN (pe_ix ix_tup (pv 0) pe_int (fun _ _ => rfl))) rfl) (pa_cons (pe_ix ix_tup (pv 0) pe_int (fun _ _ => rfl)) (pa_cons (pe_and (pe_cmpR op_eq (pe_callB call_len_seq rfl B.len PySem.boot_len (pa_cons (pe_ix ix_tup (pv 0) pe_int (fun _ _ => rfl)) pa_nil)) pe_int (nomark _)) (pe_one (pe_cmpR (op_eqD hr.units) (pe_ix ix_tup (pv 0) pe_int (fun _ _ => rfl)) (pe_tup (pa_cons pe_int pa_nil)) (nomark _)))) pa_nil)))))), ?_⟩
  have ea := zz.e
  have eb := zz.b
  have es := zz.s
  have lb : bs.length = st.bag.length := by have := zz.t.len; rw [List.length_map] at this; exact this
  have a0 : atI [V.ref ba, optV st.par, .int st.de, .int st.se, .int st.tl, .bl st.bk, gv, .ref sa, .bl st.sd] 0 = some (.ref ba) := atI_nat rfl
  have a1 : atI [V.ref ba, optV st.par, .int st.de, .int st.se, .int st.tl, .bl st.bk, gv, .ref sa, .bl st.sd] 1 = some (optV st.par) := atI_nat rfl
  have a7 : atI [V.ref ba, optV st.par, .int st.de, .int st.se, .int st.tl, .bl st.bk, gv, .ref sa, .bl st.sd] 7 = some (.ref sa) := atI_nat rfl
  have a8 : atI [V.ref ba, optV st.par, .int st.de, .int st.se, .int st.tl, .bl st.bk, gv, .ref sa, .bl st.sd] 8 = some (.bl st.sd) := atI_nat rfl
  refine ⟨_, rfl, _, _, _, _, rfl, rfl, SqT.of ea, a1, ?_⟩
  have hpn : decide (optV st.par = V.non) = st.par.isNone := by cases st.par <;> rfl
  refine ⟨_, rfl, _, _, _, _, rfl, rfl, SqT.of ea, a8, ?_⟩
  refine ⟨_, rfl, _, _, _, _, rfl, rfl, SqT.of ea, a0, _, _, rfl, .inr (SqT.of eb), rfl, ?_⟩
  have fin : ∀ {H1 : Hp} {b : Bool}, Same H H1 → b = (decide (st.bag.length = 0) && decide (st.sh = [0])) → ∀ T, H1 T = none → Q (.ref T) (upd H1 T (.tup [.bl (decide (optV st.par = V.non)), .bl st.sd, .bl b])) := fun {H1 b} s1 e T nT => by
    refine k T _ (snew s1 nT) ?_
    unfold saysL
    rw [← e, ← hpn]
    exact .tup upd_same (.cons (.bl _) (.cons (.bl _) (.cons (.bl _) .nil)))
  by_cases c : st.bag.length = 0
  · refine ⟨true, congrArg V.bl (decide_eq_true (by rw [lb, c]; rfl)), ifT rfl ?_⟩
    refine ⟨_, rfl, _, _, _, _, rfl, rfl, SqT.of ea, a7, ?_⟩
    have hrow : ∀ ns : List Int, SeqAt.shaped (.tuple (ns.map PyData.int)) = true := fun ns => by
      have h1 : PyData.canLayAll0 (ns.map PyData.int) = true ∧ PyData.depthAll (ns.map PyData.int) = 0 := by
        induction ns with
        | nil => exact ⟨rfl, rfl⟩
        | cons x xs ih =>
          rw [List.map_cons]
          unfold PyData.canLayAll0
          simp only [PyData.depthAll, PyData.depth, ih.1, ih.2]
          exact ⟨rfl, rfl⟩
      unfold SeqAt.shaped
      rw [show (PyData.tuple (ns.map PyData.int)).canLay0 = true from h1.1, decide_eq_true (by simp only [PyData.depth]; omega)]
      rfl
    trivial
    intro q1 nq1
    have s1 := same_new0 (o := .tup [.int 0]) nq1
    have e1 : upd H q1 (.tup [.int 0]) q1 = some (.tup [.int 0]) := upd_same
    have es1 := s1 _ _ es
    generalize upd H q1 (.tup [.int 0]) = H1 at *
    refine ⟨.tuple (st.sh.map PyData.int), .tuple ([0].map PyData.int), ((Tr.tup es1 (tr_ints _)).rp).dp (SeqAt.canLay_of_shaped (hrow _)), ((Tr.tup e1 (tr_ints [0])).rp).dp (SeqAt.canLay_of_shaped (hrow _)), hrow _, hrow _, ?_⟩
    trivial
    refine fin s1 ?_
    rw [decide_eq_true c, Bool.true_and]
    show PyData.eqvAll (st.sh.map PyData.int) ([0].map PyData.int) = _
    have : ∀ ns ms : List Int, PyData.eqvAll (ns.map PyData.int) (ms.map PyData.int) = decide (ns = ms) := fun ns => by
      induction ns with
      | nil => intro ms; cases ms <;> rfl
      | cons n ns ih =>
        intro ms
        cases ms with
        | nil => rfl
        | cons m ms =>
          rw [List.map_cons, List.map_cons, PyData.eqvAll, ih]
          show ((n == m) && decide (ns = ms)) = _
          by_cases h1 : n = m <;> by_cases h2 : ns = ms <;> simp [h1, h2]
    exact this _ _
  · refine ⟨false, congrArg V.bl (decide_eq_false (fun z => c (by have := V.int.inj z; omega))), ifF rfl ?_⟩
    trivial
    refine fin (Same.refl H) ?_
    rw [decide_eq_false c, Bool.false_and]
end
end KQ
set_option Elab.async false
set_option maxRecDepth 100000
set_option maxHeartbeats 4000000
namespace KQ
open PySem PySem.Spec PyProof.Rows L2
local macro_rules | `(tactic| walk_at "kq hp") => `(tactic| (first | assumption | exact upd_same | (rw [upd_ne (by first | assumption | exact Ne.symm (by assumption))]; first | assumption | exact upd_same | (rw [upd_ne (by first | assumption | exact Ne.symm (by assumption))]; first | assumption | exact upd_same))))
local macro_rules | `(tactic| walk_at "kq do") => `(tactic| (first | decide | omega))
local macro_rules | `(tactic| walk_at "kq cl") => `(tactic| focus (first | rfl | assumption | exact upd_same | exact SqL.of (by walk_at "kq hp") | exact SqT.of (by walk_at "kq hp") | exact Or.inl (SqL.of (by walk_at "kq hp")) | exact Or.inr (SqT.of (by walk_at "kq hp")) | exact Or.inl ⟨rfl, _, SqL.of (by walk_at "kq hp")⟩ | walk_at "kq hp" | decide | exact Nat.le_of_ble_eq_true rfl | omega | (show ∃ xs, SqL _ _ _ xs; exact ⟨_, SqL.of (by walk_at "kq hp")⟩) | (show ∃ xs, SqT _ _ _ xs; exact ⟨_, SqT.of (by walk_at "kq hp")⟩) | exact DGet.k (k := Sum.inl _) (by walk_at "kq hp") | (show V.int _ = kV (Sum.inl _); rfl) | (show ∃ z, V.str _ = V.str z; exact ⟨_, rfl⟩) | exact Or.inl ⟨by walk_at "kq do", by walk_at "kq do"⟩ | exact Or.inr ⟨by walk_at "kq do", by walk_at "kq do"⟩ | exact ⟨by walk_at "kq do", by walk_at "kq do"⟩ | exact ⟨by decide, by decide, by decide⟩ | exact L2.ClsV.ty _ | exact Dt.ty (by assumption) | exact Dt.kint (by assumption) | exact Dt.kbool (by assumption) | exact Dt.ktuple (by assumption) | exact Dt.klist (by assumption) | exact Dt.kstr (by assumption)))
local macro_rules | `(tactic| trivial) => `(tactic| repeat (first | refine sl_go (by walk_at "kq hp") ?_ | (unfold tNoPart; refine sl_go (by walk_at "kq hp") ?_) | refine cat_go (by walk_at "kq hp") (by walk_at "kq hp") ?_ ?_ | (apply And.intro; walk_at "kq cl") | (apply Exists.intro; apply And.intro; walk_at "kq cl") | (apply Exists.intro; apply Exists.intro; apply And.intro; walk_at "kq cl") | (apply Exists.intro; apply Exists.intro; apply Exists.intro; apply And.intro; walk_at "kq cl") | (apply Exists.intro; apply Exists.intro; apply Exists.intro; apply Exists.intro; apply And.intro; walk_at "kq cl") | (apply Exists.intro; apply Exists.intro; apply Exists.intro; apply Exists.intro; apply Exists.intro; apply And.intro; walk_at "kq cl") | (apply Exists.intro; apply Exists.intro; apply Exists.intro; apply Exists.intro; apply Exists.intro; apply Exists.intro; apply And.intro; walk_at "kq cl") | (apply Exists.intro; apply Exists.intro; apply Exists.intro; apply Exists.intro; apply Exists.intro; apply Exists.intro; apply Exists.intro; apply And.intro; walk_at "kq cl") | (apply Exists.intro; apply Exists.intro; apply Exists.intro; apply Exists.intro; apply Exists.intro; apply Exists.intro; apply Exists.intro; apply Exists.intro; apply And.intro; walk_at "kq cl") | (apply Exists.intro; apply Exists.intro; apply Exists.intro; apply Exists.intro; apply Exists.intro; apply Exists.intro; apply Exists.intro; apply Exists.intro; apply Exists.intro; apply And.intro; walk_at "kq cl") | refine Or.inl ⟨_, rfl, ?_⟩ | refine Or.inr ⟨_, rfl, ?_⟩ | refine Or.inr ⟨SqT.of (by walk_at "kq hp"), SqT.of (by walk_at "kq hp"), ?_⟩ | refine Or.inl ⟨SqL.of (by walk_at "kq hp"), SqL.of (by walk_at "kq hp"), ?_⟩ | refine Or.inl ⟨SqL.of (by walk_at "kq hp"), ?_⟩ | refine Or.inr ⟨SqT.of (by walk_at "kq hp"), ?_⟩ | refine ifT rfl ?_ | refine ifF rfl ?_))
def spLPass : Sp := fun vs H Q _ => ∃ (lw r a : Addr) (m h : Int) (s : Hs), vs = [.ref lw, .int h, .ref a] ∧ H lw = some (.tup [.int m, .ref r]) ∧ HsAt H a s ∧ ∀ T H', Same H H' → DueAt H' T (passL m h s) → Q (.ref T) H'
section
variable {P : Program} {w : World} {K : PySem.W.Frag} {mg : Str → Option Value} {base : Heap}
theorem d_law_pass (B : Bi mg) (F : FunAt K mg "_law_pass" s_law_pass) (D_law_can_pass : Has P w K mg base 1 "_law_can_pass" ["state"] spCan) : Has P w K mg base 2 "_law_pass" ["works", "house", "state"] spLPass := by
  refine mk_has F sc_law_pass (fun _ _ _ _ _ _ us hl => match us, hl with | [_, _, _], _ => rfl) (fun vs H Q E h => ?_) fun f cdv A outer s H vs Q E hr h => ?_
  · obtain ⟨lw, r, a, m, h, st, rfl, _⟩ := h
    rfl
  obtain ⟨lw, r, a, m, h, st, rfl, ew, hst, k⟩ := h
  refine ⟨_, (pss_cons (ps_if (pt_not (pt_val (pe_h D_law_can_pass (hr.mono (by decide)) rfl (pa_cons (pv 2) pa_nil))))
    (pss_one (ps_ret (pe_tup (pa_cons pe_str (pa_cons pe_str pa_nil)))))
    pss_nil)
    (pss_cons (ps_asg (pe_ix ix_tup (pv 2) pe_int (fun _ _ => rfl)) (pg_tup rfl (pgs_cons (pg_name (i := 3) sc_law_pass.nd rfl (Or.inl rfl)) (pgs_cons (pg_name (i := 4) sc_law_pass.nd rfl (Or.inl rfl)) (pgs_cons (pg_name (i := 5) sc_law_pass.nd rfl (Or.inl rfl)) pgs_nil)))))
    (C8.pss_cut (ps_set (i := 6) sc_law_pass.nd rfl (Or.inl rfl) (pe_or (pe_ix ix_tup (pv 2) pe_int (fun _ _ => rfl)) (pe_one (pe_cmpR op_eq (pv 5) pe_int (nomark _)))))
    (C8.pss_cut (ps_if (PW.pt (pw_and (pt_cmpR op_eq (pv 1) pe_int (nomark _)) (pw_and (pt_not (pt_val (pv 6))) (pw_and1 (pt_cmpR op_eq (pe_op op_add (pv 3) (pe_ix ix_tup (pv 2) pe_int (fun _ _ => rfl))) (pe_op op_add (pv 4) (pe_ix ix_tup (pv 2) pe_int (fun _ _ => rfl))) (nomark _))))))
    (pss_one (ps_ret (pe_tup (pa_cons pe_str (pa_cons (pe_op op_catA (pe_slice sl_tupA (pv 2) po_none (po_some pe_int)) (pe_tup (pa_cons pe_bl pa_nil))) (pa_cons (pe_tup pa_nil) pa_nil))))))
    pss_nil)
    (pss_cons (ps_set (i := 7) sc_law_pass.nd rfl (Or.inl rfl) (pe_op op_catA (pe_op op_catA (pe_slice sl_tupA (pv 2) po_none (po_some pe_int)) (pe_tup (pa_cons pe_bl (pa_cons pe_non pa_nil)))) (pe_slice sl_tupA (pv 2) (po_some pe_int) po_none)))
    (pss_cons (ps_if (pt_cmpR op_eq (pv 1) pe_int (nomark _))
    (pss_one (ps_ret (pe_tup (pa_cons pe_str (pa_cons (pv 7) (pa_cons (pe_tup (pa_cons (pe_tup (pa_cons (pe_op op_sub (pe_ix ix_tup (pv 0) pe_int (fun _ _ => rfl)) pe_int) (pa_cons (pe_tup (pa_cons pe_str (pa_cons pe_int (pa_cons pe_int (pa_cons pe_int pa_nil))))) pa_nil))) pa_nil)) pa_nil))))))
    pss_nil)
    (pss_one (ps_ret (pe_tup (pa_cons pe_str (pa_cons (pv 7) (pa_cons (pe_tup (pa_cons (pe_tup (pa_cons (pe_op op_sub (pv 1) pe_int) (pa_cons (pe_tup (pa_cons pe_str (pa_cons (pe_op op_add (pv 3) (pe_ix ix_tup (pv 2) pe_int (fun _ _ => rfl))) (pa_cons (pe_op op_add (pv 4) (pe_ix ix_tup (pv 2) pe_int (fun _ _ => rfl))) (pa_cons (pe_callTy call_int1 rfl B.int (by decide +kernel) (pa_cons (pv 6) pa_nil)) pa_nil))))) pa_nil))) pa_nil)) pa_nil)))))))))))), ?_⟩
  refine ⟨_, rfl, a, st, rfl, hst, ?_⟩
  cases hc : canB st with
  | false =>
    refine ⟨_, rfl, ifT rfl ?_⟩
    rw [passL_no hc] at k
    trivial
    intro T nT
    exact k T _ (same_new0 nT) upd_same
  | true =>
  refine ⟨_, rfl, ifF rfl ?_⟩
  obtain ⟨x, y, z, hsg, hbag, hsd⟩ := can_yes hc
  have kp : passL m h st = if h = 0 ∧ (st.bk || decide (z = 1)) = false ∧ x + st.se = y + st.tl then .inr ({ st with sd := true }, [])
    else .inr ({ st with bk := false, sg := none, sd := false }, if h = 0 then [(m - 1, .sign 0 0 0)] else [(h - 1, .sign (x + st.se) (y + st.tl) (if (st.bk || decide (z = 1)) = true then 1 else 0))]) := by
    unfold passL
    rw [hsg]
    exact if_neg (fun zz => zz.elim (fun q => by omega) (fun q => by rw [hsd] at q; cases q))
  rw [kp] at k
  obtain ⟨ba, sa, bs, gv, zz⟩ := hst
  have ea := zz.e
  have hg := zz.g
  rw [hsg] at hg
  obtain ⟨g, rfl, eg⟩ := hg
  have b0 : atI [V.int m, .ref r] 0 = some (.int m) := atI_nat rfl
  have a3 : atI [V.ref ba, optV st.par, .int st.de, .int st.se, .int st.tl, .bl st.bk, .ref g, .ref sa, .bl st.sd] 3 = some (.int st.se) := atI_nat rfl
  have a4 : atI [V.ref ba, optV st.par, .int st.de, .int st.se, .int st.tl, .bl st.bk, .ref g, .ref sa, .bl st.sd] 4 = some (.int st.tl) := atI_nat rfl
  have a5 : atI [V.ref ba, optV st.par, .int st.de, .int st.se, .int st.tl, .bl st.bk, .ref g, .ref sa, .bl st.sd] 5 = some (.bl st.bk) := atI_nat rfl
  have a6 : atI [V.ref ba, optV st.par, .int st.de, .int st.se, .int st.tl, .bl st.bk, .ref g, .ref sa, .bl st.sd] 6 = some (.ref g) := atI_nat rfl
  have c8 : cutV [V.ref ba, optV st.par, .int st.de, .int st.se, .int st.tl, .bl st.bk, .ref g, .ref sa, .bl st.sd] none (some 8) = [V.ref ba, optV st.par, .int st.de, .int st.se, .int st.tl, .bl st.bk, .ref g, .ref sa] := rfl
  have c5 : cutV [V.ref ba, optV st.par, .int st.de, .int st.se, .int st.tl, .bl st.bk, .ref g, .ref sa, .bl st.sd] none (some 5) = [V.ref ba, optV st.par, .int st.de, .int st.se, .int st.tl] := rfl
  have c7 : cutV [V.ref ba, optV st.par, .int st.de, .int st.se, .int st.tl, .bl st.bk, .ref g, .ref sa, .bl st.sd] (some 7) none = [V.ref sa, .bl st.sd] := rfl
  refine ⟨_, rfl, _, _, _, _, rfl, rfl, SqT.of ea, a6, g, _, rfl, SqT.of eg, rfl, _, _, rfl, _, _, rfl, _, _, rfl, rfl, ?_⟩
  trivial
  refine ⟨fun σ H' => σ = [some (.ref lw), some (.int h), some (.ref a), some (.int x), some (.int y), some (.int z), some (.bl (st.bk || decide (z = 1))), none] ∧ H' = H, ?_, ?_⟩
  · cases hbk : st.bk with
    | true =>
      rw [hbk] at a5 ea
      exact ⟨_, rfl, _, _, _, _, rfl, rfl, SqT.of ea, a5, true, rfl, ifT rfl ⟨rfl, rfl⟩⟩
    | false =>
      rw [hbk] at a5 ea
      refine ⟨_, rfl, _, _, _, _, rfl, rfl, SqT.of ea, a5, false, rfl, ifF rfl ⟨_, rfl, rfl, ?_, rfl⟩⟩
      rw [show decide (V.int z = V.int 1) = decide (z = 1) from decide_eq_decide.mpr ⟨fun e => V.int.inj e, fun e => by rw [e]⟩]
      rfl
  rintro σ H1 ⟨rfl, rfl⟩
  generalize hst' : (st.bk || decide (z = 1)) = stn at *
  trivial
  refine ⟨fun σ H' => σ = [some (.ref lw), some (.int h), some (.ref a), some (.int x), some (.int y), some (.int z), some (.bl stn), none] ∧ H' = H1 ∧ ¬ (h = 0 ∧ stn = false ∧ x + st.se = y + st.tl), ?_, ?_⟩
  · trivial
    refine ite2 (fun c1 => ?_) (fun c1 => ?_)
    · have c1' : h = 0 := by simpa using of_decide_eq_true c1
      cases stn with
      | true =>
        trivial
        exact fun zz => nomatch zz.2.1
      | false =>
        trivial
        refine ite2 (fun c2 => ?_) (fun c2 => ?_)
        · have c2' : x + st.se = y + st.tl := by simpa using of_decide_eq_true c2
          rw [if_pos ⟨c1', rfl, c2'⟩] at k
          trivial
          rw [c8]
          intro q1 H2 s1 e1
          trivial
          intro q2 nq2
          have sq2 := same_new0 (o := .tup [.bl true]) nq2
          have e2 : upd H2 q2 (.tup [.bl true]) q2 = some (.tup [.bl true]) := upd_same
          have e12 := sq2 _ _ e1
          generalize upd H2 q2 (.tup [.bl true]) = H3 at *
          refine cat_go e12 e2 (by simp) fun q3 H4 s4 e3 => ?_
          trivial
          intro q4 nq4
          have sq4 := same_new0 (o := .tup []) nq4
          have e4 : upd H4 q4 (.tup []) q4 = some (.tup []) := upd_same
          have e34 := sq4 _ _ e3
          generalize upd H4 q4 (.tup []) = H5 at *
          trivial
          intro q5 nq5
          have sq5 := same_new0 (o := .tup [.str "told", .ref q3, .ref q4]) nq5
          have s05 := (((s1.trans sq2).trans s4).trans sq4).trans sq5
          have z5 := zz.tk (tk_of s05)
          exact k q5 _ s05 ⟨q3, q4, [], upd_same, ⟨ba, sa, bs, .ref g, sq5 _ _ e34, z5.b, z5.t, z5.g, z5.s⟩, sq5 _ _ e4, .nil⟩
        · exact ⟨rfl, rfl, fun zz => c2 (decide_eq_true (congrArg V.int zz.2.2))⟩
    · exact ⟨rfl, rfl, fun zz => c1 (decide_eq_true (by rw [zz.1]))⟩
  rintro σ H2 ⟨rfl, rfl, nc⟩
  rw [if_neg nc] at k
  trivial
  rw [c5]
  intro q1 H3 s3 e3
  trivial
  intro q2 nq2
  have sq2 := same_new0 (o := .tup [.bl false, .non]) nq2
  have e2 : upd H3 q2 (.tup [.bl false, .non]) q2 = some (.tup [.bl false, .non]) := upd_same
  have e32 := sq2 _ _ e3
  have s24 := s3.trans sq2
  generalize upd H3 q2 (.tup [.bl false, .non]) = H4 at *
  refine cat_go e32 e2 (by simp) fun q3 H5 s5 e5 => ?_
  have s25 := s24.trans s5
  have ea5 := s25 _ _ ea
  trivial
  rw [c7]
  intro q4 H6 s6 e6
  refine cat_go (s6 _ _ e5) e6 (by simp) fun q7 H7 s7 e7 => ?_
  have sq := (s25.trans s6).trans s7
  have ew7 := sq _ _ ew
  have eg7 := sq _ _ eg
  have ea7 := sq _ _ ea
  have fin : ∀ {H4 : Hp} {T1 T2 T3 T4 : Addr} {to a b c : Int}, Same H7 H4 → H4 T1 = some (.tup [.str "sign", .int a, .int b, .int c]) → H4 T2 = some (.tup [.int to, .ref T1]) → H4 T3 = some (.tup [.ref T2]) → H4 T4 = some (.tup [.str "told", .ref q7, .ref T3]) →
      DueAt H4 T4 (.inr ({ st with bk := false, sg := none, sd := false }, [(to, .sign a b c)])) := fun {H4 T1 T2 T3 T4 to a b c} s4 e1 e2 e3 e4 => by
    have z4 := zz.tk (tk_of (sq.trans s4))
    have e74 := s4 _ _ e7
    refine ⟨q7, T3, _, e4, ⟨ba, sa, bs, .non, ?_, z4.b, z4.t, rfl, z4.s⟩, e3, .cons (.tup e2 (.cons (.int _) (.cons (.tup e1 (.cons (.str _) (.cons (.int _) (.cons (.int _) (.cons (.int _) .nil))))) .nil))) .nil⟩
    rw [e74]
    show _ = some (HO.tup [.ref ba, optV st.par, .int st.de, .int st.se, .int st.tl, .bl false, .non, .ref sa, .bl false])
    rw [← hsd]
    rfl
  trivial
  refine ite2 (fun c1 => ?_) (fun c1 => ?_)
  · have c1' : h = 0 := by simpa using of_decide_eq_true c1
    rw [if_pos c1'] at k
    trivial
    intro q1 nq1
    have sq1 := same_new0 (o := .tup [.str "sign", .int 0, .int 0, .int 0]) nq1
    have e1 : upd H7 q1 (.tup [.str "sign", .int 0, .int 0, .int 0]) q1 = some (.tup [.str "sign", .int 0, .int 0, .int 0]) := upd_same
    generalize upd H7 q1 (.tup [.str "sign", .int 0, .int 0, .int 0]) = H8 at *
    trivial
    intro q2 nq2
    have sq2 := same_new0 (o := .tup [.int (m - 1), .ref q1]) nq2
    have e2 : upd H8 q2 (.tup [.int (m - 1), .ref q1]) q2 = some (.tup [.int (m - 1), .ref q1]) := upd_same
    have e12 := sq2 _ _ e1
    generalize upd H8 q2 (.tup [.int (m - 1), .ref q1]) = H9 at *
    trivial
    intro q3 nq3
    have sq3 := same_new0 (o := .tup [.ref q2]) nq3
    have e3 : upd H9 q3 (.tup [.ref q2]) q3 = some (.tup [.ref q2]) := upd_same
    have e13 := sq3 _ _ e12
    have e23 := sq3 _ _ e2
    generalize upd H9 q3 (.tup [.ref q2]) = HA at *
    trivial
    intro q4 nq4
    have sq4 := same_new0 (o := .tup [.str "told", .ref q7, .ref q3]) nq4
    exact k q4 _ (sq.trans (((sq1.trans sq2).trans sq3).trans sq4)) (fin (((sq1.trans sq2).trans sq3).trans sq4) (sq4 _ _ e13) (sq4 _ _ e23) (sq4 _ _ e3) upd_same)
  · have c1' : ¬ h = 0 := fun zz => c1 (decide_eq_true (by rw [zz]))
    rw [if_neg c1'] at k
    trivial
    intro q1 nq1
    have sq1 := same_new0 (o := .tup [.str "sign", .int (x + st.se), .int (y + st.tl), .int (if stn = true then 1 else 0)]) nq1
    have e1 : upd H7 q1 (.tup [.str "sign", .int (x + st.se), .int (y + st.tl), .int (if stn = true then 1 else 0)]) q1 = some (.tup [.str "sign", .int (x + st.se), .int (y + st.tl), .int (if stn = true then 1 else 0)]) := upd_same
    generalize upd H7 q1 (.tup [.str "sign", .int (x + st.se), .int (y + st.tl), .int (if stn = true then 1 else 0)]) = H8 at *
    trivial
    intro q2 nq2
    have sq2 := same_new0 (o := .tup [.int (h - 1), .ref q1]) nq2
    have e2 : upd H8 q2 (.tup [.int (h - 1), .ref q1]) q2 = some (.tup [.int (h - 1), .ref q1]) := upd_same
    have e12 := sq2 _ _ e1
    generalize upd H8 q2 (.tup [.int (h - 1), .ref q1]) = H9 at *
    trivial
    intro q3 nq3
    have sq3 := same_new0 (o := .tup [.ref q2]) nq3
    have e3 : upd H9 q3 (.tup [.ref q2]) q3 = some (.tup [.ref q2]) := upd_same
    have e13 := sq3 _ _ e12
    have e23 := sq3 _ _ e2
    generalize upd H9 q3 (.tup [.ref q2]) = HA at *
    trivial
    intro q4 nq4
    have sq4 := same_new0 (o := .tup [.str "told", .ref q7, .ref q3]) nq4
    exact k q4 _ (sq.trans (((sq1.trans sq2).trans sq3).trans sq4)) (fin (((sq1.trans sq2).trans sq3).trans sq4) (sq4 _ _ e13) (sq4 _ _ e23) (sq4 _ _ e3) upd_same)
end
end KQ
set_option Elab.async false
set_option maxRecDepth 100000
set_option maxHeartbeats 4000000
namespace KQ
open PySem PySem.Spec PyProof.Rows L2
local macro_rules | `(tactic| walk_at "kq hp") => `(tactic| (first | assumption | exact upd_same | (rw [upd_ne (by first | assumption | exact Ne.symm (by assumption))]; first | assumption | exact upd_same | (rw [upd_ne (by first | assumption | exact Ne.symm (by assumption))]; first | assumption | exact upd_same))))
local macro_rules | `(tactic| walk_at "kq do") => `(tactic| (first | decide | omega))
local macro_rules | `(tactic| walk_at "kq cl") => `(tactic| focus (first | rfl | assumption | exact upd_same | exact SqL.of (by walk_at "kq hp") | exact SqT.of (by walk_at "kq hp") | exact Or.inl (SqL.of (by walk_at "kq hp")) | exact Or.inr (SqT.of (by walk_at "kq hp")) | exact Or.inl ⟨rfl, _, SqL.of (by walk_at "kq hp")⟩ | walk_at "kq hp" | decide | exact Nat.le_of_ble_eq_true rfl | omega | (show ∃ xs, SqL _ _ _ xs; exact ⟨_, SqL.of (by walk_at "kq hp")⟩) | (show ∃ xs, SqT _ _ _ xs; exact ⟨_, SqT.of (by walk_at "kq hp")⟩) | exact DGet.k (k := Sum.inl _) (by walk_at "kq hp") | (show V.int _ = kV (Sum.inl _); rfl) | (show ∃ z, V.str _ = V.str z; exact ⟨_, rfl⟩) | exact Or.inl ⟨by walk_at "kq do", by walk_at "kq do"⟩ | exact Or.inr ⟨by walk_at "kq do", by walk_at "kq do"⟩ | exact ⟨by walk_at "kq do", by walk_at "kq do"⟩ | exact ⟨by decide, by decide, by decide⟩ | exact L2.ClsV.ty _ | exact Dt.ty (by assumption) | exact Dt.kint (by assumption) | exact Dt.kbool (by assumption) | exact Dt.ktuple (by assumption) | exact Dt.klist (by assumption) | exact Dt.kstr (by assumption)))
local macro_rules | `(tactic| trivial) => `(tactic| repeat (first | refine sl_go (by walk_at "kq hp") ?_ | (unfold tNoPart; refine sl_go (by walk_at "kq hp") ?_) | refine cat_go (by walk_at "kq hp") (by walk_at "kq hp") ?_ ?_ | (apply And.intro; walk_at "kq cl") | (apply Exists.intro; apply And.intro; walk_at "kq cl") | (apply Exists.intro; apply Exists.intro; apply And.intro; walk_at "kq cl") | (apply Exists.intro; apply Exists.intro; apply Exists.intro; apply And.intro; walk_at "kq cl") | (apply Exists.intro; apply Exists.intro; apply Exists.intro; apply Exists.intro; apply And.intro; walk_at "kq cl") | (apply Exists.intro; apply Exists.intro; apply Exists.intro; apply Exists.intro; apply Exists.intro; apply And.intro; walk_at "kq cl") | (apply Exists.intro; apply Exists.intro; apply Exists.intro; apply Exists.intro; apply Exists.intro; apply Exists.intro; apply And.intro; walk_at "kq cl") | (apply Exists.intro; apply Exists.intro; apply Exists.intro; apply Exists.intro; apply Exists.intro; apply Exists.intro; apply Exists.intro; apply And.intro; walk_at "kq cl") | (apply Exists.intro; apply Exists.intro; apply Exists.intro; apply Exists.intro; apply Exists.intro; apply Exists.intro; apply Exists.intro; apply Exists.intro; apply And.intro; walk_at "kq cl") | (apply Exists.intro; apply Exists.intro; apply Exists.intro; apply Exists.intro; apply Exists.intro; apply Exists.intro; apply Exists.intro; apply Exists.intro; apply Exists.intro; apply And.intro; walk_at "kq cl") | refine Or.inl ⟨_, rfl, ?_⟩ | refine Or.inr ⟨_, rfl, ?_⟩ | refine Or.inr ⟨SqT.of (by walk_at "kq hp"), SqT.of (by walk_at "kq hp"), ?_⟩ | refine Or.inl ⟨SqL.of (by walk_at "kq hp"), SqL.of (by walk_at "kq hp"), ?_⟩ | refine Or.inl ⟨SqL.of (by walk_at "kq hp"), ?_⟩ | refine Or.inr ⟨SqT.of (by walk_at "kq hp"), ?_⟩ | refine ifT rfl ?_ | refine ifF rfl ?_))
section
variable {P : Program} {w : World} {K : PySem.W.Frag} {mg : Str → Option Value} {base : Heap}
theorem d_law_do (B : Bi mg) (F : FunAt K mg "_law_do" s_law_do) (D_law_sends : Has P w K mg base 1 "_law_sends" ["works", "house", "task"] spLSends) (D_law_halved : Has P w K mg base 1 "_law_halved" ["share"] spHalved) (D_law_ended : Has P w K mg base 1 "_law_ended" ["house", "state", "out"] spLEnded) : Has P w K mg base 2 "_law_do" ["works", "house", "state"] spLDo := by
  refine mk_has F sc_law_do (fun _ _ _ _ _ _ us hl => match us, hl with | [_, _, _], _ => rfl) (fun vs H Q E h => ?_) fun f cdv A outer s H vs Q E hr h => ?_
  · obtain ⟨lw, r, a, m, h, R, st, rfl, _⟩ := h
    rfl
  obtain ⟨lw, r, a, m, h, R, st, rfl, ew, tr, ok, ⟨ba, sa, bs, gv, z⟩, hbag, hshl, k⟩ := h
  refine ⟨_, (pss_cons (ps_asg (pv 2) (pg_tup rfl (pgs_cons (pg_name (i := 3) sc_law_do.nd rfl (Or.inl rfl)) (pgs_cons (pg_name (i := 4) sc_law_do.nd rfl (Or.inl rfl)) (pgs_cons (pg_name (i := 5) sc_law_do.nd rfl (Or.inl rfl)) (pgs_cons (pg_name (i := 6) sc_law_do.nd rfl (Or.inl rfl)) (pgs_cons (pg_name (i := 7) sc_law_do.nd rfl (Or.inl rfl)) (pgs_cons (pg_name (i := 8) sc_law_do.nd rfl (Or.inl rfl)) (pgs_cons (pg_name (i := 9) sc_law_do.nd rfl (Or.inl rfl)) (pgs_cons (pg_name (i := 10) sc_law_do.nd rfl (Or.inl rfl)) (pgs_cons (pg_name (i := 11) sc_law_do.nd rfl (Or.inl rfl)) pgs_nil)))))))))))
    (pss_cons (ps_if (pt_cmpR op_eq (pe_callB call_len_seq rfl B.len PySem.boot_len (pa_cons (pv 3) pa_nil)) pe_int (nomark _))
    (pss_one (ps_ret (pe_tup (pa_cons pe_str (pa_cons pe_str pa_nil)))))
    pss_nil)
    (pss_cons (ps_set (i := 12) sc_law_do.nd rfl (Or.inl rfl) (pe_h D_law_sends (hr.mono (by decide)) rfl (pa_cons (pv 0) (pa_cons (pv 1) (pa_cons (pe_ix ix_tup (pv 3) pe_int (fun _ _ => rfl)) pa_nil)))))
    (C8.pss_cut (ps_if (PW.pt (pw_and (pt_cmpR op_gt (pe_callB call_len_seq rfl B.len PySem.boot_len (pa_cons (pv 12) pa_nil)) pe_int (nomark _)) (pw_and1 (pt_cmpR op_eq (pe_callB call_len_seq rfl B.len PySem.boot_len (pa_cons (pv 10) pa_nil)) pe_int (nomark _)))))
    (pss_one (ps_ret (pe_tup (pa_cons pe_str (pa_cons pe_str pa_nil)))))
    pss_nil)
    (pss_cons (ps_set (i := 13) sc_law_do.nd rfl (Or.inl rfl) (pe_lst pa_nil))
    (pss_cons (ps_for PassesOwn.never rfl (pi_list (pv 12)) (pg_tup rfl (pgs_cons (pg_name (i := 14) sc_law_do.nd rfl (Or.inl rfl)) (pgs_cons (pg_name (i := 15) sc_law_do.nd rfl (Or.inl rfl)) pgs_nil)))
    (pss_cons (ps_set (i := 10) sc_law_do.nd rfl (Or.inl rfl) (pe_h D_law_halved (hr.mono (by decide)) rfl (pa_cons (pv 10) pa_nil)))
    (pss_one (ps_expr (pe_bm PySem.F.plainAttrs_list PySem.F.slot_list_append PySem.F.type_list_append mt_append (pv 13) (pa_cons (pe_tup (pa_cons (pv 14) (pa_cons (pe_tup (pa_cons pe_str (pa_cons (pe_ix ix_tup (pv 15) pe_int (fun _ _ => rfl)) (pa_cons (pe_ix ix_tup (pv 15) pe_int (fun _ _ => rfl)) (pa_cons (pv 10) pa_nil))))) pa_nil))) pa_nil))))))
    (pss_cons (ps_set (i := 16) sc_law_do.nd rfl (Or.inl rfl) (pe_callB call_len_seq rfl B.len PySem.boot_len (pa_cons (pv 12) pa_nil)))
    (pss_cons (ps_set (i := 17) sc_law_do.nd rfl (Or.inl rfl) (pe_tup (pa_cons (pe_slice sl_tupA (pv 3) (po_some pe_int) po_none) (pa_cons (pv 4) (pa_cons (pe_op op_add (pv 5) (pv 16)) (pa_cons (pe_op op_add (pv 6) (pv 16)) (pa_cons (pv 7) (pa_cons (pv 8) (pa_cons (pv 9) (pa_cons (pv 10) (pa_cons (pv 11) pa_nil)))))))))))
    (pss_cons (ps_set (i := 17) sc_law_do.nd rfl (Or.inl rfl) (pe_h D_law_ended (hr.mono (by decide)) rfl (pa_cons (pv 1) (pa_cons (pv 17) (pa_cons (pv 13) pa_nil)))))
    (pss_one (ps_ret (pe_tup (pa_cons pe_str (pa_cons (pv 17) (pa_cons (pe_callTy call_tuple_of rfl B.tuple (by decide +kernel) (pa_cons (pv 13) pa_nil)) pa_nil))))))))))))))), ?_⟩
  have ea := z.e
  have eb := z.b
  have es := z.s
  have lb : bs.length = st.bag.length := by have := z.t.len; rw [List.length_map] at this; exact this
  refine ⟨_, rfl, a, _, rfl, SqT.of ea, rfl, _, _, rfl, _, _, rfl, _, _, rfl, _, _, rfl, _, _, rfl, _, _, rfl, _, _, rfl, _, _, rfl, _, _, rfl, rfl, ?_⟩
  trivial
  refine ite2 (fun c => ?_) (fun c => ?_)
  · have hb0 : bs = [] := by simpa using of_decide_eq_true c
    have c' : st.bag = [] := List.length_eq_zero_iff.mp (by rw [← lb, hb0]; rfl)
    unfold doneL at k
    rw [c'] at k
    trivial
    intro T nT
    exact k T _ (same_new0 nT) upd_same
  have c' : st.bag.length ≠ 0 := fun zz => c (decide_eq_true (by rw [lb, zz]; rfl))
  obtain ⟨t, bag', hbg⟩ : ∃ t b, st.bag = t :: b := List.exists_cons_of_length_pos (by omega)
  have zt := z.t
  rw [hbg, List.map_cons] at zt
  obtain ⟨b0, bs', rfl⟩ : ∃ x y, bs = x :: y := List.exists_cons_of_length_pos (by rw [lb]; omega)
  cases zt with
  | cons rt rts =>
  obtain ⟨ht0, ht1, ht2, ht3⟩ := hbag t (by rw [hbg]; exact List.mem_cons_self ..)
  have a0 : atI (b0 :: bs') 0 = some b0 := atI_nat (show (b0 :: bs')[0]? = some b0 from rfl)
  have lL := sent_len (m := m) (h := h) (t := t) ok
  have kd : doneL m R h st = if 0 < (sentL m R h t).length ∧ st.sh.length = 0 then .inl .share else .inr (endL h { st with bag := bag', de := st.de + (sentL m R h t).length, se := st.se + (sentL m R h t).length, sh := st.sh.map (· + ((sentL m R h t).length : Int)) } (outsL st.sh 0 (sentL m R h t))) := by
    unfold doneL
    rw [hbg]
  rw [kd] at k
  cases rt with
  | @tup tb ys _ etb tbs =>
  cases tbs with
  | cons r1 tbs =>
  cases r1
  cases tbs with
  | cons r1 tbs =>
  cases r1
  cases tbs
  refine ⟨_, rfl, _, rfl, _, rfl, _, _, _, _, rfl, rfl, SqT.of eb, a0, lw, r, tb, m, h, R, t, rfl, ew, tr, ok, etb, ht0, ht1, fun T xs H1 s1 nT0 eT aT => ?_⟩
  generalize sentL m R h t = L at *
  have lx : xs.length = L.length := by have := aT.len; rw [List.length_map] at this; exact this
  have z1 := z.tk (tk_of s1)
  have es1 := z1.s
  trivial
  refine ⟨fun σ H' => σ = [some (.ref lw), some (.int h), some (.ref a), some (.ref ba), some (optV st.par), some (.int st.de), some (.int st.se), some (.int st.tl), some (.bl st.bk), some gv, some (.ref sa), some (.bl st.sd), some (.ref T), none, none, none, none, none] ∧ H' = H1 ∧ ¬ (0 < L.length ∧ st.sh.length = 0), ?_, ?_⟩
  · trivial
    refine ite2 (fun c1 => ?_) (fun c1 => ?_)
    · have c1' : 0 < L.length := by have := of_decide_eq_true c1; omega
      trivial
      refine ite2 (fun c2 => ?_) (fun c2 => ?_)
      · have c2' : st.sh.length = 0 := by simpa using of_decide_eq_true c2
        rw [if_pos ⟨c1', c2'⟩] at k
        trivial
        intro T2 nT2
        exact k T2 _ (s1.trans (same_new0 nT2)) upd_same
      · exact ⟨rfl, rfl, fun zz => c2 (decide_eq_true (by rw [List.length_map, zz.2]; rfl))⟩
    · exact ⟨rfl, rfl, fun zz => c1 (decide_eq_true (by omega))⟩
  rintro σ H2 ⟨rfl, rfl, nsh⟩
  rw [if_neg nsh] at k
  trivial
  intro q nq
  have sq := same_new0 (o := .lst []) nq
  have eq : upd H2 q (.lst []) q = some (.lst []) := upd_same
  have hq0 : H2 q = none := nq
  have eT1 := sq _ _ eT
  have es2 := sq _ _ es1
  generalize upd H2 q (.lst []) = H3 at *
  trivial
  refine for_it (walk_list (xs := xs)) (fun i σ H' => ∃ (sa' : Addr) (os : List V) (v14 v15 : Option V), σ = [some (.ref lw), some (.int h), some (.ref a), some (.ref ba), some (optV st.par), some (.int st.de), some (.int st.se), some (.int st.tl), some (.bl st.bk), some gv, some (.ref sa'), some (.bl st.sd), some (.ref T), some (.ref q), v14, v15, none, none] ∧ Same H2 H' ∧ H' q = some (.lst os) ∧ os.length = i ∧ TrAll H' os ((outsL st.sh 0 (L.take i)).map outP) ∧ H' sa' = some (.tup ((st.sh.map (· + (i : Int))).map V.int))) ⟨sa, [], none, none, rfl, sq, eq, rfl, .nil, by rw [es2]; congr 3; simp⟩ (fun i σ H' _ q => ?_) (fun i x σ H4 H5 hi q y => ?_) fun σ H4 q => ?_
  · obtain ⟨_, _, _, _, _, s, _⟩ := q
    exact SqL.of (s _ _ eT)
  · obtain ⟨sa', os, v14, v15, rfl, s4, eq4, lo, to, esa⟩ := q
    obtain ⟨rfl, gx⟩ := y
    obtain ⟨dx, gdx, rx⟩ := aT.at_ gx
    rw [List.getElem?_map] at gdx
    obtain ⟨⟨to1, k1, f1⟩, gL, rfl⟩ := Option.map_eq_some_iff.mp gdx
    dsimp only [sntP] at rx
    cases rx with
    | @tup pa ys ds ep ap =>
    cases ap with
    | cons r1 ap =>
    cases r1
    cases ap with
    | cons r2 ap =>
    cases ap
    cases r2 with
    | @tup pb zs ds eb2 ab =>
    cases ab with
    | cons r3 ab =>
    cases r3
    cases ab with
    | cons r4 ab =>
    cases r4
    cases ab
    have ep4 := s4 _ _ ep
    have eb4 := s4 _ _ eb2
    have i0 : atI [V.int k1, .int f1] 0 = some (.int k1) := atI_nat rfl
    have i1 : atI [V.int k1, .int f1] 1 = some (.int f1) := atI_nat rfl
    refine ⟨pa, _, rfl, SqT.of ep4, rfl, _, _, rfl, _, _, rfl, rfl, ?_⟩
    refine ⟨_, rfl, sa', _, rfl, esa, by rw [List.length_map]; exact hshl, fun q6 H6 s6 e6 => ?_⟩
    rw [map_add] at e6
    have eb6 := s6 _ _ eb4
    have eq6 := s6 _ _ eq4
    trivial
    intro u1 nu1
    have su1 := same_new0 (o := .tup [.str "task", .int k1, .int f1, .ref q6]) nu1
    have eu1 : upd H6 u1 (.tup [.str "task", .int k1, .int f1, .ref q6]) u1 = some (.tup [.str "task", .int k1, .int f1, .ref q6]) := upd_same
    have eq7 := su1 _ _ eq6
    generalize upd H6 u1 (.tup [.str "task", .int k1, .int f1, .ref q6]) = H7 at *
    trivial
    intro u5 nu5
    have su5 := same_new0 (o := .tup [.int to1, .ref u1]) nu5
    have eu5 : upd H7 u5 (.tup [.int to1, .ref u1]) u5 = some (.tup [.int to1, .ref u1]) := upd_same
    have eu45 := su5 _ _ eu1
    have eq8 := su5 _ _ eq7
    generalize upd H7 u5 (.tup [.int to1, .ref u1]) = HB at *
    have s4B := s6.trans (su1.trans su5)
    have e6B := (su1.trans su5) _ _ e6
    have hli : i < L.length := by omega
    trivial
    refine ⟨by rw [sizeLine_eq]; omega, q6, os ++ [.ref u5], _, _, rfl, sput (s4.trans s4B) hq0, upd_same, by rw [List.length_append, lo]; rfl, ?_, ?_⟩
    · have kB : Tk HB (upd HB q (.lst (os ++ [.ref u5]))) := Tk.lst eq8
      rw [List.take_add_one, gL]
      show TrAll _ _ ((outsL st.sh 0 (L.take i ++ [(to1, k1, f1)])).map outP)
      rw [outs_snoc, List.map_append, List.length_take, Nat.min_eq_left (by omega), Nat.zero_add]
      refine TrAll.app ((to.tk (tk_of s4B)).tk kB) (.cons (Tr.tk kB (.tup eu5 (.cons (.int _) (.cons (.tup eu45 (.cons (.str _) (.cons (.int _) (.cons (.int _) (.cons (.tup e6B (tr_ints _)) .nil))))) .nil)))) .nil)
    · have : q6 ≠ q := ne_of e6B eq8 (by intro z; cases z)
      rw [upd_ne this, e6B]
      rfl
  · obtain ⟨sa', os, v14, v15, rfl, s4, eq4, lo, to, esa⟩ := q
    have eb4 := (s1.trans s4) _ _ eb
    have eT4 := s4 _ _ eT
    have z4 := z1.tk (tk_of s4)
    trivial
    rw [cut1]
    intro u1 H5 su1 eu1
    have s5 := s4.trans su1
    trivial
    intro u2 nu2
    have su2 := same_new0 (o := .tup [.ref u1, optV st.par, .int (st.de + (xs.length : Nat)), .int (st.se + (xs.length : Nat)), .int st.tl, .bl st.bk, gv, .ref sa', .bl st.sd]) nu2
    have eu2 : upd H5 u2 (.tup [.ref u1, optV st.par, .int (st.de + (xs.length : Nat)), .int (st.se + (xs.length : Nat)), .int st.tl, .bl st.bk, gv, .ref sa', .bl st.sd]) u2 = some (.tup [.ref u1, optV st.par, .int (st.de + (xs.length : Nat)), .int (st.se + (xs.length : Nat)), .int st.tl, .bl st.bk, gv, .ref sa', .bl st.sd]) := upd_same
    have eu12 := su2 _ _ eu1
    have esa2 := (su1.trans su2) _ _ esa
    have eq2 := (su1.trans su2) _ _ eq4
    have to2 := to.tk (tk_of (su1.trans su2))
    have s6 := s5.trans su2
    generalize upd H5 u2 (.tup [.ref u1, optV st.par, .int (st.de + (xs.length : Nat)), .int (st.se + (xs.length : Nat)), .int st.tl, .bl st.bk, gv, .ref sa', .bl st.sd]) = H6 at *
    have z6 := z1.tk (tk_of s6)
    have rts6 := rts.tk (tk_of (s1.trans s6))
    rw [lx] at eu2 esa2 to2
    rw [List.take_length] at to2
    trivial
    refine ⟨(⟨u1, sa', bs', gv, eu2, eu12, rts6, z6.g, esa2⟩ : HsAt H6 u2 { st with bag := bag', de := st.de + L.length, se := st.se + L.length, sh := st.sh.map (· + (L.length : Int)) }), eq2, (to2 : TrAll H6 os ((outsL st.sh 0 L).map outP)), by omega, fun b os' H7 f7 eq7 to7 hs7 l7 => ?_⟩
    have s67 : Same H H7 := fun c u e => f7 _ _ ((s1.trans s6) _ _ e) (fun zz => by rw [zz] at e; rw [s1 _ _ e] at hq0; cases hq0)
    trivial
    intro u3 nu3
    have su3 := same_new0 (o := .tup os') nu3
    have eu3 : upd H7 u3 (.tup os') u3 = some (.tup os') := upd_same
    generalize upd H7 u3 (.tup os') = H8 at *
    trivial
    intro T2 nT2
    have sT2 := same_new0 (o := .tup [.str "told", .ref b, .ref u3]) nT2
    exact k T2 _ ((s67.trans su3).trans sT2) ⟨b, u3, os', upd_same, hs7.tk (tk_of (su3.trans sT2)), sT2 _ _ eu3, to7.tk (tk_of (su3.trans sT2))⟩
end
end KQ
set_option Elab.async false
set_option maxRecDepth 100000
set_option maxHeartbeats 4000000
namespace KQ
open PySem PySem.Spec PyProof.Rows L2
local macro_rules | `(tactic| walk_at "kq hp") => `(tactic| (first | assumption | exact upd_same | (rw [upd_ne (by first | assumption | exact Ne.symm (by assumption))]; first | assumption | exact upd_same | (rw [upd_ne (by first | assumption | exact Ne.symm (by assumption))]; first | assumption | exact upd_same))))
local macro_rules | `(tactic| walk_at "kq do") => `(tactic| (first | decide | omega))
local macro_rules | `(tactic| walk_at "kq cl") => `(tactic| focus (first | rfl | assumption | exact upd_same | exact SqL.of (by walk_at "kq hp") | exact SqT.of (by walk_at "kq hp") | exact Or.inl (SqL.of (by walk_at "kq hp")) | exact Or.inr (SqT.of (by walk_at "kq hp")) | exact Or.inl ⟨rfl, _, SqL.of (by walk_at "kq hp")⟩ | walk_at "kq hp" | decide | exact Nat.le_of_ble_eq_true rfl | omega | (show ∃ xs, SqL _ _ _ xs; exact ⟨_, SqL.of (by walk_at "kq hp")⟩) | (show ∃ xs, SqT _ _ _ xs; exact ⟨_, SqT.of (by walk_at "kq hp")⟩) | exact DGet.k (k := Sum.inl _) (by walk_at "kq hp") | (show V.int _ = kV (Sum.inl _); rfl) | (show ∃ z, V.str _ = V.str z; exact ⟨_, rfl⟩) | exact Or.inl ⟨by walk_at "kq do", by walk_at "kq do"⟩ | exact Or.inr ⟨by walk_at "kq do", by walk_at "kq do"⟩ | exact ⟨by walk_at "kq do", by walk_at "kq do"⟩ | exact ⟨by decide, by decide, by decide⟩ | exact L2.ClsV.ty _ | exact Dt.ty (by assumption) | exact Dt.kint (by assumption) | exact Dt.kbool (by assumption) | exact Dt.ktuple (by assumption) | exact Dt.klist (by assumption) | exact Dt.kstr (by assumption)))
local macro_rules | `(tactic| trivial) => `(tactic| repeat (first | refine sl_go (by walk_at "kq hp") ?_ | (unfold tNoPart; refine sl_go (by walk_at "kq hp") ?_) | refine cat_go (by walk_at "kq hp") (by walk_at "kq hp") ?_ ?_ | (apply And.intro; walk_at "kq cl") | (apply Exists.intro; apply And.intro; walk_at "kq cl") | (apply Exists.intro; apply Exists.intro; apply And.intro; walk_at "kq cl") | (apply Exists.intro; apply Exists.intro; apply Exists.intro; apply And.intro; walk_at "kq cl") | (apply Exists.intro; apply Exists.intro; apply Exists.intro; apply Exists.intro; apply And.intro; walk_at "kq cl") | (apply Exists.intro; apply Exists.intro; apply Exists.intro; apply Exists.intro; apply Exists.intro; apply And.intro; walk_at "kq cl") | (apply Exists.intro; apply Exists.intro; apply Exists.intro; apply Exists.intro; apply Exists.intro; apply Exists.intro; apply And.intro; walk_at "kq cl") | (apply Exists.intro; apply Exists.intro; apply Exists.intro; apply Exists.intro; apply Exists.intro; apply Exists.intro; apply Exists.intro; apply And.intro; walk_at "kq cl") | (apply Exists.intro; apply Exists.intro; apply Exists.intro; apply Exists.intro; apply Exists.intro; apply Exists.intro; apply Exists.intro; apply Exists.intro; apply And.intro; walk_at "kq cl") | (apply Exists.intro; apply Exists.intro; apply Exists.intro; apply Exists.intro; apply Exists.intro; apply Exists.intro; apply Exists.intro; apply Exists.intro; apply Exists.intro; apply And.intro; walk_at "kq cl") | refine Or.inl ⟨_, rfl, ?_⟩ | refine Or.inr ⟨_, rfl, ?_⟩ | refine Or.inr ⟨SqT.of (by walk_at "kq hp"), SqT.of (by walk_at "kq hp"), ?_⟩ | refine Or.inl ⟨SqL.of (by walk_at "kq hp"), SqL.of (by walk_at "kq hp"), ?_⟩ | refine Or.inl ⟨SqL.of (by walk_at "kq hp"), ?_⟩ | refine Or.inr ⟨SqT.of (by walk_at "kq hp"), ?_⟩ | refine ifT rfl ?_ | refine ifF rfl ?_))
def spLHear : Sp := fun vs H Q _ => ∃ (h snd : Int) (a b : Addr) (s : Hs) (wd : Wd), vs = [.int h, .ref a, .int snd, .ref b] ∧ 0 ≤ h ∧ HsAt H a s ∧ WdAt H b wd ∧ s.bag.length ≤ 1000 ∧ (∀ k f ns, wd = .task k f ns → ShOk s.sh ns) ∧ (∀ ns, wd = .share ns → ShOk s.sh ns) ∧
  ∀ T H', Same H H' → DueAt H' T (heardL h s snd wd) → Q (.ref T) H'
theorem str_ne {x y : Str} (h : x ≠ y) : decide (V.str x = V.str y) = false := decide_eq_false fun z => h (V.str.inj z)
section
variable {P : Program} {w : World} {K : PySem.W.Frag} {mg : Str → Option Value} {base : Heap}
theorem d_law_hear (B : Bi mg) (F : FunAt K mg "_law_hear" s_law_hear) (D_law_sum : Has P w K mg base 2 "_law_sum" ["one", "other"] spLSum) (D_law_ended : Has P w K mg base 1 "_law_ended" ["house", "state", "out"] spLEnded) : Has P w K mg base 3 "_law_hear" ["house", "state", "sender", "word"] spLHear := by
  refine mk_has F sc_law_hear (fun _ _ _ _ _ _ us hl => match us, hl with | [_, _, _, _], _ => rfl) (fun vs H Q E h => ?_) fun f cdv A outer s H vs Q E hr h => ?_
  · obtain ⟨h, snd, a, b, st, wd, rfl, _⟩ := h
    rfl
  obtain ⟨h, snd, a, b, st, wd, rfl, h0, hst, hwd, lbg, o1, o2, k⟩ := h
  refine ⟨_, (pss_cons (ps_asg (pv 1) (pg_tup rfl (pgs_cons (pg_name (i := 4) sc_law_hear.nd rfl (Or.inl rfl)) (pgs_cons (pg_name (i := 5) sc_law_hear.nd rfl (Or.inl rfl)) (pgs_cons (pg_name (i := 6) sc_law_hear.nd rfl (Or.inl rfl)) (pgs_cons (pg_name (i := 7) sc_law_hear.nd rfl (Or.inl rfl)) (pgs_cons (pg_name (i := 8) sc_law_hear.nd rfl (Or.inl rfl)) (pgs_cons (pg_name (i := 9) sc_law_hear.nd rfl (Or.inl rfl)) (pgs_cons (pg_name (i := 10) sc_law_hear.nd rfl (Or.inl rfl)) (pgs_cons (pg_name (i := 11) sc_law_hear.nd rfl (Or.inl rfl)) (pgs_cons (pg_name (i := 12) sc_law_hear.nd rfl (Or.inl rfl)) pgs_nil)))))))))))
    (pss_cons (ps_set (i := 13) sc_law_hear.nd rfl (Or.inl rfl) (pe_lst pa_nil))
    (pss_cons (ps_if (pt_cmpR op_eq (pe_ix ix_tup (pv 3) pe_int (fun _ _ => rfl)) pe_str (nomark _))
    (pss_cons (ps_set (i := 11) sc_law_hear.nd rfl (Or.inl rfl) (pe_h D_law_sum (hr.mono (by decide)) rfl (pa_cons (pv 11) (pa_cons (pe_ix ix_tup (pv 3) pe_int (fun _ _ => rfl)) pa_nil))))
    (pss_cons (ps_if (pt_cmp (pc_isN (pv 11)))
    (pss_one (ps_ret (pe_tup (pa_cons pe_str (pa_cons pe_str pa_nil)))))
    pss_nil)
    (C8.pss_cut (ps_if (pt_cmp (pc_notN (pv 5)))
    (pss_one (ps_expr (pe_bm PySem.F.plainAttrs_list PySem.F.slot_list_append PySem.F.type_list_append mt_append (pv 13) (pa_cons (pe_tup (pa_cons (pv 2) (pa_cons (pe_tup (pa_cons pe_str pa_nil)) pa_nil))) pa_nil))))
    (pss_one (ps_if (pt_cmpR op_eq (pv 0) pe_int (nomark _))
    (pss_one (ps_set (i := 5) sc_law_hear.nd rfl (Or.inl rfl) pe_int))
    (pss_one (ps_set (i := 5) sc_law_hear.nd rfl (Or.inl rfl) (pv 2))))))
    (pss_cons (ps_set (i := 14) sc_law_hear.nd rfl (Or.inl rfl) (pe_tup (pa_cons (pe_op op_catA (pv 4) (pe_tup (pa_cons (pe_tup (pa_cons (pe_ix ix_tup (pv 3) pe_int (fun _ _ => rfl)) (pa_cons (pe_ix ix_tup (pv 3) pe_int (fun _ _ => rfl)) pa_nil))) pa_nil))) (pa_cons (pv 5) (pa_cons (pv 6) (pa_cons (pv 7) (pa_cons (pe_op op_add (pv 8) pe_int) (pa_cons pe_bl (pa_cons (pv 10) (pa_cons (pv 11) (pa_cons (pv 12) pa_nil)))))))))))
    (pss_one (ps_ret (pe_tup (pa_cons pe_str (pa_cons (pv 14) (pa_cons (pe_callTy call_tuple_of rfl B.tuple (by decide +kernel) (pa_cons (pv 13) pa_nil)) pa_nil))))))))))
    pss_nil)
    (pss_cons (ps_if (pt_cmpR op_eq (pe_ix ix_tup (pv 3) pe_int (fun _ _ => rfl)) pe_str (nomark _))
    (pss_cons (ps_if (pt_cmpR op_eq (pv 6) pe_int (nomark _))
    (pss_one (ps_ret (pe_tup (pa_cons pe_str (pa_cons pe_str pa_nil)))))
    pss_nil)
    (pss_cons (ps_set (i := 14) sc_law_hear.nd rfl (Or.inl rfl) (pe_tup (pa_cons (pv 4) (pa_cons (pv 5) (pa_cons (pe_op op_sub (pv 6) pe_int) (pa_cons (pv 7) (pa_cons (pv 8) (pa_cons (pv 9) (pa_cons (pv 10) (pa_cons (pv 11) (pa_cons (pv 12) pa_nil)))))))))))
    (pss_cons (ps_set (i := 14) sc_law_hear.nd rfl (Or.inl rfl) (pe_h D_law_ended (hr.mono (by decide)) rfl (pa_cons (pv 0) (pa_cons (pv 14) (pa_cons (pv 13) pa_nil)))))
    (pss_one (ps_ret (pe_tup (pa_cons pe_str (pa_cons (pv 14) (pa_cons (pe_callTy call_tuple_of rfl B.tuple (by decide +kernel) (pa_cons (pv 13) pa_nil)) pa_nil)))))))))
    pss_nil)
    (pss_cons (ps_if (pt_cmpR op_eq (pe_ix ix_tup (pv 3) pe_int (fun _ _ => rfl)) pe_str (nomark _))
    (pss_cons (ps_if (pt_cmp (pc_notN (pv 10)))
    (pss_one (ps_ret (pe_tup (pa_cons pe_str (pa_cons pe_str pa_nil)))))
    pss_nil)
    (pss_one (ps_ret (pe_tup (pa_cons pe_str (pa_cons (pe_op op_catA (pe_op op_catA (pe_slice sl_tupA (pv 1) po_none (po_some pe_int)) (pe_tup (pa_cons (pe_slice sl_tupA (pv 3) (po_some pe_int) po_none) pa_nil))) (pe_slice sl_tupA (pv 1) (po_some pe_int) po_none)) (pa_cons (pe_tup pa_nil) pa_nil)))))))
    pss_nil)
    (pss_cons (ps_if (pt_cmpR op_eq (pe_ix ix_tup (pv 3) pe_int (fun _ _ => rfl)) pe_str (nomark _))
    (pss_cons (ps_set (i := 11) sc_law_hear.nd rfl (Or.inl rfl) (pe_h D_law_sum (hr.mono (by decide)) rfl (pa_cons (pv 11) (pa_cons (pe_ix ix_tup (pv 3) pe_int (fun _ _ => rfl)) pa_nil))))
    (C8.pss_cut (ps_if (PW.pt (pw_or (pt_cmpR op_gt (pv 0) pe_int (nomark _)) (pw_or1 (pt_cmp (pc_isN (pv 11))))))
    (pss_one (ps_ret (pe_tup (pa_cons pe_str (pa_cons pe_str pa_nil)))))
    pss_nil)
    (pss_one (ps_ret (pe_tup (pa_cons pe_str (pa_cons (pe_op op_catA (pe_slice sl_tupA (pv 1) po_none (po_some pe_int)) (pe_tup (pa_cons (pv 11) (pa_cons (pv 12) pa_nil)))) (pa_cons (pe_tup pa_nil) pa_nil))))))))
    pss_nil)
    (pss_one (ps_ret (pe_tup (pa_cons pe_str (pa_cons (pv 1) (pa_cons (pe_tup pa_nil) pa_nil)))))))))))), ?_⟩
  have hst0 := hst
  obtain ⟨ba, sa, bs, gv, z⟩ := hst0
  have ea := z.e
  have eb := z.b
  have es := z.s
  have lb : bs.length = st.bag.length := by have := z.t.len; rw [List.length_map] at this; exact this
  refine ⟨_, rfl, a, _, rfl, SqT.of ea, rfl, _, _, rfl, _, _, rfl, _, _, rfl, _, _, rfl, _, _, rfl, _, _, rfl, _, _, rfl, _, _, rfl, _, _, rfl, rfl, ?_⟩
  trivial
  intro q nq
  have sq := same_new0 (o := .lst []) nq
  have eq : upd H q (.lst []) q = some (.lst []) := upd_same
  have hst1 := hst.tk (tk_of sq)
  have sq0 := sq
  have hwd1 := hwd.tk (tk_of sq)
  have z1 := z.tk (tk_of sq)
  have ea1 := z1.e
  have eb1 := z1.b
  have es1 := z1.s
  generalize upd H q (.lst []) = H1 at *
  cases wd with
  | task kk ff ns =>
    obtain ⟨sw, ew0, esw0⟩ := hwd
    have ew := sq0 _ _ ew0
    have esw := sq0 _ _ esw0
    have w0 : atI [V.str "task", .int kk, .int ff, .ref sw] 0 = some (.str "task") := atI_nat rfl
    have w1 : atI [V.str "task", .int kk, .int ff, .ref sw] 1 = some (.int kk) := atI_nat rfl
    have w2 : atI [V.str "task", .int kk, .int ff, .ref sw] 2 = some (.int ff) := atI_nat rfl
    have w3 : atI [V.str "task", .int kk, .int ff, .ref sw] 3 = some (.ref sw) := atI_nat rfl
    obtain ⟨oa, ob, ona, onb, ol⟩ := o1 _ _ _ rfl
    unfold heardL at k
    trivial
    refine ⟨fun en H2 s2 => ?_, fun ks eks q2 H2 s2 e2 => ?_⟩
    · simp only [en] at k
      trivial
      intro T nT
      exact k T _ ((sq.trans s2).trans (same_new0 nT)) upd_same
    · simp only [eks] at k
      have s02 := sq.trans s2
      have eq2 := s2 _ _ eq
      have q20 : q2 ≠ q := ne_of e2 eq2 (by intro z; cases z)
      trivial
      refine ⟨fun σ H' => ∃ os, σ = [some (.int h), some (.ref a), some (.int snd), some (.ref b), some (.ref ba), some (.int (st.par.getD (if 0 < h then snd else 0))), some (.int st.de), some (.int st.se), some (.int st.tl), some (.bl st.bk), some gv, some (.ref q2), some (.bl st.sd), some (.ref q), none] ∧ Same H H' ∧ H' q = some (.lst os) ∧ TrAll H' os ((if st.par.isSome then [(snd, Wd.ans)] else []).map outP) ∧ os.length ≤ 1 ∧ H' q2 = some (.tup (ks.map V.int)), ?_, ?_⟩
      · cases hp : st.par with
        | none =>
          refine ⟨_, rfl, false, rfl, ifF rfl ?_⟩
          trivial
          refine ite2 (fun c => ?_) (fun c => ?_)
          · have c' : h = 0 := by simpa using of_decide_eq_true c
            refine ⟨[], ?_, s02, eq2, .nil, by simp, e2⟩
            rw [if_neg (by omega)]
            rfl
          · have c' : ¬ h = 0 := fun z => c (decide_eq_true (by rw [z]))
            trivial
            refine ⟨[], ?_, s02, eq2, .nil, by simp, e2⟩
            rw [if_pos (by omega)]
            rfl
        | some p =>
          refine ⟨_, rfl, true, rfl, ifT rfl ?_⟩
          trivial
          intro u1 nu1
          have su1 := same_new0 (o := .tup [.str "answer"]) nu1
          have eu1 : upd H2 u1 (.tup [.str "answer"]) u1 = some (.tup [.str "answer"]) := upd_same
          have eq3 := su1 _ _ eq2
          generalize upd H2 u1 (.tup [.str "answer"]) = H3 at *
          trivial
          intro u2 nu2
          have su2 := same_new0 (o := .tup [.int snd, .ref u1]) nu2
          have eu2 : upd H3 u2 (.tup [.int snd, .ref u1]) u2 = some (.tup [.int snd, .ref u1]) := upd_same
          have eu12 := su2 _ _ eu1
          have eq4 := su2 _ _ eq3
          generalize upd H3 u2 (.tup [.int snd, .ref u1]) = H4 at *
          have s24 := su1.trans su2
          trivial
          refine ⟨sput (s02.trans s24) nq, upd_same, ?_, by simp, ?_⟩
          · exact .cons (Tr.tk (Tk.lst eq4) (.tup eu2 (.cons (.int _) (.cons (.tup eu12 (.cons (.str _) .nil)) .nil)))) .nil
          · rw [upd_ne q20]
            exact s24 _ _ e2
      · rintro σ H3 ⟨os, rfl, s3, e3, t3, l3, eq23⟩
        have z3 := z.tk (tk_of s3)
        have eb3 := z3.b
        have ew3 := s3 _ _ ew0
        trivial
        intro u1 nu1
        have su1 := same_new0 (o := .tup [.int kk, .int ff]) nu1
        have eu1 : upd H3 u1 (.tup [.int kk, .int ff]) u1 = some (.tup [.int kk, .int ff]) := upd_same
        generalize upd H3 u1 (.tup [.int kk, .int ff]) = H4 at *
        trivial
        intro u2 nu2
        have su2 := same_new0 (o := .tup [.ref u1]) nu2
        have eu2 : upd H4 u2 (.tup [.ref u1]) u2 = some (.tup [.ref u1]) := upd_same
        have eu12 := su2 _ _ eu1
        have s35 := su1.trans su2
        generalize upd H4 u2 (.tup [.ref u1]) = H5 at *
        refine cat_go (s35 _ _ eb3) eu2 (by simp; omega) fun u3 H6 s6 eu3 => ?_
        have s36 := s35.trans s6
        trivial
        intro u4 nu4
        have su4 := same_new0 (o := .tup [.ref u3, .int (st.par.getD (if 0 < h then snd else 0)), .int st.de, .int st.se, .int (st.tl + 1), .bl true, gv, .ref q2, .bl st.sd]) nu4
        have eu4 : upd H6 u4 (.tup [.ref u3, .int (st.par.getD (if 0 < h then snd else 0)), .int st.de, .int st.se, .int (st.tl + 1), .bl true, gv, .ref q2, .bl st.sd]) u4 = some (.tup [.ref u3, .int (st.par.getD (if 0 < h then snd else 0)), .int st.de, .int st.se, .int (st.tl + 1), .bl true, gv, .ref q2, .bl st.sd]) := upd_same
        have eu34 := su4 _ _ eu3
        generalize upd H6 u4 (.tup [.ref u3, .int (st.par.getD (if 0 < h then snd else 0)), .int st.de, .int st.se, .int (st.tl + 1), .bl true, gv, .ref q2, .bl st.sd]) = H7 at *
        have s37 := s36.trans su4
        have e37 := s37 _ _ e3
        trivial
        intro u5 nu5
        have su5 := same_new0 (o := .tup os) nu5
        have eu5 : upd H7 u5 (.tup os) u5 = some (.tup os) := upd_same
        generalize upd H7 u5 (.tup os) = H8 at *
        trivial
        intro T nT
        have sT := same_new0 (o := .tup [.str "told", .ref u4, .ref u5]) nT
        have s3T := (s37.trans su5).trans sT
        have s4T := ((s6.trans su4).trans su5).trans sT
        refine k T _ (s3.trans s3T) ⟨u4, u5, os, upd_same, ⟨u3, q2, bs ++ [.ref u1], gv, (su5.trans sT) _ _ eu4, (su5.trans sT) _ _ eu34, ?_, (z.g.tk (tk_of (s3.trans s3T))), s3T _ _ eq23⟩, sT _ _ eu5, t3.tk (tk_of s3T)⟩
        show TrAll _ _ ((st.bag ++ [(kk, ff)]).map taskP)
        rw [List.map_append]
        exact (z.t.tk (tk_of (s3.trans s3T))).app (.cons (.tup (s4T _ _ eu12) (.cons (.int _) (.cons (.int _) .nil))) .nil)
  | ans =>
    have w0 : atI [V.str "answer"] 0 = some (.str "answer") := atI_nat rfl
    have ew : H1 b = some (.tup [.str "answer"]) := hwd1
    unfold heardL at k
    trivial
    refine ite2 (fun c => ?_) (fun c => ?_)
    · have c' : st.de = 0 := by simpa using of_decide_eq_true c
      simp only [if_pos c'] at k
      trivial
      intro T nT
      exact k T _ (sq.trans (same_new0 nT)) upd_same
    · have c' : ¬ st.de = 0 := fun z => c (decide_eq_true (by rw [z]))
      simp only [if_neg c'] at k
      trivial
      intro u2 nu2
      have su2 := same_new0 (o := .tup [.ref ba, optV st.par, .int (st.de - 1), .int st.se, .int st.tl, .bl st.bk, gv, .ref sa, .bl st.sd]) nu2
      have eu2 : upd H1 u2 (.tup [.ref ba, optV st.par, .int (st.de - 1), .int st.se, .int st.tl, .bl st.bk, gv, .ref sa, .bl st.sd]) u2 = some (.tup [.ref ba, optV st.par, .int (st.de - 1), .int st.se, .int st.tl, .bl st.bk, gv, .ref sa, .bl st.sd]) := upd_same
      have z2 := z1.tk (tk_of su2)
      have eq2 := su2 _ _ eq
      have s02 := sq.trans su2
      generalize upd H1 u2 (.tup [.ref ba, optV st.par, .int (st.de - 1), .int st.se, .int st.tl, .bl st.bk, gv, .ref sa, .bl st.sd]) = H2 at *
      trivial
      refine ⟨(⟨ba, sa, bs, gv, eu2, z2.b, z2.t, z2.g, z2.s⟩ : HsAt H2 u2 { st with de := st.de - 1 }), eq2, (show TrAll H2 [] (List.map outP []) from .nil), by simp, fun b os' H7 f7 eq7 to7 hs7 l7 => ?_⟩
      have s67 : Same H H7 := fun c u e => f7 _ _ (s02 _ _ e) (fun zz => by rw [zz] at e; rw [e] at nq; cases nq)
      trivial
      intro u3 nu3
      have su3 := same_new0 (o := .tup os') nu3
      have eu3 : upd H7 u3 (.tup os') u3 = some (.tup os') := upd_same
      generalize upd H7 u3 (.tup os') = H8 at *
      trivial
      intro T2 nT2
      have sT2 := same_new0 (o := .tup [.str "told", .ref b, .ref u3]) nT2
      exact k T2 _ ((s67.trans su3).trans sT2) ⟨b, u3, os', upd_same, hs7.tk (tk_of (su3.trans sT2)), sT2 _ _ eu3, to7.tk (tk_of (su3.trans sT2))⟩
  | sign x y c =>
    have w0 : atI [V.str "sign", .int x, .int y, .int c] 0 = some (.str "sign") := atI_nat rfl
    have ew : H1 b = some (.tup [.str "sign", .int x, .int y, .int c]) := hwd1
    unfold heardL at k
    have hg := z1.g
    have k1 : st.sg.isSome = true → ∀ T H', Same H H' → DueAt H' T (.inl .word) → Q (.ref T) H' := fun e T H' s d => k T H' s (by simp only [e, if_true]; exact d)
    have k2 : st.sg.isSome = false → ∀ T H', Same H H' → DueAt H' T (.inr ({ st with sg := some (x, y, c) }, [])) → Q (.ref T) H' := fun e T H' s d => k T H' s (by simp only [e]; exact d)
    cases hs : st.sg with
    | some p =>
      obtain ⟨x1, y1, c1⟩ := p
      rw [hs] at hg
      obtain ⟨g, rfl, _⟩ := hg
      trivial
      intro T nT
      exact k1 (by rw [hs]; rfl) T _ (sq.trans (same_new0 nT)) upd_same
    | none =>
      rw [hs] at hg
      cases hg
      have c6 : cutV [V.ref ba, optV st.par, .int st.de, .int st.se, .int st.tl, .bl st.bk, .non, .ref sa, .bl st.sd] none (some 6) = [V.ref ba, optV st.par, .int st.de, .int st.se, .int st.tl, .bl st.bk] := rfl
      have c7 : cutV [V.ref ba, optV st.par, .int st.de, .int st.se, .int st.tl, .bl st.bk, .non, .ref sa, .bl st.sd] (some 7) none = [V.ref sa, .bl st.sd] := rfl
      have cw : cutV [V.str "sign", .int x, .int y, .int c] (some 1) none = [V.int x, .int y, .int c] := rfl
      trivial
      rw [c6]
      intro q1 H2 s2 e2
      have ew2 := s2 _ _ ew
      trivial
      rw [cw]
      intro q2 H3 s3 e3
      trivial
      intro q3 nq3
      have sq3 := same_new0 (o := .tup [.ref q2]) nq3
      have eq3 : upd H3 q3 (.tup [.ref q2]) q3 = some (.tup [.ref q2]) := upd_same
      have e23 := sq3 _ _ (s3 _ _ e2)
      have e33 := sq3 _ _ e3
      generalize upd H3 q3 (.tup [.ref q2]) = H4 at *
      refine cat_go e23 eq3 (by simp) fun q4 H5 s5 e5 => ?_
      have s15 := ((s2.trans s3).trans sq3).trans s5
      have ea5 := s15 _ _ ea1
      trivial
      rw [c7]
      intro q6 H6 s6 e6
      refine cat_go (s6 _ _ e5) e6 (by simp) fun q7 H7 s7 e7 => ?_
      trivial
      intro u1 nu1
      have su1 := same_new0 (o := .tup []) nu1
      have eu1 : upd H7 u1 (.tup []) u1 = some (.tup []) := upd_same
      have eu7 := su1 _ _ e7
      generalize upd H7 u1 (.tup []) = H8 at *
      trivial
      intro T nT
      have sT := same_new0 (o := .tup [.str "told", .ref q7, .ref u1]) nT
      have s5T := ((s6.trans s7).trans su1).trans sT
      have s1T := s15.trans s5T
      have zT := z1.tk (tk_of s1T)
      refine k2 (by rw [hs]; rfl) T _ (sq.trans s1T) ⟨q7, u1, [], upd_same, ⟨ba, sa, bs, .ref q2, ?_, zT.b, zT.t, ⟨q2, rfl, s5T _ _ (s5 _ _ e33)⟩, zT.s⟩, sT _ _ eu1, .nil⟩
      rw [sT _ _ eu7]
      rfl
  | share ns =>
    obtain ⟨sw, ew, esw⟩ := hwd1
    have w0 : atI [V.str "share", .ref sw] 0 = some (.str "share") := atI_nat rfl
    have w1 : atI [V.str "share", .ref sw] 1 = some (.ref sw) := atI_nat rfl
    obtain ⟨oa, ob, ona, onb, ol⟩ := o2 _ rfl
    unfold heardL at k
    trivial
    refine ⟨fun en H2 s2 => ?_, fun ks eks q2 H2 s2 e2 => ?_⟩
    · simp only [en] at k
      have k1 : ∀ T H', Same H H' → DueAt H' T (.inl .word) → Q (.ref T) H' := fun T H' s d => k T H' s (by split <;> exact d)
      trivial
      refine ⟨fun _ _ => False, ?_, fun _ _ z => z.elim⟩
      trivial
      refine ite2 (fun c => ?_) (fun c => ?_)
      · trivial
        intro T nT
        exact k1 T _ ((sq.trans s2).trans (same_new0 nT)) upd_same
      · trivial
        intro T nT
        exact k1 T _ ((sq.trans s2).trans (same_new0 nT)) upd_same
    · simp only [eks] at k
      have s02 := sq.trans s2
      have ea2 := s02 _ _ z.e
      trivial
      refine ⟨fun σ H' => σ = [some (.int h), some (.ref a), some (.int snd), some (.ref b), some (.ref ba), some (optV st.par), some (.int st.de), some (.int st.se), some (.int st.tl), some (.bl st.bk), some gv, some (.ref q2), some (.bl st.sd), some (.ref q), none] ∧ H' = H2 ∧ ¬ 0 < h, ?_, ?_⟩
      · trivial
        refine ite2 (fun c => ?_) (fun c => ?_)
        · have c' : 0 < h := of_decide_eq_true c
          simp only [if_pos c'] at k
          trivial
          intro T nT
          exact k T _ (s02.trans (same_new0 nT)) upd_same
        · have c' : ¬ 0 < h := fun z => c (decide_eq_true z)
          trivial
          first | exact c' | exact ⟨rfl, rfl, c'⟩
      · rintro σ H3 ⟨rfl, rfl, c'⟩
        simp only [if_neg c'] at k
        have c7 : cutV [V.ref ba, optV st.par, .int st.de, .int st.se, .int st.tl, .bl st.bk, gv, .ref sa, .bl st.sd] none (some 7) = [V.ref ba, optV st.par, .int st.de, .int st.se, .int st.tl, .bl st.bk, gv] := rfl
        trivial
        rw [c7]
        intro q3 H4 s4 e4
        trivial
        intro q5 nq5
        have sq5 := same_new0 (o := .tup [.ref q2, .bl st.sd]) nq5
        have eq5 : upd H4 q5 (.tup [.ref q2, .bl st.sd]) q5 = some (.tup [.ref q2, .bl st.sd]) := upd_same
        have e45 := sq5 _ _ e4
        generalize upd H4 q5 (.tup [.ref q2, .bl st.sd]) = H5 at *
        refine cat_go e45 eq5 (by simp) fun q6 H6 s6 e6 => ?_
        trivial
        intro u1 nu1
        have su1 := same_new0 (o := .tup []) nu1
        have eu1 : upd H6 u1 (.tup []) u1 = some (.tup []) := upd_same
        have eu7 := su1 _ _ e6
        generalize upd H6 u1 (.tup []) = H8 at *
        trivial
        intro T nT
        have sT := same_new0 (o := .tup [.str "told", .ref q6, .ref u1]) nT
        have s3T := (((s4.trans sq5).trans s6).trans su1).trans sT
        have zT := z.tk (tk_of (s02.trans s3T))
        refine k T _ (s02.trans s3T) ⟨q6, u1, [], upd_same, ⟨ba, q2, bs, gv, ?_, zT.b, zT.t, zT.g, s3T _ _ e2⟩, sT _ _ eu1, .nil⟩
        rw [sT _ _ eu7]
        rfl
  | mark n =>
    have ew : H1 b = some (.tup [.str "mark", .int n]) := hwd1
    have w0 : atI [V.str "mark", .int n] 0 = some (.str "mark") := atI_nat rfl
    unfold heardL at k
    trivial
    intro u1 nu1
    have su1 := same_new0 (o := .tup []) nu1
    have eu1 : upd H1 u1 (.tup []) u1 = some (.tup []) := upd_same
    generalize upd H1 u1 (.tup []) = H2 at *
    trivial
    intro T nT
    have sT := same_new0 (o := .tup [.str "told", .ref a, .ref u1]) nT
    have s0T := (sq.trans su1).trans sT
    exact k T _ s0T ⟨a, u1, [], upd_same, hst.tk (tk_of s0T), sT _ _ eu1, .nil⟩
end
end KQ
set_option Elab.async false
set_option maxRecDepth 100000
set_option maxHeartbeats 4000000
namespace KQ
open PySem PySem.Spec PyProof.Rows L2
local macro_rules | `(tactic| walk_at "kq hp") => `(tactic| (first | assumption | exact upd_same | (rw [upd_ne (by first | assumption | exact Ne.symm (by assumption))]; first | assumption | exact upd_same | (rw [upd_ne (by first | assumption | exact Ne.symm (by assumption))]; first | assumption | exact upd_same))))
local macro_rules | `(tactic| walk_at "kq do") => `(tactic| (first | decide | omega))
local macro_rules | `(tactic| walk_at "kq cl") => `(tactic| focus (first | rfl | assumption | exact upd_same | exact SqL.of (by walk_at "kq hp") | exact SqT.of (by walk_at "kq hp") | exact Or.inl (SqL.of (by walk_at "kq hp")) | exact Or.inr (SqT.of (by walk_at "kq hp")) | exact Or.inl ⟨rfl, _, SqL.of (by walk_at "kq hp")⟩ | walk_at "kq hp" | decide | exact Nat.le_of_ble_eq_true rfl | omega | (show ∃ xs, SqL _ _ _ xs; exact ⟨_, SqL.of (by walk_at "kq hp")⟩) | (show ∃ xs, SqT _ _ _ xs; exact ⟨_, SqT.of (by walk_at "kq hp")⟩) | exact DGet.k (k := Sum.inl _) (by walk_at "kq hp") | (show V.int _ = kV (Sum.inl _); rfl) | (show ∃ z, V.str _ = V.str z; exact ⟨_, rfl⟩) | exact Or.inl ⟨by walk_at "kq do", by walk_at "kq do"⟩ | exact Or.inr ⟨by walk_at "kq do", by walk_at "kq do"⟩ | exact ⟨by walk_at "kq do", by walk_at "kq do"⟩ | exact ⟨by decide, by decide, by decide⟩ | exact L2.ClsV.ty _ | exact Dt.ty (by assumption) | exact Dt.kint (by assumption) | exact Dt.kbool (by assumption) | exact Dt.ktuple (by assumption) | exact Dt.klist (by assumption) | exact Dt.kstr (by assumption)))
local macro_rules | `(tactic| trivial) => `(tactic| repeat (first | refine sl_go (by walk_at "kq hp") ?_ | (unfold tNoPart; refine sl_go (by walk_at "kq hp") ?_) | refine cat_go (by walk_at "kq hp") (by walk_at "kq hp") ?_ ?_ | (apply And.intro; walk_at "kq cl") | (apply Exists.intro; apply And.intro; walk_at "kq cl") | (apply Exists.intro; apply Exists.intro; apply And.intro; walk_at "kq cl") | (apply Exists.intro; apply Exists.intro; apply Exists.intro; apply And.intro; walk_at "kq cl") | (apply Exists.intro; apply Exists.intro; apply Exists.intro; apply Exists.intro; apply And.intro; walk_at "kq cl") | (apply Exists.intro; apply Exists.intro; apply Exists.intro; apply Exists.intro; apply Exists.intro; apply And.intro; walk_at "kq cl") | (apply Exists.intro; apply Exists.intro; apply Exists.intro; apply Exists.intro; apply Exists.intro; apply Exists.intro; apply And.intro; walk_at "kq cl") | (apply Exists.intro; apply Exists.intro; apply Exists.intro; apply Exists.intro; apply Exists.intro; apply Exists.intro; apply Exists.intro; apply And.intro; walk_at "kq cl") | (apply Exists.intro; apply Exists.intro; apply Exists.intro; apply Exists.intro; apply Exists.intro; apply Exists.intro; apply Exists.intro; apply Exists.intro; apply And.intro; walk_at "kq cl") | (apply Exists.intro; apply Exists.intro; apply Exists.intro; apply Exists.intro; apply Exists.intro; apply Exists.intro; apply Exists.intro; apply Exists.intro; apply Exists.intro; apply And.intro; walk_at "kq cl") | refine Or.inl ⟨_, rfl, ?_⟩ | refine Or.inr ⟨_, rfl, ?_⟩ | refine Or.inr ⟨SqT.of (by walk_at "kq hp"), SqT.of (by walk_at "kq hp"), ?_⟩ | refine Or.inl ⟨SqL.of (by walk_at "kq hp"), SqL.of (by walk_at "kq hp"), ?_⟩ | refine Or.inl ⟨SqL.of (by walk_at "kq hp"), ?_⟩ | refine Or.inr ⟨SqT.of (by walk_at "kq hp"), ?_⟩ | refine ifT rfl ?_ | refine ifF rfl ?_))
/-! ### what the law draws -/
theorem tk_kp {H H' : Hp} {h l : Addr} (ho : HandOk H h l) (k : Kp (Nh h) H H') : Tk H H' := fun a xs e => by
  obtain ⟨_, _, _, _, _, e1, _⟩ := ho
  refine k a _ e fun z => ?_
  have z' : a = h := z
  rw [z', e1] at e
  cases e
def spDrawnP : Sp := fun vs H Q _ => ∃ h l : Addr, vs = [.ref h] ∧ HandOk H h l ∧ ∀ (a : Addr) (ns : List Int) (H' : Hp), SmS ns → 0 < ns.length → H' a = some (.tup (ns.map V.int)) → HandOk H' h l → Kp (Nh h) H H' → Q (.ref a) H'
def spDTask : Sp := fun vs H Q _ => ∃ (h l lw r : Addr) (m : Int) (rs : List V), vs = [.ref h, .ref lw] ∧ HandOk H h l ∧ H lw = some (.tup [.int m, .ref r]) ∧ H r = some (.tup rs) ∧ 0 < rs.length ∧ rs.length ≤ 1000 ∧
  ∀ (a : Addr) (t : Int × Int) (H' : Hp), 0 ≤ t.1 → t.1 < rs.length → 0 ≤ t.2 → t.2 < 4 → H' a = some (.tup [.int t.1, .int t.2]) → HandOk H' h l → Kp (Nh h) H H' → Q (.ref a) H'
/-- a drawn word -/
def SmW : Wd → Prop
  | .task k f ns => f < 4 ∧ SmS ns
  | .share ns => SmS ns
  | _ => True
def spDWord : Sp := fun vs H Q _ => ∃ (h l lw r : Addr) (m : Int) (R : Rules) (rs : List V), vs = [.ref h, .ref lw] ∧ HandOk H h l ∧ H lw = some (.tup [.int m, .ref r]) ∧ H r = some (.tup rs) ∧ rs.length = R.length ∧ 0 < R.length ∧ R.length ≤ 1000 ∧
  ∀ (a : Addr) (wd : Wd) (H' : Hp), OkWd R wd → SmW wd → WdAt H' a wd → HandOk H' h l → Kp (Nh h) H H' → Q (.ref a) H'
section
variable {P : Program} {w : World} {K : PySem.W.Frag} {mg : Str → Option Value} {base : Heap}
theorem d_law_drawn_share (B : Bi mg) (F : FunAt K mg "_law_drawn_share" s_law_drawn_share) (D_law_draw : Has P w K mg base 1 "_law_draw" ["hand", "many"] spTake) : Has P w K mg base 2 "_law_drawn_share" ["hand"] spDrawnP := by
  refine mk_has F sc_law_drawn_share (fun _ _ _ _ _ _ us hl => match us, hl with | [_], _ => rfl) (fun vs H Q E h => ?_) fun f cdv A outer s H vs Q E hr h => ?_
  · obtain ⟨h, l, rfl, _⟩ := h
    rfl
  obtain ⟨h, l, rfl, ho, k⟩ := h
  refine ⟨_, (pss_cons (ps_if (pt_cmpR op_eq (pe_h D_law_draw (hr.mono (by decide)) rfl (pa_cons (pv 0) (pa_cons pe_int pa_nil))) pe_int (nomark _))
    (pss_one (ps_ret (pe_tup (pa_cons pe_int pa_nil))))
    pss_nil)
    (pss_cons (ps_set (i := 1) sc_law_drawn_share.nd rfl (Or.inr rfl) (pe_ix ix_list (pe_lst (pa_cons pe_int (pa_cons pe_int (pa_cons pe_int (pa_cons pe_int pa_nil))))) (pe_h D_law_draw (hr.mono (by decide)) rfl (pa_cons (pv 0) (pa_cons pe_int pa_nil))) (fun _ _ => rfl)))
    (pss_cons (ps_set (i := 2) sc_law_drawn_share.nd rfl (Or.inr rfl) (pe_lc (own := [("turn", 3)]) (g := gName 3) (tt := tYes) (te := (tOp (rI0 fun i j => .int (i + j)) (tC (.int 1)) (tCall spTake [] E0 (tCons (tVar 0) (tCons (tVar 1) tNil))))) rfl sc_law_drawn_share.nd (pi_range1 rfl B.range (pa_cons (pe_op op_add pe_int (pe_h D_law_draw (hr.mono (by decide)) rfl (pa_cons (pv 0) (pa_cons pe_int pa_nil)))) pa_nil)) (blkOk_by (own := [("turn", 3)]) (N := ["hand", "most", "found", "turn", "place"]) (sc := defScope s_law_drawn_share) (by decide +kernel)) (fun _ _ _ _ _ => (pg_name (i := 3) sc_law_drawn_share.nd rfl (Or.inl rfl))) (fun _ _ _ _ _ => pts_nil) (fun _ _ _ _ _ => (pe_op op_add pe_int (pe_h D_law_draw (hr.mono (by decide)) rfl (pa_cons (pv 0) (pa_cons (pv 1) pa_nil)))))))
    (pss_one (ps_ret (pe_callTy call_tuple_of rfl B.tuple (by decide +kernel) (pa_cons (pe_lc (own := [("place", 4)]) (g := gName 4) (tt := (tTest (tOp (rIn K false) (tVar 4) (tVar 2)))) (te := (tVar 4)) rfl sc_law_drawn_share.nd (pi_range2 rfl B.range (pa_cons pe_int (pa_cons (pe_op op_add (pv 1) pe_int) pa_nil))) (blkOk_by (own := [("place", 4)]) (N := ["hand", "most", "found", "turn", "place"]) (sc := defScope s_law_drawn_share) (by decide +kernel)) (fun _ _ _ _ _ => (pg_name (i := 4) sc_law_drawn_share.nd rfl (Or.inl rfl))) (fun _ _ _ _ _ => (pts_one (pt_cmpR op_in_seq (pv 4) (pv 2) (by rfl)))) (fun _ _ _ _ _ => (pv 4))) pa_nil))))))), ?_⟩
  trivial
  intro r H1 r0 r1 ho1 hk1
  have k1 : Kp (Nh h) H H1 := Kp.hand hk1
  trivial
  refine ite2 (fun c => ?_) (fun c => ?_)
  · trivial
    intro p np
    exact k p [0] _ ⟨sh_one, by simp, by simp⟩ (by simp) upd_same (ho1.new np) (k1.hn np)
  trivial
  intro p np
  have hop := ho1.new (o := .lst [.int 4, .int 4, .int 12, .int 200]) np
  have kp1 := k1.hn (o := .lst [.int 4, .int 4, .int 12, .int 200]) np
  have nph := ho1.ne np
  trivial
  intro r2 H2 r20 r21 ho2 hk2
  have ep : H2 p = some (.lst [.int 4, .int 4, .int 12, .int 200]) := (hk2 p nph).trans upd_same
  obtain ⟨m, hm, m1, m2⟩ : ∃ m : Nat, atI [V.int 4, .int 4, .int 12, .int 200] r2 = some (.int (m : Int)) ∧ 1 ≤ m ∧ m ≤ 200 := by
    rcases (show r2 = 0 ∨ r2 = 1 ∨ r2 = 2 ∨ r2 = 3 by omega) with rfl | rfl | rfl | rfl
    · exact ⟨4, rfl, by decide, by decide⟩
    · exact ⟨4, rfl, by decide, by decide⟩
    · exact ⟨12, rfl, by decide, by decide⟩
    · exact ⟨200, rfl, by decide, by decide⟩
  have k2 : Kp (Nh h) H H2 := kp1.trans (Kp.hand hk2)
  trivial
  intro r3 H3 r30 r31 ho3 hk3
  have k3 : Kp (Nh h) H H3 := k2.trans (Kp.hand hk3)
  trivial
  intro D nD
  have nDh := ho3.ne nD
  have nDl := ho3.ne0 nD
  have kD : ∀ {H' : Hp} {o : HO}, Kp (Nh h) H3 H' → Kp (Nh h) H3 (upd H' D o) := fun k a o e n => by
    rw [upd_ne (ne_of_none e nD)]
    exact k a o e n
  refine lc_it walk_range (fun i H' => HandOk H' h l ∧ Kp (Nh h) H3 H' ∧ ∃ fs : List Int, H' D = some (.lst (fs.map V.int)) ∧ fs.length = i ∧ ∀ q ∈ fs, 1 ≤ q ∧ q ≤ m) ⟨ho3.new nD, kD Kp.refl, [], upd_same, rfl, by simp⟩ (fun _ _ _ _ => trivial) (fun i x H4 H5 hi q y => ?_) fun H4 q => ?_
  · obtain ⟨ho4, k4, fs, eD, hl, hq⟩ := q
    obtain ⟨rfl, rfl⟩ := y
    refine ⟨rfl, tYes_ok' ?_⟩
    rw [if_pos rfl]
    refine ⟨_, rfl, _, rfl, h, l, _, rfl, ho4, by omega, by omega, ?_⟩
    intro r5 H5 r50 r51 ho5 hk5
    trivial
    have eD5 : H5 D = some (.lst (fs.map V.int)) := (hk5 D nDh).trans eD
    refine ⟨_, eD5, by rw [sizeLine_eq, List.length_map]; omega, ho5.upd' nDh nDl, kD (k4.trans (Kp.hand hk5)), fs ++ [1 + r5], by rw [upd_same, List.map_append]; rfl, by simp [hl], fun z hz => ?_⟩
    rcases List.mem_append.mp hz with y | y
    · exact hq z y
    · have : z = 1 + r5 := by simpa using y
      omega
  · obtain ⟨ho4, k4, fs, eD, hl, hq⟩ := q
    have hf : fs.length ≤ 5 := by omega
    trivial
    intro D2 nD2
    have nDD : D ≠ D2 := ne_of_none eD nD2
    refine lc_acc walk_range (fun i => (places fs i).map V.int) (fun _ _ => True) (fun _ => False) (fun z => z) nD2 (fun i hi => ?_) (by simp [places]) trivial (fun _ _ _ _ _ => trivial) (fun _ _ _ _ _ => trivial) (fun i x H6 H7 Pn hi k6 e6 _ y fin no => ?_) fun H6 k6 e6 _ => ?_
    · have := places_len fs i
      rw [sizeLine_eq, List.length_map]
      omega
    · obtain ⟨rfl, rfl⟩ := y
      have eD6 := k6 _ _ eD (fun z => z)
      trivial
      refine ⟨flat_ints, ?_⟩
      rw [if_neg Bool.false_ne_true]
      have ps := places_succ (fs := fs) (i := i)
      rw [inV_int]
      cases e9 : decide ((1 : Int) + (i : Int) ∈ fs) with
      | true =>
        rw [e9, if_pos rfl] at ps
        trivial
        exact fin _ _ (by rw [ps, List.map_append]; rfl) Kp.refl (by exact True.intro)
      | false =>
        rw [e9, if_neg Bool.false_ne_true, List.append_nil] at ps
        trivial
        exact no _ (by rw [ps]) Kp.refl (by exact True.intro)
    · trivial
      intro p2 n2
      have hs := places_sm (i := ((m : Int) + 1 - 1).toNat) (by omega) hf
      have hpos : 0 < (places fs ((m : Int) + 1 - 1).toNat).length := by
        obtain ⟨q, hq1⟩ : ∃ q, q ∈ fs := List.exists_mem_of_length_pos (by omega)
        obtain ⟨a1, a2⟩ := hq q hq1
        refine List.length_pos_of_mem (a := q) (List.mem_filter.mpr ⟨List.mem_map.mpr ⟨(q - 1).toNat, List.mem_range.mpr (by omega), by omega⟩, decide_eq_true hq1⟩)
      have kk : Kp (Nh h) H H4 := k3.trans k4
      have k46 : Kp (Nh h) H4 H6 := fun a o e _ => k6 a o e fun z => z
      have ho6 : HandOk H6 h l := ho4.same (same_kpF k6)
      exact k p2 _ _ hs hpos upd_same (ho6.new n2) ((kk.trans k46).hn n2)
theorem d_law_task2 (B : Bi mg) (F : FunAt K mg "_law_task" s_law_task) (D_law_draw : Has P w K mg base 1 "_law_draw" ["hand", "many"] spTake) : Has P w K mg base 2 "_law_task" ["hand", "works"] spDTask := by
  refine mk_has F sc_law_task (fun _ _ _ _ _ _ us hl => match us, hl with | [_, _], _ => rfl) (fun vs H Q E h => ?_) fun f cdv A outer s H vs Q E hr h => ?_
  · obtain ⟨h, l, lw, r, m, rs, rfl, _⟩ := h
    rfl
  obtain ⟨h, l, lw, r, m, rs, rfl, ho, ew, er, r0, r1, k⟩ := h
  refine ⟨_, (pss_one (ps_ret (pe_tup (pa_cons (pe_h D_law_draw (hr.mono (by decide)) rfl (pa_cons (pv 0) (pa_cons (pe_callB call_len_seq rfl B.len PySem.boot_len (pa_cons (pe_ix ix_tup (pv 1) pe_int (fun _ _ => rfl)) pa_nil)) pa_nil))) (pa_cons (pe_ix ix_list (pe_lst (pa_cons pe_int (pa_cons pe_int (pa_cons pe_int (pa_cons pe_int (pa_cons pe_int (pa_cons pe_int pa_nil))))))) (pe_h D_law_draw (hr.mono (by decide)) rfl (pa_cons (pv 0) (pa_cons pe_int pa_nil))) (fun _ _ => rfl)) pa_nil))))), ?_⟩
  have w1 : atI [V.int m, .ref r] 1 = some (.ref r) := atI_nat rfl
  trivial
  intro i H1 i0 i1 ho1 hk1
  have k1 : Kp (Nh h) H H1 := Kp.hand hk1
  trivial
  intro p np
  have hop := ho1.new (o := .lst [.int 0, .int 1, .int 1, .int 2, .int 2, .int 3]) np
  have kp1 := k1.hn (o := .lst [.int 0, .int 1, .int 1, .int 2, .int 2, .int 3]) np
  have nph := ho1.ne np
  trivial
  intro j0 H2 j00 j01 ho2 hk2
  have ep : H2 p = some (.lst [.int 0, .int 1, .int 1, .int 2, .int 2, .int 3]) := (hk2 p nph).trans upd_same
  have k2 : Kp (Nh h) H H2 := kp1.trans (Kp.hand hk2)
  obtain ⟨j, hj, q0, q1⟩ : ∃ j : Int, atI [V.int 0, .int 1, .int 1, .int 2, .int 2, .int 3] j0 = some (.int j) ∧ 0 ≤ j ∧ j < 4 := by
    rcases (show j0 = 0 ∨ j0 = 1 ∨ j0 = 2 ∨ j0 = 3 ∨ j0 = 4 ∨ j0 = 5 by omega) with rfl | rfl | rfl | rfl | rfl | rfl <;> exact ⟨_, rfl, by decide, by decide⟩
  trivial
  intro T nT
  exact k T (i, j) _ i0 i1 q0 q1 upd_same (ho2.new nT) (k2.hn nT)
theorem d_law_drawn_word (B : Bi mg) (F : FunAt K mg "_law_drawn_word" s_law_drawn_word) (D_law_draw : Has P w K mg base 1 "_law_draw" ["hand", "many"] spTake) (D_law_task : Has P w K mg base 2 "_law_task" ["hand", "works"] spDTask) (D_law_drawn_share : Has P w K mg base 2 "_law_drawn_share" ["hand"] spDrawnP) : Has P w K mg base 3 "_law_drawn_word" ["hand", "works"] spDWord := by
  refine mk_has F sc_law_drawn_word (fun _ _ _ _ _ _ us hl => match us, hl with | [_, _], _ => rfl) (fun vs H Q E h => ?_) fun f cdv A outer s H vs Q E hr h => ?_
  · obtain ⟨h, l, lw, r, m, R, rs, rfl, _⟩ := h
    rfl
  obtain ⟨h, l, lw, r, m, R, rs, rfl, ho, ew, er, lr, r0, r1, k⟩ := h
  refine ⟨_, (pss_cons (ps_set (i := 2) sc_law_drawn_word.nd rfl (Or.inl rfl) (pe_h D_law_draw (hr.mono (by decide)) rfl (pa_cons (pv 0) (pa_cons pe_int pa_nil))))
    (pss_cons (ps_if (pt_cmpR op_lt (pv 2) pe_int (nomark _))
    (pss_one (ps_ret (pe_op op_catA (pe_op op_catA (pe_tup (pa_cons pe_str pa_nil)) (pe_h D_law_task (hr.mono (by decide)) rfl (pa_cons (pv 0) (pa_cons (pv 1) pa_nil)))) (pe_tup (pa_cons (pe_h D_law_drawn_share (hr.mono (by decide)) rfl (pa_cons (pv 0) pa_nil)) pa_nil)))))
    pss_nil)
    (pss_cons (ps_if (pt_cmpR op_eq (pv 2) pe_int (nomark _))
    (pss_one (ps_ret (pe_tup (pa_cons pe_str pa_nil))))
    pss_nil)
    (pss_cons (ps_if (pt_cmpR op_eq (pv 2) pe_int (nomark _))
    (pss_one (ps_ret (pe_tup (pa_cons pe_str (pa_cons (pe_h D_law_draw (hr.mono (by decide)) rfl (pa_cons (pv 0) (pa_cons pe_int pa_nil))) (pa_cons (pe_h D_law_draw (hr.mono (by decide)) rfl (pa_cons (pv 0) (pa_cons pe_int pa_nil))) (pa_cons (pe_h D_law_draw (hr.mono (by decide)) rfl (pa_cons (pv 0) (pa_cons pe_int pa_nil))) pa_nil)))))))
    pss_nil)
    (pss_cons (ps_if (pt_cmpR op_eq (pv 2) pe_int (nomark _))
    (pss_one (ps_ret (pe_tup (pa_cons pe_str (pa_cons (pe_h D_law_drawn_share (hr.mono (by decide)) rfl (pa_cons (pv 0) pa_nil)) pa_nil)))))
    pss_nil)
    (pss_one (ps_ret (pe_tup (pa_cons pe_str (pa_cons (pe_h D_law_draw (hr.mono (by decide)) rfl (pa_cons (pv 0) (pa_cons pe_int pa_nil))) pa_nil)))))))))), ?_⟩
  trivial
  intro kd H1 kd0 kd1 ho1 hk1
  have k1 : Kp (Nh h) H H1 := Kp.hand hk1
  have ew1 := tk_kp ho k1 _ _ ew
  have er1 := tk_kp ho k1 _ _ er
  trivial
  refine ite2 (fun c => ?_) (fun c => ?_)
  · trivial
    intro q1 nq1
    have hoq := ho1.new (o := .tup [.str "task"]) nq1
    have k2 := k1.hn (o := .tup [.str "task"]) nq1
    have eq1 : upd H1 q1 (.tup [.str "task"]) q1 = some (.tup [.str "task"]) := upd_same
    have ew2 := tk_kp ho k2 _ _ ew
    have er2 := tk_kp ho k2 _ _ er
    generalize upd H1 q1 (.tup [.str "task"]) = H2 at *
    have rs0 : 0 < rs.length := by omega
    have rs1 : rs.length ≤ 1000 := by omega
    trivial
    intro a t H3 t0 t1 t2 t3 ea ho3 kk3
    have eq3 := tk_kp hoq kk3 _ _ eq1
    have k3 := k2.trans kk3
    refine cat_go eq3 ea (by simp) fun q2 H4 s4 e4 => ?_
    have ho4 := ho3.same s4
    have k4 : Kp (Nh h) H H4 := k3.trans (Kp.of_same s4)
    trivial
    intro a5 ns H5 sm pos ea5 ho5 kk5
    have e45 := tk_kp ho4 kk5 _ _ e4
    have k5 := k4.trans kk5
    trivial
    intro q6 nq6
    have ho6 := ho5.new (o := .tup [.ref a5]) nq6
    have k6 := k5.hn (o := .tup [.ref a5]) nq6
    have s6 := same_new0 (o := .tup [.ref a5]) nq6
    have eq6 : upd H5 q6 (.tup [.ref a5]) q6 = some (.tup [.ref a5]) := upd_same
    generalize upd H5 q6 (.tup [.ref a5]) = H6 at *
    refine cat_go (s6 _ _ e45) eq6 (by simp) fun q7 H7 s7 e7 => ?_
    exact k q7 (.task t.1 t.2 ns) H7 ⟨t0, by omega, t2, by omega, sm.sh, pos, by have := sm.l; omega⟩ ⟨t3, sm⟩ ⟨a5, e7, s7 _ _ (s6 _ _ ea5)⟩ (ho6.same s7) (k6.trans (Kp.of_same s7))
  trivial
  refine ite2 (fun c => ?_) (fun c => ?_)
  · trivial
    intro q nq
    exact k q .ans _ True.intro True.intro upd_same (ho1.new nq) (k1.hn nq)
  trivial
  refine ite2 (fun c => ?_) (fun c => ?_)
  · trivial
    intro x H2 x0 x1 ho2 hk2
    have k2 := k1.trans (Kp.hand hk2)
    trivial
    intro y H3 y0 y1 ho3 hk3
    have k3 := k2.trans (Kp.hand hk3)
    trivial
    intro z H4 z0 z1 ho4 hk4
    have k4 := k3.trans (Kp.hand hk4)
    trivial
    intro q nq
    exact k q (.sign x y z) _ ⟨x0, y0, z0, z1⟩ True.intro upd_same (ho4.new nq) (k4.hn nq)
  trivial
  refine ite2 (fun c => ?_) (fun c => ?_)
  · trivial
    intro a5 ns H5 sm pos ea5 ho5 kk5
    trivial
    intro q nq
    exact k q (.share ns) _ ⟨sm.sh, pos, by have := sm.l; omega⟩ sm ⟨a5, upd_same, same_new0 nq _ _ ea5⟩ (ho5.new nq) ((k1.trans kk5).hn nq)
  trivial
  intro x H2 x0 x1 ho2 hk2
  have k2 := k1.trans (Kp.hand hk2)
  trivial
  intro q nq
  exact k q (.mark x) _ ⟨x0, x1⟩ True.intro upd_same (ho2.new nq) (k2.hn nq)
end
end KQ
set_option Elab.async false
set_option maxRecDepth 100000
set_option maxHeartbeats 4000000
namespace KQ
open PySem PySem.Spec PyProof.Rows L2
local macro_rules | `(tactic| walk_at "kq hp") => `(tactic| (first | assumption | exact upd_same | (rw [upd_ne (by first | assumption | exact Ne.symm (by assumption))]; first | assumption | exact upd_same | (rw [upd_ne (by first | assumption | exact Ne.symm (by assumption))]; first | assumption | exact upd_same))))
local macro_rules | `(tactic| walk_at "kq do") => `(tactic| (first | decide | omega))
local macro_rules | `(tactic| walk_at "kq cl") => `(tactic| focus (first | rfl | assumption | exact upd_same | exact SqL.of (by walk_at "kq hp") | exact SqT.of (by walk_at "kq hp") | exact Or.inl (SqL.of (by walk_at "kq hp")) | exact Or.inr (SqT.of (by walk_at "kq hp")) | exact Or.inl ⟨rfl, _, SqL.of (by walk_at "kq hp")⟩ | walk_at "kq hp" | decide | exact Nat.le_of_ble_eq_true rfl | omega | (show ∃ xs, SqL _ _ _ xs; exact ⟨_, SqL.of (by walk_at "kq hp")⟩) | (show ∃ xs, SqT _ _ _ xs; exact ⟨_, SqT.of (by walk_at "kq hp")⟩) | exact DGet.k (k := Sum.inl _) (by walk_at "kq hp") | (show V.int _ = kV (Sum.inl _); rfl) | (show ∃ z, V.str _ = V.str z; exact ⟨_, rfl⟩) | exact Or.inl ⟨by walk_at "kq do", by walk_at "kq do"⟩ | exact Or.inr ⟨by walk_at "kq do", by walk_at "kq do"⟩ | exact ⟨by walk_at "kq do", by walk_at "kq do"⟩ | exact ⟨by decide, by decide, by decide⟩ | exact L2.ClsV.ty _ | exact Dt.ty (by assumption) | exact Dt.kint (by assumption) | exact Dt.kbool (by assumption) | exact Dt.ktuple (by assumption) | exact Dt.klist (by assumption) | exact Dt.kstr (by assumption)))
local macro_rules | `(tactic| trivial) => `(tactic| repeat (first | refine sl_go (by walk_at "kq hp") ?_ | (unfold tNoPart; refine sl_go (by walk_at "kq hp") ?_) | refine cat_go (by walk_at "kq hp") (by walk_at "kq hp") ?_ ?_ | (apply And.intro; walk_at "kq cl") | (apply Exists.intro; apply And.intro; walk_at "kq cl") | (apply Exists.intro; apply Exists.intro; apply And.intro; walk_at "kq cl") | (apply Exists.intro; apply Exists.intro; apply Exists.intro; apply And.intro; walk_at "kq cl") | (apply Exists.intro; apply Exists.intro; apply Exists.intro; apply Exists.intro; apply And.intro; walk_at "kq cl") | (apply Exists.intro; apply Exists.intro; apply Exists.intro; apply Exists.intro; apply Exists.intro; apply And.intro; walk_at "kq cl") | (apply Exists.intro; apply Exists.intro; apply Exists.intro; apply Exists.intro; apply Exists.intro; apply Exists.intro; apply And.intro; walk_at "kq cl") | (apply Exists.intro; apply Exists.intro; apply Exists.intro; apply Exists.intro; apply Exists.intro; apply Exists.intro; apply Exists.intro; apply And.intro; walk_at "kq cl") | (apply Exists.intro; apply Exists.intro; apply Exists.intro; apply Exists.intro; apply Exists.intro; apply Exists.intro; apply Exists.intro; apply Exists.intro; apply And.intro; walk_at "kq cl") | (apply Exists.intro; apply Exists.intro; apply Exists.intro; apply Exists.intro; apply Exists.intro; apply Exists.intro; apply Exists.intro; apply Exists.intro; apply Exists.intro; apply And.intro; walk_at "kq cl") | refine Or.inl ⟨_, rfl, ?_⟩ | refine Or.inr ⟨_, rfl, ?_⟩ | refine Or.inr ⟨SqT.of (by walk_at "kq hp"), SqT.of (by walk_at "kq hp"), ?_⟩ | refine Or.inl ⟨SqL.of (by walk_at "kq hp"), SqL.of (by walk_at "kq hp"), ?_⟩ | refine Or.inl ⟨SqL.of (by walk_at "kq hp"), ?_⟩ | refine Or.inr ⟨SqT.of (by walk_at "kq hp"), ?_⟩ | refine ifT rfl ?_ | refine ifF rfl ?_))
def spDRules : Sp := fun vs H Q _ => ∃ h l : Addr, vs = [.ref h] ∧ HandOk H h l ∧ ∀ (m : Int) (R : Rules) (lw r : Addr) (H' : Hp), HandOk H' h l → Kp (Nh h) H H' → H' lw = some (.tup [.int m, .ref r]) → Tr H' (.ref r) (rulesD R) → OkWorks m R → (∀ ps ∈ R, ps.length ≤ 3) → Q (.ref lw) H'
section
variable {P : Program} {w : World} {K : PySem.W.Frag} {mg : Str → Option Value} {base : Heap}
theorem d_law_rules2 (B : Bi mg) (F : FunAt K mg "_law_rules" s_law_rules) (D_law_draw : Has P w K mg base 1 "_law_draw" ["hand", "many"] spTake) : Has P w K mg base 2 "_law_rules" ["hand"] spDRules := by
  refine mk_has F sc_law_rules (fun _ _ _ _ _ _ us hl => match us, hl with | [_], _ => rfl) (fun vs H Q E h => ?_) fun f cdv A outer s H vs Q E hr h => ?_
  · obtain ⟨h, l, rfl, _⟩ := h
    rfl
  obtain ⟨h, l, rfl, ho, k⟩ := h
  refine ⟨_, (pss_cons (ps_set (i := 1) sc_law_rules.nd rfl (Or.inr rfl) (pe_ix ix_list (pe_lst (pa_cons pe_int (pa_cons pe_int (pa_cons pe_int (pa_cons pe_int (pa_cons pe_int (pa_cons pe_int (pa_cons pe_int pa_nil)))))))) (pe_h D_law_draw (hr.mono (by decide)) rfl (pa_cons (pv 0) (pa_cons pe_int pa_nil))) (fun _ _ => rfl)))
    (pss_cons (ps_set (i := 2) sc_law_rules.nd rfl (Or.inr rfl) (pe_op op_add pe_int (pe_h D_law_draw (hr.mono (by decide)) rfl (pa_cons (pv 0) (pa_cons pe_int pa_nil)))))
    (pss_cons (ps_set (i := 3) sc_law_rules.nd rfl (Or.inl rfl) (pe_lst pa_nil))
    (pss_cons (ps_for PassesOwn.never rfl (pi_range1 rfl B.range (pa_cons (pv 2) pa_nil)) (pg_name (i := 4) sc_law_rules.nd rfl (Or.inl rfl))
    (pss_cons (ps_set (i := 5) sc_law_rules.nd rfl (Or.inl rfl) (pe_ix ix_list (pe_lst (pa_cons pe_int (pa_cons pe_int (pa_cons pe_int (pa_cons pe_int (pa_cons pe_int (pa_cons pe_int pa_nil))))))) (pe_h D_law_draw (hr.mono (by decide)) rfl (pa_cons (pv 0) (pa_cons pe_int pa_nil))) (fun _ _ => rfl)))
    (pss_one (ps_expr (pe_bm PySem.F.plainAttrs_list PySem.F.slot_list_append PySem.F.type_list_append mt_append (pv 3) (pa_cons (pe_callTy call_tuple_of rfl B.tuple (by decide +kernel) (pa_cons (pe_lc (own := [("turn", 6)]) (g := gName 6) (tt := tYes) (te := (tTup (tCons (tCall spTake [] E0 (tCons (tVar 0) (tCons (tVar 1) tNil))) (tCons (tCall spTake [] E0 (tCons (tVar 0) (tCons (tVar 2) tNil))) tNil)))) rfl sc_law_rules.nd (pi_range1 rfl B.range (pa_cons (pv 5) pa_nil)) (blkOk_by (own := [("turn", 6)]) (N := ["hand", "many", "kinds", "found", "kind", "pairs", "turn"]) (sc := defScope s_law_rules) (by decide +kernel)) (fun _ _ _ _ _ => (pg_name (i := 6) sc_law_rules.nd rfl (Or.inl rfl))) (fun _ _ _ _ _ => pts_nil) (fun _ _ _ _ _ => (pe_tup (pa_cons (pe_h D_law_draw (hr.mono (by decide)) rfl (pa_cons (pv 0) (pa_cons (pv 1) pa_nil))) (pa_cons (pe_h D_law_draw (hr.mono (by decide)) rfl (pa_cons (pv 0) (pa_cons (pv 2) pa_nil))) pa_nil))))) pa_nil)) pa_nil))))))
    (pss_one (ps_ret (pe_tup (pa_cons (pv 1) (pa_cons (pe_callTy call_tuple_of rfl B.tuple (by decide +kernel) (pa_cons (pv 3) pa_nil)) pa_nil))))))))), ?_⟩
  trivial
  intro p1 np1
  have hop1 := ho.new (o := .lst [.int 1, .int 2, .int 2, .int 3, .int 3, .int 4, .int 6]) np1
  have kp1 : Kp (Nh h) H (upd H p1 (.lst [.int 1, .int 2, .int 2, .int 3, .int 3, .int 4, .int 6])) := Kp.new np1
  have np1h := ho.ne np1
  trivial
  intro r1 H1 r10 r11 ho1 hk1
  have ep1 : H1 p1 = some (.lst [.int 1, .int 2, .int 2, .int 3, .int 3, .int 4, .int 6]) := (hk1 p1 np1h).trans upd_same
  have k1 : Kp (Nh h) H H1 := kp1.trans (Kp.hand hk1)
  obtain ⟨m, hm, m1, m6⟩ : ∃ m : Int, atI [V.int 1, .int 2, .int 2, .int 3, .int 3, .int 4, .int 6] r1 = some (.int m) ∧ 1 ≤ m ∧ m ≤ 6 := by
    rcases (show r1 = 0 ∨ r1 = 1 ∨ r1 = 2 ∨ r1 = 3 ∨ r1 = 4 ∨ r1 = 5 ∨ r1 = 6 by omega) with rfl | rfl | rfl | rfl | rfl | rfl | rfl <;> exact ⟨_, rfl, by decide, by decide⟩
  trivial
  intro r2 H2 r20 r21 ho2 hk2
  have k2 : Kp (Nh h) H H2 := k1.trans (Kp.hand hk2)
  trivial
  intro L nL
  have nLh := ho2.ne nL
  have nLl := ho2.ne0 nL
  have hoL := ho2.new (o := .lst []) nL
  have kL : Kp (Nh h) H (upd H2 L (.lst [])) := k2.hn nL
  have eL0 : upd H2 L (.lst []) L = some (.lst []) := upd_same
  have nL0 : H L = none := by
    cases e : H L with
    | none => rfl
    | some o => rw [k2 _ _ e nLh] at nL; cases nL
  generalize upd H2 L (.lst []) = H3 at *
  have hm0 : 0 < m := by omega
  have hm1 : m < 1073741824 := by omega
  have hn0 : 0 < 1 + r2 := by omega
  have hn1 : 1 + r2 < 1073741824 := by omega
  trivial
  refine for_it walk_range (fun i σ H' => ∃ v4 v5 v6 acc, ∃ R : Rules, σ = [some (.ref h), some (.int m), some (.int (1 + r2)), some (.ref L), v4, v5, v6] ∧ HandOk H' h l ∧ Kp (Nh h) H H' ∧ H' L = some (.lst acc) ∧ TrAll H' acc (R.map ruleD) ∧ R.length = i ∧ ∀ ps ∈ R, OkRule m (1 + r2) 3 ps) ⟨_, _, _, [], [], rfl, hoL, kL, eL0, .nil, rfl, fun _ z => nomatch z⟩ (fun _ _ _ _ _ => True.intro) (fun i x σ H4 H5 hi q y => ?_) fun σ H4 q => ?_
  · obtain ⟨v4, v5, v6, acc, R, rfl, ho4, k4, eL, tA, lR, hR⟩ := q
    obtain ⟨rfl, rfl⟩ := y
    have hi3 : i < 3 := by omega
    have la : acc.length = i := by have := tA.len; rw [List.length_map, lR] at this; exact this
    trivial
    intro p np
    have hop := ho4.new (o := .lst [.int 0, .int 1, .int 1, .int 2, .int 2, .int 3]) np
    have kp1 := k4.hn (o := .lst [.int 0, .int 1, .int 1, .int 2, .int 2, .int 3]) np
    have nph := ho4.ne np
    have sp := same_new0 (o := .lst [.int 0, .int 1, .int 1, .int 2, .int 2, .int 3]) np
    have ep0 : upd H5 p (.lst [.int 0, .int 1, .int 1, .int 2, .int 2, .int 3]) p = some (.lst [.int 0, .int 1, .int 1, .int 2, .int 2, .int 3]) := upd_same
    have eLp := sp _ _ eL
    have tAp := tA.tk (tk_of sp)
    generalize upd H5 p (.lst [.int 0, .int 1, .int 1, .int 2, .int 2, .int 3]) = H6 at *
    trivial
    intro j0 H7 j00 j01 ho7 hk7
    have ep : H7 p = some (.lst [.int 0, .int 1, .int 1, .int 2, .int 2, .int 3]) := (hk7 p nph).trans ep0
    have eL7 := (hk7 L nLh).trans eLp
    have k7 : Kp (Nh h) H H7 := kp1.trans (Kp.hand hk7)
    have tA7 := tAp.tk (tk_kp hop (Kp.hand hk7))
    obtain ⟨j, hj, q0, q1⟩ : ∃ j : Int, atI [V.int 0, .int 1, .int 1, .int 2, .int 2, .int 3] j0 = some (.int j) ∧ 0 ≤ j ∧ j < 4 := by
      rcases (show j0 = 0 ∨ j0 = 1 ∨ j0 = 2 ∨ j0 = 3 ∨ j0 = 4 ∨ j0 = 5 by omega) with rfl | rfl | rfl | rfl | rfl | rfl <;> exact ⟨_, rfl, by decide, by decide⟩
    trivial
    intro D nD
    have nDh := ho7.ne nD
    have nDl := ho7.ne0 nD
    refine lc_it walk_range (fun i' H' => HandOk H' h l ∧ Kp (Nh h) H7 H' ∧ ∃ (ys : List V) (ps : List (Int × Int)), H' D = some (.lst ys) ∧ TrAll H' ys (ps.map pairD) ∧ ys.length = i' ∧ ps.length = i' ∧ ∀ p ∈ ps, (0 ≤ p.1 ∧ p.1 < m) ∧ 0 ≤ p.2 ∧ p.2 < 1 + r2) ⟨ho7.new nD, Kp.new nD, [], [], upd_same, .nil, rfl, rfl, fun _ z => nomatch z⟩ (fun _ _ _ _ => trivial) (fun i' x H8 H9 hi' q y => ?_) fun H8 q => ?_
    · obtain ⟨ho8, k8, ys, ps, eD, tD, ly, lp, hp⟩ := q
      obtain ⟨rfl, rfl⟩ := y
      refine ⟨rfl, tYes_ok ?_⟩
      rw [if_pos rfl]
      trivial
      intro a Ha a0 a1 hoa hka
      trivial
      intro b Hb b0 b1 hob hkb
      have kb : Kp (Nh h) H9 Hb := (Kp.hand hka).trans (Kp.hand hkb)
      have eDb := kb _ _ eD nDh
      have tDb := tD.tk (tk_kp ho8 kb)
      trivial
      intro T nT
      have sT := same_new0 (o := .tup [.int a, .int b]) nT
      have eT : upd Hb T (.tup [.int a, .int b]) T = some (.tup [.int a, .int b]) := upd_same
      have eDT := sT _ _ eDb
      have hoT := hob.new (o := .tup [.int a, .int b]) nT
      have kT := (k8.trans kb).hn (o := .tup [.int a, .int b]) nT
      have tDT := tDb.tk (tk_of sT)
      have hj3 : i' < 3 := by omega
      refine ⟨ys, eDT, by rw [sizeLine_eq]; omega, hoT.upd' nDh nDl, fun c o e n => by rw [upd_ne (ne_of_none e nD)]; exact kT c o e n, ys ++ [.ref T], ps ++ [(a, b)], upd_same, ?_, by simp [ly], by simp [lp], fun z hz => ?_⟩
      · rw [List.map_append]
        exact TrAll.tk (Tk.lst eDT) (tDT.app (.cons (.tup eT (.cons (.int _) (.cons (.int _) .nil))) .nil))
      · rcases List.mem_append.mp hz with y | y
        · exact hp z y
        · cases List.mem_singleton.mp y
          exact ⟨⟨a0, a1⟩, b0, b1⟩
    · obtain ⟨ho8, k8, ys, ps, eD, tD, ly, lp, hp⟩ := q
      have eL8 := k8 _ _ eL7 nLh
      have tA8 := tA7.tk (tk_kp ho7 k8)
      trivial
      intro u nu
      have su := same_new0 (o := .tup ys) nu
      have eu : upd H8 u (.tup ys) u = some (.tup ys) := upd_same
      have hou := ho8.new (o := .tup ys) nu
      have ku := (k7.trans k8).hn (o := .tup ys) nu
      have eLu := su _ _ eL8
      have tAu := tA8.tk (tk_of su)
      have tDu := tD.tk (tk_of su)
      generalize upd H8 u (.tup ys) = Hu at *
      trivial
      refine ⟨by rw [sizeLine_eq]; omega, _, _, _, acc ++ [.ref u], R ++ [ps], rfl, hou.upd' nLh nLl, fun c o e n => ?_, upd_same, ?_, by simp [lR], fun z hz => ?_⟩
      · rw [upd_ne (ne_of_none e nL0)]
        exact ku c o e n
      · rw [List.map_append]
        exact TrAll.tk (Tk.lst eLu) (tAu.app (.cons (.tup eu tDu) .nil))
      · rcases List.mem_append.mp hz with y | y
        · exact hR z y
        · cases List.mem_singleton.mp y
          exact ⟨by omega, hp⟩
  · obtain ⟨v4, v5, v6, acc, R, rfl, ho4, k4, eL, tA, lR, hR⟩ := q
    trivial
    intro p np
    have hop := ho4.new (o := .tup acc) np
    have kp1 := k4.hn (o := .tup acc) np
    have sp := same_new0 (o := .tup acc) np
    have ep0 : upd H4 p (.tup acc) p = some (.tup acc) := upd_same
    have tAp := tA.tk (tk_of sp)
    generalize upd H4 p (.tup acc) = H6 at *
    trivial
    intro T nT
    have sT := same_new0 (o := .tup [.int m, .ref p]) nT
    refine k m R T p _ (hop.new nT) (kp1.hn nT) upd_same (.tup (sT _ _ ep0) (tAp.tk (tk_of sT))) ⟨m1, m6, by omega, by omega, fun ps hp => ?_⟩ fun ps hp => (hR ps hp).len
    have q := hR ps hp
    exact ⟨Nat.le_trans q.len (by omega), fun p hp => by rw [show (R.length : Int) = 1 + r2 by omega]; exact q.at_ p hp⟩
end
end KQ
set_option Elab.async false
set_option maxRecDepth 100000
set_option maxHeartbeats 4000000
namespace KQ
open PySem PySem.Spec PyProof.Rows L2
local macro_rules | `(tactic| walk_at "kq hp") => `(tactic| (first | assumption | exact upd_same | (rw [upd_ne (by first | assumption | exact Ne.symm (by assumption))]; first | assumption | exact upd_same | (rw [upd_ne (by first | assumption | exact Ne.symm (by assumption))]; first | assumption | exact upd_same))))
local macro_rules | `(tactic| walk_at "kq do") => `(tactic| (first | decide | omega))
local macro_rules | `(tactic| walk_at "kq cl") => `(tactic| focus (first | rfl | assumption | exact upd_same | exact SqL.of (by walk_at "kq hp") | exact SqT.of (by walk_at "kq hp") | exact Or.inl (SqL.of (by walk_at "kq hp")) | exact Or.inr (SqT.of (by walk_at "kq hp")) | exact Or.inl ⟨rfl, _, SqL.of (by walk_at "kq hp")⟩ | walk_at "kq hp" | decide | exact Nat.le_of_ble_eq_true rfl | omega | (show ∃ xs, SqL _ _ _ xs; exact ⟨_, SqL.of (by walk_at "kq hp")⟩) | (show ∃ xs, SqT _ _ _ xs; exact ⟨_, SqT.of (by walk_at "kq hp")⟩) | exact DGet.k (k := Sum.inl _) (by walk_at "kq hp") | (show V.int _ = kV (Sum.inl _); rfl) | (show ∃ z, V.str _ = V.str z; exact ⟨_, rfl⟩) | exact Or.inl ⟨by walk_at "kq do", by walk_at "kq do"⟩ | exact Or.inr ⟨by walk_at "kq do", by walk_at "kq do"⟩ | exact ⟨by walk_at "kq do", by walk_at "kq do"⟩ | exact ⟨by decide, by decide, by decide⟩ | exact L2.ClsV.ty _ | exact Dt.ty (by assumption) | exact Dt.kint (by assumption) | exact Dt.kbool (by assumption) | exact Dt.ktuple (by assumption) | exact Dt.klist (by assumption) | exact Dt.kstr (by assumption)))
local macro_rules | `(tactic| trivial) => `(tactic| repeat (first | refine sl_go (by walk_at "kq hp") ?_ | (unfold tNoPart; refine sl_go (by walk_at "kq hp") ?_) | refine cat_go (by walk_at "kq hp") (by walk_at "kq hp") ?_ ?_ | (apply And.intro; walk_at "kq cl") | (apply Exists.intro; apply And.intro; walk_at "kq cl") | (apply Exists.intro; apply Exists.intro; apply And.intro; walk_at "kq cl") | (apply Exists.intro; apply Exists.intro; apply Exists.intro; apply And.intro; walk_at "kq cl") | (apply Exists.intro; apply Exists.intro; apply Exists.intro; apply Exists.intro; apply And.intro; walk_at "kq cl") | (apply Exists.intro; apply Exists.intro; apply Exists.intro; apply Exists.intro; apply Exists.intro; apply And.intro; walk_at "kq cl") | (apply Exists.intro; apply Exists.intro; apply Exists.intro; apply Exists.intro; apply Exists.intro; apply Exists.intro; apply And.intro; walk_at "kq cl") | (apply Exists.intro; apply Exists.intro; apply Exists.intro; apply Exists.intro; apply Exists.intro; apply Exists.intro; apply Exists.intro; apply And.intro; walk_at "kq cl") | (apply Exists.intro; apply Exists.intro; apply Exists.intro; apply Exists.intro; apply Exists.intro; apply Exists.intro; apply Exists.intro; apply Exists.intro; apply And.intro; walk_at "kq cl") | (apply Exists.intro; apply Exists.intro; apply Exists.intro; apply Exists.intro; apply Exists.intro; apply Exists.intro; apply Exists.intro; apply Exists.intro; apply Exists.intro; apply And.intro; walk_at "kq cl") | refine Or.inl ⟨_, rfl, ?_⟩ | refine Or.inr ⟨_, rfl, ?_⟩ | refine Or.inr ⟨SqT.of (by walk_at "kq hp"), SqT.of (by walk_at "kq hp"), ?_⟩ | refine Or.inl ⟨SqL.of (by walk_at "kq hp"), SqL.of (by walk_at "kq hp"), ?_⟩ | refine Or.inl ⟨SqL.of (by walk_at "kq hp"), ?_⟩ | refine Or.inr ⟨SqT.of (by walk_at "kq hp"), ?_⟩ | refine ifT rfl ?_ | refine ifF rfl ?_))
/-- a state as it comes in the law's i-th deed -/
structure GoodHs (m h : Int) (R : Rules) (i : Nat) (s : Hs) : Prop where
  bag : ∀ t ∈ s.bag, 0 ≤ t.1 ∧ t.1 < R.length ∧ 0 ≤ t.2 ∧ t.2 < 4
  par : ∀ p, s.par = some p → 0 ≤ p ∧ p < m ∧ (h = 0 → p = 0)
  de : 0 ≤ s.de
  se : 0 ≤ s.se
  tl : 0 ≤ s.tl
  sg : ∀ x y z, s.sg = some (x, y, z) → 0 ≤ x ∧ 0 ≤ y ∧ 0 ≤ z ∧ z < 2
  sh : Sh s.sh
  sb : ∀ q ∈ s.sh, q ≤ 200 + 4 * (i : Int)
  bl : s.bag.length ≤ 3 + i
  sd : s.sd = true → h = 0
def spDState : Sp := fun vs H Q _ => ∃ (h l lw r : Addr) (m hs : Int) (R : Rules) (rs : List V), vs = [.ref h, .ref lw, .int hs] ∧ HandOk H h l ∧ H lw = some (.tup [.int m, .ref r]) ∧ H r = some (.tup rs) ∧ rs.length = R.length ∧ OkWorks m R ∧
  ∀ (a : Addr) (s : Hs) (H' : Hp), HsAt H' a s → GoodHs m hs R 0 s → HandOk H' h l → Kp (Nh h) H H' → Q (.ref a) H'
section
variable {P : Program} {w : World} {K : PySem.W.Frag} {mg : Str → Option Value} {base : Heap}
theorem d_law_drawn_state (B : Bi mg) (F : FunAt K mg "_law_drawn_state" s_law_drawn_state) (D_law_draw : Has P w K mg base 1 "_law_draw" ["hand", "many"] spTake) (D_law_task : Has P w K mg base 2 "_law_task" ["hand", "works"] spDTask) (D_law_drawn_share : Has P w K mg base 2 "_law_drawn_share" ["hand"] spDrawnP) : Has P w K mg base 3 "_law_drawn_state" ["hand", "works", "house"] spDState := by
  refine mk_has F sc_law_drawn_state (fun _ _ _ _ _ _ us hl => match us, hl with | [_, _, _], _ => rfl) (fun vs H Q E h => ?_) fun f cdv A outer s H vs Q E hr h => ?_
  · obtain ⟨h, l, lw, r, m, hs, R, rs, rfl, _⟩ := h
    rfl
  obtain ⟨h, l, lw, r, m, hs, R, rs, rfl, ho, ew, er, lr, ok, k⟩ := h
  refine ⟨_, (pss_cons (ps_set (i := 3) sc_law_drawn_state.nd rfl (Or.inl rfl) (pe_callTy call_tuple_of rfl B.tuple (by decide +kernel) (pa_cons (pe_lc (own := [("turn", 4)]) (g := gName 4) (tt := tYes) (te := (tCall spDTask [] E0 (tCons (tVar 0) (tCons (tVar 1) tNil)))) rfl sc_law_drawn_state.nd (pi_range1 rfl B.range (pa_cons (pe_h D_law_draw (hr.mono (by decide)) rfl (pa_cons (pv 0) (pa_cons pe_int pa_nil))) pa_nil)) (blkOk_by (own := [("turn", 4)]) (N := ["hand", "works", "house", "bag", "turn", "parent", "numbers", "sign", "share"]) (sc := defScope s_law_drawn_state) (by decide +kernel)) (fun _ _ _ _ _ => (pg_name (i := 4) sc_law_drawn_state.nd rfl (Or.inl rfl))) (fun _ _ _ _ _ => pts_nil) (fun _ _ _ _ _ => (pe_h D_law_task (hr.mono (by decide)) rfl (pa_cons (pv 0) (pa_cons (pv 1) pa_nil))))) pa_nil)))
    (pss_cons (ps_set (i := 5) sc_law_drawn_state.nd rfl (Or.inl rfl) pe_non)
    (C8.pss_cut (ps_if (pt_cmpR op_gt (pe_h D_law_draw (hr.mono (by decide)) rfl (pa_cons (pv 0) (pa_cons pe_int pa_nil))) pe_int (nomark _))
    (pss_cons (ps_set (i := 5) sc_law_drawn_state.nd rfl (Or.inl rfl) (pe_h D_law_draw (hr.mono (by decide)) rfl (pa_cons (pv 0) (pa_cons (pe_ix ix_tup (pv 1) pe_int (fun _ _ => rfl)) pa_nil))))
    (pss_one (ps_if (pt_cmpR op_eq (pv 2) pe_int (nomark _))
    (pss_one (ps_set (i := 5) sc_law_drawn_state.nd rfl (Or.inl rfl) pe_int))
    pss_nil)))
    pss_nil)
    (pss_cons (ps_set (i := 6) sc_law_drawn_state.nd rfl (Or.inl rfl) (pe_callTy call_tuple_of rfl B.tuple (by decide +kernel) (pa_cons (pe_lc (own := [("turn", 4)]) (g := gName 4) (tt := tYes) (te := (tOp (rIxL K) (tLst (tCons (tC (.int 0)) (tCons (tC (.int 0)) (tCons (tC (.int 1)) (tCons (tC (.int 2)) (tCons (tCall spTake [] E0 (tCons (tVar 0) (tCons (tC (.int 40)) tNil))) tNil)))))) (tCall spTake [] E0 (tCons (tVar 0) (tCons (tC (.int 5)) tNil))))) rfl sc_law_drawn_state.nd (pi_range1 rfl B.range (pa_cons pe_int pa_nil)) (blkOk_by (own := [("turn", 4)]) (N := ["hand", "works", "house", "bag", "turn", "parent", "numbers", "sign", "share"]) (sc := defScope s_law_drawn_state) (by decide +kernel)) (fun _ _ _ _ _ => (pg_name (i := 4) sc_law_drawn_state.nd rfl (Or.inl rfl))) (fun _ _ _ _ _ => pts_nil) (fun _ _ _ _ _ => (pe_ix ix_list (pe_lst (pa_cons pe_int (pa_cons pe_int (pa_cons pe_int (pa_cons pe_int (pa_cons (pe_h D_law_draw (hr.mono (by decide)) rfl (pa_cons (pv 0) (pa_cons pe_int pa_nil))) pa_nil)))))) (pe_h D_law_draw (hr.mono (by decide)) rfl (pa_cons (pv 0) (pa_cons pe_int pa_nil))) (fun _ _ => rfl)))) pa_nil)))
    (pss_cons (ps_set (i := 7) sc_law_drawn_state.nd rfl (Or.inl rfl) pe_non)
    (C8.pss_cut (ps_if (pt_cmpR op_eq (pe_h D_law_draw (hr.mono (by decide)) rfl (pa_cons (pv 0) (pa_cons pe_int pa_nil))) pe_int (nomark _))
    (pss_one (ps_set (i := 7) sc_law_drawn_state.nd rfl (Or.inl rfl) (pe_tup (pa_cons (pe_h D_law_draw (hr.mono (by decide)) rfl (pa_cons (pv 0) (pa_cons pe_int pa_nil))) (pa_cons (pe_h D_law_draw (hr.mono (by decide)) rfl (pa_cons (pv 0) (pa_cons pe_int pa_nil))) (pa_cons (pe_h D_law_draw (hr.mono (by decide)) rfl (pa_cons (pv 0) (pa_cons pe_int pa_nil))) pa_nil))))))
    pss_nil)
    (pss_cons (ps_set (i := 8) sc_law_drawn_state.nd rfl (Or.inl rfl) (pe_tup pa_nil))
    (C8.pss_cut (ps_if (pt_cmpR op_gt (pe_h D_law_draw (hr.mono (by decide)) rfl (pa_cons (pv 0) (pa_cons pe_int pa_nil))) pe_int (nomark _))
    (pss_one (ps_set (i := 8) sc_law_drawn_state.nd rfl (Or.inl rfl) (pe_h D_law_drawn_share (hr.mono (by decide)) rfl (pa_cons (pv 0) pa_nil))))
    pss_nil)
    (pss_one (ps_ret (pe_op op_catA (pe_op op_catA (pe_tup (pa_cons (pv 3) (pa_cons (pv 5) pa_nil))) (pv 6)) (pe_tup (pa_cons (pe_cmpR op_eq (pe_h D_law_draw (hr.mono (by decide)) rfl (pa_cons (pv 0) (pa_cons pe_int pa_nil))) pe_int (nomark _)) (pa_cons (pv 7) (pa_cons (pv 8) (pa_cons (pe_and (pe_cmpR op_eq (pv 2) pe_int (nomark _)) (pe_one (pe_cmpR op_eq (pe_h D_law_draw (hr.mono (by decide)) rfl (pa_cons (pv 0) (pa_cons pe_int pa_nil))) pe_int (nomark _)))) pa_nil)))))))))))))))), ?_⟩
  have m1 := ok.m1
  have m6 := ok.m6
  have R1 := ok.r1
  have R6 := ok.r6
  have rs0 : 0 < rs.length := by omega
  have rs1 : rs.length ≤ 1000 := by omega
  have hm0 : 0 < m := by omega
  have hm1 : m < 1073741824 := by omega
  have w0 : atI [V.int m, .ref r] 0 = some (.int m) := atI_nat rfl
  trivial
  intro r1 H1 r10 r11 ho1 hk1
  have k1 : Kp (Nh h) H H1 := Kp.hand hk1
  have ew1 := tk_kp ho k1 _ _ ew
  have er1 := tk_kp ho k1 _ _ er
  trivial
  intro D nD
  have nDh := ho1.ne nD
  have nDl := ho1.ne0 nD
  refine lc_it walk_range (fun i H' => HandOk H' h l ∧ Kp (Nh h) H1 H' ∧ ∃ (ys : List V) (ts : List (Int × Int)), H' D = some (.lst ys) ∧ TrAll H' ys (ts.map taskP) ∧ ys.length = i ∧ ts.length = i ∧ ∀ t ∈ ts, 0 ≤ t.1 ∧ t.1 < R.length ∧ 0 ≤ t.2 ∧ t.2 < 4) ⟨ho1.new nD, Kp.new nD, [], [], upd_same, .nil, rfl, rfl, fun _ z => nomatch z⟩ (fun _ _ _ _ => trivial) (fun i x H8 H9 hi q y => ?_) fun H8 q => ?_
  · obtain ⟨ho8, k8, ys, ts, eD, tD, ly, lp, hp⟩ := q
    obtain ⟨rfl, rfl⟩ := y
    refine ⟨rfl, tYes_ok ?_⟩
    rw [if_pos rfl]
    have ew8 := tk_kp ho1 k8 _ _ ew1
    have er8 := tk_kp ho1 k8 _ _ er1
    trivial
    intro a t Ha t0 t1 t2 t3 ea hoa ka
    have eDa := ka _ _ eD nDh
    have tDa := tD.tk (tk_kp ho8 ka)
    have kk := k8.trans ka
    refine ⟨ys, eDa, by rw [sizeLine_eq]; omega, hoa.upd' nDh nDl, fun c o e n => by rw [upd_ne (ne_of_none e nD)]; exact kk c o e n, ys ++ [.ref a], ts ++ [t], upd_same, ?_, by simp [ly], by simp [lp], fun z hz => ?_⟩
    · rw [List.map_append]
      exact TrAll.tk (Tk.lst eDa) (tDa.app (.cons (.tup ea (.cons (.int _) (.cons (.int _) .nil))) .nil))
    · rcases List.mem_append.mp hz with y | y
      · exact hp z y
      · cases List.mem_singleton.mp y
        exact ⟨t0, by omega, t2, t3⟩
  obtain ⟨ho8, k8, ys, ts, eD, tD, ly, lp, hp⟩ := q
  trivial
  intro u nu
  have su := same_new0 (o := .tup ys) nu
  have eu : upd H8 u (.tup ys) u = some (.tup ys) := upd_same
  have hou := ho8.new (o := .tup ys) nu
  have ku := (k1.trans k8).hn (o := .tup ys) nu
  have tDu := tD.tk (tk_of su)
  generalize upd H8 u (.tup ys) = Hu at *
  have ewu := tk_kp ho ku _ _ ew
  trivial
  refine ⟨fun σ H' => ∃ (o : Option Int) (v4 : Option V), σ = [some (.ref h), some (.ref lw), some (.int hs), some (.ref u), v4, some (optV o), none, none, none] ∧ HandOk H' h l ∧ Kp (Nh h) Hu H' ∧ ∀ p, o = some p → 0 ≤ p ∧ p < m ∧ (hs = 0 → p = 0), ?_, ?_⟩
  · trivial
    intro r2 H2 r20 r21 ho2 hk2
    have k2 : Kp (Nh h) Hu H2 := Kp.hand hk2
    have ew2 := tk_kp hou k2 _ _ ewu
    trivial
    refine ite2 (fun c => ?_) (fun c => ?_)
    · trivial
      intro r3 H3 r30 r31 ho3 hk3
      have k3 := k2.trans (Kp.hand hk3)
      trivial
      refine ite2 (fun c1 => ?_) (fun c1 => ?_)
      · trivial
        refine ⟨some 0, _, rfl, ho3, k3, fun p e => by cases e; exact ⟨Int.le_refl 0, hm0, fun _ => rfl⟩⟩
      · have c1' : ¬ hs = 0 := fun z => c1 (decide_eq_true (by rw [z]))
        refine ⟨some r3, _, rfl, ho3, k3, fun p e => by cases e; exact ⟨r30, r31, fun z => absurd z c1'⟩⟩
    · exact ⟨none, _, rfl, ho2, k2, fun p e => nomatch e⟩
  rintro σ H2 ⟨o, v4, rfl, ho2, k2, hpar⟩
  trivial
  intro D2 nD2
  have nDh2 := ho2.ne nD2
  have nDl2 := ho2.ne0 nD2
  refine lc_it walk_range (fun i H' => HandOk H' h l ∧ Kp (Nh h) H2 H' ∧ ∃ ns : List Int, H' D2 = some (.lst (ns.map V.int)) ∧ ns.length = i ∧ ∀ n ∈ ns, 0 ≤ n) ⟨ho2.new nD2, Kp.new nD2, [], upd_same, rfl, fun _ z => nomatch z⟩ (fun _ _ _ _ => trivial) (fun i x H8 H9 hi q y => ?_) fun H8 q => ?_
  · obtain ⟨ho8, k8, ns, eD, ln, hn⟩ := q
    obtain ⟨rfl, rfl⟩ := y
    refine ⟨rfl, tYes_ok ?_⟩
    rw [if_pos rfl]
    trivial
    intro g Ha g0 g1 hoa hka
    have ka := Kp.hand hka
    trivial
    intro p np
    have sp := same_new0 (o := .lst [.int 0, .int 0, .int 1, .int 2, .int g]) np
    have hop := hoa.new (o := .lst [.int 0, .int 0, .int 1, .int 2, .int g]) np
    have kp1 := (k8.trans ka).hn (o := .lst [.int 0, .int 0, .int 1, .int 2, .int g]) np
    have nph := hoa.ne np
    have ep0 : upd Ha p (.lst [.int 0, .int 0, .int 1, .int 2, .int g]) p = some (.lst [.int 0, .int 0, .int 1, .int 2, .int g]) := upd_same
    have eDp := sp _ _ (ka _ _ eD nDh2)
    generalize upd Ha p (.lst [.int 0, .int 0, .int 1, .int 2, .int g]) = Hp1 at *
    trivial
    intro j0 Hb j00 j01 hob hkb
    have ep : Hb p = some (.lst [.int 0, .int 0, .int 1, .int 2, .int g]) := (hkb p nph).trans ep0
    have eDb := (hkb D2 nDh2).trans eDp
    have kb := kp1.trans (Kp.hand hkb)
    obtain ⟨j, hj, q0⟩ : ∃ j : Int, atI [V.int 0, .int 0, .int 1, .int 2, .int g] j0 = some (.int j) ∧ 0 ≤ j := by
      rcases (show j0 = 0 ∨ j0 = 1 ∨ j0 = 2 ∨ j0 = 3 ∨ j0 = 4 by omega) with rfl | rfl | rfl | rfl | rfl
      · exact ⟨0, rfl, by decide⟩
      · exact ⟨0, rfl, by decide⟩
      · exact ⟨1, rfl, by decide⟩
      · exact ⟨2, rfl, by decide⟩
      · exact ⟨g, rfl, g0⟩
    trivial
    refine ⟨by rw [sizeLine_eq, List.length_map]; omega, hob.upd' nDh2 nDl2, fun c o e n => by rw [upd_ne (ne_of_none e nD2)]; exact kb c o e n, ns ++ [j], by rw [upd_same, List.map_append]; rfl, by simp [ln], fun z hz => ?_⟩
    rcases List.mem_append.mp hz with y | y
    · exact hn z y
    · cases List.mem_singleton.mp y
      exact q0
  obtain ⟨ho8, k8, ns, eD, ln, hn⟩ := q
  obtain ⟨n1, n2, n3, rfl⟩ : ∃ a b c, ns = [a, b, c] := by
    match ns, ln with
    | [a, b, c], _ => exact ⟨a, b, c, rfl⟩
  have hn1 := hn n1 (by simp)
  have hn2 := hn n2 (by simp)
  have hn3 := hn n3 (by simp)
  trivial
  intro un nun
  have sun := same_new0 (o := .tup ([n1, n2, n3].map V.int)) nun
  have eun : upd H8 un (.tup ([n1, n2, n3].map V.int)) un = some (.tup ([n1, n2, n3].map V.int)) := upd_same
  have houn := ho8.new (o := .tup ([n1, n2, n3].map V.int)) nun
  have kun := (k2.trans k8).hn (o := .tup ([n1, n2, n3].map V.int)) nun
  have eu2 := tk_kp hou kun _ _ eu
  generalize upd H8 un (.tup ([n1, n2, n3].map V.int)) = Hn at *
  trivial
  refine ⟨fun σ H' => ∃ (o7 : Option (Int × Int × Int)) (gv : V) (v4 : Option V), σ = [some (.ref h), some (.ref lw), some (.int hs), some (.ref u), v4, some (optV o), some (.ref un), some gv, none] ∧ HandOk H' h l ∧ Kp (Nh h) Hn H' ∧ SgAt H' gv o7 ∧ ∀ x y z, o7 = some (x, y, z) → 0 ≤ x ∧ 0 ≤ y ∧ 0 ≤ z ∧ z < 2, ?_, ?_⟩
  · trivial
    intro r2 H3 r20 r21 ho3 hk3
    have k3 : Kp (Nh h) Hn H3 := Kp.hand hk3
    trivial
    refine ite2 (fun c => ?_) (fun c => ?_)
    · trivial
      intro x H4 x0 x1 ho4 hk4
      have k4 := k3.trans (Kp.hand hk4)
      trivial
      intro y H5 y0 y1 ho5 hk5
      have k5 := k4.trans (Kp.hand hk5)
      trivial
      intro z H6 z0 z1 ho6 hk6
      have k6 := k5.trans (Kp.hand hk6)
      trivial
      intro T nT
      exact ⟨some (x, y, z), _, _, rfl, ho6.new nT, k6.hn nT, ⟨T, rfl, upd_same⟩, fun a b c e => by cases e; exact ⟨x0, y0, z0, z1⟩⟩
    · exact ⟨none, _, _, rfl, ho3, k3, rfl, fun _ _ _ e => nomatch e⟩
  rintro σ H3 ⟨o7, gv, v4', rfl, ho3, k3, hgv, hsg⟩
  trivial
  intro ue nue
  have sue := same_new0 (o := .tup []) nue
  have eue : upd H3 ue (.tup []) ue = some (.tup []) := upd_same
  have houe := ho3.new (o := .tup []) nue
  have kue := k3.hn (o := .tup []) nue
  have hgve := hgv.tk (tk_of sue)
  generalize upd H3 ue (.tup []) = He at *
  trivial
  refine ⟨fun σ H' => ∃ (sh : Addr) (ns : List Int) (v4 : Option V), σ = [some (.ref h), some (.ref lw), some (.int hs), some (.ref u), v4, some (optV o), some (.ref un), some gv, some (.ref sh)] ∧ HandOk H' h l ∧ Kp (Nh h) He H' ∧ H' sh = some (.tup (ns.map V.int)) ∧ Sh ns ∧ ∀ q ∈ ns, q ≤ 200, ?_, ?_⟩
  · trivial
    intro r2 H4 r20 r21 ho4 hk4
    have k4 : Kp (Nh h) He H4 := Kp.hand hk4
    have eue4 := tk_kp houe k4 _ _ eue
    trivial
    refine ite2 (fun c => ?_) (fun c => ?_)
    · trivial
      intro a5 ns H5 sm pos ea5 ho5 kk5
      exact ⟨a5, ns, _, rfl, ho5, k4.trans kk5, ea5, sm.sh, sm.b⟩
    · exact ⟨ue, [], _, rfl, ho4, k4, eue4, ⟨by simp, by simp, by simp⟩, fun _ z => nomatch z⟩
  rintro σ H4 ⟨sh, ns, v4'', rfl, ho4, k4, esh, hsh, hsb⟩
  have kN4 := kue.trans k4
  have eun4 : H4 un = some (.tup [.int n1, .int n2, .int n3]) := tk_kp houn kN4 _ _ eun
  have eu4 := tk_kp houn kN4 _ _ eu2
  have hgv4 := hgve.tk (tk_kp houe k4)
  have tD4 := tDu.tk ((tk_kp hou kun).trans (tk_kp houn kN4))
  trivial
  intro q1 nq1
  have sq1 := same_new0 (o := .tup [.ref u, optV o]) nq1
  have eq1 : upd H4 q1 (.tup [.ref u, optV o]) q1 = some (.tup [.ref u, optV o]) := upd_same
  have hoq1 := ho4.new (o := .tup [.ref u, optV o]) nq1
  have kq1 := k4.hn (o := .tup [.ref u, optV o]) nq1
  have eun5 := sq1 _ _ eun4
  generalize upd H4 q1 (.tup [.ref u, optV o]) = H5 at *
  trivial
  · simp
  intro q2 H6 s6 e6
  have s46 := sq1.trans s6
  have ho6 := hoq1.same s6
  have k6 : Kp (Nh h) He H6 := kq1.trans (Kp.of_same s6)
  trivial
  intro b1 H7 b10 b11 ho7 hk7
  have k7 : Kp (Nh h) H6 H7 := Kp.hand hk7
  have fin : ∀ (bv sv : Bool) (T : Addr) (H8 : Hp), HandOk H8 h l → Kp (Nh h) H6 H8 → H8 T = some (.tup [.bl bv, gv, .ref sh, .bl sv]) → (sv = true → hs = 0) → rCatA K (.ref q2) (.ref T) H8 Q := fun bv sv T H8 ho8 k8 eT hsv => by
    have e28 := tk_kp ho6 k8 _ _ e6
    refine cat_go e28 eT (by simp) fun c H9 s9 e9 => ?_
    have t49 : Tk H4 H9 := ((tk_of s46).trans (tk_kp ho6 k8)).trans (tk_of s9)
    refine k c ⟨ts, o, n1, n2, n3, bv, o7, ns, sv⟩ H9 ⟨u, sh, ys, gv, e9, t49 _ _ eu4, tD4.tk t49, hgv4.tk t49, t49 _ _ esh⟩ ⟨hp, hpar, hn1, hn2, hn3, hsg, hsh, fun q hq => by have := hsb q hq; omega, by show ts.length ≤ 3 + 0; omega, hsv⟩ (ho8.same s9) ?_
    exact (((ku.trans kun).trans kue).trans k6).trans (k8.trans (Kp.of_same s9))
  trivial
  refine ite2 (fun c => ?_) (fun c => ?_)
  · have c' : hs = 0 := by simpa using of_decide_eq_true c
    trivial
    intro b2 H8 b20 b21 ho8 hk8
    have k8 : Kp (Nh h) H6 H8 := k7.trans (Kp.hand hk8)
    trivial
    intro T nT
    exact fin _ _ T _ (ho8.new nT) (k8.hn nT) upd_same fun _ => c'
  · trivial
    intro T nT
    exact fin _ _ T _ (ho7.new nT) (k7.hn nT) upd_same fun z => nomatch z
end
end KQ
set_option Elab.async false
set_option maxRecDepth 100000
set_option maxHeartbeats 4000000
namespace KQ
open PySem PySem.Spec PyProof.Rows L2
local macro_rules | `(tactic| walk_at "kq hp") => `(tactic| (first | assumption | exact upd_same | (rw [upd_ne (by first | assumption | exact Ne.symm (by assumption))]; first | assumption | exact upd_same | (rw [upd_ne (by first | assumption | exact Ne.symm (by assumption))]; first | assumption | exact upd_same))))
local macro_rules | `(tactic| walk_at "kq do") => `(tactic| (first | decide | omega))
local macro_rules | `(tactic| walk_at "kq cl") => `(tactic| focus (first | rfl | assumption | exact upd_same | exact SqL.of (by walk_at "kq hp") | exact SqT.of (by walk_at "kq hp") | exact Or.inl (SqL.of (by walk_at "kq hp")) | exact Or.inr (SqT.of (by walk_at "kq hp")) | exact Or.inl ⟨rfl, _, SqL.of (by walk_at "kq hp")⟩ | walk_at "kq hp" | decide | exact Nat.le_of_ble_eq_true rfl | omega | (show ∃ xs, SqL _ _ _ xs; exact ⟨_, SqL.of (by walk_at "kq hp")⟩) | (show ∃ xs, SqT _ _ _ xs; exact ⟨_, SqT.of (by walk_at "kq hp")⟩) | exact DGet.k (k := Sum.inl _) (by walk_at "kq hp") | (show V.int _ = kV (Sum.inl _); rfl) | (show ∃ z, V.str _ = V.str z; exact ⟨_, rfl⟩) | exact Or.inl ⟨by walk_at "kq do", by walk_at "kq do"⟩ | exact Or.inr ⟨by walk_at "kq do", by walk_at "kq do"⟩ | exact ⟨by walk_at "kq do", by walk_at "kq do"⟩ | exact ⟨by decide, by decide, by decide⟩ | exact L2.ClsV.ty _ | exact Dt.ty (by assumption) | exact Dt.kint (by assumption) | exact Dt.kbool (by assumption) | exact Dt.ktuple (by assumption) | exact Dt.klist (by assumption) | exact Dt.kstr (by assumption)))
local macro_rules | `(tactic| trivial) => `(tactic| repeat (first | refine sl_go (by walk_at "kq hp") ?_ | (unfold tNoPart; refine sl_go (by walk_at "kq hp") ?_) | refine cat_go (by walk_at "kq hp") (by walk_at "kq hp") ?_ ?_ | (apply And.intro; walk_at "kq cl") | (apply Exists.intro; apply And.intro; walk_at "kq cl") | (apply Exists.intro; apply Exists.intro; apply And.intro; walk_at "kq cl") | (apply Exists.intro; apply Exists.intro; apply Exists.intro; apply And.intro; walk_at "kq cl") | (apply Exists.intro; apply Exists.intro; apply Exists.intro; apply Exists.intro; apply And.intro; walk_at "kq cl") | (apply Exists.intro; apply Exists.intro; apply Exists.intro; apply Exists.intro; apply Exists.intro; apply And.intro; walk_at "kq cl") | (apply Exists.intro; apply Exists.intro; apply Exists.intro; apply Exists.intro; apply Exists.intro; apply Exists.intro; apply And.intro; walk_at "kq cl") | (apply Exists.intro; apply Exists.intro; apply Exists.intro; apply Exists.intro; apply Exists.intro; apply Exists.intro; apply Exists.intro; apply And.intro; walk_at "kq cl") | (apply Exists.intro; apply Exists.intro; apply Exists.intro; apply Exists.intro; apply Exists.intro; apply Exists.intro; apply Exists.intro; apply Exists.intro; apply And.intro; walk_at "kq cl") | (apply Exists.intro; apply Exists.intro; apply Exists.intro; apply Exists.intro; apply Exists.intro; apply Exists.intro; apply Exists.intro; apply Exists.intro; apply Exists.intro; apply And.intro; walk_at "kq cl") | refine Or.inl ⟨_, rfl, ?_⟩ | refine Or.inr ⟨_, rfl, ?_⟩ | refine Or.inr ⟨SqT.of (by walk_at "kq hp"), SqT.of (by walk_at "kq hp"), ?_⟩ | refine Or.inl ⟨SqL.of (by walk_at "kq hp"), SqL.of (by walk_at "kq hp"), ?_⟩ | refine Or.inl ⟨SqL.of (by walk_at "kq hp"), ?_⟩ | refine Or.inr ⟨SqT.of (by walk_at "kq hp"), ?_⟩ | refine ifT rfl ?_ | refine ifF rfl ?_))
inductive Dd where
  | give (t : Int × Int)
  | act
  | pass
  | hear (snd : Int) (w : Wd)
def DdAt (H : Hp) (a : Addr) : Dd → Prop
  | .give t => ∃ b, H a = some (.tup [.str "give", .ref b]) ∧ H b = some (.tup [.int t.1, .int t.2])
  | .act => H a = some (.tup [.str "do"])
  | .pass => H a = some (.tup [.str "pass"])
  | .hear snd w => ∃ b, H a = some (.tup [.str "hear", .int snd, .ref b]) ∧ WdAt H b w
theorem DdAt.tk {H H' : Hp} {a : Addr} {d : Dd} (h : DdAt H a d) (k : Tk H H') : DdAt H' a d := by
  cases d with
  | give t => obtain ⟨b, h1, h2⟩ := h; exact ⟨b, k _ _ h1, k _ _ h2⟩
  | act => exact k _ _ h
  | pass => exact k _ _ h
  | hear snd w => obtain ⟨b, h1, h2⟩ := h; exact ⟨b, k _ _ h1, h2.tk k⟩
def OkDd (m h : Int) (R : Rules) : Dd → Prop
  | .give t => h = 0 ∧ 0 ≤ t.1 ∧ t.1 < R.length ∧ 0 ≤ t.2 ∧ t.2 < 4
  | .hear snd w => 0 ≤ snd ∧ snd < m ∧ OkWd R w ∧ SmW w
  | _ => True
def dueL (m : Int) (R : Rules) (h : Int) (s : Hs) : Dd → Res9
  | .give t => .inr (giftL s t, [])
  | .act => doneL m R h s
  | .pass => passL m h s
  | .hear snd w => heardL h s snd w
def spDDeed : Sp := fun vs H Q _ => ∃ (h l lw r : Addr) (m hs : Int) (R : Rules) (rs : List V), vs = [.ref h, .ref lw, .int hs] ∧ HandOk H h l ∧ H lw = some (.tup [.int m, .ref r]) ∧ H r = some (.tup rs) ∧ rs.length = R.length ∧ OkWorks m R ∧
  ∀ (a : Addr) (d : Dd) (H' : Hp), DdAt H' a d → OkDd m hs R d → HandOk H' h l → Kp (Nh h) H H' → Q (.ref a) H'
def spBal : Sp := fun vs H Q _ => ∃ (h l a : Addr) (m : Int) (R : Rules) (s : Hs), vs = [.ref h, .ref a] ∧ HandOk H h l ∧ HsAt H a s ∧ GoodHs m 0 R 0 s ∧
  ∀ (b : Addr) (s' : Hs) (H' : Hp), HsAt H' b s' → GoodHs m 0 R 0 s' → HandOk H' h l → Kp (Nh h) H H' → Q (.ref b) H'
section
variable {P : Program} {w : World} {K : PySem.W.Frag} {mg : Str → Option Value} {base : Heap}
theorem d_law_deed (B : Bi mg) (F : FunAt K mg "_law_deed" s_law_deed) (D_law_draw : Has P w K mg base 1 "_law_draw" ["hand", "many"] spTake) (D_law_task : Has P w K mg base 2 "_law_task" ["hand", "works"] spDTask) (D_law_drawn_word : Has P w K mg base 3 "_law_drawn_word" ["hand", "works"] spDWord) : Has P w K mg base 4 "_law_deed" ["hand", "works", "house"] spDDeed := by
  refine mk_has F sc_law_deed (fun _ _ _ _ _ _ us hl => match us, hl with | [_, _, _], _ => rfl) (fun vs H Q E h => ?_) fun f cdv A outer s H vs Q E hr h => ?_
  · obtain ⟨h, l, lw, r, m, hs, R, rs, rfl, _⟩ := h
    rfl
  obtain ⟨h, l, lw, r, m, hs, R, rs, rfl, ho, ew, er, lr, ok, k⟩ := h
  refine ⟨_, (pss_cons (ps_set (i := 3) sc_law_deed.nd rfl (Or.inl rfl) (pe_h D_law_draw (hr.mono (by decide)) rfl (pa_cons (pv 0) (pa_cons pe_int pa_nil))))
    (C8.pss_cut (ps_if (PW.pt (pw_and (pt_cmpR op_eq (pv 3) pe_int (nomark _)) (pw_and1 (pt_cmpR op_eq (pv 2) pe_int (nomark _)))))
    (pss_one (ps_ret (pe_tup (pa_cons pe_str (pa_cons (pe_h D_law_task (hr.mono (by decide)) rfl (pa_cons (pv 0) (pa_cons (pv 1) pa_nil))) pa_nil)))))
    pss_nil)
    (pss_cons (ps_if (pt_cmpR op_lt (pv 3) pe_int (nomark _))
    (pss_one (ps_ret (pe_tup (pa_cons pe_str pa_nil))))
    pss_nil)
    (pss_cons (ps_if (pt_cmpR op_eq (pv 3) pe_int (nomark _))
    (pss_one (ps_ret (pe_tup (pa_cons pe_str pa_nil))))
    pss_nil)
    (pss_one (ps_ret (pe_tup (pa_cons pe_str (pa_cons (pe_h D_law_draw (hr.mono (by decide)) rfl (pa_cons (pv 0) (pa_cons (pe_ix ix_tup (pv 1) pe_int (fun _ _ => rfl)) pa_nil))) (pa_cons (pe_h D_law_drawn_word (hr.mono (by decide)) rfl (pa_cons (pv 0) (pa_cons (pv 1) pa_nil))) pa_nil)))))))))), ?_⟩
  have m1 := ok.m1
  have m6 := ok.m6
  have R1 := ok.r1
  have R6 := ok.r6
  have rs0 : 0 < rs.length := by omega
  have rs1 : rs.length ≤ 1000 := by omega
  have hm0 : 0 < m := by omega
  have hm1 : m < 1073741824 := by omega
  have R0 : 0 < R.length := by omega
  have R10 : R.length ≤ 1000 := by omega
  have w0 : atI [V.int m, .ref r] 0 = some (.int m) := atI_nat rfl
  trivial
  intro r1 H1 r10 r11 ho1 hk1
  have k1 : Kp (Nh h) H H1 := Kp.hand hk1
  have ew1 := tk_kp ho k1 _ _ ew
  have er1 := tk_kp ho k1 _ _ er
  trivial
  refine ⟨fun σ H' => σ = [some (.ref h), some (.ref lw), some (.int hs), some (.int r1)] ∧ H' = H1, ?_, ?_⟩
  · trivial
    refine ite2 (fun c => ?_) (fun c => ?_)
    · trivial
      refine ite2 (fun c1 => ?_) (fun c1 => ?_)
      · have c1' : hs = 0 := by simpa using of_decide_eq_true c1
        trivial
        intro a t H2 t0 t1 t2 t3 ea ho2 kk2
        trivial
        intro T nT
        exact k T (.give t) _ ⟨a, upd_same, same_new0 nT _ _ ea⟩ ⟨c1', t0, by omega, t2, t3⟩ (ho2.new nT) ((k1.trans kk2).hn nT)
      · exact ⟨rfl, rfl⟩
    · exact ⟨rfl, rfl⟩
  rintro σ H2 ⟨rfl, rfl⟩
  trivial
  refine ite2 (fun c => ?_) (fun c => ?_)
  · trivial
    intro T nT
    exact k T .act _ upd_same True.intro (ho1.new nT) (k1.hn nT)
  trivial
  refine ite2 (fun c => ?_) (fun c => ?_)
  · trivial
    intro T nT
    exact k T .pass _ upd_same True.intro (ho1.new nT) (k1.hn nT)
  trivial
  intro snd H3 s0 s1 ho3 hk3
  have kk3 : Kp (Nh h) H2 H3 := Kp.hand hk3
  have ew3 := tk_kp ho1 kk3 _ _ ew1
  have er3 := tk_kp ho1 kk3 _ _ er1
  trivial
  intro a wd H4 owd sw hwd ho4 kk4
  trivial
  intro T nT
  exact k T (.hear snd wd) _ ⟨a, upd_same, hwd.tk (tk_of (same_new0 nT))⟩ ⟨s0, s1, owd, sw⟩ (ho4.new nT) (((k1.trans kk3).trans kk4).hn nT)
theorem d_law_balanced (B : Bi mg) (F : FunAt K mg "_law_balanced" s_law_balanced) (D_law_draw : Has P w K mg base 1 "_law_draw" ["hand", "many"] spTake) : Has P w K mg base 2 "_law_balanced" ["hand", "state"] spBal := by
  refine mk_has F sc_law_balanced (fun _ _ _ _ _ _ us hl => match us, hl with | [_, _], _ => rfl) (fun vs H Q E h => ?_) fun f cdv A outer s H vs Q E hr h => ?_
  · obtain ⟨h, l, a, m, R, st, rfl, _⟩ := h
    rfl
  obtain ⟨h, l, a, m, R, st, rfl, ho, ⟨ba, sa, bs, gv, z⟩, gd, k⟩ := h
  refine ⟨_, (pss_cons (ps_set (i := 2) sc_law_balanced.nd rfl (Or.inl rfl) pe_int)
    (pss_cons (ps_for PassesOwn.never rfl (pi_range1 rfl B.range (pa_cons (pe_h D_law_draw (hr.mono (by decide)) rfl (pa_cons (pv 0) (pa_cons pe_int pa_nil))) pa_nil)) (pg_name (i := 3) sc_law_balanced.nd rfl (Or.inl rfl))
    (pss_one (ps_set (i := 2) sc_law_balanced.nd rfl (Or.inl rfl) (pe_op op_mul (pv 2) pe_int))))
    (pss_cons (ps_set (i := 2) sc_law_balanced.nd rfl (Or.inl rfl) (pe_ix ix_list (pe_lst (pa_cons pe_int (pa_cons (pv 2) (pa_cons (pe_op op_sub pe_int (pv 2)) pa_nil)))) (pe_h D_law_draw (hr.mono (by decide)) rfl (pa_cons (pv 0) (pa_cons pe_int pa_nil))) (fun _ _ => rfl)))
    (pss_cons (ps_set (i := 4) sc_law_balanced.nd rfl (Or.inl rfl) (pe_h D_law_draw (hr.mono (by decide)) rfl (pa_cons (pv 0) (pa_cons pe_int pa_nil))))
    (pss_cons (ps_set (i := 5) sc_law_balanced.nd rfl (Or.inl rfl) (pe_op op_sub (pe_op op_sub (pe_op op_add (pv 4) (pe_ix ix_tup (pv 1) pe_int (fun _ _ => rfl))) (pe_ix ix_tup (pv 1) pe_int (fun _ _ => rfl))) (pv 2)))
    (C8.pss_cut (ps_if (pt_cmpR op_lt (pv 5) pe_int (nomark _))
    (pss_cons (ps_set (i := 4) sc_law_balanced.nd rfl (Or.inl rfl) (pe_op op_sub (pv 4) (pv 5)))
    (pss_one (ps_set (i := 5) sc_law_balanced.nd rfl (Or.inl rfl) pe_int)))
    pss_nil)
    (pss_cons (ps_set (i := 6) sc_law_balanced.nd rfl (Or.inl rfl) (pe_tup (pa_cons (pv 4) (pa_cons (pv 5) (pa_cons (pe_callTy call_int1 rfl B.int (by decide +kernel) (pa_cons (pe_cmpR op_eq (pe_h D_law_draw (hr.mono (by decide)) rfl (pa_cons (pv 0) (pa_cons pe_int pa_nil))) pe_int (nomark _)) pa_nil)) pa_nil)))))
    (pss_one (ps_ret (pe_op op_catA (pe_op op_catA (pe_tup (pa_cons (pe_tup pa_nil) pa_nil)) (pe_slice sl_tupA (pv 1) (po_some pe_int) (po_some pe_int))) (pe_tup (pa_cons (pe_cmpR op_eq (pe_h D_law_draw (hr.mono (by decide)) rfl (pa_cons (pv 0) (pa_cons pe_int pa_nil))) pe_int (nomark _)) (pa_cons (pv 6) (pa_cons (pe_ix ix_tup (pv 1) pe_int (fun _ _ => rfl)) (pa_cons pe_bl pa_nil))))))))))))))), ?_⟩
  trivial
  intro r1 H1 r10 r11 ho1 hk1
  have k1 : Kp (Nh h) H H1 := Kp.hand hk1
  trivial
  refine for_it walk_range (fun i σ H' => ∃ (x : Int) (v3 : Option V), σ = [some (.ref h), some (.ref a), some (.int x), v3, none, none, none] ∧ HandOk H' h l ∧ Kp (Nh h) H H') ⟨1, none, rfl, ho1, k1⟩ (fun _ _ _ _ _ => True.intro) (fun i x σ H4 H5 hi q y => ?_) fun σ H4 q => ?_
  · obtain ⟨x, v3, rfl, ho4, k4⟩ := q
    obtain ⟨rfl, rfl⟩ := y
    trivial
    exact k4
  obtain ⟨x, v3, rfl, ho4, k4⟩ := q
  trivial
  intro p np
  have hop := ho4.new (o := .lst [.int 0, .int x, .int (0 - x)]) np
  have kp1 := k4.hn (o := .lst [.int 0, .int x, .int (0 - x)]) np
  have nph := ho4.ne np
  have ep0 : upd H4 p (.lst [.int 0, .int x, .int (0 - x)]) p = some (.lst [.int 0, .int x, .int (0 - x)]) := upd_same
  generalize upd H4 p (.lst [.int 0, .int x, .int (0 - x)]) = H6 at *
  trivial
  intro j0 H7 j00 j01 ho7 hk7
  have ep : H7 p = some (.lst [.int 0, .int x, .int (0 - x)]) := (hk7 p nph).trans ep0
  have k7 : Kp (Nh h) H H7 := kp1.trans (Kp.hand hk7)
  obtain ⟨x1, hx1⟩ : ∃ x1 : Int, atI [V.int 0, .int x, .int (0 - x)] j0 = some (.int x1) := by
    rcases (show j0 = 0 ∨ j0 = 1 ∨ j0 = 2 by omega) with rfl | rfl | rfl <;> exact ⟨_, rfl⟩
  trivial
  intro s0 H8 s00 s01 ho8 hk8
  have k8 : Kp (Nh h) H H8 := k7.trans (Kp.hand hk8)
  have t8 := tk_kp ho k8
  have z8 := z.tk t8
  have ea8 := z8.e
  have a3 : atI [V.ref ba, optV st.par, .int st.de, .int st.se, .int st.tl, .bl st.bk, gv, .ref sa, .bl st.sd] 3 = some (.int st.se) := atI_nat rfl
  have a4 : atI [V.ref ba, optV st.par, .int st.de, .int st.se, .int st.tl, .bl st.bk, gv, .ref sa, .bl st.sd] 4 = some (.int st.tl) := atI_nat rfl
  have a7 : atI [V.ref ba, optV st.par, .int st.de, .int st.se, .int st.tl, .bl st.bk, gv, .ref sa, .bl st.sd] 7 = some (.ref sa) := atI_nat rfl
  trivial
  refine ⟨fun σ H' => ∃ x y : Int, σ = [some (.ref h), some (.ref a), some (.int x1), v3, some (.int x), some (.int y), none] ∧ 0 ≤ x ∧ 0 ≤ y ∧ H' = H8, ?_, ?_⟩
  · trivial
    refine ite2 (fun c => ?_) (fun c => ?_)
    · have c' := of_decide_eq_true c
      trivial
      rfl
    · have c' : ¬ (s0 + st.se - st.tl - x1 < 0) := fun zz => c (decide_eq_true zz)
      exact ⟨_, _, rfl, s00, by omega, rfl⟩
  rintro σ H9 ⟨sx, sy, rfl, sx0, sy0, rfl⟩
  trivial
  intro b1 HA b10 b11 hoA hkA
  have kA : Kp (Nh h) H9 HA := Kp.hand hkA
  have zA := z8.tk (tk_kp ho8 kA)
  have eaA := zA.e
  trivial
  intro T1 nT1
  have s1 := same_new0 (o := .tup [.int sx, .int sy, .int (if decide (V.int b1 = V.int 0) = true then 1 else 0)]) nT1
  have e1 : upd HA T1 (.tup [.int sx, .int sy, .int (if decide (V.int b1 = V.int 0) = true then 1 else 0)]) T1 = some (.tup [.int sx, .int sy, .int (if decide (V.int b1 = V.int 0) = true then 1 else 0)]) := upd_same
  have hoB := hoA.new (o := .tup [.int sx, .int sy, .int (if decide (V.int b1 = V.int 0) = true then 1 else 0)]) nT1
  have kB := (k8.trans kA).hn (o := .tup [.int sx, .int sy, .int (if decide (V.int b1 = V.int 0) = true then 1 else 0)]) nT1
  have zB := zA.tk (tk_of s1)
  have eaB := zB.e
  generalize upd HA T1 (.tup [.int sx, .int sy, .int (if decide (V.int b1 = V.int 0) = true then 1 else 0)]) = HB at *
  have hi : 0 ≤ (if decide (V.int b1 = V.int 0) = true then (1 : Int) else 0) ∧ (if decide (V.int b1 = V.int 0) = true then (1 : Int) else 0) < 2 := by split <;> decide
  generalize (if decide (V.int b1 = V.int 0) = true then (1 : Int) else 0) = sb at *
  trivial
  intro q1 nq1
  have sq1 := same_new0 (o := .tup []) nq1
  have eq1 : upd HB q1 (.tup []) q1 = some (.tup []) := upd_same
  have hoC := hoB.new (o := .tup []) nq1
  have kC := kB.hn (o := .tup []) nq1
  generalize upd HB q1 (.tup []) = HC at *
  trivial
  intro q2 nq2
  have sq2 := same_new0 (o := .tup [.ref q1]) nq2
  have eq2 : upd HC q2 (.tup [.ref q1]) q2 = some (.tup [.ref q1]) := upd_same
  have hoD := hoC.new (o := .tup [.ref q1]) nq2
  have kD := kC.hn (o := .tup [.ref q1]) nq2
  have eq12 := sq2 _ _ eq1
  have e1D := sq2 _ _ (sq1 _ _ e1)
  have eaD := sq2 _ _ (sq1 _ _ eaB)
  generalize upd HC q2 (.tup [.ref q1]) = HD at *
  trivial
  rw [show cutV [V.ref ba, optV st.par, .int st.de, .int st.se, .int st.tl, .bl st.bk, gv, .ref sa, .bl st.sd] (some 1) (some 5) = [optV st.par, .int st.de, .int st.se, .int st.tl] from rfl]
  intro q3 HE sE eq3
  refine cat_go (sE _ _ eq2) eq3 (by simp) fun q4 HF sF eq4 => ?_
  have sDF := sE.trans sF
  have hoF := hoD.same sDF
  have kF : Kp (Nh h) H HF := kD.trans (Kp.of_same sDF)
  trivial
  intro b2 HG b20 b21 hoG hkG
  have kG : Kp (Nh h) HF HG := Kp.hand hkG
  have tFG := tk_kp hoF kG
  have eaG := tFG _ _ (sDF _ _ eaD)
  have eq4G := tFG _ _ eq4
  have e1G := tFG _ _ (sDF _ _ e1D)
  have eq1G := tFG _ _ (sDF _ _ eq12)
  have kHG := kF.trans kG
  have esG := (tk_kp ho kHG) _ _ z.s
  trivial
  intro q5 nq5
  have s5 := same_new0 (o := .tup [.bl (decide (V.int b2 = V.int 0)), .ref T1, .ref sa, .bl false]) nq5
  have eq5 : upd HG q5 (.tup [.bl (decide (V.int b2 = V.int 0)), .ref T1, .ref sa, .bl false]) q5 = some (.tup [.bl (decide (V.int b2 = V.int 0)), .ref T1, .ref sa, .bl false]) := upd_same
  have hoH := hoG.new (o := .tup [.bl (decide (V.int b2 = V.int 0)), .ref T1, .ref sa, .bl false]) nq5
  have kH := kHG.hn (o := .tup [.bl (decide (V.int b2 = V.int 0)), .ref T1, .ref sa, .bl false]) nq5
  generalize upd HG q5 (.tup [.bl (decide (V.int b2 = V.int 0)), .ref T1, .ref sa, .bl false]) = HH at *
  refine cat_go (s5 _ _ eq4G) eq5 (by simp) fun q6 HI sI eq6 => ?_
  refine k q6 { st with bag := [], bk := decide (V.int b2 = V.int 0), sg := some (sx, sy, sb), sd := false } HI ⟨q1, sa, [], .ref T1, eq6, sI _ _ (s5 _ _ eq1G), .nil, ⟨T1, rfl, sI _ _ (s5 _ _ e1G)⟩, sI _ _ (s5 _ _ esG)⟩ ⟨fun _ zz => (nomatch zz), gd.par, gd.de, gd.se, gd.tl, fun x y z e => by cases e; exact ⟨sx0, sy0, hi.1, hi.2⟩, gd.sh, gd.sb, Nat.zero_le _, fun zz => nomatch zz⟩ (hoH.same sI) (kH.trans (Kp.of_same sI))
end
end KQ
set_option Elab.async false
set_option maxRecDepth 100000
set_option maxHeartbeats 4000000
namespace KQ
open PySem PySem.Spec PyProof.Rows L2
local macro_rules | `(tactic| walk_at "kq hp") => `(tactic| (first | assumption | exact upd_same | (rw [upd_ne (by first | assumption | exact Ne.symm (by assumption))]; first | assumption | exact upd_same | (rw [upd_ne (by first | assumption | exact Ne.symm (by assumption))]; first | assumption | exact upd_same))))
local macro_rules | `(tactic| walk_at "kq do") => `(tactic| (first | decide | omega))
local macro_rules | `(tactic| walk_at "kq cl") => `(tactic| focus (first | rfl | assumption | exact upd_same | exact SqL.of (by walk_at "kq hp") | exact SqT.of (by walk_at "kq hp") | exact Or.inl (SqL.of (by walk_at "kq hp")) | exact Or.inr (SqT.of (by walk_at "kq hp")) | exact Or.inl ⟨rfl, _, SqL.of (by walk_at "kq hp")⟩ | walk_at "kq hp" | decide | exact Nat.le_of_ble_eq_true rfl | omega | (show ∃ xs, SqL _ _ _ xs; exact ⟨_, SqL.of (by walk_at "kq hp")⟩) | (show ∃ xs, SqT _ _ _ xs; exact ⟨_, SqT.of (by walk_at "kq hp")⟩) | exact DGet.k (k := Sum.inl _) (by walk_at "kq hp") | (show V.int _ = kV (Sum.inl _); rfl) | (show ∃ z, V.str _ = V.str z; exact ⟨_, rfl⟩) | exact Or.inl ⟨by walk_at "kq do", by walk_at "kq do"⟩ | exact Or.inr ⟨by walk_at "kq do", by walk_at "kq do"⟩ | exact ⟨by walk_at "kq do", by walk_at "kq do"⟩ | exact ⟨by decide, by decide, by decide⟩ | exact L2.ClsV.ty _ | exact Dt.ty (by assumption) | exact Dt.kint (by assumption) | exact Dt.kbool (by assumption) | exact Dt.ktuple (by assumption) | exact Dt.klist (by assumption) | exact Dt.kstr (by assumption)))
local macro_rules | `(tactic| trivial) => `(tactic| repeat (first | refine sl_go (by walk_at "kq hp") ?_ | (unfold tNoPart; refine sl_go (by walk_at "kq hp") ?_) | refine cat_go (by walk_at "kq hp") (by walk_at "kq hp") ?_ ?_ | (apply And.intro; walk_at "kq cl") | (apply Exists.intro; apply And.intro; walk_at "kq cl") | (apply Exists.intro; apply Exists.intro; apply And.intro; walk_at "kq cl") | (apply Exists.intro; apply Exists.intro; apply Exists.intro; apply And.intro; walk_at "kq cl") | (apply Exists.intro; apply Exists.intro; apply Exists.intro; apply Exists.intro; apply And.intro; walk_at "kq cl") | (apply Exists.intro; apply Exists.intro; apply Exists.intro; apply Exists.intro; apply Exists.intro; apply And.intro; walk_at "kq cl") | (apply Exists.intro; apply Exists.intro; apply Exists.intro; apply Exists.intro; apply Exists.intro; apply Exists.intro; apply And.intro; walk_at "kq cl") | (apply Exists.intro; apply Exists.intro; apply Exists.intro; apply Exists.intro; apply Exists.intro; apply Exists.intro; apply Exists.intro; apply And.intro; walk_at "kq cl") | (apply Exists.intro; apply Exists.intro; apply Exists.intro; apply Exists.intro; apply Exists.intro; apply Exists.intro; apply Exists.intro; apply Exists.intro; apply And.intro; walk_at "kq cl") | (apply Exists.intro; apply Exists.intro; apply Exists.intro; apply Exists.intro; apply Exists.intro; apply Exists.intro; apply Exists.intro; apply Exists.intro; apply Exists.intro; apply And.intro; walk_at "kq cl") | refine Or.inl ⟨_, rfl, ?_⟩ | refine Or.inr ⟨_, rfl, ?_⟩ | refine Or.inr ⟨SqT.of (by walk_at "kq hp"), SqT.of (by walk_at "kq hp"), ?_⟩ | refine Or.inl ⟨SqL.of (by walk_at "kq hp"), SqL.of (by walk_at "kq hp"), ?_⟩ | refine Or.inl ⟨SqL.of (by walk_at "kq hp"), ?_⟩ | refine Or.inr ⟨SqT.of (by walk_at "kq hp"), ?_⟩ | refine ifT rfl ?_ | refine ifF rfl ?_))
/-! ### states stay good; due -/
theorem asc_len {ns : List Int} {b : Nat} (h : Sh ns) (hb : ∀ q ∈ ns, q ≤ (b : Int)) : ns.length ≤ b + 1 := by
  have := nodup_le2 (l := ns) (l' := (List.range (b + 1)).map fun (j : Nat) => (j : Int)) (List.Pairwise.imp (fun h => by omega) h.asc) fun x hx => by
    have h0 := h.nn x hx
    have h1 := hb x hx
    exact List.mem_map.mpr ⟨x.toNat, List.mem_range.mpr (by omega), by omega⟩
  simpa using this
theorem sh_add {ns : List Int} (h : Sh ns) (k : Nat) (k0 : 0 < k) : Sh (ns.map (· + (k : Int))) :=
  ⟨fun q hq => by obtain ⟨p, hp, rfl⟩ := List.mem_map.mp hq; have := h.nn p hp; omega,
   List.pairwise_map.mpr (h.asc.imp fun h => by omega), fun z => by obtain ⟨p, hp, e⟩ := List.mem_map.mp z; have := h.nn p hp; omega⟩
theorem sh_add' {ns : List Int} (h : Sh ns) (k : Nat) : Sh (ns.map (· + (k : Int))) := by
  cases k with
  | zero => simpa using h
  | succ k => exact sh_add h _ (by omega)
theorem GoodHs.len {m h : Int} {R : Rules} {i : Nat} {s : Hs} (g : GoodHs m h R i s) (hi : i ≤ 12) : s.sh.length ≤ 249 := asc_len (b := 248) g.sh fun q hq => by have := g.sb q hq; omega
theorem GoodHs.ok {m h : Int} {R : Rules} {i : Nat} {s : Hs} (g : GoodHs m h R i s) (hi : i ≤ 12) : OkHs m h R s :=
  ⟨fun t ht => by obtain ⟨a, b, c, d⟩ := g.bag t ht; exact ⟨a, b, c, by omega⟩, g.par, g.de, g.se, g.tl, g.sg, g.sh, by have := g.len hi; omega, by have := g.bl; omega, g.sd⟩
theorem GoodHs.more {m h : Int} {R : Rules} {i : Nat} {s : Hs} (g : GoodHs m h R i s) : GoodHs m h R (i + 1) s :=
  ⟨g.bag, g.par, g.de, g.se, g.tl, g.sg, g.sh, fun q hq => by have := g.sb q hq; omega, by have := g.bl; omega, g.sd⟩
theorem GoodHs.shok {m h : Int} {R : Rules} {i : Nat} {s : Hs} (g : GoodHs m h R i s) (hi : i ≤ 12) {ns : List Int} (sm : SmS ns) : ShOk s.sh ns :=
  ⟨g.sh, sm.sh, fun q hq => by have := g.sb q hq; omega, fun q hq => by have := sm.b q hq; omega, by have := g.len hi; have := sm.l; omega⟩
theorem good_add {m h : Int} {R : Rules} {i : Nat} {s : Hs} (g : GoodHs m h R i s) (hi : i ≤ 12) {ns ks : List Int} (sm : SmS ns) (e : addS 1000 s.sh ns = some ks) : Sh ks ∧ ∀ q ∈ ks, q ≤ 200 + 4 * (i : Int) := by
  rw [show (1000 : Nat) = (200 + 4 * i) + (1000 - (200 + 4 * i)) by omega, addS_up (fun q hq => by have := g.sb q hq; omega) (fun q hq => by have := sm.b q hq; omega)] at e
  obtain ⟨a, b, _⟩ := addS_some e
  exact ⟨a, fun q hq => by have := b q hq; omega⟩
/-- a word that is right at these works -/
def WsOk (R : Rules) (ws : List (Int × Wd)) : Prop := ∀ p ∈ ws, OkWd R p.2
theorem wsok_app {R : Rules} {a b : List (Int × Wd)} (x : WsOk R a) (y : WsOk R b) : WsOk R (a ++ b) := fun p hp => (List.mem_append.mp hp).elim (x p) (y p)
theorem wsok_one {R : Rules} {a : Int} {w : Wd} (o : OkWd R w) : WsOk R [(a, w)] := fun p hp => by cases List.mem_singleton.mp hp; exact o
theorem good_endA {m h : Int} {R : Rules} {i : Nat} {s : Hs} {out : List (Int × Wd)} (g : GoodHs m h R i s) (o : WsOk R out) : GoodHs m h R i (endA h s out).1 ∧ WsOk R (endA h s out).2 := by
  unfold endA
  split
  · exact ⟨g, o⟩
  · split
    · refine ⟨⟨g.bag, fun _ z => (nomatch z), g.de, g.se, g.tl, g.sg, g.sh, g.sb, g.bl, g.sd⟩, ?_⟩
      show WsOk R (if 0 < h then _ else _)
      split
      · exact wsok_app o (wsok_one (w := .ans) True.intro)
      · exact o
    · exact ⟨g, o⟩
theorem good_endL {m h : Int} {R : Rules} {i : Nat} {s : Hs} {out : List (Int × Wd)} (g : GoodHs m h R i s) (hi : i ≤ 12) (o : WsOk R out) : GoodHs m h R i (endL h s out).1 ∧ WsOk R (endL h s out).2 := by
  unfold endL
  split
  · exact ⟨g, o⟩
  · obtain ⟨ga, oa⟩ := good_endA g o
    unfold endB
    split
    · rename_i c
      refine ⟨⟨ga.bag, ga.par, ga.de, ga.se, ga.tl, ga.sg, ⟨by simp, by simp, by simp⟩, fun _ z => (nomatch z), ga.bl, ga.sd⟩, wsok_app oa (wsok_one (w := .share _) ⟨ga.sh, c.2, by have := ga.len hi; omega⟩)⟩
    · exact ⟨ga, oa⟩
theorem good_outs {R : Rules} {sh : List Int} (hs : Sh sh) (pos : 0 < sh.length) (l : sh.length ≤ 1000) : ∀ {j : Nat} {L : List (Int × Int × Int)}, (∀ x ∈ L, 0 ≤ x.2.1 ∧ x.2.1 < R.length ∧ 0 ≤ x.2.2 ∧ x.2.2 < 13) → WsOk R (outsL sh j L)
  | _, [], _ => fun _ z => nomatch z
  | j, (to, k, f) :: L, hx => by
    rw [outsL]
    intro p hp
    rcases List.mem_cons.mp hp with rfl | hp
    · obtain ⟨a, b, c, d⟩ := hx _ (List.mem_cons_self ..)
      exact ⟨a, b, c, d, sh_add hs (j + 1) (by omega), by simpa using pos, by simpa using l⟩
    · exact good_outs hs pos l (fun x h => hx x (List.mem_cons_of_mem _ h)) p hp
theorem sent_ok {m h : Int} {R : Rules} (ok : OkWorks m R) {t : Int × Int} (t2 : 0 ≤ t.2) (t3 : t.2 < 4) : ∀ x ∈ sentL m R h t, 0 ≤ x.2.1 ∧ x.2.1 < R.length ∧ 0 ≤ x.2.2 ∧ x.2.2 < 13 := by
  unfold sentL
  split
  · exact fun _ z => nomatch z
  · rename_i c
    intro x hx
    obtain ⟨p, hp, rfl⟩ := List.mem_map.mp hx
    have hR : R.getD t.1.toNat [] ∈ R := by
      rw [List.getD_eq_getElem?_getD] at hp ⊢
      cases e : R[t.1.toNat]? with
      | none => rw [e] at hp; exact absurd hp (List.not_mem_nil)
      | some ps => exact List.mem_of_getElem? e
    obtain ⟨_, a, b⟩ := (ok.at_ _ hR).at_ p hp
    exact ⟨a, b, by show 0 ≤ t.2 - 1; omega, by show t.2 - 1 < 13; omega⟩
theorem sent_nil {m h : Int} {R : Rules} {t : Int × Int} {sh : List Int} (c : ¬ (0 < (sentL m R h t).length ∧ sh.length = 0)) : sentL m R h t = [] ∨ 0 < sh.length := by
  cases e : sentL m R h t with
  | nil => exact .inl rfl
  | cons a l =>
    right
    rw [e] at c
    have : ¬ sh.length = 0 := fun z => c ⟨by simp, z⟩
    omega
theorem good_due {m h : Int} {R : Rules} (ok : OkWorks m R) {i : Nat} (hi : i < 12) {s : Hs} {d : Dd} (h0 : 0 ≤ h) (hm : h < m) (g : GoodHs m h R i s) (od : OkDd m h R d) {p : Hs × List (Int × Wd)} (e : dueL m R h s d = .inr p) : GoodHs m h R (i + 1) p.1 ∧ WsOk R p.2 := by
  have nilOk : WsOk R [] := fun _ z => nomatch z
  cases d with
  | give t =>
    cases e
    obtain ⟨o0, o1, o2, o3, o4⟩ := od
    refine ⟨⟨fun u hu => ?_, fun q hq => ?_, g.de, g.se, g.tl, g.sg, g.sh, g.more.sb, ?_, fun z => nomatch z⟩, nilOk⟩
    · rcases List.mem_append.mp hu with y | y
      · exact g.bag u y
      · cases List.mem_singleton.mp y; exact ⟨o1, o2, o3, o4⟩
    · cases hp : s.par with
      | none => simp [giftL, hp] at hq; subst hq; exact ⟨by omega, by omega, fun _ => rfl⟩
      | some q' => simp [giftL, hp] at hq; subst hq; exact g.par _ hp
    · have := g.bl
      show (s.bag ++ [t]).length ≤ _
      simp; omega
  | act =>
    have e' : doneL m R h s = .inr p := e
    unfold doneL at e'
    cases hb : s.bag with
    | nil => rw [hb] at e'; cases e'
    | cons t b =>
      rw [hb] at e'
      dsimp only at e'
      split at e'
      · cases e'
      · rename_i c
        obtain ⟨t0, t1, t2, t3⟩ := g.bag t (by rw [hb]; exact List.mem_cons_self ..)
        have lL := sent_len (m := m) (h := h) (t := t) ok
        have so := sent_ok (h := h) ok t2 t3
        have wo : WsOk R (outsL s.sh 0 (sentL m R h t)) := by
          rcases sent_nil c with z | z
          · rw [z]; exact nilOk
          · exact good_outs g.sh z (by have := g.len (by omega); omega) so
        generalize sentL m R h t = L at *
        injection e' with e'
        rw [← e']
        refine good_endL ⟨fun u hu => g.bag u (by rw [hb]; exact List.mem_cons_of_mem _ hu), g.par, by have := g.de; show 0 ≤ s.de + (L.length : Int); omega, by have := g.se; show 0 ≤ s.se + (L.length : Int); omega, g.tl, g.sg, sh_add' g.sh L.length, fun q hq => ?_, ?_, g.sd⟩ (by omega) wo
        · obtain ⟨q', hq', rfl⟩ := List.mem_map.mp hq
          have := g.sb q' hq'
          omega
        · have := g.bl
          rw [hb] at this
          simp at this
          show b.length ≤ _
          omega
  | pass =>
    have e' : passL m h s = .inr p := e
    unfold passL at e'
    cases hs : s.sg with
    | none => rw [hs] at e'; cases e'
    | some abc =>
      obtain ⟨x, y, z⟩ := abc
      rw [hs] at e'
      dsimp only at e'
      obtain ⟨x0, y0, z0, z1⟩ := g.sg x y z hs
      split at e'
      · cases e'
      · split at e'
        · rename_i c
          injection e' with e'
          rw [← e']
          exact ⟨⟨g.bag, g.par, g.de, g.se, g.tl, fun a b c e => g.sg a b c (by first | exact e | (rw [hs]; exact e)), g.sh, g.more.sb, g.more.bl, fun _ => c.1⟩, nilOk⟩
        · injection e' with e'
          rw [← e']
          refine ⟨⟨g.bag, g.par, g.de, g.se, g.tl, fun _ _ _ z => (nomatch z), g.sh, g.more.sb, g.more.bl, fun z => nomatch z⟩, ?_⟩
          show WsOk R (if h = 0 then _ else _)
          have := g.se
          have := g.tl
          split
          · exact wsok_one (w := .sign 0 0 0) ⟨by omega, by omega, by omega, by omega⟩
          · refine wsok_one (w := .sign _ _ _) ⟨by omega, by omega, ?_, ?_⟩ <;> split <;> decide
  | hear snd wd =>
    obtain ⟨s0, s1, ow, sw⟩ := od
    have e' : heardL h s snd wd = .inr p := e
    cases wd with
    | task k f ns =>
      unfold heardL at e'
      dsimp only at e'
      cases ha : addS 1000 s.sh ns with
      | none => rw [ha] at e'; cases e'
      | some ks =>
        rw [ha] at e'
        obtain ⟨a, b⟩ := good_add g (by omega) sw.2 ha
        obtain ⟨o1, o2, o3, o4, _⟩ := ow
        injection e' with e'
        rw [← e']
        refine ⟨⟨fun u hu => ?_, fun q hq => ?_, g.de, g.se, by have := g.tl; show 0 ≤ s.tl + 1; omega, g.sg, a, fun q hq => by have := b q hq; omega, ?_, g.sd⟩, ?_⟩
        · rcases List.mem_append.mp hu with y | y
          · exact g.bag u y
          · cases List.mem_singleton.mp y; exact ⟨o1, o2, o3, sw.1⟩
        · cases hp : s.par with
          | none =>
            simp [hp] at hq
            subst hq
            by_cases c : 0 < h
            · rw [if_pos c]; exact ⟨s0, s1, fun z => by omega⟩
            · rw [if_neg c]; exact ⟨by omega, by omega, fun _ => rfl⟩
          | some q' => simp [hp] at hq; subst hq; exact g.par _ hp
        · have := g.bl
          show (s.bag ++ [(k, f)]).length ≤ _
          simp; omega
        · show WsOk R (if s.par.isSome then _ else _)
          split
          · exact wsok_one (w := .ans) True.intro
          · exact nilOk
    | ans =>
      unfold heardL at e'
      dsimp only at e'
      split at e'
      · cases e'
      · rename_i c
        injection e' with e'
        rw [← e']
        exact good_endL ⟨g.bag, g.par, by have := g.de; show 0 ≤ s.de - 1; omega, g.se, g.tl, g.sg, g.sh, g.more.sb, g.more.bl, g.sd⟩ (by omega) nilOk
    | sign x y z =>
      unfold heardL at e'
      dsimp only at e'
      split at e'
      · cases e'
      · injection e' with e'
        rw [← e']
        exact ⟨⟨g.bag, g.par, g.de, g.se, g.tl, fun _ _ _ z => by cases z; exact ow, g.sh, g.more.sb, g.more.bl, g.sd⟩, nilOk⟩
    | share ns =>
      unfold heardL at e'
      dsimp only at e'
      split at e'
      · cases e'
      · cases ha : addS 1000 s.sh ns with
        | none => rw [ha] at e'; cases e'
        | some ks =>
          rw [ha] at e'
          obtain ⟨a, b⟩ := good_add g (by omega) sw ha
          injection e' with e'
          rw [← e']
          exact ⟨⟨g.bag, g.par, g.de, g.se, g.tl, g.sg, a, fun q hq => by have := b q hq; omega, g.more.bl, g.sd⟩, nilOk⟩
    | mark n =>
      injection e' with e'
      rw [← e']
      exact ⟨g.more, nilOk⟩
def spDDue : Sp := fun vs H Q _ => ∃ (lw r a d : Addr) (m h : Int) (R : Rules) (s : Hs) (dd : Dd) (i : Nat), vs = [.ref lw, .int h, .ref a, .ref d] ∧ H lw = some (.tup [.int m, .ref r]) ∧ Tr H (.ref r) (rulesD R) ∧ OkWorks m R ∧ HsAt H a s ∧ GoodHs m h R i s ∧ i ≤ 12 ∧ 0 ≤ h ∧ DdAt H d dd ∧ OkDd m h R dd ∧
  ∀ T H', Same H H' → DueAt H' T (dueL m R h s dd) → Q (.ref T) H'
section
variable {P : Program} {w : World} {K : PySem.W.Frag} {mg : Str → Option Value} {base : Heap}
theorem d_law_due9 (F : FunAt K mg "_law_due" s_law_due) (D_law_gift : Has P w K mg base 1 "_law_gift" ["state", "task"] spLGift) (D_law_do : Has P w K mg base 2 "_law_do" ["works", "house", "state"] spLDo) (D_law_hear : Has P w K mg base 3 "_law_hear" ["house", "state", "sender", "word"] spLHear) (D_law_pass : Has P w K mg base 2 "_law_pass" ["works", "house", "state"] spLPass) : Has P w K mg base 4 "_law_due" ["works", "house", "state", "deed"] spDDue := by
  refine mk_has F sc_law_due (fun _ _ _ _ _ _ us hl => match us, hl with | [_, _, _, _], _ => rfl) (fun vs H Q E h => ?_) fun f cdv A outer s H vs Q E hr h => ?_
  · obtain ⟨lw, r, a, d, m, h, R, st, dd, i, rfl, _⟩ := h
    rfl
  obtain ⟨lw, r, a, d, m, h, R, st, dd, i, rfl, ew, tr, ok, hst, g, hi, h0, hd, od, k⟩ := h
  refine ⟨_, (pss_cons (ps_if (pt_cmpR op_eq (pe_ix ix_tup (pv 3) pe_int (fun _ _ => rfl)) pe_str (nomark _))
    (pss_one (ps_ret (pe_tup (pa_cons pe_str (pa_cons (pe_h D_law_gift (hr.mono (by decide)) rfl (pa_cons (pv 2) (pa_cons (pe_ix ix_tup (pv 3) pe_int (fun _ _ => rfl)) pa_nil))) (pa_cons (pe_tup pa_nil) pa_nil))))))
    pss_nil)
    (pss_cons (ps_if (pt_cmpR op_eq (pe_ix ix_tup (pv 3) pe_int (fun _ _ => rfl)) pe_str (nomark _))
    (pss_one (ps_ret (pe_h D_law_do (hr.mono (by decide)) rfl (pa_cons (pv 0) (pa_cons (pv 1) (pa_cons (pv 2) pa_nil))))))
    pss_nil)
    (pss_cons (ps_if (pt_cmpR op_eq (pe_ix ix_tup (pv 3) pe_int (fun _ _ => rfl)) pe_str (nomark _))
    (pss_one (ps_ret (pe_h D_law_hear (hr.mono (by decide)) rfl (pa_cons (pv 1) (pa_cons (pv 2) (pa_cons (pe_ix ix_tup (pv 3) pe_int (fun _ _ => rfl)) (pa_cons (pe_ix ix_tup (pv 3) pe_int (fun _ _ => rfl)) pa_nil)))))))
    pss_nil)
    (pss_one (ps_ret (pe_h D_law_pass (hr.mono (by decide)) rfl (pa_cons (pv 0) (pa_cons (pv 1) (pa_cons (pv 2) pa_nil))))))))), ?_⟩
  cases dd with
  | give t =>
    obtain ⟨b, ed, eb⟩ := hd
    have d0 : atI [V.str "give", .ref b] 0 = some (.str "give") := atI_nat rfl
    have d1 : atI [V.str "give", .ref b] 1 = some (.ref b) := atI_nat rfl
    trivial
    have hp0 : st.par.getD 0 = 0 := by
      cases e : st.par with
      | none => rfl
      | some q => exact (g.par q e).2.2 od.1
    refine ⟨(show Tr H (.ref b) (taskP t) from .tup eb (.cons (.int _) (.cons (.int _) .nil))), hp0, by have := g.bl; omega, fun q H1 s1 hq => ?_⟩
    trivial
    intro u nu
    have su := same_new0 (o := .tup []) nu
    have eu : upd H1 u (.tup []) u = some (.tup []) := upd_same
    generalize upd H1 u (.tup []) = H2 at *
    trivial
    intro T nT
    have sT := same_new0 (o := .tup [.str "told", .ref q, .ref u]) nT
    exact k T _ ((s1.trans su).trans sT) ⟨q, u, [], upd_same, hq.tk (tk_of (su.trans sT)), sT _ _ eu, .nil⟩
  | act =>
    have ed : H d = some (.tup [.str "do"]) := hd
    have d0 : atI [V.str "do"] 0 = some (.str "do") := atI_nat rfl
    trivial
    exact ⟨(g.ok hi).bag, (g.ok hi).sl, fun T H1 s1 x => k T H1 s1 x⟩
  | pass =>
    have ed : H d = some (.tup [.str "pass"]) := hd
    have d0 : atI [V.str "pass"] 0 = some (.str "pass") := atI_nat rfl
    trivial
    exact fun T H1 s1 x => k T H1 s1 x
  | hear snd wd =>
    obtain ⟨b, ed, eb⟩ := hd
    have d0 : atI [V.str "hear", .int snd, .ref b] 0 = some (.str "hear") := atI_nat rfl
    have d1 : atI [V.str "hear", .int snd, .ref b] 1 = some (.int snd) := atI_nat rfl
    have d2 : atI [V.str "hear", .int snd, .ref b] 2 = some (.ref b) := atI_nat rfl
    trivial
    refine ⟨by have := g.bl; omega, fun kk ff ns e => ?_, fun ns e => ?_, fun T H1 s1 x => k T H1 s1 x⟩
    · subst e
      exact g.shok hi od.2.2.2.2
    · subst e
      exact g.shok hi od.2.2.2
end
end KQ
set_option Elab.async false
set_option maxRecDepth 100000
set_option maxHeartbeats 4000000
namespace KQ
open PySem PySem.Spec PyProof.Rows L2
local macro_rules | `(tactic| walk_at "kq hp") => `(tactic| (first | assumption | exact upd_same | (rw [upd_ne (by first | assumption | exact Ne.symm (by assumption))]; first | assumption | exact upd_same | (rw [upd_ne (by first | assumption | exact Ne.symm (by assumption))]; first | assumption | exact upd_same))))
local macro_rules | `(tactic| walk_at "kq do") => `(tactic| (first | decide | omega))
local macro_rules | `(tactic| walk_at "kq cl") => `(tactic| focus (first | rfl | assumption | exact upd_same | exact SqL.of (by walk_at "kq hp") | exact SqT.of (by walk_at "kq hp") | exact Or.inl (SqL.of (by walk_at "kq hp")) | exact Or.inr (SqT.of (by walk_at "kq hp")) | exact Or.inl ⟨rfl, _, SqL.of (by walk_at "kq hp")⟩ | walk_at "kq hp" | decide | exact Nat.le_of_ble_eq_true rfl | omega | (show ∃ xs, SqL _ _ _ xs; exact ⟨_, SqL.of (by walk_at "kq hp")⟩) | (show ∃ xs, SqT _ _ _ xs; exact ⟨_, SqT.of (by walk_at "kq hp")⟩) | exact DGet.k (k := Sum.inl _) (by walk_at "kq hp") | (show V.int _ = kV (Sum.inl _); rfl) | (show ∃ z, V.str _ = V.str z; exact ⟨_, rfl⟩) | exact Or.inl ⟨by walk_at "kq do", by walk_at "kq do"⟩ | exact Or.inr ⟨by walk_at "kq do", by walk_at "kq do"⟩ | exact ⟨by walk_at "kq do", by walk_at "kq do"⟩ | exact ⟨by decide, by decide, by decide⟩ | exact L2.ClsV.ty _ | exact Dt.ty (by assumption) | exact Dt.kint (by assumption) | exact Dt.kbool (by assumption) | exact Dt.ktuple (by assumption) | exact Dt.klist (by assumption) | exact Dt.kstr (by assumption)))
local macro_rules | `(tactic| trivial) => `(tactic| repeat (first | refine sl_go (by walk_at "kq hp") ?_ | (unfold tNoPart; refine sl_go (by walk_at "kq hp") ?_) | refine cat_go (by walk_at "kq hp") (by walk_at "kq hp") ?_ ?_ | (apply And.intro; walk_at "kq cl") | (apply Exists.intro; apply And.intro; walk_at "kq cl") | (apply Exists.intro; apply Exists.intro; apply And.intro; walk_at "kq cl") | (apply Exists.intro; apply Exists.intro; apply Exists.intro; apply And.intro; walk_at "kq cl") | (apply Exists.intro; apply Exists.intro; apply Exists.intro; apply Exists.intro; apply And.intro; walk_at "kq cl") | (apply Exists.intro; apply Exists.intro; apply Exists.intro; apply Exists.intro; apply Exists.intro; apply And.intro; walk_at "kq cl") | (apply Exists.intro; apply Exists.intro; apply Exists.intro; apply Exists.intro; apply Exists.intro; apply Exists.intro; apply And.intro; walk_at "kq cl") | (apply Exists.intro; apply Exists.intro; apply Exists.intro; apply Exists.intro; apply Exists.intro; apply Exists.intro; apply Exists.intro; apply And.intro; walk_at "kq cl") | (apply Exists.intro; apply Exists.intro; apply Exists.intro; apply Exists.intro; apply Exists.intro; apply Exists.intro; apply Exists.intro; apply Exists.intro; apply And.intro; walk_at "kq cl") | (apply Exists.intro; apply Exists.intro; apply Exists.intro; apply Exists.intro; apply Exists.intro; apply Exists.intro; apply Exists.intro; apply Exists.intro; apply Exists.intro; apply And.intro; walk_at "kq cl") | refine Or.inl ⟨_, rfl, ?_⟩ | refine Or.inr ⟨_, rfl, ?_⟩ | refine Or.inr ⟨SqT.of (by walk_at "kq hp"), SqT.of (by walk_at "kq hp"), ?_⟩ | refine Or.inl ⟨SqL.of (by walk_at "kq hp"), SqL.of (by walk_at "kq hp"), ?_⟩ | refine Or.inl ⟨SqL.of (by walk_at "kq hp"), ?_⟩ | refine Or.inr ⟨SqT.of (by walk_at "kq hp"), ?_⟩ | refine ifT rfl ?_ | refine ifF rfl ?_))
/-! ### told and due are one -/
def spIsC (K : PySem.W.Frag) (n : Nat) : Sp := fun vs H Q _ => ∃ (a b : V) (d : PyData), vs = [a, b] ∧ Tc K H a d ∧ Tr H b d ∧ d.depth ≤ n ∧ thin d = true ∧ ∀ H', Same H H' → Q (.bl true) H'
theorem Tc.ty {K : PySem.W.Frag} {H : Hp} {v : V} {d : PyData} (r : Tc K H v d) : TyX K H v (.type (tyN d)) := by
  cases r with
  | non => exact .base .non
  | bl b => exact .base (.bl b)
  | int i => exact .base (.int i)
  | str x => exact .base (.str x)
  | tup e _ => exact e.ty
theorem isiT_tc {K : PySem.W.Frag} {H : Hp} {v : V} {d : PyData} {tp : Addr} {Q : VK} (r : Tc K H v d) (h : H tp = some (.tup [.ty "tuple", .ty "list"])) (q : Q (.bl (isT "tuple" d || isT "list" d)) H) : rIsiT K [v, .ref tp] H Q := by
  refine ⟨v, tp, _, _, [.type "tuple", .type "list"], _, rfl, h, .cons (.ty _) (.cons (.ty _) .nil), r.ty, ?_, q⟩
  cases e1 : isT "tuple" d with
  | true => exact kitAny_cons (b := true) (by rw [kit_tuple, e1]) (fun z => nomatch z) fun _ => rfl
  | false =>
    refine kitAny_cons (b := false) (by rw [kit_tuple, e1]) (fun _ => ?_) fun z => nomatch z
    cases e2 : isT "list" d with
    | true => exact kitAny_cons (b := true) (by rw [kit_list, e2]) (fun z => nomatch z) fun _ => rfl
    | false => exact kitAny_cons (b := false) (by rw [kit_list, e2]) (fun _ => kitAny_nil) fun z => nomatch z
section
variable {P : Program} {w : World} {K : PySem.W.Frag} {mg : Str → Option Value} {base : Heap}
theorem isc_step (B : Bi mg) (F : FunAt K mg "_law_is" s_law_is) (n : Nat) (D_law_is : Has P w K mg base n "_law_is" ["told", "due"] (fun vs H Q E => ∃ m, m + 1 = n ∧ spIsC K m vs H Q E)) :
    Has P w K mg base (n + 1) "_law_is" ["told", "due"] (spIsC K n) := by
  refine mk_has F sc_law_is (fun _ _ _ _ _ _ us hl => match us, hl with | [_, _], _ => rfl) (fun vs H Q E h => ?_) fun f cdv A outer s H vs Q E hr h => ?_
  · obtain ⟨a, b, d, rfl, _⟩ := h
    rfl
  obtain ⟨a, b, d, rfl, ra, rb, hd, ht, k⟩ := h
  refine ⟨_, (pss_cons (ps_if (pt_val (pe_callB call_isiT rfl B.isinstance (by decide +kernel) (pa_cons (pv 1) (pa_cons (pe_tup (pa_cons (pe_bltn (v := .ty "tuple") rfl B.tuple (by decide +kernel) rfl) (pa_cons (pe_bltn (v := .ty "list") rfl B.list (by decide +kernel) rfl) pa_nil))) pa_nil))))
    (pss_cons (ps_if (PW.pt (pw_or (pt_cmpR op_ne (pe_callB call_isi rfl B.isinstance (by decide +kernel) (pa_cons (pv 0) (pa_cons (pe_bltn (v := .ty "tuple") rfl B.tuple (by decide +kernel) rfl) pa_nil))) (pe_callB call_isi rfl B.isinstance (by decide +kernel) (pa_cons (pv 1) (pa_cons (pe_bltn (v := .ty "tuple") rfl B.tuple (by decide +kernel) rfl) pa_nil))) (nomark _)) (pw_or1 (pt_not (pt_val (pe_callB call_isiT rfl B.isinstance (by decide +kernel) (pa_cons (pv 0) (pa_cons (pe_tup (pa_cons (pe_bltn (v := .ty "tuple") rfl B.tuple (by decide +kernel) rfl) (pa_cons (pe_bltn (v := .ty "list") rfl B.list (by decide +kernel) rfl) pa_nil))) pa_nil))))))))
    (pss_one (ps_ret pe_bl))
    pss_nil)
    (pss_one (ps_ret (pe_and (pe_cmpR op_eq (pe_callB call_len_seq rfl B.len PySem.boot_len (pa_cons (pv 0) pa_nil)) (pe_callB call_len_seq rfl B.len PySem.boot_len (pa_cons (pv 1) pa_nil)) (nomark _)) (pe_one (pe_callB (cr_all rfl) rfl B.all (by decide +kernel) (pa_cons (pe_lc (own := [("one", 2), ("two", 3)]) (g := gTup K 2 (gCons (gName 2) (gCons (gName 3) gNil))) (tt := tYes) (te := (tCall (fun vs H Q E => ∃ m, m + 1 = n ∧ spIsC K m vs H Q E) [] E0 (tCons (tVar 2) (tCons (tVar 3) tNil)))) rfl sc_law_is.nd (RZ.pi_zipA rfl B.zip (pa_cons (pv 0) (pa_cons (pv 1) pa_nil))) (blkOk_by (own := [("one", 2), ("two", 3)]) (N := ["told", "due", "one", "two"]) (sc := defScope s_law_is) (by decide +kernel)) (fun _ _ _ _ _ => (pg_tup rfl (pgs_cons (pg_name (i := 2) sc_law_is.nd rfl (Or.inl rfl)) (pgs_cons (pg_name (i := 3) sc_law_is.nd rfl (Or.inl rfl)) pgs_nil)))) (fun _ _ _ _ _ => pts_nil) (fun _ _ _ _ _ => (pe_h D_law_is hr rfl (pa_cons (pv 2) (pa_cons (pv 3) pa_nil))))) pa_nil)))))))
    pss_nil)
    (pss_one (ps_ret (pe_and (pe_cmpR op_eq (pe_callB call_isi rfl B.isinstance (by decide +kernel) (pa_cons (pv 0) (pa_cons (pe_bltn (v := .ty "bool") rfl B.bool (by decide +kernel) rfl) pa_nil))) (pe_callB call_isi rfl B.isinstance (by decide +kernel) (pa_cons (pv 1) (pa_cons (pe_bltn (v := .ty "bool") rfl B.bool (by decide +kernel) rfl) pa_nil))) (nomark _)) (pe_one (pe_cmpR op_eq (pv 0) (pv 1) (nomark _))))))), ?_⟩
  trivial
  intro t1 n1
  have st1 := same_new0 (o := .tup [.ty "tuple", .ty "list"]) n1
  have rb1 := rb.tk (tk_of st1)
  have ra1 := ra.tk (tk_of st1)
  unfold tNil
  refine isiT_go rb1.rp upd_same ?_
  have k0 : ∀ {c : Bool} {H1 : Hp}, Same H H1 → c = true → Q (.bl c) H1 := fun s e => by rw [e]; exact k _ s
  have db := rb1.rp.dt
  have ta := ra1.ty
  cases ra with
  | @tup pa xs ds ha aa =>
    cases rb with
    | @tup pb ys _ hb ab =>
    trivial
    intro t2 n2
    have ra2 : Tc K (upd (upd H t1 (.tup [.ty "tuple", .ty "list"])) t2 (.tup [.ty "tuple", .ty "list"])) (.ref pa) (.tuple ds) := ra1.tk (tk_of (same_new0 n2))
    refine isiT_tc ra2 upd_same ?_
    have s2 := st1.trans (same_new0 (o := .tup [.ty "tuple", .ty "list"]) n2)
    have ha2 := (ha.tk (tk_of s2)).sq
    have hb2 := s2 _ _ hb
    rw [thin, Bool.and_eq_true, decide_eq_true_eq] at ht
    have aa_len : xs.length ≤ 16777216 := by have := ht.1; have := aa.len; omega
    have el : xs.length = ys.length := aa.len.trans ab.len.symm
    trivial
    refine ⟨.inr ha2, ?_⟩
    trivial
    refine ifT (by rw [el]; simp) ?_
    refine ⟨_, rfl, _, rfl, pa, pb, xs, ys, rfl, .inr ⟨ha2, SqT.of hb2, fun D nD => ?_⟩⟩
    refine lc_map (walk_zipT (show xs.length = min xs.length ys.length by rw [el]; simp)) (List.replicate xs.length (.bl true)) (by simp) nD aa_len (fun i H' _ s => ⟨(ha.tk (tk_of (s2.trans s))).sq, SqT.of (s _ _ hb2)⟩) (fun i x H3 H4 Pn hi s3 y fin => ?_) fun H3 s3 e1 => ?_
    · obtain ⟨T, x, z, rfl, nT, rfl, gx, gz⟩ := ypair y
      obtain ⟨dx, gdx, rx⟩ := aa.at_ gx
      obtain ⟨dz, gdz, rz⟩ := ab.at_ gz
      rw [gdx] at gdz
      cases gdz
      have mx := List.mem_of_getElem? gdx
      have s4 : Same H (upd H3 T (.tup [x, z])) := (s2.trans s3).trans (same_new0 nT)
      have hd' : dx.depth + 1 ≤ n := Nat.le_trans (Nat.succ_le_succ (depth_mem mx)) hd
      refine ⟨_, _, rfl, SqT.of upd_same, rfl, _, _, rfl, _, _, rfl, rfl, rfl, ?_⟩
      refine ⟨_, rfl, _, rfl, n - 1, by omega, x, z, dx, rfl, rx.tk (tk_of s4), rz.tk (tk_of s4), by omega, thin_mem ht.2 mx, fun H5 s5 => ?_⟩
      exact fin _ _ (by rw [List.getElem?_replicate, if_pos hi]) ((same_new0 nT).trans s5)
    · rw [show (List.replicate xs.length (V.bl true)) = (List.replicate xs.length true).map V.bl by simp] at e1
      trivial
      exact k0 (s2.trans s3) (by simp)
  | non =>
    cases rb
    have da : Dt (upd H t1 (.tup [.ty "tuple", .ty "list"])) .non "NoneType" := .non
    trivial
    exact k0 st1 (by simp)
  | int i =>
    cases rb
    have da : Dt (upd H t1 (.tup [.ty "tuple", .ty "list"])) (.int i) "int" := .int i
    trivial
    exact k0 st1 (by simp)
  | bl i =>
    cases rb
    have da : Dt (upd H t1 (.tup [.ty "tuple", .ty "list"])) (.bl i) "bool" := .bl i
    trivial
    exact k0 st1 (by simp)
  | str i =>
    cases rb
    have da : Dt (upd H t1 (.tup [.ty "tuple", .ty "list"])) (.str i) "str" := .str i
    trivial
    exact k0 st1 (by simp)
theorem d_law_isC (B : Bi mg) (F : FunAt K mg "_law_is" s_law_is) : ∀ n : Nat, Has P w K mg base (n + 1) "_law_is" ["told", "due"] (spIsC K n)
  | 0 => isc_step B F 0 (has_none F (fun _ _ _ _ _ _ us hl => match us, hl with | [_, _], _ => rfl) fun _ _ _ _ ⟨_, e, _⟩ => nomatch e)
  | n + 1 => isc_step B F (n + 1) ((d_law_isC B F n).imp fun _ _ _ _ ⟨m, e, q⟩ => by cases e; exact q)
end
end KQ
set_option Elab.async false
set_option maxRecDepth 100000
set_option maxHeartbeats 4000000
namespace KQ
open PySem PySem.Spec PyProof.Rows L2
local macro_rules | `(tactic| walk_at "kq hp") => `(tactic| (first | assumption | exact upd_same | (rw [upd_ne (by first | assumption | exact Ne.symm (by assumption))]; first | assumption | exact upd_same | (rw [upd_ne (by first | assumption | exact Ne.symm (by assumption))]; first | assumption | exact upd_same))))
local macro_rules | `(tactic| walk_at "kq do") => `(tactic| (first | decide | omega))
local macro_rules | `(tactic| walk_at "kq cl") => `(tactic| focus (first | rfl | assumption | exact upd_same | exact SqL.of (by walk_at "kq hp") | exact SqT.of (by walk_at "kq hp") | exact Or.inl (SqL.of (by walk_at "kq hp")) | exact Or.inr (SqT.of (by walk_at "kq hp")) | exact Or.inl ⟨rfl, _, SqL.of (by walk_at "kq hp")⟩ | walk_at "kq hp" | decide | exact Nat.le_of_ble_eq_true rfl | omega | (show ∃ xs, SqL _ _ _ xs; exact ⟨_, SqL.of (by walk_at "kq hp")⟩) | (show ∃ xs, SqT _ _ _ xs; exact ⟨_, SqT.of (by walk_at "kq hp")⟩) | exact DGet.k (k := Sum.inl _) (by walk_at "kq hp") | (show V.int _ = kV (Sum.inl _); rfl) | (show ∃ z, V.str _ = V.str z; exact ⟨_, rfl⟩) | exact Or.inl ⟨by walk_at "kq do", by walk_at "kq do"⟩ | exact Or.inr ⟨by walk_at "kq do", by walk_at "kq do"⟩ | exact ⟨by walk_at "kq do", by walk_at "kq do"⟩ | exact ⟨by decide, by decide, by decide⟩ | exact L2.ClsV.ty _ | exact Dt.ty (by assumption) | exact Dt.kint (by assumption) | exact Dt.kbool (by assumption) | exact Dt.ktuple (by assumption) | exact Dt.klist (by assumption) | exact Dt.kstr (by assumption)))
local macro_rules | `(tactic| trivial) => `(tactic| repeat (first | refine sl_go (by walk_at "kq hp") ?_ | (unfold tNoPart; refine sl_go (by walk_at "kq hp") ?_) | refine cat_go (by walk_at "kq hp") (by walk_at "kq hp") ?_ ?_ | (apply And.intro; walk_at "kq cl") | (apply Exists.intro; apply And.intro; walk_at "kq cl") | (apply Exists.intro; apply Exists.intro; apply And.intro; walk_at "kq cl") | (apply Exists.intro; apply Exists.intro; apply Exists.intro; apply And.intro; walk_at "kq cl") | (apply Exists.intro; apply Exists.intro; apply Exists.intro; apply Exists.intro; apply And.intro; walk_at "kq cl") | (apply Exists.intro; apply Exists.intro; apply Exists.intro; apply Exists.intro; apply Exists.intro; apply And.intro; walk_at "kq cl") | (apply Exists.intro; apply Exists.intro; apply Exists.intro; apply Exists.intro; apply Exists.intro; apply Exists.intro; apply And.intro; walk_at "kq cl") | (apply Exists.intro; apply Exists.intro; apply Exists.intro; apply Exists.intro; apply Exists.intro; apply Exists.intro; apply Exists.intro; apply And.intro; walk_at "kq cl") | (apply Exists.intro; apply Exists.intro; apply Exists.intro; apply Exists.intro; apply Exists.intro; apply Exists.intro; apply Exists.intro; apply Exists.intro; apply And.intro; walk_at "kq cl") | (apply Exists.intro; apply Exists.intro; apply Exists.intro; apply Exists.intro; apply Exists.intro; apply Exists.intro; apply Exists.intro; apply Exists.intro; apply Exists.intro; apply And.intro; walk_at "kq cl") | refine Or.inl ⟨_, rfl, ?_⟩ | refine Or.inr ⟨_, rfl, ?_⟩ | refine Or.inr ⟨SqT.of (by walk_at "kq hp"), SqT.of (by walk_at "kq hp"), ?_⟩ | refine Or.inl ⟨SqL.of (by walk_at "kq hp"), SqL.of (by walk_at "kq hp"), ?_⟩ | refine Or.inl ⟨SqL.of (by walk_at "kq hp"), ?_⟩ | refine Or.inr ⟨SqT.of (by walk_at "kq hp"), ?_⟩ | refine ifT rfl ?_ | refine ifF rfl ?_))
/-! ### what a deed makes of a state -/
def TellAt (K : PySem.W.Frag) (H : Hp) (T : Addr) : Res9 → Prop
  | .inl y => H T = some (.tup [.str "refused", .str (whyS y)])
  | .inr p => ∃ a o os, H T = some (.tup [.str "told", .ref a, .ref o]) ∧ HsAt H a p.1 ∧ Tp K H o os ∧ TcAll K H os (p.2.map outP)
theorem kin_len {R : Rules} (h : ∀ ps ∈ R, ps.length ≤ 3) (k : Int) : (kin R k).length ≤ 3 := by
  unfold kin
  rw [List.getD_eq_getElem?_getD]
  cases e : R[k.toNat]? with
  | none => simp
  | some ps => exact h ps (List.mem_of_getElem? e)
theorem sum_le {g : Int × Int → Int} {b : Int} (hg : ∀ p, g p ≤ b) (b0 : 0 ≤ b) : ∀ {l : List (Int × Int)}, l.length ≤ 3 → (l.map g).sum ≤ 3 * b
  | [], _ => by show (0 : Int) ≤ 3 * b; omega
  | [p], _ => by have := hg p; show g p + 0 ≤ 3 * b; omega
  | [p, q], _ => by have := hg p; have := hg q; show g p + (g q + 0) ≤ 3 * b; omega
  | [p, q, r], _ => by have := hg p; have := hg q; have := hg r; show g p + (g q + (g r + 0)) ≤ 3 * b; omega
  | _ :: _ :: _ :: _ :: _, h => by simp at h
theorem tot_le {R : Rules} (h : ∀ ps ∈ R, ps.length ≤ 3) : ∀ k, tot R 0 k ≤ 1 ∧ tot R 1 k ≤ 4 ∧ tot R 2 k ≤ 13 ∧ tot R 3 k ≤ 40 := by
  have h0 : ∀ k, tot R 0 k ≤ 1 := fun k => by rw [tot]; omega
  have h1 : ∀ k, tot R 1 k ≤ 4 := fun k => by rw [tot]; have := sum_le (g := fun p => tot R 0 p.2) (b := 1) (fun p => h0 _) (by omega) (kin_len h k); omega
  have h2 : ∀ k, tot R 2 k ≤ 13 := fun k => by rw [tot]; have := sum_le (g := fun p => tot R 1 p.2) (b := 4) (fun p => h1 _) (by omega) (kin_len h k); omega
  have h3 : ∀ k, tot R 3 k ≤ 40 := fun k => by rw [tot]; have := sum_le (g := fun p => tot R 2 p.2) (b := 13) (fun p => h2 _) (by omega) (kin_len h k); omega
  exact fun k => ⟨h0 k, h1 k, h2 k, h3 k⟩
theorem tot_500 {R : Rules} (h : ∀ ps ∈ R, ps.length ≤ 3) {t : Int × Int} (t2 : 0 ≤ t.2) (t3 : t.2 < 4) : tot R t.2.toNat t.1 ≤ 500 := by
  obtain ⟨a, b, c, d⟩ := tot_le h t.1
  rcases (show t.2.toNat = 0 ∨ t.2.toNat = 1 ∨ t.2.toNat = 2 ∨ t.2.toNat = 3 by omega) with e | e | e | e <;> rw [e] <;> omega
theorem done_why {m h : Int} {R : Rules} {s : Hs} {y : Why} (e : doneL m R h s = .inl y) : y = .there ∨ y = .share := by
  unfold doneL at e
  split at e
  · cases e; exact .inl rfl
  · split at e
    · cases e; exact .inr rfl
    · cases e
theorem pass_why {m h : Int} {s : Hs} {y : Why} (e : passL m h s = .inl y) : y = .sign := by
  unfold passL at e
  split at e
  · cases e; rfl
  · split at e
    · cases e; rfl
    · split at e <;> cases e
theorem heard_why {h snd : Int} {s : Hs} {wd : Wd} {y : Why} (e : heardL h s snd wd = .inl y) : y = .word := by
  unfold heardL at e
  split at e
  · split at e
    · cases e; rfl
    · cases e
  · split at e
    · cases e; rfl
    · cases e
  · split at e
    · cases e; rfl
    · cases e
  · split at e
    · cases e; rfl
    · split at e
      · cases e; rfl
      · cases e
  · cases e
def spCalled (K : PySem.W.Frag) (C : Addr) : Sp := fun vs H Q _ => ∃ (w r a d : Addr) (m h : Int) (R : Rules) (s : Hs) (dd : Dd) (i : Nat), vs = [.ref w, .int h, .ref a, .ref d] ∧ WorksAt C H w (.int m) (.ref r) ∧ Tr H (.ref r) (rulesD R) ∧ OkWorks m R ∧ (∀ ps ∈ R, ps.length ≤ 3) ∧ HsAt H a s ∧ GoodHs m h R i s ∧ i ≤ 12 ∧ 0 ≤ h ∧ h < m ∧ DdAt H d dd ∧ OkDd m h R dd ∧
  ∀ T H', Same H H' → TellAt K H' T (dueL m R h s dd) → Q (.ref T) H'
abbrev tRef2 (x : String) : TS := tRet (tTup (tCons (tC (.str "refused")) (tCons (tC (.str (Str.ofString x))) tNil)))
section
variable {P : Program} {w : World} {K : PySem.W.Frag} {mg : Str → Option Value} {base : Heap} {C CH CT CI CS CW CG CQ : Addr}
theorem d_law_called (B : Bi mg) (F : FunAt K mg "_law_called" s_law_called) (x_NothingThere : ExcAt K mg "NothingThere" CI) (x_NoShare : ExcAt K mg "NoShare" CS) (x_NoWord : ExcAt K mg "NoWord" CW) (x_NoSign : ExcAt K mg "NoSign" CG) (x_QuietError : ExcAt K mg "QuietError" CQ)
    (nSI : PySem.W.exmOne K (.ref CS) (.ref CI) = some false) (nWI : PySem.W.exmOne K (.ref CW) (.ref CI) = some false) (nWS : PySem.W.exmOne K (.ref CW) (.ref CS) = some false) (nGI : PySem.W.exmOne K (.ref CG) (.ref CI) = some false) (nGS : PySem.W.exmOne K (.ref CG) (.ref CS) = some false) (nGW : PySem.W.exmOne K (.ref CG) (.ref CW) = some false)
    (D_gifted : HasX P w K mg base 7 "gifted" ["works", "state", "task"] (spGift K C)) (D_done : HasX P w K mg base 6 "done" ["works", "house", "state"] (spDone K C CH CT CI CS)) (D_heard : HasX P w K mg base 8 "heard" ["works", "house", "state", "sender", "word"] (spHeard K C CW)) (D_passed : HasX P w K mg base 5 "passed" ["works", "house", "state"] (spPassed K C CG)) : Has P w K mg base 9 "_law_called" ["ruled", "house", "state", "deed"] (spCalled K C) := by
  refine mk_has F sc_law_called (fun _ _ _ _ _ _ us hl => match us, hl with | [_, _, _, _], _ => rfl) (fun vs H Q E h => ?_) fun f cdv A outer s H vs Q E hr h => ?_
  · obtain ⟨w0, r, a, d, m, h, R, st, dd, i, rfl, _⟩ := h
    rfl
  obtain ⟨w0, r, a, d, m, h, R, st, dd, i, rfl, hw, tr, ok, r3, hst, g, hi, h0, h1, hd, od, k⟩ := h
  refine ⟨_, (pss_cons (ps_try_many (tb := fun W => tIfS (tTest (tOp rEq (tOp (rIxT K) (tVar 3) (tC (.int 0))) (tC (.str "give")))) (tAsg (tCallS (spGift K C) (WE W) (tCons (tVar 0) (tCons (tVar 2) (tCons (tOp (rIxT K) (tVar 3) (tC (.int 1))) tNil)))) (gName 4))
      (tIfS (tTest (tOp rEq (tOp (rIxT K) (tVar 3) (tC (.int 0))) (tC (.str "do")))) (tAsg (tCallS (spDone K C CH CT CI CS) (WE W) (tCons (tVar 0) (tCons (tVar 1) (tCons (tVar 2) tNil)))) (gName 4))
      (tIfS (tTest (tOp rEq (tOp (rIxT K) (tVar 3) (tC (.int 0))) (tC (.str "hear")))) (tAsg (tCallS (spHeard K C CW) (WE W) (tCons (tVar 0) (tCons (tVar 1) (tCons (tVar 2) (tCons (tOp (rIxT K) (tVar 3) (tC (.int 1))) (tCons (tOp (rIxT K) (tVar 3) (tC (.int 2))) tNil)))))) (gName 4))
        (tAsg (tCallS (spPassed K C CG) (WE W) (tCons (tVar 0) (tCons (tVar 1) (tCons (tVar 2) tNil)))) (gName 4)))))
    (l := [(.ref CI, fun _ _ _ => tRef2 "nothing there"), (.ref CS, fun _ _ _ => tRef2 "share"), (.ref CW, fun _ _ _ => tRef2 "word"), (.ref CG, fun _ _ _ => tRef2 "sign"), (.ref CQ, fun _ _ _ => tRef2 "other")]) (Wout := fun _ _ _ _ => False) rfl rfl takes0
    (fun W pn xe tk _ => (pss_one (ps_if (pt_cmpR op_eq (pe_ix ix_tup (pv 3) pe_int (fun _ _ => rfl)) pe_str (nomark _))
    (pss_one (ps_set (i := 4) sc_law_called.nd rfl (Or.inl rfl) (pe_hX tk D_gifted (hr.mono (by decide)) rfl (pa_cons (pv 0) (pa_cons (pv 2) (pa_cons (pe_ix ix_tup (pv 3) pe_int (fun _ _ => rfl)) pa_nil))))))
    (pss_one (ps_if (pt_cmpR op_eq (pe_ix ix_tup (pv 3) pe_int (fun _ _ => rfl)) pe_str (nomark _))
    (pss_one (ps_set (i := 4) sc_law_called.nd rfl (Or.inl rfl) (pe_hX tk D_done (hr.mono (by decide)) rfl (pa_cons (pv 0) (pa_cons (pv 1) (pa_cons (pv 2) pa_nil))))))
    (pss_one (ps_if (pt_cmpR op_eq (pe_ix ix_tup (pv 3) pe_int (fun _ _ => rfl)) pe_str (nomark _))
    (pss_one (ps_set (i := 4) sc_law_called.nd rfl (Or.inl rfl) (pe_hX tk D_heard (hr.mono (by decide)) rfl (pa_cons (pv 0) (pa_cons (pv 1) (pa_cons (pv 2) (pa_cons (pe_ix ix_tup (pv 3) pe_int (fun _ _ => rfl)) (pa_cons (pe_ix ix_tup (pv 3) pe_int (fun _ _ => rfl)) pa_nil))))))))
    (pss_one (ps_set (i := 4) sc_law_called.nd rfl (Or.inl rfl) (pe_hX tk D_passed (hr.mono (by decide)) rfl (pa_cons (pv 0) (pa_cons (pv 1) (pa_cons (pv 2) pa_nil)))))))))))))
    (.cons ⟨rfl, by decide, .inl x_NothingThere.g⟩ (fun a oe cls d pn hz hf => pss_one (ps_ret (pe_tup (pa_cons pe_str (pa_cons pe_str pa_nil)))))
    (.cons ⟨rfl, by decide, .inl x_NoShare.g⟩ (fun a oe cls d pn hz hf => pss_one (ps_ret (pe_tup (pa_cons pe_str (pa_cons pe_str pa_nil)))))
    (.cons ⟨rfl, by decide, .inl x_NoWord.g⟩ (fun a oe cls d pn hz hf => pss_one (ps_ret (pe_tup (pa_cons pe_str (pa_cons pe_str pa_nil)))))
    (.cons ⟨rfl, by decide, .inl x_NoSign.g⟩ (fun a oe cls d pn hz hf => pss_one (ps_ret (pe_tup (pa_cons pe_str (pa_cons pe_str pa_nil)))))
    (.cons ⟨rfl, by decide, .inl x_QuietError.g⟩ (fun a oe cls d pn hz hf => pss_one (ps_ret (pe_tup (pa_cons pe_str (pa_cons pe_str pa_nil))))) .nil))))))
    (pss_cons (ps_if (PW.pt (pw_or (pt_not (pt_val (pe_callB call_isi rfl B.isinstance (by decide +kernel) (pa_cons (pv 4) (pa_cons (pe_bltn (v := .ty "tuple") rfl B.tuple (by decide +kernel) rfl) pa_nil))))) (pw_or1 (pt_cmpR op_ne (pe_callB call_len_seq rfl B.len PySem.boot_len (pa_cons (pv 4) pa_nil)) pe_int (nomark _)))))
    (pss_one (ps_ret (pe_tup (pa_cons pe_str (pa_cons pe_str pa_nil)))))
    pss_nil)
    (pss_one (ps_ret (pe_tup (pa_cons pe_str (pa_cons (pe_ix ix_tup (pv 4) pe_int (fun _ _ => rfl)) (pa_cons (pe_ix ix_tup (pv 4) pe_int (fun _ _ => rfl)) pa_nil)))))))), ?_⟩
  cases dd with
  | give t =>
    obtain ⟨b, ed, eb⟩ := hd
    obtain ⟨_, o1, o2, o3, o4⟩ := od
    have d0 : atI [V.str "give", .ref b] 0 = some (.str "give") := atI_nat rfl
    have d1 : atI [V.str "give", .ref b] 1 = some (.ref b) := atI_nat rfl
    trivial
    refine ⟨by have := g.bl; omega, (show Tr H (.ref b) (taskP t) from .tup eb (.cons (.int _) (.cons (.int _) .nil))), o1, o2, o3, by omega, tot_500 r3 o3 o4, fun T H1 s1 tw => ?_⟩
    obtain ⟨a1, o1, os1, eT, hs1, t1, c1⟩ := tw
    have dT := Dt.tup eT
    have i0 : atI [V.ref a1, .ref o1] 0 = some (.ref a1) := atI_nat rfl
    have i1 : atI [V.ref a1, .ref o1] 1 = some (.ref o1) := atI_nat rfl
    trivial
    intro T2 nT2
    have s2 := same_new0 (o := .tup [.str "told", .ref a1, .ref o1]) nT2
    exact k T2 _ (s1.trans s2) ⟨a1, o1, os1, upd_same, hs1.tk (tk_of s2), t1.tk (tk_of s2), c1.tk (tk_of s2)⟩
  | act =>
    have ed : H d = some (.tup [.str "do"]) := hd
    have d0 : atI [V.str "do"] 0 = some (.str "do") := atI_nat rfl
    trivial
    refine ⟨(g.ok hi).bag, (g.ok hi).sl, ?_⟩
    have k' : ∀ T H', Same H H' → TellAt K H' T (doneL m R h st) → Q (.ref T) H' := k
    have why : ∀ y, doneL m R h st = .inl y → y = .there ∨ y = .share := fun y => done_why
    generalize doneL m R h st = res at k' why ⊢
    cases res with
    | inl y =>
      rcases why y rfl with rfl | rfl
      · intro H1 s1
        refine ⟨true, x_NothingThere.exm, fun _ a0 _ => ?_, fun z => nomatch z⟩
        trivial
        intro T2 nT2
        exact k' T2 _ (s1.trans (same_new0 nT2)) upd_same
      · intro H1 s1
        refine ⟨false, nSI, (fun z => nomatch z), fun _ => ⟨true, x_NoShare.exm, fun _ a0 _ => ?_, fun z => nomatch z⟩⟩
        trivial
        intro T2 nT2
        exact k' T2 _ (s1.trans (same_new0 nT2)) upd_same
    | inr p =>
      intro T H1 s1 tw
      obtain ⟨a1, o1, os1, eT, hs1, t1, c1⟩ := tw
      have dT := Dt.tup eT
      have i0 : atI [V.ref a1, .ref o1] 0 = some (.ref a1) := atI_nat rfl
      have i1 : atI [V.ref a1, .ref o1] 1 = some (.ref o1) := atI_nat rfl
      trivial
      intro T2 nT2
      have s2 := same_new0 (o := .tup [.str "told", .ref a1, .ref o1]) nT2
      exact k' T2 _ (s1.trans s2) ⟨a1, o1, os1, upd_same, hs1.tk (tk_of s2), t1.tk (tk_of s2), c1.tk (tk_of s2)⟩
  | pass =>
    have ed : H d = some (.tup [.str "pass"]) := hd
    have d0 : atI [V.str "pass"] 0 = some (.str "pass") := atI_nat rfl
    trivial
    have k' : ∀ T H', Same H H' → TellAt K H' T (passL m h st) → Q (.ref T) H' := k
    have why : ∀ y, passL m h st = .inl y → y = .sign := fun y => pass_why
    generalize passL m h st = res at k' why ⊢
    cases res with
    | inl y =>
      cases why y rfl
      refine ⟨false, nGI, (fun z => nomatch z), fun _ => ⟨false, nGS, (fun z => nomatch z), fun _ => ⟨false, nGW, (fun z => nomatch z), fun _ => ⟨true, x_NoSign.exm, fun _ a0 _ => ?_, fun z => nomatch z⟩⟩⟩⟩
      trivial
      intro T2 nT2
      exact k' T2 _ (same_new0 nT2) upd_same
    | inr p =>
      intro T H1 s1 tw
      obtain ⟨a1, o1, os1, eT, hs1, t1, c1⟩ := tw
      have dT := Dt.tup eT
      have i0 : atI [V.ref a1, .ref o1] 0 = some (.ref a1) := atI_nat rfl
      have i1 : atI [V.ref a1, .ref o1] 1 = some (.ref o1) := atI_nat rfl
      trivial
      intro T2 nT2
      have s2 := same_new0 (o := .tup [.str "told", .ref a1, .ref o1]) nT2
      exact k' T2 _ (s1.trans s2) ⟨a1, o1, os1, upd_same, hs1.tk (tk_of s2), t1.tk (tk_of s2), c1.tk (tk_of s2)⟩
  | hear snd wd =>
    obtain ⟨b, ed, eb⟩ := hd
    obtain ⟨sn0, sn1, ow, sw⟩ := od
    have d0 : atI [V.str "hear", .int snd, .ref b] 0 = some (.str "hear") := atI_nat rfl
    have d1 : atI [V.str "hear", .int snd, .ref b] 1 = some (.int snd) := atI_nat rfl
    have d2 : atI [V.str "hear", .int snd, .ref b] 2 = some (.ref b) := atI_nat rfl
    have bl1 : st.bag.length ≤ 1000 := by have := g.bl; omega
    have sk1 : ∀ k f ns, wd = .task k f ns → ShOk st.sh ns := fun kk ff ns e => by subst e; exact g.shok hi sw.2
    have sk2 : ∀ ns, wd = .share ns → ShOk st.sh ns := fun ns e => by subst e; exact g.shok hi sw
    trivial
    refine ⟨w0, r, a, b, m, h, snd, R, st, wd, rfl, hw, tr, h0, h1, sn0, sn1, hst, eb, ow, bl1, sk1, sk2, ?_⟩
    have k' : ∀ T H', Same H H' → TellAt K H' T (heardL h st snd wd) → Q (.ref T) H' := k
    have why : ∀ y, heardL h st snd wd = .inl y → y = .word := fun y => heard_why
    generalize heardL h st snd wd = res at k' why ⊢
    cases res with
    | inl y =>
      cases why y rfl
      intro H1 s1
      refine ⟨false, nWI, (fun z => nomatch z), fun _ => ⟨false, nWS, (fun z => nomatch z), fun _ => ⟨true, x_NoWord.exm, fun _ a0 _ => ?_, fun z => nomatch z⟩⟩⟩
      trivial
      intro T2 nT2
      exact k' T2 _ (s1.trans (same_new0 nT2)) upd_same
    | inr p =>
      intro T H1 s1 tw
      obtain ⟨a1, o1, os1, eT, hs1, t1, c1⟩ := tw
      have dT := Dt.tup eT
      have i0 : atI [V.ref a1, .ref o1] 0 = some (.ref a1) := atI_nat rfl
      have i1 : atI [V.ref a1, .ref o1] 1 = some (.ref o1) := atI_nat rfl
      trivial
      intro T2 nT2
      have s2 := same_new0 (o := .tup [.str "told", .ref a1, .ref o1]) nT2
      exact k' T2 _ (s1.trans s2) ⟨a1, o1, os1, upd_same, hs1.tk (tk_of s2), t1.tk (tk_of s2), c1.tk (tk_of s2)⟩
end
end KQ
set_option Elab.async false
set_option maxRecDepth 100000
set_option maxHeartbeats 4000000
namespace KQ
open PySem PySem.Spec PyProof.Rows L2
local macro_rules | `(tactic| walk_at "kq hp") => `(tactic| (first | assumption | exact upd_same | (rw [upd_ne (by first | assumption | exact Ne.symm (by assumption))]; first | assumption | exact upd_same | (rw [upd_ne (by first | assumption | exact Ne.symm (by assumption))]; first | assumption | exact upd_same))))
local macro_rules | `(tactic| walk_at "kq do") => `(tactic| (first | decide | omega))
local macro_rules | `(tactic| walk_at "kq cl") => `(tactic| focus (first | rfl | assumption | exact upd_same | exact SqL.of (by walk_at "kq hp") | exact SqT.of (by walk_at "kq hp") | exact Or.inl (SqL.of (by walk_at "kq hp")) | exact Or.inr (SqT.of (by walk_at "kq hp")) | exact Or.inl ⟨rfl, _, SqL.of (by walk_at "kq hp")⟩ | walk_at "kq hp" | decide | exact Nat.le_of_ble_eq_true rfl | omega | (show ∃ xs, SqL _ _ _ xs; exact ⟨_, SqL.of (by walk_at "kq hp")⟩) | (show ∃ xs, SqT _ _ _ xs; exact ⟨_, SqT.of (by walk_at "kq hp")⟩) | exact DGet.k (k := Sum.inl _) (by walk_at "kq hp") | (show V.int _ = kV (Sum.inl _); rfl) | (show ∃ z, V.str _ = V.str z; exact ⟨_, rfl⟩) | exact Or.inl ⟨by walk_at "kq do", by walk_at "kq do"⟩ | exact Or.inr ⟨by walk_at "kq do", by walk_at "kq do"⟩ | exact ⟨by walk_at "kq do", by walk_at "kq do"⟩ | exact ⟨by decide, by decide, by decide⟩ | exact L2.ClsV.ty _ | exact Dt.ty (by assumption) | exact Dt.kint (by assumption) | exact Dt.kbool (by assumption) | exact Dt.ktuple (by assumption) | exact Dt.klist (by assumption) | exact Dt.kstr (by assumption)))
local macro_rules | `(tactic| trivial) => `(tactic| repeat (first | refine sl_go (by walk_at "kq hp") ?_ | (unfold tNoPart; refine sl_go (by walk_at "kq hp") ?_) | refine cat_go (by walk_at "kq hp") (by walk_at "kq hp") ?_ ?_ | (apply And.intro; walk_at "kq cl") | (apply Exists.intro; apply And.intro; walk_at "kq cl") | (apply Exists.intro; apply Exists.intro; apply And.intro; walk_at "kq cl") | (apply Exists.intro; apply Exists.intro; apply Exists.intro; apply And.intro; walk_at "kq cl") | (apply Exists.intro; apply Exists.intro; apply Exists.intro; apply Exists.intro; apply And.intro; walk_at "kq cl") | (apply Exists.intro; apply Exists.intro; apply Exists.intro; apply Exists.intro; apply Exists.intro; apply And.intro; walk_at "kq cl") | (apply Exists.intro; apply Exists.intro; apply Exists.intro; apply Exists.intro; apply Exists.intro; apply Exists.intro; apply And.intro; walk_at "kq cl") | (apply Exists.intro; apply Exists.intro; apply Exists.intro; apply Exists.intro; apply Exists.intro; apply Exists.intro; apply Exists.intro; apply And.intro; walk_at "kq cl") | (apply Exists.intro; apply Exists.intro; apply Exists.intro; apply Exists.intro; apply Exists.intro; apply Exists.intro; apply Exists.intro; apply Exists.intro; apply And.intro; walk_at "kq cl") | (apply Exists.intro; apply Exists.intro; apply Exists.intro; apply Exists.intro; apply Exists.intro; apply Exists.intro; apply Exists.intro; apply Exists.intro; apply Exists.intro; apply And.intro; walk_at "kq cl") | refine Or.inl ⟨_, rfl, ?_⟩ | refine Or.inr ⟨_, rfl, ?_⟩ | refine Or.inr ⟨SqT.of (by walk_at "kq hp"), SqT.of (by walk_at "kq hp"), ?_⟩ | refine Or.inl ⟨SqL.of (by walk_at "kq hp"), SqL.of (by walk_at "kq hp"), ?_⟩ | refine Or.inl ⟨SqL.of (by walk_at "kq hp"), ?_⟩ | refine Or.inr ⟨SqT.of (by walk_at "kq hp"), ?_⟩ | refine ifT rfl ?_ | refine ifF rfl ?_))
/-! ### the law -/
def spLaw12 (K : PySem.W.Frag) : Sp := fun vs H Q _ => ∃ (a : Addr) (ns : List Int), vs = [.ref a] ∧ SqL K H a (ns.map V.int) ∧ ns.length ≤ 63 ∧ ∀ H', Q (.bl true) H'
def resP : Res9 → PyData
  | .inl y => .tuple [.str "refused", .str (whyS y)]
  | .inr p => .tuple [.str "told", p.1.P, .tuple (p.2.map outP)]
theorem DueAt.tr {H : Hp} {T : Addr} {r : Res9} (h : DueAt H T r) : Tr H (.ref T) (resP r) := by
  cases r with
  | inl y => exact .tup h (.cons (.str _) (.cons (.str _) .nil))
  | inr p =>
    obtain ⟨a, o, os, h1, h2, h3, h4⟩ := h
    exact .tup h1 (.cons (.str _) (.cons h2.tr (.cons (.tup h3 h4) .nil)))
theorem TellAt.tc {K : PySem.W.Frag} {H : Hp} {T : Addr} {r : Res9} (h : TellAt K H T r) : Tc K H (.ref T) (resP r) := by
  cases r with
  | inl y => exact .tup (.inl h) (.cons (.str _) (.cons (.str _) .nil))
  | inr p =>
    obtain ⟨a, o, os, h1, h2, h3, h4⟩ := h
    exact .tup (.inl h1) (.cons (.str _) (.cons h2.tr.tc (.cons (.tup h3 h4) .nil)))
theorem depthAll_le {ds : List PyData} {n : Nat} (h : ∀ d ∈ ds, d.depth ≤ n) : PyData.depthAll ds ≤ n := by
  induction ds with
  | nil => exact Nat.zero_le _
  | cons d ds ih =>
    have h1 := h d (List.mem_cons_self ..)
    have h2 := ih fun x hx => h x (List.mem_cons_of_mem _ hx)
    unfold PyData.depthAll
    omega
theorem thinAll_of {ds : List PyData} (h : ∀ d ∈ ds, thin d = true) : thinAll ds = true := by
  induction ds with
  | nil => rfl
  | cons d ds ih =>
    rw [thinAll, h d (List.mem_cons_self ..), ih fun x hx => h x (List.mem_cons_of_mem _ hx)]
    rfl
/-- small data -/
def Fit (n : Nat) (d : PyData) : Prop := d.depth ≤ n ∧ thin d = true
theorem fit_tup {n : Nat} {ds : List PyData} (l : ds.length ≤ 1000) (h : ∀ d ∈ ds, Fit n d) : Fit (n + 1) (.tuple ds) :=
  ⟨by have := depthAll_le fun d hd => (h d hd).1; simp only [PyData.depth]; omega, by rw [thin, thinAll_of fun d hd => (h d hd).2, decide_eq_true l]; rfl⟩
theorem Fit.up {n k : Nat} {d : PyData} (h : Fit n d) (e : n ≤ k) : Fit k d := ⟨Nat.le_trans h.1 e, h.2⟩
theorem fit_int (i : Int) : Fit 0 (.int i) := ⟨by simp [PyData.depth], rfl⟩
theorem fit_bl (i : Bool) : Fit 0 (.bool i) := ⟨by simp [PyData.depth], rfl⟩
theorem fit_str (i : Str) : Fit 0 (.str i) := ⟨by simp [PyData.depth], rfl⟩
theorem fit_non : Fit 0 .none := ⟨by simp [PyData.depth], rfl⟩
theorem fit_opt (o : Option Int) : Fit 0 (optP o) := by cases o with | none => exact fit_non | some i => exact fit_int i
theorem fit_sh {ns : List Int} (l : ns.length ≤ 1000) : Fit 1 (shP ns) := fit_tup (by simpa using l) fun d hd => by obtain ⟨i, _, rfl⟩ := List.mem_map.mp hd; exact fit_int i
theorem fit_sg (o : Option (Int × Int × Int)) : Fit 1 (sgP o) := by
  cases o with
  | none => exact fit_non.up (by omega)
  | some p =>
    obtain ⟨a, b, c⟩ := p
    exact fit_tup (by simp) fun d hd => by simp at hd; rcases hd with rfl | rfl | rfl <;> exact fit_int _
theorem fit_hs {s : Hs} (l1 : s.bag.length ≤ 1000) (l2 : s.sh.length ≤ 1000) : Fit 3 s.P := by
  refine fit_tup (by simp) fun d hd => ?_
  simp only [List.mem_cons, List.not_mem_nil, or_false] at hd
  rcases hd with rfl | rfl | rfl | rfl | rfl | rfl | rfl | rfl | rfl
  · refine fit_tup (by simpa using l1) fun d hd => ?_
    obtain ⟨t, _, rfl⟩ := List.mem_map.mp hd
    exact fit_tup (by simp) fun d hd => by simp at hd; rcases hd with rfl | rfl <;> exact fit_int _
  · exact (fit_opt _).up (by omega)
  · exact (fit_int _).up (by omega)
  · exact (fit_int _).up (by omega)
  · exact (fit_int _).up (by omega)
  · exact (fit_bl _).up (by omega)
  · exact (fit_sg _).up (by omega)
  · exact (fit_sh l2).up (by omega)
  · exact (fit_bl _).up (by omega)
theorem fit_wd {R : Rules} {w : Wd} (o : OkWd R w) : Fit 2 w.P := by
  cases w with
  | task k f ns =>
    refine fit_tup (by simp) fun d hd => ?_
    simp only [List.mem_cons, List.not_mem_nil, or_false] at hd
    rcases hd with rfl | rfl | rfl | rfl
    · exact (fit_str _).up (by omega)
    · exact (fit_int _).up (by omega)
    · exact (fit_int _).up (by omega)
    · exact fit_sh o.2.2.2.2.2.2
  | ans => exact fit_tup (by simp) fun d hd => by simp at hd; subst hd; exact (fit_str _).up (by omega)
  | sign a b c =>
    refine fit_tup (by simp) fun d hd => ?_
    simp only [List.mem_cons, List.not_mem_nil, or_false] at hd
    rcases hd with rfl | rfl | rfl | rfl
    · exact (fit_str _).up (by omega)
    · exact (fit_int _).up (by omega)
    · exact (fit_int _).up (by omega)
    · exact (fit_int _).up (by omega)
  | share ns =>
    refine fit_tup (by simp) fun d hd => ?_
    simp only [List.mem_cons, List.not_mem_nil, or_false] at hd
    rcases hd with rfl | rfl
    · exact (fit_str _).up (by omega)
    · exact fit_sh o.2.2
  | mark n =>
    refine fit_tup (by simp) fun d hd => ?_
    simp only [List.mem_cons, List.not_mem_nil, or_false] at hd
    rcases hd with rfl | rfl
    · exact (fit_str _).up (by omega)
    · exact (fit_int _).up (by omega)
theorem endL_len {h : Int} {s : Hs} {out : List (Int × Wd)} : (endL h s out).2.length ≤ out.length + 2 := by
  have a : (endA h s out).2.length ≤ out.length + 1 := by
    unfold endA
    split
    · simp
    · split
      · show (if 0 < h then _ else _ : List (Int × Wd)).length ≤ _
        split <;> simp
      · simp
  unfold endL
  split
  · simp
  · unfold endB
    split
    · simp; omega
    · omega
theorem outs_len {sh : List Int} : ∀ {j : Nat} {L : List (Int × Int × Int)}, (outsL sh j L).length = L.length
  | _, [] => rfl
  | j, (to, k, f) :: L => by rw [outsL, List.length_cons, List.length_cons, outs_len]
theorem due_len {m h : Int} {R : Rules} (ok : OkWorks m R) {s : Hs} {d : Dd} {p : Hs × List (Int × Wd)} (e : dueL m R h s d = .inr p) : p.2.length ≤ 10 := by
  cases d with
  | give t => cases e; simp
  | act =>
    have e' : doneL m R h s = .inr p := e
    unfold doneL at e'
    split at e'
    · cases e'
    · split at e'
      · cases e'
      · injection e' with e'
        rw [← e']
        refine Nat.le_trans endL_len ?_
        rw [outs_len]
        have := sent_len (m := m) (h := h) (R := R) (t := by assumption) ok
        omega
  | pass =>
    have e' : passL m h s = .inr p := e
    unfold passL at e'
    split at e'
    · cases e'
    · split at e'
      · cases e'
      · split at e'
        · injection e' with e'; rw [← e']; simp
        · injection e' with e'; rw [← e']
          show (if h = 0 then _ else _ : List (Int × Wd)).length ≤ _
          split <;> simp
  | hear snd wd =>
    have e' : heardL h s snd wd = .inr p := e
    unfold heardL at e'
    split at e'
    · split at e'
      · cases e'
      · injection e' with e'; rw [← e']
        show (if s.par.isSome then _ else _ : List (Int × Wd)).length ≤ _
        split <;> simp
    · split at e'
      · cases e'
      · injection e' with e'; rw [← e']
        exact Nat.le_trans endL_len (by simp)
    · split at e'
      · cases e'
      · injection e' with e'; rw [← e']; simp
    · split at e'
      · cases e'
      · split at e'
        · cases e'
        · injection e' with e'; rw [← e']; simp
    · injection e' with e'; rw [← e']; simp
theorem fit_due {m h : Int} {R : Rules} (ok : OkWorks m R) {i : Nat} (hi : i < 12) {s : Hs} {d : Dd} (h0 : 0 ≤ h) (hm : h < m) (g : GoodHs m h R i s) (od : OkDd m h R d) : Fit 5 (resP (dueL m R h s d)) := by
  cases e : dueL m R h s d with
  | inl y =>
    refine fit_tup (n := 4) (by simp) fun d hd => ?_
    simp only [List.mem_cons, List.not_mem_nil, or_false] at hd
    rcases hd with rfl | rfl <;> exact (fit_str _).up (by omega)
  | inr p =>
    obtain ⟨g', w'⟩ := good_due ok hi h0 hm g od e
    have l := due_len ok e
    refine fit_tup (n := 4) (by simp) fun d hd => ?_
    simp only [List.mem_cons, List.not_mem_nil, or_false] at hd
    rcases hd with rfl | rfl | rfl
    · exact (fit_str _).up (by omega)
    · exact (fit_hs (by have := g'.bl; omega) (by have := g'.len (by omega); omega)).up (by omega)
    · refine fit_tup (n := 3) (by simp; omega) fun d hd => ?_
      obtain ⟨q, hq, rfl⟩ := List.mem_map.mp hd
      refine fit_tup (n := 2) (by simp) fun d hd => ?_
      simp only [List.mem_cons, List.not_mem_nil, or_false] at hd
      rcases hd with rfl | rfl
      · exact (fit_int _).up (by omega)
      · exact fit_wd (w' q hq)
theorem good_begun {m h : Int} {R : Rules} (h0 : 0 ≤ h) : GoodHs m h R 0 (begunL h) := by
  unfold begunL
  split
  · exact ⟨fun _ z => (nomatch z), fun _ z => (nomatch z), by decide, by decide, by decide, fun x y z e => by cases e; decide, sh_one, fun q hq => by simp at hq; omega, by simp, fun _ => by assumption⟩
  · exact ⟨fun _ z => (nomatch z), fun _ z => (nomatch z), by decide, by decide, by decide, fun x y z e => (nomatch e), ⟨by simp, by simp, by simp⟩, fun q hq => (nomatch hq), by simp, fun z => (nomatch z)⟩
/-- the hand, the works, the works told of -/
structure LS (C : Addr) (H : Hp) (h l lw r x : Addr) (m : Int) (R : Rules) (rs : List V) : Prop where
  ho : HandOk H h l
  ew : H lw = some (.tup [.int m, .ref r])
  er : H r = some (.tup rs)
  tr : Tr H (.ref r) (rulesD R)
  wk : WorksAt C H x (.int m) (.ref r)
theorem LS.step {C : Addr} {H H' : Hp} {h l lw r x : Addr} {m : Int} {R : Rules} {rs : List V} (s : LS C H h l lw r x m R rs) (ho : HandOk H' h l) (k : Kp (Nh h) H H') : LS C H' h l lw r x m R rs := by
  have t := tk_kp s.ho k
  refine ⟨ho, t _ _ s.ew, t _ _ s.er, s.tr.tk t, ?_⟩
  obtain ⟨dx, e⟩ := s.wk
  refine ⟨dx, k _ _ e fun z => ?_⟩
  obtain ⟨_, _, _, _, _, e1, _⟩ := s.ho
  have z' : x = h := z
  rw [z', e1] at e
  cases e
theorem LS.same {C : Addr} {H H' : Hp} {h l lw r x : Addr} {m : Int} {R : Rules} {rs : List V} (s : LS C H h l lw r x m R rs) (k : Same H H') : LS C H' h l lw r x m R rs := s.step (s.ho.same k) (Kp.of_same k)
end KQ
set_option Elab.async false
set_option maxRecDepth 100000
set_option maxHeartbeats 8000000
namespace KQ
open PySem PySem.Spec PyProof.Rows L2
local macro_rules | `(tactic| walk_at "kq hp") => `(tactic| (first | assumption | exact upd_same | (rw [upd_ne (by first | assumption | exact Ne.symm (by assumption))]; first | assumption | exact upd_same | (rw [upd_ne (by first | assumption | exact Ne.symm (by assumption))]; first | assumption | exact upd_same))))
local macro_rules | `(tactic| walk_at "kq do") => `(tactic| (first | decide | omega))
local macro_rules | `(tactic| walk_at "kq cl") => `(tactic| focus (first | rfl | assumption | exact upd_same | exact SqL.of (by walk_at "kq hp") | exact SqT.of (by walk_at "kq hp") | exact Or.inl (SqL.of (by walk_at "kq hp")) | exact Or.inr (SqT.of (by walk_at "kq hp")) | exact Or.inl ⟨rfl, _, SqL.of (by walk_at "kq hp")⟩ | walk_at "kq hp" | decide | exact Nat.le_of_ble_eq_true rfl | omega | (show ∃ xs, SqL _ _ _ xs; exact ⟨_, SqL.of (by walk_at "kq hp")⟩) | (show ∃ xs, SqT _ _ _ xs; exact ⟨_, SqT.of (by walk_at "kq hp")⟩) | exact DGet.k (k := Sum.inl _) (by walk_at "kq hp") | (show V.int _ = kV (Sum.inl _); rfl) | (show ∃ z, V.str _ = V.str z; exact ⟨_, rfl⟩) | exact Or.inl ⟨by walk_at "kq do", by walk_at "kq do"⟩ | exact Or.inr ⟨by walk_at "kq do", by walk_at "kq do"⟩ | exact ⟨by walk_at "kq do", by walk_at "kq do"⟩ | exact ⟨by decide, by decide, by decide⟩ | exact L2.ClsV.ty _ | exact Dt.ty (by assumption) | exact Dt.kint (by assumption) | exact Dt.kbool (by assumption) | exact Dt.ktuple (by assumption) | exact Dt.klist (by assumption) | exact Dt.kstr (by assumption)))
local macro_rules | `(tactic| trivial) => `(tactic| repeat (first | refine sl_go (by walk_at "kq hp") ?_ | (unfold tNoPart; refine sl_go (by walk_at "kq hp") ?_) | refine cat_go (by walk_at "kq hp") (by walk_at "kq hp") ?_ ?_ | (apply And.intro; walk_at "kq cl") | (apply Exists.intro; apply And.intro; walk_at "kq cl") | (apply Exists.intro; apply Exists.intro; apply And.intro; walk_at "kq cl") | (apply Exists.intro; apply Exists.intro; apply Exists.intro; apply And.intro; walk_at "kq cl") | (apply Exists.intro; apply Exists.intro; apply Exists.intro; apply Exists.intro; apply And.intro; walk_at "kq cl") | (apply Exists.intro; apply Exists.intro; apply Exists.intro; apply Exists.intro; apply Exists.intro; apply And.intro; walk_at "kq cl") | (apply Exists.intro; apply Exists.intro; apply Exists.intro; apply Exists.intro; apply Exists.intro; apply Exists.intro; apply And.intro; walk_at "kq cl") | (apply Exists.intro; apply Exists.intro; apply Exists.intro; apply Exists.intro; apply Exists.intro; apply Exists.intro; apply Exists.intro; apply And.intro; walk_at "kq cl") | (apply Exists.intro; apply Exists.intro; apply Exists.intro; apply Exists.intro; apply Exists.intro; apply Exists.intro; apply Exists.intro; apply Exists.intro; apply And.intro; walk_at "kq cl") | (apply Exists.intro; apply Exists.intro; apply Exists.intro; apply Exists.intro; apply Exists.intro; apply Exists.intro; apply Exists.intro; apply Exists.intro; apply Exists.intro; apply And.intro; walk_at "kq cl") | refine Or.inl ⟨_, rfl, ?_⟩ | refine Or.inr ⟨_, rfl, ?_⟩ | refine Or.inr ⟨SqT.of (by walk_at "kq hp"), SqT.of (by walk_at "kq hp"), ?_⟩ | refine Or.inl ⟨SqL.of (by walk_at "kq hp"), SqL.of (by walk_at "kq hp"), ?_⟩ | refine Or.inl ⟨SqL.of (by walk_at "kq hp"), ?_⟩ | refine Or.inr ⟨SqT.of (by walk_at "kq hp"), ?_⟩ | refine ifT rfl ?_ | refine ifF rfl ?_))
theorem tr_wd {H : Hp} {v : V} {w : Wd} (t : Tr H v w.P) : ∃ b, v = .ref b ∧ WdAt H b w := by
  cases w with
  | task k f ns =>
    cases t with
    | tup e a =>
    cases a with
    | cons r1 a =>
    cases r1
    cases a with
    | cons r1 a =>
    cases r1
    cases a with
    | cons r1 a =>
    cases r1
    cases a with
    | cons r1 a =>
    cases a
    cases r1 with
    | tup e2 a2 => exact ⟨_, rfl, _, e, by rw [tr_ints_inv a2] at e2; exact e2⟩
  | ans =>
    cases t with
    | tup e a =>
    cases a with
    | cons r1 a =>
    cases r1
    cases a
    exact ⟨_, rfl, e⟩
  | sign x y z =>
    cases t with
    | tup e a =>
    cases a with
    | cons r1 a =>
    cases r1
    cases a with
    | cons r1 a =>
    cases r1
    cases a with
    | cons r1 a =>
    cases r1
    cases a with
    | cons r1 a =>
    cases r1
    cases a
    exact ⟨_, rfl, e⟩
  | share ns =>
    cases t with
    | tup e a =>
    cases a with
    | cons r1 a =>
    cases r1
    cases a with
    | cons r1 a =>
    cases a
    cases r1 with
    | tup e2 a2 => exact ⟨_, rfl, _, e, by rw [tr_ints_inv a2] at e2; exact e2⟩
  | mark n =>
    cases t with
    | tup e a =>
    cases a with
    | cons r1 a =>
    cases r1
    cases a with
    | cons r1 a =>
    cases r1
    cases a
    exact ⟨_, rfl, e⟩
theorem tr_out {H : Hp} {v : V} {to : Int} {w : Wd} (t : Tr H v (outP (to, w))) : ∃ pa b, v = .ref pa ∧ H pa = some (.tup [.int to, .ref b]) ∧ WdAt H b w := by
  cases t with
  | tup e a =>
  cases a with
  | cons r1 a =>
  cases r1
  cases a with
  | cons r2 a =>
  cases a
  obtain ⟨b, rfl, h⟩ := tr_wd r2
  exact ⟨_, b, rfl, e, h⟩
theorem fit_says (s : Hs) : Fit 1 (saysL s) := fit_tup (by simp) fun d hd => by
  simp only [List.mem_cons, List.not_mem_nil, or_false] at hd
  rcases hd with rfl | rfl | rfl <;> exact fit_bl _
section
variable {P : Program} {w : World} {K : PySem.W.Frag} {mg : Str → Option Value} {base : Heap} {C CB : Addr}
theorem d_law {f0 : Addr} {fd0 : FuncData} (B : Bi mg) (F : Fun K "law" "law" s_law f0 fd0)
    (D_law_hand : Has P w K mg base 1 "_law_hand" ["script"] (spHand K)) (D_law_rules : Has P w K mg base 2 "_law_rules" ["hand"] spDRules) (D_Works : HasCX P w K mg base 5 "Works" C ["self", "many", "rules"] (spWInit C CB)) (D_law_draw : Has P w K mg base 1 "_law_draw" ["hand", "many"] spTake)
    (D_law_begun : Has P w K mg base 1 "_law_begun" ["house"] spLBegun) (D_law_is : Has P w K mg base 6 "_law_is" ["told", "due"] (spIsC K 5)) (D_begun : HasX P w K mg base 5 "begun" ["works", "house"] (spBegun K C)) (D_law_drawn_state : Has P w K mg base 3 "_law_drawn_state" ["hand", "works", "house"] spDState)
    (D_law_balanced : Has P w K mg base 2 "_law_balanced" ["hand", "state"] spBal) (D_law_pass : Has P w K mg base 2 "_law_pass" ["works", "house", "state"] spLPass) (D_law_called : Has P w K mg base 9 "_law_called" ["ruled", "house", "state", "deed"] (spCalled K C)) (D_law_deed : Has P w K mg base 4 "_law_deed" ["hand", "works", "house"] spDDeed)
    (D_law_due : Has P w K mg base 4 "_law_due" ["works", "house", "state", "deed"] spDDue) (D_is_word : Has P w K mg base 5 "is_word" ["works", "thing"] (spIsWord C)) (D_is_state : HasX P w K mg base 5 "is_state" ["works", "house", "thing"] (spIsState C)) (D_says : Has P w K mg base 1 "says" ["works", "state"] spSays)
    (D_law_says : Has P w K mg base 1 "_law_says" ["state"] (fun vs H Q _ => ∃ (a : Addr) (s : Hs), vs = [.ref a] ∧ HsAt H a s ∧ ∀ T H', Same H H' → Tr H' (.ref T) (saysL s) → Q (.ref T) H')) : FnOk P w K mg base CX0 10 f0 fd0 ["script"] (spLaw12 K) := by
  refine F.ok sc_law (fun vs H Q E h => ?_) fun cdv A outer s H vs Q E hr h => ?_
  · obtain ⟨a, ns, rfl, _⟩ := h
    rfl
  obtain ⟨a, ns, rfl, hS, hlen, kQ⟩ := h
  refine ⟨_, (pss_cons (ps_set (i := 1) sc_law.nd rfl (Or.inl rfl) (pe_h D_law_hand (hr.mono (by decide)) rfl (pa_cons (pv 0) pa_nil)))
    (pss_cons (ps_set (i := 2) sc_law.nd rfl (Or.inl rfl) (pe_h D_law_rules (hr.mono (by decide)) rfl (pa_cons (pv 1) pa_nil)))
    (pss_cons (ps_set (i := 3) sc_law.nd rfl (Or.inr rfl) (pe_cX0 D_Works (hr.mono (by decide)) rfl (pa_cons (pe_ix ix_tup (pv 2) pe_int (fun _ _ => rfl)) (pa_cons (pe_ix ix_tup (pv 2) pe_int (fun _ _ => rfl)) pa_nil))))
    (pss_cons (ps_for PassesOwn.never rfl (pi_range1 rfl B.range (pa_cons pe_int pa_nil)) (pg_name (i := 4) sc_law.nd rfl (Or.inl rfl))
    (pss_cons (ps_set (i := 5) sc_law.nd rfl (Or.inl rfl) (pe_ix ix_list (pe_lst (pa_cons pe_int (pa_cons (pe_op op_sub (pe_ix ix_tup (pv 2) pe_int (fun _ _ => rfl)) pe_int) (pa_cons (pe_h D_law_draw (hr.mono (by decide)) rfl (pa_cons (pv 1) (pa_cons (pe_ix ix_tup (pv 2) pe_int (fun _ _ => rfl)) pa_nil))) pa_nil)))) (pe_h D_law_draw (hr.mono (by decide)) rfl (pa_cons (pv 1) (pa_cons pe_int pa_nil))) (fun _ _ => rfl)))
    (pss_cons (ps_set (i := 6) sc_law.nd rfl (Or.inl rfl) (pe_h D_law_begun (hr.mono (by decide)) rfl (pa_cons (pv 5) pa_nil)))
    (pss_cons (ps_if (pt_not (pt_val (pe_h D_law_is (hr.mono (by decide)) rfl (pa_cons (pe_hX0 D_begun (hr.mono (by decide)) rfl (pa_cons (pv 3) (pa_cons (pv 5) pa_nil))) (pa_cons (pv 6) pa_nil)))))
    (pss_one (ps_ret pe_bl))
    pss_nil)
    (C8.pss_cut (ps_if (pt_cmpR op_gt (pe_h D_law_draw (hr.mono (by decide)) rfl (pa_cons (pv 1) (pa_cons pe_int pa_nil))) pe_int (nomark _))
    (pss_one (ps_set (i := 6) sc_law.nd rfl (Or.inl rfl) (pe_h D_law_drawn_state (hr.mono (by decide)) rfl (pa_cons (pv 1) (pa_cons (pv 2) (pa_cons (pv 5) pa_nil))))))
    pss_nil)
    (C8.pss_cut (ps_if (PW.pt (pw_and (pt_cmpR op_eq (pv 5) pe_int (nomark _)) (pw_and1 (pt_cmpR op_eq (pe_h D_law_draw (hr.mono (by decide)) rfl (pa_cons (pv 1) (pa_cons pe_int pa_nil))) pe_int (nomark _)))))
    (pss_cons (ps_set (i := 6) sc_law.nd rfl (Or.inl rfl) (pe_h D_law_balanced (hr.mono (by decide)) rfl (pa_cons (pv 1) (pa_cons (pv 6) pa_nil))))
    (pss_cons (ps_set (i := 7) sc_law.nd rfl (Or.inl rfl) (pe_h D_law_pass (hr.mono (by decide)) rfl (pa_cons (pv 2) (pa_cons (pv 5) (pa_cons (pv 6) pa_nil)))))
    (pss_one (ps_if (pt_not (pt_val (pe_h D_law_is (hr.mono (by decide)) rfl (pa_cons (pe_h D_law_called (hr.mono (by decide)) rfl (pa_cons (pv 3) (pa_cons (pv 5) (pa_cons (pv 6) (pa_cons (pe_tup (pa_cons pe_str pa_nil)) pa_nil))))) (pa_cons (pv 7) pa_nil)))))
    (pss_one (ps_ret pe_bl))
    pss_nil))))
    pss_nil)
    (pss_one (ps_for PassesOwn.never rfl (pi_range1 rfl B.range (pa_cons (pe_op op_add pe_int (pe_h D_law_draw (hr.mono (by decide)) rfl (pa_cons (pv 1) (pa_cons pe_int pa_nil)))) pa_nil)) (pg_name (i := 8) sc_law.nd rfl (Or.inl rfl))
    (pss_cons (ps_set (i := 9) sc_law.nd rfl (Or.inl rfl) (pe_h D_law_deed (hr.mono (by decide)) rfl (pa_cons (pv 1) (pa_cons (pv 2) (pa_cons (pv 5) pa_nil)))))
    (pss_cons (ps_set (i := 7) sc_law.nd rfl (Or.inl rfl) (pe_h D_law_due (hr.mono (by decide)) rfl (pa_cons (pv 2) (pa_cons (pv 5) (pa_cons (pv 6) (pa_cons (pv 9) pa_nil))))))
    (pss_cons (ps_if (pt_not (pt_val (pe_h D_law_is (hr.mono (by decide)) rfl (pa_cons (pe_h D_law_called (hr.mono (by decide)) rfl (pa_cons (pv 3) (pa_cons (pv 5) (pa_cons (pv 6) (pa_cons (pv 9) pa_nil))))) (pa_cons (pv 7) pa_nil)))))
    (pss_one (ps_ret pe_bl))
    pss_nil)
    (C8.pss_cut (ps_if (pt_cmpR op_eq (pe_ix ix_tup (pv 7) pe_int (fun _ _ => rfl)) pe_str (nomark _))
    (pss_cons (ps_set (i := 6) sc_law.nd rfl (Or.inl rfl) (pe_ix ix_tup (pv 7) pe_int (fun _ _ => rfl)))
    (pss_one (ps_if (pt_not (pt_val (pe_callB (cr_all rfl) rfl B.all (by decide +kernel) (pa_cons (pe_lc (own := [("to", 10), ("word", 11)]) (g := gTup K 2 (gCons (gName 10) (gCons (gName 11) gNil))) (tt := tYes) (te := (tOp rIsAny (tCall (spIsWord C) [] E0 (tCons (tVar 3) (tCons (tVar 11) tNil))) (tC (.bl true)))) rfl sc_law.nd (pi_tup (pe_ix ix_tup (pv 7) pe_int (fun _ _ => rfl))) (blkOk_by (own := [("to", 10), ("word", 11)]) (N := ["script", "hand", "works", "ruled", "turn", "house", "state", "due", "again", "deed", "to", "word"]) (sc := defScope s_law) (by decide +kernel)) (fun _ _ _ _ _ => (pg_tup rfl (pgs_cons (pg_name (i := 10) sc_law.nd rfl (Or.inl rfl)) (pgs_cons (pg_name (i := 11) sc_law.nd rfl (Or.inl rfl)) pgs_nil)))) (fun _ _ _ _ _ => pts_nil) (fun _ _ _ _ _ => (pe_cmpR op_isB (pe_h D_is_word (hr.mono (by decide)) rfl (pa_cons (pv 3) (pa_cons (pv 11) pa_nil))) pe_bl (nomark _)))) pa_nil))))
    (pss_one (ps_ret pe_bl))
    pss_nil)))
    pss_nil)
    (pss_cons (ps_if (pt_cmpR op_notBl (pe_hX0 D_is_state (hr.mono (by decide)) rfl (pa_cons (pv 3) (pa_cons (pv 5) (pa_cons (pv 6) pa_nil)))) pe_bl (nomark _))
    (pss_one (ps_ret pe_bl))
    pss_nil)
    (pss_one (ps_if (PW.pt (pw_and (pt_cmpR op_eq (pv 5) pe_int (nomark _)) (pw_and1 (pt_not (pt_val (pe_h D_law_is (hr.mono (by decide)) rfl (pa_cons (pe_h D_says (hr.mono (by decide)) rfl (pa_cons (pv 3) (pa_cons (pv 6) pa_nil))) (pa_cons (pe_h D_law_says (hr.mono (by decide)) rfl (pa_cons (pv 6) pa_nil)) pa_nil))))))))
    (pss_one (ps_ret pe_bl))
    pss_nil)))))))))))))))
    (pss_one (ps_ret pe_bl)))))), ?_⟩
  refine ⟨_, rfl, a, ns, rfl, hS, by omega, fun h l H1 nh nl s1 ho1 => ?_⟩
  refine ⟨_, rfl, h, l, rfl, ho1, fun m R lw r H2 ho2 k2 ew tr ok r3 => ?_⟩
  have w0 : atI [V.int m, .ref r] 0 = some (.int m) := atI_nat rfl
  have w1 : atI [V.int m, .ref r] 1 = some (.ref r) := atI_nat rfl
  have b0 := badW_ok ok
  trivial
  refine fun x dx nx nd ne => ?_
  have sx := ins_new (C := C) nx nd ne
  refine ⟨NF, x, dx, _, _, .int m, rulesD R, rfl, upd_same, .int m, (tr.tk (tk_of sx)).rp, fun e eb => (by rw [b0] at eb; cases eb), fun _ H3 eH kH => ⟨rfl, ?_⟩⟩
  have s3 := same_kp sx nx kH
  obtain ⟨rs, er, ar⟩ : ∃ rs, H2 r = some (.tup rs) ∧ TrAll H2 rs (R.map ruleD) := by cases tr with | tup e a => exact ⟨_, e, a⟩
  have lr : rs.length = R.length := by have := ar.len; rw [List.length_map] at this; exact this
  have L0 : LS C H3 h l lw r x m R rs := ⟨ho2.same s3, s3 _ _ ew, s3 _ _ er, tr.tk (tk_of s3), dx, eH⟩
  have m1 := ok.m1
  have m6 := ok.m6
  have hm0 : 0 < m := by omega
  have hm1 : m < 1073741824 := by omega
  clear b0 sx kH s3 ar er tr ew k2 ho2 ho1 s1 hS hlen nx nd ne eH
  trivial
  refine for_it walk_range (fun i σ H' => ∃ v4 v5 v6 v7 v8 v9 v10 v11, σ = [some (.ref a), some (.ref h), some (.ref lw), some (.ref x), v4, v5, v6, v7, v8, v9, v10, v11] ∧ LS C H' h l lw r x m R rs) ⟨_, _, _, _, _, _, _, _, rfl, L0⟩ (fun _ _ _ _ _ => True.intro) (fun i0 x0 σ H4 H5 hi0 q y => ?_) fun σ H4 q => ?_
  · obtain ⟨v4, v5, v6, v7, v8, v9, v10, v11, rfl, L4⟩ := q
    obtain ⟨rfl, rfl⟩ := y
    have ew4 := L4.ew
    have ho4 := L4.ho
    trivial
    intro g H6 g0 g1 ho6 hk6
    have L6 := L4.step ho6 (Kp.hand hk6)
    have ew6 := L6.ew
    clear ew4 ho4 hk6
    trivial
    intro p np
    have hop := ho6.new (o := .lst [.int 0, .int (m - 1), .int g]) np
    have L7 := L6.same (same_new0 (o := .lst [.int 0, .int (m - 1), .int g]) np)
    have nph := ho6.ne np
    have ep0 : upd H6 p (.lst [.int 0, .int (m - 1), .int g]) p = some (.lst [.int 0, .int (m - 1), .int g]) := upd_same
    generalize upd H6 p (.lst [.int 0, .int (m - 1), .int g]) = H7 at *
    trivial
    intro j0 H8 j00 j01 ho8 hk8
    have ep : H8 p = some (.lst [.int 0, .int (m - 1), .int g]) := (hk8 p nph).trans ep0
    have L8 := L7.step ho8 (Kp.hand hk8)
    obtain ⟨hs, hj, hs0, hs1⟩ : ∃ hs : Int, atI [V.int 0, .int (m - 1), .int g] j0 = some (.int hs) ∧ 0 ≤ hs ∧ hs < m := by
      rcases (show j0 = 0 ∨ j0 = 1 ∨ j0 = 2 by omega) with rfl | rfl | rfl
      · exact ⟨0, rfl, by omega, by omega⟩
      · exact ⟨m - 1, rfl, by omega, by omega⟩
      · exact ⟨g, rfl, g0, g1⟩
    clear hop ep0 hk8 L7 L6 L4 ew6 ho6
    trivial
    intro sa H9 s9 hsb
    have L9 := L8.same s9
    have wk9 := L9.wk
    clear ep L8
    trivial
    intro T HA sA tcA
    have fb : Fit 3 (begunL hs).P := fit_hs (by unfold begunL; split <;> simp) (by unfold begunL; split <;> simp)
    refine ⟨_, rfl, .ref T, .ref sa, (begunL hs).P, rfl, tcA, (hsb.tk (tk_of sA)).tr, Nat.le_trans fb.1 (by decide), fb.2, fun HB sB => ⟨_, rfl, ifF rfl ?_⟩⟩
    have LB := L9.same (sA.trans sB)
    have hsB := hsb.tk (tk_of (sA.trans sB))
    have gb := good_begun (m := m) (R := R) hs0
    clear wk9 tcA fb sA sB hsb L9 s9 ho8
    have hoB := LB.ho
    refine ⟨fun σ H' => ∃ (sa : Addr) (st : Hs) (v7 : Option V), σ = [some (.ref a), some (.ref h), some (.ref lw), some (.ref x), some (.int (0 + (i0 : Nat))), some (.int hs), some (.ref sa), v7, v8, v9, v10, v11] ∧ LS C H' h l lw r x m R rs ∧ HsAt H' sa st ∧ GoodHs m hs R 0 st, ?_, ?_⟩
    · trivial
      intro r2 HC r20 r21 hoC hkC
      have LC := LB.step hoC (Kp.hand hkC)
      have hsC := hsB.tk (tk_kp hoB (Kp.hand hkC))
      have ewC := LC.ew
      have erC := LC.er
      trivial
      refine ite2 (fun c => ?_) (fun c => ?_)
      · trivial
        intro sa' st HD hsD gD hoD kD
        exact ⟨sa', st, _, rfl, LC.step hoD kD, hsD, gD⟩
      · exact ⟨sa, _, _, rfl, LC, hsC, gb⟩
    rintro σ HC ⟨sa1, st1, v7', rfl, LC, hsC, gC⟩
    clear hsB gb LB hoB
    have hoC := LC.ho
    refine ⟨fun σ H' => ∃ (sa : Addr) (st : Hs) (v7 : Option V), σ = [some (.ref a), some (.ref h), some (.ref lw), some (.ref x), some (.int (0 + (i0 : Nat))), some (.int hs), some (.ref sa), v7, v8, v9, v10, v11] ∧ LS C H' h l lw r x m R rs ∧ HsAt H' sa st ∧ GoodHs m hs R 0 st, ?_, ?_⟩
    · trivial
      refine ite2 (fun c => ?_) (fun c => ?_)
      · have c' : hs = 0 := by simpa using of_decide_eq_true c
        subst c'
        trivial
        intro r2 HD r20 r21 hoD hkD
        have LD := LC.step hoD (Kp.hand hkD)
        have hsD := hsC.tk (tk_kp hoC (Kp.hand hkD))
        trivial
        refine ite2 (fun c2 => ?_) (fun c2 => ?_)
        · trivial
          intro sb st2 HE hsE gE hoE kE
          have LE := LD.step hoE kE
          have ewE := LE.ew
          trivial
          intro T HF sF dF
          have LF := LE.same sF
          have hsF := hsE.tk (tk_of sF)
          trivial
          intro q nq
          have sq := same_new0 (o := .tup [.str "pass"]) nq
          have eq : upd HF q (.tup [.str "pass"]) q = some (.tup [.str "pass"]) := upd_same
          have LQ := LF.same sq
          have hsQ := hsF.tk (tk_of sq)
          have dQ := dF.tk (tk_of sq)
          have ft := fit_due ok (i := 0) (by omega) (Int.le_refl 0) (by omega) gE (d := .pass) True.intro
          generalize upd HF q (.tup [.str "pass"]) = HQ at *
          trivial
          refine ⟨x, r, sb, q, m, 0, R, st2, .pass, 0, rfl, LQ.wk, LQ.tr, ok, r3, hsQ, gE, by omega, Int.le_refl 0, by omega, eq, True.intro, fun T2 HI sI tI => ?_⟩
          refine ⟨_, rfl, .ref T2, .ref T, _, rfl, tI.tc, (dQ.tk (tk_of sI)).tr, ft.1, ft.2, fun HJ sJ => ⟨_, rfl, ifF rfl ?_⟩⟩
          exact ⟨sb, st2, _, rfl, LQ.same (sI.trans sJ), hsQ.tk (tk_of (sI.trans sJ)), gE⟩
        · exact ⟨sa1, st1, _, rfl, LD, hsD, gC⟩
      · exact ⟨sa1, st1, _, rfl, LC, hsC, gC⟩
    rintro σ HD ⟨sa2, st2, v7'', rfl, LD, hsD, gD⟩
    clear hsC gC LC hoC
    have hoD := LD.ho
    trivial
    intro rr HE rr0 rr1 hoE hkE
    have LE := LD.step hoE (Kp.hand hkE)
    have hsE := hsD.tk (tk_kp hoD (Kp.hand hkE))
    clear hoD hkE hsD LD
    trivial
    refine for_it walk_range (fun i σ H' => ∃ (sa : Addr) (st : Hs) (v7 v8 v9 v10 v11 : Option V), σ = [some (.ref a), some (.ref h), some (.ref lw), some (.ref x), some (.int (0 + (i0 : Nat))), some (.int hs), some (.ref sa), v7, v8, v9, v10, v11] ∧ LS C H' h l lw r x m R rs ∧ HsAt H' sa st ∧ GoodHs m hs R i st) ⟨_, _, _, _, _, _, _, rfl, LE, hsE, gD⟩ (fun _ _ _ _ _ => True.intro) (fun i x1 σ HF HG hi q y => ?_) fun σ HF q => ?_
    · obtain ⟨sa3, st3, u7, u8, u9, u10, u11, rfl, LF, hsF, gF⟩ := q
      obtain ⟨rfl, rfl⟩ := y
      have hi12 : i < 12 := by omega
      have hoF := LF.ho
      have ewF := LF.ew
      have erF := LF.er
      clear LE hsE gD hoE
      trivial
      intro da dd HH dH odH hoH kH
      have LH := LF.step hoH kH
      have hsH := hsF.tk (tk_kp hoF kH)
      have ewH := LH.ew
      have trH := LH.tr
      clear LF hsF hoF ewF erF kH
      trivial
      refine ⟨lw, r, sa3, da, m, hs, R, st3, dd, i, rfl, ewH, trH, ok, hsH, gF, by omega, hs0, dH, odH, fun T HI sI dI => ?_⟩
      have LI := LH.same sI
      have hsI := hsH.tk (tk_of sI)
      have ddI := dH.tk (tk_of sI)
      have ft := fit_due ok hi12 hs0 hs1 gF odH
      have dl := fun p => due_len ok (h := hs) (s := st3) (d := dd) (p := p)
      have gd := fun p => good_due ok hi12 hs0 hs1 gF odH (p := p)
      clear LH hsH dH ewH trH sI hoH
      trivial
      refine ⟨x, r, sa3, da, m, hs, R, st3, dd, i, rfl, LI.wk, LI.tr, ok, r3, hsI, gF, by omega, hs0, hs1, ddI, odH, fun T2 HJ sJ tJ => ?_⟩
      refine ⟨_, rfl, .ref T2, .ref T, _, rfl, tJ.tc, (dI.tk (tk_of sJ)).tr, ft.1, ft.2, fun HK sK => ⟨_, rfl, ifF rfl ?_⟩⟩
      have LK := LI.same (sJ.trans sK)
      have hsK := hsI.tk (tk_of (sJ.trans sK))
      have dK := dI.tk (tk_of (sJ.trans sK))
      clear LI hsI ddI dI tJ sJ sK ft
      refine ⟨fun σ H' => ∃ (sa : Addr) (st : Hs) (v10 v11 : Option V), σ = [some (.ref a), some (.ref h), some (.ref lw), some (.ref x), some (.int (0 + (i0 : Nat))), some (.int hs), some (.ref sa), some (.ref T), some (.int (0 + (i : Nat))), some (.ref da), v10, v11] ∧ LS C H' h l lw r x m R rs ∧ HsAt H' sa st ∧ GoodHs m hs R (i + 1) st, ?_, ?_⟩
      · generalize dueL m R hs st3 dd = res at dK gd dl
        cases res with
        | inl y =>
          have eT : HK T = some (.tup [.str "refused", .str (whyS y)]) := dK
          have t0 : atI [V.str "refused", .str (whyS y)] 0 = some (.str "refused") := atI_nat rfl
          trivial
          exact gF.more
        | inr p =>
          obtain ⟨g', wok⟩ := gd p rfl
          obtain ⟨sa', o, os, eT, hs', eo, to⟩ := dK
          have t0 : atI [V.str "told", .ref sa', .ref o] 0 = some (.str "told") := atI_nat rfl
          have t1 : atI [V.str "told", .ref sa', .ref o] 1 = some (.ref sa') := atI_nat rfl
          have t2 : atI [V.str "told", .ref sa', .ref o] 2 = some (.ref o) := atI_nat rfl
          have pl := dl p rfl
          have lo : os.length = p.2.length := by have := to.len; rw [List.length_map] at this; exact this
          trivial
          intro D nD
          refine lc_map (walk_tup (xs := os)) (List.replicate os.length (.bl true)) (by simp) nD (by omega) (fun i' H' _ s => SqT.of (s _ _ eo)) (fun i' x' H3 H4 Pn hi' s3 y fin => ?_) fun H3 s3 e3 => ?_
          · obtain ⟨rfl, gx⟩ := y
            obtain ⟨dx', gdx, rx⟩ := to.at_ gx
            rw [List.getElem?_map] at gdx
            obtain ⟨⟨to1, wd⟩, gp, rfl⟩ := Option.map_eq_some_iff.mp gdx
            have owd := wok _ (List.mem_of_getElem? gp)
            obtain ⟨pa, b, rfl, epa, hwd⟩ := tr_out rx
            have L3 := LK.same s3
            have wk3 := L3.wk
            have tr3 := L3.tr
            refine ⟨pa, _, rfl, SqT.of (s3 _ _ epa), rfl, _, _, rfl, _, _, rfl, rfl, rfl, ?_⟩
            refine ⟨_, rfl, _, rfl, x, r, b, m, R, wd, rfl, wk3, tr3, hwd.tk (tk_of s3), owd, fun H5 s5 => ?_⟩
            trivial
            exact fin _ _ (by rw [List.getElem?_replicate, if_pos hi']; simp) s5
          · rw [show (List.replicate os.length (V.bl true)) = (List.replicate os.length true).map V.bl by simp] at e3
            trivial
            rw [show (List.replicate os.length true).all id = true by simp]
            exact ⟨sa', p.1, _, _, rfl, LK.same s3, hs'.tk (tk_of s3), g'⟩
      rintro σ HL ⟨sa4, st4, u10', u11', rfl, LL, hsL, gL⟩
      clear LK hsK dK gF gd dl
      refine ⟨_, rfl, _, rfl, _, rfl, x, r, sa4, m, hs, R, st4, rfl, LL.wk, LL.tr, hs0, hs1, hsL, gL.ok (by omega), fun HM sM => ?_⟩
      have LM := LL.same sM
      have hsM := hsL.tk (tk_of sM)
      refine ⟨true, true, rfl, rfl, ?_⟩
      clear LL hsL
      trivial
      refine ite2 (fun c => ?_) (fun c => ?_)
      · have wkM := LM.wk
        refine ⟨_, rfl, _, rfl, sa4, .ref x, st4, rfl, hsM, fun T3 HN sN tN => ?_⟩
        have hsN := hsM.tk (tk_of sN)
        refine ⟨_, rfl, sa4, st4, rfl, hsN, fun T4 HO sO tO => ?_⟩
        refine ⟨.ref T3, .ref T4, _, rfl, (tN.tk (tk_of sO)).tc, tO, ?_, ?_, fun HP sP => ⟨_, rfl, ifF rfl ?_⟩⟩
        · exact Nat.le_trans (fit_says st4).1 (by decide)
        · exact (fit_says st4).2
        · exact ⟨sa4, st4, _, _, _, _, _, rfl, LM.same ((sN.trans sO).trans sP), hsN.tk (tk_of (sO.trans sP)), gL⟩
      · exact ⟨sa4, st4, _, _, _, _, _, rfl, LM, hsM, gL⟩
    · obtain ⟨sa3, st3, u7, u8, u9, u10, u11, rfl, LF, hsF, gF⟩ := q
      exact ⟨_, _, _, _, _, _, _, _, rfl, LF⟩
  · trivial
    exact kQ _
end
end KQ
set_option Elab.async false
set_option maxRecDepth 100000
set_option maxHeartbeats 4000000
namespace KQ
open PySem PySem.Spec PyProof.Rows L2
theorem oex_of {K : PySem.W.Frag} {C : Addr} {o : Obj} (l : K.lookup C = some o) (e : ∃ nm q N bs bm sn sub ab col dd k0 k1 k2 k3 k5, o = excClassObj nm q C N bs bm true sn sub ab col dd k0 k1 k2 k3 k5 "ValueError.__new__" ∧ PySem.HandSPX.refsVE bm = true) (sa : PySem.W.findIn K (.ref C) "__setattr__" = some (some (.builtin "object.__setattr__")))
    (exC : PySem.W.subIn K (.ref C) (.type "BaseException") = some true) (tyC : PySem.W.typeIn K (.ref C) = some (.type "type")) (kC : PySem.W.keepIn K (.ref C) = true) : OexC K C := by
  obtain ⟨nm, q, N, bs, bm, sn, sub, ab, col, dd, k0, k1, k2, k3, k5, e, r⟩ := e
  exact ⟨⟨nm, q, N, bs, bm, sn, sub, ab, col, dd, k0, k1, k2, k3, k5, by rw [l, e], r⟩, sa, exC, tyC, kC⟩
theorem exm_b {K : PySem.W.Frag} {mg : Str → Option Value} {x : Str} {A B : Addr} {b : Bool} (TA : ExcAt K mg x A) (n : PySem.W.subIn K (.ref B) (.ref A) = some b) : PySem.W.exmOne K (.ref B) (.ref A) = some b := by
  unfold PySem.W.exmOne
  have e1 : (PySem.W.clsIn K A).isSome = true := TA.isC
  simp [TA.sub, PySem.W.kitCls, n, TA.ty, e1]
theorem kit_b {K : PySem.W.Frag} {mg : Str → Option Value} {x : Str} {A : Addr} {t : Value} {b : Bool} (TA : ExcAt K mg x A) (h : (t == .ref A) = false) (n : PySem.W.subIn K t (.ref A) = some b) : PySem.W.kitOne K t (.ref A) = some b := by
  unfold PySem.W.kitOne PySem.W.kitCls
  have e1 : (PySem.W.clsIn K A).isSome = true := TA.isC
  simp [h, e1, TA.ty, n]
theorem kit_self {K : PySem.W.Frag} {A : Addr} : PySem.W.kitOne K (.ref A) (.ref A) = some true := by simp [PySem.W.kitOne]
theorem kit_ve {K : PySem.W.Frag} {A : Addr} {b : Bool} (n : PySem.W.subIn K (.ref A) (.type "ValueError") = some b) : PySem.W.kitOne K (.ref A) (.type "ValueError") = some b := by
  unfold PySem.W.kitOne PySem.W.kitCls
  simp [show PySem.W.kitMeta "ValueError" = true by decide +kernel, n]
theorem tup_at {K : PySem.W.Frag} {a : Addr} {od : Option Addr} {its : Array Value} {n : Nat} {sl : Array (Option Value)} {xs : List V} (l : K.lookup a = some ⟨.type "tuple", od, .seq its n, sl⟩) (hz : its.size ≤ sizeLine) (r : Vals xs its.toList) : ∀ H, SqT K H a xs := fun _ => .inr ⟨_, its, n, l, rfl, rfl, hz, r⟩
theorem works_of {K : PySem.W.Frag} {mg : Str → Option Value} {C : Addr} (g : mg "Works" = some (.ref C)) (cl : Cls K C) (n1 : NoAttr K C "many") (n2 : NoAttr K C "rules") (ha : PySem.W.findIn K (.ref C) "__class__" = some (some (.builtin "object.__class__")))
    (hn : PySem.W.specialIn K (.builtin "object.__class__") "__get__" = some (some (.builtin "getset_descriptor.__get__"))) (htk : PySem.W.takesIn K (.builtin "object.__class__") = some true) (hm : PySem.W.mroIn K C (.type "object") = some true)
    (isC : PySem.W.isClsIn K C = true) (tyC : PySem.W.typeIn K (.ref C) = some (.type "type")) (s0 : PySem.W.subIn K (.type "tuple") (.ref C) = some false) : WorksC K mg C := by
  have e1 : (PySem.W.clsIn K C).isSome = true := isC
  refine ⟨g, cl, n1, n2, ha, hn, htk, hm, by simp [PySem.W.kitOne], ?_, by simp [PySem.W.notFirst, s0]⟩
  unfold PySem.W.kitOne PySem.W.kitCls
  simp [e1, tyC, s0]
theorem tup_i {K : PySem.W.Frag} {a : Addr} {od : Option Addr} {i : Int} {t : Tok} {n : Nat} {sl : Array (Option Value)} (l : K.lookup a = some ⟨.type "tuple", od, .seq #[.int i t] n, sl⟩) : ∀ H, SqT K H a [.int i] := tup_at l (show 1 ≤ sizeLine by decide) (.cons ⟨_, rfl⟩ .nil)
theorem tup_s {K : PySem.W.Frag} {a : Addr} {od : Option Addr} {x : Str} {t : Tok} {n : Nat} {sl : Array (Option Value)} (l : K.lookup a = some ⟨.type "tuple", od, .seq #[.str x t] n, sl⟩) : ∀ H, SqT K H a [.str x] := tup_at l (show 1 ≤ sizeLine by decide) (.cons ⟨_, rfl⟩ .nil)
theorem tup_cl {K : PySem.W.Frag} {a : Addr} {od : Option Addr} {its : Array Value} {n : Nat} {sl : Array (Option Value)} (l : K.lookup a = some ⟨.type "tuple", od, .seq its n, sl⟩) : ∃ o, K.lookup a = some o ∧ o.cls = .type "tuple" := ⟨_, l, rfl⟩
theorem err_init_BadWorks {P : Program} {w : World} {K : PySem.W.Frag} {mg : Str → Option Value} {base : Heap} {C f : Addr} {fd : FuncData} (F : Fun K "__init__" "BadWorks.__init__" s_BadWorks___init__ f fd) (T : OexC K C) (no : PySem.W.findIn K (.ref C) "part" = some none) :
    FnOk P w K mg base CX0 1 f fd ["self", "part"] (spErrInit C "part") := by
  refine F.ok sc_BadWorks___init__ (fun vs H Q E h => ?_) fun cdv A outer s H vs Q E hr h => ?_
  · obtain ⟨a, v, rfl, _⟩ := h
    rfl
  obtain ⟨a, v, rfl, ha, k⟩ := h
  refine ⟨_, (pss_one (ps_ost (pv 0) (pv 1))), ?_⟩
  exact ⟨_, rfl, _, rfl, a, C, rfl, T, no, .inl ⟨ha, fun dx hd ne => k dx hd ne⟩⟩
theorem err_at_BadWorks {P : Program} {w : World} {K : PySem.W.Frag} {mg : Str → Option Value} {base h : Heap} {C f : Addr} {oc : Value} {od an : Option Addr} {kV doc pm cdv ct : Value} {sl : Array (Option Value)} (X : K.In h) (G : h.Ns mainGlobals mg)
    (a : PySem.W.nsIn K mainGlobals "BadWorks" = some (some (.ref C))) (T : OexC K C) (U : XfC K C) (no : PySem.W.findIn K (.ref C) "part" = some none) (own : PySem.W.subIn K (.ref C) (.ref C) = some true) (isC : PySem.W.isClsIn K C = true)
    (iC : PySem.W.findIn K (.ref C) "__init__" = some (some (.ref f))) (tI : PySem.W.typeIn K (.ref f) = some (.type "function"))
    (l : K.lookup f = some ⟨oc, od, .func (PySem.W.fnOf "__init__" "BadWorks.__init__" (defArgs s_BadWorks___init__) (defBody s_BadWorks___init__) (defScope s_BadWorks___init__) .none kV doc pm an cdv ct), sl⟩)
    (c : PySem.W.codeIn K cdv "BadWorks.__init__" = true) (k : PySem.W.keepIn K (.ref f) = true) : ErrAt P w K mg base "BadWorks" C "part" := by
  have F := fun_mk l c k
  refine ⟨PySem.W.mg_of X G a, T, U, no, ?_, f, _, iC, tI, err_init_BadWorks F T no, F.binds fun _ _ _ _ _ _ us hl => match us, hl with | [_, _], _ => rfl⟩
  unfold PySem.W.exmOne
  have e1 : (PySem.W.clsIn K C).isSome = true := isC
  simp [T.exC, PySem.W.kitCls, own, T.tyC, e1]
theorem fin {P : Program} {w : World} {K : PySem.W.Frag} {mg : Str → Option Value} {h : Heap} {fa : Addr} {AN C CB CG CH CI CQ CS CT CW WH : Addr} {t_g1 t_g2 t_g3 t_g4 t_g5 t_g6 t_gB t_gP t_gG t_gS t_gD : Tok} (X : K.In h) (G : h.Ns mainGlobals mg) (hfa : mg "law" = some (.ref fa)) (B : Bi mg)
    (xH : ExcAt K mg "NoHouse" CH)
    (xT : ExcAt K mg "NoTask" CT)
    (xI : ExcAt K mg "NothingThere" CI)
    (xS : ExcAt K mg "NoShare" CS)
    (xW : ExcAt K mg "NoWord" CW)
    (xG : ExcAt K mg "NoSign" CG)
    (xQ : ExcAt K mg "QuietError" CQ)
    (xB : ∀ base : Heap, ErrAt P w K mg base "BadWorks" CB "part")
    (sSI : PySem.W.subIn K (.ref CS) (.ref CI) = some false)
    (sWI : PySem.W.subIn K (.ref CW) (.ref CI) = some false)
    (sWS : PySem.W.subIn K (.ref CW) (.ref CS) = some false)
    (sGI : PySem.W.subIn K (.ref CG) (.ref CI) = some false)
    (sGS : PySem.W.subIn K (.ref CG) (.ref CS) = some false)
    (sGW : PySem.W.subIn K (.ref CG) (.ref CW) = some false)
    (T : WorksC K mg C)
    (I0 : InitAt K mg "Works" C "Works.__init__" s_Works___init__)
    (g1 : PySem.W.nsIn K mainGlobals "MOST_HOUSES" = some (some (.int (6) t_g1)))
    (g2 : PySem.W.nsIn K mainGlobals "MOST_KINDS" = some (some (.int (6) t_g2)))
    (g3 : PySem.W.nsIn K mainGlobals "MOST_PAIRS" = some (some (.int (4) t_g3)))
    (g4 : PySem.W.nsIn K mainGlobals "MOST_FUEL" = some (some (.int (12) t_g4)))
    (g5 : PySem.W.nsIn K mainGlobals "MOST_TASKS" = some (some (.int (500) t_g5)))
    (g6 : PySem.W.nsIn K mainGlobals "PICTURES" = some (some (.int (1000) t_g6)))
    (gB : PySem.W.nsIn K mainGlobals "BAG" = some (some (.int (0) t_gB)))
    (gP : PySem.W.nsIn K mainGlobals "PARENT" = some (some (.int (1) t_gP)))
    (gG : PySem.W.nsIn K mainGlobals "SIGN" = some (some (.int (6) t_gG)))
    (gS : PySem.W.nsIn K mainGlobals "SHARE" = some (some (.int (7) t_gS)))
    (gD : PySem.W.nsIn K mainGlobals "SAID" = some (some (.int (8) t_gD)))
    (gW : PySem.W.nsIn K mainGlobals "WHOLE" = some (some (.ref WH))) (gWT : ∀ H, SqT K H WH [.int 0])
    (kW : ∃ o, K.lookup WH = some o ∧ o.cls = .type "tuple")
    (gA : PySem.W.nsIn K mainGlobals "ANSWER" = some (some (.ref AN))) (gAT : ∀ H, SqT K H AN [.str "answer"])
    (kA : ∃ o, K.lookup AN = some o ∧ o.cls = .type "tuple")
    (F1 : FunAt K mg "is_number" s_is_number)
    (F2 : FunAt K mg "is_below" s_is_below)
    (F3 : FunAt K mg "is_tuple_of" s_is_tuple_of)
    (F4 : FunAt K mg "is_rule_pair" s_is_rule_pair)
    (F5 : FunAt K mg "is_rule" s_is_rule)
    (F6 : FunAt K mg "is_house" s_is_house)
    (F7 : FunAt K mg "is_task" s_is_task)
    (F8 : FunAt K mg "check_house" s_check_house)
    (F9 : FunAt K mg "check_task" s_check_task)
    (F10 : FunAt K mg "sent_by" s_sent_by)
    (F11 : FunAt K mg "many_by_fuel" s_many_by_fuel)
    (F12 : FunAt K mg "many_tasks" s_many_tasks)
    (F13 : FunAt K mg "rises" s_rises)
    (F14 : FunAt K mg "is_lot" s_is_lot)
    (F15 : FunAt K mg "is_share" s_is_share)
    (F16 : FunAt K mg "is_some_share" s_is_some_share)
    (F17 : FunAt K mg "merged" s_merged)
    (F18 : FunAt K mg "added" s_added)
    (F19 : FunAt K mg "halved" s_halved)
    (F20 : FunAt K mg "is_flag" s_is_flag)
    (F21 : FunAt K mg "with_item" s_with_item)
    (F22 : FunAt K mg "are_tasks" s_are_tasks)
    (F23 : FunAt K mg "begun" s_begun)
    (F24 : FunAt K mg "is_word" s_is_word)
    (F25 : FunAt K mg "is_sign" s_is_sign)
    (F26 : FunAt K mg "is_parent" s_is_parent)
    (F27 : FunAt K mg "is_state" s_is_state)
    (F28 : FunAt K mg "gifted" s_gifted)
    (F29 : FunAt K mg "check_gift" s_check_gift)
    (F30 : FunAt K mg "done" s_done)
    (F31 : FunAt K mg "ended" s_ended)
    (F32 : FunAt K mg "heard" s_heard)
    (F33 : FunAt K mg "heard_word" s_heard_word)
    (F34 : FunAt K mg "heard_task" s_heard_task)
    (F35 : FunAt K mg "heard_answer" s_heard_answer)
    (F36 : FunAt K mg "with_sign" s_with_sign)
    (F37 : FunAt K mg "with_share" s_with_share)
    (F38 : FunAt K mg "can_pass" s_can_pass)
    (F39 : FunAt K mg "passed" s_passed)
    (F40 : FunAt K mg "says" s_says)
    (L1 : FunAt K mg "_law_hand" s_law_hand)
    (L2 : FunAt K mg "_law_draw" s_law_draw)
    (L3 : FunAt K mg "_law_is" s_law_is)
    (L4 : FunAt K mg "_law_worth" s_law_worth)
    (L5 : FunAt K mg "_law_lot_of" s_law_lot_of)
    (L6 : FunAt K mg "_law_sum" s_law_sum)
    (L7 : FunAt K mg "_law_halved" s_law_halved)
    (L8 : FunAt K mg "_law_rules" s_law_rules)
    (L9 : FunAt K mg "_law_sends" s_law_sends)
    (L10 : FunAt K mg "_law_task" s_law_task)
    (L11 : FunAt K mg "_law_begun" s_law_begun)
    (L12 : FunAt K mg "_law_gift" s_law_gift)
    (L13 : FunAt K mg "_law_ended" s_law_ended)
    (L14 : FunAt K mg "_law_do" s_law_do)
    (L15 : FunAt K mg "_law_hear" s_law_hear)
    (L16 : FunAt K mg "_law_can_pass" s_law_can_pass)
    (L17 : FunAt K mg "_law_pass" s_law_pass)
    (L18 : FunAt K mg "_law_says" s_law_says)
    (L19 : FunAt K mg "_law_drawn_share" s_law_drawn_share)
    (L20 : FunAt K mg "_law_drawn_word" s_law_drawn_word)
    (L21 : FunAt K mg "_law_drawn_state" s_law_drawn_state)
    (L22 : FunAt K mg "_law_called" s_law_called)
    (L23 : FunAt K mg "_law_due" s_law_due)
    (L24 : FunAt K mg "_law_deed" s_law_deed)
    (L25 : FunAt K mg "_law_balanced" s_law_balanced)
    (L0 : FunAt K mg "law" s_law) :
    ∃ fd : FuncData, (∀ (s : Shared) (u : Value), BindsTo s fd ⟨[u], []⟩ [("script", u)]) ∧ ∀ base : Heap, FnOk P w K mg base CX0 10 fa fd ["script"] (spLaw12 K) := by
  obtain ⟨f0, fd0, F0, m0⟩ := L0
  rw [hfa] at m0
  cases m0
  have g1' := PySem.W.mg_of X G g1
  have g2' := PySem.W.mg_of X G g2
  have g3' := PySem.W.mg_of X G g3
  have g4' := PySem.W.mg_of X G g4
  have g5' := PySem.W.mg_of X G g5
  have g6' := PySem.W.mg_of X G g6
  have gB' := PySem.W.mg_of X G gB
  have gP' := PySem.W.mg_of X G gP
  have gG' := PySem.W.mg_of X G gG
  have gS' := PySem.W.mg_of X G gS
  have gD' := PySem.W.mg_of X G gD
  have gW' := PySem.W.mg_of X G gW
  have gA' := PySem.W.mg_of X G gA
  refine ⟨fd0, fun s u => ?_, fun base => ?_⟩
  · obtain ⟨oc, od, kV, doc, pm, an, cdv, ct, osl, rfl, _, _⟩ := F0.ex
    exact .of_eq rfl
  have E1 := d_is_number (P := P) (w := w) (mg := mg) (base := base) B F1
  have E2 := d_is_below (P := P) (w := w) (mg := mg) (base := base) F2 E1
  have E3 := d_is_tuple_of (P := P) (w := w) (mg := mg) (base := base) B F3
  have E4 := d_is_rule_pair (P := P) (w := w) (mg := mg) (base := base) F4 E3 E2
  have E5 := d_is_rule (P := P) (w := w) (mg := mg) (base := base) B F5 g3' E4
  have W0 := d_works_init (P := P) (w := w) (mg := mg) (base := base) B T I0 g1' g2' (xB base) E2 E5
  have E6 := d_is_house (P := P) (w := w) (mg := mg) (base := base) T F6 E2
  have E7 := d_is_task (P := P) (w := w) (mg := mg) (base := base) B T F7 g4' E3 E2
  have E8 := d_check_house (P := P) (w := w) (mg := mg) (base := base) xH F8 E6
  have E9 := d_check_task (P := P) (w := w) (mg := mg) (base := base) xT F9 E7
  have E10 := d_sent_by (P := P) (w := w) (mg := mg) (base := base) B T F10 E8 E9
  have E11 := d_many_by_fuel (P := P) (w := w) (mg := mg) (base := base) B T F11 g4'
  have E12 := d_many_tasks (P := P) (w := w) (mg := mg) (base := base) F12 E9 E11
  have E1n := d_is_num (P := P) (w := w) (mg := mg) (base := base) B F1
  have E13 := d_rises (P := P) (w := w) (mg := mg) (base := base) B F13
  have E14 := d_is_lot (P := P) (w := w) (mg := mg) (base := base) B F14 E1n E13
  have E15 := d_is_share (P := P) (w := w) (mg := mg) (base := base) B F15 E14
  have E16 := d_is_some_share (P := P) (w := w) (mg := mg) (base := base) B F16 E15
  have E17 := d_merged (P := P) (w := w) (mg := mg) (base := base) B F17
  have E18 := d_added (P := P) (w := w) (mg := mg) (base := base) F18 E17 E15
  have E19 := d_halved (P := P) (w := w) (mg := mg) (base := base) B F19
  have E20 := d_is_flag (P := P) (w := w) (mg := mg) (base := base) F20 B
  have E21 := d_with_item (P := P) (w := w) (mg := mg) (base := base) B F21
  have E22 := d_are_t (P := P) (w := w) (mg := mg) (base := base) B F22 E7
  have E23 := d_begun (P := P) (w := w) (mg := mg) (base := base) B F23 gW' gWT kW E8
  have E25 := d_is_sign (P := P) (w := w) (mg := mg) (base := base) B F25 E3 E1 E2
  have E24 := d_is_word (P := P) (w := w) (mg := mg) (base := base) B F24 g6' E25 E7 E16 E2
  have E26 := d_is_parent (P := P) (w := w) (mg := mg) (base := base) F26 E6
  have E27 := d_is_state (P := P) (w := w) (mg := mg) (base := base) B F27 E8 E3 E1 E22 E26 E20 E25 E15
  have E29 := d_check_gift (P := P) (w := w) (mg := mg) (base := base) F29 g5' xT E9 E12
  have E28 := d_gifted (P := P) (w := w) (mg := mg) (base := base) B F28 E29
  have E31 := d_ended (P := P) (w := w) (mg := mg) (base := base) B F31 gA' gAT kA
  have E30 := d_done (P := P) (w := w) (mg := mg) (base := base) B F30 xI xS E8 E10 E19 E31
  have E36 := d_with_sign (P := P) (w := w) (mg := mg) (base := base) F36 gG' xW E21
  have E37 := d_with_share (P := P) (w := w) (mg := mg) (base := base) F37 gS' xW E21 E18
  have E35 := d_heard_answer (P := P) (w := w) (mg := mg) (base := base) F35 xW E31
  have E34 := d_heard_task (P := P) (w := w) (mg := mg) (base := base) B F34 gA' gAT kA E37
  have E33 := d_heard_word (P := P) (w := w) (mg := mg) (base := base) B F33 xW E35 E36 E37 E34
  have E32 := d_heard (P := P) (w := w) (mg := mg) (base := base) F32 xW E8 E24 E33
  have E38 := d_can_pass (P := P) (w := w) (mg := mg) (base := base) B F38 gG' gB' gD'
  have E39 := d_passed (P := P) (w := w) (mg := mg) (base := base) B T F39 xG E8 E38
  have E40 := d_says (P := P) (w := w) (mg := mg) (base := base) B F40 gP' gB' gD' gS' gW' gWT
  have D1 := d_law_hand (P := P) (w := w) (mg := mg) (base := base) B L1
  have D2 := d_law_draw (P := P) (w := w) (mg := mg) (base := base) B L2
  have D3 := d_law_isC (P := P) (w := w) (mg := mg) (base := base) B L3 5
  have D4 := d_law_worth (P := P) (w := w) (mg := mg) (base := base) B L4
  have D5 := d_law_lot_of (P := P) (w := w) (mg := mg) (base := base) B L5
  have D6 := d_law_sum (P := P) (w := w) (mg := mg) (base := base) B L6 D4 D5
  have D7 := d_law_halved (P := P) (w := w) (mg := mg) (base := base) B L7
  have D8 := d_law_rules2 (P := P) (w := w) (mg := mg) (base := base) B L8 D2
  have D9 := d_law_sends (P := P) (w := w) (mg := mg) (base := base) B L9
  have D10 := d_law_task2 (P := P) (w := w) (mg := mg) (base := base) B L10 D2
  have D11 := d_law_begun (P := P) (w := w) (mg := mg) (base := base) B L11
  have D12 := d_law_gift (P := P) (w := w) (mg := mg) (base := base) B L12
  have D13 := d_law_ended (P := P) (w := w) (mg := mg) (base := base) B L13
  have D14 := d_law_do (P := P) (w := w) (mg := mg) (base := base) B L14 D9 D7 D13
  have D15 := d_law_hear (P := P) (w := w) (mg := mg) (base := base) B L15 D6 D13
  have D16 := d_law_can_pass (P := P) (w := w) (mg := mg) (base := base) B L16
  have D17 := d_law_pass (P := P) (w := w) (mg := mg) (base := base) B L17 D16
  have D18 := d_law_says (P := P) (w := w) (mg := mg) (base := base) B L18
  have D19 := d_law_drawn_share (P := P) (w := w) (mg := mg) (base := base) B L19 D2
  have D20 := d_law_drawn_word (P := P) (w := w) (mg := mg) (base := base) B L20 D2 D10 D19
  have D21 := d_law_drawn_state (P := P) (w := w) (mg := mg) (base := base) B L21 D2 D10 D19
  have D22 := d_law_called (P := P) (w := w) (mg := mg) (base := base) B L22 xI xS xW xG xQ (exm_b xI sSI) (exm_b xI sWI) (exm_b xS sWS) (exm_b xI sGI) (exm_b xS sGS) (exm_b xW sGW) E28 E30 E32 E39
  have D23 := d_law_due9 (P := P) (w := w) (mg := mg) (base := base) L23 D12 D14 D15 D17
  have D24 := d_law_deed (P := P) (w := w) (mg := mg) (base := base) B L24 D2 D10 D20
  have D25 := d_law_balanced (P := P) (w := w) (mg := mg) (base := base) B L25 D2
  exact d_law (P := P) (w := w) (mg := mg) (base := base) B F0 D1 D8 W0 D2 D11 D3 E23 D21 D25 D17 D22 D24 D23 E24 E27 E40 D18
end KQ
local macro_rules | `(tactic| walk_at "kq fun") => `(tactic| (refine' KQ.funAt_of (by assumption) (by assumption) ?a ?l ?c ?k; (case a => k_is); (case l => k_is); (case c => k_is); (case k => k_is)))
local macro_rules | `(tactic| walk_at "kq meth") => `(tactic| (refine' KQ.methAt_of ?a ?i ?l ?c ?k; (case a => k_is); (case i => k_is); (case l => k_is); (case c => k_is); (case k => k_is)))
local macro_rules | `(tactic| walk_at "kq init") => `(tactic| (refine' KQ.initAt_of (by assumption) (by assumption) ?aC ?mk ?kC ?a ?i ?l ?c ?k; (case aC => k_is); (case mk => k_is); (case kC => k_is); (case a => k_is); (case i => k_is); (case l => k_is); (case c => k_is); (case k => k_is)))
local macro_rules | `(tactic| walk_at "kq free") => `(tactic| (refine' KQ.free_of (by assumption) (by assumption) ?e; (case e => k_is)))
local macro_rules | `(tactic| walk_at "kq cls") => `(tactic| (refine' ⟨?a, ?b, ?c, ?d⟩; (case a => k_is); (case b => k_is); (case c => k_is); (case d => k_is)))
local macro_rules | `(tactic| walk_at "kq exc") => `(tactic| (refine' KQ.excAt_of (by assumption) (by assumption) ?a ?kp ?ex ?sub ?ty ?own ?isC; (case a => k_is); (case kp => k_is); (case ex => k_exc); (case sub => k_is); (case ty => k_is); (case own => first | rfl | k_is); (case isC => k_is)))
local macro_rules | `(tactic| walk_at "kq err BadWorks") => `(tactic| (intro base; refine' KQ.err_at_BadWorks (by assumption) (by assumption) ?a ?T ?U ?no ?own ?isC ?iC ?tI ?l ?c ?k; (case a => k_is); (case T => (refine' KQ.oex_of ?x ?y ?sa ?exC ?tyC ?kC; (case x => k_is); (case y => exact ⟨_, _, _, _, _, _, _, _, _, _, _, _, _, _, _, rfl, by decide +kernel⟩); (case sa => k_is); (case exC => k_is); (case tyC => k_is); (case kC => k_is))); (case U => (refine' ⟨?ga, ?gg, ?exC, ?hdC⟩; (case ga => k_is); (case gg => k_is); (case exC => k_is); (case hdC => k_is))); (case no => k_is); (case own => first | rfl | k_is); (case isC => k_is); (case iC => k_is); (case tI => k_is); (case l => k_is); (case c => k_is); (case k => k_is)))
local macro_rules | `(tactic| walk_at "kq works") => `(tactic| (refine' KQ.works_of (PySem.W.mg_of (by assumption) (by assumption) ?g) ?cl ?n1 ?n2 ?ha ?hn ?htk ?hm ?isC ?tyC ?s0; (case g => k_is); (case cl => walk_at "kq cls"); (case n1 => (show PySem.W.findIn _ (.ref _) _ = some none; k_is)); (case n2 => (show PySem.W.findIn _ (.ref _) _ = some none; k_is)); (case ha => k_is); (case hn => k_is); (case htk => k_is); (case hm => k_is); (case isC => k_is); (case tyC => k_is); (case s0 => k_is)))
open PySem PySem.W PyProof.Rows
set_option maxRecDepth 100000 in
set_option maxHeartbeats 0 in
theorem PySem.Challenge.cw_knownquiet_k12_whole_states_by_own_deeds_holds : PySem.Challenge.rw_knownquiet_k12_whole_states_by_own_deeds.Holds := by
  w_on; o_law; k_head; (case hw => w_witness2)
  k_fill
  refine KQ.walkX (l := PySem.Challenge.rw_knownquiet_k12_whole_states_by_own_deeds) (k := 10) (sp := fun K => KQ.spLaw12 K) rfl rfl ⟨rfl, by decide, by decide⟩ (fun w h Y => PySem.W.kIn_of Y) ?F fun K H a ns hl hS => ⟨a, ns, rfl, hS, hl, fun _ => rfl⟩
  case F =>
    intro w mg fa h KX G hX hmg
    refine' KQ.fin KX G hmg ?B ?xH ?xT ?xI ?xS ?xW ?xG ?xQ ?xB ?sSI ?sWI ?sWS ?sGI ?sGS ?sGW ?T ?I0 ?g1 ?g2 ?g3 ?g4 ?g5 ?g6 ?gB ?gP ?gG ?gS ?gD ?gW ?gWT ?kW ?gA ?gAT ?kA ?F1 ?F2 ?F3 ?F4 ?F5 ?F6 ?F7 ?F8 ?F9 ?F10 ?F11 ?F12 ?F13 ?F14 ?F15 ?F16 ?F17 ?F18 ?F19 ?F20 ?F21 ?F22 ?F23 ?F24 ?F25 ?F26 ?F27 ?F28 ?F29 ?F30 ?F31 ?F32 ?F33 ?F34 ?F35 ?F36 ?F37 ?F38 ?F39 ?F40 ?L1 ?L2 ?L3 ?L4 ?L5 ?L6 ?L7 ?L8 ?L9 ?L10 ?L11 ?L12 ?L13 ?L14 ?L15 ?L16 ?L17 ?L18 ?L19 ?L20 ?L21 ?L22 ?L23 ?L24 ?L25 ?L0
    case B => constructor <;> walk_at "kq free"
    case xH => walk_at "kq exc"
    case xT => walk_at "kq exc"
    case xI => walk_at "kq exc"
    case xS => walk_at "kq exc"
    case xW => walk_at "kq exc"
    case xG => walk_at "kq exc"
    case xQ => walk_at "kq exc"
    case xB => walk_at "kq err BadWorks"
    case sSI => first | rfl | k_is
    case sWI => first | rfl | k_is
    case sWS => first | rfl | k_is
    case sGI => first | rfl | k_is
    case sGS => first | rfl | k_is
    case sGW => first | rfl | k_is
    case T => walk_at "kq works"
    case I0 => walk_at "kq init"
    case g1 => k_is
    case g2 => k_is
    case g3 => k_is
    case g4 => k_is
    case g5 => k_is
    case g6 => k_is
    case gB => k_is
    case gP => k_is
    case gG => k_is
    case gS => k_is
    case gD => k_is
    case gW => k_is
    case gWT => (refine' KQ.tup_i ?l; (case l => k_is))
    case kW => (refine' KQ.tup_cl ?l; (case l => k_is))
    case gA => k_is
    case gAT => (refine' KQ.tup_s ?l; (case l => k_is))
    case kA => (refine' KQ.tup_cl ?l; (case l => k_is))
    case F1 => walk_at "kq fun"
    case F2 => walk_at "kq fun"
    case F3 => walk_at "kq fun"
    case F4 => walk_at "kq fun"
    case F5 => walk_at "kq fun"
    case F6 => walk_at "kq fun"
    case F7 => walk_at "kq fun"
    case F8 => walk_at "kq fun"
    case F9 => walk_at "kq fun"
    case F10 => walk_at "kq fun"
    case F11 => walk_at "kq fun"
    case F12 => walk_at "kq fun"
    case F13 => walk_at "kq fun"
    case F14 => walk_at "kq fun"
    case F15 => walk_at "kq fun"
    case F16 => walk_at "kq fun"
    case F17 => walk_at "kq fun"
    case F18 => walk_at "kq fun"
    case F19 => walk_at "kq fun"
    case F20 => walk_at "kq fun"
    case F21 => walk_at "kq fun"
    case F22 => walk_at "kq fun"
    case F23 => walk_at "kq fun"
    case F24 => walk_at "kq fun"
    case F25 => walk_at "kq fun"
    case F26 => walk_at "kq fun"
    case F27 => walk_at "kq fun"
    case F28 => walk_at "kq fun"
    case F29 => walk_at "kq fun"
    case F30 => walk_at "kq fun"
    case F31 => walk_at "kq fun"
    case F32 => walk_at "kq fun"
    case F33 => walk_at "kq fun"
    case F34 => walk_at "kq fun"
    case F35 => walk_at "kq fun"
    case F36 => walk_at "kq fun"
    case F37 => walk_at "kq fun"
    case F38 => walk_at "kq fun"
    case F39 => walk_at "kq fun"
    case F40 => walk_at "kq fun"
    case L1 => walk_at "kq fun"
    case L2 => walk_at "kq fun"
    case L3 => walk_at "kq fun"
    case L4 => walk_at "kq fun"
    case L5 => walk_at "kq fun"
    case L6 => walk_at "kq fun"
    case L7 => walk_at "kq fun"
    case L8 => walk_at "kq fun"
    case L9 => walk_at "kq fun"
    case L10 => walk_at "kq fun"
    case L11 => walk_at "kq fun"
    case L12 => walk_at "kq fun"
    case L13 => walk_at "kq fun"
    case L14 => walk_at "kq fun"
    case L15 => walk_at "kq fun"
    case L16 => walk_at "kq fun"
    case L17 => walk_at "kq fun"
    case L18 => walk_at "kq fun"
    case L19 => walk_at "kq fun"
    case L20 => walk_at "kq fun"
    case L21 => walk_at "kq fun"
    case L22 => walk_at "kq fun"
    case L23 => walk_at "kq fun"
    case L24 => walk_at "kq fun"
    case L25 => walk_at "kq fun"
    case L0 => walk_at "kq fun"
#print axioms PySem.Challenge.cw_knownquiet_k12_whole_states_by_own_deeds_holds
