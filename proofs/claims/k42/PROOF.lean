import PyProof.Rows.All
import Wide.All
import OpenK.AllK
import Wide.FinOn
import HandS.ForMost
import HandS.ForExc
import HandS.IsInst
import HandS.Style
import HandS.Small
import HandS.Zip
import HandS.TryMany
import HandS.Codes
import HandS.More
import KE.GoesEnumKw
import HandS.ExcInit
import HandS.ExcField
import HandS.OwnEq
import HandS.TupAny
import HandS.TupMul
import KE.KMinKey
import HandS.SortKw
import HandS.Walk
import PyProof.StrOps2
import HandS.ExcIs
import PySem.Challenge.RW_knownquiet_k42_whole_rows_of_parcels
set_option Elab.async false
set_option maxRecDepth 100000
set_option maxHeartbeats 4000000
/-! B0: what all our texts share: a def and its promise in one word, data as a whole, the drawing hand. -/
namespace KQ
open PySem PySem.Spec PyProof.Rows L2

/-! ### a def behind the top, a def that keeps a promise -/
def FunAt (K : PySem.W.Frag) (mg : Str → Option Value) (x : Str) (st : Stmt) : Prop := ∃ f fd, Fun K x x st f fd ∧ mg x = some (.ref f)
def Has (P : Program) (w : World) (K : PySem.W.Frag) (mg : Str → Option Value) (base : Heap) (k : Nat) (x : Str) (ps : List Str) (sp : Sp) : Prop :=
  ∃ f fd, FnOk P w K mg base CX0 k f fd ps sp ∧ mg x = some (.ref f) ∧ PySem.W.keepIn K (.ref f) = true ∧ Binds K fd ps []
/-- .. one that may raise -/
def HasX (P : Program) (w : World) (K : PySem.W.Frag) (mg : Str → Option Value) (base : Heap) (k : Nat) (x : Str) (ps : List Str) (sp : Sp) : Prop :=
  ∃ f fd, FnOk P w K mg base (L2.CX P w) k f fd ps sp ∧ mg x = some (.ref f) ∧ PySem.W.keepIn K (.ref f) = true ∧ Binds K fd ps []
abbrev BindsTo? (st : Stmt) (x : Str) (ps : List Str) : Prop :=
  ∀ (kV doc pm : Value) (an : Option Addr) (cdv ct : Value) (us : List Value), us.length = ps.length → bindArgs (PySem.W.fnOf x x (defArgs st) (defBody st) (defScope st) .none kV doc pm an cdv ct) ⟨us, []⟩ = pure (ps.zip us)
section
variable {P : Program} {w : World} {K : PySem.W.Frag} {mg : Str → Option Value} {base : Heap}
theorem mk_has {x : Str} {st : Stmt} {N ps : List Str} {k : Nat} {sp : Sp} (F : FunAt K mg x st) (S : FnScope N ps (defScope st)) (hb : BindsTo? st x ps) (len : ∀ vs H Q E, sp vs H Q E → vs.length = ps.length)
    (body : ∀ (f : Addr) (cdv : Value) (A : Around) (outer : List Env) (s : Shared) (H : Hp) (vs : List V) (Q : VK) (E : XK), Room k (A.deeper (envOfC x (defScope st) s.heap.objs.size f cdv)) → sp vs H Q E →
      ∃ t, PSs (cxOf CX0 P w K mg base N x (defScope st) f cdv A outer s H E).nox (defBody st) t ∧ t { nx := fun _ H' => Q .non H', rt := Q } (start N vs) H) : Has P w K mg base (k + 1) x ps sp := by
  obtain ⟨f, fd, F, m⟩ := F
  exact ⟨f, fd, F.ok S len (fun cdv A outer s H vs Q E => body f cdv A outer s H vs Q E), m, F.kp, F.binds hb⟩
theorem mk_hasX {x : Str} {st : Stmt} {N ps : List Str} {k : Nat} {sp : Sp} (F : FunAt K mg x st) (S : FnScope N ps (defScope st)) (hb : BindsTo? st x ps) (len : ∀ vs H Q E, sp vs H Q E → vs.length = ps.length)
    (body : ∀ (f : Addr) (cdv : Value) (A : Around) (outer : List Env) (s : Shared) (H : Hp) (vs : List V) (Q : VK) (E : XK), Room k (A.deeper (envOfC x (defScope st) s.heap.objs.size f cdv)) → sp vs H Q E →
      ∃ t, PSs (cxOf (L2.CX P w) P w K mg base N x (defScope st) f cdv A outer s H E) (defBody st) t ∧ t { nx := fun _ H' => Q .non H', rt := Q } (start N vs) H) : HasX P w K mg base (k + 1) x ps sp := by
  obtain ⟨f, fd, F, m⟩ := F
  exact ⟨f, fd, F.okX S len (fun cdv A outer s H vs Q E => body f cdv A outer s H vs Q E), m, F.kp, F.binds hb⟩
theorem Has.mono {x : Str} {ps : List Str} {j k : Nat} {sp : Sp} (D : Has P w K mg base j x ps sp) (h : j ≤ k) : Has P w K mg base k x ps sp := by
  obtain ⟨f, fd, G, r⟩ := D
  exact ⟨f, fd, G.mono h, r⟩
theorem Has.imp {x : Str} {ps : List Str} {k : Nat} {sp sp' : Sp} (D : Has P w K mg base k x ps sp) (h : ∀ vs H Q E, sp' vs H Q E → sp vs H Q E) : Has P w K mg base k x ps sp' := by
  obtain ⟨f, fd, G, r⟩ := D
  exact ⟨f, fd, G.imp h, r⟩
end
section
variable {X : Cx} {k : Nat} {x : Str} {ps : List Str} {sp : Sp} {e : Expr} {es : List Expr} {p pos : Pos} {t : TA}
/-- f(e, ..), f by its promise -/
theorem pe_h (D : Has X.prog X.w X.K X.mg X.base k x ps sp) (hr : Room k X.A) (hg : Gl X x) (ha : PA X (e :: es) t) (hdb : (x == ("__debug__" : Str)) = false := by decide)
    (he : starEach (e :: es) X.env = (false, eval e X.env) :: starEach es X.env := by rfl) (hpl : (backTo pos (starEach es X.env)).any (·.1) = false := by rfl) :
    PE X (.Call (.Name x p) (e :: es) [] pos) (tCall sp [] E0 t) := by
  obtain ⟨f, fd, G, m, kp, b⟩ := D
  exact pe_call G hr hg m kp b .nil pass0 ha hdb he hpl
/-- .. one that may raise, in a try's body -/
theorem pe_hX {W : WX} (tk : Takes X W) (D : HasX X.prog X.w X.K X.mg X.base k x ps sp) (hr : Room k X.A) (hg : Gl X x) (ha : PA X (e :: es) t) (hdb : (x == ("__debug__" : Str)) = false := by decide)
    (he : starEach (e :: es) X.env = (false, eval e X.env) :: starEach es X.env := by rfl) (hpl : (backTo pos (starEach es X.env)).any (·.1) = false := by rfl) :
    PE X (.Call (.Name x p) (e :: es) [] pos) (tCallS sp (WE W) t) := by
  obtain ⟨f, fd, G, m, kp, b⟩ := D
  exact pe_callS G hr hg m kp b (passAt tk) ha hdb he hpl
end

/-! ### x is True, x is False, for any x -/
def rIsAny : R2 := fun x y H Q => ∃ b : Bool, y = .bl b ∧ Q (.bl (decide (x = .bl b))) H
theorem op_isB {X : Cx} : OpR X (compareOp .Is) rIsAny := by
  intro pins s σ H x y v u Q I rx ry h
  obtain ⟨b, rfl, q⟩ := h
  cases (show u = Value.bool b from ry)
  have fin : ∀ c : Bool, decide (x = V.bl b) = c → EP X pins σ Q (Value.bool c) s := fun c e => ⟨.bl c, H, I, rfl, by rw [← e]; exact q⟩
  cases x with
  | bl a =>
    cases (show v = Value.bool a from rx)
    by_cases e : a = b
    · subst e
      exact wpAny_is_self rfl (fin true (by simp))
    · exact wpAny_is_other rfl (fun z => e (Value.bool.inj z)) (fin false (by simp [e]))
  | non => cases (show v = Value.none from rx); exact wpAny_is_other rfl (by intro z; cases z) (fin false (by simp))
  | int i => obtain ⟨t, rfl⟩ := (show ∃ t, v = Value.int i t from rx); exact wpAny_is_other rfl (by intro z; cases z) (fin false (by simp))
  | str i => obtain ⟨t, rfl⟩ := (show ∃ t, v = Value.str i t from rx); exact wpAny_is_other rfl (by intro z; cases z) (fin false (by simp))
  | byt i => obtain ⟨t, rfl⟩ := (show ∃ t, v = Value.bytes i t from rx); exact wpAny_is_other rfl (by intro z; cases z) (fin false (by simp))
  | flt i => obtain ⟨t, rfl⟩ := (show ∃ t, v = Value.float i t from rx); exact wpAny_is_other rfl (by intro z; cases z) (fin false (by simp))
  | ref a => cases (show v = Value.ref a from rx); exact wpAny_is_other rfl (by intro z; cases z) (fin false (by simp))
  | ty n => cases (show v = Value.type n from rx); exact wpAny_is_other rfl (by intro z; cases z) (fin false (by simp))
end KQ
set_option Elab.async false
set_option maxRecDepth 100000
set_option maxHeartbeats 4000000
namespace KQ
open PySem PySem.Spec PyProof.Rows L2

/-! ### data as a whole, away from the places N that are written -/
mutual
inductive Rp (N : Addr → Prop) (H : Hp) : V → PyData → Prop
  | non : Rp N H .non .none
  | bl (b : Bool) : Rp N H (.bl b) (.bool b)
  | int (i : Int) : Rp N H (.int i) (.int i)
  | str (x : Str) : Rp N H (.str x) (.str x)
  | lst {a : Addr} {xs : List V} {ds : List PyData} : H a = some (.lst xs) → ¬ N a → RpAll N H xs ds → Rp N H (.ref a) (.list ds)
  | tup {a : Addr} {xs : List V} {ds : List PyData} : H a = some (.tup xs) → ¬ N a → RpAll N H xs ds → Rp N H (.ref a) (.tuple ds)
  | emp {a : Addr} : H a = some (.dK []) → ¬ N a → Rp N H (.ref a) (.dict [])
inductive RpAll (N : Addr → Prop) (H : Hp) : List V → List PyData → Prop
  | nil : RpAll N H [] []
  | cons {v : V} {vs : List V} {d : PyData} {ds : List PyData} : Rp N H v d → RpAll N H vs ds → RpAll N H (v :: vs) (d :: ds)
end
/-- all but what stands at N is kept -/
def Kp (N : Addr → Prop) (H H' : Hp) : Prop := ∀ a o, H a = some o → ¬ N a → H' a = some o
theorem Kp.refl {N : Addr → Prop} {H : Hp} : Kp N H H := fun _ _ e _ => e
theorem Kp.trans {N : Addr → Prop} {H H1 H2 : Hp} (a : Kp N H H1) (b : Kp N H1 H2) : Kp N H H2 := fun c o e n => b c o (a c o e n) n
theorem Kp.new {N : Addr → Prop} {H : Hp} {p : Addr} {o : HO} (h : H p = none) : Kp N H (upd H p o) := fun a u e _ => by rw [upd_ne (ne_of_none e h)]; exact e
theorem Kp.new' {N : Addr → Prop} {H0 H : Hp} {p : Addr} {o : HO} (k : Kp N H0 H) (h : H p = none) : Kp N H0 (upd H p o) := k.trans (Kp.new h)
theorem Kp.put {N : Addr → Prop} {H : Hp} {p : Addr} {o : HO} (h : N p) : Kp N H (upd H p o) := fun a u e n => by rw [upd_ne (fun z => n (by rw [z]; exact h))]; exact e
theorem Kp.put' {N : Addr → Prop} {H0 H : Hp} {p : Addr} {o : HO} (k : Kp N H0 H) (h : N p) : Kp N H0 (upd H p o) := k.trans (Kp.put h)
theorem Kp.of_same {N : Addr → Prop} {H H' : Hp} (h : Same H H') : Kp N H H' := fun a o e _ => h a o e
theorem Kp.wide {N N' : Addr → Prop} {H H' : Hp} (k : Kp N H H') (h : ∀ a, N a → N' a) : Kp N' H H' := fun a o e n => k a o e fun z => n (h a z)
/-- what is free behind was free ahead, if what is at N stays in being -/
theorem Kp.free {N : Addr → Prop} {H H' : Hp} (k : Kp N H H') (hn : ∀ a, N a → H' a ≠ none) {p : Addr} (h : H' p = none) : H p = none := by
  cases e : H p with
  | none => rfl
  | some o =>
    by_cases n : N p
    · exact absurd h (hn p n)
    · rw [k p o e n] at h; cases h
mutual
theorem Rp.kp {N N' : Addr → Prop} {H H' : Hp} (k : Kp N H H') (hN : ∀ a o, H a = some o → ¬ N a → ¬ N' a) : ∀ {v : V} {d : PyData}, Rp N H v d → Rp N' H' v d
  | _, _, .non => .non
  | _, _, .bl b => .bl b
  | _, _, .int i => .int i
  | _, _, .str x => .str x
  | _, _, .lst e n r => .lst (k _ _ e n) (hN _ _ e n) (r.kp k hN)
  | _, _, .tup e n r => .tup (k _ _ e n) (hN _ _ e n) (r.kp k hN)
  | _, _, .emp e n => .emp (k _ _ e n) (hN _ _ e n)
theorem RpAll.kp {N N' : Addr → Prop} {H H' : Hp} (k : Kp N H H') (hN : ∀ a o, H a = some o → ¬ N a → ¬ N' a) : ∀ {vs : List V} {ds : List PyData}, RpAll N H vs ds → RpAll N' H' vs ds
  | _, _, .nil => .nil
  | _, _, .cons r t => .cons (r.kp k hN) (t.kp k hN)
end
theorem Rp.to {N : Addr → Prop} {H H' : Hp} {v : V} {d : PyData} (r : Rp N H v d) (k : Kp N H H') : Rp N H' v d := r.kp k fun _ _ _ n => n
theorem RpAll.to {N : Addr → Prop} {H H' : Hp} {v : List V} {d : List PyData} (r : RpAll N H v d) (k : Kp N H H') : RpAll N H' v d := r.kp k fun _ _ _ n => n
/-- further places to be written, all new -/
theorem Rp.more {N N' : Addr → Prop} {H : Hp} {v : V} {d : PyData} (r : Rp N H v d) (h : ∀ a, N' a → N a ∨ H a = none) : Rp N' H v d :=
  r.kp Kp.refl fun a o e n z => (h a z).elim n fun q => by rw [q] at e; cases e
theorem RpAll.length {N : Addr → Prop} {H : Hp} : ∀ {vs : List V} {ds : List PyData}, RpAll N H vs ds → vs.length = ds.length
  | _, _, .nil => rfl
  | _, _, .cons _ t => congrArg (· + 1) t.length
theorem RpAll.get {N : Addr → Prop} {H : Hp} : ∀ {vs : List V} {ds : List PyData} {i : Nat} {v : V}, RpAll N H vs ds → vs[i]? = some v → ∃ d, ds[i]? = some d ∧ Rp N H v d
  | _, _, _, _, .nil, e => by simp at e
  | _, _, 0, _, .cons r _, e => by simp at e; subst e; exact ⟨_, rfl, r⟩
  | _, _, i + 1, _, .cons _ t, e => by simpa using t.get (i := i) (by simpa using e)
theorem RpAll.app {N : Addr → Prop} {H : Hp} : ∀ {vs ws : List V} {ds es : List PyData}, RpAll N H vs ds → RpAll N H ws es → RpAll N H (vs ++ ws) (ds ++ es)
  | _, _, _, _, .nil, s => s
  | _, _, _, _, .cons r t, s => .cons r (t.app s)
theorem RpAll.drop {N : Addr → Prop} {H : Hp} : ∀ {vs : List V} {ds : List PyData} (n : Nat), RpAll N H vs ds → RpAll N H (vs.drop n) (ds.drop n)
  | _, _, 0, r => r
  | _, _, _ + 1, .nil => .nil
  | _, _, n + 1, .cons _ t => RpAll.drop n t
theorem RpAll.take {N : Addr → Prop} {H : Hp} : ∀ {vs : List V} {ds : List PyData} (n : Nat), RpAll N H vs ds → RpAll N H (vs.take n) (ds.take n)
  | _, _, 0, _ => .nil
  | _, _, _ + 1, .nil => .nil
  | _, _, n + 1, .cons r t => .cons r (RpAll.take n t)
/-- the name of its type -/
def tyN : PyData → String
  | .none => "NoneType" | .bool _ => "bool" | .int _ => "int" | .str _ => "str" | .list _ => "list" | .tuple _ => "tuple" | .dict _ => "dict"
theorem Rp.ty {K : PySem.W.Frag} {N : Addr → Prop} {H : Hp} {v : V} {d : PyData} (r : Rp N H v d) : TyX K H v (.type (tyN d)) := by
  cases r with
  | non => exact .base .non
  | bl b => exact .base (.bl b)
  | int i => exact .base (.int i)
  | str x => exact .base (.str x)
  | lst e _ _ => exact .base (.lst e)
  | tup e _ _ => exact .base (.tup e)
  | emp e _ => exact .base (.dK e)
/-- is it of this kind (a flag is an int too) -/
def isT (T : String) (d : PyData) : Bool := tyN d == T || (T == "int" && tyN d == "bool")
def tyNs : List String := ["NoneType", "bool", "int", "str", "list", "tuple", "dict"]
theorem tyN_in (d : PyData) : tyN d ∈ tyNs := by cases d <;> simp [tyN, tyNs]
theorem kit_T {K : PySem.W.Frag} {T : String} (h : ∀ s ∈ tyNs, kitB s T = some (s == T || (T == "int" && s == "bool"))) (d : PyData) : PySem.W.kitOne K (.type (tyN d)) (.type T) = some (isT T d) := kit_ty (h _ (tyN_in d))
theorem kit_int {K : PySem.W.Frag} (d : PyData) : PySem.W.kitOne K (.type (tyN d)) (.type "int") = some (isT "int" d) := kit_T (by decide +kernel) d
theorem kit_bool {K : PySem.W.Frag} (d : PyData) : PySem.W.kitOne K (.type (tyN d)) (.type "bool") = some (isT "bool" d) := kit_T (by decide +kernel) d
theorem kit_str {K : PySem.W.Frag} (d : PyData) : PySem.W.kitOne K (.type (tyN d)) (.type "str") = some (isT "str" d) := kit_T (by decide +kernel) d
theorem kit_tuple {K : PySem.W.Frag} (d : PyData) : PySem.W.kitOne K (.type (tyN d)) (.type "tuple") = some (isT "tuple" d) := kit_T (by decide +kernel) d
theorem kit_list {K : PySem.W.Frag} (d : PyData) : PySem.W.kitOne K (.type (tyN d)) (.type "list") = some (isT "list" d) := kit_T (by decide +kernel) d
/-- isinstance(x, T) of a datum -/
theorem isi {K : PySem.W.Frag} {N : Addr → Prop} {H : Hp} {v : V} {d : PyData} {T : String} {Q : VK} (r : Rp N H v d) (k : PySem.W.kitOne K (.type (tyN d)) (.type T) = some (isT T d)) (q : Q (.bl (isT T d)) H) : rIsi K [v, .ty T] H Q :=
  ⟨v, .ty T, _, .type T, _, rfl, .ty T, r.ty, k, q⟩
/-- an integer, as the judges mean it -/
def intOf : PyData → Option Int
  | .int i => some i
  | _ => none
end KQ
set_option Elab.async false
set_option maxRecDepth 100000
set_option maxHeartbeats 4000000
namespace KQ
open PySem PySem.Spec PyProof.Rows L2

/-! ### an own error class without __init__: raised without arguments, caught by its name -/
section
variable {X : Cx} {C : Addr} {bmB : List Value} {B newId initId : String}
theorem pmk_bare {x : Str} {p pos : Pos} (F : ExcBaseFacts B newId initId bmB) (q : PySem.W.excIn X.K C bmB newId = true) (gC : X.mg x = some (.ref C)) (kC : PySem.W.keepIn X.K (.ref C) = true) (r : Raises X (.ref C)) (hg : Gl X x)
    (hdb : (x == ("__debug__" : Str)) = false := by decide) : PMk X (.Call (.Name x p) [] [] pos) (fun _ H Q => Q (.ref C) none H) := by
  intro pins s σ H Q I h
  refine wpAny_Call_Name_kw (ld_glob I hg gC ?_ hdb)
  refine PySem.W.callWith_K0 I.kIn kC ?_
  obtain ⟨bm, N, nm, qn, bs, hdct, sn, sub, ab, col, dd, k0, k1, k2, k3, k5, mN, hC, hN, hni, T⟩ := exc_obj I.kIn q
  obtain ⟨hp, g, d, t, os⟩ := s
  exact wpAny_call_exc_subT F T hC hN hni (rest := []) (fun h' e hm => mk_of I hm r h (I.hok.gone hm.new)) (Nat.zero_le _)
end
/-- what the written part says of such a class -/
structure ExcAt (K : PySem.W.Frag) (mg : Str → Option Value) (x : Str) (C : Addr) : Prop where
  g : mg x = some (.ref C)
  kp : PySem.W.keepIn K (.ref C) = true
  ex : PySem.W.excIn K C [.type "ValueError", .type "Exception", .type "BaseException", .type "object"] "ValueError.__new__" = true
  sub : PySem.W.subIn K (.ref C) (.type "BaseException") = some true
  ty : PySem.W.typeIn K (.ref C) = some (.type "type")
  own : PySem.W.subIn K (.ref C) (.ref C) = some true
  isC : PySem.W.isClsIn K C = true
theorem ExcAt.raises {X : Cx} {x : Str} {C : Addr} (T : ExcAt X.K X.mg x C) : Raises X (.ref C) := raises_own T.sub T.ty
theorem ExcAt.exm {K : PySem.W.Frag} {mg : Str → Option Value} {x : Str} {C : Addr} (T : ExcAt K mg x C) : PySem.W.exmOne K (.ref C) (.ref C) = some true := by
  unfold PySem.W.exmOne
  have e1 : (PySem.W.clsIn K C).isSome = true := T.isC
  simp [T.sub, PySem.W.kitCls, T.own, T.ty, e1]
theorem pmk_x {X : Cx} {x : Str} {C : Addr} {p pos : Pos} (T : ExcAt X.K X.mg x C) (hg : Gl X x) (hdb : (x == ("__debug__" : Str)) = false := by decide) : PMk X (.Call (.Name x p) [] [] pos) (fun _ H Q => Q (.ref C) none H) :=
  pmk_bare PySem.F.excBase_ValueError T.ex T.g T.kp T.raises hg hdb
/-- raise X() in a def that may raise it -/
def tRz (E : XK) (C : Addr) : TS := fun _ _ H => E (.ref C) none H
theorem ps_rz {X : Cx} {x : Str} {C : Addr} {W : WX} {p pos pos2 : Pos} (hc : X.calm = true) (tk : Takes X W) (T : ExcAt X.K X.mg x C) (hg : Gl X x) (hdb : (x == ("__debug__" : Str)) = false := by decide) :
    PS X (.Raise (some (.Call (.Name x p) [] [] pos)) none pos2) (fun _ σ H => W (.ref C) none σ H) := ps_raise hc tk (pmk_x T hg hdb)
end KQ
set_option Elab.async false
set_option maxRecDepth 100000
set_option maxHeartbeats 4000000
namespace KQ
open PySem PySem.Spec PyProof.Rows L2
/-! ### methods by their promises -/
/-- a method of the class at C as the top has left it -/
def MethAt (K : PySem.W.Frag) (C : Addr) (m qual : Str) (st : Stmt) : Prop := ∃ f fd, Fun K m qual st f fd ∧ Meth K C m f
def HasM (P : Program) (w : World) (K : PySem.W.Frag) (mg : Str → Option Value) (base : Heap) (k : Nat) (C : Addr) (m : Str) (ps : List Str) (sp : Sp) : Prop :=
  ∃ f fd, FnOk P w K mg base CX0 k f fd ps sp ∧ Meth K C m f ∧ Binds K fd ps []
def HasMX (P : Program) (w : World) (K : PySem.W.Frag) (mg : Str → Option Value) (base : Heap) (k : Nat) (C : Addr) (m : Str) (ps : List Str) (sp : Sp) : Prop :=
  ∃ f fd, FnOk P w K mg base (L2.CX P w) k f fd ps sp ∧ Meth K C m f ∧ Binds K fd ps []
/-- a class that is made by its own __init__ -/
def HasC (P : Program) (w : World) (K : PySem.W.Frag) (mg : Str → Option Value) (base : Heap) (k : Nat) (x : Str) (C : Addr) (ps : List Str) (sp : Sp) : Prop :=
  ∃ f fd, FnOk P w K mg base CX0 k f fd ps sp ∧ Mk K C f ∧ mg x = some (.ref C) ∧ Binds K fd ps []
def HasCX (P : Program) (w : World) (K : PySem.W.Frag) (mg : Str → Option Value) (base : Heap) (k : Nat) (x : Str) (C : Addr) (ps : List Str) (sp : Sp) : Prop :=
  ∃ f fd, FnOk P w K mg base (L2.CX P w) k f fd ps sp ∧ Mk K C f ∧ mg x = some (.ref C) ∧ Binds K fd ps []
abbrev BindsQ (st : Stmt) (x qual : Str) (ps : List Str) : Prop :=
  ∀ (kV doc pm : Value) (an : Option Addr) (cdv ct : Value) (us : List Value), us.length = ps.length → bindArgs (PySem.W.fnOf x qual (defArgs st) (defBody st) (defScope st) .none kV doc pm an cdv ct) ⟨us, []⟩ = pure (ps.zip us)
section
variable {P : Program} {w : World} {K : PySem.W.Frag} {mg : Str → Option Value} {base : Heap}
theorem mk_hasM {C : Addr} {x qual : Str} {st : Stmt} {N ps : List Str} {k : Nat} {sp : Sp} (F : MethAt K C x qual st) (S : FnScope N ps (defScope st)) (hb : BindsQ st x qual ps) (len : ∀ vs H Q E, sp vs H Q E → vs.length = ps.length)
    (body : ∀ (f : Addr) (cdv : Value) (A : Around) (outer : List Env) (s : Shared) (H : Hp) (vs : List V) (Q : VK) (E : XK), Room k (A.deeper (envOfC qual (defScope st) s.heap.objs.size f cdv)) → sp vs H Q E →
      ∃ t, PSs (cxOf CX0 P w K mg base N qual (defScope st) f cdv A outer s H E).nox (defBody st) t ∧ t { nx := fun _ H' => Q .non H', rt := Q } (start N vs) H) : HasM P w K mg base (k + 1) C x ps sp := by
  obtain ⟨f, fd, F, m⟩ := F
  exact ⟨f, fd, F.ok S len (fun cdv A outer s H vs Q E => body f cdv A outer s H vs Q E), m, F.binds hb⟩
theorem mk_hasMX {C : Addr} {x qual : Str} {st : Stmt} {N ps : List Str} {k : Nat} {sp : Sp} (F : MethAt K C x qual st) (S : FnScope N ps (defScope st)) (hb : BindsQ st x qual ps) (len : ∀ vs H Q E, sp vs H Q E → vs.length = ps.length)
    (body : ∀ (f : Addr) (cdv : Value) (A : Around) (outer : List Env) (s : Shared) (H : Hp) (vs : List V) (Q : VK) (E : XK), Room k (A.deeper (envOfC qual (defScope st) s.heap.objs.size f cdv)) → sp vs H Q E →
      ∃ t, PSs (cxOf (L2.CX P w) P w K mg base N qual (defScope st) f cdv A outer s H E) (defBody st) t ∧ t { nx := fun _ H' => Q .non H', rt := Q } (start N vs) H) : HasMX P w K mg base (k + 1) C x ps sp := by
  obtain ⟨f, fd, F, m⟩ := F
  exact ⟨f, fd, F.okX S len (fun cdv A outer s H vs Q E => body f cdv A outer s H vs Q E), m, F.binds hb⟩
/-- a class's __init__ -/
def InitAt (K : PySem.W.Frag) (mg : Str → Option Value) (x : Str) (C : Addr) (qual : Str) (st : Stmt) : Prop := ∃ f fd, Fun K "__init__" qual st f fd ∧ Mk K C f ∧ mg x = some (.ref C)
theorem mk_hasC {C : Addr} {x qual : Str} {st : Stmt} {N ps : List Str} {k : Nat} {sp : Sp} (F : InitAt K mg x C qual st) (S : FnScope N ps (defScope st)) (hb : BindsQ st "__init__" qual ps) (len : ∀ vs H Q E, sp vs H Q E → vs.length = ps.length)
    (body : ∀ (f : Addr) (cdv : Value) (A : Around) (outer : List Env) (s : Shared) (H : Hp) (vs : List V) (Q : VK) (E : XK), Room k (A.deeper (envOfC qual (defScope st) s.heap.objs.size f cdv)) → sp vs H Q E →
      ∃ t, PSs (cxOf CX0 P w K mg base N qual (defScope st) f cdv A outer s H E).nox (defBody st) t ∧ t { nx := fun _ H' => Q .non H', rt := Q } (start N vs) H) : HasC P w K mg base (k + 1) x C ps sp := by
  obtain ⟨f, fd, F, m, g⟩ := F
  exact ⟨f, fd, F.ok S len (fun cdv A outer s H vs Q E => body f cdv A outer s H vs Q E), m, g, F.binds hb⟩
theorem mk_hasCX {C : Addr} {x qual : Str} {st : Stmt} {N ps : List Str} {k : Nat} {sp : Sp} (F : InitAt K mg x C qual st) (S : FnScope N ps (defScope st)) (hb : BindsQ st "__init__" qual ps) (len : ∀ vs H Q E, sp vs H Q E → vs.length = ps.length)
    (body : ∀ (f : Addr) (cdv : Value) (A : Around) (outer : List Env) (s : Shared) (H : Hp) (vs : List V) (Q : VK) (E : XK), Room k (A.deeper (envOfC qual (defScope st) s.heap.objs.size f cdv)) → sp vs H Q E →
      ∃ t, PSs (cxOf (L2.CX P w) P w K mg base N qual (defScope st) f cdv A outer s H E) (defBody st) t ∧ t { nx := fun _ H' => Q .non H', rt := Q } (start N vs) H) : HasCX P w K mg base (k + 1) x C ps sp := by
  obtain ⟨f, fd, F, m, g⟩ := F
  exact ⟨f, fd, F.okX S len (fun cdv A outer s H vs Q E => body f cdv A outer s H vs Q E), m, g, F.binds hb⟩
end
section
variable {X : Cx} {k : Nat} {C : Addr} {x m : Str} {ps : List Str} {sp : Sp} {e o : Expr} {es : List Expr} {p pos apos : Pos} {ta : TE} {t : TA} {pl : Sem Bool}
theorem pe_m (D : HasM X.prog X.w X.K X.mg X.base k C m ps sp) (c : Cls X.K C) (hr : Room k X.A) (ho : PE X o ta) (ha : PA X (e :: es) t)
    (hst : starEach (e :: es) X.env = (false, eval e X.env) :: starEach es X.env := by rfl) (hpl : (backTo pos (starEach es X.env)).any (·.1) = false := by rfl)
    (ht : eval (.Call (.Attribute o m apos) (e :: es) [] pos) X.env = (do
      let ov ← eval o X.env
      standAt apos.atName
      let (f, first) ← holding [ov] (getMethod ov m pl)
      callWith pos f first (backTo pos (starEach (e :: es) X.env)) (backToKw pos (keywordEach [] X.env))) := by rfl) :
    PE X (.Call (.Attribute o m apos) (e :: es) [] pos) (tMeth C m sp [] E0 ta t) := by
  obtain ⟨f, fd, G, M, b⟩ := D
  exact pe_meth ho c M G hr b .nil pass0 ha hst hpl ht
theorem pe_m0 (D : HasM X.prog X.w X.K X.mg X.base k C m ps sp) (c : Cls X.K C) (hr : Room k X.A) (ho : PE X o ta)
    (ht : eval (.Call (.Attribute o m apos) [] [] pos) X.env = (do
      let ov ← eval o X.env
      standAt apos.atName
      let (f, first) ← holding [ov] (getMethod ov m pl)
      callWith pos f first (backTo pos (starEach [] X.env)) (backToKw pos (keywordEach [] X.env))) := by rfl) :
    PE X (.Call (.Attribute o m apos) [] [] pos) (tMeth C m sp [] E0 ta tNil) := by
  obtain ⟨f, fd, G, M, b⟩ := D
  exact pe_meth0 ho c M G hr b .nil pass0 ht
/-- a method that may raise, called where that is wished for (W) -/
def tMethW (C : Addr) (m : Str) (sp : Sp) (W : WX) (ta : TE) (t : TA) : TE := fun σ H Q => ta σ H fun x H1 => ∃ a dx fs, x = .ref a ∧ H1 a = some (.ins C dx fs) ∧ fs.lookup m = none ∧ t σ H1 fun vs H2 => sp (x :: vs) H2 Q (WE W σ)
theorem pe_mX {W : WX} (tk : Takes X W) (D : HasMX X.prog X.w X.K X.mg X.base k C m ps sp) (c : Cls X.K C) (hr : Room k X.A) (ho : PE X o ta) (ha : PA X (e :: es) t)
    (hst : starEach (e :: es) X.env = (false, eval e X.env) :: starEach es X.env := by rfl) (hpl : (backTo pos (starEach es X.env)).any (·.1) = false := by rfl)
    (ht : eval (.Call (.Attribute o m apos) (e :: es) [] pos) X.env = (do
      let ov ← eval o X.env
      standAt apos.atName
      let (f, first) ← holding [ov] (getMethod ov m pl)
      callWith pos f first (backTo pos (starEach (e :: es) X.env)) (backToKw pos (keywordEach [] X.env))) := by rfl) :
    PE X (.Call (.Attribute o m apos) (e :: es) [] pos) (tMethW C m sp W ta t) := by
  obtain ⟨f, fd, G, M, b⟩ := D
  constructor
  intro pins s σ H Q I h
  refine PySem.W.methodCall_KW (pl := pl) (thn (ho.run pins s σ H _ I h) ?_) ht
  rintro u s1 ⟨x, H1, I1, rx, a, dx, fs, rfl, ea, l, q⟩
  obtain rfl : u = Value.ref a := rx
  refine getmeth_ok I1 ea c M l (PySem.W.callWith_K (first := [.ref a]) (h₀ := X.base) I.ok.mod.kin M.kp (thn (ha.run pos pins s1 σ H1 _ I1 q) ?_) hst hpl)
  rintro us s2 ⟨vs, H2, I2, r, q2⟩
  exact ⟨I2.kIn, run_fnS (us := .ref a :: us) (vs := .ref a :: vs) G hr b (passAt tk σ) I2 (.cons rfl r) q2⟩
theorem pe_c (D : HasC X.prog X.w X.K X.mg X.base k x C ps sp) (hr : Room (k + 1) X.A) (hg : Gl X x) (ha : PA X (e :: es) t) (hdb : (x == ("__debug__" : Str)) = false := by decide)
    (he : starEach (e :: es) X.env = (false, eval e X.env) :: starEach es X.env := by rfl) (hpl : (backTo pos (starEach es X.env)).any (·.1) = false := by rfl) :
    PE X (.Call (.Name x p) (e :: es) [] pos) (tMake C sp [] E0 t) := by
  obtain ⟨f, fd, G, M, g, b⟩ := D
  exact pe_make M G hr hg g b .nil pass0 ha hdb he hpl
theorem pe_c0 (D : HasC X.prog X.w X.K X.mg X.base k x C ps sp) (hr : Room (k + 1) X.A) (hg : Gl X x) (hdb : (x == ("__debug__" : Str)) = false := by decide) :
    PE X (.Call (.Name x p) [] [] pos) (tMake C sp [] E0 tNil) := by
  obtain ⟨f, fd, G, M, g, b⟩ := D
  exact pe_make0 M G hr hg g b .nil pass0 hdb
end
end KQ
set_option Elab.async false
set_option maxRecDepth 100000
set_option maxHeartbeats 4000000
/-! B4: from the facts that the head finds to defs, methods, classes; the law's own end. -/
namespace KQ
open PySem PySem.Spec PyProof.Rows L2
section
variable {K : PySem.W.Frag} {h : Heap} {mg : Str → Option Value} {x m qual : Str} {st : Stmt} {f C : Addr} {oc : Value} {od an : Option Addr} {kV doc pm cdv ct : Value} {sl : Array (Option Value)}
theorem funAt_of (X : K.In h) (G : h.Ns mainGlobals mg) (a : PySem.W.nsIn K mainGlobals x = some (some (.ref f))) (l : K.lookup f = some ⟨oc, od, .func (PySem.W.fnOf x x (defArgs st) (defBody st) (defScope st) .none kV doc pm an cdv ct), sl⟩)
    (c : PySem.W.codeIn K cdv x = true) (k : PySem.W.keepIn K (.ref f) = true) : FunAt K mg x st := ⟨f, _, fun_mk l c k, PySem.W.mg_of X G a⟩
theorem methAt_of (a : PySem.W.findIn K (.ref C) m = some (some (.ref f))) (i : PySem.W.isFn K (.ref f) = true) (l : K.lookup f = some ⟨oc, od, .func (PySem.W.fnOf m qual (defArgs st) (defBody st) (defScope st) .none kV doc pm an cdv ct), sl⟩)
    (c : PySem.W.codeIn K cdv qual = true) (k : PySem.W.keepIn K (.ref f) = true) : MethAt K C m qual st := ⟨f, _, fun_mk l c k, ⟨a, i, k⟩⟩
theorem initAt_of (X : K.In h) (G : h.Ns mainGlobals mg) (aC : PySem.W.nsIn K mainGlobals x = some (some (.ref C))) (mk : PySem.W.makesIn K C = true) (kC : PySem.W.keepIn K (.ref C) = true)
    (a : PySem.W.findIn K (.ref C) "__init__" = some (some (.ref f))) (i : PySem.W.isFn K (.ref f) = true) (l : K.lookup f = some ⟨oc, od, .func (PySem.W.fnOf "__init__" qual (defArgs st) (defBody st) (defScope st) .none kV doc pm an cdv ct), sl⟩)
    (c : PySem.W.codeIn K cdv qual = true) (k : PySem.W.keepIn K (.ref f) = true) : InitAt K mg x C qual st := ⟨f, _, fun_mk l c k, ⟨mk, a, i, kC⟩, PySem.W.mg_of X G aC⟩
/-- a built-in name that the text leaves alone -/
theorem free_of (X : K.In h) (G : h.Ns mainGlobals mg) (e : PySem.W.nsIn K mainGlobals x = some none) : mg x = none := PySem.W.mg_none_of X G e
theorem excAt_of (X : K.In h) (G : h.Ns mainGlobals mg) (a : PySem.W.nsIn K mainGlobals x = some (some (.ref C))) (kp : PySem.W.keepIn K (.ref C) = true)
    (ex : PySem.W.excIn K C [.type "ValueError", .type "Exception", .type "BaseException", .type "object"] "ValueError.__new__" = true) (sub : PySem.W.subIn K (.ref C) (.type "BaseException") = some true)
    (ty : PySem.W.typeIn K (.ref C) = some (.type "type")) (own : PySem.W.subIn K (.ref C) (.ref C) = some true) (isC : PySem.W.isClsIn K C = true) : ExcAt K mg x C := ⟨PySem.W.mg_of X G a, kp, ex, sub, ty, own, isC⟩
end
theorem walkX {l : PySem.W.OpenLaw} {k : Nat} {q : Program} {loose : List Str} {XP : (Str → Option Value) → Heap → Prop} {YP : World → Heap → Prop} {d : DefRec} {K : Params → PySem.W.Frag} {sp : PySem.W.Frag → Sp} (hn : l.most = some 63) (hdf : d.params.defaults = []) (hr : Room k callerA)
    (hY : ∀ (w : World) (h : Heap), YP w h → (K w.params).In h)
    (F : ∀ (w : World) (mg : Str → Option Value) (fa : Addr) (h : Heap), (K w.params).In h → h.Ns mainGlobals mg → XP mg h → mg d.name = some (.ref fa) →
      ∃ fd : FuncData, (∀ (s : Shared) (u : Value), BindsTo s fd ⟨[u], []⟩ [("script", u)]) ∧ ∀ base : Heap, FnOk l.prog w (K w.params) mg base CX0 k fa fd ["script"] (sp (K w.params)))
    (hsp : ∀ (K : PySem.W.Frag) (H : Hp) (a : Addr) (ns : List Int), ns.length ≤ 63 → SqL K H a (ns.map V.int) → sp K [.ref a] H (fun v _ => v = .bl true) fun _ _ _ => False) :
    PySem.W.WalkO q loose XP YP l.row.toRowW d [] (fun f vs => PySem.call f vs) :=
  Att.attach_call hn hdf fun w _ s₁ mg _ fa _ _ _ _ a _ ns G Y _ _ _ hmg hobj hints hlen hg =>
    let ⟨_, hb, hF⟩ := F w mg fa _ (hY w _ Y) G.T.g G.X hmg
    law_call (CX := CX0) (hY w _ Y) G.T.g G.T.b G.T.builtins G.T.nolimit hg hobj hints (Nat.le_trans hlen (by decide)) hr (fun base _ _ => hF base) hb (fun H _ hS => hsp _ H a ns hlen hS) fun _ _ _ z => z
end KQ
set_option Elab.async false
set_option maxRecDepth 100000
set_option maxHeartbeats 4000000
/-! B5: enumerate of a tuple, walked. -/
namespace KQ
open PySem PySem.Spec PyProof.Rows L2
set_option maxHeartbeats 4000000 in
theorem enum_new {v : Value} {o : Obj} {Z : Heap → Prop} (B : Begins v o Z) :
    Meets (Builtin.«enumerate.__new__» ⟨[.type "enumerate", v], []⟩) (fun _ R s => Z s.heap ∧
      R (.ok (.ret (.ref (s.heap.push o).objs.size))) { s with heap := (s.heap.push o).push { cls := .type "enumerate", data := .fields #[.none, .bool false, .ref s.heap.objs.size, rawInt 0, .none, .none] } }) := by
  refine .of_wp fun prog w A R s h => ?_
  obtain ⟨hp, g, d, tk, os⟩ := s
  obtain ⟨h1, h⟩ := h
  have hsub := sub_enumerate
  have it : ∀ {A' : Around} {E Q : Value → Shared → Prop}, Q (.ref hp.objs.size) ⟨hp.push o, g, d, tk, os⟩ → wpAny (model prog w) A' (pyIter v) Q E ⟨hp, g, d, tk, os⟩ := fun q => B.iter prog w _ _ ⟨hp, g, d, tk, os⟩ _ h1 q
  wp_walk using it
  refine wpAny_stack_any fun st => wpAny_pure ?_
  split
  · rename_i c _ _ _ _ _
    cases (c == Value.type "enumerate") <;> (wp_walk using it) <;> exact ⟨_, rfl, h⟩
  · wp_walk using it
    exact ⟨_, rfl, h⟩
theorem enum_call {prog : Program} {w : World} {A : Around} {E : Value → Shared → Prop} {s : Shared} {v : Value} {o : Obj} {Z : Heap → Prop} {Q : Value → Shared → Prop} (B : Begins v o Z) (h1 : Z s.heap)
    (h : ∀ h', IsEnum h' (s.heap.objs.size + 1) s.heap.objs.size 0 .none → h'.get? s.heap.objs.size = some o → (∀ b o, s.heap.get? b = some o → h'.get? b = some o) → Q (.ref (s.heap.objs.size + 1)) { s with heap := h' }) :
    wpAny (model prog w) A (call (.type "enumerate") [v]) Q E s := by
  refine callType_new F.called_enumerate (by decide) (F.typeCall_enumerate_1 _) (F.newCall_enumerate_1 _) (fun obj => F.args_object_init_2 obj _) F.entry_enumerate_new (enum_new B) ⟨h1, ?_⟩
  have hz : (s.heap.push o).objs.size = s.heap.objs.size + 1 := Heap.size_push ..
  have he : IsEnum ((s.heap.push o).push { cls := .type "enumerate", data := .fields #[.none, .bool false, .ref s.heap.objs.size, rawInt 0, .none, .none] }) (s.heap.objs.size + 1) s.heap.objs.size 0 .none := by
    have q := Heap.get?_push_size (s.heap.push o) (o := { cls := .type "enumerate", data := .fields #[.none, .bool false, .ref s.heap.objs.size, rawInt 0, .none, .none] }) rfl
    rwa [hz] at q
  show _ ∧ _
  rw [hz]
  exact ⟨⟨_, he, rfl⟩, h _ he (Heap.get?_push_of_some _ (Heap.get?_push_size _ B.free)) fun b u x => Heap.get?_push_of_some _ (Heap.get?_push_of_some _ x)⟩
/-- the tuple at a, each item in a new pair with its number -/
def Iet (K : PySem.W.Frag) (a : Addr) : It :=
  ⟨fun i H => ∃ (xs : List V) (x : V), SqT K H a xs ∧ xs[i]? = some x, fun i H v H' => ∃ T x, v = .ref T ∧ H T = none ∧ H' = upd H T (.tup [.int (i : Nat), x]) ∧ ∀ xs, SqT K H a xs → xs[i]? = some x, fun i H => ∃ xs : List V, SqT K H a xs ∧ xs.length = i⟩
theorem turn_et {P : Program} {w : World} {K : PySem.W.Frag} {elts : List Expr} {kk : Nat} {tpos : Pos} (a e it : Addr) :
    Turn P w K (.Tuple elts kk tpos) (Iet K a) [e, it] e (fun i h => (∃ old, IsEnum h e it ((i : Nat) : Int) old) ∧ h.IsTupleIter it a i ∧ e ≠ it) := by
  refine ⟨by simp, fun i h st b hb => ?_, fun i h h' st k => ?_, ?_, ?_, fun A i s Q E st h => let ⟨⟨_, he⟩, _⟩ := st; wpAny_pyIter_enum he h⟩
  · obtain ⟨⟨old, he⟩, ⟨o, ho, hc, hd⟩, _⟩ := st
    have eb : b = e ∨ b = it := by simpa using hb
    rcases eb with z | z
    · rw [z]
      exact ⟨_, he, fun v q => nomatch q⟩
    · rw [z]
      exact ⟨o, ho, fun v q => by rw [hd] at q; cases q⟩
  · obtain ⟨⟨old, he⟩, hi, hne⟩ := st
    exact ⟨⟨old, k e (by simp) _ he⟩, hi.at fun o q => k it (by simp) o q, hne⟩
  · intro X hP hw hK hc i pins s σ H E I hf st hg
    subst hP hw hK
    obtain ⟨⟨old, he⟩, hit, hne⟩ := st
    obtain ⟨xs, x, hq, hx⟩ := hg
    obtain ⟨its, rv, p, hz⟩ := I.tuple hq
    obtain ⟨u, hu, ru⟩ := rv.get hx
    have hel : e < s.heap.objs.size := Heap.lt_size he
    have hil : it < s.heap.objs.size := by obtain ⟨_, q, _⟩ := hit; exact Heap.lt_size q
    have hai : a ≠ it := by
      rintro rfl
      obtain ⟨o1, q1, _, d1⟩ := hit
      obtain ⟨o2, q2, _, _, d2⟩ := p
      rw [q1] at q2
      cases q2
      rw [d1] at d2
      cases d2
    have hea : e ≠ a := by
      rintro rfl
      obtain ⟨o2, q2, _, _, d2⟩ := p
      have he' : s.heap.get? e = some _ := he
      rw [he'] at q2
      cases q2
      cases d2
    refine wpAny_pyNext_enum_itemD (Draws.tuple (A := X.A.in1) (I.ok.hd hc) it a hai its.toArray) he ⟨hit, p⟩ (by have := (List.getElem?_eq_some_iff.mp hu).1; simpa using this) hne (by simp [hne, hea]) fun y h' tk hy ho hst hT hsz hk => ?_
    have ey : y = u := by
      have hy' : its.toArray[i]? = some y := hy
      rw [List.getElem?_toArray, hu] at hy'
      exact (Option.some.inj hy').symm
    subst ey
    refine ⟨_, rfl, wpAny_letOwnedTupleGo_enum (s := { s with heap := h', toks := tk + 1 }) ho fun h'' he' sb => ?_⟩
    have hT2 : h''.get? s.heap.objs.size = some { cls := .type "tuple", data := .seq #[.int i tk, y] } := (sb.2 _ (Nat.ne_of_gt hel)).trans hT
    have new : ObjOk X.prog X.w (upd H s.heap.objs.size (.tup [.int (i : Nat), x])) h'' s.heap.objs.size (.tup [.int (i : Nat), x]) :=
      ⟨by show 2 ≤ sizeLine; decide, [.int i tk, y], .cons ⟨_, rfl⟩ (.cons ru .nil), ⟨_, hT2, rfl, _, rfl⟩⟩
    have I1 : Inv X pins σ (upd H s.heap.objs.size (.tup [.int (i : Nat), x])) { s with heap := h'', toks := tk + 1 } :=
      I.turnedNew (ch := [e, it]) (fun b ob hb q => (sb.2 b (fun z => hb (by simp [z]))).trans (hk b ob (fun z => hb (by simp [z])) (fun z => hb (by simp [z])) q)) hf (Nat.le_refl _) new
    refine ⟨.ref s.heap.objs.size, _, I1, rfl, ⟨_, x, rfl, I.hok.fresh (Nat.le_refl _), rfl, fun ys hy => by rw [I.tuple_inj hy hq]; exact hx⟩, ⟨⟨y, ?_⟩, hst.1.at fun o q => (sb.2 it (Ne.symm hne)).trans q, hne⟩, fun b hb => ?_⟩
    · rw [show ((i + 1 : Nat) : Int) = (i : Int) + 1 by omega]
      exact he'
    · have eb : b = e ∨ b = it := by simpa using hb
      have hb' : b < s.heap.objs.size := by rcases eb with z | z <;> rw [z] <;> assumption
      rw [upd_ne (Nat.ne_of_lt hb')]
      exact (hf b hb).1
  · intro X hP hw hK hc i pins s σ H E I hf st hg
    subst hP hw hK
    obtain ⟨⟨old, he⟩, hit, hne⟩ := st
    obtain ⟨xs, hq, hx⟩ := hg
    obtain ⟨its, rv, p, hz⟩ := I.tuple hq
    obtain ⟨f0, f1, f2, f3, f4, f5⟩ := hf it (by simp)
    have hl := rv.length
    have hai : a ≠ it := by
      rintro rfl
      obtain ⟨o1, q1, _, d1⟩ := hit
      obtain ⟨o2, q2, _, _, d2⟩ := p
      rw [q1] at q2
      cases q2
      rw [d1] at d2
      cases d2
    exact wpAny_pyNext_enum_endD (Draws.tuple (A := X.A.in1) (I.ok.hd hc) it a hai its.toArray) he ⟨by rw [show its.toArray.size = i by simp; omega]; exact hit, p⟩ fun h' eb => ⟨rfl, I.turned (t' := s.toks) (fun b o hb q => eb b o hb q) f0 f1 f3 f4 f5⟩
def iEt (K : PySem.W.Frag) (ta : TA) : TI := fun σ H R => ta σ H fun vs H1 => ∃ a xs, vs = [.ref a] ∧ SqT K H1 a xs ∧ R (Iet K a) H1
theorem pi_enumT {X : Cx} {e : Expr} {ta : TA} {p pos tpos : Pos} {elts : List Expr} {kk : Nat} (hg : Gl X "enumerate") (hm : X.mg "enumerate" = none) (ha : PA X [e] ta) (hs : starEach [e] X.env = [(false, eval e X.env)] := by rfl) :
    PI X (.Tuple elts kk tpos) (.Call (.Name "enumerate" p) [e] [] pos) (iEt X.K ta) := by
  constructor
  intro pins s σ H R I h
  refine Call_ (ld_blt I hg hm boot_enumerate (PyProof.Rows.callWith_type1 (thn (ha.run pos pins s σ H _ I h) ?_) hs rfl))
  rintro us s1 ⟨vs, H1, I1, r1, a, xs, rfl, hq, q⟩
  cases r1 with
  | cons r rr =>
    cases rr
    cases r
    obtain ⟨its, rv, p', hz⟩ := I1.tuple hq
    refine enum_call (begins_tuple a its.toArray) p' fun h' he hit hk => wpAny_pyIter_enum he ?_
    have I2 : Inv X pins σ H1 { s1 with heap := h' } := I1.kept (t' := s1.toks) hk
    refine ⟨s1.heap.objs.size + 1, [s1.heap.objs.size + 1, s1.heap.objs.size], _, _, H1, rfl, I2, turn_et a (s1.heap.objs.size + 1) s1.heap.objs.size, ⟨⟨.none, he⟩, ⟨_, hit, rfl, rfl⟩, Nat.succ_ne_self _⟩, fun b hb => ?_, q⟩
    have eb : b = s1.heap.objs.size + 1 ∨ b = s1.heap.objs.size := by simpa using hb
    have hle : s1.heap.objs.size ≤ b := by
      rcases eb with z | z <;> rw [z]
      · exact Nat.le_add_right _ _
      · exact Nat.le_refl _
    exact I1.fpOk hle (I1.hok.fresh hle)
theorem for_et {K : PySem.W.Frag} {a : Addr} {xs : List V} {g : TG} {tb : TS} {D : Ends} {σ : L2.St} {H : Hp} (Pv : Nat → L2.St → Hp → Prop) (h0 : Pv 0 σ H) (hq : ∀ i σ H, Pv i σ H → SqT K H a xs)
    (hs : ∀ (i : Nat) (x : V) (T : Addr) (σ : L2.St) (H : Hp), xs[i]? = some x → Pv i σ H → H T = none → g (.ref T) σ (upd H T (.tup [.int (i : Nat), x])) fun σ2 H2 => tb { D with nx := Pv (i + 1), ct := Pv (i + 1), bk := D.nx } σ2 H2) (hd : ∀ σ H, Pv xs.length σ H → D.nx σ H) :
    ∃ W : Nat → Nat → L2.St → Hp → Prop, (∃ m, W 0 m σ H) ∧ ∀ i m σ H, W i m σ H →
      ((Iet K a).stop i H ∧ D.nx σ H) ∨ ((Iet K a).go i H ∧ ∃ N : L2.St → Hp → Prop, (∀ σ' H', N σ' H' → ∃ m', m' < m ∧ W (i + 1) m' σ' H') ∧ ∀ x H', (Iet K a).yld i H x H' → g x σ H' fun σ2 H2 => tb { D with nx := N, ct := N, bk := D.nx } σ2 H2) := by
  refine ⟨fun i m σ H => m = xs.length - i ∧ i ≤ xs.length ∧ Pv i σ H, ⟨_, rfl, Nat.zero_le _, h0⟩, ?_⟩
  rintro i m σ H ⟨rfl, hi, pv⟩
  have q := hq i σ H pv
  rcases Nat.lt_or_eq_of_le hi with hlt | he
  · refine .inr ⟨⟨xs, xs[i], q, by simp [hlt]⟩, Pv (i + 1), fun σ' H' p' => ⟨_, by omega, rfl, hlt, p'⟩, ?_⟩
    rintro x H' ⟨T, y, rfl, nT, rfl, hy⟩
    have ey : xs[i]? = some y := hy xs q
    exact hs i y T σ H ey pv nT
  · subst he
    exact .inl ⟨⟨xs, q, rfl⟩, hd σ H pv⟩
end KQ
set_option Elab.async false
set_option maxRecDepth 100000
set_option maxHeartbeats 4000000
/-! B6: errors with a field; a class whose making may raise. -/
namespace KQ
open PySem PySem.Spec PyProof.Rows L2
/-- __init__ of an error with one field: it is stored -/
def spErrInit (C : Addr) (fld : Str) : Sp := fun vs H Q _ => ∃ (a : Addr) (v : V), vs = [.ref a, v] ∧ H a = some (exo a C none) ∧ ∀ dx, H dx = none → dx ≠ a → Q .non (upd (upd H dx (exd dx [(fld, v)])) a (exo a C (some dx)))
structure ErrAt (P : Program) (w : World) (K : PySem.W.Frag) (mg : Str → Option Value) (base : Heap) (x : Str) (C : Addr) (fld : Str) : Prop where
  g : mg x = some (.ref C)
  oex : OexC K C
  xf : XfC K C
  no : PySem.W.findIn K (.ref C) fld = some none
  exm : PySem.W.exmOne K (.ref C) (.ref C) = some true
  ini : ∃ f fd, PySem.W.findIn K (.ref C) "__init__" = some (some (.ref f)) ∧ PySem.W.typeIn K (.ref f) = some (.type "function") ∧ FnOk P w K mg base CX0 1 f fd ["self", fld] (spErrInit C fld) ∧ Binds K fd ["self", fld] []
/-- what is left to show of X(v), v already told -/
theorem mk_err {C : Addr} {fld : Str} {v : V} {H1 : Hp} {Q : XK} (h : ∀ d, H1 d = none → Q (.ref C) (some d) (upd H1 d (.xd [(fld, v)]))) :
    [v].length ≤ 1000 ∧ ∀ a, H1 a = none → spErrInit C fld (.ref a :: ([v] ++ [])) (upd H1 a (exo a C none)) (fun u H2 => u = .non ∧ ∃ (d : Addr) (fs : List (Str × V)), H2 a = some (exo a C (some d)) ∧ H2 d = some (exd d fs) ∧ H1 d = none ∧ Q (.ref C) (some d) (upd (del H2 a) d (.xd fs))) (fun _ _ _ => False) := by
  refine ⟨by show 1 ≤ 1000; decide, fun a ha => ⟨a, v, rfl, upd_same, fun dx hd ne => ⟨rfl, dx, [(fld, v)], upd_same, by rw [upd_ne ne]; exact upd_same, ?_, ?_⟩⟩⟩
  · rw [upd_ne ne] at hd
    exact hd
  · have hd1 : H1 dx = none := by
      rw [upd_ne ne] at hd
      exact hd
    have e : upd (del (upd (upd (upd H1 a (exo a C none)) dx (exd dx [(fld, v)])) a (exo a C (some dx))) a) dx (.xd [(fld, v)]) = upd H1 dx (.xd [(fld, v)]) := by
      funext b
      by_cases h1 : b = dx
      · rw [h1, upd_same, upd_same]
      · rw [upd_ne h1, upd_ne h1]
        by_cases h2 : b = a
        · rw [h2, del_same]
          exact ha.symm
        · rw [del_ne h2, upd_ne h2, upd_ne h1, upd_ne h2]
    rw [e]
    exact h dx hd1
section
variable {X : Cx} {x fld : Str} {C : Addr} {e : Expr} {ta : TA} {p pos pos2 : Pos}
/-- raise X(e) -/
theorem ps_rx {W : WX} (hc : X.calm = true) (tk : Takes X W) (T : ErrAt X.prog X.w X.K X.mg X.base x C fld) (hr : Room 2 X.A) (ha : PA X [e] ta) (hg : Gl X x) (hdb : (x == ("__debug__" : Str)) = false := by decide)
    (he : starEach (e :: []) X.env = (false, eval e X.env) :: starEach [] X.env := by rfl) (hpl : (backTo pos (starEach [] X.env)).any (·.1) = false := by rfl) :
    PS X (.Raise (some (.Call (.Name x p) [e] [] pos)) none pos2) (fun _ σ H => tMkO C (spErrInit C fld) [] ta σ H fun cls d H' => W cls d σ H') := by
  obtain ⟨f, fd, iC, tI, G, b⟩ := T.ini
  exact ps_raise hc tk (pmk_oex T.oex iC tI G hr b .nil pass0 hg T.g ha hdb he hpl)
/-- err.field in an except suite -/
theorem pe_ef {a : Addr} {oe : Obj} {cls : Value} {d : Option Addr} {pn : List (Addr × Obj)} {o : Expr} {te : TE} (T : ErrAt X.prog X.w X.K X.mg X.base x C fld) (hz : Zc cls d oe) (hf : ∃ vs, oe.data = .fields vs) (he : PE (X.suite a ((a, oe) :: pn)) o te)
    (hb : attributeBase o fld X.env (eval o X.env) = eval o X.env := by rfl) : PE (X.suite a ((a, oe) :: pn)) (.Attribute o fld pos) (tXf a cls d C fld te) := pe_xf T.xf T.no hz hf he hb
end
/-! ### C(e, ..) where __init__ may raise -/
section
variable {X : Cx} {k : Nat} {x : Str} {C : Addr} {ps : List Str} {sp : Sp} {e : Expr} {es : List Expr} {p pos : Pos} {t : TA}
def tMakeW (C : Addr) (sp : Sp) (W : WX) (t : TA) : TE := fun σ H Q => t σ H fun vs H1 => ∀ x dx, H1 x = none → H1 dx = none → dx ≠ x → sp (.ref x :: vs) (upd (upd H1 dx (.own x)) x (.ins C dx [])) (fun v H2 => v = .non ∧ Q (.ref x) H2) (WE W σ)
theorem pe_cX {W : WX} (tk : Takes X W) (D : HasCX X.prog X.w X.K X.mg X.base k x C ps sp) (hr : Room (k + 1) X.A) (hg : Gl X x) (ha : PA X (e :: es) t) (hdb : (x == ("__debug__" : Str)) = false := by decide)
    (he : starEach (e :: es) X.env = (false, eval e X.env) :: starEach es X.env := by rfl) (hpl : (backTo pos (starEach es X.env)).any (·.1) = false := by rfl) :
    PE X (.Call (.Name x p) (e :: es) [] pos) (tMakeW C sp W t) := by
  obtain ⟨f, fd, F, M, hm, hb⟩ := D
  constructor
  intro pins s0 σ H0 Q I0 h0
  refine wpAny_Call_Name_kw (ld_glob I0 hg hm (PySem.W.callWith_K (h₀ := X.base) I0.ok.mod.kin M.kp (thn (ha.run pos pins s0 σ H0 _ I0 h0) ?_) he hpl) hdb)
  rintro us s ⟨vs, H, I, r, h⟩
  refine ⟨I.kIn, ?_⟩
  have hq := h (s.heap.objs.size + 1) s.heap.objs.size (I.hok.fresh (Nat.le_succ _)) (I.hok.fresh (Nat.le_refl _)) (Nat.ne_of_lt (Nat.lt_succ_self _))
  have J := Inv.made (C := C) I
  have r2 : Vals (V.ref (s.heap.objs.size + 1) :: vs) (Value.ref (s.heap.objs.size + 1) :: us) := .cons rfl r
  have b := hb _ (Value.ref (s.heap.objs.size + 1) :: us) J.kIn (by
    rw [List.append_nil, ← r2.length]
    exact F.len _ _ _ _ hq)
  rw [List.append_nil] at b
  refine wpAny_call (make_map (f := f) I.kIn M.makes M.init (beq_iff_eq.mp M.fn) (codeAny_mono (F.run _ X.stack _ _ ⟨Value.ref (s.heap.objs.size + 1) :: us, []⟩ (Value.ref (s.heap.objs.size + 1) :: us) _ _ (WE W σ) (hr.make C us [])
    (J.env0.make C us []) b r2 hq) ?_))
  intro z s' hz
  match z, hz with
  | .error e, hz => exact passAt tk σ pins _ _ e s' J hz
  | .ok (.ret u), hz =>
    obtain ⟨v, H', I3, rv, rfl, q3⟩ := J.after hz
    exact ⟨rv, V.ref (s.heap.objs.size + 1), H', I3, rfl, q3⟩
  | .ok .next, hz => exact False.elim hz
  | .ok .brk, hz => exact False.elim hz
  | .ok .cont, hz => exact False.elim hz
/-- where it is known not to raise -/
theorem pe_cX0 (D : HasCX X.prog X.w X.K X.mg X.base k x C ps sp) (hr : Room (k + 1) X.A) (hg : Gl X x) (ha : PA X (e :: es) t) (hdb : (x == ("__debug__" : Str)) = false := by decide)
    (he : starEach (e :: es) X.env = (false, eval e X.env) :: starEach es X.env := by rfl) (hpl : (backTo pos (starEach es X.env)).any (·.1) = false := by rfl) :
    PE X (.Call (.Name x p) (e :: es) [] pos) (tMake C sp [] E0 t) := by
  obtain ⟨f, fd, F, M, hm, hb⟩ := D
  exact pe_make M F hr hg hm hb .nil passL ha hdb he hpl
theorem pe_hX0 (D : HasX X.prog X.w X.K X.mg X.base k x ps sp) (hr : Room k X.A) (hg : Gl X x) (ha : PA X (e :: es) t) (hdb : (x == ("__debug__" : Str)) = false := by decide)
    (he : starEach (e :: es) X.env = (false, eval e X.env) :: starEach es X.env := by rfl) (hpl : (backTo pos (starEach es X.env)).any (·.1) = false := by rfl) :
    PE X (.Call (.Name x p) (e :: es) [] pos) (tCall sp [] E0 t) := by
  obtain ⟨f, fd, G, m, kp, b⟩ := D
  exact pe_call G hr hg m kp b .nil passL ha hdb he hpl
end
end KQ
set_option Elab.async false
set_option maxRecDepth 100000
set_option maxHeartbeats 4000000
/-! B7: a == b by a's own __eq__, whatever it answers. -/
namespace KQ
open PySem PySem.Spec PyProof.Rows L2
/-- x == y, x of the class at C with the text's own ==, y another of it or a tuple -/
def rOwn (K : PySem.W.Frag) (C : Addr) (sp : Sp) : R2 := fun x y H Q => ∃ a dx fs b, x = .ref a ∧ y = .ref b ∧ H a = some (.ins C dx fs) ∧
  ((∃ dy gs, H b = some (.ins C dy gs)) ∨ ((∃ xs, SqT K H b xs) ∧ PySem.W.notFirst K C (.type "tuple") = true)) ∧ sp [.ref a, .ref b] H (fun v H' => ∃ c, v = .bl c ∧ Q v H') (fun _ _ _ => False)
theorem op_own {X : Cx} {n : Nat} {C : Addr} {sp : Sp} {ps : List Str} (D : HasM X.prog X.w X.K X.mg X.base n C "__eq__" ps sp) (hr : Room n X.A) : OpR X (compareOp .Eq) (rOwn X.K C sp) := by
  obtain ⟨f, fd, F, M, hb⟩ := D
  intro pins s σ H x y v u Q I rx ry h
  obtain ⟨a, dx, fs, b, rfl, rfl, ha, hy, hsp⟩ := h
  cases rx
  cases ry
  obtain ⟨mA, J, _⟩ := ins_get I.hok ha
  obtain ⟨od, J, _⟩ := J.look
  obtain ⟨m, hF⟩ := I.fr
  have hlook : ∃ tb, PySem.W.Looks (model X.prog X.w) s.heap (typeOf (.ref b)) tb ∧ PySem.W.notFirst X.K C tb = true := by
    rcases hy with ⟨dy, gs, hb'⟩ | ⟨⟨xs, hq⟩, nf⟩
    · obtain ⟨mB, J', _⟩ := ins_get I.hok hb'
      obtain ⟨od', J', _⟩ := J'.look
      exact ⟨.ref C, J'.type, by simp [PySem.W.notFirst]⟩
    · obtain ⟨its, r, ⟨o, ho, hc, n, hd⟩, hz⟩ := I.tuple hq
      refine ⟨.type "tuple", ?_, nf⟩
      exact hc ▸ (PySem.W.Looks.ld ho).andThen .now
  obtain ⟨tb, hl, nf⟩ := hlook
  show wpAny (model X.prog X.w) X.A (richCompare .Eq (.ref a) (.ref b)) (EP X pins σ Q) X.xe s
  refine PySem.W.cmp_K (op := .Eq) (tb := tb) hr.units0 hF I.ok.mod.kin J hl nf M.at_ M.fn ?_
  have e0 : Env0 X.prog X.w X.K X.mg X.base X.A X.stack s H := I.env0
  have hl := F.len _ _ _ _ hsp
  have r2 : Vals [V.ref a, V.ref b] [Value.ref a, Value.ref b] := .cons rfl (.cons rfl .nil)
  refine wpAny_call (codeAny_mono (F.run X.A X.stack s H ⟨[.ref a, .ref b], []⟩ [.ref a, .ref b] [.ref a, .ref b] _ _ hr e0 (by
    have := hb s [.ref a, .ref b] I.kIn (by simpa using hl)
    simpa using this) r2 hsp) fun r s' hq => ?_)
  cases r with
  | error e => exact hq.elim
  | ok fl =>
    cases fl with
    | ret w =>
      obtain ⟨z, H', I', rz, c, ez, q⟩ := I.after hq
      subst ez
      cases rz
      exact ⟨.bl c, H', I', rfl, q⟩
    | next => exact False.elim hq
    | brk => exact False.elim hq
    | cont => exact False.elim hq
end KQ
set_option Elab.async false
set_option maxRecDepth 100000
set_option maxHeartbeats 4000000
/-! B8: tuple * int, once and not at all too. -/
namespace KQ
open PySem PySem.Spec PyProof.Rows L2
theorem mul_one (l : Addr) (items : Array Value) (n : Nat) (dd : Option Addr) (sl : Array (Option Value)) (x : Int) (u : Tok) (c0 : (decide (x < -(2 ^ 63)) || decide (x ≥ 2 ^ 63)) = false) (c1 : (items.isEmpty || x == 1) = true) :
    Meets (Builtin.«tuple.__mul__» ⟨[.ref l, .int x u], []⟩) (fun _ R s => s.heap.get? l = some { cls := .type "tuple", dict := dd, data := .seq items n, slots := sl } ∧ R (.ok (.ret (Value.ref l))) { s with heap := s.heap, toks := s.toks }) :=
  .of_wp fun prog w A R s h => by
    obtain ⟨hp, g, d, tk, os⟩ := s
    obtain ⟨hl, h⟩ := h
    have f1 := AutoSeq1.idx_int
    wp_walk using wpAny_loadPart' hl
    repeat (first
      | (refine wpAny_ite_false (decide_eq_false (by rw [c0]; exact Bool.false_ne_true)) ?_; wp_walk using wpAny_loadPart' hl)
      | (refine wpAny_ite_true (decide_eq_true c1) ?_; wp_walk using wpAny_loadPart' hl))
    exact ⟨_, rfl, h⟩
theorem mul_none (l : Addr) (items : Array Value) (n : Nat) (dd : Option Addr) (sl : Array (Option Value)) (x : Int) (u : Tok) (c0 : (decide (x < -(2 ^ 63)) || decide (x ≥ 2 ^ 63)) = false) (c1 : (items.isEmpty || x == 1) = false) (c2 : (decide (x ≤ 0) || items.isEmpty) = true) :
    Meets (Builtin.«tuple.__mul__» ⟨[.ref l, .int x u], []⟩) (fun _ R s => s.heap.get? l = some { cls := .type "tuple", dict := dd, data := .seq items n, slots := sl } ∧
      R (.ok (.ret (Value.ref s.heap.objs.size))) { s with heap := s.heap.push { cls := Value.type "tuple", data := Data.seq #[] }, toks := s.toks }) :=
  .of_wp fun prog w A R s h => by
    obtain ⟨hp, g, d, tk, os⟩ := s
    obtain ⟨hl, h⟩ := h
    have f1 := AutoSeq1.idx_int
    wp_walk using wpAny_loadPart' hl
    repeat (first
      | (refine wpAny_ite_false (decide_eq_false (by rw [c0]; exact Bool.false_ne_true)) ?_; wp_walk using wpAny_loadPart' hl)
      | (refine wpAny_ite_false (decide_eq_false (by rw [c1]; exact Bool.false_ne_true)) ?_; wp_walk using wpAny_loadPart' hl)
      | (refine wpAny_ite_true (decide_eq_true c2) ?_; wp_walk using wpAny_loadPart' hl))
    exact ⟨_, rfl, h⟩
def rRepA (K : PySem.W.Frag) : R2 := fun x y H Q => ∃ l k xs, x = .ref l ∧ y = .int k ∧ SqT K H l xs ∧ xs ≠ [] ∧ 0 ≤ k ∧ k ≤ 1000 ∧ xs.length ≤ 1000 ∧ (k = 1 → Q (.ref l) H) ∧ (k ≠ 1 → ∀ p, H p = none → Q (.ref p) (upd H p (.tup (List.replicate k.toNat xs).flatten)))
theorem op_repA {X : Cx} : OpR X (binaryOp .Mult) (rRepA X.K) := by
  intro pins s σ H x y v u Q I rx ry h
  obtain ⟨l, k, xs, rfl, rfl, hT, hne, h1, h2, hz, q1, q2⟩ := h
  by_cases h3 : 2 ≤ k
  · exact op_repT pins s σ H _ _ v u Q I rx ry ⟨l, k, xs, rfl, rfl, hT, hne, h3, h2, hz, q2 (by omega)⟩
  cases rx
  obtain ⟨t, rfl⟩ := ry
  obtain ⟨its, r, ⟨⟨cls, dd, data, sl⟩, ho, hc, n, hd⟩, hs⟩ := I.tuple hT
  simp only at hc hd
  subst hc hd
  have hle : its.length = xs.length := r.length.symm
  have hi : its.toArray.isEmpty = false := by
    cases its with
    | nil => exact absurd (List.eq_nil_of_length_eq_zero hle.symm) hne
    | cons a b => rfl
  have c0 : (decide (k < -(2 ^ 63)) || decide (k ≥ 2 ^ 63)) = false := by
    rw [decide_eq_false (by omega), decide_eq_false (by omega)] <;> rfl
  by_cases k1 : k = 1
  · exact wpAny_binaryOp_repeat_ref (T := "tuple") (U := "int") (by decide) ⟨_, ho, rfl⟩ (fun s' => typeIs_int s' k t) noFill_tuple_mul F.fills_int_mul F.slot_int_rmul repeat_tuple F.slot_int_index.lookup
      (call_meets F.slot_int_rmul (typeIs_int s k t) F.entry_int_rmul (F.args_int_rmul_2 _ _) (int_rmul_tuple k t l its.toArray n dd sl)
        ⟨ho, rfl, ⟨_, ho, rfl⟩, call_meets F.slot_tuple_mul ⟨_, ho, rfl⟩ F.entry_tuple_mul (F.args_tuple_mul_2 _ _) (mul_one l its.toArray n dd sl k t c0 (by rw [hi, Bool.false_or]; exact beq_iff_eq.mpr k1)) ⟨ho, ⟨.ref l, H, I, rfl, q1 k1⟩⟩⟩)
  · have k0 : k = 0 := by omega
    subst k0
    refine wpAny_binaryOp_repeat_ref (T := "tuple") (U := "int") (by decide) ⟨_, ho, rfl⟩ (fun s' => typeIs_int s' 0 t) noFill_tuple_mul F.fills_int_mul F.slot_int_rmul repeat_tuple F.slot_int_index.lookup
      (call_meets F.slot_int_rmul (typeIs_int s 0 t) F.entry_int_rmul (F.args_int_rmul_2 _ _) (int_rmul_tuple 0 t l its.toArray n dd sl)
        ⟨ho, rfl, ⟨_, ho, rfl⟩, call_meets F.slot_tuple_mul ⟨_, ho, rfl⟩ F.entry_tuple_mul (F.args_tuple_mul_2 _ _) (mul_none l its.toArray n dd sl 0 t c0 (by rw [hi]; rfl) (by rfl)) ⟨ho, ?_⟩⟩)
    refine ⟨.ref s.heap.objs.size, _, I.laid (t' := s.toks) (o := .tup []) (fun b ob q => Heap.get?_push_of_some _ q) (Nat.le_refl _) ?_, rfl, q2 k1 _ (I.hok.fresh (Nat.le_refl _))⟩
    exact ⟨Nat.zero_le _, _, .nil, IsTup.new _ _⟩
end KQ
set_option Elab.async false
set_option maxRecDepth 100000
set_option maxHeartbeats 4000000
/-! B9: max(a list of numbers, default=0). -/
namespace KQ
open PySem
section
variable {prog : Program} {w : World} {A : Around} {R : Result → Shared → Prop} {I S : Addr} {fp wr : List Addr} {n : Nat} {P : Nat → Value → Prop} {St : Nat → Heap → Prop} {d : Value}
abbrev dkw (d : Value) : List (Str × Value) := [(Str.ofString "default", d)]
abbrev bestAt (c : Nat) (items : Array Value) : Obj := { cls := .type "list", dict := none, data := .seq items c, slots := #[] }
theorem mxd_loop (W : Walks prog w A.in1 I fp wr n P St) (bt : Nat → Nat → Bool) (hc : CmpOf prog w A.in1 .Gt P bt) (hf : S ∉ fp) : ∀ (k j : Nat) (s : Shared) (items : Array Value) (c : Nat), n - j = k → j ≤ n → St j s.heap →
    ((j = 0 ∧ items = #[]) ∨ ∃ vb, 0 < j ∧ items = #[vb, vb] ∧ P (argBest bt (j - 1)) vb) → s.heap.get? S = some (bestAt c items) →
    (∀ v h' tk, ((n = 0 ∧ v = d) ∨ (0 < n ∧ P (argBest bt (n - 1)) v)) → (∀ b o, b ∉ wr → b ≠ S → s.heap.get? b = some o → h'.get? b = some o) → R (.ok (.ret v)) { s with heap := h', toks := tk }) →
    codeAny (model prog w) A (.builtin "max.loop" ⟨[.ref I, .none, .ref S], dkw d⟩) R s := by
  have hw : S ∉ wr := fun h => hf (W.sub _ h)
  have hn : (toString "max" ++ toString ".loop" : String) = "max.loop" := by decide
  intro k
  induction k with
  | zero =>
    intro j s items c hk hj st hb hS hR
    have e : j = n := by omega
    refine codeAny_builtin F.entry_max_loop ?_; rw [Around.under_plainId F.plain_max_loop _]
    show wpAny _ A.in1 (seqItems? (.ref S) >>= _) _ _ s; refine wpAny_bind (wpAny_seqItems hS rfl ?_)
    show wpAny _ A.in1 (tryCatch (pyNext (.ref I)) _ >>= _) _ _ s; refine wpAny_bind (wpAny_tryCatch (W.done s _ _ (e ▸ st) fun h' tk k' => ?_))
    have hS' := k' S _ hw hS
    rcases hb with ⟨j0, rfl⟩ | ⟨vb, j0, rfl, pb⟩
    · show wpAny _ A.in1 (rule _ >>= _) _ _ _
      refine wpAny_bind (wpAny_rule (wpAny_pure (hR d _ tk (.inl ⟨by omega, rfl⟩) fun b o h1 _ q => k' b o h1 q)))
    · show wpAny _ A.in1 (updateSeq S (fun _ => #[]) >>= _) _ _ _; refine wpAny_bind ?_
      refine wpAny_updateSeq hS' rfl (wpAny_bind (wpAny_letGo (wpAny_pure (hR vb _ tk (.inr ⟨by omega, by rw [← e]; exact pb⟩) fun b o h1 h2 q => ?_))))
      exact (Heap.get?_update_other _ _ (Ne.symm h2)).trans (k' b o h1 q)
  | succ k ih =>
    intro j s items c hk hj st hb hS hR
    have hlt : j < n := by omega
    refine codeAny_builtin F.entry_max_loop ?_; rw [Around.under_plainId F.plain_max_loop _]
    show wpAny _ A.in1 (seqItems? (.ref S) >>= _) _ _ s; refine wpAny_bind (wpAny_seqItems hS rfl ?_)
    show wpAny _ A.in1 (tryCatch (pyNext (.ref I)) _ >>= _) _ _ s; refine wpAny_bind (wpAny_tryCatch (W.item j s _ _ hlt st fun v h' tk hP st' k' => ?_))
    have hS' := k' S _ hw hS
    rcases hb with ⟨j0, rfl⟩ | ⟨vb, j0, rfl, pb⟩
    · subst j0
      show wpAny _ A.in1 (updateSeq S (fun _ => #[v, v]) >>= _) _ _ _; refine wpAny_bind (wpAny_updateSeq hS' rfl ?_); rw [hn]
      refine wpAny_pure ⟨plainId_quiet F.plain_max_loop _, ih 1 _ #[v, v] _ (by omega) hlt (W.frame _ _ _ st' fun b hb o q => (Heap.get?_update_other _ _ (fun z : S = b => hf (by rw [z]; exact hb))).trans q) (.inr ⟨v, Nat.one_pos, rfl, hP⟩) (Heap.get?_update_self _ hS' rfl) fun v' h2 tk2 q2 k2 => ?_⟩
      exact hR v' h2 tk2 q2 fun b o h1 h2 q => k2 b o h1 h2 ((Heap.get?_update_other _ _ (Ne.symm h2)).trans (k' b o h1 q))
    · show wpAny _ A.in1 (tryCatch (holding [v, v] (richCompare .Gt v vb >>= _)) _ >>= _) _ _ _; refine wpAny_bind (wpAny_tryCatch (wpAny_holding (wpAny_bind (hc j (argBest bt (j - 1)) v vb _ _ _ hP pb ?_))))
      refine wpAny_bind (wpAny_holding (wpAny_truthy_bool (wpAny_bind (wpAny_letGo (wpAny_pure ?_)))))
      have ej : argBest bt (j + 1 - 1) = if bt j (argBest bt (j - 1)) then j else argBest bt (j - 1) := by
        obtain ⟨i, rfl⟩ : ∃ i, j = i + 1 := ⟨j - 1, by omega⟩
        rfl
      cases hb : bt j (argBest bt (j - 1)) with
      | true =>
        simp only [if_true]
        refine wpAny_bind (wpAny_updateSeq hS' rfl (wpAny_bind (wpAny_letGo ?_))); rw [hn]
        refine wpAny_pure ⟨plainId_quiet F.plain_max_loop _, ih (j + 1) _ #[v, v] _ (by omega) hlt (W.frame _ _ _ st' fun b hb o q => (Heap.get?_update_other _ _ (fun z : S = b => hf (by rw [z]; exact hb))).trans q) (.inr ⟨v, Nat.succ_pos _, rfl, by rw [ej, hb, if_pos rfl]; exact hP⟩) (Heap.get?_update_self _ hS' rfl) fun v' h2 tk2 q2 k2 => ?_⟩
        exact hR v' h2 tk2 q2 fun b o h1 h2 q => k2 b o h1 h2 ((Heap.get?_update_other _ _ (Ne.symm h2)).trans (k' b o h1 q))
      | false =>
        simp only [Bool.false_eq_true, if_false]
        refine wpAny_bind (wpAny_letGo ?_); rw [hn]
        refine wpAny_pure ⟨plainId_quiet F.plain_max_loop _, ih (j + 1) _ #[vb, vb] c (by omega) hlt st' (.inr ⟨vb, Nat.succ_pos _, rfl, by rw [ej, hb, if_neg Bool.false_ne_true]; exact pb⟩) hS' fun v' h2 tk2 q2 k2 => ?_⟩
        exact hR v' h2 tk2 q2 fun b o h1 h2 q => k2 b o h1 h2 (k' b o h1 q)
end
section
variable {prog : Program} {w : World} {A : Around} {E : Value → Shared → Prop} {s : Shared} {d : Value} {Q : Value → Shared → Prop}
theorem maxd_walk {x : Value} (h : wpAny (model prog w) A.in1 (pyIter x) (fun it s₂ => ∃ I fp wr n P St bt, it = .ref I ∧ Walks prog w A.in1 I fp wr n P St ∧ St 0 s₂.heap ∧ (∀ b ∈ fp, b < s₂.heap.objs.size) ∧ CmpOf prog w A.in1 .Gt P bt ∧
    ∀ v h' tk, ((n = 0 ∧ v = d) ∨ (0 < n ∧ P (argBest bt (n - 1)) v)) → (∀ b o, b ∉ wr → s₂.heap.get? b = some o → h'.get? b = some o) → Q v { s₂ with heap := h', toks := tk }) E s) (ha : argsOk "max" ⟨[x], dkw d⟩) :
    wpAny (model prog w) A (call (.builtin "max") [x] (dkw d)) Q E s := by
  have hn : (toString "max" ++ toString ".loop" : String) = "max.loop" := by decide
  refine PyProof.Rows.kmk_tree F.kind_max F.plain_max F.entry_max ha ?_
  show wpAny _ A.in1 (Builtin.Builtins.bindParams "max" ["key", "default"] 0 ⟨[], dkw d⟩ >>= _) _ _ s; refine wpAny_bind (wpAny_of_eq (show Builtin.Builtins.bindParams "max" ["key", "default"] 0 ⟨[], dkw d⟩ = pure [none, some d] from rfl) ?_)
  refine wpAny_bind (wpAny_pure (wpAny_bind (wpAny_mono h (fun it s₂ h₂ => ?_) fun _ _ e => e)))
  obtain ⟨I, fp, wr, n, P, St, bt, rfl, W, st, hfp, hc, hQ⟩ := h₂
  refine wpAny_bind (wpAny_newObj_type ?_); rw [hn]
  have hf : s₂.heap.objs.size ∉ fp := fun hm => Nat.lt_irrefl _ (hfp _ hm)
  refine wpAny_pure ⟨plainId_quiet F.plain_max_loop _, mxd_loop W bt hc hf _ 0 _ #[] _ rfl (Nat.zero_le _) (W.frame _ _ _ st fun b _ o e => Heap.get?_push_of_some _ e) (.inl ⟨rfl, rfl⟩) (Heap.get?_push_size _ rfl) fun v h' tk hP hk => ?_⟩
  exact hQ v h' tk hP fun b o hb e => hk b o hb (Nat.ne_of_lt (Heap.lt_size e)) (Heap.get?_push_of_some _ e)
end
open PySem.Spec PyProof.Rows L2
theorem args_maxd (a v : Value) : argsOk "max" ⟨[a], dkw v⟩ := by
  unfold argsOk
  kernel_rfl
def rMaxD0 (K : PySem.W.Frag) : List V → List V → Hp → VK → Prop := fun xs zs H Q => ∃ (a : Addr) (ns : List Int) (d : Int), xs = [.ref a] ∧ zs = [.int d] ∧ SqL K H a (ns.map V.int) ∧ (ns = [] → Q (.int d) H) ∧ ∀ m ∈ ns, (∀ y ∈ ns, y ≤ m) → Q (.int m) H
theorem cr_maxD0 {X : Cx} (hc : X.calm = true) : CallRK X (.builtin "max") [Str.ofString "default"] (rMaxD0 X.K) := by
  intro pins s σ H vs zs us ws Q I r1 r2 h
  obtain ⟨a, ns, d, rfl, rfl, hs, q0, q1⟩ := h
  obtain ⟨its, rv, hl, _⟩ := I.list hs
  rw [Vals.ref1 r1]
  cases r2 with
  | cons rd r2 =>
  cases r2
  obtain ⟨t, rfl⟩ := rd
  have hi := rv.ints
  obtain ⟨ys, e⟩ := hi.allInts.items
  have hn : numsOf (intItems ys).toList = ns := by rw [← e]; exact hi.numsOf
  rw [nums_intItems] at hn
  subst hn
  have hl' : s.heap.IsList a (intItems ys) := by rw [← e]; exact hl.isList
  show wpAny _ _ (call (.builtin "max") [.ref a] (dkw (.int d t))) _ _ _
  refine maxd_walk (iter_intList hl' fun s₂ e2 st hfp hlI => ?_) (args_maxd _ _)
  subst e2
  refine ⟨_, _, _, _, _, _, _, rfl, Walks.list (A := X.A.in1) (I.ok.hd hc) _ a hlI (intItems ys), st, hfp, CmpOf.ints_gt (numAt ys) (fun _ _ => intItems_at), fun v h' tk hP hk => ?_⟩
  have I' : Inv X pins σ H { s with heap := h', toks := tk } := I.kept (old_kept hk)
  have hsz : (intItems ys).size = ys.size := by simp [intItems]
  rw [hsz] at hP
  rcases hP with ⟨n0, rfl⟩ | ⟨n1, hP⟩
  · exact ⟨.int d, H, I', ⟨t, rfl⟩, q0 (List.eq_nil_of_length_eq_zero (by rw [List.length_map, Array.length_toList]; exact n0))⟩
  · obtain ⟨u, rfl⟩ := intItems_at hP
    obtain ⟨h1, h2⟩ := argBest_gt (numAt ys) (ys.size - 1)
    refine ⟨.int _, H, I', ⟨u, rfl⟩, q1 _ ?_ fun y hy => ?_⟩
    · rw [numAt_eq]; exact PySem.getD_mem (by rw [List.length_map, Array.length_toList]; omega)
    · obtain ⟨j, hj, rfl⟩ := mem_getD hy; rw [List.length_map, Array.length_toList] at hj; rw [← numAt_eq]; exact h2 j (by omega)
/-- a list's item, by values -/
theorem get_list {X : Cx} : PGet X fun x y H Q => 0 ≤ (match y with | .int i => i | _ => 0) ∧ rIxL X.K x y H Q := by
  intro pins s σ H o i ov iv Q I r1 r2 h
  obtain ⟨h0, p, xs, k, z, rfl, rfl, hq, he, q⟩ := h
  cases r1
  obtain ⟨t, rfl⟩ := r2
  obtain ⟨its, r, pl, hz⟩ := I.list hq
  obtain ⟨j, e1, e2, e3, e4, e5⟩ := atI_get he
  obtain ⟨u, eu, ru⟩ := r.get e2
  have hj : k.toNat = j := by
    rw [seqIndex_of h0 e5] at e1
    exact Option.some.inj e1
  have hl := r.length
  have hn := line63
  exact wpAny_getItem_list pl.isList h0 (by omega) (by rw [hj]; simpa using eu) ⟨z, H, I, ru, q⟩
/-- sum of a tuple of numbers -/
def rSumT (K : PySem.W.Frag) : List V → Hp → VK → Prop := fun vs H Q => ∃ (a : Addr) (ns : List Int), vs = [V.ref a] ∧ SqT K H a (ns.map V.int) ∧ Q (.int ns.sum) H
theorem cr_sumT {X : Cx} (hc : X.calm = true) : CallR X (.builtin "sum") (rSumT X.K) := by
  intro pins s σ H vs us Q I r h
  obtain ⟨a, ns, rfl, hs, q⟩ := h
  obtain ⟨its, rv, ht, _⟩ := I.tuple hs
  rw [Vals.ref1 r]
  have hi := rv.ints
  obtain ⟨ys, e⟩ := hi.allInts.items
  have hn : numsOf (intItems ys).toList = ns := by rw [← e]; exact hi.numsOf
  rw [nums_intItems] at hn
  have ht' : s.heap.IsTuple a (intItems ys) := by rw [← e]; exact ht
  have hlt : a < s.heap.objs.size := by obtain ⟨_, g, _⟩ := ht'; exact Heap.lt_size g
  refine call_sum_walkG (wpAny_pyIter_tuple ht' ?_)
  refine ⟨s.heap.objs.size, _, _, _, _, _, numAt ys, rfl, Walks.tuple (A := X.A.in1) (I.ok.hd hc) _ a (Nat.ne_of_lt hlt) (intItems ys), ⟨⟨_, Heap.get?_push_size _ rfl, rfl, rfl⟩, ?_⟩, fun b hb => ?_, (fun _ _ => intItems_at), fun h' tk t' hk => ?_⟩
  · obtain ⟨o, g, k1, k2⟩ := ht'
    exact ⟨o, Heap.get?_push_of_some _ g, k1, k2⟩
  · show b < (s.heap.push _).objs.size
    rw [Heap.size_push]
    have hb' : b = s.heap.objs.size ∨ b = a := by simpa using hb
    rcases hb' with z | z
    · rw [z]; exact Nat.lt_succ_self _
    · rw [z]; exact Nat.lt_succ_of_lt hlt
  · have kk : ∀ b o, s.heap.get? b = some o → h'.get? b = some o := fun b o g => hk b o (fun hm => by
      have : b = s.heap.objs.size := by simpa using hm
      rw [this] at g
      exact absurd (Heap.lt_size g) (Nat.lt_irrefl _)) (Heap.get?_push_of_some _ g)
    have I' : Inv X pins σ H { s with heap := h', toks := tk } := I.kept kk
    refine ⟨.int ns.sum, H, I', ⟨t', ?_⟩, q⟩
    have hsz : (intItems ys).size = ys.size := by simp [intItems]
    rw [hsz, preSum_eq, List.take_of_length_le (by simp), hn]
end KQ
set_option Elab.async false
set_option maxRecDepth 100000
set_option maxHeartbeats 4000000
/-! B10: a list grown by a tuple's items. -/
namespace KQ
open PySem PySem.Spec PyProof.Rows L2
theorem ext_tup (l b : Addr) (mine its : Array Value) (n n2 : Nat) (dd : Option Addr) (sl : Array (Option Value)) (c0 : ¬(!mine.isEmpty && Builtin.List.listTooLong (mine.size + its.size)) = true) (c1 : mine.size ≤ sizeLine) (c2 : (mine ++ its).size ≤ sizeLine + 1) :
    Meets (Builtin.«list.extend» ⟨[.ref l, .ref b], []⟩)
      (fun _ R s => s.heap.get? l = some { cls := .type "list", dict := none, data := .seq mine n, slots := #[] } ∧ s.heap.get? b = some { cls := .type "tuple", dict := dd, data := .seq its n2, slots := sl } ∧
        R (.ok (.ret Value.none)) { s with heap := s.heap.update l (Obj.mapSeq fun x => x ++ its), toks := s.toks }) := by
  refine .of_wp fun prog w A R s h => ?_
  obtain ⟨hp, g, d, tk, os⟩ := s
  obtain ⟨hl, hb, h⟩ := h
  have z1 := AutoSeq1.idx_int
  have z2 := AutoSeq1.sub_tuple_tuple
  have z3 := AutoSeq1.sub_list_list
  have z4 := AutoSeq1.sub_tuple_list
  have z5 := AutoSeq1.sub_list_tuple
  wp_walk using (wpAny_updateSeq hl rfl (hz := c1) (_hz' := c2)), wpAny_loadPart' hl, wpAny_loadPart' hb
  exact ⟨_, rfl, h⟩
section
variable {X : Cx}
def rExtendT (K : PySem.W.Frag) : V → List V → Hp → VK → Prop := fun x vs H Q => ∃ l b xs zs, x = .ref l ∧ vs = [.ref b] ∧ H l = some (.lst xs) ∧ SqT K H b zs ∧ xs.length + zs.length ≤ sizeLine ∧ Q .non (upd H l (.lst (xs ++ zs)))
theorem mt_extendT : MtM X "list.extend" (rExtendT X.K) := by
  intro pins s σ H x vs v us Q I rx rv h
  obtain ⟨l, b, xs, zs, rfl, rfl, hH, hB, hz, q⟩ := h
  cases rx
  obtain ⟨u, rfl, ru⟩ := rv.one
  cases ru
  obtain ⟨z, its, n, r, hl, e⟩ := I.lstM hH
  obtain ⟨its2, r2, ⟨⟨cls, dd, data, sl⟩, e2, hc, n2, hd⟩, hl2⟩ := I.tuple hB
  simp only at hc hd
  subst hc hd
  have l2 := r2.length
  have hsz : its.toArray.size + its2.toArray.size ≤ sizeLine := by rw [List.size_toArray, List.size_toArray]; omega
  have hlong : ¬ (!its.toArray.isEmpty && Builtin.List.listTooLong (its.toArray.size + its2.toArray.size)) = true := by
    rw [notLongL hsz, Bool.and_false]
    exact Bool.false_ne_true
  refine call_meets F.slot_list_extend ⟨_, e, rfl⟩ F.entry_list_extend (F.args_list_extend_2 _ _)
    (ext_tup l b its.toArray its2.toArray n n2 dd sl hlong (by rw [List.size_toArray]; omega) (by rw [Array.size_append]; omega)) ⟨e, e2, ?_⟩
  refine ⟨.non, _, I.lset (its' := its ++ its2) hH e (by simp) (r.append r2) ?_, rfl, q⟩
  rw [List.length_append]
  omega
end
end KQ
set_option Elab.async false
set_option maxRecDepth 100000
set_option maxHeartbeats 4000000
/-! B11: things by their types alone; max of a tuple. -/
namespace KQ
open PySem PySem.Spec PyProof.Rows L2
def rInt1 : List V → Hp → VK → Prop := fun xs H Q => (∃ i, xs = [.int i] ∧ Q (.int i) H) ∨ ∃ k, xs = [.bl k] ∧ Q (.int (if k then 1 else 0)) H
/-- a thing and the name of its type -/
inductive Dt (H : Hp) : V → String → Prop
  | non : Dt H .non "NoneType"
  | bl (b : Bool) : Dt H (.bl b) "bool"
  | int (i : Int) : Dt H (.int i) "int"
  | str (x : Str) : Dt H (.str x) "str"
  | lst {a : Addr} {xs : List V} (e : H a = some (.lst xs)) : Dt H (.ref a) "list"
  | tup {a : Addr} {xs : List V} (e : H a = some (.tup xs)) : Dt H (.ref a) "tuple"
  | dK {a : Addr} {kvs : List (Key × V)} (e : H a = some (.dK kvs)) : Dt H (.ref a) "dict"
theorem Dt.ty {K : PySem.W.Frag} {H : Hp} {v : V} {t : String} (d : Dt H v t) : TyX K H v (.type t) := by
  cases d with
  | non => exact .base .non
  | bl b => exact .base (.bl b)
  | int i => exact .base (.int i)
  | str x => exact .base (.str x)
  | lst e => exact .base (.lst e)
  | tup e => exact .base (.tup e)
  | dK e => exact .base (.dK e)
theorem Dt.in_ {H : Hp} {v : V} {t : String} (d : Dt H v t) : t ∈ tyNs := by cases d <;> simp [tyNs]
theorem Dt.kp {H H' : Hp} {v : V} {t : String} (d : Dt H v t) (k : ∀ a o, v = .ref a → H a = some o → H' a = some o) : Dt H' v t := by
  cases d with
  | non => exact .non
  | bl b => exact .bl b
  | int i => exact .int i
  | str x => exact .str x
  | lst e => exact .lst (k _ _ rfl e)
  | tup e => exact .tup (k _ _ rfl e)
  | dK e => exact .dK (k _ _ rfl e)
theorem Dt.same {H H' : Hp} {v : V} {t : String} (d : Dt H v t) (s : Same H H') : Dt H' v t := d.kp fun a o _ e => s a o e
abbrev isTy (T t : String) : Bool := t == T || (T == "int" && t == "bool")
theorem kd_T {K : PySem.W.Frag} {T : String} (h : ∀ s ∈ tyNs, kitB s T = some (s == T || (T == "int" && s == "bool"))) {H : Hp} {v : V} {t : String} (d : Dt H v t) : PySem.W.kitOne K (.type t) (.type T) = some (isTy T t) := kit_ty (h _ d.in_)
theorem Dt.kint {K : PySem.W.Frag} {H : Hp} {v : V} {t : String} (d : Dt H v t) : PySem.W.kitOne K (.type t) (.type "int") = some (isTy "int" t) := kd_T (by decide +kernel) d
theorem Dt.kbool {K : PySem.W.Frag} {H : Hp} {v : V} {t : String} (d : Dt H v t) : PySem.W.kitOne K (.type t) (.type "bool") = some (isTy "bool" t) := kd_T (by decide +kernel) d
theorem Dt.ktuple {K : PySem.W.Frag} {H : Hp} {v : V} {t : String} (d : Dt H v t) : PySem.W.kitOne K (.type t) (.type "tuple") = some (isTy "tuple" t) := kd_T (by decide +kernel) d
theorem Dt.klist {K : PySem.W.Frag} {H : Hp} {v : V} {t : String} (d : Dt H v t) : PySem.W.kitOne K (.type t) (.type "list") = some (isTy "list" t) := kd_T (by decide +kernel) d
theorem Dt.kstr {K : PySem.W.Frag} {H : Hp} {v : V} {t : String} (d : Dt H v t) : PySem.W.kitOne K (.type t) (.type "str") = some (isTy "str" t) := kd_T (by decide +kernel) d
theorem Rp.dt {N : Addr → Prop} {H : Hp} {v : V} {d : PyData} (r : Rp N H v d) : Dt H v (tyN d) := by
  cases r with
  | non => exact .non
  | bl b => exact .bl b
  | int i => exact .int i
  | str x => exact .str x
  | lst e _ _ => exact .lst e
  | tup e _ _ => exact .tup e
  | emp e _ => exact .dK e
/-- max of a tuple of numbers -/
def rMaxT (K : PySem.W.Frag) : List V → Hp → VK → Prop := fun vs H Q => ∃ (a : Addr) (ns : List Int), vs = [V.ref a] ∧ SqT K H a (ns.map V.int) ∧ 0 < ns.length ∧ ∀ m, m ∈ ns → (∀ y, y ∈ ns → y ≤ m) → Q (.int m) H
theorem cr_maxT {X : Cx} (hc : X.calm = true) : CallR X (.builtin "max") (rMaxT X.K) := by
  intro pins s σ H vs us Q I r h
  obtain ⟨a, ns, rfl, hs, hne, q⟩ := h
  obtain ⟨its, rv, ht, _⟩ := I.tuple hs
  rw [Vals.ref1 r]
  have hi := rv.ints
  obtain ⟨ys, e⟩ := hi.allInts.items
  have hn : numsOf (intItems ys).toList = ns := by rw [← e]; exact hi.numsOf
  rw [nums_intItems] at hn
  have ht' : s.heap.IsTuple a (intItems ys) := by rw [← e]; exact ht
  have hlt : a < s.heap.objs.size := by obtain ⟨_, g, _⟩ := ht'; exact Heap.lt_size g
  have hsz : (intItems ys).size = ys.size := by simp [intItems]
  have hpos : 0 < ys.size := by
    rw [← hn, List.length_map, Array.length_toList] at hne
    exact hne
  refine call_max_walk (wpAny_pyIter_tuple ht' ?_)
  refine ⟨s.heap.objs.size, _, _, _, _, _, _, rfl, Walks.tuple (A := X.A.in1) (I.ok.hd hc) _ a (Nat.ne_of_lt hlt) (intItems ys), ⟨⟨_, Heap.get?_push_size _ rfl, rfl, rfl⟩, ?_⟩, fun b hb => ?_, by rw [hsz]; exact hpos, CmpOf.ints_gt (numAt ys) (fun _ _ => intItems_at), fun v h' tk hP hk => ?_⟩
  · obtain ⟨o, g, k1, k2⟩ := ht'
    exact ⟨o, Heap.get?_push_of_some _ g, k1, k2⟩
  · show b < (s.heap.push _).objs.size
    rw [Heap.size_push]
    have hb' : b = s.heap.objs.size ∨ b = a := by simpa using hb
    rcases hb' with z | z
    · rw [z]; exact Nat.lt_succ_self _
    · rw [z]; exact Nat.lt_succ_of_lt hlt
  · have kk : ∀ b o, s.heap.get? b = some o → h'.get? b = some o := fun b o g => hk b o (fun hm => by
      have : b = s.heap.objs.size := by simpa using hm
      rw [this] at g
      exact absurd (Heap.lt_size g) (Nat.lt_irrefl _)) (Heap.get?_push_of_some _ g)
    have I' : Inv X pins σ H { s with heap := h', toks := tk } := I.kept kk
    rw [hsz] at hP
    obtain ⟨u, rfl⟩ := intItems_at hP
    obtain ⟨h1, h2⟩ := argBest_gt (numAt ys) (ys.size - 1)
    subst hn
    refine ⟨.int _, H, I', ⟨u, rfl⟩, q _ ?_ fun y hy => ?_⟩
    · rw [numAt_eq]; exact PySem.getD_mem (by rw [List.length_map, Array.length_toList]; omega)
    · obtain ⟨j, hj, rfl⟩ := mem_getD hy; rw [List.length_map, Array.length_toList] at hj; rw [← numAt_eq]; exact h2 j (by omega)
end KQ
namespace KQ
open PySem PySem.Spec PyProof.Rows L2
theorem same_new0 {H : Hp} {p : Addr} {o : HO} (h : H p = none) : Same H (upd H p o) := fun b u q => by rw [upd_ne (ne_of_none q h)]; exact q
theorem sput {H H1 : Hp} {x : Addr} {o : HO} (s : Same H H1) (h : H x = none) : Same H (upd H1 x o) := fun b u q => by
  rw [upd_ne (ne_of_none q h)]
  exact s b u q
theorem snew {H H1 : Hp} {x : Addr} {o : HO} (s : Same H H1) (h : H1 x = none) : Same H (upd H1 x o) := fun b u q => by
  rw [upd_ne (ne_of_none (s b u q) h)]
  exact s b u q
theorem kp_same {N : Addr → Prop} {H H1 : Hp} (s : Same H H1) : Kp N H H1 := fun a o e _ => s a o e
/-! ### a comprehension by the list that grows -/
structure Snoc (D : Addr) (Pn : Hp → Prop) (y : V) (H : Hp) : Prop where
  h : ∃ acc, H D = some (.lst acc) ∧ acc.length < sizeLine ∧ Pn (upd H D (.lst (acc ++ [y])))
theorem snoc_eq (D : Addr) (Pn : Hp → Prop) (y : V) (H : Hp) : Snoc D Pn y H = ∃ acc, H D = some (.lst acc) ∧ acc.length < sizeLine ∧ Pn (upd H D (.lst (acc ++ [y]))) := propext ⟨fun q => q.h, fun q => ⟨q⟩⟩
section
variable {J : It} {n : Nat} {G : Hp → Prop} {Y : Nat → Hp → V → Hp → Prop}
theorem lc_acc (w : Walk J n G Y) {g : TG} {tt : TT} {te : TE} {vs : List Nat} {σ : L2.St} {H1 : Hp} {D : Addr} {Qd : Hp → Prop} (acc : Nat → List V) (I : Nat → Hp → Prop) (N : Addr → Prop)
    (nN : ¬ N D) (nD : H1 D = none) (hsz : ∀ i, i < n → (acc i).length < sizeLine) (a0 : acc 0 = []) (i0 : I 0 (upd H1 D (.lst []))) (hI : ∀ i H xs, Kp N H1 H → I i H → I i (upd H D (.lst xs)))
    (hG : ∀ i H, i ≤ n → Kp N H1 H → I i H → G H)
    (hs : ∀ i x H H' (Pn : Hp → Prop), i < n → Kp N H1 H → H D = some (.lst (acc i)) → I i H → Y i H x H' → (∀ y H4, acc (i + 1) = acc i ++ [y] → Kp N H H4 → I (i + 1) H4 → Snoc D Pn y H4) → (∀ H4, acc (i + 1) = acc i → Kp N H H4 → I (i + 1) H4 → Pn H4) →
      g x (wipe σ vs) H' fun σ2 H2 => wipe σ2 vs = wipe σ vs ∧ tt σ2 H2 fun b H3 => if b = true then te σ2 H3 fun y H4 => Snoc D Pn y H4 else Pn H3)
    (hd : ∀ H, Kp N H1 H → H D = some (.lst (acc n)) → I n H → Qd H) :
    ∃ W : Nat → Nat → Hp → Prop, (∃ m, W 0 m (upd H1 D (.lst []))) ∧ ∀ i m H, W i m H →
      (J.stop i H ∧ Qd H) ∨ (J.go i H ∧ ∃ Nx : Hp → Prop, (∀ H', Nx H' → ∃ m', m' < m ∧ W (i + 1) m' H') ∧ ∀ x H', J.yld i H x H' → g x (wipe σ vs) H' fun σ2 H2 => wipe σ2 vs = wipe σ vs ∧ tt σ2 H2 fun b H3 =>
        if b = true then te σ2 H3 fun y H4 => ∃ acc, H4 D = some (.lst acc) ∧ acc.length < sizeLine ∧ Nx (upd H4 D (.lst (acc ++ [y]))) else Nx H3) := by
  have kD : ∀ {H xs}, Kp N H1 H → Kp N H1 (upd H D (.lst xs)) := fun {H xs} k a o e na => by
    rw [upd_ne (ne_of_none e nD)]
    exact k a o e na
  refine lc_it w (fun i H => Kp N H1 H ∧ H D = some (.lst (acc i)) ∧ I i H) ⟨kD Kp.refl, by rw [a0]; exact upd_same, i0⟩ (fun i H hi q => hG i H hi q.1 q.2.2) (fun i x H H' hi q y => ?_) fun H q => hd H q.1 q.2.1 q.2.2
  obtain ⟨q1, q2, q3⟩ := q
  have z := hs i x H H' (fun H => Kp N H1 H ∧ H D = some (.lst (acc (i + 1))) ∧ I (i + 1) H) hi q1 q2 q3 y
    (fun y H4 e k j => ⟨acc i, k D _ q2 nN, hsz i hi, kD (q1.trans k), by rw [upd_same, e], hI (i + 1) H4 _ (q1.trans k) j⟩) fun H4 e k j => ⟨q1.trans k, by rw [e]; exact k D _ q2 nN, j⟩
  simp only [snoc_eq] at z
  exact z
/-- .. each item gives one -/
theorem lc_map (w : Walk J n G Y) {g : TG} {te : TE} {vs : List Nat} {σ : L2.St} {H1 : Hp} {D : Addr} {Qd : Hp → Prop} (ys : List V) (hn : ys.length = n) (nD : H1 D = none) (hz : n ≤ 16777216)
    (hG : ∀ i H, i ≤ n → Same H1 H → G H)
    (hs : ∀ i x H H' (Pn : Hp → Prop), i < n → Same H1 H → Y i H x H' → (∀ y H4, ys[i]? = some y → Same H H4 → Snoc D Pn y H4) → g x (wipe σ vs) H' fun σ2 H2 => wipe σ2 vs = wipe σ vs ∧ te σ2 H2 fun y H4 => Snoc D Pn y H4)
    (hd : ∀ H, Same H1 H → H D = some (.lst ys) → Qd H) :
    ∃ W : Nat → Nat → Hp → Prop, (∃ m, W 0 m (upd H1 D (.lst []))) ∧ ∀ i m H, W i m H →
      (J.stop i H ∧ Qd H) ∨ (J.go i H ∧ ∃ Nx : Hp → Prop, (∀ H', Nx H' → ∃ m', m' < m ∧ W (i + 1) m' H') ∧ ∀ x H', J.yld i H x H' → g x (wipe σ vs) H' fun σ2 H2 => wipe σ2 vs = wipe σ vs ∧ tYes σ2 H2 fun b H3 =>
        if b = true then te σ2 H3 fun y H4 => ∃ acc, H4 D = some (.lst acc) ∧ acc.length < sizeLine ∧ Nx (upd H4 D (.lst (acc ++ [y]))) else Nx H3) := by
  have sm : ∀ {H H' : Hp}, Kp (fun _ => False) H H' → Same H H' := fun k a o e => k a o e (fun z => z)
  refine lc_acc w (fun i => ys.take i) (fun _ _ => True) (fun _ => False) (fun z => z) nD (fun i hi => ?_) rfl trivial (fun _ _ _ _ _ => trivial) (fun i H hi k _ => hG i H hi (sm k)) (fun i x H H' Pn hi k _ _ y fin _ => ?_) fun H k e _ => hd H (sm k) (by rw [← hn, List.take_length] at e; exact e)
  · rw [List.length_take, sizeLine_eq]
    omega
  · have z := hs i x H H' Pn hi (sm k) y fun y H4 e s => fin y H4 (by rw [List.take_add_one, e]; rfl) (kp_same s) trivial
    have e : (fun (σ2 : L2.St) (H2 : Hp) => wipe σ2 vs = wipe σ vs ∧ tYes σ2 H2 fun b H3 => if b = true then te σ2 H3 fun y H4 => Snoc D Pn y H4 else Pn H3) = fun σ2 H2 => wipe σ2 vs = wipe σ vs ∧ te σ2 H2 fun y H4 => Snoc D Pn y H4 := by
      funext σ2 H2
      have e2 : tYes σ2 H2 (fun b H3 => if b = true then te σ2 H3 fun y H4 => Snoc D Pn y H4 else Pn H3) = te σ2 H2 fun y H4 => Snoc D Pn y H4 := by
        show (if true = true then te σ2 H2 (fun y H4 => Snoc D Pn y H4) else Pn H2) = _
        exact if_pos rfl
      rw [e2]
    rw [e]
    exact z
end
theorem same_kpF {H H' : Hp} (k : Kp (fun _ => False) H H') : Same H H' := fun a o e => k a o e (fun z => z)
theorem sIx_none (n d : Nat) : HT.sIx n d none = d := rfl
theorem sIx_some (n d k : Nat) : HT.sIx n d (some (k : Int)) = min k n := HT.sIx_nat n d k
theorem cut_take {xs : List V} (k : Nat) : cutV xs none (some (k : Int)) = xs.take k := by
  rw [cutV, sIx_none, sIx_some, List.drop_zero, Nat.sub_zero]
  by_cases h : k ≤ xs.length
  · rw [Nat.min_eq_left h]
  · rw [Nat.min_eq_right (by omega), List.take_length, List.take_of_length_le (by omega)]
theorem cut_drop {xs : List V} (k : Nat) : cutV xs (some (k : Int)) none = xs.drop k := by
  rw [cutV, sIx_none, sIx_some]
  by_cases h : k ≤ xs.length
  · rw [Nat.min_eq_left h, List.take_of_length_le (by rw [List.length_drop]; omega)]
  · rw [Nat.min_eq_right (by omega), List.drop_length, List.drop_of_length_le (by omega), List.take_nil]
theorem walk_zipT {K : PySem.W.Frag} {a b : Addr} {xs ys : List V} {n : Nat} (hn : n = min xs.length ys.length) : Walk (RZ.ItzT K a b) n (fun H => SqT K H a xs ∧ SqT K H b ys) (YPair (fun i => xs[i]?) (fun i => ys[i]?)) := by
  subst hn
  refine ⟨fun i _ hi q => ?_, fun _ q => ⟨xs, ys, q.1, q.2, by omega⟩, fun i H v H' _ q y => ?_⟩
  · have h1 : i < xs.length := by omega
    have h2 : i < ys.length := by omega
    exact ⟨xs, ys, xs[i], ys[i], q.1, q.2, by simp [h1], by simp [h2]⟩
  · obtain ⟨T, x, z, h1, h2, h3, h4, h5⟩ := y
    exact ⟨T, x, z, h1, h2, h3, h4 xs q.1, h5 ys q.2⟩
/-- as a comprehension's turn over zip is met: a new pair -/
theorem ypair {xs ys : List V} {i : Nat} {H H' : Hp} {v : V} (y : YPair (fun i => xs[i]?) (fun i => ys[i]?) i H v H') : ∃ T x z, v = .ref T ∧ H T = none ∧ H' = upd H T (.tup [x, z]) ∧ xs[i]? = some x ∧ ys[i]? = some z := y
theorem cut_whole {xs : List V} {lo hi : Option Int} (h : HT.sIx xs.length 0 lo = 0 ∧ HT.sIx xs.length xs.length hi = xs.length) : cutV xs lo hi = xs := by
  rw [cutV, h.1, h.2, List.drop_zero, Nat.sub_zero, List.take_length]
theorem sl_go {K : PySem.W.Frag} {H : Hp} {a : Addr} {xs : List V} {lo hi : Option Int} {Q : VK} (ha : H a = some (.tup xs)) (h : ∀ b H1, Same H H1 → H1 b = some (.tup (cutV xs lo hi)) → Q (.ref b) H1) : rSlA K (.ref a) lo hi H Q :=
  ⟨a, xs, rfl, SqT.of ha, fun w => h a H (Same.refl H) (by rw [cut_whole w]; exact ha), fun _ p np => h p _ (same_new0 np) upd_same⟩
theorem cat_go {K : PySem.W.Frag} {H : Hp} {a b : Addr} {xs ys : List V} {Q : VK} (ha : H a = some (.tup xs)) (hb : H b = some (.tup ys)) (hz : xs.length + ys.length ≤ 16777216) (h : ∀ c H1, Same H H1 → H1 c = some (.tup (xs ++ ys)) → Q (.ref c) H1) : rCatA K (.ref a) (.ref b) H Q :=
  ⟨a, b, xs, ys, rfl, rfl, SqT.of ha, SqT.of hb, by rw [sizeLine_eq]; exact hz, fun e => h b H (Same.refl H) (by rw [e]; exact hb), fun _ e => h a H (Same.refl H) (by rw [e, List.append_nil]; exact ha), fun _ _ p np => h p _ (same_new0 np) upd_same⟩
theorem cut1 {xs : List V} : cutV xs (some 1) none = xs.drop 1 := cut_drop 1
end KQ
set_option Elab.async false
set_option maxRecDepth 100000
set_option maxHeartbeats 4000000
/-! B12: shares: the numbers that they are. -/
namespace KQ
open PySem PySem.Spec PyProof.Rows L2
/-- the places of a set below n as a number, place -1 first -/
def Vs (S : Int → Bool) : Nat → Nat
  | 0 => (S (-1)).toNat
  | j + 1 => 2 * Vs S j + (S (j : Int)).toNat
def put (S : Int → Bool) (p : Int) (b : Bool) : Int → Bool := fun q => if q = p then b else S q
theorem Vs_congr {S T : Int → Bool} : ∀ {n : Nat}, (∀ q : Int, -1 ≤ q → q < n → S q = T q) → S (-1) = T (-1) → Vs S n = Vs T n
  | 0, _, h => by simp only [Vs]; rw [h]
  | j + 1, h, h0 => by
    simp only [Vs]
    rw [Vs_congr (n := j) (fun q a b => h q a (by omega)) h0, h (j : Int) (by omega) (by omega)]
theorem Vs_put {S : Int → Bool} {p : Int} (h : S p = false) : ∀ {n : Nat}, -1 ≤ p → p < n → Vs (put S p true) n = Vs S n + 2 ^ (n - (p + 1).toNat)
  | 0, a, b => by
    obtain rfl : p = -1 := by omega
    simp [Vs, put, h]
  | j + 1, a, b => by
    simp only [Vs]
    by_cases e : p = j
    · subst e
      rw [Vs_congr (S := put S j true) (T := S) (fun q a b => by unfold put; rw [if_neg (by omega)]) (by unfold put; rw [if_neg (by omega)]), show put S (j : Int) true (j : Int) = true by simp [put], h]
      rw [show j + 1 - ((j : Int) + 1).toNat = 0 by omega]
      rfl
    · rw [Vs_put h (n := j) a (by omega), show put S p true (j : Int) = S (j : Int) by unfold put; rw [if_neg (fun z => e z.symm)]]
      rw [show j + 1 - (p + 1).toNat = (j - (p + 1).toNat) + 1 by omega, Nat.pow_succ]
      omega
theorem put_put {S : Int → Bool} {p : Int} (h : S p = true) : put (put S p false) p true = S := by
  funext q
  unfold put
  by_cases e : q = p
  · rw [if_pos e, e, h]
  · rw [if_neg e, if_neg e]
theorem Vs_del {S : Int → Bool} {p : Int} (h : S p = true) {n : Nat} (a : -1 ≤ p) (b : p < n) : Vs S n = Vs (put S p false) n + 2 ^ (n - (p + 1).toNat) := by
  have q := Vs_put (S := put S p false) (p := p) (by simp [put]) (n := n) a b
  rwa [put_put h] at q
theorem Vs_inj {S T : Int → Bool} : ∀ {n : Nat}, Vs S n = Vs T n → ∀ q : Int, -1 ≤ q → q < n → S q = T q
  | 0, e, q, a, b => by
    obtain rfl : q = -1 := by omega
    simp only [Vs] at e
    revert e
    cases S (-1) <;> cases T (-1) <;> simp
  | j + 1, e, q, a, b => by
    simp only [Vs] at e
    have h1 : (S (j : Int)).toNat ≤ 1 := by cases S (j : Int) <;> simp
    have h2 : (T (j : Int)).toNat ≤ 1 := by cases T (j : Int) <;> simp
    by_cases c : q = j
    · subst c
      have : (S (j : Int)).toNat = (T (j : Int)).toNat := by omega
      revert this
      cases S (j : Int) <;> cases T (j : Int) <;> simp
    · exact Vs_inj (n := j) (by omega) q a (by omega)
theorem Vs_neg {S : Int → Bool} (h : S (-1) = true) : ∀ n : Nat, 2 ^ n ≤ Vs S n
  | 0 => by simp [Vs, h]
  | j + 1 => by
    have := Vs_neg h j
    simp only [Vs, Nat.pow_succ]
    omega
theorem Vs_zero {S : Int → Bool} (h : S 0 = true) : ∀ j : Nat, 2 ^ j ≤ Vs S (j + 1)
  | 0 => by simp [Vs, h]
  | j + 1 => by
    have := Vs_zero h j
    rw [Vs, Nat.pow_succ]
    omega
theorem Vs_more {S : Int → Bool} (h : S 0 = true) {p : Int} (hp : 1 ≤ p) (hS : S p = true) : ∀ j : Nat, p < j + 1 → 2 ^ j < Vs S (j + 1)
  | 0, b => by omega
  | j + 1, b => by
    rw [Vs, Nat.pow_succ]
    by_cases c : p = j + 1
    · have q := Vs_zero h j
      have : (S ((j + 1 : Nat) : Int)).toNat = 1 := by rw [show ((j + 1 : Nat) : Int) = p by omega, hS]; rfl
      omega
    · have := Vs_more h hp hS j (by omega)
      omega
theorem Vs_lt {S : Int → Bool} (h : S (-1) = false) (h0 : S 0 = false) : ∀ j : Nat, Vs S (j + 1) + 1 ≤ 2 ^ j
  | 0 => by
    simp only [Vs, h]
    rw [show ((0 : Nat) : Int) = 0 from rfl, h0]
    decide
  | j + 1 => by
    have := Vs_lt h h0 j
    have : (S ((j + 1 : Nat) : Int)).toNat ≤ 1 := by cases S ((j + 1 : Nat) : Int) <;> simp
    rw [Vs, Nat.pow_succ]
    omega
theorem Vs_up {S : Int → Bool} {n : Nat} (h : ∀ q : Int, n ≤ q → S q = false) : ∀ k : Nat, Vs S (n + k) = 2 ^ k * Vs S n
  | 0 => by simp
  | k + 1 => by
    rw [show n + (k + 1) = (n + k) + 1 by omega, Vs, Vs_up h k, h _ (by omega), Nat.pow_succ]
    show 2 * (2 ^ k * Vs S n) + 0 = _
    rw [Nat.add_zero, ← Nat.mul_assoc, Nat.mul_comm 2]
/-- the set's places, ascending -/
def lotS (S : Int → Bool) : Nat → List Int
  | 0 => if S (-1) then [-1] else []
  | j + 1 => lotS S j ++ if S (j : Int) then [(j : Int)] else []
def lotV : Nat → Nat → List Int
  | 0, W => if W % 2 = 1 then [-1] else []
  | j + 1, W => lotV j (W / 2) ++ if W % 2 = 1 then [(j : Int)] else []
theorem lotV_Vs {S : Int → Bool} : ∀ n : Nat, lotV n (Vs S n) = lotS S n
  | 0 => by cases h : S (-1) <;> simp [lotV, lotS, Vs, h]
  | j + 1 => by
    cases h : S (j : Int)
    · simp only [lotV, lotS, Vs, h]
      rw [show (2 * Vs S j + false.toNat) / 2 = Vs S j by show (2 * Vs S j + 0) / 2 = _; omega, show (2 * Vs S j + false.toNat) % 2 = 0 by show (2 * Vs S j + 0) % 2 = _; omega, lotV_Vs j]
      rfl
    · simp only [lotV, lotS, Vs, h]
      rw [show (2 * Vs S j + true.toNat) / 2 = Vs S j by show (2 * Vs S j + 1) / 2 = _; omega, show (2 * Vs S j + true.toNat) % 2 = 1 by show (2 * Vs S j + 1) % 2 = _; omega, lotV_Vs j]
      rfl
theorem mem_lotS {S : Int → Bool} {q : Int} : ∀ {n : Nat}, q ∈ lotS S n ↔ (-1 ≤ q ∧ q < n ∧ S q = true)
  | 0 => by
    simp only [lotS]
    cases h : S (-1)
    · simp only [Bool.false_eq_true, if_false, List.not_mem_nil, false_iff]
      rintro ⟨a, b, c⟩
      rw [show q = -1 by omega, h] at c
      cases c
    · simp only [if_true, List.mem_singleton]
      exact ⟨fun e => by subst e; exact ⟨by omega, by omega, h⟩, fun ⟨a, b, c⟩ => by omega⟩
  | j + 1 => by
    simp only [lotS, List.mem_append, mem_lotS (n := j)]
    cases h : S (j : Int)
    · simp only [Bool.false_eq_true, if_false, List.not_mem_nil, or_false]
      constructor
      · rintro ⟨a, b, c⟩
        exact ⟨a, by omega, c⟩
      · rintro ⟨a, b, c⟩
        refine ⟨a, ?_, c⟩
        by_cases e : q = j
        · rw [e, h] at c; cases c
        · omega
    · simp only [if_true, List.mem_singleton]
      constructor
      · rintro (⟨a, b, c⟩ | e)
        · exact ⟨a, by omega, c⟩
        · subst e; exact ⟨by omega, by omega, h⟩
      · rintro ⟨a, b, c⟩
        by_cases e : q = j
        · exact .inr e
        · exact .inl ⟨a, by omega, c⟩
theorem lotS_asc {S : Int → Bool} : ∀ n : Nat, (lotS S n).Pairwise (· < ·)
  | 0 => by
    simp only [lotS]
    split <;> simp
  | j + 1 => by
    simp only [lotS]
    refine List.pairwise_append.mpr ⟨lotS_asc j, by split <;> simp, fun a ha b hb => ?_⟩
    have := (mem_lotS.mp ha).2.1
    split at hb
    · simp only [List.mem_singleton] at hb
      omega
    · simp at hb
theorem asc_ext : ∀ {l m : List Int}, l.Pairwise (· < ·) → m.Pairwise (· < ·) → (∀ q, q ∈ l ↔ q ∈ m) → l = m
  | [], [], _, _, _ => rfl
  | [], y :: m, _, _, h => absurd ((h y).mpr (List.mem_cons_self ..)) (List.not_mem_nil)
  | x :: l, [], _, _, h => absurd ((h x).mp (List.mem_cons_self ..)) (List.not_mem_nil)
  | x :: l, y :: m, hl, hm, h => by
    obtain ⟨a, hl'⟩ := List.pairwise_cons.mp hl
    obtain ⟨b, hm'⟩ := List.pairwise_cons.mp hm
    have e : x = y := by
      rcases List.mem_cons.mp ((h x).mp (List.mem_cons_self ..)) with e | e
      · exact e
      · rcases List.mem_cons.mp ((h y).mpr (List.mem_cons_self ..)) with e2 | e2
        · exact e2.symm
        · have := b x e
          have := a y e2
          omega
    subst e
    refine congrArg (x :: ·) (asc_ext hl' hm' fun q => ?_)
    constructor
    · intro hq
      rcases List.mem_cons.mp ((h q).mp (List.mem_cons_of_mem _ hq)) with e | e
      · have := a q hq; omega
      · exact e
    · intro hq
      rcases List.mem_cons.mp ((h q).mpr (List.mem_cons_of_mem _ hq)) with e | e
      · have := b q hq; omega
      · exact e
abbrev mS (ns : List Int) : Int → Bool := fun q => decide (q ∈ ns)
theorem lotS_mS {ns : List Int} {n : Nat} (h : ns.Pairwise (· < ·)) (hb : ∀ q ∈ ns, -1 ≤ q ∧ q < n) : lotS (mS ns) n = ns :=
  asc_ext (lotS_asc n) h fun q => mem_lotS.trans ⟨fun ⟨_, _, c⟩ => of_decide_eq_true c, fun c => ⟨(hb q c).1, (hb q c).2, decide_eq_true c⟩⟩
/-- a share's numbers -/
structure Sh (ns : List Int) : Prop where
  nn : ∀ q ∈ ns, 0 ≤ q
  asc : ns.Pairwise (· < ·)
  zero : 0 ∈ ns → ns = [0]
theorem Sh.le {ns : List Int} (h : Sh ns) {n : Nat} (hb : ∀ q ∈ ns, q < ((n + 1 : Nat) : Int)) : Vs (mS ns) (n + 1) ≤ 2 ^ n := by
  have h1 : mS ns (-1) = false := decide_eq_false fun z => by have := h.nn _ z; omega
  by_cases c : (0 : Int) ∈ ns
  · rw [h.zero c]
    have : ∀ j : Nat, Vs (mS [0]) (j + 1) = 2 ^ j := fun j => by
      induction j with
      | zero => rfl
      | succ j ih =>
        rw [Vs, ih, Nat.pow_succ, show mS [0] ((j + 1 : Nat) : Int) = false from decide_eq_false (by simp; omega)]
        show 2 * 2 ^ j + 0 = _
        omega
    rw [this]
    exact Nat.le_refl _
  · have := Vs_lt h1 (decide_eq_false c) n
    omega
/-- what is ascending within, and worth no more than the whole, is a share -/
theorem Sh.of {ns : List Int} {n : Nat} (h : ns.Pairwise (· < ·)) (hb : ∀ q ∈ ns, -1 ≤ q ∧ q < ((n + 1 : Nat) : Int)) (hv : Vs (mS ns) (n + 1) ≤ 2 ^ n) : Sh ns := by
  have p2 : 0 < 2 ^ n := Nat.pow_pos (by decide)
  have h1 : (-1 : Int) ∉ ns := fun z => by
    have := Vs_neg (S := mS ns) (decide_eq_true z) (n + 1)
    rw [Nat.pow_succ] at this
    omega
  refine ⟨fun q hq => ?_, h, fun z => asc_ext h (by simp) fun q => ⟨fun hq => ?_, fun e => ?_⟩⟩
  · have := (hb q hq).1
    by_cases e : q = -1
    · rw [e] at hq; exact absurd hq h1
    · omega
  · have b := hb q hq
    by_cases e : q = 0
    · simp [e]
    · by_cases e2 : q = -1
      · rw [e2] at hq; exact absurd hq h1
      · have := Vs_more (S := mS ns) (decide_eq_true z) (p := q) (by omega) (decide_eq_true hq) n (by omega)
        omega
  · simp only [List.mem_singleton] at e
    rw [e]; exact z
/-- the share that two come to -/
def addS (n : Nat) (ns ms : List Int) : Option (List Int) :=
  if Vs (mS ns) (n + 1) + Vs (mS ms) (n + 1) ≤ 2 ^ n then some (lotV (n + 1) (Vs (mS ns) (n + 1) + Vs (mS ms) (n + 1))) else none
abbrev Bd (n : Nat) (ns : List Int) : Prop := ∀ q ∈ ns, q < ((n + 1 : Nat) : Int)
theorem addS_comm {n : Nat} {ns ms : List Int} : addS n ns ms = addS n ms ns := by
  unfold addS
  rw [Nat.add_comm]
/-- what a set of that worth is -/
theorem addS_of {n : Nat} {ns ms ks : List Int} (h : ks.Pairwise (· < ·)) (hb : ∀ q ∈ ks, -1 ≤ q ∧ q < ((n + 1 : Nat) : Int)) (e : Vs (mS ks) (n + 1) = Vs (mS ns) (n + 1) + Vs (mS ms) (n + 1)) :
    (Sh ks ∧ addS n ns ms = some ks) ∨ (¬ Sh ks ∧ addS n ns ms = none) := by
  unfold addS
  rw [← e, lotV_Vs, lotS_mS h hb]
  by_cases c : Vs (mS ks) (n + 1) ≤ 2 ^ n
  · exact .inl ⟨Sh.of h hb c, if_pos c⟩
  · exact .inr ⟨fun s => c (s.le fun q hq => (hb q hq).2), if_neg c⟩
theorem lotV_ok {n W : Nat} (h : W < 2 ^ (n + 1)) : ∃ S : Int → Bool, Vs S n = W := by
  induction n generalizing W with
  | zero =>
    rcases (show W = 0 ∨ W = 1 by simp at h; omega) with rfl | rfl
    · exact ⟨fun _ => false, rfl⟩
    · exact ⟨fun _ => true, rfl⟩
  | succ n ih =>
    obtain ⟨S, hS⟩ := ih (W := W / 2) (by rw [Nat.pow_succ] at h; omega)
    refine ⟨put S n (decide (W % 2 = 1)), ?_⟩
    rw [Vs, Vs_congr (T := S) (fun q a b => by unfold put; rw [if_neg (by omega)]) (by unfold put; rw [if_neg (by omega)]), hS, show put S (n : Int) (decide (W % 2 = 1)) (n : Int) = decide (W % 2 = 1) by simp [put]]
    by_cases c : W % 2 = 1
    · simp [c]; omega
    · simp [c]; omega
theorem addS_some {n : Nat} {ns ms ks : List Int} (h : addS n ns ms = some ks) : Sh ks ∧ Bd n ks ∧ Vs (mS ks) (n + 1) = Vs (mS ns) (n + 1) + Vs (mS ms) (n + 1) ∧ Vs (mS ns) (n + 1) + Vs (mS ms) (n + 1) ≤ 2 ^ n := by
  unfold addS at h
  split at h
  · rename_i c
    cases h
    obtain ⟨S, hS⟩ := lotV_ok (n := n + 1) (W := Vs (mS ns) (n + 1) + Vs (mS ms) (n + 1)) (by rw [Nat.pow_succ, Nat.pow_succ]; have : 0 < 2 ^ n := Nat.pow_pos (by decide); omega)
    rw [← hS, lotV_Vs]
    have e : Vs (mS (lotS S (n + 1))) (n + 1) = Vs S (n + 1) := Vs_congr (fun q a b => by
      by_cases z : S q = true
      · rw [z]; exact decide_eq_true (mem_lotS.mpr ⟨a, b, z⟩)
      · rw [Bool.eq_false_iff.mpr z]; exact decide_eq_false fun y => z (mem_lotS.mp y).2.2) (by
      by_cases z : S (-1) = true
      · rw [z]; exact decide_eq_true (mem_lotS.mpr ⟨by omega, by omega, z⟩)
      · rw [Bool.eq_false_iff.mpr z]; exact decide_eq_false fun y => z (mem_lotS.mp y).2.2)
    have b : ∀ q ∈ lotS S (n + 1), -1 ≤ q ∧ q < ((n + 1 : Nat) : Int) := fun q hq => ⟨(mem_lotS.mp hq).1, (mem_lotS.mp hq).2.1⟩
    rw [e, hS]
    exact ⟨Sh.of (lotS_asc _) b (by rw [e, hS]; exact c), fun q hq => (b q hq).2, rfl, c⟩
  · cases h
/-- three in another order -/
theorem addS_third {n : Nat} {a b c d : List Int} (h : addS n a b = some d) (h2 : addS n d c ≠ none) : ∃ e, addS n a c = some e ∧ addS n e b = addS n d c ∧ addS n d c ≠ none := by
  obtain ⟨_, _, e1, _⟩ := addS_some h
  cases q : addS n d c with
  | none => exact absurd q h2
  | some r =>
    obtain ⟨_, _, e2, l2⟩ := addS_some q
    have l3 : Vs (mS a) (n + 1) + Vs (mS c) (n + 1) ≤ 2 ^ n := by omega
    have q3 : addS n a c = some (lotV (n + 1) (Vs (mS a) (n + 1) + Vs (mS c) (n + 1))) := if_pos l3
    refine ⟨_, q3, ?_, fun z => nomatch z⟩
    obtain ⟨_, _, e4, _⟩ := addS_some q3
    rw [← q]
    unfold addS
    rw [e4, e1, show Vs (mS a) (n + 1) + Vs (mS c) (n + 1) + Vs (mS b) (n + 1) = Vs (mS a) (n + 1) + Vs (mS b) (n + 1) + Vs (mS c) (n + 1) by omega]
theorem lotV_up : ∀ (k n W : Nat), lotV (n + k) (2 ^ k * W) = lotV n W
  | 0, n, W => by simp
  | k + 1, n, W => by
    rw [show n + (k + 1) = (n + k) + 1 by omega, lotV, show 2 ^ (k + 1) * W = 2 * (2 ^ k * W) by rw [Nat.pow_succ, Nat.mul_comm (2 ^ k) 2, Nat.mul_assoc], show 2 * (2 ^ k * W) / 2 = 2 ^ k * W by omega, show 2 * (2 ^ k * W) % 2 = 0 by omega, lotV_up k n W]
    simp
/-- more places make no difference -/
theorem addS_up {n k : Nat} {ns ms : List Int} (h1 : Bd n ns) (h2 : Bd n ms) : addS (n + k) ns ms = addS n ns ms := by
  have u : ∀ {l : List Int}, Bd n l → Vs (mS l) (n + 1 + k) = 2 ^ k * Vs (mS l) (n + 1) := fun h => Vs_up (fun q hq => decide_eq_false fun z => by have := h q z; omega) k
  unfold addS
  rw [show n + k + 1 = n + 1 + k by omega, u h1, u h2, ← Nat.mul_add, lotV_up, Nat.pow_add, Nat.mul_comm (2 ^ n)]
  have : 0 < 2 ^ k := Nat.pow_pos (by decide)
  by_cases c : Vs (mS ns) (n + 1) + Vs (mS ms) (n + 1) ≤ 2 ^ n
  · rw [if_pos c, if_pos (Nat.mul_le_mul_left _ c)]
  · rw [if_neg c, if_neg fun z => c (Nat.le_of_mul_le_mul_left z this)]
/-- two halves -/
theorem half_sh {ns : List Int} (h : Sh ns) : Sh (ns.map (· + 1)) :=
  ⟨fun q hq => by obtain ⟨p, hp, rfl⟩ := List.mem_map.mp hq; have := h.nn p hp; omega,
   List.pairwise_map.mpr (h.asc.imp fun h => by omega), fun z => by obtain ⟨p, hp, e⟩ := List.mem_map.mp z; have := h.nn p hp; omega⟩
theorem half_add {n : Nat} {ns : List Int} (h : Sh ns) (hb : ∀ q ∈ ns, q < n) : addS n (ns.map (· + 1)) (ns.map (· + 1)) = some ns := by
  have e : ∀ j : Nat, Vs (mS (ns.map (· + 1))) (j + 1) = Vs (mS ns) j := fun j => by
    have h1 : mS (ns.map (· + 1)) (-1) = false := decide_eq_false fun z => by obtain ⟨p, hp, e⟩ := List.mem_map.mp z; have := h.nn p hp; omega
    have h2 : ∀ q : Int, mS (ns.map (· + 1)) (q + 1) = mS ns q := fun q => by
      show decide _ = decide _
      congr 1
      exact propext ⟨fun z => by obtain ⟨p, hp, e⟩ := List.mem_map.mp z; rw [show q = p by omega]; exact hp, fun z => List.mem_map.mpr ⟨q, z, rfl⟩⟩
    induction j with
    | zero =>
      simp only [Vs, h1]
      have := h2 (-1)
      rw [show (-1 : Int) + 1 = 0 from rfl] at this
      rw [show ((0 : Nat) : Int) = 0 from rfl, this]
      show 2 * 0 + _ = _
      omega
    | succ j ih =>
      rw [Vs, ih, show ((j + 1 : Nat) : Int) = (j : Int) + 1 by omega, h2]
      rfl
  have b : ∀ q ∈ ns, -1 ≤ q ∧ q < ((n + 1 : Nat) : Int) := fun q hq => ⟨by have := h.nn q hq; omega, by have := hb q hq; omega⟩
  have v : Vs (mS ns) (n + 1) = Vs (mS (ns.map (· + 1))) (n + 1) + Vs (mS (ns.map (· + 1))) (n + 1) := by
    rw [e, Vs, show mS ns (n : Int) = false from decide_eq_false fun z => by have := hb _ z; omega]
    show 2 * Vs (mS ns) n + 0 = _
    omega
  rcases addS_of (ns := ns.map (· + 1)) (ms := ns.map (· + 1)) h.asc b v with q | q
  · exact q.2
  · exact absurd h q.1
end KQ
set_option Elab.async false
set_option maxRecDepth 100000
set_option maxHeartbeats 4000000
/-! B13: a tuple reversed by a slice. -/
namespace KQ
open PySem PySem.Spec PyProof.Rows L2
theorem adjust_rev (n : Nat) : Builtin.Slice.sliceAdjust none none (-1) (n : Int) = ((n : Int) - 1, -1) := by
  unfold Builtin.Slice.sliceAdjust
  simp
theorem places_rev (n : Nat) : Builtin.Slice.slicePlaces ((n : Int) - 1) (-1) (-1) = n := by
  unfold Builtin.Slice.slicePlaces
  have h1 : ¬ ((-1 : Int) > 0) := by omega
  simp only [h1, if_false]
  by_cases c : (n : Int) - 1 > -1
  · rw [if_pos c]
    have : ((n : Int) - 1 - -1 - 1) / (- -1) + 1 = n := by
      rw [show (- -1 : Int) = 1 by decide, Int.ediv_one]
      omega
    rw [this]
    omega
  · rw [if_neg c]
    omega
theorem pick_rev (xs : Array Value) : ((List.range xs.size).filterMap fun (m : Nat) => xs[(((xs.size : Int) - 1) + (m : Int) * (-1)).toNat]?).toArray = xs.toList.reverse.toArray := by
  congr 1
  apply List.ext_getElem?
  intro i
  have hm : ∀ l : List Nat, (∀ m ∈ l, m < xs.size) → (l.filterMap fun (m : Nat) => xs[(((xs.size : Int) - 1) + (m : Int) * (-1)).toNat]?) = l.map fun m => xs.toList.reverse.getD m Value.none := by
    intro l
    induction l with
    | nil => intro _; rfl
    | cons m l ih =>
      intro h
      have hm := h m (List.mem_cons_self ..)
      have e1 : (((xs.size : Int) - 1) + (m : Int) * (-1)).toNat = xs.size - 1 - m := by omega
      have e2 : xs[xs.size - 1 - m]? = some (xs.toList.reverse.getD m Value.none) := by
        have hl : m < xs.toList.reverse.length := by simp; omega
        rw [List.getD_eq_getElem?_getD, List.getElem?_reverse (by simpa using hm)]
        simp only [Array.length_toList, Array.getElem?_toList]
        rw [Array.getElem?_eq_getElem (by omega)]
        rfl
      rw [List.filterMap_cons, e1, e2, List.map_cons, ih fun m' h' => h m' (List.mem_cons_of_mem _ h')]
  rw [hm _ fun m h => List.mem_range.mp h, List.getElem?_map]
  by_cases c : i < xs.size
  · rw [List.getElem?_range c]
    have hl : i < xs.toList.reverse.length := by simpa using c
    simp only [Option.map_some, List.getD_eq_getElem?_getD]
    rw [List.getElem?_eq_getElem hl]
    rfl
  · rw [List.getElem?_eq_none (by simp; omega), List.getElem?_eq_none (by simp; omega)]
    rfl
section
variable {prog : Program} {w : World} {A : Around} {E : Value → Shared → Prop} {s : Shared}
theorem sliceApplied_rev {sl : Addr} {vs : Value} {n : Nat} {Q : Int × Int × Nat → Shared → Prop} (hs : s.heap.IsSliceOf sl .none .none vs) (ps : IsPart vs (some (-1)))
    (h : Q ((n : Int) - 1, -1, n) s) : wpAny (model prog w) A (Builtin.Slice.sliceApplied (.ref sl) (pure (n : Int))) Q E s := by
  obtain ⟨os, hos, hcs, hds⟩ := id hs
  unfold Builtin.Slice.sliceApplied Builtin.Slice.sliceFields
  refine wpAny_bind (wpAny_bind (wpAny_field hos hds (x := .none) rfl (wpAny_bind (wpAny_field hos hds (x := .none) rfl (wpAny_bind (wpAny_field hos hds (x := vs) rfl (wpAny_pure ?_)))))))
  refine wpAny_bind (HT.slicePart_ ps ?_)
  show wpAny _ _ (if ((-1 : Int) == 0) = true then _ else _) _ _ s
  rw [if_neg (by decide)]
  refine wpAny_bind (slicePart_none (wpAny_bind (slicePart_none (wpAny_bind (wpAny_pure ?_)))))
  show wpAny _ _ (match Builtin.Slice.sliceAdjust none none (-1) (n : Int) with | (lo, hi) => pure (lo, (-1 : Int), Builtin.Slice.slicePlaces lo hi (-1))) _ _ s
  rw [adjust_rev n]
  show wpAny _ _ (pure ((n : Int) - 1, (-1 : Int), Builtin.Slice.slicePlaces ((n : Int) - 1) (-1) (-1))) _ _ s
  rw [places_rev]
  exact wpAny_pure h
theorem getItem_tuple_rev {t sl : Addr} {items : Array Value} {vs : Value} {Q : Value → Shared → Prop} (ht : IsTup s.heap t items) (hs : s.heap.IsSliceOf sl .none .none vs) (ps : IsPart vs (some (-1)))
    (h : Q (.ref s.heap.objs.size) { s with heap := s.heap.push { cls := .type "tuple", data := .seq items.toList.reverse.toArray } })
    (hsz : items.size ≤ sizeLine) : wpAny (model prog w) A (getItem (.ref t) (.ref sl)) Q E s := by
  have htake : sizeOk (.seq items.toList.reverse.toArray) := by
    show items.toList.reverse.toArray.size ≤ sizeLine
    rw [List.size_toArray, List.length_reverse, Array.length_toList]
    exact hsz
  obtain ⟨os, hos, hcs, hds⟩ := id hs
  have hTs : s.TypeIs (.ref sl) "slice" := ⟨os, hos, hcs⟩
  unfold getItem
  try with_reducible refine wpAny_holding ?_
  first | refine wpAny_bind (wpAny_pure ?_) | skip
  refine wpAny_bind (wpAny_sequenceKey ht.typeIs (by decide) ?_)
  refine wpAny_bind (wpAny_callSpecial?_slot (name := Str.ofString "__getitem__") ht.typeIs PyProof.Rows.slot_tuple_getitem
    (wpAny_call_entry PyProof.Rows.slot_tuple_getitem ht.typeIs entry_tuple_getitem ?_ (args_tuple_getitem _ _)))
  show wpAny _ _ (Builtin.Tuple.tupleItemsOf (.ref t) >>= _) _ _ s
  refine wpAny_bind (tupleItemsOf_ ht ?_)
  refine wpAny_bind (wpAny_typeOf hTs ?_)
  rw [if_pos (by decide)]
  refine wpAny_bind (sliceApplied_rev hs ps ?_)
  have hno : ¬ (((((items.size : Nat) : Int) - 1) == 0 && (-1 : Int) == 1 && items.size == items.size) = true) := by simp
  show wpAny _ _ (if ((((items.size : Nat) : Int) - 1) == 0 && (-1 : Int) == 1 && items.size == items.size) = true then _ else _) _ _ s
  rw [if_neg hno, pick_rev]
  first
    | exact wpAny_bind (m := Builtin.Tuple.tupleExact _) (wpAny_newObj_type (wpAny_pure ⟨_, rfl, wpAny_pure h⟩) htake)
    | exact wpAny_bind (m := Builtin.Tuple.tupleExact _) (wpAny_newObj_type (wpAny_bind (wpAny_pure (wpAny_pure ⟨_, rfl, wpAny_pure h⟩))) htake)
    | exact wpAny_bind (wpAny_bind (m := Builtin.Tuple.tupleExact _) (wpAny_newObj_type (wpAny_pure (wpAny_pure ⟨_, rfl, wpAny_pure h⟩)) htake))
    | exact wpAny_bind (wpAny_bind (m := Builtin.Tuple.tupleExact _) (wpAny_newObj_type (wpAny_pure ⟨_, rfl, wpAny_pure h⟩) htake))
end
def tRevT (K : PySem.W.Frag) (te : TE) : TE := fun σ H Q => te σ H fun x H1 => ∃ a xs, x = .ref a ∧ SqT K H1 a xs ∧ ∀ p, H1 p = none → Q (.ref p) (upd H1 p (.tup xs.reverse))
theorem pe_revT {X : Cx} {e : Expr} {te : TE} {k : Nat} {p1 p2 p3 pos : Pos} (he : PE X e te) : PE X (.Subscript e (.Slice none none (some (.UnaryOp .USub (.Constant (.int 1) k p1) p2)) p3) pos) (tRevT X.K te) := by
  refine ⟨fun pins s σ H Q I h => ?_⟩
  refine Subscript_ (thn (he.run pins s σ H _ I h) fun v s1 ⟨x, H1, I1, r1, q1⟩ => ?_)
  obtain ⟨a, xs, ex, hx, q⟩ := q1
  subst ex
  cases r1
  have hst : PO X (some (.UnaryOp .USub (.Constant (.int 1) k p1) p2)) (tPart (tUn (rU fun i => .int (-i)) (tC (.int 1)))) := po_some (pe_un un_neg pe_int)
  refine wpAny_Slice (thn (po_none.run pins s1 σ H1 (fun o H2 => o = none ∧ H2 = H1) I1 ⟨rfl, rfl⟩) fun vl s2 ⟨l, H2, I2, pl, el, e2⟩ => ?_)
  subst el e2
  cases pl
  refine thn (po_none.run pins s2 σ H2 (fun o H3 => o = none ∧ H3 = H2) I2 ⟨rfl, rfl⟩) fun vu s3 ⟨u, H3, I3, pu, eu, e3⟩ => ?_
  subst eu e3
  cases pu
  refine thn (hst.run pins s3 σ H3 (fun o H4 => o = some (-1) ∧ H4 = H3) I3 ⟨1, rfl, -1, rfl, rfl, rfl⟩) fun vs s4 ⟨o, H4, I4, ps, eo, e4⟩ => ?_
  subst eo e4
  have I5 : Inv X pins σ H4 { s4 with heap := s4.heap.push { cls := .type "slice", data := .fields #[.none, .none, vs] } } := I4.kept (t' := s4.toks) fun b ob q => Heap.get?_push_of_some _ q
  obtain ⟨its, r, ht, hz⟩ := I5.tuple hx
  have hlen := r.length
  show wpAny (model X.prog X.w) X.A (subscriptTail e (.Slice none none (some (.UnaryOp .USub (.Constant (.int 1) k p1) p2)) p3) (.ref a) (.ref s4.heap.objs.size)) (EP X pins σ Q) X.xe { s4 with heap := s4.heap.push { cls := .type "slice", data := .fields #[.none, .none, vs] } }
  refine tail_any (ops := [.ref a, .ref s4.heap.objs.size]) ht.typeIs (PyProof.Rows.slot_tuple_getitem.lookup) ?_ (by with_unfolding_all rfl)
  refine getItem_tuple_rev ht (Heap.IsSliceOf.new _ .none .none vs) ps ?_ (by rw [List.size_toArray]; omega)
  refine ⟨.ref _, _, I5.laid (t' := s4.toks) (o := .tup xs.reverse) (fun b ob q => Heap.get?_push_of_some _ q) (Nat.le_refl _) ?_, rfl, q _ (I5.hok.fresh (Nat.le_refl _))⟩
  exact ⟨by rw [List.length_reverse]; exact hz, _, r.reverse, IsTup.new _ _⟩
/-- a text some times behind itself -/
def rRepS : R2 := fun x y H Q => ∃ (z : Str) (n : Nat), x = .str z ∧ y = .int (n : Int) ∧ 2 ≤ n ∧ n ≤ 1000 ∧ 0 < z.length ∧ z.length ≤ 1000 ∧ (⟨(List.replicate n z.cps).foldl (· ++ ·) #[]⟩ : Str).length ≤ 1000000 ∧ Q (.str ⟨(List.replicate n z.cps).foldl (· ++ ·) #[]⟩) H
theorem op_repS {X : Cx} : OpR X (binaryOp .Mult) rRepS := by
  intro pins s σ H x y v u Q I rx ry h
  obtain ⟨z, n, rfl, rfl, h2, h3, h4, h5, h6, q⟩ := h
  obtain ⟨t, rfl⟩ := rx
  obtain ⟨t', rfl⟩ := ry
  refine P.mul_str ?_ (fun _ _ => ?_) (fun _ _ => ?_) ?_
  · rw [decide_eq_false (by omega), decide_eq_false (by omega)]; rfl
  · have h9 : (2 ^ 63 - 1 : Int) / (n : Int) ≥ (2 ^ 63 - 1 : Int) / 1000 := by
      rw [ge_iff_le, Int.le_ediv_iff_mul_le (by omega)]
      have e : (2 ^ 63 - 1 : Int) / 1000 = 9223372036854775 := by decide
      rw [e]
      omega
    have e : (2 ^ 63 - 1 : Int) / 1000 = 9223372036854775 := by decide
    omega
  · have : z.length * (n : Int).toNat ≤ 1000000 := by
      rw [Int.toNat_natCast]
      exact Nat.le_trans (Nat.mul_le_mul h5 h3) (by decide)
    show decide (z.length * (n : Int).toNat > sizeLine) = false
    rw [sizeLine_eq]
    exact decide_eq_false (by omega)
  · rw [if_neg (by omega), if_neg (by simp; omega), Int.toNat_natCast]
    refine ⟨?_, ?_⟩
    · rw [sizeLine_eq]
      omega
    · exact ⟨.str _, H, I.tok _, ⟨_, rfl⟩, q⟩
/-- f(), f by its promise -/
theorem pe_h0 {X : Cx} {k : Nat} {x : Str} {ps : List Str} {sp : Sp} {p pos : Pos} (D : Has X.prog X.w X.K X.mg X.base k x ps sp) (hr : Room k X.A) (hg : Gl X x) (hdb : (x == ("__debug__" : Str)) = false := by decide) :
    PE X (.Call (.Name x p) [] [] pos) (tCall sp [] E0 tNil) := by
  obtain ⟨f, fd, G, m, kp, b⟩ := D
  exact pe_call0 G hr hg m kp b .nil pass0 hdb
end KQ
set_option Elab.async false
set_option maxRecDepth 100000
set_option maxHeartbeats 4000000
namespace KQ
open PySem PySem.Spec PyProof.Rows L2
def top (i : Nat) : Stmt := PySem.Challenge.pw_knownquiet_k42_whole_rows_of_parcels.main.body.getD i (.Pass ⟨0, 0, 0, 0⟩)
abbrev s_BadRow___init__ : Stmt := inClass (top 4) 0
theorem sc_BadRow___init__ : FnScope ["self", "place"] ["self", "place"] (defScope s_BadRow___init__) := ⟨rfl, rfl, rfl, by decide +kernel, rfl, by decide +kernel, by decide +kernel⟩
abbrev s_is_number : Stmt := top 6
theorem sc_is_number : FnScope ["thing"] ["thing"] (defScope s_is_number) := ⟨rfl, rfl, rfl, by decide +kernel, rfl, by decide +kernel, by decide +kernel⟩
abbrev s_is_below : Stmt := top 7
theorem sc_is_below : FnScope ["bound", "thing"] ["bound", "thing"] (defScope s_is_below) := ⟨rfl, rfl, rfl, by decide +kernel, rfl, by decide +kernel, by decide +kernel⟩
abbrev s_is_parcel : Stmt := top 25
theorem sc_is_parcel : FnScope ["thing"] ["thing"] (defScope s_is_parcel) := ⟨rfl, rfl, rfl, by decide +kernel, rfl, by decide +kernel, by decide +kernel⟩
abbrev s_is_parcel_within : Stmt := top 26
theorem sc_is_parcel_within : FnScope ["deep", "thing", "sign", "item"] ["deep", "thing"] (defScope s_is_parcel_within) := ⟨rfl, rfl, rfl, by decide +kernel, rfl, by decide +kernel, by decide +kernel⟩
abbrev s_is_sign_number : Stmt := top 27
theorem sc_is_sign_number : FnScope ["number"] ["number"] (defScope s_is_sign_number) := ⟨rfl, rfl, rfl, by decide +kernel, rfl, by decide +kernel, by decide +kernel⟩
abbrev s_is_row : Stmt := top 28
theorem sc_is_row : FnScope ["thing", "item"] ["thing"] (defScope s_is_row) := ⟨rfl, rfl, rfl, by decide +kernel, rfl, by decide +kernel, by decide +kernel⟩
abbrev s_check_row : Stmt := top 29
theorem sc_check_row : FnScope ["row"] ["row"] (defScope s_check_row) := ⟨rfl, rfl, rfl, by decide +kernel, rfl, by decide +kernel, by decide +kernel⟩
abbrev s_row_of : Stmt := top 30
theorem sc_row_of : FnScope ["parcel"] ["parcel"] (defScope s_row_of) := ⟨rfl, rfl, rfl, by decide +kernel, rfl, by decide +kernel, by decide +kernel⟩
abbrev s_bytes_of : Stmt := top 31
theorem sc_bytes_of : FnScope ["parcel", "sign", "found", "item"] ["parcel"] (defScope s_bytes_of) := ⟨rfl, rfl, rfl, by decide +kernel, rfl, by decide +kernel, by decide +kernel⟩
abbrev s_plain_sort : Stmt := top 32
theorem sc_plain_sort : FnScope ["parcel"] ["parcel"] (defScope s_plain_sort) := ⟨rfl, rfl, rfl, by decide +kernel, rfl, by decide +kernel, by decide +kernel⟩
abbrev s_whole_of : Stmt := top 33
theorem sc_whole_of : FnScope ["number", "found", "left"] ["number"] (defScope s_whole_of) := ⟨rfl, rfl, rfl, by decide +kernel, rfl, by decide +kernel, by decide +kernel⟩
abbrev s_parcel_of : Stmt := top 34
theorem sc_parcel_of : FnScope ["row"] ["row"] (defScope s_parcel_of) := ⟨rfl, rfl, rfl, by decide +kernel, rfl, by decide +kernel, by decide +kernel⟩
abbrev s_read_row : Stmt := top 35
theorem sc_read_row : FnScope ["row", "parcel", "behind"] ["row"] (defScope s_read_row) := ⟨rfl, rfl, rfl, by decide +kernel, rfl, by decide +kernel, by decide +kernel⟩
abbrev s_read_parcel : Stmt := top 36
theorem sc_read_parcel : FnScope ["row", "place", "deep", "sort", "whole", "behind"] ["row", "place", "deep"] (defScope s_read_parcel) := ⟨rfl, rfl, rfl, by decide +kernel, rfl, by decide +kernel, by decide +kernel⟩
abbrev s_read_whole : Stmt := top 37
theorem sc_read_whole : FnScope ["row", "place", "last", "whole", "figure"] ["row", "place"] (defScope s_read_whole) := ⟨rfl, rfl, rfl, by decide +kernel, rfl, by decide +kernel, by decide +kernel⟩
abbrev s_read_signs : Stmt := top 38
theorem sc_read_signs : FnScope ["row", "place", "many", "signs", "at"] ["row", "place", "many"] (defScope s_read_signs) := ⟨rfl, rfl, rfl, by decide +kernel, rfl, by decide +kernel, by decide +kernel⟩
abbrev s_sign_of : Stmt := top 39
theorem sc_sign_of : FnScope ["number"] ["number"] (defScope s_sign_of) := ⟨rfl, rfl, rfl, by decide +kernel, rfl, by decide +kernel, by decide +kernel⟩
abbrev s_read_items : Stmt := top 40
theorem sc_read_items : FnScope ["row", "place", "many", "deep", "items", "behind", "item"] ["row", "place", "many", "deep"] (defScope s_read_items) := ⟨rfl, rfl, rfl, by decide +kernel, rfl, by decide +kernel, by decide +kernel⟩
abbrev s_mark_of : Stmt := top 41
theorem sc_mark_of : FnScope ["row", "number", "byte"] ["row"] (defScope s_mark_of) := ⟨rfl, rfl, rfl, by decide +kernel, rfl, by decide +kernel, by decide +kernel⟩
abbrev s_sealed : Stmt := top 42
theorem sc_sealed : FnScope ["parcel", "row"] ["parcel"] (defScope s_sealed) := ⟨rfl, rfl, rfl, by decide +kernel, rfl, by decide +kernel, by decide +kernel⟩
abbrev s_seal_of : Stmt := top 43
theorem sc_seal_of : FnScope ["row", "number", "at"] ["row"] (defScope s_seal_of) := ⟨rfl, rfl, rfl, by decide +kernel, rfl, by decide +kernel, by decide +kernel⟩
abbrev s_law_pool : Stmt := top 45
theorem sc_law_pool : FnScope ["script", "seed", "cell"] ["script"] (defScope s_law_pool) := ⟨rfl, rfl, rfl, by decide +kernel, rfl, by decide +kernel, by decide +kernel⟩
abbrev s_law_draw : Stmt := top 46
theorem sc_law_draw : FnScope ["pool", "many", "cells", "digit", "mixed"] ["pool", "many"] (defScope s_law_draw) := ⟨rfl, rfl, rfl, by decide +kernel, rfl, by decide +kernel, by decide +kernel⟩
abbrev s_law_deep : Stmt := top 47
theorem sc_law_deep : FnScope ["thing", "turn"] [] (defScope s_law_deep) := ⟨rfl, rfl, rfl, by decide +kernel, rfl, by decide +kernel, by decide +kernel⟩
abbrev s_law_flag : Stmt := top 48
theorem sc_law_flag : FnScope ["thing", "due"] ["thing", "due"] (defScope s_law_flag) := ⟨rfl, rfl, rfl, by decide +kernel, rfl, by decide +kernel, by decide +kernel⟩
abbrev s_law_whole : Stmt := top 49
theorem sc_law_whole : FnScope ["number", "found"] ["number"] (defScope s_law_whole) := ⟨rfl, rfl, rfl, by decide +kernel, rfl, by decide +kernel, by decide +kernel⟩
abbrev s_law_bytes : Stmt := top 50
theorem sc_law_bytes : FnScope ["parcel", "sign", "found", "part"] ["parcel"] (defScope s_law_bytes) := ⟨rfl, rfl, rfl, by decide +kernel, rfl, by decide +kernel, by decide +kernel⟩
abbrev s_law_number : Stmt := top 51
theorem sc_law_number : FnScope ["pool", "kind", "found", "turn"] ["pool"] (defScope s_law_number) := ⟨rfl, rfl, rfl, by decide +kernel, rfl, by decide +kernel, by decide +kernel⟩
abbrev s_law_parcel : Stmt := top 52
theorem sc_law_parcel : FnScope ["pool", "deep", "kind", "many", "at", "turn"] ["pool", "deep"] (defScope s_law_parcel) := ⟨rfl, rfl, rfl, by decide +kernel, rfl, by decide +kernel, by decide +kernel⟩
abbrev s_law_nested : Stmt := top 53
theorem sc_law_nested : FnScope ["many", "inner", "found", "turn"] ["many", "inner"] (defScope s_law_nested) := ⟨rfl, rfl, rfl, by decide +kernel, rfl, by decide +kernel, by decide +kernel⟩
abbrev s_law_same : Stmt := top 54
theorem sc_law_same : FnScope ["one", "other", "first", "later"] ["one", "other"] (defScope s_law_same) := ⟨rfl, rfl, rfl, by decide +kernel, rfl, by decide +kernel, by decide +kernel⟩
abbrev s_law_is_parcel : Stmt := top 55
theorem sc_law_is_parcel : FnScope ["thing", "left", "part", "sign"] ["thing", "left"] (defScope s_law_is_parcel) := ⟨rfl, rfl, rfl, by decide +kernel, rfl, by decide +kernel, by decide +kernel⟩
abbrev s_law_word : Stmt := top 56
theorem sc_law_word : FnScope ["which", "thing", "word", "e"] ["which", "thing"] (defScope s_law_word) := ⟨rfl, rfl, rfl, by decide +kernel, rfl, by decide +kernel, by decide +kernel⟩
abbrev s_law : Stmt := top 57
theorem sc_law : FnScope ["script", "pool", "turn", "parcel", "row", "odd", "thing", "one", "due", "which"] ["script"] (defScope s_law) := ⟨rfl, rfl, rfl, by decide +kernel, rfl, by decide +kernel, by decide +kernel⟩
end KQ
set_option Elab.async false
set_option maxRecDepth 100000
set_option maxHeartbeats 4000000
namespace KQ
open PySem PySem.Spec PyProof.Rows L2

/-- the built-in names that no text of ours binds -/
structure Bi (mg : Str → Option Value) : Prop where
  len : mg "len" = none
  isinstance : mg "isinstance" = none
  int : mg "int" = none
  bool : mg "bool" = none
  tuple : mg "tuple" = none
  list : mg "list" = none
  str : mg "str" = none
  zip : mg "zip" = none
  range : mg "range" = none
  max : mg "max" = none
  sorted : mg "sorted" = none
  all : mg "all" = none
  sum : mg "sum" = none
  enumerate : mg "enumerate" = none
  abs : mg "abs" = none
  ord : mg "ord" = none
  min : mg "min" = none
  any : mg "any" = none
  dict : mg "dict" = none
  repr : mg "repr" = none
  reversed : mg "reversed" = none

/-! ### the drawing hand: the script's ints at l, four ints beside it -/
def HandOk (H : Hp) (h l : Addr) : Prop := ∃ (xs : List Int) (i b s c : Int), H h = some (.lst [.ref l, .int i, .int b, .int s, .int c]) ∧ H l = some (.lst (xs.map V.int)) ∧
  0 ≤ i ∧ i ≤ xs.length ∧ 0 ≤ b ∧ 0 ≤ s ∧ s < 2147483647 ∧ xs.length ≤ 1000
abbrev Nh (h : Addr) : Addr → Prop := fun a => a = h
theorem HandOk.same {H H' : Hp} {h l : Addr} (k : HandOk H h l) (e : Same H H') : HandOk H' h l := by
  obtain ⟨xs, i, b, s, c, h1, h2, r⟩ := k
  exact ⟨xs, i, b, s, c, e _ _ h1, e _ _ h2, r⟩
theorem same_new {H : Hp} {p : Addr} {o : HO} (h : H p = none) : Same H (upd H p o) := fun b u q => by rw [upd_ne (ne_of_none q h)]; exact q
theorem HandOk.new {H : Hp} {h l p : Addr} {o : HO} (k : HandOk H h l) (n : H p = none) : HandOk (upd H p o) h l := k.same (same_new n)
theorem HandOk.ne {H : Hp} {h l p : Addr} (k : HandOk H h l) (n : H p = none) : p ≠ h := by
  obtain ⟨xs, i, b, s, c, h1, _⟩ := k
  exact (ne_of_none h1 n).symm
theorem HandOk.ne0 {H : Hp} {h l p : Addr} (k : HandOk H h l) (n : H p = none) : p ≠ l := by
  obtain ⟨xs, i, b, s, c, _, h2, _⟩ := k
  exact (ne_of_none h2 n).symm
/-- what stands at the hand's two places is a list -/
theorem HandOk.lst {H : Hp} {h l : Addr} (k : HandOk H h l) : (∃ xs, H h = some (.lst xs)) ∧ ∃ xs, H l = some (.lst xs) := by
  obtain ⟨xs, i, b, s, c, h1, h2, _⟩ := k
  exact ⟨⟨_, h1⟩, _, h2⟩
/-- the hand's own list -/
abbrev hL (l : Addr) (i b s c : Int) : HO := .lst [.ref l, .int i, .int b, .int s, .int c]
def spHand (K : PySem.W.Frag) : Sp := fun vs H Q _ => ∃ (a : Addr) (ns : List Int), vs = [.ref a] ∧ SqL K H a (ns.map V.int) ∧ ns.length ≤ 1000 ∧ ∀ (h l : Addr) (H' : Hp), H h = none → H l = none → Same H H' → HandOk H' h l → Q (.ref h) H'
def spTake : Sp := fun vs H Q _ => ∃ (h l : Addr) (m : Int), vs = [.ref h, .int m] ∧ HandOk H h l ∧ 0 < m ∧ m < 1073741824 ∧
  ∀ (r : Int) (H' : Hp), 0 ≤ r → r < m → HandOk H' h l → (∀ a, a ≠ h → H' a = H a) → Q (.int r) H'
section
variable {P : Program} {w : World} {K : PySem.W.Frag} {mg : Str → Option Value} {base : Heap}
theorem fmod_lt' {a m : Int} (h : 0 < m) : 0 ≤ a.fmod m ∧ a.fmod m < m := by
  rw [Int.fmod_eq_emod_of_nonneg a (Int.le_of_lt h)]
  exact ⟨Int.emod_nonneg a (by omega), Int.emod_lt_of_pos a h⟩
theorem fdiv_nn {a m : Int} (h : 0 < m) (ha : 0 ≤ a) : 0 ≤ a.fdiv m := by
  rw [Int.fdiv_eq_ediv_of_nonneg a (Int.le_of_lt h)]
  exact Int.ediv_nonneg ha (Int.le_of_lt h)
theorem atI_map {xs : List Int} {i : Int} (h0 : 0 ≤ i) (h : i < xs.length) : ∃ v, atI (xs.map V.int) i = some (.int v) := by
  have hk : i.toNat < xs.length := by omega
  have q : atI (xs.map V.int) ((i.toNat : Nat) : Int) = some (.int xs[i.toNat]) := atI_nat (by rw [List.getElem?_map, List.getElem?_eq_getElem hk] <;> rfl)
  rw [show ((i.toNat : Nat) : Int) = i by omega] at q
  exact ⟨_, q⟩
end
end KQ
set_option Elab.async false
set_option maxRecDepth 100000
set_option maxHeartbeats 4000000
namespace KQ
open PySem PySem.Spec PyProof.Rows L2
theorem ifT {c : Bool} {A B : Prop} (h : c = true) (a : A) : if c = true then A else B := by rw [if_pos h]; exact a
theorem ifF {c : Bool} {A B : Prop} (h : c = false) (b : B) : if c = true then A else B := by rw [h, if_neg Bool.false_ne_true]; exact b
theorem atI_some {xs : List V} {i : Int} (h0 : 0 ≤ i) (h : i < xs.length) : ∃ v, atI xs i = some v ∧ v ∈ xs ∧ xs[i.toNat]? = some v := by
  have hk : i.toNat < xs.length := by omega
  have q : atI xs ((i.toNat : Nat) : Int) = some xs[i.toNat] := atI_nat (List.getElem?_eq_getElem hk)
  rw [show ((i.toNat : Nat) : Int) = i by omega] at q
  exact ⟨_, q, List.getElem_mem hk, List.getElem?_eq_getElem hk⟩
def spPick : Sp := fun vs H Q _ => ∃ (h l t : Addr) (xs : List V), vs = [.ref h, .ref t] ∧ HandOk H h l ∧ H t = some (.lst xs) ∧ t ≠ h ∧ 0 < xs.length ∧ xs.length < 1073741824 ∧
  ∀ (v : V) (H' : Hp), v ∈ xs → HandOk H' h l → (∀ a, a ≠ h → H' a = H a) → Q v H'
def spIsInt : Sp := fun vs H Q _ => ∃ (N : Addr → Prop) (v : V) (d : PyData), vs = [v] ∧ Rp N H v d ∧ Q (.bl (intOf d).isSome) H
def within (d : PyData) (lo hi : Int) : Bool := match intOf d with
  | some i => decide (lo ≤ i) && decide (i ≤ hi)
  | none => false
def spWithin : Sp := fun vs H Q _ => ∃ (N : Addr → Prop) (v : V) (d : PyData) (lo hi : Int), vs = [v, .int lo, .int hi] ∧ Rp N H v d ∧ Q (.bl (within d lo hi)) H
def spSame (n : Nat) : Sp := fun vs H Q _ => ∃ (N N' : Addr → Prop) (a b : V) (d : PyData), vs = [a, b] ∧ Rp N H a d ∧ Rp N' H b d ∧ d.depth ≤ n ∧ d.canLay0 = true ∧ ∀ H', Same H H' → Q (.bl true) H'
theorem isInt_is (d : PyData) : (isT "int" d && !isT "bool" d) = (intOf d).isSome := by cases d <;> rfl
section
variable {P : Program} {w : World} {K : PySem.W.Frag} {mg : Str → Option Value} {base : Heap}
end
end KQ
set_option Elab.async false
set_option maxRecDepth 100000
set_option maxHeartbeats 4000000
namespace KQ
open PySem PySem.Spec PyProof.Rows L2
theorem okB {c b : Bool} {Q : VK} {H : Hp} (h : c = b) (q : Q (.bl b) H) : Q (.bl c) H := by rw [h]; exact q
theorem Rp.notN {N : Addr → Prop} {H : Hp} {v : V} {d : PyData} (r : Rp N H v d) (h : d ≠ .none) : decide (v = .non) = false := by
  cases r <;> simp at h ⊢
theorem Rp.notB {N : Addr → Prop} {H : Hp} {v : V} {d : PyData} (r : Rp N H v d) {b : Bool} (h : d ≠ .bool b) : decide (v = .bl b) = false := by
  cases r <;> simp at h ⊢
  exact h
theorem RpAll.at_ {N : Addr → Prop} {H : Hp} : ∀ {vs : List V} {ds : List PyData} {i : Nat} {v : V}, RpAll N H vs ds → vs[i]? = some v → ∃ d, d ∈ ds ∧ ds[i]? = some d ∧ Rp N H v d
  | _, _, _, _, .nil, e => by simp at e
  | _, _, 0, _, .cons r _, e => by simp at e; subst e; exact ⟨_, List.mem_cons_self, rfl, r⟩
  | _, _, i + 1, _, .cons _ t, e => by
    obtain ⟨d, m, g, r⟩ := t.at_ (i := i) (by simpa using e)
    exact ⟨d, List.mem_cons_of_mem _ m, by simpa using g, r⟩
theorem depth_mem : ∀ {ds : List PyData} {d : PyData}, d ∈ ds → d.depth ≤ PyData.depthAll ds
  | x :: xs, d, h => by
    unfold PyData.depthAll
    rcases List.mem_cons.mp h with rfl | h
    · exact Nat.le_max_left _ _
    · exact Nat.le_trans (depth_mem h) (Nat.le_max_right _ _)
theorem lay_mem : ∀ {ds : List PyData} {d : PyData}, PyData.canLayAll0 ds = true → d ∈ ds → d.canLay0 = true
  | x :: xs, d, e, h => by
    unfold PyData.canLayAll0 at e
    rw [Bool.and_eq_true] at e
    rcases List.mem_cons.mp h with rfl | h
    · exact e.1
    · exact lay_mem e.2 h
section
variable {P : Program} {w : World} {K : PySem.W.Frag} {mg : Str → Option Value} {base : Heap}
end
end KQ
set_option Elab.async false
set_option maxRecDepth 100000
set_option maxHeartbeats 4000000
namespace KQ
open PySem PySem.Spec PyProof.Rows L2
theorem has_none {P : Program} {w : World} {K : PySem.W.Frag} {mg : Str → Option Value} {base : Heap} {x : Str} {st : Stmt} {ps : List Str} {k : Nat} {sp : Sp} (F : FunAt K mg x st) (hb : BindsTo? st x ps) (no : ∀ vs H Q E, ¬ sp vs H Q E) : Has P w K mg base k x ps sp := by
  obtain ⟨f, fd, F, m⟩ := F
  exact ⟨f, fd, ⟨fun vs H Q E h => absurd h (no vs H Q E), fun A outer s H args us vs Q E _ _ _ _ h => absurd h (no vs H Q E)⟩, m, F.kp, F.binds hb⟩
/-- the odd things -/
def odds : List PyData := [.none, .bool true, .bool false, .str "", .str "do", .str "0", .tuple [], .list [], .dict [], .tuple [.int 0], .list [.int 0, .int 0], .tuple [.tuple []],
  .int (-1), .int 13, .int (10 ^ 20 - 1), .tuple [.int 0, .int 13], .tuple [.bool true, .int 0], .tuple [.int 0, .int 0, .int 0]]
def spOdd : Sp := fun vs H Q _ => ∃ h l : Addr, vs = [.ref h] ∧ HandOk H h l ∧ ∀ (v : V) (d : PyData) (H' : Hp), d ∈ odds → Rp (Nh h) H' v d → HandOk H' h l → Kp (Nh h) H H' → Q v H'
theorem lt6 {i : Int} (h0 : 0 ≤ i) (h : i < 6) : i = 0 ∨ i = 1 ∨ i = 2 ∨ i = 3 ∨ i = 4 ∨ i = 5 := by omega
theorem Kp.hand {H H' : Hp} {h : Addr} (k : ∀ a, a ≠ h → H' a = H a) : Kp (Nh h) H H' := fun a o e n => by rw [k a n]; exact e
theorem Kp.hn {H : Hp} {h p : Addr} {H0 : Hp} {o : HO} (k : Kp (Nh h) H0 H) (n : H p = none) : Kp (Nh h) H0 (upd H p o) := k.new' n
/-- a datum just laid -/
theorem Rp.tup0 {H : Hp} {h l p : Addr} {vs : List V} {ds : List PyData} (ho : HandOk H h l) (n : H p = none) (r : RpAll (Nh h) H vs ds) : Rp (Nh h) (upd H p (.tup vs)) (.ref p) (.tuple ds) :=
  .tup upd_same (ho.ne n) (r.to (Kp.new n))
theorem Rp.lst0 {H : Hp} {h l p : Addr} {vs : List V} {ds : List PyData} (ho : HandOk H h l) (n : H p = none) (r : RpAll (Nh h) H vs ds) : Rp (Nh h) (upd H p (.lst vs)) (.ref p) (.list ds) :=
  .lst upd_same (ho.ne n) (r.to (Kp.new n))
theorem Rp.emp0 {H : Hp} {h l p : Addr} (ho : HandOk H h l) (n : H p = none) : Rp (Nh h) (upd H p (.dK [])) (.ref p) (.dict []) :=
  .emp upd_same (ho.ne n)
abbrev rI1 {N : Addr → Prop} {H : Hp} (i : Int) : RpAll N H [.int i] [.int i] := .cons (.int i) .nil
section
variable {P : Program} {w : World} {K : PySem.W.Frag} {mg : Str → Option Value} {base : Heap}
end
end KQ
set_option Elab.async false
set_option maxRecDepth 100000
set_option maxHeartbeats 4000000
namespace KQ
open PySem PySem.Spec PyProof.Rows L2
def numOf (d : PyData) : Bool := match intOf d with
  | some i => decide (0 ≤ i)
  | none => false
def below (b : Int) (d : PyData) : Bool := match intOf d with
  | some i => decide (0 ≤ i) && decide (i < b)
  | none => false
def spIsNumber : Sp := fun vs H Q _ => ∃ (N : Addr → Prop) (v : V) (d : PyData), vs = [v] ∧ Rp N H v d ∧ Q (.bl (numOf d)) H
def spIsBelow : Sp := fun vs H Q _ => ∃ (N : Addr → Prop) (v : V) (d : PyData) (b : Int), vs = [.int b, v] ∧ Rp N H v d ∧ Q (.bl (below b d)) H
theorem lk_head {x : Str} {v : V} {r : List (Str × V)} : ((x, v) :: r).lookup x = some v := by simp [List.lookup]
theorem lk_next {x y : Str} {v : V} {r : List (Str × V)} (h : ¬ y = x) : ((x, v) :: r).lookup y = r.lookup y := by
  have e : (y == x) = false := by simpa using h
  simp [List.lookup, e]
def lenIs (m : Int) : PyData → Bool
  | .tuple ds => decide ((ds.length : Int) = m)
  | _ => false
def spTupOf : Sp := fun vs H Q _ => ∃ (N : Addr → Prop) (v : V) (d : PyData) (m : Int), vs = [.int m, v] ∧ Rp N H v d ∧ Q (.bl (lenIs m d)) H
section
variable {P : Program} {w : World} {K : PySem.W.Frag} {mg : Str → Option Value} {base : Heap}
theorem d_is_number (B : Bi mg) (F : FunAt K mg "is_number" s_is_number) : Has P w K mg base 1 "is_number" ["thing"] spIsNumber := by
  refine mk_has F sc_is_number (fun _ _ _ _ _ _ us hl => match us, hl with | [_], _ => rfl) (fun vs H Q E h => ?_) fun f cdv A outer s H vs Q E hr h => ?_
  · obtain ⟨N, v, d, rfl, _⟩ := h
    rfl
  obtain ⟨N, v, d, rfl, r, k⟩ := h
  refine ⟨_, (pss_one (ps_ret (pe_and (pe_callB call_isi rfl B.isinstance (by decide +kernel) (pa_cons (pv 0) (pa_cons (pe_bltn (v := .ty "int") rfl B.int (by decide +kernel) rfl) pa_nil))) (pe_and (pe_not (pe_callB call_isi rfl B.isinstance (by decide +kernel) (pa_cons (pv 0) (pa_cons (pe_bltn (v := .ty "bool") rfl B.bool (by decide +kernel) rfl) pa_nil)))) (pe_one (pe_cmpR op_ge (pv 0) pe_int (nomark _))))))), ?_⟩
  refine ⟨_, rfl, _, _, _, _, _, rfl, .ty "int", r.ty, kit_int d, _, rfl, ?_⟩
  unfold numOf at k
  cases d with
  | int i =>
    cases r
    refine ifT rfl ⟨_, rfl, _, _, _, _, _, rfl, .ty "bool", (Rp.int (N := N) i).ty, kit_bool _, _, rfl, _, rfl, ifT rfl ⟨_, rfl, _, _, rfl, rfl, k⟩⟩
  | bool b => exact ifT rfl ⟨_, rfl, _, _, _, _, _, rfl, .ty "bool", r.ty, kit_bool _, _, rfl, _, rfl, ifF rfl k⟩
  | none => exact ifF rfl k
  | str x => exact ifF rfl k
  | list x => exact ifF rfl k
  | tuple x => exact ifF rfl k
  | dict x => exact ifF rfl k
theorem d_is_below (F : FunAt K mg "is_below" s_is_below) (D_is_number : Has P w K mg base 1 "is_number" ["thing"] spIsNumber) : Has P w K mg base 2 "is_below" ["bound", "thing"] spIsBelow := by
  refine mk_has F sc_is_below (fun _ _ _ _ _ _ us hl => match us, hl with | [_, _], _ => rfl) (fun vs H Q E h => ?_) fun f cdv A outer s H vs Q E hr h => ?_
  · obtain ⟨N, v, d, b, rfl, _⟩ := h
    rfl
  obtain ⟨N, v, d, b, rfl, r, k⟩ := h
  refine ⟨_, (pss_one (ps_ret (pe_and (pe_h D_is_number (hr.mono (by decide)) rfl (pa_cons (pv 1) pa_nil)) (pe_one (pe_cmpR op_lt (pv 1) (pv 0) (nomark _)))))), ?_⟩
  refine ⟨_, rfl, N, v, d, rfl, r, _, rfl, ?_⟩
  unfold below at k
  unfold numOf
  cases e : intOf d with
  | none =>
    rw [e] at k
    exact ifF rfl k
  | some i =>
    rw [e] at k
    have ed : d = .int i := by cases d <;> simp_all [intOf]
    subst ed
    cases r
    have k' : Q (.bl (decide (0 ≤ i) && decide (i < b))) H := k
    show if decide (0 ≤ i) = true then _ else _
    cases e1 : decide (0 ≤ i) with
    | true =>
      rw [e1] at k'
      exact ifT rfl ⟨_, rfl, _, rfl, _, _, rfl, rfl, k'⟩
    | false =>
      rw [e1] at k'
      exact ifF rfl k'
end
end KQ
set_option Elab.async false
set_option maxRecDepth 100000
set_option maxHeartbeats 4000000
namespace KQ
open PySem PySem.Spec PyProof.Rows L2
local macro_rules | `(tactic| trivial) => `(tactic| repeat (first | (apply And.intro; focus (first | rfl | assumption | exact upd_same | exact SqL.of (by (first | assumption | exact upd_same | (rw [upd_ne (by first | assumption | exact Ne.symm (by assumption))]; first | assumption | exact upd_same | (rw [upd_ne (by first | assumption | exact Ne.symm (by assumption))]; first | assumption | exact upd_same)))) | exact SqT.of (by (first | assumption | exact upd_same | (rw [upd_ne (by first | assumption | exact Ne.symm (by assumption))]; first | assumption | exact upd_same | (rw [upd_ne (by first | assumption | exact Ne.symm (by assumption))]; first | assumption | exact upd_same)))) | exact Or.inl (SqL.of (by (first | assumption | exact upd_same | (rw [upd_ne (by first | assumption | exact Ne.symm (by assumption))]; first | assumption | exact upd_same | (rw [upd_ne (by first | assumption | exact Ne.symm (by assumption))]; first | assumption | exact upd_same))))) | exact Or.inr (SqT.of (by (first | assumption | exact upd_same | (rw [upd_ne (by first | assumption | exact Ne.symm (by assumption))]; first | assumption | exact upd_same | (rw [upd_ne (by first | assumption | exact Ne.symm (by assumption))]; first | assumption | exact upd_same))))) | exact Or.inl ⟨rfl, _, SqL.of (by (first | assumption | exact upd_same | (rw [upd_ne (by first | assumption | exact Ne.symm (by assumption))]; first | assumption | exact upd_same | (rw [upd_ne (by first | assumption | exact Ne.symm (by assumption))]; first | assumption | exact upd_same))))⟩ | (first | assumption | exact upd_same | (rw [upd_ne (by first | assumption | exact Ne.symm (by assumption))]; first | assumption | exact upd_same | (rw [upd_ne (by first | assumption | exact Ne.symm (by assumption))]; first | assumption | exact upd_same))) | decide | exact Nat.le_of_ble_eq_true rfl | omega | (show ∃ xs, SqL _ _ _ xs; exact ⟨_, SqL.of (by (first | assumption | exact upd_same | (rw [upd_ne (by first | assumption | exact Ne.symm (by assumption))]; first | assumption | exact upd_same | (rw [upd_ne (by first | assumption | exact Ne.symm (by assumption))]; first | assumption | exact upd_same))))⟩) | (show ∃ xs, SqT _ _ _ xs; exact ⟨_, SqT.of (by (first | assumption | exact upd_same | (rw [upd_ne (by first | assumption | exact Ne.symm (by assumption))]; first | assumption | exact upd_same | (rw [upd_ne (by first | assumption | exact Ne.symm (by assumption))]; first | assumption | exact upd_same))))⟩) | exact DGet.k (k := Sum.inl _) (by (first | assumption | exact upd_same | (rw [upd_ne (by first | assumption | exact Ne.symm (by assumption))]; first | assumption | exact upd_same | (rw [upd_ne (by first | assumption | exact Ne.symm (by assumption))]; first | assumption | exact upd_same)))) | (show V.int _ = kV (Sum.inl _); rfl) | (show ∃ z, V.str _ = V.str z; exact ⟨_, rfl⟩) | exact Or.inl ⟨by (first | decide | omega), by (first | decide | omega)⟩ | exact Or.inr ⟨by (first | decide | omega), by (first | decide | omega)⟩ | exact ⟨by (first | decide | omega), by (first | decide | omega)⟩ | exact ⟨by decide, by decide, by decide⟩ | exact L2.ClsV.ty _ | exact Dt.ty (by assumption) | exact Dt.kint (by assumption) | exact Dt.kbool (by assumption) | exact Dt.ktuple (by assumption) | exact Dt.klist (by assumption) | exact Dt.kstr (by assumption))) | (apply Exists.intro; apply And.intro; focus (first | rfl | assumption | exact upd_same | exact SqL.of (by (first | assumption | exact upd_same | (rw [upd_ne (by first | assumption | exact Ne.symm (by assumption))]; first | assumption | exact upd_same | (rw [upd_ne (by first | assumption | exact Ne.symm (by assumption))]; first | assumption | exact upd_same)))) | exact SqT.of (by (first | assumption | exact upd_same | (rw [upd_ne (by first | assumption | exact Ne.symm (by assumption))]; first | assumption | exact upd_same | (rw [upd_ne (by first | assumption | exact Ne.symm (by assumption))]; first | assumption | exact upd_same)))) | exact Or.inl (SqL.of (by (first | assumption | exact upd_same | (rw [upd_ne (by first | assumption | exact Ne.symm (by assumption))]; first | assumption | exact upd_same | (rw [upd_ne (by first | assumption | exact Ne.symm (by assumption))]; first | assumption | exact upd_same))))) | exact Or.inr (SqT.of (by (first | assumption | exact upd_same | (rw [upd_ne (by first | assumption | exact Ne.symm (by assumption))]; first | assumption | exact upd_same | (rw [upd_ne (by first | assumption | exact Ne.symm (by assumption))]; first | assumption | exact upd_same))))) | exact Or.inl ⟨rfl, _, SqL.of (by (first | assumption | exact upd_same | (rw [upd_ne (by first | assumption | exact Ne.symm (by assumption))]; first | assumption | exact upd_same | (rw [upd_ne (by first | assumption | exact Ne.symm (by assumption))]; first | assumption | exact upd_same))))⟩ | (first | assumption | exact upd_same | (rw [upd_ne (by first | assumption | exact Ne.symm (by assumption))]; first | assumption | exact upd_same | (rw [upd_ne (by first | assumption | exact Ne.symm (by assumption))]; first | assumption | exact upd_same))) | decide | exact Nat.le_of_ble_eq_true rfl | omega | (show ∃ xs, SqL _ _ _ xs; exact ⟨_, SqL.of (by (first | assumption | exact upd_same | (rw [upd_ne (by first | assumption | exact Ne.symm (by assumption))]; first | assumption | exact upd_same | (rw [upd_ne (by first | assumption | exact Ne.symm (by assumption))]; first | assumption | exact upd_same))))⟩) | (show ∃ xs, SqT _ _ _ xs; exact ⟨_, SqT.of (by (first | assumption | exact upd_same | (rw [upd_ne (by first | assumption | exact Ne.symm (by assumption))]; first | assumption | exact upd_same | (rw [upd_ne (by first | assumption | exact Ne.symm (by assumption))]; first | assumption | exact upd_same))))⟩) | exact DGet.k (k := Sum.inl _) (by (first | assumption | exact upd_same | (rw [upd_ne (by first | assumption | exact Ne.symm (by assumption))]; first | assumption | exact upd_same | (rw [upd_ne (by first | assumption | exact Ne.symm (by assumption))]; first | assumption | exact upd_same)))) | (show V.int _ = kV (Sum.inl _); rfl) | (show ∃ z, V.str _ = V.str z; exact ⟨_, rfl⟩) | exact Or.inl ⟨by (first | decide | omega), by (first | decide | omega)⟩ | exact Or.inr ⟨by (first | decide | omega), by (first | decide | omega)⟩ | exact ⟨by (first | decide | omega), by (first | decide | omega)⟩ | exact ⟨by decide, by decide, by decide⟩ | exact L2.ClsV.ty _ | exact Dt.ty (by assumption) | exact Dt.kint (by assumption) | exact Dt.kbool (by assumption) | exact Dt.ktuple (by assumption) | exact Dt.klist (by assumption) | exact Dt.kstr (by assumption))) | (apply Exists.intro; apply Exists.intro; apply And.intro; focus (first | rfl | assumption | exact upd_same | exact SqL.of (by (first | assumption | exact upd_same | (rw [upd_ne (by first | assumption | exact Ne.symm (by assumption))]; first | assumption | exact upd_same | (rw [upd_ne (by first | assumption | exact Ne.symm (by assumption))]; first | assumption | exact upd_same)))) | exact SqT.of (by (first | assumption | exact upd_same | (rw [upd_ne (by first | assumption | exact Ne.symm (by assumption))]; first | assumption | exact upd_same | (rw [upd_ne (by first | assumption | exact Ne.symm (by assumption))]; first | assumption | exact upd_same)))) | exact Or.inl (SqL.of (by (first | assumption | exact upd_same | (rw [upd_ne (by first | assumption | exact Ne.symm (by assumption))]; first | assumption | exact upd_same | (rw [upd_ne (by first | assumption | exact Ne.symm (by assumption))]; first | assumption | exact upd_same))))) | exact Or.inr (SqT.of (by (first | assumption | exact upd_same | (rw [upd_ne (by first | assumption | exact Ne.symm (by assumption))]; first | assumption | exact upd_same | (rw [upd_ne (by first | assumption | exact Ne.symm (by assumption))]; first | assumption | exact upd_same))))) | exact Or.inl ⟨rfl, _, SqL.of (by (first | assumption | exact upd_same | (rw [upd_ne (by first | assumption | exact Ne.symm (by assumption))]; first | assumption | exact upd_same | (rw [upd_ne (by first | assumption | exact Ne.symm (by assumption))]; first | assumption | exact upd_same))))⟩ | (first | assumption | exact upd_same | (rw [upd_ne (by first | assumption | exact Ne.symm (by assumption))]; first | assumption | exact upd_same | (rw [upd_ne (by first | assumption | exact Ne.symm (by assumption))]; first | assumption | exact upd_same))) | decide | exact Nat.le_of_ble_eq_true rfl | omega | (show ∃ xs, SqL _ _ _ xs; exact ⟨_, SqL.of (by (first | assumption | exact upd_same | (rw [upd_ne (by first | assumption | exact Ne.symm (by assumption))]; first | assumption | exact upd_same | (rw [upd_ne (by first | assumption | exact Ne.symm (by assumption))]; first | assumption | exact upd_same))))⟩) | (show ∃ xs, SqT _ _ _ xs; exact ⟨_, SqT.of (by (first | assumption | exact upd_same | (rw [upd_ne (by first | assumption | exact Ne.symm (by assumption))]; first | assumption | exact upd_same | (rw [upd_ne (by first | assumption | exact Ne.symm (by assumption))]; first | assumption | exact upd_same))))⟩) | exact DGet.k (k := Sum.inl _) (by (first | assumption | exact upd_same | (rw [upd_ne (by first | assumption | exact Ne.symm (by assumption))]; first | assumption | exact upd_same | (rw [upd_ne (by first | assumption | exact Ne.symm (by assumption))]; first | assumption | exact upd_same)))) | (show V.int _ = kV (Sum.inl _); rfl) | (show ∃ z, V.str _ = V.str z; exact ⟨_, rfl⟩) | exact Or.inl ⟨by (first | decide | omega), by (first | decide | omega)⟩ | exact Or.inr ⟨by (first | decide | omega), by (first | decide | omega)⟩ | exact ⟨by (first | decide | omega), by (first | decide | omega)⟩ | exact ⟨by decide, by decide, by decide⟩ | exact L2.ClsV.ty _ | exact Dt.ty (by assumption) | exact Dt.kint (by assumption) | exact Dt.kbool (by assumption) | exact Dt.ktuple (by assumption) | exact Dt.klist (by assumption) | exact Dt.kstr (by assumption))) | (apply Exists.intro; apply Exists.intro; apply Exists.intro; apply And.intro; focus (first | rfl | assumption | exact upd_same | exact SqL.of (by (first | assumption | exact upd_same | (rw [upd_ne (by first | assumption | exact Ne.symm (by assumption))]; first | assumption | exact upd_same | (rw [upd_ne (by first | assumption | exact Ne.symm (by assumption))]; first | assumption | exact upd_same)))) | exact SqT.of (by (first | assumption | exact upd_same | (rw [upd_ne (by first | assumption | exact Ne.symm (by assumption))]; first | assumption | exact upd_same | (rw [upd_ne (by first | assumption | exact Ne.symm (by assumption))]; first | assumption | exact upd_same)))) | exact Or.inl (SqL.of (by (first | assumption | exact upd_same | (rw [upd_ne (by first | assumption | exact Ne.symm (by assumption))]; first | assumption | exact upd_same | (rw [upd_ne (by first | assumption | exact Ne.symm (by assumption))]; first | assumption | exact upd_same))))) | exact Or.inr (SqT.of (by (first | assumption | exact upd_same | (rw [upd_ne (by first | assumption | exact Ne.symm (by assumption))]; first | assumption | exact upd_same | (rw [upd_ne (by first | assumption | exact Ne.symm (by assumption))]; first | assumption | exact upd_same))))) | exact Or.inl ⟨rfl, _, SqL.of (by (first | assumption | exact upd_same | (rw [upd_ne (by first | assumption | exact Ne.symm (by assumption))]; first | assumption | exact upd_same | (rw [upd_ne (by first | assumption | exact Ne.symm (by assumption))]; first | assumption | exact upd_same))))⟩ | (first | assumption | exact upd_same | (rw [upd_ne (by first | assumption | exact Ne.symm (by assumption))]; first | assumption | exact upd_same | (rw [upd_ne (by first | assumption | exact Ne.symm (by assumption))]; first | assumption | exact upd_same))) | decide | exact Nat.le_of_ble_eq_true rfl | omega | (show ∃ xs, SqL _ _ _ xs; exact ⟨_, SqL.of (by (first | assumption | exact upd_same | (rw [upd_ne (by first | assumption | exact Ne.symm (by assumption))]; first | assumption | exact upd_same | (rw [upd_ne (by first | assumption | exact Ne.symm (by assumption))]; first | assumption | exact upd_same))))⟩) | (show ∃ xs, SqT _ _ _ xs; exact ⟨_, SqT.of (by (first | assumption | exact upd_same | (rw [upd_ne (by first | assumption | exact Ne.symm (by assumption))]; first | assumption | exact upd_same | (rw [upd_ne (by first | assumption | exact Ne.symm (by assumption))]; first | assumption | exact upd_same))))⟩) | exact DGet.k (k := Sum.inl _) (by (first | assumption | exact upd_same | (rw [upd_ne (by first | assumption | exact Ne.symm (by assumption))]; first | assumption | exact upd_same | (rw [upd_ne (by first | assumption | exact Ne.symm (by assumption))]; first | assumption | exact upd_same)))) | (show V.int _ = kV (Sum.inl _); rfl) | (show ∃ z, V.str _ = V.str z; exact ⟨_, rfl⟩) | exact Or.inl ⟨by (first | decide | omega), by (first | decide | omega)⟩ | exact Or.inr ⟨by (first | decide | omega), by (first | decide | omega)⟩ | exact ⟨by (first | decide | omega), by (first | decide | omega)⟩ | exact ⟨by decide, by decide, by decide⟩ | exact L2.ClsV.ty _ | exact Dt.ty (by assumption) | exact Dt.kint (by assumption) | exact Dt.kbool (by assumption) | exact Dt.ktuple (by assumption) | exact Dt.klist (by assumption) | exact Dt.kstr (by assumption))) | (apply Exists.intro; apply Exists.intro; apply Exists.intro; apply Exists.intro; apply And.intro; focus (first | rfl | assumption | exact upd_same | exact SqL.of (by (first | assumption | exact upd_same | (rw [upd_ne (by first | assumption | exact Ne.symm (by assumption))]; first | assumption | exact upd_same | (rw [upd_ne (by first | assumption | exact Ne.symm (by assumption))]; first | assumption | exact upd_same)))) | exact SqT.of (by (first | assumption | exact upd_same | (rw [upd_ne (by first | assumption | exact Ne.symm (by assumption))]; first | assumption | exact upd_same | (rw [upd_ne (by first | assumption | exact Ne.symm (by assumption))]; first | assumption | exact upd_same)))) | exact Or.inl (SqL.of (by (first | assumption | exact upd_same | (rw [upd_ne (by first | assumption | exact Ne.symm (by assumption))]; first | assumption | exact upd_same | (rw [upd_ne (by first | assumption | exact Ne.symm (by assumption))]; first | assumption | exact upd_same))))) | exact Or.inr (SqT.of (by (first | assumption | exact upd_same | (rw [upd_ne (by first | assumption | exact Ne.symm (by assumption))]; first | assumption | exact upd_same | (rw [upd_ne (by first | assumption | exact Ne.symm (by assumption))]; first | assumption | exact upd_same))))) | exact Or.inl ⟨rfl, _, SqL.of (by (first | assumption | exact upd_same | (rw [upd_ne (by first | assumption | exact Ne.symm (by assumption))]; first | assumption | exact upd_same | (rw [upd_ne (by first | assumption | exact Ne.symm (by assumption))]; first | assumption | exact upd_same))))⟩ | (first | assumption | exact upd_same | (rw [upd_ne (by first | assumption | exact Ne.symm (by assumption))]; first | assumption | exact upd_same | (rw [upd_ne (by first | assumption | exact Ne.symm (by assumption))]; first | assumption | exact upd_same))) | decide | exact Nat.le_of_ble_eq_true rfl | omega | (show ∃ xs, SqL _ _ _ xs; exact ⟨_, SqL.of (by (first | assumption | exact upd_same | (rw [upd_ne (by first | assumption | exact Ne.symm (by assumption))]; first | assumption | exact upd_same | (rw [upd_ne (by first | assumption | exact Ne.symm (by assumption))]; first | assumption | exact upd_same))))⟩) | (show ∃ xs, SqT _ _ _ xs; exact ⟨_, SqT.of (by (first | assumption | exact upd_same | (rw [upd_ne (by first | assumption | exact Ne.symm (by assumption))]; first | assumption | exact upd_same | (rw [upd_ne (by first | assumption | exact Ne.symm (by assumption))]; first | assumption | exact upd_same))))⟩) | exact DGet.k (k := Sum.inl _) (by (first | assumption | exact upd_same | (rw [upd_ne (by first | assumption | exact Ne.symm (by assumption))]; first | assumption | exact upd_same | (rw [upd_ne (by first | assumption | exact Ne.symm (by assumption))]; first | assumption | exact upd_same)))) | (show V.int _ = kV (Sum.inl _); rfl) | (show ∃ z, V.str _ = V.str z; exact ⟨_, rfl⟩) | exact Or.inl ⟨by (first | decide | omega), by (first | decide | omega)⟩ | exact Or.inr ⟨by (first | decide | omega), by (first | decide | omega)⟩ | exact ⟨by (first | decide | omega), by (first | decide | omega)⟩ | exact ⟨by decide, by decide, by decide⟩ | exact L2.ClsV.ty _ | exact Dt.ty (by assumption) | exact Dt.kint (by assumption) | exact Dt.kbool (by assumption) | exact Dt.ktuple (by assumption) | exact Dt.klist (by assumption) | exact Dt.kstr (by assumption))) | (apply Exists.intro; apply Exists.intro; apply Exists.intro; apply Exists.intro; apply Exists.intro; apply And.intro; focus (first | rfl | assumption | exact upd_same | exact SqL.of (by (first | assumption | exact upd_same | (rw [upd_ne (by first | assumption | exact Ne.symm (by assumption))]; first | assumption | exact upd_same | (rw [upd_ne (by first | assumption | exact Ne.symm (by assumption))]; first | assumption | exact upd_same)))) | exact SqT.of (by (first | assumption | exact upd_same | (rw [upd_ne (by first | assumption | exact Ne.symm (by assumption))]; first | assumption | exact upd_same | (rw [upd_ne (by first | assumption | exact Ne.symm (by assumption))]; first | assumption | exact upd_same)))) | exact Or.inl (SqL.of (by (first | assumption | exact upd_same | (rw [upd_ne (by first | assumption | exact Ne.symm (by assumption))]; first | assumption | exact upd_same | (rw [upd_ne (by first | assumption | exact Ne.symm (by assumption))]; first | assumption | exact upd_same))))) | exact Or.inr (SqT.of (by (first | assumption | exact upd_same | (rw [upd_ne (by first | assumption | exact Ne.symm (by assumption))]; first | assumption | exact upd_same | (rw [upd_ne (by first | assumption | exact Ne.symm (by assumption))]; first | assumption | exact upd_same))))) | exact Or.inl ⟨rfl, _, SqL.of (by (first | assumption | exact upd_same | (rw [upd_ne (by first | assumption | exact Ne.symm (by assumption))]; first | assumption | exact upd_same | (rw [upd_ne (by first | assumption | exact Ne.symm (by assumption))]; first | assumption | exact upd_same))))⟩ | (first | assumption | exact upd_same | (rw [upd_ne (by first | assumption | exact Ne.symm (by assumption))]; first | assumption | exact upd_same | (rw [upd_ne (by first | assumption | exact Ne.symm (by assumption))]; first | assumption | exact upd_same))) | decide | exact Nat.le_of_ble_eq_true rfl | omega | (show ∃ xs, SqL _ _ _ xs; exact ⟨_, SqL.of (by (first | assumption | exact upd_same | (rw [upd_ne (by first | assumption | exact Ne.symm (by assumption))]; first | assumption | exact upd_same | (rw [upd_ne (by first | assumption | exact Ne.symm (by assumption))]; first | assumption | exact upd_same))))⟩) | (show ∃ xs, SqT _ _ _ xs; exact ⟨_, SqT.of (by (first | assumption | exact upd_same | (rw [upd_ne (by first | assumption | exact Ne.symm (by assumption))]; first | assumption | exact upd_same | (rw [upd_ne (by first | assumption | exact Ne.symm (by assumption))]; first | assumption | exact upd_same))))⟩) | exact DGet.k (k := Sum.inl _) (by (first | assumption | exact upd_same | (rw [upd_ne (by first | assumption | exact Ne.symm (by assumption))]; first | assumption | exact upd_same | (rw [upd_ne (by first | assumption | exact Ne.symm (by assumption))]; first | assumption | exact upd_same)))) | (show V.int _ = kV (Sum.inl _); rfl) | (show ∃ z, V.str _ = V.str z; exact ⟨_, rfl⟩) | exact Or.inl ⟨by (first | decide | omega), by (first | decide | omega)⟩ | exact Or.inr ⟨by (first | decide | omega), by (first | decide | omega)⟩ | exact ⟨by (first | decide | omega), by (first | decide | omega)⟩ | exact ⟨by decide, by decide, by decide⟩ | exact L2.ClsV.ty _ | exact Dt.ty (by assumption) | exact Dt.kint (by assumption) | exact Dt.kbool (by assumption) | exact Dt.ktuple (by assumption) | exact Dt.klist (by assumption) | exact Dt.kstr (by assumption))) | (apply Exists.intro; apply Exists.intro; apply Exists.intro; apply Exists.intro; apply Exists.intro; apply Exists.intro; apply And.intro; focus (first | rfl | assumption | exact upd_same | exact SqL.of (by (first | assumption | exact upd_same | (rw [upd_ne (by first | assumption | exact Ne.symm (by assumption))]; first | assumption | exact upd_same | (rw [upd_ne (by first | assumption | exact Ne.symm (by assumption))]; first | assumption | exact upd_same)))) | exact SqT.of (by (first | assumption | exact upd_same | (rw [upd_ne (by first | assumption | exact Ne.symm (by assumption))]; first | assumption | exact upd_same | (rw [upd_ne (by first | assumption | exact Ne.symm (by assumption))]; first | assumption | exact upd_same)))) | exact Or.inl (SqL.of (by (first | assumption | exact upd_same | (rw [upd_ne (by first | assumption | exact Ne.symm (by assumption))]; first | assumption | exact upd_same | (rw [upd_ne (by first | assumption | exact Ne.symm (by assumption))]; first | assumption | exact upd_same))))) | exact Or.inr (SqT.of (by (first | assumption | exact upd_same | (rw [upd_ne (by first | assumption | exact Ne.symm (by assumption))]; first | assumption | exact upd_same | (rw [upd_ne (by first | assumption | exact Ne.symm (by assumption))]; first | assumption | exact upd_same))))) | exact Or.inl ⟨rfl, _, SqL.of (by (first | assumption | exact upd_same | (rw [upd_ne (by first | assumption | exact Ne.symm (by assumption))]; first | assumption | exact upd_same | (rw [upd_ne (by first | assumption | exact Ne.symm (by assumption))]; first | assumption | exact upd_same))))⟩ | (first | assumption | exact upd_same | (rw [upd_ne (by first | assumption | exact Ne.symm (by assumption))]; first | assumption | exact upd_same | (rw [upd_ne (by first | assumption | exact Ne.symm (by assumption))]; first | assumption | exact upd_same))) | decide | exact Nat.le_of_ble_eq_true rfl | omega | (show ∃ xs, SqL _ _ _ xs; exact ⟨_, SqL.of (by (first | assumption | exact upd_same | (rw [upd_ne (by first | assumption | exact Ne.symm (by assumption))]; first | assumption | exact upd_same | (rw [upd_ne (by first | assumption | exact Ne.symm (by assumption))]; first | assumption | exact upd_same))))⟩) | (show ∃ xs, SqT _ _ _ xs; exact ⟨_, SqT.of (by (first | assumption | exact upd_same | (rw [upd_ne (by first | assumption | exact Ne.symm (by assumption))]; first | assumption | exact upd_same | (rw [upd_ne (by first | assumption | exact Ne.symm (by assumption))]; first | assumption | exact upd_same))))⟩) | exact DGet.k (k := Sum.inl _) (by (first | assumption | exact upd_same | (rw [upd_ne (by first | assumption | exact Ne.symm (by assumption))]; first | assumption | exact upd_same | (rw [upd_ne (by first | assumption | exact Ne.symm (by assumption))]; first | assumption | exact upd_same)))) | (show V.int _ = kV (Sum.inl _); rfl) | (show ∃ z, V.str _ = V.str z; exact ⟨_, rfl⟩) | exact Or.inl ⟨by (first | decide | omega), by (first | decide | omega)⟩ | exact Or.inr ⟨by (first | decide | omega), by (first | decide | omega)⟩ | exact ⟨by (first | decide | omega), by (first | decide | omega)⟩ | exact ⟨by decide, by decide, by decide⟩ | exact L2.ClsV.ty _ | exact Dt.ty (by assumption) | exact Dt.kint (by assumption) | exact Dt.kbool (by assumption) | exact Dt.ktuple (by assumption) | exact Dt.klist (by assumption) | exact Dt.kstr (by assumption))) | (apply Exists.intro; apply Exists.intro; apply Exists.intro; apply Exists.intro; apply Exists.intro; apply Exists.intro; apply Exists.intro; apply And.intro; focus (first | rfl | assumption | exact upd_same | exact SqL.of (by (first | assumption | exact upd_same | (rw [upd_ne (by first | assumption | exact Ne.symm (by assumption))]; first | assumption | exact upd_same | (rw [upd_ne (by first | assumption | exact Ne.symm (by assumption))]; first | assumption | exact upd_same)))) | exact SqT.of (by (first | assumption | exact upd_same | (rw [upd_ne (by first | assumption | exact Ne.symm (by assumption))]; first | assumption | exact upd_same | (rw [upd_ne (by first | assumption | exact Ne.symm (by assumption))]; first | assumption | exact upd_same)))) | exact Or.inl (SqL.of (by (first | assumption | exact upd_same | (rw [upd_ne (by first | assumption | exact Ne.symm (by assumption))]; first | assumption | exact upd_same | (rw [upd_ne (by first | assumption | exact Ne.symm (by assumption))]; first | assumption | exact upd_same))))) | exact Or.inr (SqT.of (by (first | assumption | exact upd_same | (rw [upd_ne (by first | assumption | exact Ne.symm (by assumption))]; first | assumption | exact upd_same | (rw [upd_ne (by first | assumption | exact Ne.symm (by assumption))]; first | assumption | exact upd_same))))) | exact Or.inl ⟨rfl, _, SqL.of (by (first | assumption | exact upd_same | (rw [upd_ne (by first | assumption | exact Ne.symm (by assumption))]; first | assumption | exact upd_same | (rw [upd_ne (by first | assumption | exact Ne.symm (by assumption))]; first | assumption | exact upd_same))))⟩ | (first | assumption | exact upd_same | (rw [upd_ne (by first | assumption | exact Ne.symm (by assumption))]; first | assumption | exact upd_same | (rw [upd_ne (by first | assumption | exact Ne.symm (by assumption))]; first | assumption | exact upd_same))) | decide | exact Nat.le_of_ble_eq_true rfl | omega | (show ∃ xs, SqL _ _ _ xs; exact ⟨_, SqL.of (by (first | assumption | exact upd_same | (rw [upd_ne (by first | assumption | exact Ne.symm (by assumption))]; first | assumption | exact upd_same | (rw [upd_ne (by first | assumption | exact Ne.symm (by assumption))]; first | assumption | exact upd_same))))⟩) | (show ∃ xs, SqT _ _ _ xs; exact ⟨_, SqT.of (by (first | assumption | exact upd_same | (rw [upd_ne (by first | assumption | exact Ne.symm (by assumption))]; first | assumption | exact upd_same | (rw [upd_ne (by first | assumption | exact Ne.symm (by assumption))]; first | assumption | exact upd_same))))⟩) | exact DGet.k (k := Sum.inl _) (by (first | assumption | exact upd_same | (rw [upd_ne (by first | assumption | exact Ne.symm (by assumption))]; first | assumption | exact upd_same | (rw [upd_ne (by first | assumption | exact Ne.symm (by assumption))]; first | assumption | exact upd_same)))) | (show V.int _ = kV (Sum.inl _); rfl) | (show ∃ z, V.str _ = V.str z; exact ⟨_, rfl⟩) | exact Or.inl ⟨by (first | decide | omega), by (first | decide | omega)⟩ | exact Or.inr ⟨by (first | decide | omega), by (first | decide | omega)⟩ | exact ⟨by (first | decide | omega), by (first | decide | omega)⟩ | exact ⟨by decide, by decide, by decide⟩ | exact L2.ClsV.ty _ | exact Dt.ty (by assumption) | exact Dt.kint (by assumption) | exact Dt.kbool (by assumption) | exact Dt.ktuple (by assumption) | exact Dt.klist (by assumption) | exact Dt.kstr (by assumption))) | (apply Exists.intro; apply Exists.intro; apply Exists.intro; apply Exists.intro; apply Exists.intro; apply Exists.intro; apply Exists.intro; apply Exists.intro; apply And.intro; focus (first | rfl | assumption | exact upd_same | exact SqL.of (by (first | assumption | exact upd_same | (rw [upd_ne (by first | assumption | exact Ne.symm (by assumption))]; first | assumption | exact upd_same | (rw [upd_ne (by first | assumption | exact Ne.symm (by assumption))]; first | assumption | exact upd_same)))) | exact SqT.of (by (first | assumption | exact upd_same | (rw [upd_ne (by first | assumption | exact Ne.symm (by assumption))]; first | assumption | exact upd_same | (rw [upd_ne (by first | assumption | exact Ne.symm (by assumption))]; first | assumption | exact upd_same)))) | exact Or.inl (SqL.of (by (first | assumption | exact upd_same | (rw [upd_ne (by first | assumption | exact Ne.symm (by assumption))]; first | assumption | exact upd_same | (rw [upd_ne (by first | assumption | exact Ne.symm (by assumption))]; first | assumption | exact upd_same))))) | exact Or.inr (SqT.of (by (first | assumption | exact upd_same | (rw [upd_ne (by first | assumption | exact Ne.symm (by assumption))]; first | assumption | exact upd_same | (rw [upd_ne (by first | assumption | exact Ne.symm (by assumption))]; first | assumption | exact upd_same))))) | exact Or.inl ⟨rfl, _, SqL.of (by (first | assumption | exact upd_same | (rw [upd_ne (by first | assumption | exact Ne.symm (by assumption))]; first | assumption | exact upd_same | (rw [upd_ne (by first | assumption | exact Ne.symm (by assumption))]; first | assumption | exact upd_same))))⟩ | (first | assumption | exact upd_same | (rw [upd_ne (by first | assumption | exact Ne.symm (by assumption))]; first | assumption | exact upd_same | (rw [upd_ne (by first | assumption | exact Ne.symm (by assumption))]; first | assumption | exact upd_same))) | decide | exact Nat.le_of_ble_eq_true rfl | omega | (show ∃ xs, SqL _ _ _ xs; exact ⟨_, SqL.of (by (first | assumption | exact upd_same | (rw [upd_ne (by first | assumption | exact Ne.symm (by assumption))]; first | assumption | exact upd_same | (rw [upd_ne (by first | assumption | exact Ne.symm (by assumption))]; first | assumption | exact upd_same))))⟩) | (show ∃ xs, SqT _ _ _ xs; exact ⟨_, SqT.of (by (first | assumption | exact upd_same | (rw [upd_ne (by first | assumption | exact Ne.symm (by assumption))]; first | assumption | exact upd_same | (rw [upd_ne (by first | assumption | exact Ne.symm (by assumption))]; first | assumption | exact upd_same))))⟩) | exact DGet.k (k := Sum.inl _) (by (first | assumption | exact upd_same | (rw [upd_ne (by first | assumption | exact Ne.symm (by assumption))]; first | assumption | exact upd_same | (rw [upd_ne (by first | assumption | exact Ne.symm (by assumption))]; first | assumption | exact upd_same)))) | (show V.int _ = kV (Sum.inl _); rfl) | (show ∃ z, V.str _ = V.str z; exact ⟨_, rfl⟩) | exact Or.inl ⟨by (first | decide | omega), by (first | decide | omega)⟩ | exact Or.inr ⟨by (first | decide | omega), by (first | decide | omega)⟩ | exact ⟨by (first | decide | omega), by (first | decide | omega)⟩ | exact ⟨by decide, by decide, by decide⟩ | exact L2.ClsV.ty _ | exact Dt.ty (by assumption) | exact Dt.kint (by assumption) | exact Dt.kbool (by assumption) | exact Dt.ktuple (by assumption) | exact Dt.klist (by assumption) | exact Dt.kstr (by assumption))) | (apply Exists.intro; apply Exists.intro; apply Exists.intro; apply Exists.intro; apply Exists.intro; apply Exists.intro; apply Exists.intro; apply Exists.intro; apply Exists.intro; apply And.intro; focus (first | rfl | assumption | exact upd_same | exact SqL.of (by (first | assumption | exact upd_same | (rw [upd_ne (by first | assumption | exact Ne.symm (by assumption))]; first | assumption | exact upd_same | (rw [upd_ne (by first | assumption | exact Ne.symm (by assumption))]; first | assumption | exact upd_same)))) | exact SqT.of (by (first | assumption | exact upd_same | (rw [upd_ne (by first | assumption | exact Ne.symm (by assumption))]; first | assumption | exact upd_same | (rw [upd_ne (by first | assumption | exact Ne.symm (by assumption))]; first | assumption | exact upd_same)))) | exact Or.inl (SqL.of (by (first | assumption | exact upd_same | (rw [upd_ne (by first | assumption | exact Ne.symm (by assumption))]; first | assumption | exact upd_same | (rw [upd_ne (by first | assumption | exact Ne.symm (by assumption))]; first | assumption | exact upd_same))))) | exact Or.inr (SqT.of (by (first | assumption | exact upd_same | (rw [upd_ne (by first | assumption | exact Ne.symm (by assumption))]; first | assumption | exact upd_same | (rw [upd_ne (by first | assumption | exact Ne.symm (by assumption))]; first | assumption | exact upd_same))))) | exact Or.inl ⟨rfl, _, SqL.of (by (first | assumption | exact upd_same | (rw [upd_ne (by first | assumption | exact Ne.symm (by assumption))]; first | assumption | exact upd_same | (rw [upd_ne (by first | assumption | exact Ne.symm (by assumption))]; first | assumption | exact upd_same))))⟩ | (first | assumption | exact upd_same | (rw [upd_ne (by first | assumption | exact Ne.symm (by assumption))]; first | assumption | exact upd_same | (rw [upd_ne (by first | assumption | exact Ne.symm (by assumption))]; first | assumption | exact upd_same))) | decide | exact Nat.le_of_ble_eq_true rfl | omega | (show ∃ xs, SqL _ _ _ xs; exact ⟨_, SqL.of (by (first | assumption | exact upd_same | (rw [upd_ne (by first | assumption | exact Ne.symm (by assumption))]; first | assumption | exact upd_same | (rw [upd_ne (by first | assumption | exact Ne.symm (by assumption))]; first | assumption | exact upd_same))))⟩) | (show ∃ xs, SqT _ _ _ xs; exact ⟨_, SqT.of (by (first | assumption | exact upd_same | (rw [upd_ne (by first | assumption | exact Ne.symm (by assumption))]; first | assumption | exact upd_same | (rw [upd_ne (by first | assumption | exact Ne.symm (by assumption))]; first | assumption | exact upd_same))))⟩) | exact DGet.k (k := Sum.inl _) (by (first | assumption | exact upd_same | (rw [upd_ne (by first | assumption | exact Ne.symm (by assumption))]; first | assumption | exact upd_same | (rw [upd_ne (by first | assumption | exact Ne.symm (by assumption))]; first | assumption | exact upd_same)))) | (show V.int _ = kV (Sum.inl _); rfl) | (show ∃ z, V.str _ = V.str z; exact ⟨_, rfl⟩) | exact Or.inl ⟨by (first | decide | omega), by (first | decide | omega)⟩ | exact Or.inr ⟨by (first | decide | omega), by (first | decide | omega)⟩ | exact ⟨by (first | decide | omega), by (first | decide | omega)⟩ | exact ⟨by decide, by decide, by decide⟩ | exact L2.ClsV.ty _ | exact Dt.ty (by assumption) | exact Dt.kint (by assumption) | exact Dt.kbool (by assumption) | exact Dt.ktuple (by assumption) | exact Dt.klist (by assumption) | exact Dt.kstr (by assumption))) | refine Or.inl ⟨_, rfl, ?_⟩ | refine Or.inr ⟨_, rfl, ?_⟩ | refine Or.inr ⟨SqT.of (by (first | assumption | exact upd_same | (rw [upd_ne (by first | assumption | exact Ne.symm (by assumption))]; first | assumption | exact upd_same | (rw [upd_ne (by first | assumption | exact Ne.symm (by assumption))]; first | assumption | exact upd_same)))), SqT.of (by (first | assumption | exact upd_same | (rw [upd_ne (by first | assumption | exact Ne.symm (by assumption))]; first | assumption | exact upd_same | (rw [upd_ne (by first | assumption | exact Ne.symm (by assumption))]; first | assumption | exact upd_same)))), ?_⟩ | refine Or.inl ⟨SqL.of (by (first | assumption | exact upd_same | (rw [upd_ne (by first | assumption | exact Ne.symm (by assumption))]; first | assumption | exact upd_same | (rw [upd_ne (by first | assumption | exact Ne.symm (by assumption))]; first | assumption | exact upd_same)))), SqL.of (by (first | assumption | exact upd_same | (rw [upd_ne (by first | assumption | exact Ne.symm (by assumption))]; first | assumption | exact upd_same | (rw [upd_ne (by first | assumption | exact Ne.symm (by assumption))]; first | assumption | exact upd_same)))), ?_⟩ | refine Or.inl ⟨SqL.of (by (first | assumption | exact upd_same | (rw [upd_ne (by first | assumption | exact Ne.symm (by assumption))]; first | assumption | exact upd_same | (rw [upd_ne (by first | assumption | exact Ne.symm (by assumption))]; first | assumption | exact upd_same)))), ?_⟩ | refine Or.inr ⟨SqT.of (by (first | assumption | exact upd_same | (rw [upd_ne (by first | assumption | exact Ne.symm (by assumption))]; first | assumption | exact upd_same | (rw [upd_ne (by first | assumption | exact Ne.symm (by assumption))]; first | assumption | exact upd_same)))), ?_⟩ | refine ifT rfl ?_ | refine ifF rfl ?_))
def rAbs : List V → Hp → VK → Prop := fun xs H Q => ∃ i, xs = [.int i] ∧ Q (.int (if i < 0 then -i else i)) H
/-- the pool: two ints at h, and a list of great ones at l -/
def PoolOk (H : Hp) (h l : Addr) : Prop := ∃ (xs : List Int) (s c : Int), H h = some (.lst [.int s, .int c, .ref l]) ∧ H l = some (.lst (xs.map V.int)) ∧ (∀ x ∈ xs, 0 ≤ x) ∧ 0 ≤ s ∧ s < 2147483647 ∧ xs.length ≤ 1000 ∧ l ≠ h
abbrev Np (h l : Addr) : Addr → Prop := fun a => a = h ∨ a = l
theorem PoolOk.same {H H' : Hp} {h l : Addr} (k : PoolOk H h l) (e : Same H H') : PoolOk H' h l := by
  obtain ⟨xs, s, c, h1, h2, r⟩ := k
  exact ⟨xs, s, c, e _ _ h1, e _ _ h2, r⟩
theorem PoolOk.new {H : Hp} {h l p : Addr} {o : HO} (k : PoolOk H h l) (n : H p = none) : PoolOk (upd H p o) h l := k.same (same_new0 n)
theorem PoolOk.np {H : Hp} {h l p : Addr} (k : PoolOk H h l) (n : H p = none) : ¬ Np h l p := by
  obtain ⟨xs, s, c, h1, h2, _⟩ := k
  rintro (z | z)
  · exact ne_of_none h1 n z.symm
  · exact ne_of_none h2 n z.symm
theorem Kp.pool {H H' : Hp} {h l : Addr} (k : ∀ a, a ≠ h → a ≠ l → H' a = H a) : Kp (Np h l) H H' := fun a o e n => by
  rw [k a (fun z => n (.inl z)) (fun z => n (.inr z))]
  exact e
theorem flt {α : Type} {f : α → Bool} {x : α} (h : f x = true) : [x].filter f = [x] := by simp [h]
theorem flt0 {α : Type} {f : α → Bool} {x : α} (h : f x = false) : [x].filter f = [] := by simp [h]
def spPool (K : PySem.W.Frag) : Sp := fun vs H Q _ => ∃ (a : Addr) (ns : List Int), vs = [.ref a] ∧ SqL K H a (ns.map V.int) ∧ ns.length ≤ 1000 ∧ ∀ (h l : Addr) (H' : Hp), H h = none → H l = none → Same H H' → PoolOk H' h l → Q (.ref h) H'
def spDraw : Sp := fun vs H Q _ => ∃ (h l : Addr) (m : Int), vs = [.ref h, .int m] ∧ PoolOk H h l ∧ 0 < m ∧ m < 1073741824 ∧
  ∀ (r : Int) (H' : Hp), 0 ≤ r → r < m → PoolOk H' h l → (∀ a, a ≠ h → a ≠ l → H' a = H a) → Q (.int r) H'
section
variable {P : Program} {w : World} {K : PySem.W.Frag} {mg : Str → Option Value} {base : Heap}
theorem d_pool_draw (B : Bi mg) (F : FunAt K mg "_law_draw" s_law_draw) : Has P w K mg base 1 "_law_draw" ["pool", "many"] spDraw := by
  refine mk_has F sc_law_draw (fun _ _ _ _ _ _ us hl => match us, hl with | [_, _], _ => rfl) (fun vs H Q E h => ?_) fun f cdv A outer s H vs Q E hr h => ?_
  · obtain ⟨a, l, m, rfl, _⟩ := h
    rfl
  obtain ⟨h, l, m, rfl, ⟨xs, sd, c, e1, e2, hx0, hs0, hs1, hxl, nlh⟩, hm0, hm1, k⟩ := h
  refine ⟨_, (pss_cons (ps_asg (pe_op op_add (pe_ix ix_list (pv 0) pe_int (fun _ _ => rfl)) pe_int) (pg_sub (pv 0) pe_int set_list))
    (pss_cons (ps_set (i := 2) sc_law_draw.nd rfl (Or.inl rfl) (pe_ix ix_list (pv 0) pe_int (fun _ _ => rfl)))
    (pss_cons (ps_if (pt_cmpR op_gt (pe_callB call_len_seq rfl B.len PySem.boot_len (pa_cons (pv 2) pa_nil)) pe_int (nomark _))
    (pss_cons (ps_set (i := 3) sc_law_draw.nd rfl (Or.inl rfl) (pe_op op_modN (pe_callTy call_int1 rfl B.int (by decide +kernel) (pa_cons (pe_ix ix_list (pv 2) pe_int (fun _ _ => rfl)) pa_nil)) (pv 1)))
    (pss_cons (ps_asg (pe_op op_fdivN (pe_callTy call_int1 rfl B.int (by decide +kernel) (pa_cons (pe_ix ix_list (pv 2) pe_int (fun _ _ => rfl)) pa_nil)) (pv 1)) (pg_sub (pv 2) pe_int set_list))
    (C8.pss_cut (ps_if (pt_cmpR op_eq (pe_ix ix_list (pv 2) pe_int (fun _ _ => rfl)) pe_int (nomark _))
    (pss_one (ps_expr (pe_bm PySem.F.plainAttrs_list PySem.F.slot_list_pop PySem.F.type_list_pop mt_popAt (pv 2) (pa_cons pe_int pa_nil))))
    pss_nil)
    (pss_one (ps_ret (pv 3))))))
    pss_nil)
    (pss_cons (ps_set (i := 4) sc_law_draw.nd rfl (Or.inl rfl) (pe_op op_mod (pe_callTy call_int1 rfl B.int (by decide +kernel) (pa_cons (pe_op op_mul (pe_op op_add (pe_ix ix_list (pv 0) pe_int (fun _ _ => rfl)) (pe_op op_mul pe_int (pe_ix ix_list (pv 0) pe_int (fun _ _ => rfl)))) pe_int) pa_nil)) pe_int))
    (pss_cons (ps_set (i := 4) sc_law_draw.nd rfl (Or.inl rfl) (pe_op op_mod (pe_callTy call_int1 rfl B.int (by decide +kernel) (pa_cons (pe_op op_mul (pv 4) (pe_op op_add (pe_op op_fdiv (pv 4) pe_int) pe_int)) pa_nil)) pe_int))
    (pss_cons (ps_set (i := 4) sc_law_draw.nd rfl (Or.inl rfl) (pe_op op_mod (pe_callTy call_int1 rfl B.int (by decide +kernel) (pa_cons (pe_op op_mul (pv 4) (pe_op op_add (pe_op op_fdiv (pv 4) pe_int) pe_int)) pa_nil)) pe_int))
    (pss_one (ps_ret (pe_op op_modN (pe_callTy call_int1 rfl B.int (by decide +kernel) (pa_cons (pe_op op_fdiv (pv 4) pe_int) pa_nil)) (pv 1)))))))))), ?_⟩
  trivial
  have el : upd H h (.lst [.int sd, .int (c + 1), .ref l]) l = some (.lst (xs.map V.int)) := by rw [upd_ne nlh]; exact e2
  refine ite2 (fun c1 => ?_) (fun c1 => ?_)
  · have c1' := of_decide_eq_true c1
    rw [List.length_map] at c1'
    match xs, hx0, hxl, e2, el, c1' with
    | x :: xs, hx0, hxl, e2, el, _ =>
      have hx := hx0 x (List.mem_cons_self ..)
      have a0 : atI (V.int x :: xs.map V.int) 0 = some (.int x) := atI_nat (show (V.int x :: xs.map V.int)[0]? = some (.int x) from rfl)
      have i0 : ixN (List.map V.int (x :: xs)).length 0 = some 0 := by
        unfold ixN
        simp
      have fd := fdiv_nn hm0 hx
      trivial
      have nlh' := nlh.symm
      refine ⟨fun σ H' => ∃ ys : List Int, σ = [some (.ref h), some (.int m), some (.ref l), some (.int (x.fmod m)), none] ∧ H' h = some (.lst [.int sd, .int (c + 1), .ref l]) ∧ H' l = some (.lst (ys.map V.int)) ∧ (∀ y ∈ ys, 0 ≤ y) ∧ ys.length ≤ 1000 ∧ ∀ a, a ≠ h → a ≠ l → H' a = H a, ?_, ?_⟩
      · have a1 : atI ((List.map V.int (x :: xs)).set 0 (V.int (x.fdiv m))) 0 = some (.int (x.fdiv m)) := atI_nat (show ((List.map V.int (x :: xs)).set 0 (V.int (x.fdiv m)))[0]? = some (.int (x.fdiv m)) from rfl)
        trivial
        refine ite2 (fun c2 => ?_) (fun c2 => ?_)
        · have sq : seqIndex? 0 ((List.map V.int (x :: xs)).set 0 (V.int (x.fdiv m))).length = some 0 := seqIndex_of (by decide) (by simp)
          have g0 : ((List.map V.int (x :: xs)).set 0 (V.int (x.fdiv m)))[0]? = some (.int (x.fdiv m)) := rfl
          refine ⟨_, rfl, .inl ⟨rfl, _, SqL.of upd_same⟩, l, _, 0, 0, _, rfl, rfl, upd_same, by decide, by decide, sq, g0, ?_⟩
          trivial
          exact ⟨fun y hy => hx0 y (List.mem_cons_of_mem _ hy), by simp at hxl; omega, fun a h1 h2 => by rw [upd_ne h2, upd_ne h2, upd_ne h1]⟩
        · refine ⟨x.fdiv m :: xs, rfl, by rw [upd_ne nlh']; exact upd_same, upd_same, fun y hy => ?_, hxl, fun a h1 h2 => by rw [upd_ne h2, upd_ne h1]⟩
          rcases List.mem_cons.mp hy with rfl | hy
          · exact fd
          · exact hx0 y (List.mem_cons_of_mem _ hy)
      · rintro σ H1 ⟨ys, rfl, f1, f2, f3, f4, f5⟩
        trivial
        exact k _ _ (fmod_lt' hm0).1 (fmod_lt' hm0).2 ⟨ys, sd, c + 1, f1, f2, f3, hs0, hs1, f4, nlh⟩ f5
  · trivial
    exact k _ _ (fmod_lt' hm0).1 (fmod_lt' hm0).2 ⟨xs, sd, c + 1, upd_same, el, hx0, hs0, hs1, hxl, nlh⟩ fun a h1 _ => upd_ne h1
theorem d_law_pool (B : Bi mg) (F : FunAt K mg "_law_pool" s_law_pool) : Has P w K mg base 1 "_law_pool" ["script"] (spPool K) := by
  refine mk_has F sc_law_pool (fun _ _ _ _ _ _ us hl => match us, hl with | [_], _ => rfl) (fun vs H Q E h => ?_) fun f cdv A outer s H vs Q E hr h => ?_
  · obtain ⟨a, ns, rfl, _⟩ := h
    rfl
  obtain ⟨a, ns, rfl, hS, hl, k⟩ := h
  refine ⟨_, (pss_cons (ps_set (i := 1) sc_law_pool.nd rfl (Or.inl rfl) (pe_op op_add (pe_op op_add (pe_op op_mod (pe_callTy call_int1 rfl B.int (by decide +kernel) (pa_cons (pe_callB (cr_sum rfl) rfl B.sum (by decide +kernel) (pa_cons (pe_slice sl_list (pv 0) po_none (po_some pe_int)) pa_nil)) pa_nil)) pe_int) (pe_callB call_len_seq rfl B.len PySem.boot_len (pa_cons (pv 0) pa_nil))) pe_int))
    (pss_cons (ps_for PassesOwn.never rfl (pi_list (pe_slice sl_list (pv 0) po_none (po_some pe_int))) (pg_name (i := 2) sc_law_pool.nd rfl (Or.inl rfl))
    (pss_one (ps_set (i := 1) sc_law_pool.nd rfl (Or.inl rfl) (pe_op op_mod (pe_callTy call_int1 rfl B.int (by decide +kernel) (pa_cons (pe_op op_add (pe_op op_add (pe_op op_mul (pv 1) pe_int) (pe_op op_mod (pe_callTy call_int1 rfl B.int (by decide +kernel) (pa_cons (pv 2) pa_nil)) pe_int)) pe_int) pa_nil)) pe_int))))
    (pss_one (ps_ret (pe_lst (pa_cons (pv 1) (pa_cons pe_int (pa_cons (pe_lc (own := [("cell", 2)]) (g := gName 2) (tt := (tTest (tOp (rI0 fun i j => .bl (decide (j ≤ i))) (tCB rAbs (tCons (tVar 2) tNil)) (tOp (rI CPow fun i j => .int (i ^ j.toNat)) (tC (.int 10)) (tC (.int 18)))))) (te := (tCB rAbs (tCons (tVar 2) tNil))) rfl sc_law_pool.nd (pi_list (pe_slice sl_list (pv 0) po_none (po_some pe_int))) (blkOk_by (own := [("cell", 2)]) (N := ["script", "seed", "cell"]) (sc := defScope s_law_pool) (by decide +kernel)) (fun _ _ _ _ _ => (pg_name (i := 2) sc_law_pool.nd rfl (Or.inl rfl))) (fun _ _ _ _ _ => (pts_one (pt_cmpR op_ge (pe_callB call_abs rfl B.abs (by decide +kernel) (pa_cons (pv 2) pa_nil)) (pe_op op_pow pe_int pe_int) (nomark _)))) (fun _ _ _ _ _ => (pe_callB call_abs rfl B.abs (by decide +kernel) (pa_cons (pv 2) pa_nil)))) pa_nil)))))))), ?_⟩
  trivial
  intro p np
  have ec : cutV (ns.map V.int) none (some 1) = (ns.take 1).map V.int := (cut_take 1).trans (List.map_take ..).symm
  have ec2 : cutV (ns.map V.int) none (some 63) = (ns.take 63).map V.int := (cut_take 63).trans (List.map_take ..).symm
  rw [ec]
  have sp := same_new0 (o := .lst ((ns.take 1).map V.int)) np
  have hS1 := sp.seq hS
  have hSo : SqL K (upd H p (.lst ((ns.take 1).map V.int))) a (ns.map V.int) ∨ SqT K (upd H p (.lst ((ns.take 1).map V.int))) a (ns.map V.int) := .inl hS1
  trivial
  intro p2 np2
  rw [ec2]
  have sp2 := same_new0 (o := .lst ((ns.take 63).map V.int)) np2
  have hS2 := sp2.seq hS1
  trivial
  have l0 : ((ns.take 1).sum % 1000003 : Int) < 1000003 := Int.emod_lt_of_pos _ (by decide)
  have l1 : (0 : Int) ≤ (ns.take 1).sum % 1000003 := Int.emod_nonneg _ (by decide)
  refine for_it (walk_list (xs := (ns.take 63).map V.int)) (fun i σ H' => ∃ (sd : Int) (v : Option V), σ = [some (.ref a), some (.int sd), v] ∧ Same H H' ∧ H' p2 = some (.lst ((ns.take 63).map V.int)) ∧ 0 ≤ sd ∧ sd < 2147483647) ?_ (fun i σ H' _ q => ?_) (fun i x σ H1 H2 hi q y => ?_) fun σ H1 q => ?_
  · exact ⟨_, none, rfl, sp.trans sp2, upd_same, by simp; omega, by simp; omega⟩
  · obtain ⟨sd, v, rfl, s1, e1, h0, h1⟩ := q
    exact SqL.of e1
  · obtain ⟨sd, v, rfl, s1, e1, h0, h1⟩ := q
    obtain ⟨rfl, hx⟩ := y
    obtain ⟨q, _, rfl⟩ := List.mem_map.mp (List.mem_of_getElem? hx)
    trivial
    exact Int.emod_lt_of_pos _ (by decide)
  · obtain ⟨sd, v, rfl, s1, e1, h0, h1⟩ := q
    have hS3 := s1.seq hS
    trivial
    intro p3 np3
    rw [ec2]
    have sp3 := same_new0 (o := .lst ((ns.take 63).map V.int)) np3
    trivial
    intro D nD
    refine lc_acc (walk_list (xs := (ns.take 63).map V.int)) (fun i => (((ns.take i).filter fun x => decide ((10 : Int) ^ 18 ≤ (if x < 0 then -x else x))).map fun x => if x < 0 then -x else x).map V.int) (fun _ _ => True) (fun _ => False) (fun z => z) nD (fun i hi => ?_) (by simp) True.intro (fun _ _ _ _ _ => True.intro) (fun i H' _ k _ => SqL.of (k _ _ upd_same (fun z => z))) (fun i x H3 H4 Pn hi k6 e6 _ y fin no => ?_) fun H3 k6 e6 _ => ?_
    · rw [sizeLine_eq, List.length_map, List.length_map]
      have := List.length_filter_le (fun x => decide ((10 : Int) ^ 18 ≤ (if x < 0 then -x else x))) (ns.take i)
      rw [List.length_take] at this
      omega
    · obtain ⟨rfl, hx⟩ := y
      rw [List.getElem?_map] at hx
      obtain ⟨q, hq, rfl⟩ := Option.map_eq_some_iff.mp hx
      have hq' : ns[i]? = some q := by
        rw [List.getElem?_take] at hq
        split at hq
        · exact hq
        · cases hq
      have tk : ns.take (i + 1) = ns.take i ++ [q] := by rw [List.take_add_one, hq']; rfl
      trivial
      cases e9 : decide ((10 : Int) ^ 18 ≤ (if q < 0 then -q else q)) with
      | true =>
        have e10 : decide ((10 : Int) ^ (18 : Int).toNat ≤ (if q < 0 then -q else q)) = true := e9
        rw [e10]
        trivial
        exact fin _ _ (by rw [tk, List.filter_append, flt (f := fun x => decide ((10 : Int) ^ 18 ≤ (if x < 0 then -x else x))) (x := q) e9, List.map_append, List.map_append]; rfl) Kp.refl (by exact True.intro)
      | false =>
        have e10 : decide ((10 : Int) ^ (18 : Int).toNat ≤ (if q < 0 then -q else q)) = false := e9
        rw [e10]
        trivial
        exact no _ (by rw [tk, List.filter_append, flt0 (f := fun x => decide ((10 : Int) ^ 18 ≤ (if x < 0 then -x else x))) (x := q) e9, List.append_nil]) Kp.refl (by exact True.intro)
    · trivial
      intro p4 np4
      have s3 : Same H1 H3 := sp3.trans (same_kpF k6)
      have s0 := s1.trans s3
      have nDp : D ≠ p4 := ne_of_none e6 np4
      refine k p4 D _ (s0.free np4) ((s1.trans sp3).free nD) (snew s0 np4) ⟨_, _, _, upd_same, by rw [upd_ne nDp]; exact e6, fun x hx => ?_, h0, h1, ?_, nDp⟩
      · obtain ⟨y, _, rfl⟩ := List.mem_map.mp hx
        split <;> omega
      · rw [List.length_map]
        refine Nat.le_trans (List.length_filter_le _ _) ?_
        simp
        omega
end
end KQ
set_option Elab.async false
set_option maxRecDepth 100000
set_option maxHeartbeats 4000000
namespace KQ
open PySem PySem.Spec PyProof.Rows L2
local macro_rules | `(tactic| trivial) => `(tactic| repeat (first | (apply And.intro; focus (first | rfl | assumption | exact upd_same | exact SqL.of (by (first | assumption | exact upd_same | (rw [upd_ne (by first | assumption | exact Ne.symm (by assumption))]; first | assumption | exact upd_same | (rw [upd_ne (by first | assumption | exact Ne.symm (by assumption))]; first | assumption | exact upd_same)))) | exact SqT.of (by (first | assumption | exact upd_same | (rw [upd_ne (by first | assumption | exact Ne.symm (by assumption))]; first | assumption | exact upd_same | (rw [upd_ne (by first | assumption | exact Ne.symm (by assumption))]; first | assumption | exact upd_same)))) | exact Or.inl (SqL.of (by (first | assumption | exact upd_same | (rw [upd_ne (by first | assumption | exact Ne.symm (by assumption))]; first | assumption | exact upd_same | (rw [upd_ne (by first | assumption | exact Ne.symm (by assumption))]; first | assumption | exact upd_same))))) | exact Or.inr (SqT.of (by (first | assumption | exact upd_same | (rw [upd_ne (by first | assumption | exact Ne.symm (by assumption))]; first | assumption | exact upd_same | (rw [upd_ne (by first | assumption | exact Ne.symm (by assumption))]; first | assumption | exact upd_same))))) | exact Or.inl ⟨rfl, _, SqL.of (by (first | assumption | exact upd_same | (rw [upd_ne (by first | assumption | exact Ne.symm (by assumption))]; first | assumption | exact upd_same | (rw [upd_ne (by first | assumption | exact Ne.symm (by assumption))]; first | assumption | exact upd_same))))⟩ | (first | assumption | exact upd_same | (rw [upd_ne (by first | assumption | exact Ne.symm (by assumption))]; first | assumption | exact upd_same | (rw [upd_ne (by first | assumption | exact Ne.symm (by assumption))]; first | assumption | exact upd_same))) | decide | exact Nat.le_of_ble_eq_true rfl | omega | (show ∃ xs, SqL _ _ _ xs; exact ⟨_, SqL.of (by (first | assumption | exact upd_same | (rw [upd_ne (by first | assumption | exact Ne.symm (by assumption))]; first | assumption | exact upd_same | (rw [upd_ne (by first | assumption | exact Ne.symm (by assumption))]; first | assumption | exact upd_same))))⟩) | (show ∃ xs, SqT _ _ _ xs; exact ⟨_, SqT.of (by (first | assumption | exact upd_same | (rw [upd_ne (by first | assumption | exact Ne.symm (by assumption))]; first | assumption | exact upd_same | (rw [upd_ne (by first | assumption | exact Ne.symm (by assumption))]; first | assumption | exact upd_same))))⟩) | exact DGet.k (k := Sum.inl _) (by (first | assumption | exact upd_same | (rw [upd_ne (by first | assumption | exact Ne.symm (by assumption))]; first | assumption | exact upd_same | (rw [upd_ne (by first | assumption | exact Ne.symm (by assumption))]; first | assumption | exact upd_same)))) | (show V.int _ = kV (Sum.inl _); rfl) | (show ∃ z, V.str _ = V.str z; exact ⟨_, rfl⟩) | exact Or.inl ⟨by (first | decide | omega), by (first | decide | omega)⟩ | exact Or.inr ⟨by (first | decide | omega), by (first | decide | omega)⟩ | exact ⟨by (first | decide | omega), by (first | decide | omega)⟩ | exact ⟨by decide, by decide, by decide⟩ | exact L2.ClsV.ty _ | exact Dt.ty (by assumption) | exact Dt.kint (by assumption) | exact Dt.kbool (by assumption) | exact Dt.ktuple (by assumption) | exact Dt.klist (by assumption) | exact Dt.kstr (by assumption))) | (apply Exists.intro; apply And.intro; focus (first | rfl | assumption | exact upd_same | exact SqL.of (by (first | assumption | exact upd_same | (rw [upd_ne (by first | assumption | exact Ne.symm (by assumption))]; first | assumption | exact upd_same | (rw [upd_ne (by first | assumption | exact Ne.symm (by assumption))]; first | assumption | exact upd_same)))) | exact SqT.of (by (first | assumption | exact upd_same | (rw [upd_ne (by first | assumption | exact Ne.symm (by assumption))]; first | assumption | exact upd_same | (rw [upd_ne (by first | assumption | exact Ne.symm (by assumption))]; first | assumption | exact upd_same)))) | exact Or.inl (SqL.of (by (first | assumption | exact upd_same | (rw [upd_ne (by first | assumption | exact Ne.symm (by assumption))]; first | assumption | exact upd_same | (rw [upd_ne (by first | assumption | exact Ne.symm (by assumption))]; first | assumption | exact upd_same))))) | exact Or.inr (SqT.of (by (first | assumption | exact upd_same | (rw [upd_ne (by first | assumption | exact Ne.symm (by assumption))]; first | assumption | exact upd_same | (rw [upd_ne (by first | assumption | exact Ne.symm (by assumption))]; first | assumption | exact upd_same))))) | exact Or.inl ⟨rfl, _, SqL.of (by (first | assumption | exact upd_same | (rw [upd_ne (by first | assumption | exact Ne.symm (by assumption))]; first | assumption | exact upd_same | (rw [upd_ne (by first | assumption | exact Ne.symm (by assumption))]; first | assumption | exact upd_same))))⟩ | (first | assumption | exact upd_same | (rw [upd_ne (by first | assumption | exact Ne.symm (by assumption))]; first | assumption | exact upd_same | (rw [upd_ne (by first | assumption | exact Ne.symm (by assumption))]; first | assumption | exact upd_same))) | decide | exact Nat.le_of_ble_eq_true rfl | omega | (show ∃ xs, SqL _ _ _ xs; exact ⟨_, SqL.of (by (first | assumption | exact upd_same | (rw [upd_ne (by first | assumption | exact Ne.symm (by assumption))]; first | assumption | exact upd_same | (rw [upd_ne (by first | assumption | exact Ne.symm (by assumption))]; first | assumption | exact upd_same))))⟩) | (show ∃ xs, SqT _ _ _ xs; exact ⟨_, SqT.of (by (first | assumption | exact upd_same | (rw [upd_ne (by first | assumption | exact Ne.symm (by assumption))]; first | assumption | exact upd_same | (rw [upd_ne (by first | assumption | exact Ne.symm (by assumption))]; first | assumption | exact upd_same))))⟩) | exact DGet.k (k := Sum.inl _) (by (first | assumption | exact upd_same | (rw [upd_ne (by first | assumption | exact Ne.symm (by assumption))]; first | assumption | exact upd_same | (rw [upd_ne (by first | assumption | exact Ne.symm (by assumption))]; first | assumption | exact upd_same)))) | (show V.int _ = kV (Sum.inl _); rfl) | (show ∃ z, V.str _ = V.str z; exact ⟨_, rfl⟩) | exact Or.inl ⟨by (first | decide | omega), by (first | decide | omega)⟩ | exact Or.inr ⟨by (first | decide | omega), by (first | decide | omega)⟩ | exact ⟨by (first | decide | omega), by (first | decide | omega)⟩ | exact ⟨by decide, by decide, by decide⟩ | exact L2.ClsV.ty _ | exact Dt.ty (by assumption) | exact Dt.kint (by assumption) | exact Dt.kbool (by assumption) | exact Dt.ktuple (by assumption) | exact Dt.klist (by assumption) | exact Dt.kstr (by assumption))) | (apply Exists.intro; apply Exists.intro; apply And.intro; focus (first | rfl | assumption | exact upd_same | exact SqL.of (by (first | assumption | exact upd_same | (rw [upd_ne (by first | assumption | exact Ne.symm (by assumption))]; first | assumption | exact upd_same | (rw [upd_ne (by first | assumption | exact Ne.symm (by assumption))]; first | assumption | exact upd_same)))) | exact SqT.of (by (first | assumption | exact upd_same | (rw [upd_ne (by first | assumption | exact Ne.symm (by assumption))]; first | assumption | exact upd_same | (rw [upd_ne (by first | assumption | exact Ne.symm (by assumption))]; first | assumption | exact upd_same)))) | exact Or.inl (SqL.of (by (first | assumption | exact upd_same | (rw [upd_ne (by first | assumption | exact Ne.symm (by assumption))]; first | assumption | exact upd_same | (rw [upd_ne (by first | assumption | exact Ne.symm (by assumption))]; first | assumption | exact upd_same))))) | exact Or.inr (SqT.of (by (first | assumption | exact upd_same | (rw [upd_ne (by first | assumption | exact Ne.symm (by assumption))]; first | assumption | exact upd_same | (rw [upd_ne (by first | assumption | exact Ne.symm (by assumption))]; first | assumption | exact upd_same))))) | exact Or.inl ⟨rfl, _, SqL.of (by (first | assumption | exact upd_same | (rw [upd_ne (by first | assumption | exact Ne.symm (by assumption))]; first | assumption | exact upd_same | (rw [upd_ne (by first | assumption | exact Ne.symm (by assumption))]; first | assumption | exact upd_same))))⟩ | (first | assumption | exact upd_same | (rw [upd_ne (by first | assumption | exact Ne.symm (by assumption))]; first | assumption | exact upd_same | (rw [upd_ne (by first | assumption | exact Ne.symm (by assumption))]; first | assumption | exact upd_same))) | decide | exact Nat.le_of_ble_eq_true rfl | omega | (show ∃ xs, SqL _ _ _ xs; exact ⟨_, SqL.of (by (first | assumption | exact upd_same | (rw [upd_ne (by first | assumption | exact Ne.symm (by assumption))]; first | assumption | exact upd_same | (rw [upd_ne (by first | assumption | exact Ne.symm (by assumption))]; first | assumption | exact upd_same))))⟩) | (show ∃ xs, SqT _ _ _ xs; exact ⟨_, SqT.of (by (first | assumption | exact upd_same | (rw [upd_ne (by first | assumption | exact Ne.symm (by assumption))]; first | assumption | exact upd_same | (rw [upd_ne (by first | assumption | exact Ne.symm (by assumption))]; first | assumption | exact upd_same))))⟩) | exact DGet.k (k := Sum.inl _) (by (first | assumption | exact upd_same | (rw [upd_ne (by first | assumption | exact Ne.symm (by assumption))]; first | assumption | exact upd_same | (rw [upd_ne (by first | assumption | exact Ne.symm (by assumption))]; first | assumption | exact upd_same)))) | (show V.int _ = kV (Sum.inl _); rfl) | (show ∃ z, V.str _ = V.str z; exact ⟨_, rfl⟩) | exact Or.inl ⟨by (first | decide | omega), by (first | decide | omega)⟩ | exact Or.inr ⟨by (first | decide | omega), by (first | decide | omega)⟩ | exact ⟨by (first | decide | omega), by (first | decide | omega)⟩ | exact ⟨by decide, by decide, by decide⟩ | exact L2.ClsV.ty _ | exact Dt.ty (by assumption) | exact Dt.kint (by assumption) | exact Dt.kbool (by assumption) | exact Dt.ktuple (by assumption) | exact Dt.klist (by assumption) | exact Dt.kstr (by assumption))) | (apply Exists.intro; apply Exists.intro; apply Exists.intro; apply And.intro; focus (first | rfl | assumption | exact upd_same | exact SqL.of (by (first | assumption | exact upd_same | (rw [upd_ne (by first | assumption | exact Ne.symm (by assumption))]; first | assumption | exact upd_same | (rw [upd_ne (by first | assumption | exact Ne.symm (by assumption))]; first | assumption | exact upd_same)))) | exact SqT.of (by (first | assumption | exact upd_same | (rw [upd_ne (by first | assumption | exact Ne.symm (by assumption))]; first | assumption | exact upd_same | (rw [upd_ne (by first | assumption | exact Ne.symm (by assumption))]; first | assumption | exact upd_same)))) | exact Or.inl (SqL.of (by (first | assumption | exact upd_same | (rw [upd_ne (by first | assumption | exact Ne.symm (by assumption))]; first | assumption | exact upd_same | (rw [upd_ne (by first | assumption | exact Ne.symm (by assumption))]; first | assumption | exact upd_same))))) | exact Or.inr (SqT.of (by (first | assumption | exact upd_same | (rw [upd_ne (by first | assumption | exact Ne.symm (by assumption))]; first | assumption | exact upd_same | (rw [upd_ne (by first | assumption | exact Ne.symm (by assumption))]; first | assumption | exact upd_same))))) | exact Or.inl ⟨rfl, _, SqL.of (by (first | assumption | exact upd_same | (rw [upd_ne (by first | assumption | exact Ne.symm (by assumption))]; first | assumption | exact upd_same | (rw [upd_ne (by first | assumption | exact Ne.symm (by assumption))]; first | assumption | exact upd_same))))⟩ | (first | assumption | exact upd_same | (rw [upd_ne (by first | assumption | exact Ne.symm (by assumption))]; first | assumption | exact upd_same | (rw [upd_ne (by first | assumption | exact Ne.symm (by assumption))]; first | assumption | exact upd_same))) | decide | exact Nat.le_of_ble_eq_true rfl | omega | (show ∃ xs, SqL _ _ _ xs; exact ⟨_, SqL.of (by (first | assumption | exact upd_same | (rw [upd_ne (by first | assumption | exact Ne.symm (by assumption))]; first | assumption | exact upd_same | (rw [upd_ne (by first | assumption | exact Ne.symm (by assumption))]; first | assumption | exact upd_same))))⟩) | (show ∃ xs, SqT _ _ _ xs; exact ⟨_, SqT.of (by (first | assumption | exact upd_same | (rw [upd_ne (by first | assumption | exact Ne.symm (by assumption))]; first | assumption | exact upd_same | (rw [upd_ne (by first | assumption | exact Ne.symm (by assumption))]; first | assumption | exact upd_same))))⟩) | exact DGet.k (k := Sum.inl _) (by (first | assumption | exact upd_same | (rw [upd_ne (by first | assumption | exact Ne.symm (by assumption))]; first | assumption | exact upd_same | (rw [upd_ne (by first | assumption | exact Ne.symm (by assumption))]; first | assumption | exact upd_same)))) | (show V.int _ = kV (Sum.inl _); rfl) | (show ∃ z, V.str _ = V.str z; exact ⟨_, rfl⟩) | exact Or.inl ⟨by (first | decide | omega), by (first | decide | omega)⟩ | exact Or.inr ⟨by (first | decide | omega), by (first | decide | omega)⟩ | exact ⟨by (first | decide | omega), by (first | decide | omega)⟩ | exact ⟨by decide, by decide, by decide⟩ | exact L2.ClsV.ty _ | exact Dt.ty (by assumption) | exact Dt.kint (by assumption) | exact Dt.kbool (by assumption) | exact Dt.ktuple (by assumption) | exact Dt.klist (by assumption) | exact Dt.kstr (by assumption))) | (apply Exists.intro; apply Exists.intro; apply Exists.intro; apply Exists.intro; apply And.intro; focus (first | rfl | assumption | exact upd_same | exact SqL.of (by (first | assumption | exact upd_same | (rw [upd_ne (by first | assumption | exact Ne.symm (by assumption))]; first | assumption | exact upd_same | (rw [upd_ne (by first | assumption | exact Ne.symm (by assumption))]; first | assumption | exact upd_same)))) | exact SqT.of (by (first | assumption | exact upd_same | (rw [upd_ne (by first | assumption | exact Ne.symm (by assumption))]; first | assumption | exact upd_same | (rw [upd_ne (by first | assumption | exact Ne.symm (by assumption))]; first | assumption | exact upd_same)))) | exact Or.inl (SqL.of (by (first | assumption | exact upd_same | (rw [upd_ne (by first | assumption | exact Ne.symm (by assumption))]; first | assumption | exact upd_same | (rw [upd_ne (by first | assumption | exact Ne.symm (by assumption))]; first | assumption | exact upd_same))))) | exact Or.inr (SqT.of (by (first | assumption | exact upd_same | (rw [upd_ne (by first | assumption | exact Ne.symm (by assumption))]; first | assumption | exact upd_same | (rw [upd_ne (by first | assumption | exact Ne.symm (by assumption))]; first | assumption | exact upd_same))))) | exact Or.inl ⟨rfl, _, SqL.of (by (first | assumption | exact upd_same | (rw [upd_ne (by first | assumption | exact Ne.symm (by assumption))]; first | assumption | exact upd_same | (rw [upd_ne (by first | assumption | exact Ne.symm (by assumption))]; first | assumption | exact upd_same))))⟩ | (first | assumption | exact upd_same | (rw [upd_ne (by first | assumption | exact Ne.symm (by assumption))]; first | assumption | exact upd_same | (rw [upd_ne (by first | assumption | exact Ne.symm (by assumption))]; first | assumption | exact upd_same))) | decide | exact Nat.le_of_ble_eq_true rfl | omega | (show ∃ xs, SqL _ _ _ xs; exact ⟨_, SqL.of (by (first | assumption | exact upd_same | (rw [upd_ne (by first | assumption | exact Ne.symm (by assumption))]; first | assumption | exact upd_same | (rw [upd_ne (by first | assumption | exact Ne.symm (by assumption))]; first | assumption | exact upd_same))))⟩) | (show ∃ xs, SqT _ _ _ xs; exact ⟨_, SqT.of (by (first | assumption | exact upd_same | (rw [upd_ne (by first | assumption | exact Ne.symm (by assumption))]; first | assumption | exact upd_same | (rw [upd_ne (by first | assumption | exact Ne.symm (by assumption))]; first | assumption | exact upd_same))))⟩) | exact DGet.k (k := Sum.inl _) (by (first | assumption | exact upd_same | (rw [upd_ne (by first | assumption | exact Ne.symm (by assumption))]; first | assumption | exact upd_same | (rw [upd_ne (by first | assumption | exact Ne.symm (by assumption))]; first | assumption | exact upd_same)))) | (show V.int _ = kV (Sum.inl _); rfl) | (show ∃ z, V.str _ = V.str z; exact ⟨_, rfl⟩) | exact Or.inl ⟨by (first | decide | omega), by (first | decide | omega)⟩ | exact Or.inr ⟨by (first | decide | omega), by (first | decide | omega)⟩ | exact ⟨by (first | decide | omega), by (first | decide | omega)⟩ | exact ⟨by decide, by decide, by decide⟩ | exact L2.ClsV.ty _ | exact Dt.ty (by assumption) | exact Dt.kint (by assumption) | exact Dt.kbool (by assumption) | exact Dt.ktuple (by assumption) | exact Dt.klist (by assumption) | exact Dt.kstr (by assumption))) | (apply Exists.intro; apply Exists.intro; apply Exists.intro; apply Exists.intro; apply Exists.intro; apply And.intro; focus (first | rfl | assumption | exact upd_same | exact SqL.of (by (first | assumption | exact upd_same | (rw [upd_ne (by first | assumption | exact Ne.symm (by assumption))]; first | assumption | exact upd_same | (rw [upd_ne (by first | assumption | exact Ne.symm (by assumption))]; first | assumption | exact upd_same)))) | exact SqT.of (by (first | assumption | exact upd_same | (rw [upd_ne (by first | assumption | exact Ne.symm (by assumption))]; first | assumption | exact upd_same | (rw [upd_ne (by first | assumption | exact Ne.symm (by assumption))]; first | assumption | exact upd_same)))) | exact Or.inl (SqL.of (by (first | assumption | exact upd_same | (rw [upd_ne (by first | assumption | exact Ne.symm (by assumption))]; first | assumption | exact upd_same | (rw [upd_ne (by first | assumption | exact Ne.symm (by assumption))]; first | assumption | exact upd_same))))) | exact Or.inr (SqT.of (by (first | assumption | exact upd_same | (rw [upd_ne (by first | assumption | exact Ne.symm (by assumption))]; first | assumption | exact upd_same | (rw [upd_ne (by first | assumption | exact Ne.symm (by assumption))]; first | assumption | exact upd_same))))) | exact Or.inl ⟨rfl, _, SqL.of (by (first | assumption | exact upd_same | (rw [upd_ne (by first | assumption | exact Ne.symm (by assumption))]; first | assumption | exact upd_same | (rw [upd_ne (by first | assumption | exact Ne.symm (by assumption))]; first | assumption | exact upd_same))))⟩ | (first | assumption | exact upd_same | (rw [upd_ne (by first | assumption | exact Ne.symm (by assumption))]; first | assumption | exact upd_same | (rw [upd_ne (by first | assumption | exact Ne.symm (by assumption))]; first | assumption | exact upd_same))) | decide | exact Nat.le_of_ble_eq_true rfl | omega | (show ∃ xs, SqL _ _ _ xs; exact ⟨_, SqL.of (by (first | assumption | exact upd_same | (rw [upd_ne (by first | assumption | exact Ne.symm (by assumption))]; first | assumption | exact upd_same | (rw [upd_ne (by first | assumption | exact Ne.symm (by assumption))]; first | assumption | exact upd_same))))⟩) | (show ∃ xs, SqT _ _ _ xs; exact ⟨_, SqT.of (by (first | assumption | exact upd_same | (rw [upd_ne (by first | assumption | exact Ne.symm (by assumption))]; first | assumption | exact upd_same | (rw [upd_ne (by first | assumption | exact Ne.symm (by assumption))]; first | assumption | exact upd_same))))⟩) | exact DGet.k (k := Sum.inl _) (by (first | assumption | exact upd_same | (rw [upd_ne (by first | assumption | exact Ne.symm (by assumption))]; first | assumption | exact upd_same | (rw [upd_ne (by first | assumption | exact Ne.symm (by assumption))]; first | assumption | exact upd_same)))) | (show V.int _ = kV (Sum.inl _); rfl) | (show ∃ z, V.str _ = V.str z; exact ⟨_, rfl⟩) | exact Or.inl ⟨by (first | decide | omega), by (first | decide | omega)⟩ | exact Or.inr ⟨by (first | decide | omega), by (first | decide | omega)⟩ | exact ⟨by (first | decide | omega), by (first | decide | omega)⟩ | exact ⟨by decide, by decide, by decide⟩ | exact L2.ClsV.ty _ | exact Dt.ty (by assumption) | exact Dt.kint (by assumption) | exact Dt.kbool (by assumption) | exact Dt.ktuple (by assumption) | exact Dt.klist (by assumption) | exact Dt.kstr (by assumption))) | (apply Exists.intro; apply Exists.intro; apply Exists.intro; apply Exists.intro; apply Exists.intro; apply Exists.intro; apply And.intro; focus (first | rfl | assumption | exact upd_same | exact SqL.of (by (first | assumption | exact upd_same | (rw [upd_ne (by first | assumption | exact Ne.symm (by assumption))]; first | assumption | exact upd_same | (rw [upd_ne (by first | assumption | exact Ne.symm (by assumption))]; first | assumption | exact upd_same)))) | exact SqT.of (by (first | assumption | exact upd_same | (rw [upd_ne (by first | assumption | exact Ne.symm (by assumption))]; first | assumption | exact upd_same | (rw [upd_ne (by first | assumption | exact Ne.symm (by assumption))]; first | assumption | exact upd_same)))) | exact Or.inl (SqL.of (by (first | assumption | exact upd_same | (rw [upd_ne (by first | assumption | exact Ne.symm (by assumption))]; first | assumption | exact upd_same | (rw [upd_ne (by first | assumption | exact Ne.symm (by assumption))]; first | assumption | exact upd_same))))) | exact Or.inr (SqT.of (by (first | assumption | exact upd_same | (rw [upd_ne (by first | assumption | exact Ne.symm (by assumption))]; first | assumption | exact upd_same | (rw [upd_ne (by first | assumption | exact Ne.symm (by assumption))]; first | assumption | exact upd_same))))) | exact Or.inl ⟨rfl, _, SqL.of (by (first | assumption | exact upd_same | (rw [upd_ne (by first | assumption | exact Ne.symm (by assumption))]; first | assumption | exact upd_same | (rw [upd_ne (by first | assumption | exact Ne.symm (by assumption))]; first | assumption | exact upd_same))))⟩ | (first | assumption | exact upd_same | (rw [upd_ne (by first | assumption | exact Ne.symm (by assumption))]; first | assumption | exact upd_same | (rw [upd_ne (by first | assumption | exact Ne.symm (by assumption))]; first | assumption | exact upd_same))) | decide | exact Nat.le_of_ble_eq_true rfl | omega | (show ∃ xs, SqL _ _ _ xs; exact ⟨_, SqL.of (by (first | assumption | exact upd_same | (rw [upd_ne (by first | assumption | exact Ne.symm (by assumption))]; first | assumption | exact upd_same | (rw [upd_ne (by first | assumption | exact Ne.symm (by assumption))]; first | assumption | exact upd_same))))⟩) | (show ∃ xs, SqT _ _ _ xs; exact ⟨_, SqT.of (by (first | assumption | exact upd_same | (rw [upd_ne (by first | assumption | exact Ne.symm (by assumption))]; first | assumption | exact upd_same | (rw [upd_ne (by first | assumption | exact Ne.symm (by assumption))]; first | assumption | exact upd_same))))⟩) | exact DGet.k (k := Sum.inl _) (by (first | assumption | exact upd_same | (rw [upd_ne (by first | assumption | exact Ne.symm (by assumption))]; first | assumption | exact upd_same | (rw [upd_ne (by first | assumption | exact Ne.symm (by assumption))]; first | assumption | exact upd_same)))) | (show V.int _ = kV (Sum.inl _); rfl) | (show ∃ z, V.str _ = V.str z; exact ⟨_, rfl⟩) | exact Or.inl ⟨by (first | decide | omega), by (first | decide | omega)⟩ | exact Or.inr ⟨by (first | decide | omega), by (first | decide | omega)⟩ | exact ⟨by (first | decide | omega), by (first | decide | omega)⟩ | exact ⟨by decide, by decide, by decide⟩ | exact L2.ClsV.ty _ | exact Dt.ty (by assumption) | exact Dt.kint (by assumption) | exact Dt.kbool (by assumption) | exact Dt.ktuple (by assumption) | exact Dt.klist (by assumption) | exact Dt.kstr (by assumption))) | (apply Exists.intro; apply Exists.intro; apply Exists.intro; apply Exists.intro; apply Exists.intro; apply Exists.intro; apply Exists.intro; apply And.intro; focus (first | rfl | assumption | exact upd_same | exact SqL.of (by (first | assumption | exact upd_same | (rw [upd_ne (by first | assumption | exact Ne.symm (by assumption))]; first | assumption | exact upd_same | (rw [upd_ne (by first | assumption | exact Ne.symm (by assumption))]; first | assumption | exact upd_same)))) | exact SqT.of (by (first | assumption | exact upd_same | (rw [upd_ne (by first | assumption | exact Ne.symm (by assumption))]; first | assumption | exact upd_same | (rw [upd_ne (by first | assumption | exact Ne.symm (by assumption))]; first | assumption | exact upd_same)))) | exact Or.inl (SqL.of (by (first | assumption | exact upd_same | (rw [upd_ne (by first | assumption | exact Ne.symm (by assumption))]; first | assumption | exact upd_same | (rw [upd_ne (by first | assumption | exact Ne.symm (by assumption))]; first | assumption | exact upd_same))))) | exact Or.inr (SqT.of (by (first | assumption | exact upd_same | (rw [upd_ne (by first | assumption | exact Ne.symm (by assumption))]; first | assumption | exact upd_same | (rw [upd_ne (by first | assumption | exact Ne.symm (by assumption))]; first | assumption | exact upd_same))))) | exact Or.inl ⟨rfl, _, SqL.of (by (first | assumption | exact upd_same | (rw [upd_ne (by first | assumption | exact Ne.symm (by assumption))]; first | assumption | exact upd_same | (rw [upd_ne (by first | assumption | exact Ne.symm (by assumption))]; first | assumption | exact upd_same))))⟩ | (first | assumption | exact upd_same | (rw [upd_ne (by first | assumption | exact Ne.symm (by assumption))]; first | assumption | exact upd_same | (rw [upd_ne (by first | assumption | exact Ne.symm (by assumption))]; first | assumption | exact upd_same))) | decide | exact Nat.le_of_ble_eq_true rfl | omega | (show ∃ xs, SqL _ _ _ xs; exact ⟨_, SqL.of (by (first | assumption | exact upd_same | (rw [upd_ne (by first | assumption | exact Ne.symm (by assumption))]; first | assumption | exact upd_same | (rw [upd_ne (by first | assumption | exact Ne.symm (by assumption))]; first | assumption | exact upd_same))))⟩) | (show ∃ xs, SqT _ _ _ xs; exact ⟨_, SqT.of (by (first | assumption | exact upd_same | (rw [upd_ne (by first | assumption | exact Ne.symm (by assumption))]; first | assumption | exact upd_same | (rw [upd_ne (by first | assumption | exact Ne.symm (by assumption))]; first | assumption | exact upd_same))))⟩) | exact DGet.k (k := Sum.inl _) (by (first | assumption | exact upd_same | (rw [upd_ne (by first | assumption | exact Ne.symm (by assumption))]; first | assumption | exact upd_same | (rw [upd_ne (by first | assumption | exact Ne.symm (by assumption))]; first | assumption | exact upd_same)))) | (show V.int _ = kV (Sum.inl _); rfl) | (show ∃ z, V.str _ = V.str z; exact ⟨_, rfl⟩) | exact Or.inl ⟨by (first | decide | omega), by (first | decide | omega)⟩ | exact Or.inr ⟨by (first | decide | omega), by (first | decide | omega)⟩ | exact ⟨by (first | decide | omega), by (first | decide | omega)⟩ | exact ⟨by decide, by decide, by decide⟩ | exact L2.ClsV.ty _ | exact Dt.ty (by assumption) | exact Dt.kint (by assumption) | exact Dt.kbool (by assumption) | exact Dt.ktuple (by assumption) | exact Dt.klist (by assumption) | exact Dt.kstr (by assumption))) | (apply Exists.intro; apply Exists.intro; apply Exists.intro; apply Exists.intro; apply Exists.intro; apply Exists.intro; apply Exists.intro; apply Exists.intro; apply And.intro; focus (first | rfl | assumption | exact upd_same | exact SqL.of (by (first | assumption | exact upd_same | (rw [upd_ne (by first | assumption | exact Ne.symm (by assumption))]; first | assumption | exact upd_same | (rw [upd_ne (by first | assumption | exact Ne.symm (by assumption))]; first | assumption | exact upd_same)))) | exact SqT.of (by (first | assumption | exact upd_same | (rw [upd_ne (by first | assumption | exact Ne.symm (by assumption))]; first | assumption | exact upd_same | (rw [upd_ne (by first | assumption | exact Ne.symm (by assumption))]; first | assumption | exact upd_same)))) | exact Or.inl (SqL.of (by (first | assumption | exact upd_same | (rw [upd_ne (by first | assumption | exact Ne.symm (by assumption))]; first | assumption | exact upd_same | (rw [upd_ne (by first | assumption | exact Ne.symm (by assumption))]; first | assumption | exact upd_same))))) | exact Or.inr (SqT.of (by (first | assumption | exact upd_same | (rw [upd_ne (by first | assumption | exact Ne.symm (by assumption))]; first | assumption | exact upd_same | (rw [upd_ne (by first | assumption | exact Ne.symm (by assumption))]; first | assumption | exact upd_same))))) | exact Or.inl ⟨rfl, _, SqL.of (by (first | assumption | exact upd_same | (rw [upd_ne (by first | assumption | exact Ne.symm (by assumption))]; first | assumption | exact upd_same | (rw [upd_ne (by first | assumption | exact Ne.symm (by assumption))]; first | assumption | exact upd_same))))⟩ | (first | assumption | exact upd_same | (rw [upd_ne (by first | assumption | exact Ne.symm (by assumption))]; first | assumption | exact upd_same | (rw [upd_ne (by first | assumption | exact Ne.symm (by assumption))]; first | assumption | exact upd_same))) | decide | exact Nat.le_of_ble_eq_true rfl | omega | (show ∃ xs, SqL _ _ _ xs; exact ⟨_, SqL.of (by (first | assumption | exact upd_same | (rw [upd_ne (by first | assumption | exact Ne.symm (by assumption))]; first | assumption | exact upd_same | (rw [upd_ne (by first | assumption | exact Ne.symm (by assumption))]; first | assumption | exact upd_same))))⟩) | (show ∃ xs, SqT _ _ _ xs; exact ⟨_, SqT.of (by (first | assumption | exact upd_same | (rw [upd_ne (by first | assumption | exact Ne.symm (by assumption))]; first | assumption | exact upd_same | (rw [upd_ne (by first | assumption | exact Ne.symm (by assumption))]; first | assumption | exact upd_same))))⟩) | exact DGet.k (k := Sum.inl _) (by (first | assumption | exact upd_same | (rw [upd_ne (by first | assumption | exact Ne.symm (by assumption))]; first | assumption | exact upd_same | (rw [upd_ne (by first | assumption | exact Ne.symm (by assumption))]; first | assumption | exact upd_same)))) | (show V.int _ = kV (Sum.inl _); rfl) | (show ∃ z, V.str _ = V.str z; exact ⟨_, rfl⟩) | exact Or.inl ⟨by (first | decide | omega), by (first | decide | omega)⟩ | exact Or.inr ⟨by (first | decide | omega), by (first | decide | omega)⟩ | exact ⟨by (first | decide | omega), by (first | decide | omega)⟩ | exact ⟨by decide, by decide, by decide⟩ | exact L2.ClsV.ty _ | exact Dt.ty (by assumption) | exact Dt.kint (by assumption) | exact Dt.kbool (by assumption) | exact Dt.ktuple (by assumption) | exact Dt.klist (by assumption) | exact Dt.kstr (by assumption))) | (apply Exists.intro; apply Exists.intro; apply Exists.intro; apply Exists.intro; apply Exists.intro; apply Exists.intro; apply Exists.intro; apply Exists.intro; apply Exists.intro; apply And.intro; focus (first | rfl | assumption | exact upd_same | exact SqL.of (by (first | assumption | exact upd_same | (rw [upd_ne (by first | assumption | exact Ne.symm (by assumption))]; first | assumption | exact upd_same | (rw [upd_ne (by first | assumption | exact Ne.symm (by assumption))]; first | assumption | exact upd_same)))) | exact SqT.of (by (first | assumption | exact upd_same | (rw [upd_ne (by first | assumption | exact Ne.symm (by assumption))]; first | assumption | exact upd_same | (rw [upd_ne (by first | assumption | exact Ne.symm (by assumption))]; first | assumption | exact upd_same)))) | exact Or.inl (SqL.of (by (first | assumption | exact upd_same | (rw [upd_ne (by first | assumption | exact Ne.symm (by assumption))]; first | assumption | exact upd_same | (rw [upd_ne (by first | assumption | exact Ne.symm (by assumption))]; first | assumption | exact upd_same))))) | exact Or.inr (SqT.of (by (first | assumption | exact upd_same | (rw [upd_ne (by first | assumption | exact Ne.symm (by assumption))]; first | assumption | exact upd_same | (rw [upd_ne (by first | assumption | exact Ne.symm (by assumption))]; first | assumption | exact upd_same))))) | exact Or.inl ⟨rfl, _, SqL.of (by (first | assumption | exact upd_same | (rw [upd_ne (by first | assumption | exact Ne.symm (by assumption))]; first | assumption | exact upd_same | (rw [upd_ne (by first | assumption | exact Ne.symm (by assumption))]; first | assumption | exact upd_same))))⟩ | (first | assumption | exact upd_same | (rw [upd_ne (by first | assumption | exact Ne.symm (by assumption))]; first | assumption | exact upd_same | (rw [upd_ne (by first | assumption | exact Ne.symm (by assumption))]; first | assumption | exact upd_same))) | decide | exact Nat.le_of_ble_eq_true rfl | omega | (show ∃ xs, SqL _ _ _ xs; exact ⟨_, SqL.of (by (first | assumption | exact upd_same | (rw [upd_ne (by first | assumption | exact Ne.symm (by assumption))]; first | assumption | exact upd_same | (rw [upd_ne (by first | assumption | exact Ne.symm (by assumption))]; first | assumption | exact upd_same))))⟩) | (show ∃ xs, SqT _ _ _ xs; exact ⟨_, SqT.of (by (first | assumption | exact upd_same | (rw [upd_ne (by first | assumption | exact Ne.symm (by assumption))]; first | assumption | exact upd_same | (rw [upd_ne (by first | assumption | exact Ne.symm (by assumption))]; first | assumption | exact upd_same))))⟩) | exact DGet.k (k := Sum.inl _) (by (first | assumption | exact upd_same | (rw [upd_ne (by first | assumption | exact Ne.symm (by assumption))]; first | assumption | exact upd_same | (rw [upd_ne (by first | assumption | exact Ne.symm (by assumption))]; first | assumption | exact upd_same)))) | (show V.int _ = kV (Sum.inl _); rfl) | (show ∃ z, V.str _ = V.str z; exact ⟨_, rfl⟩) | exact Or.inl ⟨by (first | decide | omega), by (first | decide | omega)⟩ | exact Or.inr ⟨by (first | decide | omega), by (first | decide | omega)⟩ | exact ⟨by (first | decide | omega), by (first | decide | omega)⟩ | exact ⟨by decide, by decide, by decide⟩ | exact L2.ClsV.ty _ | exact Dt.ty (by assumption) | exact Dt.kint (by assumption) | exact Dt.kbool (by assumption) | exact Dt.ktuple (by assumption) | exact Dt.klist (by assumption) | exact Dt.kstr (by assumption))) | refine Or.inl ⟨_, rfl, ?_⟩ | refine Or.inr ⟨_, rfl, ?_⟩ | refine Or.inr ⟨SqT.of (by (first | assumption | exact upd_same | (rw [upd_ne (by first | assumption | exact Ne.symm (by assumption))]; first | assumption | exact upd_same | (rw [upd_ne (by first | assumption | exact Ne.symm (by assumption))]; first | assumption | exact upd_same)))), SqT.of (by (first | assumption | exact upd_same | (rw [upd_ne (by first | assumption | exact Ne.symm (by assumption))]; first | assumption | exact upd_same | (rw [upd_ne (by first | assumption | exact Ne.symm (by assumption))]; first | assumption | exact upd_same)))), ?_⟩ | refine Or.inl ⟨SqL.of (by (first | assumption | exact upd_same | (rw [upd_ne (by first | assumption | exact Ne.symm (by assumption))]; first | assumption | exact upd_same | (rw [upd_ne (by first | assumption | exact Ne.symm (by assumption))]; first | assumption | exact upd_same)))), SqL.of (by (first | assumption | exact upd_same | (rw [upd_ne (by first | assumption | exact Ne.symm (by assumption))]; first | assumption | exact upd_same | (rw [upd_ne (by first | assumption | exact Ne.symm (by assumption))]; first | assumption | exact upd_same)))), ?_⟩ | refine Or.inl ⟨SqL.of (by (first | assumption | exact upd_same | (rw [upd_ne (by first | assumption | exact Ne.symm (by assumption))]; first | assumption | exact upd_same | (rw [upd_ne (by first | assumption | exact Ne.symm (by assumption))]; first | assumption | exact upd_same)))), ?_⟩ | refine Or.inr ⟨SqT.of (by (first | assumption | exact upd_same | (rw [upd_ne (by first | assumption | exact Ne.symm (by assumption))]; first | assumption | exact upd_same | (rw [upd_ne (by first | assumption | exact Ne.symm (by assumption))]; first | assumption | exact upd_same)))), ?_⟩ | refine ifT rfl ?_ | refine ifF rfl ?_))
/-- a sign's number -/
def sgn (i : Int) : Bool := decide (32 ≤ i) && decide (i ≤ 126) && !decide (i = 37)
def strP (x : Str) : Bool := decide (0 < x.length) && decide (x.length ≤ 20) && x.cps.toList.all fun c => sgn (c : Int)
def flatP : PyData → Bool
  | .none => true
  | .bool _ => true
  | .int _ => true
  | .str x => strP x
  | _ => false
/-- parcels nested so deep -/
def isP : Nat → PyData → Bool
  | n + 1, .tuple ds => ds.all (isP n)
  | _, d => flatP d
theorem isP_flat {m : Nat} {d : PyData} (h : ∀ ds, d ≠ .tuple ds) : isP m d = flatP d := by
  cases m with
  | zero => cases d <;> rfl
  | succ n => cases d <;> first | rfl | exact absurd rfl (h _)
mutual
def slim : PyData → Bool
  | .tuple ds => decide (ds.length ≤ 100000) && slimAll ds
  | .str x => decide (x.length ≤ 100000)
  | _ => true
def slimAll : List PyData → Bool
  | [] => true
  | d :: ds => slim d && slimAll ds
end
theorem slim_mem : ∀ {ds : List PyData} {d : PyData}, slimAll ds = true → d ∈ ds → slim d = true
  | [], _, _, h => absurd h (List.not_mem_nil)
  | x :: ds, d, e, h => by
    rw [slimAll, Bool.and_eq_true] at e
    rcases List.mem_cons.mp h with rfl | h
    · exact e.1
    · exact slim_mem e.2 h
def rOrd : List V → Hp → VK → Prop := fun xs H Q => ∃ x, xs = [.str x] ∧ x.length = 1 ∧ Q (.int (x.cps.getD 0 0 : Nat)) H
def spSgn : Sp := fun vs H Q _ => ∃ i : Int, vs = [.int i] ∧ Q (.bl (sgn i)) H
def spWithinP (n : Nat) : Sp := fun vs H Q _ => ∃ (N : Addr → Prop) (m : Nat) (v : V) (d : PyData), vs = [.int (m : Int), v] ∧ m ≤ n ∧ Rp N H v d ∧ slim d = true ∧ ∀ H', Same H H' → Q (.bl (isP m d)) H'
section
variable {P : Program} {w : World} {K : PySem.W.Frag} {mg : Str → Option Value} {base : Heap} {t1 t2 t3 t4 : Tok}
theorem d_is_sign_number (F : FunAt K mg "is_sign_number" s_is_sign_number) (g_FIRST_SIGN : mg "FIRST_SIGN" = some (.int 32 t1)) (g_LAST_SIGN : mg "LAST_SIGN" = some (.int 126 t2)) (g_BARRED_SIGN : mg "BARRED_SIGN" = some (.int 37 t3)) : Has P w K mg base 1 "is_sign_number" ["number"] spSgn := by
  refine mk_has F sc_is_sign_number (fun _ _ _ _ _ _ us hl => match us, hl with | [_], _ => rfl) (fun vs H Q E h => ?_) fun f cdv A outer s H vs Q E hr h => ?_
  · obtain ⟨i, rfl, _⟩ := h
    rfl
  obtain ⟨i, rfl, k⟩ := h
  refine ⟨_, (pss_one (ps_ret (pe_and (pe_chain op_le op_le (pe_glob (v := .int 32) rfl g_FIRST_SIGN ⟨_, rfl⟩) (pv 0) (pe_glob (v := .int 126) rfl g_LAST_SIGN ⟨_, rfl⟩)) (pe_one (pe_cmpR op_ne (pv 0) (pe_glob (v := .int 37) rfl g_BARRED_SIGN ⟨_, rfl⟩) (nomark _)))))), ?_⟩
  trivial
  unfold sgn at k
  refine ite2 (fun c => ?_) (fun c => ?_)
  · rw [c, Bool.true_and] at k
    trivial
    refine ite2 (fun c2 => ?_) (fun c2 => ?_)
    · rw [c2, Bool.true_and] at k
      trivial
      have e : (!decide (V.int i = V.int 37)) = !decide (i = 37) := by congr 1; exact decide_eq_decide.mpr ⟨fun h => by injection h, fun h => by rw [h]⟩
      rw [e]
      exact k
    · rw [Bool.eq_false_iff.mpr c2, Bool.false_and] at k
      trivial
      exact k
  · rw [Bool.eq_false_iff.mpr c, Bool.false_and, Bool.false_and] at k
    trivial
    exact k
theorem within_step (B : Bi mg) (F : FunAt K mg "is_parcel_within" s_is_parcel_within) (g_LONGEST : mg "LONGEST" = some (.int 20 t4)) (D_is_sign_number : Has P w K mg base 1 "is_sign_number" ["number"] spSgn) (n : Nat)
    (D_is_parcel_within : Has P w K mg base (n + 1) "is_parcel_within" ["deep", "thing"] (fun vs H Q E => ∃ m, m + 1 = n ∧ spWithinP m vs H Q E)) : Has P w K mg base (n + 2) "is_parcel_within" ["deep", "thing"] (spWithinP n) := by
  refine mk_has F sc_is_parcel_within (fun _ _ _ _ _ _ us hl => match us, hl with | [_, _], _ => rfl) (fun vs H Q E h => ?_) fun f cdv A outer s H vs Q E hr h => ?_
  · obtain ⟨N, m, v, d, rfl, _⟩ := h
    rfl
  obtain ⟨N, m, v, d, rfl, hm, r, hs, k⟩ := h
  refine ⟨_, (pss_cons (ps_if (PW.pt (pw_or (pt_cmp (pc_isN (pv 1))) (pw_or1 (pt_val (pe_callB call_isi rfl B.isinstance (by decide +kernel) (pa_cons (pv 1) (pa_cons (pe_bltn (v := .ty "int") rfl B.int (by decide +kernel) rfl) pa_nil)))))))
    (pss_one (ps_ret pe_bl))
    pss_nil)
    (pss_cons (ps_if (pt_val (pe_callB call_isi rfl B.isinstance (by decide +kernel) (pa_cons (pv 1) (pa_cons (pe_bltn (v := .ty "str") rfl B.str (by decide +kernel) rfl) pa_nil))))
    (pss_one (ps_ret (pe_and (pe_chain op_lt op_le pe_int (pe_callB call_len_str rfl B.len PySem.boot_len (pa_cons (pv 1) pa_nil)) (pe_glob (v := .int 20) rfl g_LONGEST ⟨_, rfl⟩)) (pe_one (pe_callB (cr_all rfl) rfl B.all (by decide +kernel) (pa_cons (pe_lc (own := [("sign", 2)]) (g := gName 2) (tt := tYes) (te := (tCall spSgn [] E0 (tCons (tCB rOrd (tCons (tVar 2) tNil)) tNil))) rfl sc_is_parcel_within.nd (pi_str (pv 1)) (blkOk_by (own := [("sign", 2)]) (N := ["deep", "thing", "sign", "item"]) (sc := defScope s_is_parcel_within) (by decide +kernel)) (fun _ _ _ _ _ => (pg_name (i := 2) sc_is_parcel_within.nd rfl (Or.inl rfl))) (fun _ _ _ _ _ => pts_nil) (fun _ _ _ _ _ => (pe_h D_is_sign_number (hr.mono (by omega)) rfl (pa_cons (pe_callB call_ord rfl B.ord (by decide +kernel) (pa_cons (pv 2) pa_nil)) pa_nil)))) pa_nil))))))
    pss_nil)
    (pss_cons (ps_if (PW.pt (pw_or (pt_not (pt_val (pe_callB call_isi rfl B.isinstance (by decide +kernel) (pa_cons (pv 1) (pa_cons (pe_bltn (v := .ty "tuple") rfl B.tuple (by decide +kernel) rfl) pa_nil))))) (pw_or1 (pt_cmpR op_eq (pv 0) pe_int (nomark _)))))
    (pss_one (ps_ret pe_bl))
    pss_nil)
    (pss_one (ps_ret (pe_callB (cr_all rfl) rfl B.all (by decide +kernel) (pa_cons (pe_lc (own := [("item", 3)]) (g := gName 3) (tt := tYes) (te := (tCall (fun vs H Q E => ∃ m, m + 1 = n ∧ spWithinP m vs H Q E) [] E0 (tCons (tOp (rI0 fun i j => .int (i - j)) (tVar 0) (tC (.int 1))) (tCons (tVar 3) tNil)))) rfl sc_is_parcel_within.nd (pi_tup (pv 1)) (blkOk_by (own := [("item", 3)]) (N := ["deep", "thing", "sign", "item"]) (sc := defScope s_is_parcel_within) (by decide +kernel)) (fun _ _ _ _ _ => (pg_name (i := 3) sc_is_parcel_within.nd rfl (Or.inl rfl))) (fun _ _ _ _ _ => pts_nil) (fun _ _ _ _ _ => (pe_h D_is_parcel_within hr rfl (pa_cons (pe_op op_sub (pv 0) pe_int) (pa_cons (pv 3) pa_nil))))) pa_nil))))))), ?_⟩
  have k0 := k H (Same.refl H)
  have d0 := r.dt
  cases d with
  | none =>
    rw [isP_flat (by intro ds z; cases z)] at k0
    cases r
    trivial
    exact k0
  | bool b =>
    rw [isP_flat (by intro ds z; cases z)] at k0
    cases r
    trivial
    exact k0
  | int i =>
    rw [isP_flat (by intro ds z; cases z)] at k0
    cases r
    trivial
    exact k0
  | list ds =>
    rw [isP_flat (by intro ds z; cases z)] at k0
    cases r with
    | lst ea _ _ =>
    have d1 := Dt.lst ea
    trivial
    exact k0
  | dict kvs =>
    rw [isP_flat (by intro ds z; cases z)] at k0
    cases r with
    | emp ea _ =>
    have d1 := Dt.dK ea
    trivial
    exact k0
  | str x =>
    have e1 : isP m (.str x) = strP x := isP_flat (by intro ds z; cases z)
    rw [e1] at k0
    have eP := e1
    cases r
    have hx : x.length ≤ 100000 := by simpa [slim] using hs
    have hz : x.length ≤ sizeLine := by rw [sizeLine_eq]; omega
    have e1' : strP x = (decide (0 < x.length) && decide (x.length ≤ 20) && x.cps.toList.all fun (c : Nat) => sgn (c : Int)) := rfl
    unfold strP at k0
    rw [show decide (0 < x.length) = decide ((0 : Int) < (x.length : Nat)) from decide_eq_decide.mpr ⟨fun h => by omega, fun h => by omega⟩, show decide (x.length ≤ 20) = decide (((x.length : Nat) : Int) ≤ 20) from decide_eq_decide.mpr ⟨fun h => by omega, fun h => by omega⟩] at k0
    trivial
    refine ite2 (fun c => ?_) (fun c => ?_)
    · rw [c, Bool.true_and] at k0
      trivial
      refine ite2 (fun c2 => ?_) (fun c2 => ?_)
      · rw [c2, Bool.true_and] at k0
        trivial
        intro D nD
        have lx : x.cps.toList.length = x.cps.size := by simp
        have hx2 : x.cps.size ≤ 16777216 := Nat.le_trans hx (by decide)
        refine lc_map walk_str (x.cps.toList.map fun (q : Nat) => V.bl (sgn (q : Int))) (by rw [List.length_map, lx]) nD hx2 (fun i H' _ s => True.intro) (fun i y H3 H4 Pn hi s2 yy fin => ?_) fun H3 s2 e1 => ?_
        · obtain ⟨rfl, c3, hc, rfl⟩ := yy
          trivial
          exact fin _ _ (by rw [List.getElem?_map, Array.getElem?_toList, hc]; rfl) (Same.refl _)
        · have e2 : (x.cps.toList.map fun (q : Nat) => V.bl (sgn (q : Int))) = (x.cps.toList.map fun (q : Nat) => sgn (q : Int)).map V.bl := by rw [List.map_map]; rfl
          rw [e2] at e1
          trivial
          have e3 : (x.cps.toList.map fun (q : Nat) => sgn (q : Int)).all id = x.cps.toList.all fun (q : Nat) => sgn (q : Int) := by simp [List.all_map, Function.comp_def]
          rw [e3]
          have kk := k H3 s2
          have d1 : decide (0 < x.length) = true := by have := of_decide_eq_true c; exact decide_eq_true (by omega)
          have d2 : decide (x.length ≤ 20) = true := by have := of_decide_eq_true c2; exact decide_eq_true (by omega)
          rw [eP, e1', d1, d2, Bool.true_and, Bool.true_and] at kk
          exact kk
      · rw [Bool.eq_false_iff.mpr c2, Bool.false_and] at k0
        trivial
        exact k0
    · rw [Bool.eq_false_iff.mpr c, Bool.false_and, Bool.false_and] at k0
      trivial
      exact k0
  | tuple ds =>
    cases r with
    | @tup a xs _ ea na aa =>
    have d1 := Dt.tup ea
    cases m with
    | zero =>
      trivial
      exact k0
    | succ m =>
      rw [slim, Bool.and_eq_true, decide_eq_true_eq] at hs
      have hl := aa.length
      trivial
      intro D nD
      refine lc_map (walk_tup (xs := xs)) (ds.map fun d => V.bl (isP m d)) (by rw [List.length_map, hl]) nD (by omega) (fun i H' _ s => SqT.of (s _ _ ea)) (fun i x H3 H4 Pn hi s2 y fin => ?_) fun H3 s2 e1 => ?_
      · obtain ⟨rfl, gx⟩ := y
        obtain ⟨dx, mx, gdx, rx⟩ := aa.at_ gx
        refine ⟨rfl, ?_⟩
        refine ⟨_, rfl, _, _, rfl, rfl, _, rfl, n - 1, by omega, N, m, x, dx, ?_, by omega, rx.to (kp_same s2), slim_mem hs.2 mx, fun H5 s5 => ?_⟩
        · show [V.int (((m + 1 : Nat) : Int) - 1), x] = _
          rw [show ((m + 1 : Nat) : Int) - 1 = (m : Int) by omega]
        · exact fin _ _ (by rw [List.getElem?_map, gdx]; rfl) s5
      · have e2 : (ds.map fun d => V.bl (isP m d)) = (ds.map (isP m)).map V.bl := by rw [List.map_map]; rfl
        rw [e2] at e1
        trivial
        have e3 : (ds.map (isP m)).all id = ds.all (isP m) := by simp [List.all_map]
        rw [e3]
        exact k H3 s2
theorem d_is_parcel_within (B : Bi mg) (F : FunAt K mg "is_parcel_within" s_is_parcel_within) (g_LONGEST : mg "LONGEST" = some (.int 20 t4)) (D : Has P w K mg base 1 "is_sign_number" ["number"] spSgn) : ∀ n : Nat, Has P w K mg base (n + 2) "is_parcel_within" ["deep", "thing"] (spWithinP n)
  | 0 => within_step B F g_LONGEST D 0 (has_none F (fun _ _ _ _ _ _ us hl => match us, hl with | [_, _], _ => rfl) fun _ _ _ _ ⟨_, e, _⟩ => nomatch e)
  | n + 1 => within_step B F g_LONGEST D (n + 1) ((d_is_parcel_within B F g_LONGEST D n).imp fun _ _ _ _ ⟨m, e, q⟩ => by cases e; exact q)
end
end KQ
set_option Elab.async false
set_option maxRecDepth 100000
set_option maxHeartbeats 4000000
namespace KQ
open PySem PySem.Spec PyProof.Rows L2
local macro_rules | `(tactic| trivial) => `(tactic| repeat (first | (apply And.intro; focus (first | rfl | assumption | exact upd_same | exact SqL.of (by (first | assumption | exact upd_same | (rw [upd_ne (by first | assumption | exact Ne.symm (by assumption))]; first | assumption | exact upd_same | (rw [upd_ne (by first | assumption | exact Ne.symm (by assumption))]; first | assumption | exact upd_same)))) | exact SqT.of (by (first | assumption | exact upd_same | (rw [upd_ne (by first | assumption | exact Ne.symm (by assumption))]; first | assumption | exact upd_same | (rw [upd_ne (by first | assumption | exact Ne.symm (by assumption))]; first | assumption | exact upd_same)))) | exact Or.inl (SqL.of (by (first | assumption | exact upd_same | (rw [upd_ne (by first | assumption | exact Ne.symm (by assumption))]; first | assumption | exact upd_same | (rw [upd_ne (by first | assumption | exact Ne.symm (by assumption))]; first | assumption | exact upd_same))))) | exact Or.inr (SqT.of (by (first | assumption | exact upd_same | (rw [upd_ne (by first | assumption | exact Ne.symm (by assumption))]; first | assumption | exact upd_same | (rw [upd_ne (by first | assumption | exact Ne.symm (by assumption))]; first | assumption | exact upd_same))))) | exact Or.inl ⟨rfl, _, SqL.of (by (first | assumption | exact upd_same | (rw [upd_ne (by first | assumption | exact Ne.symm (by assumption))]; first | assumption | exact upd_same | (rw [upd_ne (by first | assumption | exact Ne.symm (by assumption))]; first | assumption | exact upd_same))))⟩ | (first | assumption | exact upd_same | (rw [upd_ne (by first | assumption | exact Ne.symm (by assumption))]; first | assumption | exact upd_same | (rw [upd_ne (by first | assumption | exact Ne.symm (by assumption))]; first | assumption | exact upd_same))) | decide | exact Nat.le_of_ble_eq_true rfl | omega | (show ∃ xs, SqL _ _ _ xs; exact ⟨_, SqL.of (by (first | assumption | exact upd_same | (rw [upd_ne (by first | assumption | exact Ne.symm (by assumption))]; first | assumption | exact upd_same | (rw [upd_ne (by first | assumption | exact Ne.symm (by assumption))]; first | assumption | exact upd_same))))⟩) | (show ∃ xs, SqT _ _ _ xs; exact ⟨_, SqT.of (by (first | assumption | exact upd_same | (rw [upd_ne (by first | assumption | exact Ne.symm (by assumption))]; first | assumption | exact upd_same | (rw [upd_ne (by first | assumption | exact Ne.symm (by assumption))]; first | assumption | exact upd_same))))⟩) | exact DGet.k (k := Sum.inl _) (by (first | assumption | exact upd_same | (rw [upd_ne (by first | assumption | exact Ne.symm (by assumption))]; first | assumption | exact upd_same | (rw [upd_ne (by first | assumption | exact Ne.symm (by assumption))]; first | assumption | exact upd_same)))) | (show V.int _ = kV (Sum.inl _); rfl) | (show ∃ z, V.str _ = V.str z; exact ⟨_, rfl⟩) | exact Or.inl ⟨by (first | decide | omega), by (first | decide | omega)⟩ | exact Or.inr ⟨by (first | decide | omega), by (first | decide | omega)⟩ | exact ⟨by (first | decide | omega), by (first | decide | omega)⟩ | exact ⟨by decide, by decide, by decide⟩ | exact L2.ClsV.ty _ | exact Dt.ty (by assumption) | exact Dt.kint (by assumption) | exact Dt.kbool (by assumption) | exact Dt.ktuple (by assumption) | exact Dt.klist (by assumption) | exact Dt.kstr (by assumption))) | (apply Exists.intro; apply And.intro; focus (first | rfl | assumption | exact upd_same | exact SqL.of (by (first | assumption | exact upd_same | (rw [upd_ne (by first | assumption | exact Ne.symm (by assumption))]; first | assumption | exact upd_same | (rw [upd_ne (by first | assumption | exact Ne.symm (by assumption))]; first | assumption | exact upd_same)))) | exact SqT.of (by (first | assumption | exact upd_same | (rw [upd_ne (by first | assumption | exact Ne.symm (by assumption))]; first | assumption | exact upd_same | (rw [upd_ne (by first | assumption | exact Ne.symm (by assumption))]; first | assumption | exact upd_same)))) | exact Or.inl (SqL.of (by (first | assumption | exact upd_same | (rw [upd_ne (by first | assumption | exact Ne.symm (by assumption))]; first | assumption | exact upd_same | (rw [upd_ne (by first | assumption | exact Ne.symm (by assumption))]; first | assumption | exact upd_same))))) | exact Or.inr (SqT.of (by (first | assumption | exact upd_same | (rw [upd_ne (by first | assumption | exact Ne.symm (by assumption))]; first | assumption | exact upd_same | (rw [upd_ne (by first | assumption | exact Ne.symm (by assumption))]; first | assumption | exact upd_same))))) | exact Or.inl ⟨rfl, _, SqL.of (by (first | assumption | exact upd_same | (rw [upd_ne (by first | assumption | exact Ne.symm (by assumption))]; first | assumption | exact upd_same | (rw [upd_ne (by first | assumption | exact Ne.symm (by assumption))]; first | assumption | exact upd_same))))⟩ | (first | assumption | exact upd_same | (rw [upd_ne (by first | assumption | exact Ne.symm (by assumption))]; first | assumption | exact upd_same | (rw [upd_ne (by first | assumption | exact Ne.symm (by assumption))]; first | assumption | exact upd_same))) | decide | exact Nat.le_of_ble_eq_true rfl | omega | (show ∃ xs, SqL _ _ _ xs; exact ⟨_, SqL.of (by (first | assumption | exact upd_same | (rw [upd_ne (by first | assumption | exact Ne.symm (by assumption))]; first | assumption | exact upd_same | (rw [upd_ne (by first | assumption | exact Ne.symm (by assumption))]; first | assumption | exact upd_same))))⟩) | (show ∃ xs, SqT _ _ _ xs; exact ⟨_, SqT.of (by (first | assumption | exact upd_same | (rw [upd_ne (by first | assumption | exact Ne.symm (by assumption))]; first | assumption | exact upd_same | (rw [upd_ne (by first | assumption | exact Ne.symm (by assumption))]; first | assumption | exact upd_same))))⟩) | exact DGet.k (k := Sum.inl _) (by (first | assumption | exact upd_same | (rw [upd_ne (by first | assumption | exact Ne.symm (by assumption))]; first | assumption | exact upd_same | (rw [upd_ne (by first | assumption | exact Ne.symm (by assumption))]; first | assumption | exact upd_same)))) | (show V.int _ = kV (Sum.inl _); rfl) | (show ∃ z, V.str _ = V.str z; exact ⟨_, rfl⟩) | exact Or.inl ⟨by (first | decide | omega), by (first | decide | omega)⟩ | exact Or.inr ⟨by (first | decide | omega), by (first | decide | omega)⟩ | exact ⟨by (first | decide | omega), by (first | decide | omega)⟩ | exact ⟨by decide, by decide, by decide⟩ | exact L2.ClsV.ty _ | exact Dt.ty (by assumption) | exact Dt.kint (by assumption) | exact Dt.kbool (by assumption) | exact Dt.ktuple (by assumption) | exact Dt.klist (by assumption) | exact Dt.kstr (by assumption))) | (apply Exists.intro; apply Exists.intro; apply And.intro; focus (first | rfl | assumption | exact upd_same | exact SqL.of (by (first | assumption | exact upd_same | (rw [upd_ne (by first | assumption | exact Ne.symm (by assumption))]; first | assumption | exact upd_same | (rw [upd_ne (by first | assumption | exact Ne.symm (by assumption))]; first | assumption | exact upd_same)))) | exact SqT.of (by (first | assumption | exact upd_same | (rw [upd_ne (by first | assumption | exact Ne.symm (by assumption))]; first | assumption | exact upd_same | (rw [upd_ne (by first | assumption | exact Ne.symm (by assumption))]; first | assumption | exact upd_same)))) | exact Or.inl (SqL.of (by (first | assumption | exact upd_same | (rw [upd_ne (by first | assumption | exact Ne.symm (by assumption))]; first | assumption | exact upd_same | (rw [upd_ne (by first | assumption | exact Ne.symm (by assumption))]; first | assumption | exact upd_same))))) | exact Or.inr (SqT.of (by (first | assumption | exact upd_same | (rw [upd_ne (by first | assumption | exact Ne.symm (by assumption))]; first | assumption | exact upd_same | (rw [upd_ne (by first | assumption | exact Ne.symm (by assumption))]; first | assumption | exact upd_same))))) | exact Or.inl ⟨rfl, _, SqL.of (by (first | assumption | exact upd_same | (rw [upd_ne (by first | assumption | exact Ne.symm (by assumption))]; first | assumption | exact upd_same | (rw [upd_ne (by first | assumption | exact Ne.symm (by assumption))]; first | assumption | exact upd_same))))⟩ | (first | assumption | exact upd_same | (rw [upd_ne (by first | assumption | exact Ne.symm (by assumption))]; first | assumption | exact upd_same | (rw [upd_ne (by first | assumption | exact Ne.symm (by assumption))]; first | assumption | exact upd_same))) | decide | exact Nat.le_of_ble_eq_true rfl | omega | (show ∃ xs, SqL _ _ _ xs; exact ⟨_, SqL.of (by (first | assumption | exact upd_same | (rw [upd_ne (by first | assumption | exact Ne.symm (by assumption))]; first | assumption | exact upd_same | (rw [upd_ne (by first | assumption | exact Ne.symm (by assumption))]; first | assumption | exact upd_same))))⟩) | (show ∃ xs, SqT _ _ _ xs; exact ⟨_, SqT.of (by (first | assumption | exact upd_same | (rw [upd_ne (by first | assumption | exact Ne.symm (by assumption))]; first | assumption | exact upd_same | (rw [upd_ne (by first | assumption | exact Ne.symm (by assumption))]; first | assumption | exact upd_same))))⟩) | exact DGet.k (k := Sum.inl _) (by (first | assumption | exact upd_same | (rw [upd_ne (by first | assumption | exact Ne.symm (by assumption))]; first | assumption | exact upd_same | (rw [upd_ne (by first | assumption | exact Ne.symm (by assumption))]; first | assumption | exact upd_same)))) | (show V.int _ = kV (Sum.inl _); rfl) | (show ∃ z, V.str _ = V.str z; exact ⟨_, rfl⟩) | exact Or.inl ⟨by (first | decide | omega), by (first | decide | omega)⟩ | exact Or.inr ⟨by (first | decide | omega), by (first | decide | omega)⟩ | exact ⟨by (first | decide | omega), by (first | decide | omega)⟩ | exact ⟨by decide, by decide, by decide⟩ | exact L2.ClsV.ty _ | exact Dt.ty (by assumption) | exact Dt.kint (by assumption) | exact Dt.kbool (by assumption) | exact Dt.ktuple (by assumption) | exact Dt.klist (by assumption) | exact Dt.kstr (by assumption))) | (apply Exists.intro; apply Exists.intro; apply Exists.intro; apply And.intro; focus (first | rfl | assumption | exact upd_same | exact SqL.of (by (first | assumption | exact upd_same | (rw [upd_ne (by first | assumption | exact Ne.symm (by assumption))]; first | assumption | exact upd_same | (rw [upd_ne (by first | assumption | exact Ne.symm (by assumption))]; first | assumption | exact upd_same)))) | exact SqT.of (by (first | assumption | exact upd_same | (rw [upd_ne (by first | assumption | exact Ne.symm (by assumption))]; first | assumption | exact upd_same | (rw [upd_ne (by first | assumption | exact Ne.symm (by assumption))]; first | assumption | exact upd_same)))) | exact Or.inl (SqL.of (by (first | assumption | exact upd_same | (rw [upd_ne (by first | assumption | exact Ne.symm (by assumption))]; first | assumption | exact upd_same | (rw [upd_ne (by first | assumption | exact Ne.symm (by assumption))]; first | assumption | exact upd_same))))) | exact Or.inr (SqT.of (by (first | assumption | exact upd_same | (rw [upd_ne (by first | assumption | exact Ne.symm (by assumption))]; first | assumption | exact upd_same | (rw [upd_ne (by first | assumption | exact Ne.symm (by assumption))]; first | assumption | exact upd_same))))) | exact Or.inl ⟨rfl, _, SqL.of (by (first | assumption | exact upd_same | (rw [upd_ne (by first | assumption | exact Ne.symm (by assumption))]; first | assumption | exact upd_same | (rw [upd_ne (by first | assumption | exact Ne.symm (by assumption))]; first | assumption | exact upd_same))))⟩ | (first | assumption | exact upd_same | (rw [upd_ne (by first | assumption | exact Ne.symm (by assumption))]; first | assumption | exact upd_same | (rw [upd_ne (by first | assumption | exact Ne.symm (by assumption))]; first | assumption | exact upd_same))) | decide | exact Nat.le_of_ble_eq_true rfl | omega | (show ∃ xs, SqL _ _ _ xs; exact ⟨_, SqL.of (by (first | assumption | exact upd_same | (rw [upd_ne (by first | assumption | exact Ne.symm (by assumption))]; first | assumption | exact upd_same | (rw [upd_ne (by first | assumption | exact Ne.symm (by assumption))]; first | assumption | exact upd_same))))⟩) | (show ∃ xs, SqT _ _ _ xs; exact ⟨_, SqT.of (by (first | assumption | exact upd_same | (rw [upd_ne (by first | assumption | exact Ne.symm (by assumption))]; first | assumption | exact upd_same | (rw [upd_ne (by first | assumption | exact Ne.symm (by assumption))]; first | assumption | exact upd_same))))⟩) | exact DGet.k (k := Sum.inl _) (by (first | assumption | exact upd_same | (rw [upd_ne (by first | assumption | exact Ne.symm (by assumption))]; first | assumption | exact upd_same | (rw [upd_ne (by first | assumption | exact Ne.symm (by assumption))]; first | assumption | exact upd_same)))) | (show V.int _ = kV (Sum.inl _); rfl) | (show ∃ z, V.str _ = V.str z; exact ⟨_, rfl⟩) | exact Or.inl ⟨by (first | decide | omega), by (first | decide | omega)⟩ | exact Or.inr ⟨by (first | decide | omega), by (first | decide | omega)⟩ | exact ⟨by (first | decide | omega), by (first | decide | omega)⟩ | exact ⟨by decide, by decide, by decide⟩ | exact L2.ClsV.ty _ | exact Dt.ty (by assumption) | exact Dt.kint (by assumption) | exact Dt.kbool (by assumption) | exact Dt.ktuple (by assumption) | exact Dt.klist (by assumption) | exact Dt.kstr (by assumption))) | (apply Exists.intro; apply Exists.intro; apply Exists.intro; apply Exists.intro; apply And.intro; focus (first | rfl | assumption | exact upd_same | exact SqL.of (by (first | assumption | exact upd_same | (rw [upd_ne (by first | assumption | exact Ne.symm (by assumption))]; first | assumption | exact upd_same | (rw [upd_ne (by first | assumption | exact Ne.symm (by assumption))]; first | assumption | exact upd_same)))) | exact SqT.of (by (first | assumption | exact upd_same | (rw [upd_ne (by first | assumption | exact Ne.symm (by assumption))]; first | assumption | exact upd_same | (rw [upd_ne (by first | assumption | exact Ne.symm (by assumption))]; first | assumption | exact upd_same)))) | exact Or.inl (SqL.of (by (first | assumption | exact upd_same | (rw [upd_ne (by first | assumption | exact Ne.symm (by assumption))]; first | assumption | exact upd_same | (rw [upd_ne (by first | assumption | exact Ne.symm (by assumption))]; first | assumption | exact upd_same))))) | exact Or.inr (SqT.of (by (first | assumption | exact upd_same | (rw [upd_ne (by first | assumption | exact Ne.symm (by assumption))]; first | assumption | exact upd_same | (rw [upd_ne (by first | assumption | exact Ne.symm (by assumption))]; first | assumption | exact upd_same))))) | exact Or.inl ⟨rfl, _, SqL.of (by (first | assumption | exact upd_same | (rw [upd_ne (by first | assumption | exact Ne.symm (by assumption))]; first | assumption | exact upd_same | (rw [upd_ne (by first | assumption | exact Ne.symm (by assumption))]; first | assumption | exact upd_same))))⟩ | (first | assumption | exact upd_same | (rw [upd_ne (by first | assumption | exact Ne.symm (by assumption))]; first | assumption | exact upd_same | (rw [upd_ne (by first | assumption | exact Ne.symm (by assumption))]; first | assumption | exact upd_same))) | decide | exact Nat.le_of_ble_eq_true rfl | omega | (show ∃ xs, SqL _ _ _ xs; exact ⟨_, SqL.of (by (first | assumption | exact upd_same | (rw [upd_ne (by first | assumption | exact Ne.symm (by assumption))]; first | assumption | exact upd_same | (rw [upd_ne (by first | assumption | exact Ne.symm (by assumption))]; first | assumption | exact upd_same))))⟩) | (show ∃ xs, SqT _ _ _ xs; exact ⟨_, SqT.of (by (first | assumption | exact upd_same | (rw [upd_ne (by first | assumption | exact Ne.symm (by assumption))]; first | assumption | exact upd_same | (rw [upd_ne (by first | assumption | exact Ne.symm (by assumption))]; first | assumption | exact upd_same))))⟩) | exact DGet.k (k := Sum.inl _) (by (first | assumption | exact upd_same | (rw [upd_ne (by first | assumption | exact Ne.symm (by assumption))]; first | assumption | exact upd_same | (rw [upd_ne (by first | assumption | exact Ne.symm (by assumption))]; first | assumption | exact upd_same)))) | (show V.int _ = kV (Sum.inl _); rfl) | (show ∃ z, V.str _ = V.str z; exact ⟨_, rfl⟩) | exact Or.inl ⟨by (first | decide | omega), by (first | decide | omega)⟩ | exact Or.inr ⟨by (first | decide | omega), by (first | decide | omega)⟩ | exact ⟨by (first | decide | omega), by (first | decide | omega)⟩ | exact ⟨by decide, by decide, by decide⟩ | exact L2.ClsV.ty _ | exact Dt.ty (by assumption) | exact Dt.kint (by assumption) | exact Dt.kbool (by assumption) | exact Dt.ktuple (by assumption) | exact Dt.klist (by assumption) | exact Dt.kstr (by assumption))) | (apply Exists.intro; apply Exists.intro; apply Exists.intro; apply Exists.intro; apply Exists.intro; apply And.intro; focus (first | rfl | assumption | exact upd_same | exact SqL.of (by (first | assumption | exact upd_same | (rw [upd_ne (by first | assumption | exact Ne.symm (by assumption))]; first | assumption | exact upd_same | (rw [upd_ne (by first | assumption | exact Ne.symm (by assumption))]; first | assumption | exact upd_same)))) | exact SqT.of (by (first | assumption | exact upd_same | (rw [upd_ne (by first | assumption | exact Ne.symm (by assumption))]; first | assumption | exact upd_same | (rw [upd_ne (by first | assumption | exact Ne.symm (by assumption))]; first | assumption | exact upd_same)))) | exact Or.inl (SqL.of (by (first | assumption | exact upd_same | (rw [upd_ne (by first | assumption | exact Ne.symm (by assumption))]; first | assumption | exact upd_same | (rw [upd_ne (by first | assumption | exact Ne.symm (by assumption))]; first | assumption | exact upd_same))))) | exact Or.inr (SqT.of (by (first | assumption | exact upd_same | (rw [upd_ne (by first | assumption | exact Ne.symm (by assumption))]; first | assumption | exact upd_same | (rw [upd_ne (by first | assumption | exact Ne.symm (by assumption))]; first | assumption | exact upd_same))))) | exact Or.inl ⟨rfl, _, SqL.of (by (first | assumption | exact upd_same | (rw [upd_ne (by first | assumption | exact Ne.symm (by assumption))]; first | assumption | exact upd_same | (rw [upd_ne (by first | assumption | exact Ne.symm (by assumption))]; first | assumption | exact upd_same))))⟩ | (first | assumption | exact upd_same | (rw [upd_ne (by first | assumption | exact Ne.symm (by assumption))]; first | assumption | exact upd_same | (rw [upd_ne (by first | assumption | exact Ne.symm (by assumption))]; first | assumption | exact upd_same))) | decide | exact Nat.le_of_ble_eq_true rfl | omega | (show ∃ xs, SqL _ _ _ xs; exact ⟨_, SqL.of (by (first | assumption | exact upd_same | (rw [upd_ne (by first | assumption | exact Ne.symm (by assumption))]; first | assumption | exact upd_same | (rw [upd_ne (by first | assumption | exact Ne.symm (by assumption))]; first | assumption | exact upd_same))))⟩) | (show ∃ xs, SqT _ _ _ xs; exact ⟨_, SqT.of (by (first | assumption | exact upd_same | (rw [upd_ne (by first | assumption | exact Ne.symm (by assumption))]; first | assumption | exact upd_same | (rw [upd_ne (by first | assumption | exact Ne.symm (by assumption))]; first | assumption | exact upd_same))))⟩) | exact DGet.k (k := Sum.inl _) (by (first | assumption | exact upd_same | (rw [upd_ne (by first | assumption | exact Ne.symm (by assumption))]; first | assumption | exact upd_same | (rw [upd_ne (by first | assumption | exact Ne.symm (by assumption))]; first | assumption | exact upd_same)))) | (show V.int _ = kV (Sum.inl _); rfl) | (show ∃ z, V.str _ = V.str z; exact ⟨_, rfl⟩) | exact Or.inl ⟨by (first | decide | omega), by (first | decide | omega)⟩ | exact Or.inr ⟨by (first | decide | omega), by (first | decide | omega)⟩ | exact ⟨by (first | decide | omega), by (first | decide | omega)⟩ | exact ⟨by decide, by decide, by decide⟩ | exact L2.ClsV.ty _ | exact Dt.ty (by assumption) | exact Dt.kint (by assumption) | exact Dt.kbool (by assumption) | exact Dt.ktuple (by assumption) | exact Dt.klist (by assumption) | exact Dt.kstr (by assumption))) | (apply Exists.intro; apply Exists.intro; apply Exists.intro; apply Exists.intro; apply Exists.intro; apply Exists.intro; apply And.intro; focus (first | rfl | assumption | exact upd_same | exact SqL.of (by (first | assumption | exact upd_same | (rw [upd_ne (by first | assumption | exact Ne.symm (by assumption))]; first | assumption | exact upd_same | (rw [upd_ne (by first | assumption | exact Ne.symm (by assumption))]; first | assumption | exact upd_same)))) | exact SqT.of (by (first | assumption | exact upd_same | (rw [upd_ne (by first | assumption | exact Ne.symm (by assumption))]; first | assumption | exact upd_same | (rw [upd_ne (by first | assumption | exact Ne.symm (by assumption))]; first | assumption | exact upd_same)))) | exact Or.inl (SqL.of (by (first | assumption | exact upd_same | (rw [upd_ne (by first | assumption | exact Ne.symm (by assumption))]; first | assumption | exact upd_same | (rw [upd_ne (by first | assumption | exact Ne.symm (by assumption))]; first | assumption | exact upd_same))))) | exact Or.inr (SqT.of (by (first | assumption | exact upd_same | (rw [upd_ne (by first | assumption | exact Ne.symm (by assumption))]; first | assumption | exact upd_same | (rw [upd_ne (by first | assumption | exact Ne.symm (by assumption))]; first | assumption | exact upd_same))))) | exact Or.inl ⟨rfl, _, SqL.of (by (first | assumption | exact upd_same | (rw [upd_ne (by first | assumption | exact Ne.symm (by assumption))]; first | assumption | exact upd_same | (rw [upd_ne (by first | assumption | exact Ne.symm (by assumption))]; first | assumption | exact upd_same))))⟩ | (first | assumption | exact upd_same | (rw [upd_ne (by first | assumption | exact Ne.symm (by assumption))]; first | assumption | exact upd_same | (rw [upd_ne (by first | assumption | exact Ne.symm (by assumption))]; first | assumption | exact upd_same))) | decide | exact Nat.le_of_ble_eq_true rfl | omega | (show ∃ xs, SqL _ _ _ xs; exact ⟨_, SqL.of (by (first | assumption | exact upd_same | (rw [upd_ne (by first | assumption | exact Ne.symm (by assumption))]; first | assumption | exact upd_same | (rw [upd_ne (by first | assumption | exact Ne.symm (by assumption))]; first | assumption | exact upd_same))))⟩) | (show ∃ xs, SqT _ _ _ xs; exact ⟨_, SqT.of (by (first | assumption | exact upd_same | (rw [upd_ne (by first | assumption | exact Ne.symm (by assumption))]; first | assumption | exact upd_same | (rw [upd_ne (by first | assumption | exact Ne.symm (by assumption))]; first | assumption | exact upd_same))))⟩) | exact DGet.k (k := Sum.inl _) (by (first | assumption | exact upd_same | (rw [upd_ne (by first | assumption | exact Ne.symm (by assumption))]; first | assumption | exact upd_same | (rw [upd_ne (by first | assumption | exact Ne.symm (by assumption))]; first | assumption | exact upd_same)))) | (show V.int _ = kV (Sum.inl _); rfl) | (show ∃ z, V.str _ = V.str z; exact ⟨_, rfl⟩) | exact Or.inl ⟨by (first | decide | omega), by (first | decide | omega)⟩ | exact Or.inr ⟨by (first | decide | omega), by (first | decide | omega)⟩ | exact ⟨by (first | decide | omega), by (first | decide | omega)⟩ | exact ⟨by decide, by decide, by decide⟩ | exact L2.ClsV.ty _ | exact Dt.ty (by assumption) | exact Dt.kint (by assumption) | exact Dt.kbool (by assumption) | exact Dt.ktuple (by assumption) | exact Dt.klist (by assumption) | exact Dt.kstr (by assumption))) | (apply Exists.intro; apply Exists.intro; apply Exists.intro; apply Exists.intro; apply Exists.intro; apply Exists.intro; apply Exists.intro; apply And.intro; focus (first | rfl | assumption | exact upd_same | exact SqL.of (by (first | assumption | exact upd_same | (rw [upd_ne (by first | assumption | exact Ne.symm (by assumption))]; first | assumption | exact upd_same | (rw [upd_ne (by first | assumption | exact Ne.symm (by assumption))]; first | assumption | exact upd_same)))) | exact SqT.of (by (first | assumption | exact upd_same | (rw [upd_ne (by first | assumption | exact Ne.symm (by assumption))]; first | assumption | exact upd_same | (rw [upd_ne (by first | assumption | exact Ne.symm (by assumption))]; first | assumption | exact upd_same)))) | exact Or.inl (SqL.of (by (first | assumption | exact upd_same | (rw [upd_ne (by first | assumption | exact Ne.symm (by assumption))]; first | assumption | exact upd_same | (rw [upd_ne (by first | assumption | exact Ne.symm (by assumption))]; first | assumption | exact upd_same))))) | exact Or.inr (SqT.of (by (first | assumption | exact upd_same | (rw [upd_ne (by first | assumption | exact Ne.symm (by assumption))]; first | assumption | exact upd_same | (rw [upd_ne (by first | assumption | exact Ne.symm (by assumption))]; first | assumption | exact upd_same))))) | exact Or.inl ⟨rfl, _, SqL.of (by (first | assumption | exact upd_same | (rw [upd_ne (by first | assumption | exact Ne.symm (by assumption))]; first | assumption | exact upd_same | (rw [upd_ne (by first | assumption | exact Ne.symm (by assumption))]; first | assumption | exact upd_same))))⟩ | (first | assumption | exact upd_same | (rw [upd_ne (by first | assumption | exact Ne.symm (by assumption))]; first | assumption | exact upd_same | (rw [upd_ne (by first | assumption | exact Ne.symm (by assumption))]; first | assumption | exact upd_same))) | decide | exact Nat.le_of_ble_eq_true rfl | omega | (show ∃ xs, SqL _ _ _ xs; exact ⟨_, SqL.of (by (first | assumption | exact upd_same | (rw [upd_ne (by first | assumption | exact Ne.symm (by assumption))]; first | assumption | exact upd_same | (rw [upd_ne (by first | assumption | exact Ne.symm (by assumption))]; first | assumption | exact upd_same))))⟩) | (show ∃ xs, SqT _ _ _ xs; exact ⟨_, SqT.of (by (first | assumption | exact upd_same | (rw [upd_ne (by first | assumption | exact Ne.symm (by assumption))]; first | assumption | exact upd_same | (rw [upd_ne (by first | assumption | exact Ne.symm (by assumption))]; first | assumption | exact upd_same))))⟩) | exact DGet.k (k := Sum.inl _) (by (first | assumption | exact upd_same | (rw [upd_ne (by first | assumption | exact Ne.symm (by assumption))]; first | assumption | exact upd_same | (rw [upd_ne (by first | assumption | exact Ne.symm (by assumption))]; first | assumption | exact upd_same)))) | (show V.int _ = kV (Sum.inl _); rfl) | (show ∃ z, V.str _ = V.str z; exact ⟨_, rfl⟩) | exact Or.inl ⟨by (first | decide | omega), by (first | decide | omega)⟩ | exact Or.inr ⟨by (first | decide | omega), by (first | decide | omega)⟩ | exact ⟨by (first | decide | omega), by (first | decide | omega)⟩ | exact ⟨by decide, by decide, by decide⟩ | exact L2.ClsV.ty _ | exact Dt.ty (by assumption) | exact Dt.kint (by assumption) | exact Dt.kbool (by assumption) | exact Dt.ktuple (by assumption) | exact Dt.klist (by assumption) | exact Dt.kstr (by assumption))) | (apply Exists.intro; apply Exists.intro; apply Exists.intro; apply Exists.intro; apply Exists.intro; apply Exists.intro; apply Exists.intro; apply Exists.intro; apply And.intro; focus (first | rfl | assumption | exact upd_same | exact SqL.of (by (first | assumption | exact upd_same | (rw [upd_ne (by first | assumption | exact Ne.symm (by assumption))]; first | assumption | exact upd_same | (rw [upd_ne (by first | assumption | exact Ne.symm (by assumption))]; first | assumption | exact upd_same)))) | exact SqT.of (by (first | assumption | exact upd_same | (rw [upd_ne (by first | assumption | exact Ne.symm (by assumption))]; first | assumption | exact upd_same | (rw [upd_ne (by first | assumption | exact Ne.symm (by assumption))]; first | assumption | exact upd_same)))) | exact Or.inl (SqL.of (by (first | assumption | exact upd_same | (rw [upd_ne (by first | assumption | exact Ne.symm (by assumption))]; first | assumption | exact upd_same | (rw [upd_ne (by first | assumption | exact Ne.symm (by assumption))]; first | assumption | exact upd_same))))) | exact Or.inr (SqT.of (by (first | assumption | exact upd_same | (rw [upd_ne (by first | assumption | exact Ne.symm (by assumption))]; first | assumption | exact upd_same | (rw [upd_ne (by first | assumption | exact Ne.symm (by assumption))]; first | assumption | exact upd_same))))) | exact Or.inl ⟨rfl, _, SqL.of (by (first | assumption | exact upd_same | (rw [upd_ne (by first | assumption | exact Ne.symm (by assumption))]; first | assumption | exact upd_same | (rw [upd_ne (by first | assumption | exact Ne.symm (by assumption))]; first | assumption | exact upd_same))))⟩ | (first | assumption | exact upd_same | (rw [upd_ne (by first | assumption | exact Ne.symm (by assumption))]; first | assumption | exact upd_same | (rw [upd_ne (by first | assumption | exact Ne.symm (by assumption))]; first | assumption | exact upd_same))) | decide | exact Nat.le_of_ble_eq_true rfl | omega | (show ∃ xs, SqL _ _ _ xs; exact ⟨_, SqL.of (by (first | assumption | exact upd_same | (rw [upd_ne (by first | assumption | exact Ne.symm (by assumption))]; first | assumption | exact upd_same | (rw [upd_ne (by first | assumption | exact Ne.symm (by assumption))]; first | assumption | exact upd_same))))⟩) | (show ∃ xs, SqT _ _ _ xs; exact ⟨_, SqT.of (by (first | assumption | exact upd_same | (rw [upd_ne (by first | assumption | exact Ne.symm (by assumption))]; first | assumption | exact upd_same | (rw [upd_ne (by first | assumption | exact Ne.symm (by assumption))]; first | assumption | exact upd_same))))⟩) | exact DGet.k (k := Sum.inl _) (by (first | assumption | exact upd_same | (rw [upd_ne (by first | assumption | exact Ne.symm (by assumption))]; first | assumption | exact upd_same | (rw [upd_ne (by first | assumption | exact Ne.symm (by assumption))]; first | assumption | exact upd_same)))) | (show V.int _ = kV (Sum.inl _); rfl) | (show ∃ z, V.str _ = V.str z; exact ⟨_, rfl⟩) | exact Or.inl ⟨by (first | decide | omega), by (first | decide | omega)⟩ | exact Or.inr ⟨by (first | decide | omega), by (first | decide | omega)⟩ | exact ⟨by (first | decide | omega), by (first | decide | omega)⟩ | exact ⟨by decide, by decide, by decide⟩ | exact L2.ClsV.ty _ | exact Dt.ty (by assumption) | exact Dt.kint (by assumption) | exact Dt.kbool (by assumption) | exact Dt.ktuple (by assumption) | exact Dt.klist (by assumption) | exact Dt.kstr (by assumption))) | (apply Exists.intro; apply Exists.intro; apply Exists.intro; apply Exists.intro; apply Exists.intro; apply Exists.intro; apply Exists.intro; apply Exists.intro; apply Exists.intro; apply And.intro; focus (first | rfl | assumption | exact upd_same | exact SqL.of (by (first | assumption | exact upd_same | (rw [upd_ne (by first | assumption | exact Ne.symm (by assumption))]; first | assumption | exact upd_same | (rw [upd_ne (by first | assumption | exact Ne.symm (by assumption))]; first | assumption | exact upd_same)))) | exact SqT.of (by (first | assumption | exact upd_same | (rw [upd_ne (by first | assumption | exact Ne.symm (by assumption))]; first | assumption | exact upd_same | (rw [upd_ne (by first | assumption | exact Ne.symm (by assumption))]; first | assumption | exact upd_same)))) | exact Or.inl (SqL.of (by (first | assumption | exact upd_same | (rw [upd_ne (by first | assumption | exact Ne.symm (by assumption))]; first | assumption | exact upd_same | (rw [upd_ne (by first | assumption | exact Ne.symm (by assumption))]; first | assumption | exact upd_same))))) | exact Or.inr (SqT.of (by (first | assumption | exact upd_same | (rw [upd_ne (by first | assumption | exact Ne.symm (by assumption))]; first | assumption | exact upd_same | (rw [upd_ne (by first | assumption | exact Ne.symm (by assumption))]; first | assumption | exact upd_same))))) | exact Or.inl ⟨rfl, _, SqL.of (by (first | assumption | exact upd_same | (rw [upd_ne (by first | assumption | exact Ne.symm (by assumption))]; first | assumption | exact upd_same | (rw [upd_ne (by first | assumption | exact Ne.symm (by assumption))]; first | assumption | exact upd_same))))⟩ | (first | assumption | exact upd_same | (rw [upd_ne (by first | assumption | exact Ne.symm (by assumption))]; first | assumption | exact upd_same | (rw [upd_ne (by first | assumption | exact Ne.symm (by assumption))]; first | assumption | exact upd_same))) | decide | exact Nat.le_of_ble_eq_true rfl | omega | (show ∃ xs, SqL _ _ _ xs; exact ⟨_, SqL.of (by (first | assumption | exact upd_same | (rw [upd_ne (by first | assumption | exact Ne.symm (by assumption))]; first | assumption | exact upd_same | (rw [upd_ne (by first | assumption | exact Ne.symm (by assumption))]; first | assumption | exact upd_same))))⟩) | (show ∃ xs, SqT _ _ _ xs; exact ⟨_, SqT.of (by (first | assumption | exact upd_same | (rw [upd_ne (by first | assumption | exact Ne.symm (by assumption))]; first | assumption | exact upd_same | (rw [upd_ne (by first | assumption | exact Ne.symm (by assumption))]; first | assumption | exact upd_same))))⟩) | exact DGet.k (k := Sum.inl _) (by (first | assumption | exact upd_same | (rw [upd_ne (by first | assumption | exact Ne.symm (by assumption))]; first | assumption | exact upd_same | (rw [upd_ne (by first | assumption | exact Ne.symm (by assumption))]; first | assumption | exact upd_same)))) | (show V.int _ = kV (Sum.inl _); rfl) | (show ∃ z, V.str _ = V.str z; exact ⟨_, rfl⟩) | exact Or.inl ⟨by (first | decide | omega), by (first | decide | omega)⟩ | exact Or.inr ⟨by (first | decide | omega), by (first | decide | omega)⟩ | exact ⟨by (first | decide | omega), by (first | decide | omega)⟩ | exact ⟨by decide, by decide, by decide⟩ | exact L2.ClsV.ty _ | exact Dt.ty (by assumption) | exact Dt.kint (by assumption) | exact Dt.kbool (by assumption) | exact Dt.ktuple (by assumption) | exact Dt.klist (by assumption) | exact Dt.kstr (by assumption))) | refine Or.inl ⟨_, rfl, ?_⟩ | refine Or.inr ⟨_, rfl, ?_⟩ | refine Or.inr ⟨SqT.of (by (first | assumption | exact upd_same | (rw [upd_ne (by first | assumption | exact Ne.symm (by assumption))]; first | assumption | exact upd_same | (rw [upd_ne (by first | assumption | exact Ne.symm (by assumption))]; first | assumption | exact upd_same)))), SqT.of (by (first | assumption | exact upd_same | (rw [upd_ne (by first | assumption | exact Ne.symm (by assumption))]; first | assumption | exact upd_same | (rw [upd_ne (by first | assumption | exact Ne.symm (by assumption))]; first | assumption | exact upd_same)))), ?_⟩ | refine Or.inl ⟨SqL.of (by (first | assumption | exact upd_same | (rw [upd_ne (by first | assumption | exact Ne.symm (by assumption))]; first | assumption | exact upd_same | (rw [upd_ne (by first | assumption | exact Ne.symm (by assumption))]; first | assumption | exact upd_same)))), SqL.of (by (first | assumption | exact upd_same | (rw [upd_ne (by first | assumption | exact Ne.symm (by assumption))]; first | assumption | exact upd_same | (rw [upd_ne (by first | assumption | exact Ne.symm (by assumption))]; first | assumption | exact upd_same)))), ?_⟩ | refine Or.inl ⟨SqL.of (by (first | assumption | exact upd_same | (rw [upd_ne (by first | assumption | exact Ne.symm (by assumption))]; first | assumption | exact upd_same | (rw [upd_ne (by first | assumption | exact Ne.symm (by assumption))]; first | assumption | exact upd_same)))), ?_⟩ | refine Or.inr ⟨SqT.of (by (first | assumption | exact upd_same | (rw [upd_ne (by first | assumption | exact Ne.symm (by assumption))]; first | assumption | exact upd_same | (rw [upd_ne (by first | assumption | exact Ne.symm (by assumption))]; first | assumption | exact upd_same)))), ?_⟩ | refine ifT rfl ?_ | refine ifF rfl ?_))
/-- a number's figures to the base 128 -/
def whN (n : Nat) : List Int := if h : n < 128 then [(n : Int)] else (128 + (n % 128 : Nat) : Int) :: whN (n / 128)
termination_by n
decreasing_by omega
theorem whN_lt {n : Nat} (h : n < 128) : whN n = [(n : Int)] := by rw [whN, dif_pos h]
theorem whN_ge {n : Nat} (h : ¬ n < 128) : whN n = (128 + (n % 128 : Nat) : Int) :: whN (n / 128) := by rw [whN, dif_neg h]
theorem whN_len : ∀ (j n : Nat), n < 128 ^ (j + 1) → (whN n).length ≤ j + 1
  | 0, n, h => by rw [whN_lt (by simpa using h)]; simp
  | j + 1, n, h => by
    by_cases c : n < 128
    · rw [whN_lt c]; simp
    · rw [whN_ge c, List.length_cons]
      have := whN_len j (n / 128) (by rw [Nat.pow_succ] at h; exact Nat.div_lt_of_lt_mul (by rw [Nat.mul_comm]; exact h))
      omega
def spWhole : Sp := fun vs H Q _ => ∃ n : Nat, vs = [.int (n : Int)] ∧ n < 128 ^ 6000 ∧ ∀ p H', Same H H' → H p = none → H' p = some (.lst ((whN n).map V.int)) → Q (.ref p) H'
section
variable {P : Program} {w : World} {K : PySem.W.Frag} {mg : Str → Option Value} {base : Heap} {t1 t2 t3 t4 : Tok}
theorem d_whole_of (F : FunAt K mg "whole_of" s_whole_of) (g_BASE : mg "BASE" = some (.int 128 t1)) : Has P w K mg base 1 "whole_of" ["number"] spWhole := by
  refine mk_has F sc_whole_of (fun _ _ _ _ _ _ us hl => match us, hl with | [_], _ => rfl) (fun vs H Q E h => ?_) fun f cdv A outer s H vs Q E hr h => ?_
  · obtain ⟨n, rfl, _⟩ := h
    rfl
  obtain ⟨n, rfl, hn, k⟩ := h
  have hl := whN_len 5999 n hn
  refine ⟨_, (pss_cons (ps_set (i := 1) sc_whole_of.nd rfl (Or.inl rfl) (pe_lst pa_nil))
    (pss_cons (ps_set (i := 2) sc_whole_of.nd rfl (Or.inl rfl) (pv 0))
    (pss_cons (ps_while PassesOwn.never (pt_cmpR op_ge (pv 2) (pe_glob (v := .int 128) rfl g_BASE ⟨_, rfl⟩) (nomark _))
    (pss_cons (ps_expr (pe_bm PySem.F.plainAttrs_list PySem.F.slot_list_append PySem.F.type_list_append mt_append (pv 1) (pa_cons (pe_op op_add (pe_glob (v := .int 128) rfl g_BASE ⟨_, rfl⟩) (pe_op op_modN (pv 2) (pe_glob (v := .int 128) rfl g_BASE ⟨_, rfl⟩))) pa_nil)))
    (pss_one (ps_aug (i := 2) sc_whole_of.nd rfl (Or.inl rfl) (pe_glob (v := .int 128) rfl g_BASE ⟨_, rfl⟩) iop_fdiv))))
    (pss_one (ps_ret (pe_op op_cat (pv 1) (pe_lst (pa_cons (pv 2) pa_nil)))))))), ?_⟩
  trivial
  intro D nD
  trivial
  refine while_by (fun σ H' => ∃ (fs : List Int) (m : Nat), σ = [some (.int (n : Int)), some (.ref D), some (.int (m : Int))] ∧ Same H H' ∧ H' D = some (.lst (fs.map V.int)) ∧ fs ++ whN m = whN n) (fun σ _ => match σ[2]? with | some (some (V.int m)) => m.toNat | _ => 0) ?_ ?_ ?_
  · exact ⟨[], n, rfl, same_new0 nD, upd_same, rfl⟩
  · rintro σ H1 ⟨fs, m, rfl, s1, e1, el⟩
    trivial
    refine ite2 (fun c => ?_) (fun c => ?_)
    · have c' : ¬ m < 128 := by have := of_decide_eq_true c; omega
      have hf : fs.length + (whN m).length ≤ 6000 := by rw [← List.length_append, el]; exact hl
      trivial
      refine ⟨by rw [sizeLine_eq, List.length_map]; omega, ?_⟩
      rw [whN_ge c'] at el
      trivial
      refine ⟨⟨fs ++ [(128 : Int) + ((m % 128 : Nat) : Int)], m / 128, ?_, sput s1 nD, ?_, by rw [List.append_assoc]; exact el⟩, ?_⟩
      · show [some (V.int (n : Int)), some (V.ref D), some (V.int ((m : Int) / 128))] = _
        rw [show (m : Int) / 128 = ((m / 128 : Nat) : Int) by omega]
      · rw [upd_same, List.map_append]
        show some (HO.lst (fs.map V.int ++ [V.int (128 + (m : Int).fmod 128)])) = _
        rw [Int.fmod_eq_emod_of_nonneg _ (by decide)]
        rfl
      · show ((m : Int) / 128).toNat < (m : Int).toNat
        omega
    · have c' : m < 128 := by have := of_decide_eq_false (Bool.eq_false_iff.mpr c); omega
      rw [whN_lt c'] at el
      have hf : fs.length ≤ 6000 := by rw [← el] at hl; simp at hl; omega
      trivial
      intro p np
      have nDp : D ≠ p := ne_of_none e1 np
      refine ⟨D, p, fs.map V.int, [.int (m : Int)], rfl, rfl, by rw [upd_ne nDp]; exact e1, upd_same, by rw [sizeLine_eq, List.length_map]; simp; omega, fun p2 n2 => ?_⟩
      have s2 := snew (o := .lst [.int (m : Int)]) s1 np
      exact k p2 _ (snew s2 n2) (s2.free n2) (by rw [upd_same, ← el, List.map_append]; rfl)
  · rintro σ H Q Q' hQ ⟨v, h1, i, j, e1, e2, b, e3, q⟩
    exact ⟨v, h1, i, j, e1, e2, b, e3, hQ _ _ q⟩
theorem d_law_whole (F : FunAt K mg "_law_whole" s_law_whole) : Has P w K mg base 1 "_law_whole" ["number"] spWhole := by
  refine mk_has F sc_law_whole (fun _ _ _ _ _ _ us hl => match us, hl with | [_], _ => rfl) (fun vs H Q E h => ?_) fun f cdv A outer s H vs Q E hr h => ?_
  · obtain ⟨n, rfl, _⟩ := h
    rfl
  obtain ⟨n, rfl, hn, k⟩ := h
  have hl := whN_len 5999 n hn
  refine ⟨_, (pss_cons (ps_set (i := 1) sc_law_whole.nd rfl (Or.inl rfl) (pe_lst pa_nil))
    (pss_cons (ps_while PassesOwn.never (pt_cmpR op_gt (pv 0) pe_int (nomark _))
    (pss_cons (ps_expr (pe_bm PySem.F.plainAttrs_list PySem.F.slot_list_append PySem.F.type_list_append mt_append (pv 1) (pa_cons (pe_op op_add (pe_op op_mod (pv 0) pe_int) pe_int) pa_nil)))
    (pss_one (ps_set (i := 0) sc_law_whole.nd rfl (Or.inl rfl) (pe_op op_fdiv (pv 0) pe_int)))))
    (pss_one (ps_ret (pe_op op_cat (pv 1) (pe_lst (pa_cons (pv 0) pa_nil))))))), ?_⟩
  trivial
  intro D nD
  trivial
  refine while_by (fun σ H' => ∃ (fs : List Int) (m : Nat), σ = [some (.int (m : Int)), some (.ref D)] ∧ Same H H' ∧ H' D = some (.lst (fs.map V.int)) ∧ fs ++ whN m = whN n) (fun σ _ => match σ[0]? with | some (some (V.int m)) => m.toNat | _ => 0) ?_ ?_ ?_
  · exact ⟨[], n, rfl, same_new0 nD, upd_same, rfl⟩
  · rintro σ H1 ⟨fs, m, rfl, s1, e1, el⟩
    trivial
    refine ite2 (fun c => ?_) (fun c => ?_)
    · have c' : ¬ m < 128 := by have := of_decide_eq_true c; omega
      have hf : fs.length + (whN m).length ≤ 6000 := by rw [← List.length_append, el]; exact hl
      trivial
      refine ⟨by rw [sizeLine_eq, List.length_map]; omega, ?_⟩
      rw [whN_ge c'] at el
      trivial
      refine ⟨⟨fs ++ [(128 : Int) + ((m % 128 : Nat) : Int)], m / 128, ?_, sput s1 nD, ?_, by rw [List.append_assoc]; exact el⟩, ?_⟩
      · show [some (V.int ((m : Int) / 128)), some (V.ref D)] = _
        rw [show (m : Int) / 128 = ((m / 128 : Nat) : Int) by omega]
      · rw [upd_same, List.map_append]
        show some (HO.lst (fs.map V.int ++ [V.int ((m : Int) % 128 + 128)])) = _
        rw [Int.add_comm]
        rfl
      · show ((m : Int) / 128).toNat < (m : Int).toNat
        omega
    · have c' : m < 128 := by have := of_decide_eq_false (Bool.eq_false_iff.mpr c); omega
      rw [whN_lt c'] at el
      have hf : fs.length ≤ 6000 := by rw [← el] at hl; simp at hl; omega
      trivial
      intro p np
      have nDp : D ≠ p := ne_of_none e1 np
      refine ⟨D, p, fs.map V.int, [.int (m : Int)], rfl, rfl, by rw [upd_ne nDp]; exact e1, upd_same, by rw [sizeLine_eq, List.length_map]; simp; omega, fun p2 n2 => ?_⟩
      have s2 := snew (o := .lst [.int (m : Int)]) s1 np
      exact k p2 _ (snew s2 n2) (s2.free n2) (by rw [upd_same, ← el, List.map_append]; rfl)
  · rintro σ H Q Q' hQ ⟨v, h1, i, j, e1, e2, b, e3, q⟩
    exact ⟨v, h1, i, j, e1, e2, b, e3, hQ _ _ q⟩
end
end KQ
set_option Elab.async false
set_option maxRecDepth 100000
set_option maxHeartbeats 4000000
namespace KQ
open PySem PySem.Spec PyProof.Rows L2
local macro_rules | `(tactic| trivial) => `(tactic| repeat (first | (apply And.intro; focus (first | rfl | assumption | exact upd_same | exact SqL.of (by (first | assumption | exact upd_same | (rw [upd_ne (by first | assumption | exact Ne.symm (by assumption))]; first | assumption | exact upd_same | (rw [upd_ne (by first | assumption | exact Ne.symm (by assumption))]; first | assumption | exact upd_same)))) | exact SqT.of (by (first | assumption | exact upd_same | (rw [upd_ne (by first | assumption | exact Ne.symm (by assumption))]; first | assumption | exact upd_same | (rw [upd_ne (by first | assumption | exact Ne.symm (by assumption))]; first | assumption | exact upd_same)))) | exact Or.inl (SqL.of (by (first | assumption | exact upd_same | (rw [upd_ne (by first | assumption | exact Ne.symm (by assumption))]; first | assumption | exact upd_same | (rw [upd_ne (by first | assumption | exact Ne.symm (by assumption))]; first | assumption | exact upd_same))))) | exact Or.inr (SqT.of (by (first | assumption | exact upd_same | (rw [upd_ne (by first | assumption | exact Ne.symm (by assumption))]; first | assumption | exact upd_same | (rw [upd_ne (by first | assumption | exact Ne.symm (by assumption))]; first | assumption | exact upd_same))))) | exact Or.inl ⟨rfl, _, SqL.of (by (first | assumption | exact upd_same | (rw [upd_ne (by first | assumption | exact Ne.symm (by assumption))]; first | assumption | exact upd_same | (rw [upd_ne (by first | assumption | exact Ne.symm (by assumption))]; first | assumption | exact upd_same))))⟩ | (first | assumption | exact upd_same | (rw [upd_ne (by first | assumption | exact Ne.symm (by assumption))]; first | assumption | exact upd_same | (rw [upd_ne (by first | assumption | exact Ne.symm (by assumption))]; first | assumption | exact upd_same))) | decide | exact Nat.le_of_ble_eq_true rfl | omega | (show ∃ xs, SqL _ _ _ xs; exact ⟨_, SqL.of (by (first | assumption | exact upd_same | (rw [upd_ne (by first | assumption | exact Ne.symm (by assumption))]; first | assumption | exact upd_same | (rw [upd_ne (by first | assumption | exact Ne.symm (by assumption))]; first | assumption | exact upd_same))))⟩) | (show ∃ xs, SqT _ _ _ xs; exact ⟨_, SqT.of (by (first | assumption | exact upd_same | (rw [upd_ne (by first | assumption | exact Ne.symm (by assumption))]; first | assumption | exact upd_same | (rw [upd_ne (by first | assumption | exact Ne.symm (by assumption))]; first | assumption | exact upd_same))))⟩) | exact DGet.k (k := Sum.inl _) (by (first | assumption | exact upd_same | (rw [upd_ne (by first | assumption | exact Ne.symm (by assumption))]; first | assumption | exact upd_same | (rw [upd_ne (by first | assumption | exact Ne.symm (by assumption))]; first | assumption | exact upd_same)))) | (show V.int _ = kV (Sum.inl _); rfl) | (show ∃ z, V.str _ = V.str z; exact ⟨_, rfl⟩) | exact Or.inl ⟨by (first | decide | omega), by (first | decide | omega)⟩ | exact Or.inr ⟨by (first | decide | omega), by (first | decide | omega)⟩ | exact ⟨by (first | decide | omega), by (first | decide | omega)⟩ | exact ⟨by decide, by decide, by decide⟩ | exact L2.ClsV.ty _ | exact Dt.ty (by assumption) | exact Dt.kint (by assumption) | exact Dt.kbool (by assumption) | exact Dt.ktuple (by assumption) | exact Dt.klist (by assumption) | exact Dt.kstr (by assumption))) | (apply Exists.intro; apply And.intro; focus (first | rfl | assumption | exact upd_same | exact SqL.of (by (first | assumption | exact upd_same | (rw [upd_ne (by first | assumption | exact Ne.symm (by assumption))]; first | assumption | exact upd_same | (rw [upd_ne (by first | assumption | exact Ne.symm (by assumption))]; first | assumption | exact upd_same)))) | exact SqT.of (by (first | assumption | exact upd_same | (rw [upd_ne (by first | assumption | exact Ne.symm (by assumption))]; first | assumption | exact upd_same | (rw [upd_ne (by first | assumption | exact Ne.symm (by assumption))]; first | assumption | exact upd_same)))) | exact Or.inl (SqL.of (by (first | assumption | exact upd_same | (rw [upd_ne (by first | assumption | exact Ne.symm (by assumption))]; first | assumption | exact upd_same | (rw [upd_ne (by first | assumption | exact Ne.symm (by assumption))]; first | assumption | exact upd_same))))) | exact Or.inr (SqT.of (by (first | assumption | exact upd_same | (rw [upd_ne (by first | assumption | exact Ne.symm (by assumption))]; first | assumption | exact upd_same | (rw [upd_ne (by first | assumption | exact Ne.symm (by assumption))]; first | assumption | exact upd_same))))) | exact Or.inl ⟨rfl, _, SqL.of (by (first | assumption | exact upd_same | (rw [upd_ne (by first | assumption | exact Ne.symm (by assumption))]; first | assumption | exact upd_same | (rw [upd_ne (by first | assumption | exact Ne.symm (by assumption))]; first | assumption | exact upd_same))))⟩ | (first | assumption | exact upd_same | (rw [upd_ne (by first | assumption | exact Ne.symm (by assumption))]; first | assumption | exact upd_same | (rw [upd_ne (by first | assumption | exact Ne.symm (by assumption))]; first | assumption | exact upd_same))) | decide | exact Nat.le_of_ble_eq_true rfl | omega | (show ∃ xs, SqL _ _ _ xs; exact ⟨_, SqL.of (by (first | assumption | exact upd_same | (rw [upd_ne (by first | assumption | exact Ne.symm (by assumption))]; first | assumption | exact upd_same | (rw [upd_ne (by first | assumption | exact Ne.symm (by assumption))]; first | assumption | exact upd_same))))⟩) | (show ∃ xs, SqT _ _ _ xs; exact ⟨_, SqT.of (by (first | assumption | exact upd_same | (rw [upd_ne (by first | assumption | exact Ne.symm (by assumption))]; first | assumption | exact upd_same | (rw [upd_ne (by first | assumption | exact Ne.symm (by assumption))]; first | assumption | exact upd_same))))⟩) | exact DGet.k (k := Sum.inl _) (by (first | assumption | exact upd_same | (rw [upd_ne (by first | assumption | exact Ne.symm (by assumption))]; first | assumption | exact upd_same | (rw [upd_ne (by first | assumption | exact Ne.symm (by assumption))]; first | assumption | exact upd_same)))) | (show V.int _ = kV (Sum.inl _); rfl) | (show ∃ z, V.str _ = V.str z; exact ⟨_, rfl⟩) | exact Or.inl ⟨by (first | decide | omega), by (first | decide | omega)⟩ | exact Or.inr ⟨by (first | decide | omega), by (first | decide | omega)⟩ | exact ⟨by (first | decide | omega), by (first | decide | omega)⟩ | exact ⟨by decide, by decide, by decide⟩ | exact L2.ClsV.ty _ | exact Dt.ty (by assumption) | exact Dt.kint (by assumption) | exact Dt.kbool (by assumption) | exact Dt.ktuple (by assumption) | exact Dt.klist (by assumption) | exact Dt.kstr (by assumption))) | (apply Exists.intro; apply Exists.intro; apply And.intro; focus (first | rfl | assumption | exact upd_same | exact SqL.of (by (first | assumption | exact upd_same | (rw [upd_ne (by first | assumption | exact Ne.symm (by assumption))]; first | assumption | exact upd_same | (rw [upd_ne (by first | assumption | exact Ne.symm (by assumption))]; first | assumption | exact upd_same)))) | exact SqT.of (by (first | assumption | exact upd_same | (rw [upd_ne (by first | assumption | exact Ne.symm (by assumption))]; first | assumption | exact upd_same | (rw [upd_ne (by first | assumption | exact Ne.symm (by assumption))]; first | assumption | exact upd_same)))) | exact Or.inl (SqL.of (by (first | assumption | exact upd_same | (rw [upd_ne (by first | assumption | exact Ne.symm (by assumption))]; first | assumption | exact upd_same | (rw [upd_ne (by first | assumption | exact Ne.symm (by assumption))]; first | assumption | exact upd_same))))) | exact Or.inr (SqT.of (by (first | assumption | exact upd_same | (rw [upd_ne (by first | assumption | exact Ne.symm (by assumption))]; first | assumption | exact upd_same | (rw [upd_ne (by first | assumption | exact Ne.symm (by assumption))]; first | assumption | exact upd_same))))) | exact Or.inl ⟨rfl, _, SqL.of (by (first | assumption | exact upd_same | (rw [upd_ne (by first | assumption | exact Ne.symm (by assumption))]; first | assumption | exact upd_same | (rw [upd_ne (by first | assumption | exact Ne.symm (by assumption))]; first | assumption | exact upd_same))))⟩ | (first | assumption | exact upd_same | (rw [upd_ne (by first | assumption | exact Ne.symm (by assumption))]; first | assumption | exact upd_same | (rw [upd_ne (by first | assumption | exact Ne.symm (by assumption))]; first | assumption | exact upd_same))) | decide | exact Nat.le_of_ble_eq_true rfl | omega | (show ∃ xs, SqL _ _ _ xs; exact ⟨_, SqL.of (by (first | assumption | exact upd_same | (rw [upd_ne (by first | assumption | exact Ne.symm (by assumption))]; first | assumption | exact upd_same | (rw [upd_ne (by first | assumption | exact Ne.symm (by assumption))]; first | assumption | exact upd_same))))⟩) | (show ∃ xs, SqT _ _ _ xs; exact ⟨_, SqT.of (by (first | assumption | exact upd_same | (rw [upd_ne (by first | assumption | exact Ne.symm (by assumption))]; first | assumption | exact upd_same | (rw [upd_ne (by first | assumption | exact Ne.symm (by assumption))]; first | assumption | exact upd_same))))⟩) | exact DGet.k (k := Sum.inl _) (by (first | assumption | exact upd_same | (rw [upd_ne (by first | assumption | exact Ne.symm (by assumption))]; first | assumption | exact upd_same | (rw [upd_ne (by first | assumption | exact Ne.symm (by assumption))]; first | assumption | exact upd_same)))) | (show V.int _ = kV (Sum.inl _); rfl) | (show ∃ z, V.str _ = V.str z; exact ⟨_, rfl⟩) | exact Or.inl ⟨by (first | decide | omega), by (first | decide | omega)⟩ | exact Or.inr ⟨by (first | decide | omega), by (first | decide | omega)⟩ | exact ⟨by (first | decide | omega), by (first | decide | omega)⟩ | exact ⟨by decide, by decide, by decide⟩ | exact L2.ClsV.ty _ | exact Dt.ty (by assumption) | exact Dt.kint (by assumption) | exact Dt.kbool (by assumption) | exact Dt.ktuple (by assumption) | exact Dt.klist (by assumption) | exact Dt.kstr (by assumption))) | (apply Exists.intro; apply Exists.intro; apply Exists.intro; apply And.intro; focus (first | rfl | assumption | exact upd_same | exact SqL.of (by (first | assumption | exact upd_same | (rw [upd_ne (by first | assumption | exact Ne.symm (by assumption))]; first | assumption | exact upd_same | (rw [upd_ne (by first | assumption | exact Ne.symm (by assumption))]; first | assumption | exact upd_same)))) | exact SqT.of (by (first | assumption | exact upd_same | (rw [upd_ne (by first | assumption | exact Ne.symm (by assumption))]; first | assumption | exact upd_same | (rw [upd_ne (by first | assumption | exact Ne.symm (by assumption))]; first | assumption | exact upd_same)))) | exact Or.inl (SqL.of (by (first | assumption | exact upd_same | (rw [upd_ne (by first | assumption | exact Ne.symm (by assumption))]; first | assumption | exact upd_same | (rw [upd_ne (by first | assumption | exact Ne.symm (by assumption))]; first | assumption | exact upd_same))))) | exact Or.inr (SqT.of (by (first | assumption | exact upd_same | (rw [upd_ne (by first | assumption | exact Ne.symm (by assumption))]; first | assumption | exact upd_same | (rw [upd_ne (by first | assumption | exact Ne.symm (by assumption))]; first | assumption | exact upd_same))))) | exact Or.inl ⟨rfl, _, SqL.of (by (first | assumption | exact upd_same | (rw [upd_ne (by first | assumption | exact Ne.symm (by assumption))]; first | assumption | exact upd_same | (rw [upd_ne (by first | assumption | exact Ne.symm (by assumption))]; first | assumption | exact upd_same))))⟩ | (first | assumption | exact upd_same | (rw [upd_ne (by first | assumption | exact Ne.symm (by assumption))]; first | assumption | exact upd_same | (rw [upd_ne (by first | assumption | exact Ne.symm (by assumption))]; first | assumption | exact upd_same))) | decide | exact Nat.le_of_ble_eq_true rfl | omega | (show ∃ xs, SqL _ _ _ xs; exact ⟨_, SqL.of (by (first | assumption | exact upd_same | (rw [upd_ne (by first | assumption | exact Ne.symm (by assumption))]; first | assumption | exact upd_same | (rw [upd_ne (by first | assumption | exact Ne.symm (by assumption))]; first | assumption | exact upd_same))))⟩) | (show ∃ xs, SqT _ _ _ xs; exact ⟨_, SqT.of (by (first | assumption | exact upd_same | (rw [upd_ne (by first | assumption | exact Ne.symm (by assumption))]; first | assumption | exact upd_same | (rw [upd_ne (by first | assumption | exact Ne.symm (by assumption))]; first | assumption | exact upd_same))))⟩) | exact DGet.k (k := Sum.inl _) (by (first | assumption | exact upd_same | (rw [upd_ne (by first | assumption | exact Ne.symm (by assumption))]; first | assumption | exact upd_same | (rw [upd_ne (by first | assumption | exact Ne.symm (by assumption))]; first | assumption | exact upd_same)))) | (show V.int _ = kV (Sum.inl _); rfl) | (show ∃ z, V.str _ = V.str z; exact ⟨_, rfl⟩) | exact Or.inl ⟨by (first | decide | omega), by (first | decide | omega)⟩ | exact Or.inr ⟨by (first | decide | omega), by (first | decide | omega)⟩ | exact ⟨by (first | decide | omega), by (first | decide | omega)⟩ | exact ⟨by decide, by decide, by decide⟩ | exact L2.ClsV.ty _ | exact Dt.ty (by assumption) | exact Dt.kint (by assumption) | exact Dt.kbool (by assumption) | exact Dt.ktuple (by assumption) | exact Dt.klist (by assumption) | exact Dt.kstr (by assumption))) | (apply Exists.intro; apply Exists.intro; apply Exists.intro; apply Exists.intro; apply And.intro; focus (first | rfl | assumption | exact upd_same | exact SqL.of (by (first | assumption | exact upd_same | (rw [upd_ne (by first | assumption | exact Ne.symm (by assumption))]; first | assumption | exact upd_same | (rw [upd_ne (by first | assumption | exact Ne.symm (by assumption))]; first | assumption | exact upd_same)))) | exact SqT.of (by (first | assumption | exact upd_same | (rw [upd_ne (by first | assumption | exact Ne.symm (by assumption))]; first | assumption | exact upd_same | (rw [upd_ne (by first | assumption | exact Ne.symm (by assumption))]; first | assumption | exact upd_same)))) | exact Or.inl (SqL.of (by (first | assumption | exact upd_same | (rw [upd_ne (by first | assumption | exact Ne.symm (by assumption))]; first | assumption | exact upd_same | (rw [upd_ne (by first | assumption | exact Ne.symm (by assumption))]; first | assumption | exact upd_same))))) | exact Or.inr (SqT.of (by (first | assumption | exact upd_same | (rw [upd_ne (by first | assumption | exact Ne.symm (by assumption))]; first | assumption | exact upd_same | (rw [upd_ne (by first | assumption | exact Ne.symm (by assumption))]; first | assumption | exact upd_same))))) | exact Or.inl ⟨rfl, _, SqL.of (by (first | assumption | exact upd_same | (rw [upd_ne (by first | assumption | exact Ne.symm (by assumption))]; first | assumption | exact upd_same | (rw [upd_ne (by first | assumption | exact Ne.symm (by assumption))]; first | assumption | exact upd_same))))⟩ | (first | assumption | exact upd_same | (rw [upd_ne (by first | assumption | exact Ne.symm (by assumption))]; first | assumption | exact upd_same | (rw [upd_ne (by first | assumption | exact Ne.symm (by assumption))]; first | assumption | exact upd_same))) | decide | exact Nat.le_of_ble_eq_true rfl | omega | (show ∃ xs, SqL _ _ _ xs; exact ⟨_, SqL.of (by (first | assumption | exact upd_same | (rw [upd_ne (by first | assumption | exact Ne.symm (by assumption))]; first | assumption | exact upd_same | (rw [upd_ne (by first | assumption | exact Ne.symm (by assumption))]; first | assumption | exact upd_same))))⟩) | (show ∃ xs, SqT _ _ _ xs; exact ⟨_, SqT.of (by (first | assumption | exact upd_same | (rw [upd_ne (by first | assumption | exact Ne.symm (by assumption))]; first | assumption | exact upd_same | (rw [upd_ne (by first | assumption | exact Ne.symm (by assumption))]; first | assumption | exact upd_same))))⟩) | exact DGet.k (k := Sum.inl _) (by (first | assumption | exact upd_same | (rw [upd_ne (by first | assumption | exact Ne.symm (by assumption))]; first | assumption | exact upd_same | (rw [upd_ne (by first | assumption | exact Ne.symm (by assumption))]; first | assumption | exact upd_same)))) | (show V.int _ = kV (Sum.inl _); rfl) | (show ∃ z, V.str _ = V.str z; exact ⟨_, rfl⟩) | exact Or.inl ⟨by (first | decide | omega), by (first | decide | omega)⟩ | exact Or.inr ⟨by (first | decide | omega), by (first | decide | omega)⟩ | exact ⟨by (first | decide | omega), by (first | decide | omega)⟩ | exact ⟨by decide, by decide, by decide⟩ | exact L2.ClsV.ty _ | exact Dt.ty (by assumption) | exact Dt.kint (by assumption) | exact Dt.kbool (by assumption) | exact Dt.ktuple (by assumption) | exact Dt.klist (by assumption) | exact Dt.kstr (by assumption))) | (apply Exists.intro; apply Exists.intro; apply Exists.intro; apply Exists.intro; apply Exists.intro; apply And.intro; focus (first | rfl | assumption | exact upd_same | exact SqL.of (by (first | assumption | exact upd_same | (rw [upd_ne (by first | assumption | exact Ne.symm (by assumption))]; first | assumption | exact upd_same | (rw [upd_ne (by first | assumption | exact Ne.symm (by assumption))]; first | assumption | exact upd_same)))) | exact SqT.of (by (first | assumption | exact upd_same | (rw [upd_ne (by first | assumption | exact Ne.symm (by assumption))]; first | assumption | exact upd_same | (rw [upd_ne (by first | assumption | exact Ne.symm (by assumption))]; first | assumption | exact upd_same)))) | exact Or.inl (SqL.of (by (first | assumption | exact upd_same | (rw [upd_ne (by first | assumption | exact Ne.symm (by assumption))]; first | assumption | exact upd_same | (rw [upd_ne (by first | assumption | exact Ne.symm (by assumption))]; first | assumption | exact upd_same))))) | exact Or.inr (SqT.of (by (first | assumption | exact upd_same | (rw [upd_ne (by first | assumption | exact Ne.symm (by assumption))]; first | assumption | exact upd_same | (rw [upd_ne (by first | assumption | exact Ne.symm (by assumption))]; first | assumption | exact upd_same))))) | exact Or.inl ⟨rfl, _, SqL.of (by (first | assumption | exact upd_same | (rw [upd_ne (by first | assumption | exact Ne.symm (by assumption))]; first | assumption | exact upd_same | (rw [upd_ne (by first | assumption | exact Ne.symm (by assumption))]; first | assumption | exact upd_same))))⟩ | (first | assumption | exact upd_same | (rw [upd_ne (by first | assumption | exact Ne.symm (by assumption))]; first | assumption | exact upd_same | (rw [upd_ne (by first | assumption | exact Ne.symm (by assumption))]; first | assumption | exact upd_same))) | decide | exact Nat.le_of_ble_eq_true rfl | omega | (show ∃ xs, SqL _ _ _ xs; exact ⟨_, SqL.of (by (first | assumption | exact upd_same | (rw [upd_ne (by first | assumption | exact Ne.symm (by assumption))]; first | assumption | exact upd_same | (rw [upd_ne (by first | assumption | exact Ne.symm (by assumption))]; first | assumption | exact upd_same))))⟩) | (show ∃ xs, SqT _ _ _ xs; exact ⟨_, SqT.of (by (first | assumption | exact upd_same | (rw [upd_ne (by first | assumption | exact Ne.symm (by assumption))]; first | assumption | exact upd_same | (rw [upd_ne (by first | assumption | exact Ne.symm (by assumption))]; first | assumption | exact upd_same))))⟩) | exact DGet.k (k := Sum.inl _) (by (first | assumption | exact upd_same | (rw [upd_ne (by first | assumption | exact Ne.symm (by assumption))]; first | assumption | exact upd_same | (rw [upd_ne (by first | assumption | exact Ne.symm (by assumption))]; first | assumption | exact upd_same)))) | (show V.int _ = kV (Sum.inl _); rfl) | (show ∃ z, V.str _ = V.str z; exact ⟨_, rfl⟩) | exact Or.inl ⟨by (first | decide | omega), by (first | decide | omega)⟩ | exact Or.inr ⟨by (first | decide | omega), by (first | decide | omega)⟩ | exact ⟨by (first | decide | omega), by (first | decide | omega)⟩ | exact ⟨by decide, by decide, by decide⟩ | exact L2.ClsV.ty _ | exact Dt.ty (by assumption) | exact Dt.kint (by assumption) | exact Dt.kbool (by assumption) | exact Dt.ktuple (by assumption) | exact Dt.klist (by assumption) | exact Dt.kstr (by assumption))) | (apply Exists.intro; apply Exists.intro; apply Exists.intro; apply Exists.intro; apply Exists.intro; apply Exists.intro; apply And.intro; focus (first | rfl | assumption | exact upd_same | exact SqL.of (by (first | assumption | exact upd_same | (rw [upd_ne (by first | assumption | exact Ne.symm (by assumption))]; first | assumption | exact upd_same | (rw [upd_ne (by first | assumption | exact Ne.symm (by assumption))]; first | assumption | exact upd_same)))) | exact SqT.of (by (first | assumption | exact upd_same | (rw [upd_ne (by first | assumption | exact Ne.symm (by assumption))]; first | assumption | exact upd_same | (rw [upd_ne (by first | assumption | exact Ne.symm (by assumption))]; first | assumption | exact upd_same)))) | exact Or.inl (SqL.of (by (first | assumption | exact upd_same | (rw [upd_ne (by first | assumption | exact Ne.symm (by assumption))]; first | assumption | exact upd_same | (rw [upd_ne (by first | assumption | exact Ne.symm (by assumption))]; first | assumption | exact upd_same))))) | exact Or.inr (SqT.of (by (first | assumption | exact upd_same | (rw [upd_ne (by first | assumption | exact Ne.symm (by assumption))]; first | assumption | exact upd_same | (rw [upd_ne (by first | assumption | exact Ne.symm (by assumption))]; first | assumption | exact upd_same))))) | exact Or.inl ⟨rfl, _, SqL.of (by (first | assumption | exact upd_same | (rw [upd_ne (by first | assumption | exact Ne.symm (by assumption))]; first | assumption | exact upd_same | (rw [upd_ne (by first | assumption | exact Ne.symm (by assumption))]; first | assumption | exact upd_same))))⟩ | (first | assumption | exact upd_same | (rw [upd_ne (by first | assumption | exact Ne.symm (by assumption))]; first | assumption | exact upd_same | (rw [upd_ne (by first | assumption | exact Ne.symm (by assumption))]; first | assumption | exact upd_same))) | decide | exact Nat.le_of_ble_eq_true rfl | omega | (show ∃ xs, SqL _ _ _ xs; exact ⟨_, SqL.of (by (first | assumption | exact upd_same | (rw [upd_ne (by first | assumption | exact Ne.symm (by assumption))]; first | assumption | exact upd_same | (rw [upd_ne (by first | assumption | exact Ne.symm (by assumption))]; first | assumption | exact upd_same))))⟩) | (show ∃ xs, SqT _ _ _ xs; exact ⟨_, SqT.of (by (first | assumption | exact upd_same | (rw [upd_ne (by first | assumption | exact Ne.symm (by assumption))]; first | assumption | exact upd_same | (rw [upd_ne (by first | assumption | exact Ne.symm (by assumption))]; first | assumption | exact upd_same))))⟩) | exact DGet.k (k := Sum.inl _) (by (first | assumption | exact upd_same | (rw [upd_ne (by first | assumption | exact Ne.symm (by assumption))]; first | assumption | exact upd_same | (rw [upd_ne (by first | assumption | exact Ne.symm (by assumption))]; first | assumption | exact upd_same)))) | (show V.int _ = kV (Sum.inl _); rfl) | (show ∃ z, V.str _ = V.str z; exact ⟨_, rfl⟩) | exact Or.inl ⟨by (first | decide | omega), by (first | decide | omega)⟩ | exact Or.inr ⟨by (first | decide | omega), by (first | decide | omega)⟩ | exact ⟨by (first | decide | omega), by (first | decide | omega)⟩ | exact ⟨by decide, by decide, by decide⟩ | exact L2.ClsV.ty _ | exact Dt.ty (by assumption) | exact Dt.kint (by assumption) | exact Dt.kbool (by assumption) | exact Dt.ktuple (by assumption) | exact Dt.klist (by assumption) | exact Dt.kstr (by assumption))) | (apply Exists.intro; apply Exists.intro; apply Exists.intro; apply Exists.intro; apply Exists.intro; apply Exists.intro; apply Exists.intro; apply And.intro; focus (first | rfl | assumption | exact upd_same | exact SqL.of (by (first | assumption | exact upd_same | (rw [upd_ne (by first | assumption | exact Ne.symm (by assumption))]; first | assumption | exact upd_same | (rw [upd_ne (by first | assumption | exact Ne.symm (by assumption))]; first | assumption | exact upd_same)))) | exact SqT.of (by (first | assumption | exact upd_same | (rw [upd_ne (by first | assumption | exact Ne.symm (by assumption))]; first | assumption | exact upd_same | (rw [upd_ne (by first | assumption | exact Ne.symm (by assumption))]; first | assumption | exact upd_same)))) | exact Or.inl (SqL.of (by (first | assumption | exact upd_same | (rw [upd_ne (by first | assumption | exact Ne.symm (by assumption))]; first | assumption | exact upd_same | (rw [upd_ne (by first | assumption | exact Ne.symm (by assumption))]; first | assumption | exact upd_same))))) | exact Or.inr (SqT.of (by (first | assumption | exact upd_same | (rw [upd_ne (by first | assumption | exact Ne.symm (by assumption))]; first | assumption | exact upd_same | (rw [upd_ne (by first | assumption | exact Ne.symm (by assumption))]; first | assumption | exact upd_same))))) | exact Or.inl ⟨rfl, _, SqL.of (by (first | assumption | exact upd_same | (rw [upd_ne (by first | assumption | exact Ne.symm (by assumption))]; first | assumption | exact upd_same | (rw [upd_ne (by first | assumption | exact Ne.symm (by assumption))]; first | assumption | exact upd_same))))⟩ | (first | assumption | exact upd_same | (rw [upd_ne (by first | assumption | exact Ne.symm (by assumption))]; first | assumption | exact upd_same | (rw [upd_ne (by first | assumption | exact Ne.symm (by assumption))]; first | assumption | exact upd_same))) | decide | exact Nat.le_of_ble_eq_true rfl | omega | (show ∃ xs, SqL _ _ _ xs; exact ⟨_, SqL.of (by (first | assumption | exact upd_same | (rw [upd_ne (by first | assumption | exact Ne.symm (by assumption))]; first | assumption | exact upd_same | (rw [upd_ne (by first | assumption | exact Ne.symm (by assumption))]; first | assumption | exact upd_same))))⟩) | (show ∃ xs, SqT _ _ _ xs; exact ⟨_, SqT.of (by (first | assumption | exact upd_same | (rw [upd_ne (by first | assumption | exact Ne.symm (by assumption))]; first | assumption | exact upd_same | (rw [upd_ne (by first | assumption | exact Ne.symm (by assumption))]; first | assumption | exact upd_same))))⟩) | exact DGet.k (k := Sum.inl _) (by (first | assumption | exact upd_same | (rw [upd_ne (by first | assumption | exact Ne.symm (by assumption))]; first | assumption | exact upd_same | (rw [upd_ne (by first | assumption | exact Ne.symm (by assumption))]; first | assumption | exact upd_same)))) | (show V.int _ = kV (Sum.inl _); rfl) | (show ∃ z, V.str _ = V.str z; exact ⟨_, rfl⟩) | exact Or.inl ⟨by (first | decide | omega), by (first | decide | omega)⟩ | exact Or.inr ⟨by (first | decide | omega), by (first | decide | omega)⟩ | exact ⟨by (first | decide | omega), by (first | decide | omega)⟩ | exact ⟨by decide, by decide, by decide⟩ | exact L2.ClsV.ty _ | exact Dt.ty (by assumption) | exact Dt.kint (by assumption) | exact Dt.kbool (by assumption) | exact Dt.ktuple (by assumption) | exact Dt.klist (by assumption) | exact Dt.kstr (by assumption))) | (apply Exists.intro; apply Exists.intro; apply Exists.intro; apply Exists.intro; apply Exists.intro; apply Exists.intro; apply Exists.intro; apply Exists.intro; apply And.intro; focus (first | rfl | assumption | exact upd_same | exact SqL.of (by (first | assumption | exact upd_same | (rw [upd_ne (by first | assumption | exact Ne.symm (by assumption))]; first | assumption | exact upd_same | (rw [upd_ne (by first | assumption | exact Ne.symm (by assumption))]; first | assumption | exact upd_same)))) | exact SqT.of (by (first | assumption | exact upd_same | (rw [upd_ne (by first | assumption | exact Ne.symm (by assumption))]; first | assumption | exact upd_same | (rw [upd_ne (by first | assumption | exact Ne.symm (by assumption))]; first | assumption | exact upd_same)))) | exact Or.inl (SqL.of (by (first | assumption | exact upd_same | (rw [upd_ne (by first | assumption | exact Ne.symm (by assumption))]; first | assumption | exact upd_same | (rw [upd_ne (by first | assumption | exact Ne.symm (by assumption))]; first | assumption | exact upd_same))))) | exact Or.inr (SqT.of (by (first | assumption | exact upd_same | (rw [upd_ne (by first | assumption | exact Ne.symm (by assumption))]; first | assumption | exact upd_same | (rw [upd_ne (by first | assumption | exact Ne.symm (by assumption))]; first | assumption | exact upd_same))))) | exact Or.inl ⟨rfl, _, SqL.of (by (first | assumption | exact upd_same | (rw [upd_ne (by first | assumption | exact Ne.symm (by assumption))]; first | assumption | exact upd_same | (rw [upd_ne (by first | assumption | exact Ne.symm (by assumption))]; first | assumption | exact upd_same))))⟩ | (first | assumption | exact upd_same | (rw [upd_ne (by first | assumption | exact Ne.symm (by assumption))]; first | assumption | exact upd_same | (rw [upd_ne (by first | assumption | exact Ne.symm (by assumption))]; first | assumption | exact upd_same))) | decide | exact Nat.le_of_ble_eq_true rfl | omega | (show ∃ xs, SqL _ _ _ xs; exact ⟨_, SqL.of (by (first | assumption | exact upd_same | (rw [upd_ne (by first | assumption | exact Ne.symm (by assumption))]; first | assumption | exact upd_same | (rw [upd_ne (by first | assumption | exact Ne.symm (by assumption))]; first | assumption | exact upd_same))))⟩) | (show ∃ xs, SqT _ _ _ xs; exact ⟨_, SqT.of (by (first | assumption | exact upd_same | (rw [upd_ne (by first | assumption | exact Ne.symm (by assumption))]; first | assumption | exact upd_same | (rw [upd_ne (by first | assumption | exact Ne.symm (by assumption))]; first | assumption | exact upd_same))))⟩) | exact DGet.k (k := Sum.inl _) (by (first | assumption | exact upd_same | (rw [upd_ne (by first | assumption | exact Ne.symm (by assumption))]; first | assumption | exact upd_same | (rw [upd_ne (by first | assumption | exact Ne.symm (by assumption))]; first | assumption | exact upd_same)))) | (show V.int _ = kV (Sum.inl _); rfl) | (show ∃ z, V.str _ = V.str z; exact ⟨_, rfl⟩) | exact Or.inl ⟨by (first | decide | omega), by (first | decide | omega)⟩ | exact Or.inr ⟨by (first | decide | omega), by (first | decide | omega)⟩ | exact ⟨by (first | decide | omega), by (first | decide | omega)⟩ | exact ⟨by decide, by decide, by decide⟩ | exact L2.ClsV.ty _ | exact Dt.ty (by assumption) | exact Dt.kint (by assumption) | exact Dt.kbool (by assumption) | exact Dt.ktuple (by assumption) | exact Dt.klist (by assumption) | exact Dt.kstr (by assumption))) | (apply Exists.intro; apply Exists.intro; apply Exists.intro; apply Exists.intro; apply Exists.intro; apply Exists.intro; apply Exists.intro; apply Exists.intro; apply Exists.intro; apply And.intro; focus (first | rfl | assumption | exact upd_same | exact SqL.of (by (first | assumption | exact upd_same | (rw [upd_ne (by first | assumption | exact Ne.symm (by assumption))]; first | assumption | exact upd_same | (rw [upd_ne (by first | assumption | exact Ne.symm (by assumption))]; first | assumption | exact upd_same)))) | exact SqT.of (by (first | assumption | exact upd_same | (rw [upd_ne (by first | assumption | exact Ne.symm (by assumption))]; first | assumption | exact upd_same | (rw [upd_ne (by first | assumption | exact Ne.symm (by assumption))]; first | assumption | exact upd_same)))) | exact Or.inl (SqL.of (by (first | assumption | exact upd_same | (rw [upd_ne (by first | assumption | exact Ne.symm (by assumption))]; first | assumption | exact upd_same | (rw [upd_ne (by first | assumption | exact Ne.symm (by assumption))]; first | assumption | exact upd_same))))) | exact Or.inr (SqT.of (by (first | assumption | exact upd_same | (rw [upd_ne (by first | assumption | exact Ne.symm (by assumption))]; first | assumption | exact upd_same | (rw [upd_ne (by first | assumption | exact Ne.symm (by assumption))]; first | assumption | exact upd_same))))) | exact Or.inl ⟨rfl, _, SqL.of (by (first | assumption | exact upd_same | (rw [upd_ne (by first | assumption | exact Ne.symm (by assumption))]; first | assumption | exact upd_same | (rw [upd_ne (by first | assumption | exact Ne.symm (by assumption))]; first | assumption | exact upd_same))))⟩ | (first | assumption | exact upd_same | (rw [upd_ne (by first | assumption | exact Ne.symm (by assumption))]; first | assumption | exact upd_same | (rw [upd_ne (by first | assumption | exact Ne.symm (by assumption))]; first | assumption | exact upd_same))) | decide | exact Nat.le_of_ble_eq_true rfl | omega | (show ∃ xs, SqL _ _ _ xs; exact ⟨_, SqL.of (by (first | assumption | exact upd_same | (rw [upd_ne (by first | assumption | exact Ne.symm (by assumption))]; first | assumption | exact upd_same | (rw [upd_ne (by first | assumption | exact Ne.symm (by assumption))]; first | assumption | exact upd_same))))⟩) | (show ∃ xs, SqT _ _ _ xs; exact ⟨_, SqT.of (by (first | assumption | exact upd_same | (rw [upd_ne (by first | assumption | exact Ne.symm (by assumption))]; first | assumption | exact upd_same | (rw [upd_ne (by first | assumption | exact Ne.symm (by assumption))]; first | assumption | exact upd_same))))⟩) | exact DGet.k (k := Sum.inl _) (by (first | assumption | exact upd_same | (rw [upd_ne (by first | assumption | exact Ne.symm (by assumption))]; first | assumption | exact upd_same | (rw [upd_ne (by first | assumption | exact Ne.symm (by assumption))]; first | assumption | exact upd_same)))) | (show V.int _ = kV (Sum.inl _); rfl) | (show ∃ z, V.str _ = V.str z; exact ⟨_, rfl⟩) | exact Or.inl ⟨by (first | decide | omega), by (first | decide | omega)⟩ | exact Or.inr ⟨by (first | decide | omega), by (first | decide | omega)⟩ | exact ⟨by (first | decide | omega), by (first | decide | omega)⟩ | exact ⟨by decide, by decide, by decide⟩ | exact L2.ClsV.ty _ | exact Dt.ty (by assumption) | exact Dt.kint (by assumption) | exact Dt.kbool (by assumption) | exact Dt.ktuple (by assumption) | exact Dt.klist (by assumption) | exact Dt.kstr (by assumption))) | refine Or.inl ⟨_, rfl, ?_⟩ | refine Or.inr ⟨_, rfl, ?_⟩ | refine Or.inr ⟨SqT.of (by (first | assumption | exact upd_same | (rw [upd_ne (by first | assumption | exact Ne.symm (by assumption))]; first | assumption | exact upd_same | (rw [upd_ne (by first | assumption | exact Ne.symm (by assumption))]; first | assumption | exact upd_same)))), SqT.of (by (first | assumption | exact upd_same | (rw [upd_ne (by first | assumption | exact Ne.symm (by assumption))]; first | assumption | exact upd_same | (rw [upd_ne (by first | assumption | exact Ne.symm (by assumption))]; first | assumption | exact upd_same)))), ?_⟩ | refine Or.inl ⟨SqL.of (by (first | assumption | exact upd_same | (rw [upd_ne (by first | assumption | exact Ne.symm (by assumption))]; first | assumption | exact upd_same | (rw [upd_ne (by first | assumption | exact Ne.symm (by assumption))]; first | assumption | exact upd_same)))), SqL.of (by (first | assumption | exact upd_same | (rw [upd_ne (by first | assumption | exact Ne.symm (by assumption))]; first | assumption | exact upd_same | (rw [upd_ne (by first | assumption | exact Ne.symm (by assumption))]; first | assumption | exact upd_same)))), ?_⟩ | refine Or.inl ⟨SqL.of (by (first | assumption | exact upd_same | (rw [upd_ne (by first | assumption | exact Ne.symm (by assumption))]; first | assumption | exact upd_same | (rw [upd_ne (by first | assumption | exact Ne.symm (by assumption))]; first | assumption | exact upd_same)))), ?_⟩ | refine Or.inr ⟨SqT.of (by (first | assumption | exact upd_same | (rw [upd_ne (by first | assumption | exact Ne.symm (by assumption))]; first | assumption | exact upd_same | (rw [upd_ne (by first | assumption | exact Ne.symm (by assumption))]; first | assumption | exact upd_same)))), ?_⟩ | refine ifT rfl ?_ | refine ifF rfl ?_))
def strB (x : Str) : List Int := x.cps.toList.map fun (c : Nat) => (c : Int)
mutual
def byD : PyData → List Int
  | .none => [0]
  | .bool b => [if b then 2 else 1]
  | .int i => if 0 ≤ i then 3 :: whN i.toNat else 4 :: whN (-1 - i).toNat
  | .str x => 5 :: (whN x.length ++ strB x)
  | .tuple ds => 6 :: (whN ds.length ++ byAll ds)
  | _ => []
def byAll : List PyData → List Int
  | [] => []
  | d :: ds => byD d ++ byAll ds
end
mutual
def fineB : PyData → Bool
  | .none => true
  | .bool _ => true
  | .int i => decide (i.natAbs < 128 ^ 5999)
  | .str x => decide (x.length ≤ 100000)
  | .tuple ds => decide (ds.length ≤ 100000) && fineAll ds
  | _ => false
def fineAll : List PyData → Bool
  | [] => true
  | d :: ds => fineB d && fineAll ds
end
theorem ok_mem : ∀ {ds : List PyData} {d : PyData}, fineAll ds = true → d ∈ ds → fineB d = true
  | [], _, _, h => absurd h (List.not_mem_nil)
  | x :: ds, d, e, h => by
    rw [fineAll, Bool.and_eq_true] at e
    rcases List.mem_cons.mp h with rfl | h
    · exact e.1
    · exact ok_mem e.2 h
theorem byAll_app : ∀ {ds es : List PyData}, byAll (ds ++ es) = byAll ds ++ byAll es
  | [], _ => rfl
  | d :: ds, es => by rw [List.cons_append, byAll, byAll, byAll_app, List.append_assoc]
theorem by_mem {ds : List PyData} {i : Nat} {d : PyData} (h : ds[i]? = some d) : (byAll (ds.take i)).length + (byD d).length ≤ (byAll ds).length := by
  conv => rhs; rw [← List.take_append_drop (i + 1) ds, byAll_app, List.length_append]
  rw [List.take_add_one, h, byAll_app, List.length_append]
  show _ ≤ (byAll (ds.take i)).length + (byAll [d]).length + _
  rw [byAll, byAll, List.append_nil]
  omega
theorem big_small {n : Nat} (h : n ≤ 100000) : n < 128 ^ 6000 := Nat.lt_of_le_of_lt h (by decide +kernel)
theorem cat_l {H : Hp} {a b : Addr} {xs ys : List V} {Q : VK} (ha : H a = some (.lst xs)) (hb : H b = some (.lst ys)) (hz : xs.length + ys.length ≤ 16777216) (h : ∀ c H1, Same H H1 → H c = none → H1 c = some (.lst (xs ++ ys)) → Q (.ref c) H1) : rCat (.ref a) (.ref b) H Q :=
  ⟨a, b, xs, ys, rfl, rfl, ha, hb, by rw [sizeLine_eq]; exact hz, fun p np => h p _ (same_new0 np) np upd_same⟩
def spBytes (n : Nat) : Sp := fun vs H Q _ => ∃ (N : Addr → Prop) (v : V) (d : PyData), vs = [v] ∧ Rp N H v d ∧ d.depth ≤ n ∧ fineB d = true ∧ (byD d).length ≤ 1000000 ∧ ∀ p H', Same H H' → H p = none → H' p = some (.lst ((byD d).map V.int)) → Q (.ref p) H'
section
variable {P : Program} {w : World} {K : PySem.W.Frag} {mg : Str → Option Value} {base : Heap} {t1 t2 t3 t4 : Tok}
theorem d_plain_sort (F : FunAt K mg "plain_sort" s_plain_sort) : Has P w K mg base 1 "plain_sort" ["parcel"] (fun vs H Q _ => (vs = [.non] ∧ Q (.int 0) H) ∨ ∃ b : Bool, vs = [.bl b] ∧ Q (.int (if b then 2 else 1)) H) := by
  refine mk_has F sc_plain_sort (fun _ _ _ _ _ _ us hl => match us, hl with | [_], _ => rfl) (fun vs H Q E h => ?_) fun f cdv A outer s H vs Q E hr h => ?_
  · rcases h with ⟨rfl, _⟩ | ⟨b, rfl, _⟩ <;> rfl
  refine ⟨_, (pss_cons (ps_if (pt_cmp (pc_isN (pv 0)))
    (pss_one (ps_ret pe_int))
    pss_nil)
    (pss_one (ps_ret (pe_ifExp (pt_val (pv 0)) pe_int pe_int)))), ?_⟩
  rcases h with ⟨rfl, k⟩ | ⟨b, rfl, k⟩
  · trivial
    exact k
  · trivial
    cases b
    · trivial
      exact k
    · trivial
      exact k
theorem bytes_step (B : Bi mg) (F : FunAt K mg "bytes_of" s_bytes_of) (g_FROM_ZERO : mg "FROM_ZERO" = some (.int 3 t1)) (g_BELOW_ZERO : mg "BELOW_ZERO" = some (.int 4 t2)) (g_STRING : mg "STRING" = some (.int 5 t3)) (g_TUPLE : mg "TUPLE" = some (.int 6 t4))
    (D_whole_of : Has P w K mg base 1 "whole_of" ["number"] spWhole) (D_plain_sort : Has P w K mg base 1 "plain_sort" ["parcel"] (fun vs H Q _ => (vs = [.non] ∧ Q (.int 0) H) ∨ ∃ b : Bool, vs = [.bl b] ∧ Q (.int (if b then 2 else 1)) H)) (n : Nat)
    (D_bytes_of : Has P w K mg base (n + 1) "bytes_of" ["parcel"] (fun vs H Q E => ∃ m, m + 1 = n ∧ spBytes m vs H Q E)) : Has P w K mg base (n + 2) "bytes_of" ["parcel"] (spBytes n) := by
  refine mk_has F sc_bytes_of (fun _ _ _ _ _ _ us hl => match us, hl with | [_], _ => rfl) (fun vs H Q E h => ?_) fun f cdv A outer s H vs Q E hr h => ?_
  · obtain ⟨N, v, d, rfl, _⟩ := h
    rfl
  obtain ⟨N, v, d, rfl, r, hd, ho, hb, k⟩ := h
  refine ⟨_, (pss_cons (ps_if (PW.pt (pw_or (pt_cmp (pc_isN (pv 0))) (pw_or1 (pt_val (pe_callB call_isi rfl B.isinstance (by decide +kernel) (pa_cons (pv 0) (pa_cons (pe_bltn (v := .ty "bool") rfl B.bool (by decide +kernel) rfl) pa_nil)))))))
    (pss_one (ps_ret (pe_lst (pa_cons (pe_h D_plain_sort (hr.mono (by omega)) rfl (pa_cons (pv 0) pa_nil)) pa_nil))))
    pss_nil)
    (pss_cons (ps_if (pt_val (pe_callB call_isi rfl B.isinstance (by decide +kernel) (pa_cons (pv 0) (pa_cons (pe_bltn (v := .ty "int") rfl B.int (by decide +kernel) rfl) pa_nil))))
    (pss_one (ps_ret (pe_ifExp (pt_cmpR op_ge (pv 0) pe_int (nomark _)) (pe_op op_cat (pe_lst (pa_cons (pe_glob (v := .int 3) rfl g_FROM_ZERO ⟨_, rfl⟩) pa_nil)) (pe_h D_whole_of (hr.mono (by omega)) rfl (pa_cons (pv 0) pa_nil))) (pe_op op_cat (pe_lst (pa_cons (pe_glob (v := .int 4) rfl g_BELOW_ZERO ⟨_, rfl⟩) pa_nil)) (pe_h D_whole_of (hr.mono (by omega)) rfl (pa_cons (pe_op op_sub (pe_un un_neg pe_int) (pv 0)) pa_nil))))))
    pss_nil)
    (pss_cons (ps_if (pt_val (pe_callB call_isi rfl B.isinstance (by decide +kernel) (pa_cons (pv 0) (pa_cons (pe_bltn (v := .ty "str") rfl B.str (by decide +kernel) rfl) pa_nil))))
    (pss_one (ps_ret (pe_op op_cat (pe_op op_cat (pe_lst (pa_cons (pe_glob (v := .int 5) rfl g_STRING ⟨_, rfl⟩) pa_nil)) (pe_h D_whole_of (hr.mono (by omega)) rfl (pa_cons (pe_callB call_len_str rfl B.len PySem.boot_len (pa_cons (pv 0) pa_nil)) pa_nil))) (pe_lc (own := [("sign", 1)]) (g := gName 1) (tt := tYes) (te := (tCB rOrd (tCons (tVar 1) tNil))) rfl sc_bytes_of.nd (pi_str (pv 0)) (blkOk_by (own := [("sign", 1)]) (N := ["parcel", "sign", "found", "item"]) (sc := defScope s_bytes_of) (by decide +kernel)) (fun _ _ _ _ _ => (pg_name (i := 1) sc_bytes_of.nd rfl (Or.inl rfl))) (fun _ _ _ _ _ => pts_nil) (fun _ _ _ _ _ => (pe_callB call_ord rfl B.ord (by decide +kernel) (pa_cons (pv 1) pa_nil)))))))
    pss_nil)
    (pss_cons (ps_set (i := 2) sc_bytes_of.nd rfl (Or.inl rfl) (pe_op op_cat (pe_lst (pa_cons (pe_glob (v := .int 6) rfl g_TUPLE ⟨_, rfl⟩) pa_nil)) (pe_h D_whole_of (hr.mono (by omega)) rfl (pa_cons (pe_callB call_len_seq rfl B.len PySem.boot_len (pa_cons (pv 0) pa_nil)) pa_nil))))
    (pss_cons (ps_for PassesOwn.never rfl (pi_tup (pv 0)) (pg_name (i := 3) sc_bytes_of.nd rfl (Or.inl rfl))
    (pss_one (ps_expr (pe_bm PySem.F.plainAttrs_list PySem.F.slot_list_extend PySem.F.type_list_extend mt_extend (pv 2) (pa_cons (pe_h D_bytes_of hr rfl (pa_cons (pv 3) pa_nil)) pa_nil)))))
    (pss_one (ps_ret (pv 2)))))))), ?_⟩
  have d0 := r.dt
  cases d with
  | list ds => simp [fineB] at ho
  | dict kvs => simp [fineB] at ho
  | none =>
    cases r
    trivial
    refine Or.inl ⟨rfl, ?_⟩
    trivial
    intro p np
    exact k p _ (same_new0 np) np upd_same
  | bool b =>
    cases r
    trivial
    intro p np
    exact k p _ (same_new0 np) np upd_same
  | int i =>
    cases r
    have hi : i.natAbs < 128 ^ 5999 := by simpa [fineB] using ho
    have p9 : (128 : Nat) ^ 6000 = 128 ^ 5999 * 128 := Nat.pow_succ ..
    trivial
    refine ite2 (fun c => ?_) (fun c => ?_)
    · have c' := of_decide_eq_true c
      have eb : byD (.int i) = 3 :: whN i.toNat := by rw [byD, if_pos c']
      rw [eb] at k hb
      trivial
      intro D nD
      trivial
      have sD := same_new0 (o := .lst [.int 3]) nD
      have eD : upd H D (.lst [.int 3]) D = some (.lst [.int 3]) := upd_same
      refine ⟨i.toNat, by rw [show ((i.toNat : Nat) : Int) = i by omega]; rfl, by omega, fun p H1 s1 np ep => ?_⟩
      refine cat_l (s1 _ _ eD) ep (by simp at hb ⊢; omega) fun p2 H2 s2 n2 e2 => ?_
      exact k p2 H2 ((sD.trans s1).trans s2) ((sD.trans s1).free n2) (by rw [e2]; rfl)
    · have c' := of_decide_eq_false (Bool.eq_false_iff.mpr c)
      have eb : byD (.int i) = 4 :: whN (-1 - i).toNat := by rw [byD, if_neg c']
      rw [eb] at k hb
      trivial
      intro D nD
      have sD := same_new0 (o := .lst [.int 4]) nD
      have eD : upd H D (.lst [.int 4]) D = some (.lst [.int 4]) := upd_same
      trivial
      refine ⟨(-1 - i).toNat, ?_, by omega, fun p H1 s1 np ep => ?_⟩
      · show [V.int (-1 - i)] ++ [] = _
        rw [show (((-1 - i).toNat : Nat) : Int) = -1 - i by omega]
        rfl
      refine cat_l (s1 _ _ eD) ep (by simp at hb ⊢; omega) fun p2 H2 s2 n2 e2 => ?_
      exact k p2 H2 ((sD.trans s1).trans s2) ((sD.trans s1).free n2) (by rw [e2]; rfl)
  | str x =>
    cases r
    have hx : x.length ≤ 100000 := by simpa [fineB] using ho
    have hz : x.length ≤ sizeLine := by rw [sizeLine_eq]; omega
    have eb : byD (.str x) = 5 :: (whN x.length ++ strB x) := by rw [byD]
    rw [eb] at k hb
    trivial
    intro D nD
    have sD := same_new0 (o := .lst [.int 5]) nD
    have eD : upd H D (.lst [.int 5]) D = some (.lst [.int 5]) := upd_same
    trivial
    intro p H1 s1 np ep
    refine cat_l (s1 _ _ eD) ep (by simp at hb ⊢; omega) fun p2 H2 s2 n2 e2 => ?_
    trivial
    intro E nE
    have s02 := (sD.trans s1).trans s2
    have lx : x.cps.toList.length = x.cps.size := by simp
    have hx2 : x.cps.size ≤ 16777216 := Nat.le_trans hx (by decide)
    have lb : (strB x).length = x.cps.size := by rw [strB, List.length_map, lx]
    refine lc_map walk_str ((strB x).map V.int) (by rw [List.length_map, lb]) nE hx2 (fun i H' _ s => True.intro) (fun i y H3 H4 Pn hi s3 yy fin => ?_) fun H3 s3 e3 => ?_
    · obtain ⟨rfl, c3, hc, rfl⟩ := yy
      trivial
      exact fin _ _ (by rw [List.getElem?_map, strB, List.getElem?_map, Array.getElem?_toList, hc]; rfl) (Same.refl _)
    · refine cat_l (s3 _ _ e2) e3 (by simp at hb ⊢; omega) fun p5 H5 s5 n5 e5 => ?_
      have s05 := (s02.trans s3).trans s5
      exact k p5 H5 s05 ((s02.trans s3).free n5) (by rw [e5]; simp)
  | tuple ds =>
    cases r with
    | @tup a xs _ ea na aa =>
    have d1 := Dt.tup ea
    have eb : byD (.tuple ds) = 6 :: (whN ds.length ++ byAll ds) := by rw [byD]
    rw [eb] at k hb
    rw [fineB, Bool.and_eq_true, decide_eq_true_eq] at ho
    have hl := aa.length
    trivial
    intro D nD
    have sD := same_new0 (o := .lst [.int 6]) nD
    have eD : upd H D (.lst [.int 6]) D = some (.lst [.int 6]) := upd_same
    have ea1 := sD _ _ ea
    trivial
    intro p H1 s1 np ep
    rw [hl] at ep
    refine cat_l (s1 _ _ eD) ep (by simp at hb ⊢; omega) fun p2 H2 s2 n2 e2 => ?_
    have s02 := (sD.trans s1).trans s2
    have ea2 := s02 _ _ ea
    have nF := (sD.trans s1).free n2
    trivial
    refine for_it (walk_tup (xs := xs)) (fun i σ H' => ∃ v1 v3, σ = [some (.ref a), v1, some (.ref p2), v3] ∧ Same H H' ∧ H' p2 = some (.lst ((6 :: (whN ds.length ++ byAll (ds.take i))).map V.int))) ⟨none, none, rfl, s02, ?_⟩ (fun i σ H' _ q => ?_) (fun i x σ H3 H4 hi q y => ?_) fun σ H3 q => ?_
    · rw [e2]
      simp [byAll]
    · obtain ⟨v1, v3, _, s3, _⟩ := q
      exact SqT.of (s3 _ _ ea)
    · obtain ⟨v1, v3, rfl, s3, e3⟩ := q
      obtain ⟨rfl, gx⟩ := y
      obtain ⟨dx, mx, gdx, rx⟩ := aa.at_ gx
      have hd' : dx.depth + 1 ≤ n := Nat.le_trans (Nat.succ_le_succ (depth_mem mx)) hd
      have hm := by_mem gdx
      have hb' : (whN ds.length).length + (byAll ds).length + 1 ≤ 1000000 := by simp at hb; omega
      trivial
      refine ⟨n - 1, by omega, N, x, dx, rfl, rx.to (kp_same s3), by omega, ok_mem ho.2 mx, by omega, fun p5 H5 s5 n5 e5 => ?_⟩
      have e6 := s5 _ _ e3
      refine ⟨p2, p5, _, _, rfl, rfl, e6, e5, ?_, ?_⟩
      · rw [sizeLine_eq]
        simp
        omega
      · refine ⟨v1, _, rfl, ?_, ?_⟩
        · exact sput (s3.trans s5) nF
        · rw [upd_same, List.take_add_one, gdx, byAll_app]
          simp [byAll]
    · obtain ⟨v1, v3, rfl, s3, e3⟩ := q
      trivial
      refine k p2 H3 s3 nF ?_
      rw [e3, hl, List.take_length]
theorem d_bytes_of (B : Bi mg) (F : FunAt K mg "bytes_of" s_bytes_of) (g_FROM_ZERO : mg "FROM_ZERO" = some (.int 3 t1)) (g_BELOW_ZERO : mg "BELOW_ZERO" = some (.int 4 t2)) (g_STRING : mg "STRING" = some (.int 5 t3)) (g_TUPLE : mg "TUPLE" = some (.int 6 t4))
    (D1 : Has P w K mg base 1 "whole_of" ["number"] spWhole) (D2 : Has P w K mg base 1 "plain_sort" ["parcel"] (fun vs H Q _ => (vs = [.non] ∧ Q (.int 0) H) ∨ ∃ b : Bool, vs = [.bl b] ∧ Q (.int (if b then 2 else 1)) H)) : ∀ n : Nat, Has P w K mg base (n + 2) "bytes_of" ["parcel"] (spBytes n)
  | 0 => bytes_step B F g_FROM_ZERO g_BELOW_ZERO g_STRING g_TUPLE D1 D2 0 (has_none F (fun _ _ _ _ _ _ us hl => match us, hl with | [_], _ => rfl) fun _ _ _ _ ⟨_, e, _⟩ => nomatch e)
  | n + 1 => bytes_step B F g_FROM_ZERO g_BELOW_ZERO g_STRING g_TUPLE D1 D2 (n + 1) ((d_bytes_of B F g_FROM_ZERO g_BELOW_ZERO g_STRING g_TUPLE D1 D2 n).imp fun _ _ _ _ ⟨m, e, q⟩ => by cases e; exact q)
end
end KQ
set_option Elab.async false
set_option maxRecDepth 100000
set_option maxHeartbeats 4000000
namespace KQ
open PySem PySem.Spec PyProof.Rows L2
local macro_rules | `(tactic| trivial) => `(tactic| repeat (first | (apply And.intro; focus (first | rfl | assumption | exact upd_same | exact SqL.of (by (first | assumption | exact upd_same | (rw [upd_ne (by first | assumption | exact Ne.symm (by assumption))]; first | assumption | exact upd_same | (rw [upd_ne (by first | assumption | exact Ne.symm (by assumption))]; first | assumption | exact upd_same)))) | exact SqT.of (by (first | assumption | exact upd_same | (rw [upd_ne (by first | assumption | exact Ne.symm (by assumption))]; first | assumption | exact upd_same | (rw [upd_ne (by first | assumption | exact Ne.symm (by assumption))]; first | assumption | exact upd_same)))) | exact Or.inl (SqL.of (by (first | assumption | exact upd_same | (rw [upd_ne (by first | assumption | exact Ne.symm (by assumption))]; first | assumption | exact upd_same | (rw [upd_ne (by first | assumption | exact Ne.symm (by assumption))]; first | assumption | exact upd_same))))) | exact Or.inr (SqT.of (by (first | assumption | exact upd_same | (rw [upd_ne (by first | assumption | exact Ne.symm (by assumption))]; first | assumption | exact upd_same | (rw [upd_ne (by first | assumption | exact Ne.symm (by assumption))]; first | assumption | exact upd_same))))) | exact Or.inl ⟨rfl, _, SqL.of (by (first | assumption | exact upd_same | (rw [upd_ne (by first | assumption | exact Ne.symm (by assumption))]; first | assumption | exact upd_same | (rw [upd_ne (by first | assumption | exact Ne.symm (by assumption))]; first | assumption | exact upd_same))))⟩ | (first | assumption | exact upd_same | (rw [upd_ne (by first | assumption | exact Ne.symm (by assumption))]; first | assumption | exact upd_same | (rw [upd_ne (by first | assumption | exact Ne.symm (by assumption))]; first | assumption | exact upd_same))) | decide | exact Nat.le_of_ble_eq_true rfl | omega | (show ∃ xs, SqL _ _ _ xs; exact ⟨_, SqL.of (by (first | assumption | exact upd_same | (rw [upd_ne (by first | assumption | exact Ne.symm (by assumption))]; first | assumption | exact upd_same | (rw [upd_ne (by first | assumption | exact Ne.symm (by assumption))]; first | assumption | exact upd_same))))⟩) | (show ∃ xs, SqT _ _ _ xs; exact ⟨_, SqT.of (by (first | assumption | exact upd_same | (rw [upd_ne (by first | assumption | exact Ne.symm (by assumption))]; first | assumption | exact upd_same | (rw [upd_ne (by first | assumption | exact Ne.symm (by assumption))]; first | assumption | exact upd_same))))⟩) | exact DGet.k (k := Sum.inl _) (by (first | assumption | exact upd_same | (rw [upd_ne (by first | assumption | exact Ne.symm (by assumption))]; first | assumption | exact upd_same | (rw [upd_ne (by first | assumption | exact Ne.symm (by assumption))]; first | assumption | exact upd_same)))) | (show V.int _ = kV (Sum.inl _); rfl) | (show ∃ z, V.str _ = V.str z; exact ⟨_, rfl⟩) | exact Or.inl ⟨by (first | decide | omega), by (first | decide | omega)⟩ | exact Or.inr ⟨by (first | decide | omega), by (first | decide | omega)⟩ | exact ⟨by (first | decide | omega), by (first | decide | omega)⟩ | exact ⟨by decide, by decide, by decide⟩ | exact L2.ClsV.ty _ | exact Dt.ty (by assumption) | exact Dt.kint (by assumption) | exact Dt.kbool (by assumption) | exact Dt.ktuple (by assumption) | exact Dt.klist (by assumption) | exact Dt.kstr (by assumption))) | (apply Exists.intro; apply And.intro; focus (first | rfl | assumption | exact upd_same | exact SqL.of (by (first | assumption | exact upd_same | (rw [upd_ne (by first | assumption | exact Ne.symm (by assumption))]; first | assumption | exact upd_same | (rw [upd_ne (by first | assumption | exact Ne.symm (by assumption))]; first | assumption | exact upd_same)))) | exact SqT.of (by (first | assumption | exact upd_same | (rw [upd_ne (by first | assumption | exact Ne.symm (by assumption))]; first | assumption | exact upd_same | (rw [upd_ne (by first | assumption | exact Ne.symm (by assumption))]; first | assumption | exact upd_same)))) | exact Or.inl (SqL.of (by (first | assumption | exact upd_same | (rw [upd_ne (by first | assumption | exact Ne.symm (by assumption))]; first | assumption | exact upd_same | (rw [upd_ne (by first | assumption | exact Ne.symm (by assumption))]; first | assumption | exact upd_same))))) | exact Or.inr (SqT.of (by (first | assumption | exact upd_same | (rw [upd_ne (by first | assumption | exact Ne.symm (by assumption))]; first | assumption | exact upd_same | (rw [upd_ne (by first | assumption | exact Ne.symm (by assumption))]; first | assumption | exact upd_same))))) | exact Or.inl ⟨rfl, _, SqL.of (by (first | assumption | exact upd_same | (rw [upd_ne (by first | assumption | exact Ne.symm (by assumption))]; first | assumption | exact upd_same | (rw [upd_ne (by first | assumption | exact Ne.symm (by assumption))]; first | assumption | exact upd_same))))⟩ | (first | assumption | exact upd_same | (rw [upd_ne (by first | assumption | exact Ne.symm (by assumption))]; first | assumption | exact upd_same | (rw [upd_ne (by first | assumption | exact Ne.symm (by assumption))]; first | assumption | exact upd_same))) | decide | exact Nat.le_of_ble_eq_true rfl | omega | (show ∃ xs, SqL _ _ _ xs; exact ⟨_, SqL.of (by (first | assumption | exact upd_same | (rw [upd_ne (by first | assumption | exact Ne.symm (by assumption))]; first | assumption | exact upd_same | (rw [upd_ne (by first | assumption | exact Ne.symm (by assumption))]; first | assumption | exact upd_same))))⟩) | (show ∃ xs, SqT _ _ _ xs; exact ⟨_, SqT.of (by (first | assumption | exact upd_same | (rw [upd_ne (by first | assumption | exact Ne.symm (by assumption))]; first | assumption | exact upd_same | (rw [upd_ne (by first | assumption | exact Ne.symm (by assumption))]; first | assumption | exact upd_same))))⟩) | exact DGet.k (k := Sum.inl _) (by (first | assumption | exact upd_same | (rw [upd_ne (by first | assumption | exact Ne.symm (by assumption))]; first | assumption | exact upd_same | (rw [upd_ne (by first | assumption | exact Ne.symm (by assumption))]; first | assumption | exact upd_same)))) | (show V.int _ = kV (Sum.inl _); rfl) | (show ∃ z, V.str _ = V.str z; exact ⟨_, rfl⟩) | exact Or.inl ⟨by (first | decide | omega), by (first | decide | omega)⟩ | exact Or.inr ⟨by (first | decide | omega), by (first | decide | omega)⟩ | exact ⟨by (first | decide | omega), by (first | decide | omega)⟩ | exact ⟨by decide, by decide, by decide⟩ | exact L2.ClsV.ty _ | exact Dt.ty (by assumption) | exact Dt.kint (by assumption) | exact Dt.kbool (by assumption) | exact Dt.ktuple (by assumption) | exact Dt.klist (by assumption) | exact Dt.kstr (by assumption))) | (apply Exists.intro; apply Exists.intro; apply And.intro; focus (first | rfl | assumption | exact upd_same | exact SqL.of (by (first | assumption | exact upd_same | (rw [upd_ne (by first | assumption | exact Ne.symm (by assumption))]; first | assumption | exact upd_same | (rw [upd_ne (by first | assumption | exact Ne.symm (by assumption))]; first | assumption | exact upd_same)))) | exact SqT.of (by (first | assumption | exact upd_same | (rw [upd_ne (by first | assumption | exact Ne.symm (by assumption))]; first | assumption | exact upd_same | (rw [upd_ne (by first | assumption | exact Ne.symm (by assumption))]; first | assumption | exact upd_same)))) | exact Or.inl (SqL.of (by (first | assumption | exact upd_same | (rw [upd_ne (by first | assumption | exact Ne.symm (by assumption))]; first | assumption | exact upd_same | (rw [upd_ne (by first | assumption | exact Ne.symm (by assumption))]; first | assumption | exact upd_same))))) | exact Or.inr (SqT.of (by (first | assumption | exact upd_same | (rw [upd_ne (by first | assumption | exact Ne.symm (by assumption))]; first | assumption | exact upd_same | (rw [upd_ne (by first | assumption | exact Ne.symm (by assumption))]; first | assumption | exact upd_same))))) | exact Or.inl ⟨rfl, _, SqL.of (by (first | assumption | exact upd_same | (rw [upd_ne (by first | assumption | exact Ne.symm (by assumption))]; first | assumption | exact upd_same | (rw [upd_ne (by first | assumption | exact Ne.symm (by assumption))]; first | assumption | exact upd_same))))⟩ | (first | assumption | exact upd_same | (rw [upd_ne (by first | assumption | exact Ne.symm (by assumption))]; first | assumption | exact upd_same | (rw [upd_ne (by first | assumption | exact Ne.symm (by assumption))]; first | assumption | exact upd_same))) | decide | exact Nat.le_of_ble_eq_true rfl | omega | (show ∃ xs, SqL _ _ _ xs; exact ⟨_, SqL.of (by (first | assumption | exact upd_same | (rw [upd_ne (by first | assumption | exact Ne.symm (by assumption))]; first | assumption | exact upd_same | (rw [upd_ne (by first | assumption | exact Ne.symm (by assumption))]; first | assumption | exact upd_same))))⟩) | (show ∃ xs, SqT _ _ _ xs; exact ⟨_, SqT.of (by (first | assumption | exact upd_same | (rw [upd_ne (by first | assumption | exact Ne.symm (by assumption))]; first | assumption | exact upd_same | (rw [upd_ne (by first | assumption | exact Ne.symm (by assumption))]; first | assumption | exact upd_same))))⟩) | exact DGet.k (k := Sum.inl _) (by (first | assumption | exact upd_same | (rw [upd_ne (by first | assumption | exact Ne.symm (by assumption))]; first | assumption | exact upd_same | (rw [upd_ne (by first | assumption | exact Ne.symm (by assumption))]; first | assumption | exact upd_same)))) | (show V.int _ = kV (Sum.inl _); rfl) | (show ∃ z, V.str _ = V.str z; exact ⟨_, rfl⟩) | exact Or.inl ⟨by (first | decide | omega), by (first | decide | omega)⟩ | exact Or.inr ⟨by (first | decide | omega), by (first | decide | omega)⟩ | exact ⟨by (first | decide | omega), by (first | decide | omega)⟩ | exact ⟨by decide, by decide, by decide⟩ | exact L2.ClsV.ty _ | exact Dt.ty (by assumption) | exact Dt.kint (by assumption) | exact Dt.kbool (by assumption) | exact Dt.ktuple (by assumption) | exact Dt.klist (by assumption) | exact Dt.kstr (by assumption))) | (apply Exists.intro; apply Exists.intro; apply Exists.intro; apply And.intro; focus (first | rfl | assumption | exact upd_same | exact SqL.of (by (first | assumption | exact upd_same | (rw [upd_ne (by first | assumption | exact Ne.symm (by assumption))]; first | assumption | exact upd_same | (rw [upd_ne (by first | assumption | exact Ne.symm (by assumption))]; first | assumption | exact upd_same)))) | exact SqT.of (by (first | assumption | exact upd_same | (rw [upd_ne (by first | assumption | exact Ne.symm (by assumption))]; first | assumption | exact upd_same | (rw [upd_ne (by first | assumption | exact Ne.symm (by assumption))]; first | assumption | exact upd_same)))) | exact Or.inl (SqL.of (by (first | assumption | exact upd_same | (rw [upd_ne (by first | assumption | exact Ne.symm (by assumption))]; first | assumption | exact upd_same | (rw [upd_ne (by first | assumption | exact Ne.symm (by assumption))]; first | assumption | exact upd_same))))) | exact Or.inr (SqT.of (by (first | assumption | exact upd_same | (rw [upd_ne (by first | assumption | exact Ne.symm (by assumption))]; first | assumption | exact upd_same | (rw [upd_ne (by first | assumption | exact Ne.symm (by assumption))]; first | assumption | exact upd_same))))) | exact Or.inl ⟨rfl, _, SqL.of (by (first | assumption | exact upd_same | (rw [upd_ne (by first | assumption | exact Ne.symm (by assumption))]; first | assumption | exact upd_same | (rw [upd_ne (by first | assumption | exact Ne.symm (by assumption))]; first | assumption | exact upd_same))))⟩ | (first | assumption | exact upd_same | (rw [upd_ne (by first | assumption | exact Ne.symm (by assumption))]; first | assumption | exact upd_same | (rw [upd_ne (by first | assumption | exact Ne.symm (by assumption))]; first | assumption | exact upd_same))) | decide | exact Nat.le_of_ble_eq_true rfl | omega | (show ∃ xs, SqL _ _ _ xs; exact ⟨_, SqL.of (by (first | assumption | exact upd_same | (rw [upd_ne (by first | assumption | exact Ne.symm (by assumption))]; first | assumption | exact upd_same | (rw [upd_ne (by first | assumption | exact Ne.symm (by assumption))]; first | assumption | exact upd_same))))⟩) | (show ∃ xs, SqT _ _ _ xs; exact ⟨_, SqT.of (by (first | assumption | exact upd_same | (rw [upd_ne (by first | assumption | exact Ne.symm (by assumption))]; first | assumption | exact upd_same | (rw [upd_ne (by first | assumption | exact Ne.symm (by assumption))]; first | assumption | exact upd_same))))⟩) | exact DGet.k (k := Sum.inl _) (by (first | assumption | exact upd_same | (rw [upd_ne (by first | assumption | exact Ne.symm (by assumption))]; first | assumption | exact upd_same | (rw [upd_ne (by first | assumption | exact Ne.symm (by assumption))]; first | assumption | exact upd_same)))) | (show V.int _ = kV (Sum.inl _); rfl) | (show ∃ z, V.str _ = V.str z; exact ⟨_, rfl⟩) | exact Or.inl ⟨by (first | decide | omega), by (first | decide | omega)⟩ | exact Or.inr ⟨by (first | decide | omega), by (first | decide | omega)⟩ | exact ⟨by (first | decide | omega), by (first | decide | omega)⟩ | exact ⟨by decide, by decide, by decide⟩ | exact L2.ClsV.ty _ | exact Dt.ty (by assumption) | exact Dt.kint (by assumption) | exact Dt.kbool (by assumption) | exact Dt.ktuple (by assumption) | exact Dt.klist (by assumption) | exact Dt.kstr (by assumption))) | (apply Exists.intro; apply Exists.intro; apply Exists.intro; apply Exists.intro; apply And.intro; focus (first | rfl | assumption | exact upd_same | exact SqL.of (by (first | assumption | exact upd_same | (rw [upd_ne (by first | assumption | exact Ne.symm (by assumption))]; first | assumption | exact upd_same | (rw [upd_ne (by first | assumption | exact Ne.symm (by assumption))]; first | assumption | exact upd_same)))) | exact SqT.of (by (first | assumption | exact upd_same | (rw [upd_ne (by first | assumption | exact Ne.symm (by assumption))]; first | assumption | exact upd_same | (rw [upd_ne (by first | assumption | exact Ne.symm (by assumption))]; first | assumption | exact upd_same)))) | exact Or.inl (SqL.of (by (first | assumption | exact upd_same | (rw [upd_ne (by first | assumption | exact Ne.symm (by assumption))]; first | assumption | exact upd_same | (rw [upd_ne (by first | assumption | exact Ne.symm (by assumption))]; first | assumption | exact upd_same))))) | exact Or.inr (SqT.of (by (first | assumption | exact upd_same | (rw [upd_ne (by first | assumption | exact Ne.symm (by assumption))]; first | assumption | exact upd_same | (rw [upd_ne (by first | assumption | exact Ne.symm (by assumption))]; first | assumption | exact upd_same))))) | exact Or.inl ⟨rfl, _, SqL.of (by (first | assumption | exact upd_same | (rw [upd_ne (by first | assumption | exact Ne.symm (by assumption))]; first | assumption | exact upd_same | (rw [upd_ne (by first | assumption | exact Ne.symm (by assumption))]; first | assumption | exact upd_same))))⟩ | (first | assumption | exact upd_same | (rw [upd_ne (by first | assumption | exact Ne.symm (by assumption))]; first | assumption | exact upd_same | (rw [upd_ne (by first | assumption | exact Ne.symm (by assumption))]; first | assumption | exact upd_same))) | decide | exact Nat.le_of_ble_eq_true rfl | omega | (show ∃ xs, SqL _ _ _ xs; exact ⟨_, SqL.of (by (first | assumption | exact upd_same | (rw [upd_ne (by first | assumption | exact Ne.symm (by assumption))]; first | assumption | exact upd_same | (rw [upd_ne (by first | assumption | exact Ne.symm (by assumption))]; first | assumption | exact upd_same))))⟩) | (show ∃ xs, SqT _ _ _ xs; exact ⟨_, SqT.of (by (first | assumption | exact upd_same | (rw [upd_ne (by first | assumption | exact Ne.symm (by assumption))]; first | assumption | exact upd_same | (rw [upd_ne (by first | assumption | exact Ne.symm (by assumption))]; first | assumption | exact upd_same))))⟩) | exact DGet.k (k := Sum.inl _) (by (first | assumption | exact upd_same | (rw [upd_ne (by first | assumption | exact Ne.symm (by assumption))]; first | assumption | exact upd_same | (rw [upd_ne (by first | assumption | exact Ne.symm (by assumption))]; first | assumption | exact upd_same)))) | (show V.int _ = kV (Sum.inl _); rfl) | (show ∃ z, V.str _ = V.str z; exact ⟨_, rfl⟩) | exact Or.inl ⟨by (first | decide | omega), by (first | decide | omega)⟩ | exact Or.inr ⟨by (first | decide | omega), by (first | decide | omega)⟩ | exact ⟨by (first | decide | omega), by (first | decide | omega)⟩ | exact ⟨by decide, by decide, by decide⟩ | exact L2.ClsV.ty _ | exact Dt.ty (by assumption) | exact Dt.kint (by assumption) | exact Dt.kbool (by assumption) | exact Dt.ktuple (by assumption) | exact Dt.klist (by assumption) | exact Dt.kstr (by assumption))) | (apply Exists.intro; apply Exists.intro; apply Exists.intro; apply Exists.intro; apply Exists.intro; apply And.intro; focus (first | rfl | assumption | exact upd_same | exact SqL.of (by (first | assumption | exact upd_same | (rw [upd_ne (by first | assumption | exact Ne.symm (by assumption))]; first | assumption | exact upd_same | (rw [upd_ne (by first | assumption | exact Ne.symm (by assumption))]; first | assumption | exact upd_same)))) | exact SqT.of (by (first | assumption | exact upd_same | (rw [upd_ne (by first | assumption | exact Ne.symm (by assumption))]; first | assumption | exact upd_same | (rw [upd_ne (by first | assumption | exact Ne.symm (by assumption))]; first | assumption | exact upd_same)))) | exact Or.inl (SqL.of (by (first | assumption | exact upd_same | (rw [upd_ne (by first | assumption | exact Ne.symm (by assumption))]; first | assumption | exact upd_same | (rw [upd_ne (by first | assumption | exact Ne.symm (by assumption))]; first | assumption | exact upd_same))))) | exact Or.inr (SqT.of (by (first | assumption | exact upd_same | (rw [upd_ne (by first | assumption | exact Ne.symm (by assumption))]; first | assumption | exact upd_same | (rw [upd_ne (by first | assumption | exact Ne.symm (by assumption))]; first | assumption | exact upd_same))))) | exact Or.inl ⟨rfl, _, SqL.of (by (first | assumption | exact upd_same | (rw [upd_ne (by first | assumption | exact Ne.symm (by assumption))]; first | assumption | exact upd_same | (rw [upd_ne (by first | assumption | exact Ne.symm (by assumption))]; first | assumption | exact upd_same))))⟩ | (first | assumption | exact upd_same | (rw [upd_ne (by first | assumption | exact Ne.symm (by assumption))]; first | assumption | exact upd_same | (rw [upd_ne (by first | assumption | exact Ne.symm (by assumption))]; first | assumption | exact upd_same))) | decide | exact Nat.le_of_ble_eq_true rfl | omega | (show ∃ xs, SqL _ _ _ xs; exact ⟨_, SqL.of (by (first | assumption | exact upd_same | (rw [upd_ne (by first | assumption | exact Ne.symm (by assumption))]; first | assumption | exact upd_same | (rw [upd_ne (by first | assumption | exact Ne.symm (by assumption))]; first | assumption | exact upd_same))))⟩) | (show ∃ xs, SqT _ _ _ xs; exact ⟨_, SqT.of (by (first | assumption | exact upd_same | (rw [upd_ne (by first | assumption | exact Ne.symm (by assumption))]; first | assumption | exact upd_same | (rw [upd_ne (by first | assumption | exact Ne.symm (by assumption))]; first | assumption | exact upd_same))))⟩) | exact DGet.k (k := Sum.inl _) (by (first | assumption | exact upd_same | (rw [upd_ne (by first | assumption | exact Ne.symm (by assumption))]; first | assumption | exact upd_same | (rw [upd_ne (by first | assumption | exact Ne.symm (by assumption))]; first | assumption | exact upd_same)))) | (show V.int _ = kV (Sum.inl _); rfl) | (show ∃ z, V.str _ = V.str z; exact ⟨_, rfl⟩) | exact Or.inl ⟨by (first | decide | omega), by (first | decide | omega)⟩ | exact Or.inr ⟨by (first | decide | omega), by (first | decide | omega)⟩ | exact ⟨by (first | decide | omega), by (first | decide | omega)⟩ | exact ⟨by decide, by decide, by decide⟩ | exact L2.ClsV.ty _ | exact Dt.ty (by assumption) | exact Dt.kint (by assumption) | exact Dt.kbool (by assumption) | exact Dt.ktuple (by assumption) | exact Dt.klist (by assumption) | exact Dt.kstr (by assumption))) | (apply Exists.intro; apply Exists.intro; apply Exists.intro; apply Exists.intro; apply Exists.intro; apply Exists.intro; apply And.intro; focus (first | rfl | assumption | exact upd_same | exact SqL.of (by (first | assumption | exact upd_same | (rw [upd_ne (by first | assumption | exact Ne.symm (by assumption))]; first | assumption | exact upd_same | (rw [upd_ne (by first | assumption | exact Ne.symm (by assumption))]; first | assumption | exact upd_same)))) | exact SqT.of (by (first | assumption | exact upd_same | (rw [upd_ne (by first | assumption | exact Ne.symm (by assumption))]; first | assumption | exact upd_same | (rw [upd_ne (by first | assumption | exact Ne.symm (by assumption))]; first | assumption | exact upd_same)))) | exact Or.inl (SqL.of (by (first | assumption | exact upd_same | (rw [upd_ne (by first | assumption | exact Ne.symm (by assumption))]; first | assumption | exact upd_same | (rw [upd_ne (by first | assumption | exact Ne.symm (by assumption))]; first | assumption | exact upd_same))))) | exact Or.inr (SqT.of (by (first | assumption | exact upd_same | (rw [upd_ne (by first | assumption | exact Ne.symm (by assumption))]; first | assumption | exact upd_same | (rw [upd_ne (by first | assumption | exact Ne.symm (by assumption))]; first | assumption | exact upd_same))))) | exact Or.inl ⟨rfl, _, SqL.of (by (first | assumption | exact upd_same | (rw [upd_ne (by first | assumption | exact Ne.symm (by assumption))]; first | assumption | exact upd_same | (rw [upd_ne (by first | assumption | exact Ne.symm (by assumption))]; first | assumption | exact upd_same))))⟩ | (first | assumption | exact upd_same | (rw [upd_ne (by first | assumption | exact Ne.symm (by assumption))]; first | assumption | exact upd_same | (rw [upd_ne (by first | assumption | exact Ne.symm (by assumption))]; first | assumption | exact upd_same))) | decide | exact Nat.le_of_ble_eq_true rfl | omega | (show ∃ xs, SqL _ _ _ xs; exact ⟨_, SqL.of (by (first | assumption | exact upd_same | (rw [upd_ne (by first | assumption | exact Ne.symm (by assumption))]; first | assumption | exact upd_same | (rw [upd_ne (by first | assumption | exact Ne.symm (by assumption))]; first | assumption | exact upd_same))))⟩) | (show ∃ xs, SqT _ _ _ xs; exact ⟨_, SqT.of (by (first | assumption | exact upd_same | (rw [upd_ne (by first | assumption | exact Ne.symm (by assumption))]; first | assumption | exact upd_same | (rw [upd_ne (by first | assumption | exact Ne.symm (by assumption))]; first | assumption | exact upd_same))))⟩) | exact DGet.k (k := Sum.inl _) (by (first | assumption | exact upd_same | (rw [upd_ne (by first | assumption | exact Ne.symm (by assumption))]; first | assumption | exact upd_same | (rw [upd_ne (by first | assumption | exact Ne.symm (by assumption))]; first | assumption | exact upd_same)))) | (show V.int _ = kV (Sum.inl _); rfl) | (show ∃ z, V.str _ = V.str z; exact ⟨_, rfl⟩) | exact Or.inl ⟨by (first | decide | omega), by (first | decide | omega)⟩ | exact Or.inr ⟨by (first | decide | omega), by (first | decide | omega)⟩ | exact ⟨by (first | decide | omega), by (first | decide | omega)⟩ | exact ⟨by decide, by decide, by decide⟩ | exact L2.ClsV.ty _ | exact Dt.ty (by assumption) | exact Dt.kint (by assumption) | exact Dt.kbool (by assumption) | exact Dt.ktuple (by assumption) | exact Dt.klist (by assumption) | exact Dt.kstr (by assumption))) | (apply Exists.intro; apply Exists.intro; apply Exists.intro; apply Exists.intro; apply Exists.intro; apply Exists.intro; apply Exists.intro; apply And.intro; focus (first | rfl | assumption | exact upd_same | exact SqL.of (by (first | assumption | exact upd_same | (rw [upd_ne (by first | assumption | exact Ne.symm (by assumption))]; first | assumption | exact upd_same | (rw [upd_ne (by first | assumption | exact Ne.symm (by assumption))]; first | assumption | exact upd_same)))) | exact SqT.of (by (first | assumption | exact upd_same | (rw [upd_ne (by first | assumption | exact Ne.symm (by assumption))]; first | assumption | exact upd_same | (rw [upd_ne (by first | assumption | exact Ne.symm (by assumption))]; first | assumption | exact upd_same)))) | exact Or.inl (SqL.of (by (first | assumption | exact upd_same | (rw [upd_ne (by first | assumption | exact Ne.symm (by assumption))]; first | assumption | exact upd_same | (rw [upd_ne (by first | assumption | exact Ne.symm (by assumption))]; first | assumption | exact upd_same))))) | exact Or.inr (SqT.of (by (first | assumption | exact upd_same | (rw [upd_ne (by first | assumption | exact Ne.symm (by assumption))]; first | assumption | exact upd_same | (rw [upd_ne (by first | assumption | exact Ne.symm (by assumption))]; first | assumption | exact upd_same))))) | exact Or.inl ⟨rfl, _, SqL.of (by (first | assumption | exact upd_same | (rw [upd_ne (by first | assumption | exact Ne.symm (by assumption))]; first | assumption | exact upd_same | (rw [upd_ne (by first | assumption | exact Ne.symm (by assumption))]; first | assumption | exact upd_same))))⟩ | (first | assumption | exact upd_same | (rw [upd_ne (by first | assumption | exact Ne.symm (by assumption))]; first | assumption | exact upd_same | (rw [upd_ne (by first | assumption | exact Ne.symm (by assumption))]; first | assumption | exact upd_same))) | decide | exact Nat.le_of_ble_eq_true rfl | omega | (show ∃ xs, SqL _ _ _ xs; exact ⟨_, SqL.of (by (first | assumption | exact upd_same | (rw [upd_ne (by first | assumption | exact Ne.symm (by assumption))]; first | assumption | exact upd_same | (rw [upd_ne (by first | assumption | exact Ne.symm (by assumption))]; first | assumption | exact upd_same))))⟩) | (show ∃ xs, SqT _ _ _ xs; exact ⟨_, SqT.of (by (first | assumption | exact upd_same | (rw [upd_ne (by first | assumption | exact Ne.symm (by assumption))]; first | assumption | exact upd_same | (rw [upd_ne (by first | assumption | exact Ne.symm (by assumption))]; first | assumption | exact upd_same))))⟩) | exact DGet.k (k := Sum.inl _) (by (first | assumption | exact upd_same | (rw [upd_ne (by first | assumption | exact Ne.symm (by assumption))]; first | assumption | exact upd_same | (rw [upd_ne (by first | assumption | exact Ne.symm (by assumption))]; first | assumption | exact upd_same)))) | (show V.int _ = kV (Sum.inl _); rfl) | (show ∃ z, V.str _ = V.str z; exact ⟨_, rfl⟩) | exact Or.inl ⟨by (first | decide | omega), by (first | decide | omega)⟩ | exact Or.inr ⟨by (first | decide | omega), by (first | decide | omega)⟩ | exact ⟨by (first | decide | omega), by (first | decide | omega)⟩ | exact ⟨by decide, by decide, by decide⟩ | exact L2.ClsV.ty _ | exact Dt.ty (by assumption) | exact Dt.kint (by assumption) | exact Dt.kbool (by assumption) | exact Dt.ktuple (by assumption) | exact Dt.klist (by assumption) | exact Dt.kstr (by assumption))) | (apply Exists.intro; apply Exists.intro; apply Exists.intro; apply Exists.intro; apply Exists.intro; apply Exists.intro; apply Exists.intro; apply Exists.intro; apply And.intro; focus (first | rfl | assumption | exact upd_same | exact SqL.of (by (first | assumption | exact upd_same | (rw [upd_ne (by first | assumption | exact Ne.symm (by assumption))]; first | assumption | exact upd_same | (rw [upd_ne (by first | assumption | exact Ne.symm (by assumption))]; first | assumption | exact upd_same)))) | exact SqT.of (by (first | assumption | exact upd_same | (rw [upd_ne (by first | assumption | exact Ne.symm (by assumption))]; first | assumption | exact upd_same | (rw [upd_ne (by first | assumption | exact Ne.symm (by assumption))]; first | assumption | exact upd_same)))) | exact Or.inl (SqL.of (by (first | assumption | exact upd_same | (rw [upd_ne (by first | assumption | exact Ne.symm (by assumption))]; first | assumption | exact upd_same | (rw [upd_ne (by first | assumption | exact Ne.symm (by assumption))]; first | assumption | exact upd_same))))) | exact Or.inr (SqT.of (by (first | assumption | exact upd_same | (rw [upd_ne (by first | assumption | exact Ne.symm (by assumption))]; first | assumption | exact upd_same | (rw [upd_ne (by first | assumption | exact Ne.symm (by assumption))]; first | assumption | exact upd_same))))) | exact Or.inl ⟨rfl, _, SqL.of (by (first | assumption | exact upd_same | (rw [upd_ne (by first | assumption | exact Ne.symm (by assumption))]; first | assumption | exact upd_same | (rw [upd_ne (by first | assumption | exact Ne.symm (by assumption))]; first | assumption | exact upd_same))))⟩ | (first | assumption | exact upd_same | (rw [upd_ne (by first | assumption | exact Ne.symm (by assumption))]; first | assumption | exact upd_same | (rw [upd_ne (by first | assumption | exact Ne.symm (by assumption))]; first | assumption | exact upd_same))) | decide | exact Nat.le_of_ble_eq_true rfl | omega | (show ∃ xs, SqL _ _ _ xs; exact ⟨_, SqL.of (by (first | assumption | exact upd_same | (rw [upd_ne (by first | assumption | exact Ne.symm (by assumption))]; first | assumption | exact upd_same | (rw [upd_ne (by first | assumption | exact Ne.symm (by assumption))]; first | assumption | exact upd_same))))⟩) | (show ∃ xs, SqT _ _ _ xs; exact ⟨_, SqT.of (by (first | assumption | exact upd_same | (rw [upd_ne (by first | assumption | exact Ne.symm (by assumption))]; first | assumption | exact upd_same | (rw [upd_ne (by first | assumption | exact Ne.symm (by assumption))]; first | assumption | exact upd_same))))⟩) | exact DGet.k (k := Sum.inl _) (by (first | assumption | exact upd_same | (rw [upd_ne (by first | assumption | exact Ne.symm (by assumption))]; first | assumption | exact upd_same | (rw [upd_ne (by first | assumption | exact Ne.symm (by assumption))]; first | assumption | exact upd_same)))) | (show V.int _ = kV (Sum.inl _); rfl) | (show ∃ z, V.str _ = V.str z; exact ⟨_, rfl⟩) | exact Or.inl ⟨by (first | decide | omega), by (first | decide | omega)⟩ | exact Or.inr ⟨by (first | decide | omega), by (first | decide | omega)⟩ | exact ⟨by (first | decide | omega), by (first | decide | omega)⟩ | exact ⟨by decide, by decide, by decide⟩ | exact L2.ClsV.ty _ | exact Dt.ty (by assumption) | exact Dt.kint (by assumption) | exact Dt.kbool (by assumption) | exact Dt.ktuple (by assumption) | exact Dt.klist (by assumption) | exact Dt.kstr (by assumption))) | (apply Exists.intro; apply Exists.intro; apply Exists.intro; apply Exists.intro; apply Exists.intro; apply Exists.intro; apply Exists.intro; apply Exists.intro; apply Exists.intro; apply And.intro; focus (first | rfl | assumption | exact upd_same | exact SqL.of (by (first | assumption | exact upd_same | (rw [upd_ne (by first | assumption | exact Ne.symm (by assumption))]; first | assumption | exact upd_same | (rw [upd_ne (by first | assumption | exact Ne.symm (by assumption))]; first | assumption | exact upd_same)))) | exact SqT.of (by (first | assumption | exact upd_same | (rw [upd_ne (by first | assumption | exact Ne.symm (by assumption))]; first | assumption | exact upd_same | (rw [upd_ne (by first | assumption | exact Ne.symm (by assumption))]; first | assumption | exact upd_same)))) | exact Or.inl (SqL.of (by (first | assumption | exact upd_same | (rw [upd_ne (by first | assumption | exact Ne.symm (by assumption))]; first | assumption | exact upd_same | (rw [upd_ne (by first | assumption | exact Ne.symm (by assumption))]; first | assumption | exact upd_same))))) | exact Or.inr (SqT.of (by (first | assumption | exact upd_same | (rw [upd_ne (by first | assumption | exact Ne.symm (by assumption))]; first | assumption | exact upd_same | (rw [upd_ne (by first | assumption | exact Ne.symm (by assumption))]; first | assumption | exact upd_same))))) | exact Or.inl ⟨rfl, _, SqL.of (by (first | assumption | exact upd_same | (rw [upd_ne (by first | assumption | exact Ne.symm (by assumption))]; first | assumption | exact upd_same | (rw [upd_ne (by first | assumption | exact Ne.symm (by assumption))]; first | assumption | exact upd_same))))⟩ | (first | assumption | exact upd_same | (rw [upd_ne (by first | assumption | exact Ne.symm (by assumption))]; first | assumption | exact upd_same | (rw [upd_ne (by first | assumption | exact Ne.symm (by assumption))]; first | assumption | exact upd_same))) | decide | exact Nat.le_of_ble_eq_true rfl | omega | (show ∃ xs, SqL _ _ _ xs; exact ⟨_, SqL.of (by (first | assumption | exact upd_same | (rw [upd_ne (by first | assumption | exact Ne.symm (by assumption))]; first | assumption | exact upd_same | (rw [upd_ne (by first | assumption | exact Ne.symm (by assumption))]; first | assumption | exact upd_same))))⟩) | (show ∃ xs, SqT _ _ _ xs; exact ⟨_, SqT.of (by (first | assumption | exact upd_same | (rw [upd_ne (by first | assumption | exact Ne.symm (by assumption))]; first | assumption | exact upd_same | (rw [upd_ne (by first | assumption | exact Ne.symm (by assumption))]; first | assumption | exact upd_same))))⟩) | exact DGet.k (k := Sum.inl _) (by (first | assumption | exact upd_same | (rw [upd_ne (by first | assumption | exact Ne.symm (by assumption))]; first | assumption | exact upd_same | (rw [upd_ne (by first | assumption | exact Ne.symm (by assumption))]; first | assumption | exact upd_same)))) | (show V.int _ = kV (Sum.inl _); rfl) | (show ∃ z, V.str _ = V.str z; exact ⟨_, rfl⟩) | exact Or.inl ⟨by (first | decide | omega), by (first | decide | omega)⟩ | exact Or.inr ⟨by (first | decide | omega), by (first | decide | omega)⟩ | exact ⟨by (first | decide | omega), by (first | decide | omega)⟩ | exact ⟨by decide, by decide, by decide⟩ | exact L2.ClsV.ty _ | exact Dt.ty (by assumption) | exact Dt.kint (by assumption) | exact Dt.kbool (by assumption) | exact Dt.ktuple (by assumption) | exact Dt.klist (by assumption) | exact Dt.kstr (by assumption))) | refine Or.inl ⟨_, rfl, ?_⟩ | refine Or.inr ⟨_, rfl, ?_⟩ | refine Or.inr ⟨SqT.of (by (first | assumption | exact upd_same | (rw [upd_ne (by first | assumption | exact Ne.symm (by assumption))]; first | assumption | exact upd_same | (rw [upd_ne (by first | assumption | exact Ne.symm (by assumption))]; first | assumption | exact upd_same)))), SqT.of (by (first | assumption | exact upd_same | (rw [upd_ne (by first | assumption | exact Ne.symm (by assumption))]; first | assumption | exact upd_same | (rw [upd_ne (by first | assumption | exact Ne.symm (by assumption))]; first | assumption | exact upd_same)))), ?_⟩ | refine Or.inl ⟨SqL.of (by (first | assumption | exact upd_same | (rw [upd_ne (by first | assumption | exact Ne.symm (by assumption))]; first | assumption | exact upd_same | (rw [upd_ne (by first | assumption | exact Ne.symm (by assumption))]; first | assumption | exact upd_same)))), SqL.of (by (first | assumption | exact upd_same | (rw [upd_ne (by first | assumption | exact Ne.symm (by assumption))]; first | assumption | exact upd_same | (rw [upd_ne (by first | assumption | exact Ne.symm (by assumption))]; first | assumption | exact upd_same)))), ?_⟩ | refine Or.inl ⟨SqL.of (by (first | assumption | exact upd_same | (rw [upd_ne (by first | assumption | exact Ne.symm (by assumption))]; first | assumption | exact upd_same | (rw [upd_ne (by first | assumption | exact Ne.symm (by assumption))]; first | assumption | exact upd_same)))), ?_⟩ | refine Or.inr ⟨SqT.of (by (first | assumption | exact upd_same | (rw [upd_ne (by first | assumption | exact Ne.symm (by assumption))]; first | assumption | exact upd_same | (rw [upd_ne (by first | assumption | exact Ne.symm (by assumption))]; first | assumption | exact upd_same)))), ?_⟩ | refine ifT rfl ?_ | refine ifF rfl ?_))
section
variable {P : Program} {w : World} {K : PySem.W.Frag} {mg : Str → Option Value} {base : Heap}
theorem law_bytes_step (B : Bi mg) (F : FunAt K mg "_law_bytes" s_law_bytes) 
    (D_law_whole : Has P w K mg base 1 "_law_whole" ["number"] spWhole)  (n : Nat)
    (D_law_bytes : Has P w K mg base (n + 1) "_law_bytes" ["parcel"] (fun vs H Q E => ∃ m, m + 1 = n ∧ spBytes m vs H Q E)) : Has P w K mg base (n + 2) "_law_bytes" ["parcel"] (spBytes n) := by
  refine mk_has F sc_law_bytes (fun _ _ _ _ _ _ us hl => match us, hl with | [_], _ => rfl) (fun vs H Q E h => ?_) fun f cdv A outer s H vs Q E hr h => ?_
  · obtain ⟨N, v, d, rfl, _⟩ := h
    rfl
  obtain ⟨N, v, d, rfl, r, hd, ho, hb, k⟩ := h
  refine ⟨_, (pss_cons (ps_if (pt_cmp (pc_isN (pv 0)))
    (pss_one (ps_ret (pe_lst (pa_cons pe_int pa_nil))))
    pss_nil)
    (pss_cons (ps_if (pt_val (pe_callB call_isi rfl B.isinstance (by decide +kernel) (pa_cons (pv 0) (pa_cons (pe_bltn (v := .ty "bool") rfl B.bool (by decide +kernel) rfl) pa_nil))))
    (pss_one (ps_ret (pe_lst (pa_cons (pe_op op_add pe_int (pe_callTy call_int1 rfl B.int (by decide +kernel) (pa_cons (pv 0) pa_nil))) pa_nil))))
    pss_nil)
    (pss_cons (ps_if (pt_val (pe_callB call_isi rfl B.isinstance (by decide +kernel) (pa_cons (pv 0) (pa_cons (pe_bltn (v := .ty "int") rfl B.int (by decide +kernel) rfl) pa_nil))))
    (pss_one (ps_ret (pe_ifExp (pt_cmpR op_ge (pv 0) pe_int (nomark _)) (pe_op op_cat (pe_lst (pa_cons pe_int pa_nil)) (pe_h D_law_whole (hr.mono (by omega)) rfl (pa_cons (pv 0) pa_nil))) (pe_op op_cat (pe_lst (pa_cons pe_int pa_nil)) (pe_h D_law_whole (hr.mono (by omega)) rfl (pa_cons (pe_op op_sub (pe_op op_sub pe_int pe_int) (pv 0)) pa_nil))))))
    pss_nil)
    (pss_cons (ps_if (pt_val (pe_callB call_isi rfl B.isinstance (by decide +kernel) (pa_cons (pv 0) (pa_cons (pe_bltn (v := .ty "str") rfl B.str (by decide +kernel) rfl) pa_nil))))
    (pss_one (ps_ret (pe_op op_cat (pe_op op_cat (pe_lst (pa_cons pe_int pa_nil)) (pe_h D_law_whole (hr.mono (by omega)) rfl (pa_cons (pe_callB call_len_str rfl B.len PySem.boot_len (pa_cons (pv 0) pa_nil)) pa_nil))) (pe_lc (own := [("sign", 1)]) (g := gName 1) (tt := tYes) (te := (tCB rOrd (tCons (tVar 1) tNil))) rfl sc_law_bytes.nd (pi_str (pv 0)) (blkOk_by (own := [("sign", 1)]) (N := ["parcel", "sign", "found", "part"]) (sc := defScope s_law_bytes) (by decide +kernel)) (fun _ _ _ _ _ => (pg_name (i := 1) sc_law_bytes.nd rfl (Or.inl rfl))) (fun _ _ _ _ _ => pts_nil) (fun _ _ _ _ _ => (pe_callB call_ord rfl B.ord (by decide +kernel) (pa_cons (pv 1) pa_nil)))))))
    pss_nil)
    (pss_cons (ps_set (i := 2) sc_law_bytes.nd rfl (Or.inl rfl) (pe_op op_cat (pe_lst (pa_cons pe_int pa_nil)) (pe_h D_law_whole (hr.mono (by omega)) rfl (pa_cons (pe_callB call_len_seq rfl B.len PySem.boot_len (pa_cons (pv 0) pa_nil)) pa_nil))))
    (pss_cons (ps_for PassesOwn.never rfl (pi_tup (pv 0)) (pg_name (i := 3) sc_law_bytes.nd rfl (Or.inl rfl))
    (pss_one (ps_expr (pe_bm PySem.F.plainAttrs_list PySem.F.slot_list_extend PySem.F.type_list_extend mt_extend (pv 2) (pa_cons (pe_h D_law_bytes hr rfl (pa_cons (pv 3) pa_nil)) pa_nil)))))
    (pss_one (ps_ret (pv 2))))))))), ?_⟩
  have d0 := r.dt
  cases d with
  | list ds => simp [fineB] at ho
  | dict kvs => simp [fineB] at ho
  | none =>
    cases r
    trivial
    intro p np
    exact k p _ (same_new0 np) np upd_same
  | bool b =>
    cases r
    trivial
    intro p np
    refine k p _ (same_new0 np) np ?_
    rw [upd_same]
    cases b <;> rfl
  | int i =>
    cases r
    have hi : i.natAbs < 128 ^ 5999 := by simpa [fineB] using ho
    have p9 : (128 : Nat) ^ 6000 = 128 ^ 5999 * 128 := Nat.pow_succ ..
    trivial
    refine ite2 (fun c => ?_) (fun c => ?_)
    · have c' := of_decide_eq_true c
      have eb : byD (.int i) = 3 :: whN i.toNat := by rw [byD, if_pos c']
      rw [eb] at k hb
      trivial
      intro D nD
      trivial
      have sD := same_new0 (o := .lst [.int 3]) nD
      have eD : upd H D (.lst [.int 3]) D = some (.lst [.int 3]) := upd_same
      refine ⟨i.toNat, by rw [show ((i.toNat : Nat) : Int) = i by omega]; rfl, by omega, fun p H1 s1 np ep => ?_⟩
      refine cat_l (s1 _ _ eD) ep (by simp at hb ⊢; omega) fun p2 H2 s2 n2 e2 => ?_
      exact k p2 H2 ((sD.trans s1).trans s2) ((sD.trans s1).free n2) (by rw [e2]; rfl)
    · have c' := of_decide_eq_false (Bool.eq_false_iff.mpr c)
      have eb : byD (.int i) = 4 :: whN (-1 - i).toNat := by rw [byD, if_neg c']
      rw [eb] at k hb
      trivial
      intro D nD
      have sD := same_new0 (o := .lst [.int 4]) nD
      have eD : upd H D (.lst [.int 4]) D = some (.lst [.int 4]) := upd_same
      trivial
      refine ⟨(-1 - i).toNat, ?_, by omega, fun p H1 s1 np ep => ?_⟩
      · show [V.int (-1 - i)] ++ [] = _
        rw [show (((-1 - i).toNat : Nat) : Int) = -1 - i by omega]
        rfl
      refine cat_l (s1 _ _ eD) ep (by simp at hb ⊢; omega) fun p2 H2 s2 n2 e2 => ?_
      exact k p2 H2 ((sD.trans s1).trans s2) ((sD.trans s1).free n2) (by rw [e2]; rfl)
  | str x =>
    cases r
    have hx : x.length ≤ 100000 := by simpa [fineB] using ho
    have hz : x.length ≤ sizeLine := by rw [sizeLine_eq]; omega
    have eb : byD (.str x) = 5 :: (whN x.length ++ strB x) := by rw [byD]
    rw [eb] at k hb
    trivial
    intro D nD
    have sD := same_new0 (o := .lst [.int 5]) nD
    have eD : upd H D (.lst [.int 5]) D = some (.lst [.int 5]) := upd_same
    trivial
    intro p H1 s1 np ep
    refine cat_l (s1 _ _ eD) ep (by simp at hb ⊢; omega) fun p2 H2 s2 n2 e2 => ?_
    trivial
    intro E nE
    have s02 := (sD.trans s1).trans s2
    have lx : x.cps.toList.length = x.cps.size := by simp
    have hx2 : x.cps.size ≤ 16777216 := Nat.le_trans hx (by decide)
    have lb : (strB x).length = x.cps.size := by rw [strB, List.length_map, lx]
    refine lc_map walk_str ((strB x).map V.int) (by rw [List.length_map, lb]) nE hx2 (fun i H' _ s => True.intro) (fun i y H3 H4 Pn hi s3 yy fin => ?_) fun H3 s3 e3 => ?_
    · obtain ⟨rfl, c3, hc, rfl⟩ := yy
      trivial
      exact fin _ _ (by rw [List.getElem?_map, strB, List.getElem?_map, Array.getElem?_toList, hc]; rfl) (Same.refl _)
    · refine cat_l (s3 _ _ e2) e3 (by simp at hb ⊢; omega) fun p5 H5 s5 n5 e5 => ?_
      have s05 := (s02.trans s3).trans s5
      exact k p5 H5 s05 ((s02.trans s3).free n5) (by rw [e5]; simp)
  | tuple ds =>
    cases r with
    | @tup a xs _ ea na aa =>
    have d1 := Dt.tup ea
    have eb : byD (.tuple ds) = 6 :: (whN ds.length ++ byAll ds) := by rw [byD]
    rw [eb] at k hb
    rw [fineB, Bool.and_eq_true, decide_eq_true_eq] at ho
    have hl := aa.length
    trivial
    intro D nD
    have sD := same_new0 (o := .lst [.int 6]) nD
    have eD : upd H D (.lst [.int 6]) D = some (.lst [.int 6]) := upd_same
    have ea1 := sD _ _ ea
    trivial
    intro p H1 s1 np ep
    rw [hl] at ep
    refine cat_l (s1 _ _ eD) ep (by simp at hb ⊢; omega) fun p2 H2 s2 n2 e2 => ?_
    have s02 := (sD.trans s1).trans s2
    have ea2 := s02 _ _ ea
    have nF := (sD.trans s1).free n2
    trivial
    refine for_it (walk_tup (xs := xs)) (fun i σ H' => ∃ v1 v3, σ = [some (.ref a), v1, some (.ref p2), v3] ∧ Same H H' ∧ H' p2 = some (.lst ((6 :: (whN ds.length ++ byAll (ds.take i))).map V.int))) ⟨none, none, rfl, s02, ?_⟩ (fun i σ H' _ q => ?_) (fun i x σ H3 H4 hi q y => ?_) fun σ H3 q => ?_
    · rw [e2]
      simp [byAll]
    · obtain ⟨v1, v3, _, s3, _⟩ := q
      exact SqT.of (s3 _ _ ea)
    · obtain ⟨v1, v3, rfl, s3, e3⟩ := q
      obtain ⟨rfl, gx⟩ := y
      obtain ⟨dx, mx, gdx, rx⟩ := aa.at_ gx
      have hd' : dx.depth + 1 ≤ n := Nat.le_trans (Nat.succ_le_succ (depth_mem mx)) hd
      have hm := by_mem gdx
      have hb' : (whN ds.length).length + (byAll ds).length + 1 ≤ 1000000 := by simp at hb; omega
      trivial
      refine ⟨n - 1, by omega, N, x, dx, rfl, rx.to (kp_same s3), by omega, ok_mem ho.2 mx, by omega, fun p5 H5 s5 n5 e5 => ?_⟩
      have e6 := s5 _ _ e3
      refine ⟨p2, p5, _, _, rfl, rfl, e6, e5, ?_, ?_⟩
      · rw [sizeLine_eq]
        simp
        omega
      · refine ⟨v1, _, rfl, ?_, ?_⟩
        · exact sput (s3.trans s5) nF
        · rw [upd_same, List.take_add_one, gdx, byAll_app]
          simp [byAll]
    · obtain ⟨v1, v3, rfl, s3, e3⟩ := q
      trivial
      refine k p2 H3 s3 nF ?_
      rw [e3, hl, List.take_length]
theorem d_law_bytes (B : Bi mg) (F : FunAt K mg "_law_bytes" s_law_bytes) 
    (D1 : Has P w K mg base 1 "_law_whole" ["number"] spWhole) : ∀ n : Nat, Has P w K mg base (n + 2) "_law_bytes" ["parcel"] (spBytes n)
  | 0 => law_bytes_step B F D1 0 (has_none F (fun _ _ _ _ _ _ us hl => match us, hl with | [_], _ => rfl) fun _ _ _ _ ⟨_, e, _⟩ => nomatch e)
  | n + 1 => law_bytes_step B F D1 (n + 1) ((d_law_bytes B F D1 n).imp fun _ _ _ _ ⟨m, e, q⟩ => by cases e; exact q)
end
end KQ
set_option Elab.async false
set_option maxRecDepth 100000
set_option maxHeartbeats 4000000
namespace KQ
open PySem PySem.Spec PyProof.Rows L2
local macro_rules | `(tactic| trivial) => `(tactic| repeat (first | refine sl_go (by (first | assumption | exact upd_same | (rw [upd_ne (by first | assumption | exact Ne.symm (by assumption))]; first | assumption | exact upd_same | (rw [upd_ne (by first | assumption | exact Ne.symm (by assumption))]; first | assumption | exact upd_same)))) ?_ | (unfold tNoPart; refine sl_go (by (first | assumption | exact upd_same | (rw [upd_ne (by first | assumption | exact Ne.symm (by assumption))]; first | assumption | exact upd_same | (rw [upd_ne (by first | assumption | exact Ne.symm (by assumption))]; first | assumption | exact upd_same)))) ?_) | refine cat_go (by (first | assumption | exact upd_same | (rw [upd_ne (by first | assumption | exact Ne.symm (by assumption))]; first | assumption | exact upd_same | (rw [upd_ne (by first | assumption | exact Ne.symm (by assumption))]; first | assumption | exact upd_same)))) (by (first | assumption | exact upd_same | (rw [upd_ne (by first | assumption | exact Ne.symm (by assumption))]; first | assumption | exact upd_same | (rw [upd_ne (by first | assumption | exact Ne.symm (by assumption))]; first | assumption | exact upd_same)))) ?_ ?_ | (apply And.intro; focus (first | rfl | assumption | exact upd_same | exact SqL.of (by (first | assumption | exact upd_same | (rw [upd_ne (by first | assumption | exact Ne.symm (by assumption))]; first | assumption | exact upd_same | (rw [upd_ne (by first | assumption | exact Ne.symm (by assumption))]; first | assumption | exact upd_same)))) | exact SqT.of (by (first | assumption | exact upd_same | (rw [upd_ne (by first | assumption | exact Ne.symm (by assumption))]; first | assumption | exact upd_same | (rw [upd_ne (by first | assumption | exact Ne.symm (by assumption))]; first | assumption | exact upd_same)))) | exact Or.inl (SqL.of (by (first | assumption | exact upd_same | (rw [upd_ne (by first | assumption | exact Ne.symm (by assumption))]; first | assumption | exact upd_same | (rw [upd_ne (by first | assumption | exact Ne.symm (by assumption))]; first | assumption | exact upd_same))))) | exact Or.inr (SqT.of (by (first | assumption | exact upd_same | (rw [upd_ne (by first | assumption | exact Ne.symm (by assumption))]; first | assumption | exact upd_same | (rw [upd_ne (by first | assumption | exact Ne.symm (by assumption))]; first | assumption | exact upd_same))))) | exact Or.inl ⟨rfl, _, SqL.of (by (first | assumption | exact upd_same | (rw [upd_ne (by first | assumption | exact Ne.symm (by assumption))]; first | assumption | exact upd_same | (rw [upd_ne (by first | assumption | exact Ne.symm (by assumption))]; first | assumption | exact upd_same))))⟩ | (first | assumption | exact upd_same | (rw [upd_ne (by first | assumption | exact Ne.symm (by assumption))]; first | assumption | exact upd_same | (rw [upd_ne (by first | assumption | exact Ne.symm (by assumption))]; first | assumption | exact upd_same))) | decide | exact Nat.le_of_ble_eq_true rfl | omega | (show ∃ xs, SqL _ _ _ xs; exact ⟨_, SqL.of (by (first | assumption | exact upd_same | (rw [upd_ne (by first | assumption | exact Ne.symm (by assumption))]; first | assumption | exact upd_same | (rw [upd_ne (by first | assumption | exact Ne.symm (by assumption))]; first | assumption | exact upd_same))))⟩) | (show ∃ xs, SqT _ _ _ xs; exact ⟨_, SqT.of (by (first | assumption | exact upd_same | (rw [upd_ne (by first | assumption | exact Ne.symm (by assumption))]; first | assumption | exact upd_same | (rw [upd_ne (by first | assumption | exact Ne.symm (by assumption))]; first | assumption | exact upd_same))))⟩) | exact DGet.k (k := Sum.inl _) (by (first | assumption | exact upd_same | (rw [upd_ne (by first | assumption | exact Ne.symm (by assumption))]; first | assumption | exact upd_same | (rw [upd_ne (by first | assumption | exact Ne.symm (by assumption))]; first | assumption | exact upd_same)))) | (show V.int _ = kV (Sum.inl _); rfl) | (show ∃ z, V.str _ = V.str z; exact ⟨_, rfl⟩) | exact Or.inl ⟨by (first | decide | omega), by (first | decide | omega)⟩ | exact Or.inr ⟨by (first | decide | omega), by (first | decide | omega)⟩ | exact ⟨by (first | decide | omega), by (first | decide | omega)⟩ | exact ⟨by decide, by decide, by decide⟩ | exact L2.ClsV.ty _ | exact Dt.ty (by assumption) | exact Dt.kint (by assumption) | exact Dt.kbool (by assumption) | exact Dt.ktuple (by assumption) | exact Dt.klist (by assumption) | exact Dt.kstr (by assumption))) | (apply Exists.intro; apply And.intro; focus (first | rfl | assumption | exact upd_same | exact SqL.of (by (first | assumption | exact upd_same | (rw [upd_ne (by first | assumption | exact Ne.symm (by assumption))]; first | assumption | exact upd_same | (rw [upd_ne (by first | assumption | exact Ne.symm (by assumption))]; first | assumption | exact upd_same)))) | exact SqT.of (by (first | assumption | exact upd_same | (rw [upd_ne (by first | assumption | exact Ne.symm (by assumption))]; first | assumption | exact upd_same | (rw [upd_ne (by first | assumption | exact Ne.symm (by assumption))]; first | assumption | exact upd_same)))) | exact Or.inl (SqL.of (by (first | assumption | exact upd_same | (rw [upd_ne (by first | assumption | exact Ne.symm (by assumption))]; first | assumption | exact upd_same | (rw [upd_ne (by first | assumption | exact Ne.symm (by assumption))]; first | assumption | exact upd_same))))) | exact Or.inr (SqT.of (by (first | assumption | exact upd_same | (rw [upd_ne (by first | assumption | exact Ne.symm (by assumption))]; first | assumption | exact upd_same | (rw [upd_ne (by first | assumption | exact Ne.symm (by assumption))]; first | assumption | exact upd_same))))) | exact Or.inl ⟨rfl, _, SqL.of (by (first | assumption | exact upd_same | (rw [upd_ne (by first | assumption | exact Ne.symm (by assumption))]; first | assumption | exact upd_same | (rw [upd_ne (by first | assumption | exact Ne.symm (by assumption))]; first | assumption | exact upd_same))))⟩ | (first | assumption | exact upd_same | (rw [upd_ne (by first | assumption | exact Ne.symm (by assumption))]; first | assumption | exact upd_same | (rw [upd_ne (by first | assumption | exact Ne.symm (by assumption))]; first | assumption | exact upd_same))) | decide | exact Nat.le_of_ble_eq_true rfl | omega | (show ∃ xs, SqL _ _ _ xs; exact ⟨_, SqL.of (by (first | assumption | exact upd_same | (rw [upd_ne (by first | assumption | exact Ne.symm (by assumption))]; first | assumption | exact upd_same | (rw [upd_ne (by first | assumption | exact Ne.symm (by assumption))]; first | assumption | exact upd_same))))⟩) | (show ∃ xs, SqT _ _ _ xs; exact ⟨_, SqT.of (by (first | assumption | exact upd_same | (rw [upd_ne (by first | assumption | exact Ne.symm (by assumption))]; first | assumption | exact upd_same | (rw [upd_ne (by first | assumption | exact Ne.symm (by assumption))]; first | assumption | exact upd_same))))⟩) | exact DGet.k (k := Sum.inl _) (by (first | assumption | exact upd_same | (rw [upd_ne (by first | assumption | exact Ne.symm (by assumption))]; first | assumption | exact upd_same | (rw [upd_ne (by first | assumption | exact Ne.symm (by assumption))]; first | assumption | exact upd_same)))) | (show V.int _ = kV (Sum.inl _); rfl) | (show ∃ z, V.str _ = V.str z; exact ⟨_, rfl⟩) | exact Or.inl ⟨by (first | decide | omega), by (first | decide | omega)⟩ | exact Or.inr ⟨by (first | decide | omega), by (first | decide | omega)⟩ | exact ⟨by (first | decide | omega), by (first | decide | omega)⟩ | exact ⟨by decide, by decide, by decide⟩ | exact L2.ClsV.ty _ | exact Dt.ty (by assumption) | exact Dt.kint (by assumption) | exact Dt.kbool (by assumption) | exact Dt.ktuple (by assumption) | exact Dt.klist (by assumption) | exact Dt.kstr (by assumption))) | (apply Exists.intro; apply Exists.intro; apply And.intro; focus (first | rfl | assumption | exact upd_same | exact SqL.of (by (first | assumption | exact upd_same | (rw [upd_ne (by first | assumption | exact Ne.symm (by assumption))]; first | assumption | exact upd_same | (rw [upd_ne (by first | assumption | exact Ne.symm (by assumption))]; first | assumption | exact upd_same)))) | exact SqT.of (by (first | assumption | exact upd_same | (rw [upd_ne (by first | assumption | exact Ne.symm (by assumption))]; first | assumption | exact upd_same | (rw [upd_ne (by first | assumption | exact Ne.symm (by assumption))]; first | assumption | exact upd_same)))) | exact Or.inl (SqL.of (by (first | assumption | exact upd_same | (rw [upd_ne (by first | assumption | exact Ne.symm (by assumption))]; first | assumption | exact upd_same | (rw [upd_ne (by first | assumption | exact Ne.symm (by assumption))]; first | assumption | exact upd_same))))) | exact Or.inr (SqT.of (by (first | assumption | exact upd_same | (rw [upd_ne (by first | assumption | exact Ne.symm (by assumption))]; first | assumption | exact upd_same | (rw [upd_ne (by first | assumption | exact Ne.symm (by assumption))]; first | assumption | exact upd_same))))) | exact Or.inl ⟨rfl, _, SqL.of (by (first | assumption | exact upd_same | (rw [upd_ne (by first | assumption | exact Ne.symm (by assumption))]; first | assumption | exact upd_same | (rw [upd_ne (by first | assumption | exact Ne.symm (by assumption))]; first | assumption | exact upd_same))))⟩ | (first | assumption | exact upd_same | (rw [upd_ne (by first | assumption | exact Ne.symm (by assumption))]; first | assumption | exact upd_same | (rw [upd_ne (by first | assumption | exact Ne.symm (by assumption))]; first | assumption | exact upd_same))) | decide | exact Nat.le_of_ble_eq_true rfl | omega | (show ∃ xs, SqL _ _ _ xs; exact ⟨_, SqL.of (by (first | assumption | exact upd_same | (rw [upd_ne (by first | assumption | exact Ne.symm (by assumption))]; first | assumption | exact upd_same | (rw [upd_ne (by first | assumption | exact Ne.symm (by assumption))]; first | assumption | exact upd_same))))⟩) | (show ∃ xs, SqT _ _ _ xs; exact ⟨_, SqT.of (by (first | assumption | exact upd_same | (rw [upd_ne (by first | assumption | exact Ne.symm (by assumption))]; first | assumption | exact upd_same | (rw [upd_ne (by first | assumption | exact Ne.symm (by assumption))]; first | assumption | exact upd_same))))⟩) | exact DGet.k (k := Sum.inl _) (by (first | assumption | exact upd_same | (rw [upd_ne (by first | assumption | exact Ne.symm (by assumption))]; first | assumption | exact upd_same | (rw [upd_ne (by first | assumption | exact Ne.symm (by assumption))]; first | assumption | exact upd_same)))) | (show V.int _ = kV (Sum.inl _); rfl) | (show ∃ z, V.str _ = V.str z; exact ⟨_, rfl⟩) | exact Or.inl ⟨by (first | decide | omega), by (first | decide | omega)⟩ | exact Or.inr ⟨by (first | decide | omega), by (first | decide | omega)⟩ | exact ⟨by (first | decide | omega), by (first | decide | omega)⟩ | exact ⟨by decide, by decide, by decide⟩ | exact L2.ClsV.ty _ | exact Dt.ty (by assumption) | exact Dt.kint (by assumption) | exact Dt.kbool (by assumption) | exact Dt.ktuple (by assumption) | exact Dt.klist (by assumption) | exact Dt.kstr (by assumption))) | (apply Exists.intro; apply Exists.intro; apply Exists.intro; apply And.intro; focus (first | rfl | assumption | exact upd_same | exact SqL.of (by (first | assumption | exact upd_same | (rw [upd_ne (by first | assumption | exact Ne.symm (by assumption))]; first | assumption | exact upd_same | (rw [upd_ne (by first | assumption | exact Ne.symm (by assumption))]; first | assumption | exact upd_same)))) | exact SqT.of (by (first | assumption | exact upd_same | (rw [upd_ne (by first | assumption | exact Ne.symm (by assumption))]; first | assumption | exact upd_same | (rw [upd_ne (by first | assumption | exact Ne.symm (by assumption))]; first | assumption | exact upd_same)))) | exact Or.inl (SqL.of (by (first | assumption | exact upd_same | (rw [upd_ne (by first | assumption | exact Ne.symm (by assumption))]; first | assumption | exact upd_same | (rw [upd_ne (by first | assumption | exact Ne.symm (by assumption))]; first | assumption | exact upd_same))))) | exact Or.inr (SqT.of (by (first | assumption | exact upd_same | (rw [upd_ne (by first | assumption | exact Ne.symm (by assumption))]; first | assumption | exact upd_same | (rw [upd_ne (by first | assumption | exact Ne.symm (by assumption))]; first | assumption | exact upd_same))))) | exact Or.inl ⟨rfl, _, SqL.of (by (first | assumption | exact upd_same | (rw [upd_ne (by first | assumption | exact Ne.symm (by assumption))]; first | assumption | exact upd_same | (rw [upd_ne (by first | assumption | exact Ne.symm (by assumption))]; first | assumption | exact upd_same))))⟩ | (first | assumption | exact upd_same | (rw [upd_ne (by first | assumption | exact Ne.symm (by assumption))]; first | assumption | exact upd_same | (rw [upd_ne (by first | assumption | exact Ne.symm (by assumption))]; first | assumption | exact upd_same))) | decide | exact Nat.le_of_ble_eq_true rfl | omega | (show ∃ xs, SqL _ _ _ xs; exact ⟨_, SqL.of (by (first | assumption | exact upd_same | (rw [upd_ne (by first | assumption | exact Ne.symm (by assumption))]; first | assumption | exact upd_same | (rw [upd_ne (by first | assumption | exact Ne.symm (by assumption))]; first | assumption | exact upd_same))))⟩) | (show ∃ xs, SqT _ _ _ xs; exact ⟨_, SqT.of (by (first | assumption | exact upd_same | (rw [upd_ne (by first | assumption | exact Ne.symm (by assumption))]; first | assumption | exact upd_same | (rw [upd_ne (by first | assumption | exact Ne.symm (by assumption))]; first | assumption | exact upd_same))))⟩) | exact DGet.k (k := Sum.inl _) (by (first | assumption | exact upd_same | (rw [upd_ne (by first | assumption | exact Ne.symm (by assumption))]; first | assumption | exact upd_same | (rw [upd_ne (by first | assumption | exact Ne.symm (by assumption))]; first | assumption | exact upd_same)))) | (show V.int _ = kV (Sum.inl _); rfl) | (show ∃ z, V.str _ = V.str z; exact ⟨_, rfl⟩) | exact Or.inl ⟨by (first | decide | omega), by (first | decide | omega)⟩ | exact Or.inr ⟨by (first | decide | omega), by (first | decide | omega)⟩ | exact ⟨by (first | decide | omega), by (first | decide | omega)⟩ | exact ⟨by decide, by decide, by decide⟩ | exact L2.ClsV.ty _ | exact Dt.ty (by assumption) | exact Dt.kint (by assumption) | exact Dt.kbool (by assumption) | exact Dt.ktuple (by assumption) | exact Dt.klist (by assumption) | exact Dt.kstr (by assumption))) | (apply Exists.intro; apply Exists.intro; apply Exists.intro; apply Exists.intro; apply And.intro; focus (first | rfl | assumption | exact upd_same | exact SqL.of (by (first | assumption | exact upd_same | (rw [upd_ne (by first | assumption | exact Ne.symm (by assumption))]; first | assumption | exact upd_same | (rw [upd_ne (by first | assumption | exact Ne.symm (by assumption))]; first | assumption | exact upd_same)))) | exact SqT.of (by (first | assumption | exact upd_same | (rw [upd_ne (by first | assumption | exact Ne.symm (by assumption))]; first | assumption | exact upd_same | (rw [upd_ne (by first | assumption | exact Ne.symm (by assumption))]; first | assumption | exact upd_same)))) | exact Or.inl (SqL.of (by (first | assumption | exact upd_same | (rw [upd_ne (by first | assumption | exact Ne.symm (by assumption))]; first | assumption | exact upd_same | (rw [upd_ne (by first | assumption | exact Ne.symm (by assumption))]; first | assumption | exact upd_same))))) | exact Or.inr (SqT.of (by (first | assumption | exact upd_same | (rw [upd_ne (by first | assumption | exact Ne.symm (by assumption))]; first | assumption | exact upd_same | (rw [upd_ne (by first | assumption | exact Ne.symm (by assumption))]; first | assumption | exact upd_same))))) | exact Or.inl ⟨rfl, _, SqL.of (by (first | assumption | exact upd_same | (rw [upd_ne (by first | assumption | exact Ne.symm (by assumption))]; first | assumption | exact upd_same | (rw [upd_ne (by first | assumption | exact Ne.symm (by assumption))]; first | assumption | exact upd_same))))⟩ | (first | assumption | exact upd_same | (rw [upd_ne (by first | assumption | exact Ne.symm (by assumption))]; first | assumption | exact upd_same | (rw [upd_ne (by first | assumption | exact Ne.symm (by assumption))]; first | assumption | exact upd_same))) | decide | exact Nat.le_of_ble_eq_true rfl | omega | (show ∃ xs, SqL _ _ _ xs; exact ⟨_, SqL.of (by (first | assumption | exact upd_same | (rw [upd_ne (by first | assumption | exact Ne.symm (by assumption))]; first | assumption | exact upd_same | (rw [upd_ne (by first | assumption | exact Ne.symm (by assumption))]; first | assumption | exact upd_same))))⟩) | (show ∃ xs, SqT _ _ _ xs; exact ⟨_, SqT.of (by (first | assumption | exact upd_same | (rw [upd_ne (by first | assumption | exact Ne.symm (by assumption))]; first | assumption | exact upd_same | (rw [upd_ne (by first | assumption | exact Ne.symm (by assumption))]; first | assumption | exact upd_same))))⟩) | exact DGet.k (k := Sum.inl _) (by (first | assumption | exact upd_same | (rw [upd_ne (by first | assumption | exact Ne.symm (by assumption))]; first | assumption | exact upd_same | (rw [upd_ne (by first | assumption | exact Ne.symm (by assumption))]; first | assumption | exact upd_same)))) | (show V.int _ = kV (Sum.inl _); rfl) | (show ∃ z, V.str _ = V.str z; exact ⟨_, rfl⟩) | exact Or.inl ⟨by (first | decide | omega), by (first | decide | omega)⟩ | exact Or.inr ⟨by (first | decide | omega), by (first | decide | omega)⟩ | exact ⟨by (first | decide | omega), by (first | decide | omega)⟩ | exact ⟨by decide, by decide, by decide⟩ | exact L2.ClsV.ty _ | exact Dt.ty (by assumption) | exact Dt.kint (by assumption) | exact Dt.kbool (by assumption) | exact Dt.ktuple (by assumption) | exact Dt.klist (by assumption) | exact Dt.kstr (by assumption))) | (apply Exists.intro; apply Exists.intro; apply Exists.intro; apply Exists.intro; apply Exists.intro; apply And.intro; focus (first | rfl | assumption | exact upd_same | exact SqL.of (by (first | assumption | exact upd_same | (rw [upd_ne (by first | assumption | exact Ne.symm (by assumption))]; first | assumption | exact upd_same | (rw [upd_ne (by first | assumption | exact Ne.symm (by assumption))]; first | assumption | exact upd_same)))) | exact SqT.of (by (first | assumption | exact upd_same | (rw [upd_ne (by first | assumption | exact Ne.symm (by assumption))]; first | assumption | exact upd_same | (rw [upd_ne (by first | assumption | exact Ne.symm (by assumption))]; first | assumption | exact upd_same)))) | exact Or.inl (SqL.of (by (first | assumption | exact upd_same | (rw [upd_ne (by first | assumption | exact Ne.symm (by assumption))]; first | assumption | exact upd_same | (rw [upd_ne (by first | assumption | exact Ne.symm (by assumption))]; first | assumption | exact upd_same))))) | exact Or.inr (SqT.of (by (first | assumption | exact upd_same | (rw [upd_ne (by first | assumption | exact Ne.symm (by assumption))]; first | assumption | exact upd_same | (rw [upd_ne (by first | assumption | exact Ne.symm (by assumption))]; first | assumption | exact upd_same))))) | exact Or.inl ⟨rfl, _, SqL.of (by (first | assumption | exact upd_same | (rw [upd_ne (by first | assumption | exact Ne.symm (by assumption))]; first | assumption | exact upd_same | (rw [upd_ne (by first | assumption | exact Ne.symm (by assumption))]; first | assumption | exact upd_same))))⟩ | (first | assumption | exact upd_same | (rw [upd_ne (by first | assumption | exact Ne.symm (by assumption))]; first | assumption | exact upd_same | (rw [upd_ne (by first | assumption | exact Ne.symm (by assumption))]; first | assumption | exact upd_same))) | decide | exact Nat.le_of_ble_eq_true rfl | omega | (show ∃ xs, SqL _ _ _ xs; exact ⟨_, SqL.of (by (first | assumption | exact upd_same | (rw [upd_ne (by first | assumption | exact Ne.symm (by assumption))]; first | assumption | exact upd_same | (rw [upd_ne (by first | assumption | exact Ne.symm (by assumption))]; first | assumption | exact upd_same))))⟩) | (show ∃ xs, SqT _ _ _ xs; exact ⟨_, SqT.of (by (first | assumption | exact upd_same | (rw [upd_ne (by first | assumption | exact Ne.symm (by assumption))]; first | assumption | exact upd_same | (rw [upd_ne (by first | assumption | exact Ne.symm (by assumption))]; first | assumption | exact upd_same))))⟩) | exact DGet.k (k := Sum.inl _) (by (first | assumption | exact upd_same | (rw [upd_ne (by first | assumption | exact Ne.symm (by assumption))]; first | assumption | exact upd_same | (rw [upd_ne (by first | assumption | exact Ne.symm (by assumption))]; first | assumption | exact upd_same)))) | (show V.int _ = kV (Sum.inl _); rfl) | (show ∃ z, V.str _ = V.str z; exact ⟨_, rfl⟩) | exact Or.inl ⟨by (first | decide | omega), by (first | decide | omega)⟩ | exact Or.inr ⟨by (first | decide | omega), by (first | decide | omega)⟩ | exact ⟨by (first | decide | omega), by (first | decide | omega)⟩ | exact ⟨by decide, by decide, by decide⟩ | exact L2.ClsV.ty _ | exact Dt.ty (by assumption) | exact Dt.kint (by assumption) | exact Dt.kbool (by assumption) | exact Dt.ktuple (by assumption) | exact Dt.klist (by assumption) | exact Dt.kstr (by assumption))) | (apply Exists.intro; apply Exists.intro; apply Exists.intro; apply Exists.intro; apply Exists.intro; apply Exists.intro; apply And.intro; focus (first | rfl | assumption | exact upd_same | exact SqL.of (by (first | assumption | exact upd_same | (rw [upd_ne (by first | assumption | exact Ne.symm (by assumption))]; first | assumption | exact upd_same | (rw [upd_ne (by first | assumption | exact Ne.symm (by assumption))]; first | assumption | exact upd_same)))) | exact SqT.of (by (first | assumption | exact upd_same | (rw [upd_ne (by first | assumption | exact Ne.symm (by assumption))]; first | assumption | exact upd_same | (rw [upd_ne (by first | assumption | exact Ne.symm (by assumption))]; first | assumption | exact upd_same)))) | exact Or.inl (SqL.of (by (first | assumption | exact upd_same | (rw [upd_ne (by first | assumption | exact Ne.symm (by assumption))]; first | assumption | exact upd_same | (rw [upd_ne (by first | assumption | exact Ne.symm (by assumption))]; first | assumption | exact upd_same))))) | exact Or.inr (SqT.of (by (first | assumption | exact upd_same | (rw [upd_ne (by first | assumption | exact Ne.symm (by assumption))]; first | assumption | exact upd_same | (rw [upd_ne (by first | assumption | exact Ne.symm (by assumption))]; first | assumption | exact upd_same))))) | exact Or.inl ⟨rfl, _, SqL.of (by (first | assumption | exact upd_same | (rw [upd_ne (by first | assumption | exact Ne.symm (by assumption))]; first | assumption | exact upd_same | (rw [upd_ne (by first | assumption | exact Ne.symm (by assumption))]; first | assumption | exact upd_same))))⟩ | (first | assumption | exact upd_same | (rw [upd_ne (by first | assumption | exact Ne.symm (by assumption))]; first | assumption | exact upd_same | (rw [upd_ne (by first | assumption | exact Ne.symm (by assumption))]; first | assumption | exact upd_same))) | decide | exact Nat.le_of_ble_eq_true rfl | omega | (show ∃ xs, SqL _ _ _ xs; exact ⟨_, SqL.of (by (first | assumption | exact upd_same | (rw [upd_ne (by first | assumption | exact Ne.symm (by assumption))]; first | assumption | exact upd_same | (rw [upd_ne (by first | assumption | exact Ne.symm (by assumption))]; first | assumption | exact upd_same))))⟩) | (show ∃ xs, SqT _ _ _ xs; exact ⟨_, SqT.of (by (first | assumption | exact upd_same | (rw [upd_ne (by first | assumption | exact Ne.symm (by assumption))]; first | assumption | exact upd_same | (rw [upd_ne (by first | assumption | exact Ne.symm (by assumption))]; first | assumption | exact upd_same))))⟩) | exact DGet.k (k := Sum.inl _) (by (first | assumption | exact upd_same | (rw [upd_ne (by first | assumption | exact Ne.symm (by assumption))]; first | assumption | exact upd_same | (rw [upd_ne (by first | assumption | exact Ne.symm (by assumption))]; first | assumption | exact upd_same)))) | (show V.int _ = kV (Sum.inl _); rfl) | (show ∃ z, V.str _ = V.str z; exact ⟨_, rfl⟩) | exact Or.inl ⟨by (first | decide | omega), by (first | decide | omega)⟩ | exact Or.inr ⟨by (first | decide | omega), by (first | decide | omega)⟩ | exact ⟨by (first | decide | omega), by (first | decide | omega)⟩ | exact ⟨by decide, by decide, by decide⟩ | exact L2.ClsV.ty _ | exact Dt.ty (by assumption) | exact Dt.kint (by assumption) | exact Dt.kbool (by assumption) | exact Dt.ktuple (by assumption) | exact Dt.klist (by assumption) | exact Dt.kstr (by assumption))) | (apply Exists.intro; apply Exists.intro; apply Exists.intro; apply Exists.intro; apply Exists.intro; apply Exists.intro; apply Exists.intro; apply And.intro; focus (first | rfl | assumption | exact upd_same | exact SqL.of (by (first | assumption | exact upd_same | (rw [upd_ne (by first | assumption | exact Ne.symm (by assumption))]; first | assumption | exact upd_same | (rw [upd_ne (by first | assumption | exact Ne.symm (by assumption))]; first | assumption | exact upd_same)))) | exact SqT.of (by (first | assumption | exact upd_same | (rw [upd_ne (by first | assumption | exact Ne.symm (by assumption))]; first | assumption | exact upd_same | (rw [upd_ne (by first | assumption | exact Ne.symm (by assumption))]; first | assumption | exact upd_same)))) | exact Or.inl (SqL.of (by (first | assumption | exact upd_same | (rw [upd_ne (by first | assumption | exact Ne.symm (by assumption))]; first | assumption | exact upd_same | (rw [upd_ne (by first | assumption | exact Ne.symm (by assumption))]; first | assumption | exact upd_same))))) | exact Or.inr (SqT.of (by (first | assumption | exact upd_same | (rw [upd_ne (by first | assumption | exact Ne.symm (by assumption))]; first | assumption | exact upd_same | (rw [upd_ne (by first | assumption | exact Ne.symm (by assumption))]; first | assumption | exact upd_same))))) | exact Or.inl ⟨rfl, _, SqL.of (by (first | assumption | exact upd_same | (rw [upd_ne (by first | assumption | exact Ne.symm (by assumption))]; first | assumption | exact upd_same | (rw [upd_ne (by first | assumption | exact Ne.symm (by assumption))]; first | assumption | exact upd_same))))⟩ | (first | assumption | exact upd_same | (rw [upd_ne (by first | assumption | exact Ne.symm (by assumption))]; first | assumption | exact upd_same | (rw [upd_ne (by first | assumption | exact Ne.symm (by assumption))]; first | assumption | exact upd_same))) | decide | exact Nat.le_of_ble_eq_true rfl | omega | (show ∃ xs, SqL _ _ _ xs; exact ⟨_, SqL.of (by (first | assumption | exact upd_same | (rw [upd_ne (by first | assumption | exact Ne.symm (by assumption))]; first | assumption | exact upd_same | (rw [upd_ne (by first | assumption | exact Ne.symm (by assumption))]; first | assumption | exact upd_same))))⟩) | (show ∃ xs, SqT _ _ _ xs; exact ⟨_, SqT.of (by (first | assumption | exact upd_same | (rw [upd_ne (by first | assumption | exact Ne.symm (by assumption))]; first | assumption | exact upd_same | (rw [upd_ne (by first | assumption | exact Ne.symm (by assumption))]; first | assumption | exact upd_same))))⟩) | exact DGet.k (k := Sum.inl _) (by (first | assumption | exact upd_same | (rw [upd_ne (by first | assumption | exact Ne.symm (by assumption))]; first | assumption | exact upd_same | (rw [upd_ne (by first | assumption | exact Ne.symm (by assumption))]; first | assumption | exact upd_same)))) | (show V.int _ = kV (Sum.inl _); rfl) | (show ∃ z, V.str _ = V.str z; exact ⟨_, rfl⟩) | exact Or.inl ⟨by (first | decide | omega), by (first | decide | omega)⟩ | exact Or.inr ⟨by (first | decide | omega), by (first | decide | omega)⟩ | exact ⟨by (first | decide | omega), by (first | decide | omega)⟩ | exact ⟨by decide, by decide, by decide⟩ | exact L2.ClsV.ty _ | exact Dt.ty (by assumption) | exact Dt.kint (by assumption) | exact Dt.kbool (by assumption) | exact Dt.ktuple (by assumption) | exact Dt.klist (by assumption) | exact Dt.kstr (by assumption))) | (apply Exists.intro; apply Exists.intro; apply Exists.intro; apply Exists.intro; apply Exists.intro; apply Exists.intro; apply Exists.intro; apply Exists.intro; apply And.intro; focus (first | rfl | assumption | exact upd_same | exact SqL.of (by (first | assumption | exact upd_same | (rw [upd_ne (by first | assumption | exact Ne.symm (by assumption))]; first | assumption | exact upd_same | (rw [upd_ne (by first | assumption | exact Ne.symm (by assumption))]; first | assumption | exact upd_same)))) | exact SqT.of (by (first | assumption | exact upd_same | (rw [upd_ne (by first | assumption | exact Ne.symm (by assumption))]; first | assumption | exact upd_same | (rw [upd_ne (by first | assumption | exact Ne.symm (by assumption))]; first | assumption | exact upd_same)))) | exact Or.inl (SqL.of (by (first | assumption | exact upd_same | (rw [upd_ne (by first | assumption | exact Ne.symm (by assumption))]; first | assumption | exact upd_same | (rw [upd_ne (by first | assumption | exact Ne.symm (by assumption))]; first | assumption | exact upd_same))))) | exact Or.inr (SqT.of (by (first | assumption | exact upd_same | (rw [upd_ne (by first | assumption | exact Ne.symm (by assumption))]; first | assumption | exact upd_same | (rw [upd_ne (by first | assumption | exact Ne.symm (by assumption))]; first | assumption | exact upd_same))))) | exact Or.inl ⟨rfl, _, SqL.of (by (first | assumption | exact upd_same | (rw [upd_ne (by first | assumption | exact Ne.symm (by assumption))]; first | assumption | exact upd_same | (rw [upd_ne (by first | assumption | exact Ne.symm (by assumption))]; first | assumption | exact upd_same))))⟩ | (first | assumption | exact upd_same | (rw [upd_ne (by first | assumption | exact Ne.symm (by assumption))]; first | assumption | exact upd_same | (rw [upd_ne (by first | assumption | exact Ne.symm (by assumption))]; first | assumption | exact upd_same))) | decide | exact Nat.le_of_ble_eq_true rfl | omega | (show ∃ xs, SqL _ _ _ xs; exact ⟨_, SqL.of (by (first | assumption | exact upd_same | (rw [upd_ne (by first | assumption | exact Ne.symm (by assumption))]; first | assumption | exact upd_same | (rw [upd_ne (by first | assumption | exact Ne.symm (by assumption))]; first | assumption | exact upd_same))))⟩) | (show ∃ xs, SqT _ _ _ xs; exact ⟨_, SqT.of (by (first | assumption | exact upd_same | (rw [upd_ne (by first | assumption | exact Ne.symm (by assumption))]; first | assumption | exact upd_same | (rw [upd_ne (by first | assumption | exact Ne.symm (by assumption))]; first | assumption | exact upd_same))))⟩) | exact DGet.k (k := Sum.inl _) (by (first | assumption | exact upd_same | (rw [upd_ne (by first | assumption | exact Ne.symm (by assumption))]; first | assumption | exact upd_same | (rw [upd_ne (by first | assumption | exact Ne.symm (by assumption))]; first | assumption | exact upd_same)))) | (show V.int _ = kV (Sum.inl _); rfl) | (show ∃ z, V.str _ = V.str z; exact ⟨_, rfl⟩) | exact Or.inl ⟨by (first | decide | omega), by (first | decide | omega)⟩ | exact Or.inr ⟨by (first | decide | omega), by (first | decide | omega)⟩ | exact ⟨by (first | decide | omega), by (first | decide | omega)⟩ | exact ⟨by decide, by decide, by decide⟩ | exact L2.ClsV.ty _ | exact Dt.ty (by assumption) | exact Dt.kint (by assumption) | exact Dt.kbool (by assumption) | exact Dt.ktuple (by assumption) | exact Dt.klist (by assumption) | exact Dt.kstr (by assumption))) | (apply Exists.intro; apply Exists.intro; apply Exists.intro; apply Exists.intro; apply Exists.intro; apply Exists.intro; apply Exists.intro; apply Exists.intro; apply Exists.intro; apply And.intro; focus (first | rfl | assumption | exact upd_same | exact SqL.of (by (first | assumption | exact upd_same | (rw [upd_ne (by first | assumption | exact Ne.symm (by assumption))]; first | assumption | exact upd_same | (rw [upd_ne (by first | assumption | exact Ne.symm (by assumption))]; first | assumption | exact upd_same)))) | exact SqT.of (by (first | assumption | exact upd_same | (rw [upd_ne (by first | assumption | exact Ne.symm (by assumption))]; first | assumption | exact upd_same | (rw [upd_ne (by first | assumption | exact Ne.symm (by assumption))]; first | assumption | exact upd_same)))) | exact Or.inl (SqL.of (by (first | assumption | exact upd_same | (rw [upd_ne (by first | assumption | exact Ne.symm (by assumption))]; first | assumption | exact upd_same | (rw [upd_ne (by first | assumption | exact Ne.symm (by assumption))]; first | assumption | exact upd_same))))) | exact Or.inr (SqT.of (by (first | assumption | exact upd_same | (rw [upd_ne (by first | assumption | exact Ne.symm (by assumption))]; first | assumption | exact upd_same | (rw [upd_ne (by first | assumption | exact Ne.symm (by assumption))]; first | assumption | exact upd_same))))) | exact Or.inl ⟨rfl, _, SqL.of (by (first | assumption | exact upd_same | (rw [upd_ne (by first | assumption | exact Ne.symm (by assumption))]; first | assumption | exact upd_same | (rw [upd_ne (by first | assumption | exact Ne.symm (by assumption))]; first | assumption | exact upd_same))))⟩ | (first | assumption | exact upd_same | (rw [upd_ne (by first | assumption | exact Ne.symm (by assumption))]; first | assumption | exact upd_same | (rw [upd_ne (by first | assumption | exact Ne.symm (by assumption))]; first | assumption | exact upd_same))) | decide | exact Nat.le_of_ble_eq_true rfl | omega | (show ∃ xs, SqL _ _ _ xs; exact ⟨_, SqL.of (by (first | assumption | exact upd_same | (rw [upd_ne (by first | assumption | exact Ne.symm (by assumption))]; first | assumption | exact upd_same | (rw [upd_ne (by first | assumption | exact Ne.symm (by assumption))]; first | assumption | exact upd_same))))⟩) | (show ∃ xs, SqT _ _ _ xs; exact ⟨_, SqT.of (by (first | assumption | exact upd_same | (rw [upd_ne (by first | assumption | exact Ne.symm (by assumption))]; first | assumption | exact upd_same | (rw [upd_ne (by first | assumption | exact Ne.symm (by assumption))]; first | assumption | exact upd_same))))⟩) | exact DGet.k (k := Sum.inl _) (by (first | assumption | exact upd_same | (rw [upd_ne (by first | assumption | exact Ne.symm (by assumption))]; first | assumption | exact upd_same | (rw [upd_ne (by first | assumption | exact Ne.symm (by assumption))]; first | assumption | exact upd_same)))) | (show V.int _ = kV (Sum.inl _); rfl) | (show ∃ z, V.str _ = V.str z; exact ⟨_, rfl⟩) | exact Or.inl ⟨by (first | decide | omega), by (first | decide | omega)⟩ | exact Or.inr ⟨by (first | decide | omega), by (first | decide | omega)⟩ | exact ⟨by (first | decide | omega), by (first | decide | omega)⟩ | exact ⟨by decide, by decide, by decide⟩ | exact L2.ClsV.ty _ | exact Dt.ty (by assumption) | exact Dt.kint (by assumption) | exact Dt.kbool (by assumption) | exact Dt.ktuple (by assumption) | exact Dt.klist (by assumption) | exact Dt.kstr (by assumption))) | refine Or.inl ⟨_, rfl, ?_⟩ | refine Or.inr ⟨_, rfl, ?_⟩ | refine Or.inr ⟨SqT.of (by (first | assumption | exact upd_same | (rw [upd_ne (by first | assumption | exact Ne.symm (by assumption))]; first | assumption | exact upd_same | (rw [upd_ne (by first | assumption | exact Ne.symm (by assumption))]; first | assumption | exact upd_same)))), SqT.of (by (first | assumption | exact upd_same | (rw [upd_ne (by first | assumption | exact Ne.symm (by assumption))]; first | assumption | exact upd_same | (rw [upd_ne (by first | assumption | exact Ne.symm (by assumption))]; first | assumption | exact upd_same)))), ?_⟩ | refine Or.inl ⟨SqL.of (by (first | assumption | exact upd_same | (rw [upd_ne (by first | assumption | exact Ne.symm (by assumption))]; first | assumption | exact upd_same | (rw [upd_ne (by first | assumption | exact Ne.symm (by assumption))]; first | assumption | exact upd_same)))), SqL.of (by (first | assumption | exact upd_same | (rw [upd_ne (by first | assumption | exact Ne.symm (by assumption))]; first | assumption | exact upd_same | (rw [upd_ne (by first | assumption | exact Ne.symm (by assumption))]; first | assumption | exact upd_same)))), ?_⟩ | refine Or.inl ⟨SqL.of (by (first | assumption | exact upd_same | (rw [upd_ne (by first | assumption | exact Ne.symm (by assumption))]; first | assumption | exact upd_same | (rw [upd_ne (by first | assumption | exact Ne.symm (by assumption))]; first | assumption | exact upd_same)))), ?_⟩ | refine Or.inr ⟨SqT.of (by (first | assumption | exact upd_same | (rw [upd_ne (by first | assumption | exact Ne.symm (by assumption))]; first | assumption | exact upd_same | (rw [upd_ne (by first | assumption | exact Ne.symm (by assumption))]; first | assumption | exact upd_same)))), ?_⟩ | refine ifT rfl ?_ | refine ifF rfl ?_))
theorem isP_depth : ∀ (n : Nat) (d : PyData), isP n d = true → d.depth ≤ n := by
  intro n
  induction n with
  | zero =>
    intro d h
    cases d <;> first | (simp [isP, flatP] at h; done) | (simp [PyData.depth]; done)
  | succ n ih =>
    intro d h
    cases d with
    | tuple ds =>
      have h' : ds.all (isP n) = true := h
      have : ∀ ds : List PyData, ds.all (isP n) = true → PyData.depthAll ds ≤ n := fun ds => by
        induction ds with
        | nil => intro _; simp [PyData.depthAll]
        | cons d ds ih2 =>
          intro h
          rw [List.all_cons, Bool.and_eq_true] at h
          have a := ih d h.1
          have b := ih2 h.2
          simp only [PyData.depthAll]
          omega
      have := this ds h'
      simp only [PyData.depth]
      omega
    | list ds => simp [isP, flatP] at h
    | dict ds => simp [isP, flatP] at h
    | _ => simp [PyData.depth]
def PRIM : Int := 2305843009213693951
def markL (ns : List Int) : Int := ns.foldl (fun n b => (1000003 * n + b + 1).fmod PRIM) 1
theorem mark_snoc {ns : List Int} {b : Int} : markL (ns ++ [b]) = (1000003 * markL ns + b + 1).fmod PRIM := by simp [markL, List.foldl_append]
theorem mark_nn {ns : List Int} : 0 ≤ markL ns ∧ markL ns < PRIM := by
  rcases List.eq_nil_or_concat ns with rfl | ⟨l, b, rfl⟩
  · decide
  · rw [List.concat_eq_append, mark_snoc]
    exact fmod_lt' (by decide)
def sealL (ns : List Int) : List Int := (List.range 4).map fun (k : Nat) => ((markL ns).fmod 4294967296).fdiv (256 ^ k) % 256
def spIsParcel : Sp := fun vs H Q _ => ∃ (N : Addr → Prop) (v : V) (d : PyData), vs = [v] ∧ Rp N H v d ∧ slim d = true ∧ ∀ H', Same H H' → Q (.bl (isP 20 d)) H'
def spRowOf (CN : Addr) : Sp := fun vs H Q E => ∃ (N : Addr → Prop) (v : V) (d : PyData), vs = [v] ∧ Rp N H v d ∧ slim d = true ∧ (isP 20 d = false → ∀ H', Same H H' → E (.ref CN) none H') ∧
  (isP 20 d = true → fineB d = true ∧ (byD d).length ≤ 1000000 ∧ ∀ p H', Same H H' → H' p = some (.tup ((byD d).map V.int)) → Q (.ref p) H')
def spMark : Sp := fun vs H Q _ => ∃ (a : Addr) (ns : List Int), vs = [.ref a] ∧ H a = some (.tup (ns.map V.int)) ∧ Q (.int (markL ns)) H
def spSealOf : Sp := fun vs H Q _ => ∃ (a : Addr) (ns : List Int), vs = [.ref a] ∧ H a = some (.tup (ns.map V.int)) ∧ ∀ p H', Same H H' → H' p = some (.tup ((sealL ns).map V.int)) → Q (.ref p) H'
def spSealed (CN : Addr) : Sp := fun vs H Q E => ∃ (N : Addr → Prop) (v : V) (d : PyData), vs = [v] ∧ Rp N H v d ∧ slim d = true ∧ (isP 20 d = false → ∀ H', Same H H' → E (.ref CN) none H') ∧
  (isP 20 d = true → fineB d = true ∧ (byD d).length ≤ 1000000 ∧ ∀ p H', Same H H' → H' p = some (.tup ((byD d ++ sealL (byD d)).map V.int)) → Q (.ref p) H')
section
variable {P : Program} {w : World} {K : PySem.W.Frag} {mg : Str → Option Value} {base : Heap} {t1 t2 t3 t4 : Tok} {CN : Addr}
theorem d_is_parcel (F : FunAt K mg "is_parcel" s_is_parcel) (g_DEEPEST : mg "DEEPEST" = some (.int 20 t1)) (D_is_parcel_within : Has P w K mg base 22 "is_parcel_within" ["deep", "thing"] (spWithinP 20)) : Has P w K mg base 23 "is_parcel" ["thing"] spIsParcel := by
  refine mk_has F sc_is_parcel (fun _ _ _ _ _ _ us hl => match us, hl with | [_], _ => rfl) (fun vs H Q E h => ?_) fun f cdv A outer s H vs Q E hr h => ?_
  · obtain ⟨N, v, d, rfl, _⟩ := h
    rfl
  obtain ⟨N, v, d, rfl, r, hs, k⟩ := h
  refine ⟨_, (pss_one (ps_ret (pe_h D_is_parcel_within (hr.mono (by decide)) rfl (pa_cons (pe_glob (v := .int 20) rfl g_DEEPEST ⟨_, rfl⟩) (pa_cons (pv 0) pa_nil))))), ?_⟩
  exact ⟨_, rfl, N, 20, v, d, rfl, Nat.le_refl _, r, hs, k⟩
theorem d_row_of (B : Bi mg) (x_NoParcel : ExcAt K mg "NoParcel" CN) (F : FunAt K mg "row_of" s_row_of) (D_is_parcel : Has P w K mg base 23 "is_parcel" ["thing"] spIsParcel) (D_bytes_of : Has P w K mg base 22 "bytes_of" ["parcel"] (spBytes 20)) : HasX P w K mg base 24 "row_of" ["parcel"] (spRowOf CN) := by
  refine mk_hasX F sc_row_of (fun _ _ _ _ _ _ us hl => match us, hl with | [_], _ => rfl) (fun vs H Q E h => ?_) fun f cdv A outer s H vs Q E hr h => ?_
  · obtain ⟨N, v, d, rfl, _⟩ := h
    rfl
  obtain ⟨N, v, d, rfl, r, hs, k1, k2⟩ := h
  refine ⟨_, (pss_cons (ps_if (pt_not (pt_val (pe_h D_is_parcel (hr.mono (by decide)) rfl (pa_cons (pv 0) pa_nil))))
    (pss_one (ps_rz rfl (takes_of rfl rfl rfl rfl) x_NoParcel rfl))
    pss_nil)
    (pss_one (ps_ret (pe_callTy call_tuple_of rfl B.tuple (by decide +kernel) (pa_cons (pe_h D_bytes_of (hr.mono (by decide)) rfl (pa_cons (pv 0) pa_nil)) pa_nil))))), ?_⟩
  refine ⟨_, rfl, N, v, d, rfl, r, hs, fun H1 s1 => ?_⟩
  trivial
  cases e : isP 20 d with
  | false =>
    trivial
    exact k1 e H1 s1
  | true =>
    obtain ⟨hf, hb, k3⟩ := k2 e
    refine ifF rfl ?_
    refine ⟨_, rfl, N, v, d, rfl, r.to (kp_same s1), isP_depth 20 d e, hf, hb, fun p H2 s2 np ep => ?_⟩
    trivial
    intro p3 n3
    exact k3 p3 _ (snew (s1.trans s2) n3) upd_same
theorem d_mark_of (F : FunAt K mg "mark_of" s_mark_of) (g_FACTOR : mg "FACTOR" = some (.int 1000003 t1)) (g_PRIME : mg "PRIME" = some (.int 2305843009213693951 t2)) : Has P w K mg base 1 "mark_of" ["row"] spMark := by
  refine mk_has F sc_mark_of (fun _ _ _ _ _ _ us hl => match us, hl with | [_], _ => rfl) (fun vs H Q E h => ?_) fun f cdv A outer s H vs Q E hr h => ?_
  · obtain ⟨a, ns, rfl, _⟩ := h
    rfl
  obtain ⟨a, ns, rfl, ea, k⟩ := h
  refine ⟨_, (pss_cons (ps_set (i := 1) sc_mark_of.nd rfl (Or.inl rfl) pe_int)
    (pss_cons (ps_for PassesOwn.never rfl (pi_tup (pv 0)) (pg_name (i := 2) sc_mark_of.nd rfl (Or.inl rfl))
    (pss_one (ps_set (i := 1) sc_mark_of.nd rfl (Or.inl rfl) (pe_op op_modN (pe_op op_add (pe_op op_add (pe_op op_mul (pe_glob (v := .int 1000003) rfl g_FACTOR ⟨_, rfl⟩) (pv 1)) (pv 2)) pe_int) (pe_glob (v := .int 2305843009213693951) rfl g_PRIME ⟨_, rfl⟩)))))
    (pss_one (ps_ret (pv 1))))), ?_⟩
  trivial
  refine for_it (walk_tup (xs := ns.map V.int)) (fun i σ H' => ∃ v, σ = [some (.ref a), some (.int (markL (ns.take i))), v] ∧ H' = H) ⟨none, rfl, rfl⟩ (fun i σ H' _ q => ?_) (fun i x σ H3 H4 hi q y => ?_) fun σ H3 q => ?_
  · obtain ⟨v, _, rfl⟩ := q
    exact SqT.of ea
  · obtain ⟨v, rfl, rfl⟩ := q
    obtain ⟨rfl, gx⟩ := y
    rw [List.getElem?_map] at gx
    obtain ⟨b, hb, rfl⟩ := Option.map_eq_some_iff.mp gx
    trivial
    refine ⟨some (.int b), ?_, rfl⟩
    rw [List.take_add_one, hb]
    show _ = [some (V.ref a), some (V.int (markL (ns.take i ++ [b]))), some (V.int b)]
    rw [mark_snoc]
    rfl
  · obtain ⟨v, rfl, rfl⟩ := q
    trivial
    rw [List.length_map, List.take_length]
    exact k
theorem d_seal_of (B : Bi mg) (F : FunAt K mg "seal_of" s_seal_of) (g_SEALS : mg "SEALS" = some (.int 4294967296 t1)) (D_mark_of : Has P w K mg base 1 "mark_of" ["row"] spMark) : Has P w K mg base 2 "seal_of" ["row"] spSealOf := by
  refine mk_has F sc_seal_of (fun _ _ _ _ _ _ us hl => match us, hl with | [_], _ => rfl) (fun vs H Q E h => ?_) fun f cdv A outer s H vs Q E hr h => ?_
  · obtain ⟨a, ns, rfl, _⟩ := h
    rfl
  obtain ⟨a, ns, rfl, ea, k⟩ := h
  refine ⟨_, (pss_cons (ps_set (i := 1) sc_seal_of.nd rfl (Or.inr rfl) (pe_op op_modN (pe_h D_mark_of (hr.mono (by decide)) rfl (pa_cons (pv 0) pa_nil)) (pe_glob (v := .int 4294967296) rfl g_SEALS ⟨_, rfl⟩)))
    (pss_one (ps_ret (pe_callTy call_tuple_of rfl B.tuple (by decide +kernel) (pa_cons (pe_lc (own := [("at", 2)]) (g := gName 2) (tt := tYes) (te := (tOp (rI (fun _ j => 0 < j) fun i j => .int (i % j)) (tOp (rI CDivN fun i j => .int (i.fdiv j)) (tVar 1) (tOp (rI CPow fun i j => .int (i ^ j.toNat)) (tC (.int 256)) (tVar 2))) (tC (.int 256)))) rfl sc_seal_of.nd (pi_range1 rfl B.range (pa_cons pe_int pa_nil)) (blkOk_by (own := [("at", 2)]) (N := ["row", "number", "at"]) (sc := defScope s_seal_of) (by decide +kernel)) (fun _ _ _ _ _ => (pg_name (i := 2) sc_seal_of.nd rfl (Or.inl rfl))) (fun _ _ _ _ _ => pts_nil) (fun _ _ _ _ _ => (pe_op op_mod (pe_op op_fdivN (pv 1) (pe_op op_pow pe_int (pv 2))) pe_int))) pa_nil))))), ?_⟩
  refine ⟨_, rfl, a, ns, rfl, ea, ?_⟩
  trivial
  intro D nD
  refine lc_map walk_range ((sealL ns).map V.int) (by simp [sealL]) nD (by decide) (fun _ _ _ _ => True.intro) (fun i x H3 H4 Pn hi s2 y fin => ?_) fun H3 s2 e1 => ?_
  · obtain ⟨rfl, rfl⟩ := y
    trivial
    have e4 : (256 : Int) ^ ((0 : Int) + (i : Nat)).toNat = 256 ^ i := by congr 1; omega
    have hc : CDivN ((markL ns).fmod 4294967296) (256 ^ ((0 : Int) + (i : Nat)).toNat) := by
      rw [e4]
      rcases (show i = 0 ∨ i = 1 ∨ i = 2 ∨ i = 3 by have : i < 4 := hi; omega) with rfl | rfl | rfl | rfl <;> exact ⟨by decide, by decide⟩
    refine ⟨hc, ?_⟩
    trivial
    refine fin _ _ ?_ (Same.refl _)
    have hi4 : i < 4 := hi
    rw [List.getElem?_map, sealL, List.getElem?_map, List.getElem?_range hi4]
    show some (V.int (((markL ns).fmod 4294967296).fdiv (256 ^ i) % 256)) = some (V.int (((markL ns).fmod 4294967296).fdiv (256 ^ ((0 : Int) + (i : Nat)).toNat) % 256))
    rw [e4]
  · trivial
    intro p np
    exact k p _ (snew s2 np) upd_same
theorem d_sealed (F : FunAt K mg "sealed" s_sealed) (D_row_of : HasX P w K mg base 24 "row_of" ["parcel"] (spRowOf CN)) (D_seal_of : Has P w K mg base 2 "seal_of" ["row"] spSealOf) : HasX P w K mg base 25 "sealed" ["parcel"] (spSealed CN) := by
  refine mk_hasX F sc_sealed (fun _ _ _ _ _ _ us hl => match us, hl with | [_], _ => rfl) (fun vs H Q E h => ?_) fun f cdv A outer s H vs Q E hr h => ?_
  · obtain ⟨N, v, d, rfl, _⟩ := h
    rfl
  obtain ⟨N, v, d, rfl, r, hs, k1, k2⟩ := h
  refine ⟨_, (pss_cons (ps_set (i := 1) sc_sealed.nd rfl (Or.inl rfl) (pe_hX (takes_of rfl rfl rfl rfl) D_row_of (hr.mono (by decide)) rfl (pa_cons (pv 0) pa_nil)))
    (pss_one (ps_ret (pe_op op_catA (pv 1) (pe_h D_seal_of (hr.mono (by decide)) rfl (pa_cons (pv 1) pa_nil)))))), ?_⟩
  refine ⟨_, rfl, N, v, d, rfl, r, hs, k1, fun e => ?_⟩
  obtain ⟨hf, hb, k3⟩ := k2 e
  refine ⟨hf, hb, fun p H1 s1 ep => ?_⟩
  refine ⟨_, rfl, _, rfl, p, byD d, rfl, ep, fun p2 H2 s2 ep2 => ?_⟩
  refine cat_go (s2 _ _ ep) ep2 ?_ fun c H3 s3 ec => ?_
  · simp [sealL]; omega
  · exact k3 c H3 ((s1.trans s2).trans s3) (by rw [ec, List.map_append])
end
end KQ
set_option Elab.async false
set_option maxRecDepth 100000
set_option maxHeartbeats 4000000
namespace KQ
open PySem PySem.Spec PyProof.Rows L2
local macro_rules | `(tactic| trivial) => `(tactic| repeat (first | (apply And.intro; focus (first | rfl | assumption | exact upd_same | exact SqL.of (by (first | assumption | exact upd_same | (rw [upd_ne (by first | assumption | exact Ne.symm (by assumption))]; first | assumption | exact upd_same | (rw [upd_ne (by first | assumption | exact Ne.symm (by assumption))]; first | assumption | exact upd_same)))) | exact SqT.of (by (first | assumption | exact upd_same | (rw [upd_ne (by first | assumption | exact Ne.symm (by assumption))]; first | assumption | exact upd_same | (rw [upd_ne (by first | assumption | exact Ne.symm (by assumption))]; first | assumption | exact upd_same)))) | exact Or.inl (SqL.of (by (first | assumption | exact upd_same | (rw [upd_ne (by first | assumption | exact Ne.symm (by assumption))]; first | assumption | exact upd_same | (rw [upd_ne (by first | assumption | exact Ne.symm (by assumption))]; first | assumption | exact upd_same))))) | exact Or.inr (SqT.of (by (first | assumption | exact upd_same | (rw [upd_ne (by first | assumption | exact Ne.symm (by assumption))]; first | assumption | exact upd_same | (rw [upd_ne (by first | assumption | exact Ne.symm (by assumption))]; first | assumption | exact upd_same))))) | exact Or.inl ⟨rfl, _, SqL.of (by (first | assumption | exact upd_same | (rw [upd_ne (by first | assumption | exact Ne.symm (by assumption))]; first | assumption | exact upd_same | (rw [upd_ne (by first | assumption | exact Ne.symm (by assumption))]; first | assumption | exact upd_same))))⟩ | (first | assumption | exact upd_same | (rw [upd_ne (by first | assumption | exact Ne.symm (by assumption))]; first | assumption | exact upd_same | (rw [upd_ne (by first | assumption | exact Ne.symm (by assumption))]; first | assumption | exact upd_same))) | decide | exact Nat.le_of_ble_eq_true rfl | omega | (show ∃ xs, SqL _ _ _ xs; exact ⟨_, SqL.of (by (first | assumption | exact upd_same | (rw [upd_ne (by first | assumption | exact Ne.symm (by assumption))]; first | assumption | exact upd_same | (rw [upd_ne (by first | assumption | exact Ne.symm (by assumption))]; first | assumption | exact upd_same))))⟩) | (show ∃ xs, SqT _ _ _ xs; exact ⟨_, SqT.of (by (first | assumption | exact upd_same | (rw [upd_ne (by first | assumption | exact Ne.symm (by assumption))]; first | assumption | exact upd_same | (rw [upd_ne (by first | assumption | exact Ne.symm (by assumption))]; first | assumption | exact upd_same))))⟩) | exact DGet.k (k := Sum.inl _) (by (first | assumption | exact upd_same | (rw [upd_ne (by first | assumption | exact Ne.symm (by assumption))]; first | assumption | exact upd_same | (rw [upd_ne (by first | assumption | exact Ne.symm (by assumption))]; first | assumption | exact upd_same)))) | (show V.int _ = kV (Sum.inl _); rfl) | (show ∃ z, V.str _ = V.str z; exact ⟨_, rfl⟩) | exact Or.inl ⟨by (first | decide | omega), by (first | decide | omega)⟩ | exact Or.inr ⟨by (first | decide | omega), by (first | decide | omega)⟩ | exact ⟨by (first | decide | omega), by (first | decide | omega)⟩ | exact ⟨by decide, by decide, by decide⟩ | exact L2.ClsV.ty _ | exact Dt.ty (by assumption) | exact Dt.kint (by assumption) | exact Dt.kbool (by assumption) | exact Dt.ktuple (by assumption) | exact Dt.klist (by assumption) | exact Dt.kstr (by assumption))) | (apply Exists.intro; apply And.intro; focus (first | rfl | assumption | exact upd_same | exact SqL.of (by (first | assumption | exact upd_same | (rw [upd_ne (by first | assumption | exact Ne.symm (by assumption))]; first | assumption | exact upd_same | (rw [upd_ne (by first | assumption | exact Ne.symm (by assumption))]; first | assumption | exact upd_same)))) | exact SqT.of (by (first | assumption | exact upd_same | (rw [upd_ne (by first | assumption | exact Ne.symm (by assumption))]; first | assumption | exact upd_same | (rw [upd_ne (by first | assumption | exact Ne.symm (by assumption))]; first | assumption | exact upd_same)))) | exact Or.inl (SqL.of (by (first | assumption | exact upd_same | (rw [upd_ne (by first | assumption | exact Ne.symm (by assumption))]; first | assumption | exact upd_same | (rw [upd_ne (by first | assumption | exact Ne.symm (by assumption))]; first | assumption | exact upd_same))))) | exact Or.inr (SqT.of (by (first | assumption | exact upd_same | (rw [upd_ne (by first | assumption | exact Ne.symm (by assumption))]; first | assumption | exact upd_same | (rw [upd_ne (by first | assumption | exact Ne.symm (by assumption))]; first | assumption | exact upd_same))))) | exact Or.inl ⟨rfl, _, SqL.of (by (first | assumption | exact upd_same | (rw [upd_ne (by first | assumption | exact Ne.symm (by assumption))]; first | assumption | exact upd_same | (rw [upd_ne (by first | assumption | exact Ne.symm (by assumption))]; first | assumption | exact upd_same))))⟩ | (first | assumption | exact upd_same | (rw [upd_ne (by first | assumption | exact Ne.symm (by assumption))]; first | assumption | exact upd_same | (rw [upd_ne (by first | assumption | exact Ne.symm (by assumption))]; first | assumption | exact upd_same))) | decide | exact Nat.le_of_ble_eq_true rfl | omega | (show ∃ xs, SqL _ _ _ xs; exact ⟨_, SqL.of (by (first | assumption | exact upd_same | (rw [upd_ne (by first | assumption | exact Ne.symm (by assumption))]; first | assumption | exact upd_same | (rw [upd_ne (by first | assumption | exact Ne.symm (by assumption))]; first | assumption | exact upd_same))))⟩) | (show ∃ xs, SqT _ _ _ xs; exact ⟨_, SqT.of (by (first | assumption | exact upd_same | (rw [upd_ne (by first | assumption | exact Ne.symm (by assumption))]; first | assumption | exact upd_same | (rw [upd_ne (by first | assumption | exact Ne.symm (by assumption))]; first | assumption | exact upd_same))))⟩) | exact DGet.k (k := Sum.inl _) (by (first | assumption | exact upd_same | (rw [upd_ne (by first | assumption | exact Ne.symm (by assumption))]; first | assumption | exact upd_same | (rw [upd_ne (by first | assumption | exact Ne.symm (by assumption))]; first | assumption | exact upd_same)))) | (show V.int _ = kV (Sum.inl _); rfl) | (show ∃ z, V.str _ = V.str z; exact ⟨_, rfl⟩) | exact Or.inl ⟨by (first | decide | omega), by (first | decide | omega)⟩ | exact Or.inr ⟨by (first | decide | omega), by (first | decide | omega)⟩ | exact ⟨by (first | decide | omega), by (first | decide | omega)⟩ | exact ⟨by decide, by decide, by decide⟩ | exact L2.ClsV.ty _ | exact Dt.ty (by assumption) | exact Dt.kint (by assumption) | exact Dt.kbool (by assumption) | exact Dt.ktuple (by assumption) | exact Dt.klist (by assumption) | exact Dt.kstr (by assumption))) | (apply Exists.intro; apply Exists.intro; apply And.intro; focus (first | rfl | assumption | exact upd_same | exact SqL.of (by (first | assumption | exact upd_same | (rw [upd_ne (by first | assumption | exact Ne.symm (by assumption))]; first | assumption | exact upd_same | (rw [upd_ne (by first | assumption | exact Ne.symm (by assumption))]; first | assumption | exact upd_same)))) | exact SqT.of (by (first | assumption | exact upd_same | (rw [upd_ne (by first | assumption | exact Ne.symm (by assumption))]; first | assumption | exact upd_same | (rw [upd_ne (by first | assumption | exact Ne.symm (by assumption))]; first | assumption | exact upd_same)))) | exact Or.inl (SqL.of (by (first | assumption | exact upd_same | (rw [upd_ne (by first | assumption | exact Ne.symm (by assumption))]; first | assumption | exact upd_same | (rw [upd_ne (by first | assumption | exact Ne.symm (by assumption))]; first | assumption | exact upd_same))))) | exact Or.inr (SqT.of (by (first | assumption | exact upd_same | (rw [upd_ne (by first | assumption | exact Ne.symm (by assumption))]; first | assumption | exact upd_same | (rw [upd_ne (by first | assumption | exact Ne.symm (by assumption))]; first | assumption | exact upd_same))))) | exact Or.inl ⟨rfl, _, SqL.of (by (first | assumption | exact upd_same | (rw [upd_ne (by first | assumption | exact Ne.symm (by assumption))]; first | assumption | exact upd_same | (rw [upd_ne (by first | assumption | exact Ne.symm (by assumption))]; first | assumption | exact upd_same))))⟩ | (first | assumption | exact upd_same | (rw [upd_ne (by first | assumption | exact Ne.symm (by assumption))]; first | assumption | exact upd_same | (rw [upd_ne (by first | assumption | exact Ne.symm (by assumption))]; first | assumption | exact upd_same))) | decide | exact Nat.le_of_ble_eq_true rfl | omega | (show ∃ xs, SqL _ _ _ xs; exact ⟨_, SqL.of (by (first | assumption | exact upd_same | (rw [upd_ne (by first | assumption | exact Ne.symm (by assumption))]; first | assumption | exact upd_same | (rw [upd_ne (by first | assumption | exact Ne.symm (by assumption))]; first | assumption | exact upd_same))))⟩) | (show ∃ xs, SqT _ _ _ xs; exact ⟨_, SqT.of (by (first | assumption | exact upd_same | (rw [upd_ne (by first | assumption | exact Ne.symm (by assumption))]; first | assumption | exact upd_same | (rw [upd_ne (by first | assumption | exact Ne.symm (by assumption))]; first | assumption | exact upd_same))))⟩) | exact DGet.k (k := Sum.inl _) (by (first | assumption | exact upd_same | (rw [upd_ne (by first | assumption | exact Ne.symm (by assumption))]; first | assumption | exact upd_same | (rw [upd_ne (by first | assumption | exact Ne.symm (by assumption))]; first | assumption | exact upd_same)))) | (show V.int _ = kV (Sum.inl _); rfl) | (show ∃ z, V.str _ = V.str z; exact ⟨_, rfl⟩) | exact Or.inl ⟨by (first | decide | omega), by (first | decide | omega)⟩ | exact Or.inr ⟨by (first | decide | omega), by (first | decide | omega)⟩ | exact ⟨by (first | decide | omega), by (first | decide | omega)⟩ | exact ⟨by decide, by decide, by decide⟩ | exact L2.ClsV.ty _ | exact Dt.ty (by assumption) | exact Dt.kint (by assumption) | exact Dt.kbool (by assumption) | exact Dt.ktuple (by assumption) | exact Dt.klist (by assumption) | exact Dt.kstr (by assumption))) | (apply Exists.intro; apply Exists.intro; apply Exists.intro; apply And.intro; focus (first | rfl | assumption | exact upd_same | exact SqL.of (by (first | assumption | exact upd_same | (rw [upd_ne (by first | assumption | exact Ne.symm (by assumption))]; first | assumption | exact upd_same | (rw [upd_ne (by first | assumption | exact Ne.symm (by assumption))]; first | assumption | exact upd_same)))) | exact SqT.of (by (first | assumption | exact upd_same | (rw [upd_ne (by first | assumption | exact Ne.symm (by assumption))]; first | assumption | exact upd_same | (rw [upd_ne (by first | assumption | exact Ne.symm (by assumption))]; first | assumption | exact upd_same)))) | exact Or.inl (SqL.of (by (first | assumption | exact upd_same | (rw [upd_ne (by first | assumption | exact Ne.symm (by assumption))]; first | assumption | exact upd_same | (rw [upd_ne (by first | assumption | exact Ne.symm (by assumption))]; first | assumption | exact upd_same))))) | exact Or.inr (SqT.of (by (first | assumption | exact upd_same | (rw [upd_ne (by first | assumption | exact Ne.symm (by assumption))]; first | assumption | exact upd_same | (rw [upd_ne (by first | assumption | exact Ne.symm (by assumption))]; first | assumption | exact upd_same))))) | exact Or.inl ⟨rfl, _, SqL.of (by (first | assumption | exact upd_same | (rw [upd_ne (by first | assumption | exact Ne.symm (by assumption))]; first | assumption | exact upd_same | (rw [upd_ne (by first | assumption | exact Ne.symm (by assumption))]; first | assumption | exact upd_same))))⟩ | (first | assumption | exact upd_same | (rw [upd_ne (by first | assumption | exact Ne.symm (by assumption))]; first | assumption | exact upd_same | (rw [upd_ne (by first | assumption | exact Ne.symm (by assumption))]; first | assumption | exact upd_same))) | decide | exact Nat.le_of_ble_eq_true rfl | omega | (show ∃ xs, SqL _ _ _ xs; exact ⟨_, SqL.of (by (first | assumption | exact upd_same | (rw [upd_ne (by first | assumption | exact Ne.symm (by assumption))]; first | assumption | exact upd_same | (rw [upd_ne (by first | assumption | exact Ne.symm (by assumption))]; first | assumption | exact upd_same))))⟩) | (show ∃ xs, SqT _ _ _ xs; exact ⟨_, SqT.of (by (first | assumption | exact upd_same | (rw [upd_ne (by first | assumption | exact Ne.symm (by assumption))]; first | assumption | exact upd_same | (rw [upd_ne (by first | assumption | exact Ne.symm (by assumption))]; first | assumption | exact upd_same))))⟩) | exact DGet.k (k := Sum.inl _) (by (first | assumption | exact upd_same | (rw [upd_ne (by first | assumption | exact Ne.symm (by assumption))]; first | assumption | exact upd_same | (rw [upd_ne (by first | assumption | exact Ne.symm (by assumption))]; first | assumption | exact upd_same)))) | (show V.int _ = kV (Sum.inl _); rfl) | (show ∃ z, V.str _ = V.str z; exact ⟨_, rfl⟩) | exact Or.inl ⟨by (first | decide | omega), by (first | decide | omega)⟩ | exact Or.inr ⟨by (first | decide | omega), by (first | decide | omega)⟩ | exact ⟨by (first | decide | omega), by (first | decide | omega)⟩ | exact ⟨by decide, by decide, by decide⟩ | exact L2.ClsV.ty _ | exact Dt.ty (by assumption) | exact Dt.kint (by assumption) | exact Dt.kbool (by assumption) | exact Dt.ktuple (by assumption) | exact Dt.klist (by assumption) | exact Dt.kstr (by assumption))) | (apply Exists.intro; apply Exists.intro; apply Exists.intro; apply Exists.intro; apply And.intro; focus (first | rfl | assumption | exact upd_same | exact SqL.of (by (first | assumption | exact upd_same | (rw [upd_ne (by first | assumption | exact Ne.symm (by assumption))]; first | assumption | exact upd_same | (rw [upd_ne (by first | assumption | exact Ne.symm (by assumption))]; first | assumption | exact upd_same)))) | exact SqT.of (by (first | assumption | exact upd_same | (rw [upd_ne (by first | assumption | exact Ne.symm (by assumption))]; first | assumption | exact upd_same | (rw [upd_ne (by first | assumption | exact Ne.symm (by assumption))]; first | assumption | exact upd_same)))) | exact Or.inl (SqL.of (by (first | assumption | exact upd_same | (rw [upd_ne (by first | assumption | exact Ne.symm (by assumption))]; first | assumption | exact upd_same | (rw [upd_ne (by first | assumption | exact Ne.symm (by assumption))]; first | assumption | exact upd_same))))) | exact Or.inr (SqT.of (by (first | assumption | exact upd_same | (rw [upd_ne (by first | assumption | exact Ne.symm (by assumption))]; first | assumption | exact upd_same | (rw [upd_ne (by first | assumption | exact Ne.symm (by assumption))]; first | assumption | exact upd_same))))) | exact Or.inl ⟨rfl, _, SqL.of (by (first | assumption | exact upd_same | (rw [upd_ne (by first | assumption | exact Ne.symm (by assumption))]; first | assumption | exact upd_same | (rw [upd_ne (by first | assumption | exact Ne.symm (by assumption))]; first | assumption | exact upd_same))))⟩ | (first | assumption | exact upd_same | (rw [upd_ne (by first | assumption | exact Ne.symm (by assumption))]; first | assumption | exact upd_same | (rw [upd_ne (by first | assumption | exact Ne.symm (by assumption))]; first | assumption | exact upd_same))) | decide | exact Nat.le_of_ble_eq_true rfl | omega | (show ∃ xs, SqL _ _ _ xs; exact ⟨_, SqL.of (by (first | assumption | exact upd_same | (rw [upd_ne (by first | assumption | exact Ne.symm (by assumption))]; first | assumption | exact upd_same | (rw [upd_ne (by first | assumption | exact Ne.symm (by assumption))]; first | assumption | exact upd_same))))⟩) | (show ∃ xs, SqT _ _ _ xs; exact ⟨_, SqT.of (by (first | assumption | exact upd_same | (rw [upd_ne (by first | assumption | exact Ne.symm (by assumption))]; first | assumption | exact upd_same | (rw [upd_ne (by first | assumption | exact Ne.symm (by assumption))]; first | assumption | exact upd_same))))⟩) | exact DGet.k (k := Sum.inl _) (by (first | assumption | exact upd_same | (rw [upd_ne (by first | assumption | exact Ne.symm (by assumption))]; first | assumption | exact upd_same | (rw [upd_ne (by first | assumption | exact Ne.symm (by assumption))]; first | assumption | exact upd_same)))) | (show V.int _ = kV (Sum.inl _); rfl) | (show ∃ z, V.str _ = V.str z; exact ⟨_, rfl⟩) | exact Or.inl ⟨by (first | decide | omega), by (first | decide | omega)⟩ | exact Or.inr ⟨by (first | decide | omega), by (first | decide | omega)⟩ | exact ⟨by (first | decide | omega), by (first | decide | omega)⟩ | exact ⟨by decide, by decide, by decide⟩ | exact L2.ClsV.ty _ | exact Dt.ty (by assumption) | exact Dt.kint (by assumption) | exact Dt.kbool (by assumption) | exact Dt.ktuple (by assumption) | exact Dt.klist (by assumption) | exact Dt.kstr (by assumption))) | (apply Exists.intro; apply Exists.intro; apply Exists.intro; apply Exists.intro; apply Exists.intro; apply And.intro; focus (first | rfl | assumption | exact upd_same | exact SqL.of (by (first | assumption | exact upd_same | (rw [upd_ne (by first | assumption | exact Ne.symm (by assumption))]; first | assumption | exact upd_same | (rw [upd_ne (by first | assumption | exact Ne.symm (by assumption))]; first | assumption | exact upd_same)))) | exact SqT.of (by (first | assumption | exact upd_same | (rw [upd_ne (by first | assumption | exact Ne.symm (by assumption))]; first | assumption | exact upd_same | (rw [upd_ne (by first | assumption | exact Ne.symm (by assumption))]; first | assumption | exact upd_same)))) | exact Or.inl (SqL.of (by (first | assumption | exact upd_same | (rw [upd_ne (by first | assumption | exact Ne.symm (by assumption))]; first | assumption | exact upd_same | (rw [upd_ne (by first | assumption | exact Ne.symm (by assumption))]; first | assumption | exact upd_same))))) | exact Or.inr (SqT.of (by (first | assumption | exact upd_same | (rw [upd_ne (by first | assumption | exact Ne.symm (by assumption))]; first | assumption | exact upd_same | (rw [upd_ne (by first | assumption | exact Ne.symm (by assumption))]; first | assumption | exact upd_same))))) | exact Or.inl ⟨rfl, _, SqL.of (by (first | assumption | exact upd_same | (rw [upd_ne (by first | assumption | exact Ne.symm (by assumption))]; first | assumption | exact upd_same | (rw [upd_ne (by first | assumption | exact Ne.symm (by assumption))]; first | assumption | exact upd_same))))⟩ | (first | assumption | exact upd_same | (rw [upd_ne (by first | assumption | exact Ne.symm (by assumption))]; first | assumption | exact upd_same | (rw [upd_ne (by first | assumption | exact Ne.symm (by assumption))]; first | assumption | exact upd_same))) | decide | exact Nat.le_of_ble_eq_true rfl | omega | (show ∃ xs, SqL _ _ _ xs; exact ⟨_, SqL.of (by (first | assumption | exact upd_same | (rw [upd_ne (by first | assumption | exact Ne.symm (by assumption))]; first | assumption | exact upd_same | (rw [upd_ne (by first | assumption | exact Ne.symm (by assumption))]; first | assumption | exact upd_same))))⟩) | (show ∃ xs, SqT _ _ _ xs; exact ⟨_, SqT.of (by (first | assumption | exact upd_same | (rw [upd_ne (by first | assumption | exact Ne.symm (by assumption))]; first | assumption | exact upd_same | (rw [upd_ne (by first | assumption | exact Ne.symm (by assumption))]; first | assumption | exact upd_same))))⟩) | exact DGet.k (k := Sum.inl _) (by (first | assumption | exact upd_same | (rw [upd_ne (by first | assumption | exact Ne.symm (by assumption))]; first | assumption | exact upd_same | (rw [upd_ne (by first | assumption | exact Ne.symm (by assumption))]; first | assumption | exact upd_same)))) | (show V.int _ = kV (Sum.inl _); rfl) | (show ∃ z, V.str _ = V.str z; exact ⟨_, rfl⟩) | exact Or.inl ⟨by (first | decide | omega), by (first | decide | omega)⟩ | exact Or.inr ⟨by (first | decide | omega), by (first | decide | omega)⟩ | exact ⟨by (first | decide | omega), by (first | decide | omega)⟩ | exact ⟨by decide, by decide, by decide⟩ | exact L2.ClsV.ty _ | exact Dt.ty (by assumption) | exact Dt.kint (by assumption) | exact Dt.kbool (by assumption) | exact Dt.ktuple (by assumption) | exact Dt.klist (by assumption) | exact Dt.kstr (by assumption))) | (apply Exists.intro; apply Exists.intro; apply Exists.intro; apply Exists.intro; apply Exists.intro; apply Exists.intro; apply And.intro; focus (first | rfl | assumption | exact upd_same | exact SqL.of (by (first | assumption | exact upd_same | (rw [upd_ne (by first | assumption | exact Ne.symm (by assumption))]; first | assumption | exact upd_same | (rw [upd_ne (by first | assumption | exact Ne.symm (by assumption))]; first | assumption | exact upd_same)))) | exact SqT.of (by (first | assumption | exact upd_same | (rw [upd_ne (by first | assumption | exact Ne.symm (by assumption))]; first | assumption | exact upd_same | (rw [upd_ne (by first | assumption | exact Ne.symm (by assumption))]; first | assumption | exact upd_same)))) | exact Or.inl (SqL.of (by (first | assumption | exact upd_same | (rw [upd_ne (by first | assumption | exact Ne.symm (by assumption))]; first | assumption | exact upd_same | (rw [upd_ne (by first | assumption | exact Ne.symm (by assumption))]; first | assumption | exact upd_same))))) | exact Or.inr (SqT.of (by (first | assumption | exact upd_same | (rw [upd_ne (by first | assumption | exact Ne.symm (by assumption))]; first | assumption | exact upd_same | (rw [upd_ne (by first | assumption | exact Ne.symm (by assumption))]; first | assumption | exact upd_same))))) | exact Or.inl ⟨rfl, _, SqL.of (by (first | assumption | exact upd_same | (rw [upd_ne (by first | assumption | exact Ne.symm (by assumption))]; first | assumption | exact upd_same | (rw [upd_ne (by first | assumption | exact Ne.symm (by assumption))]; first | assumption | exact upd_same))))⟩ | (first | assumption | exact upd_same | (rw [upd_ne (by first | assumption | exact Ne.symm (by assumption))]; first | assumption | exact upd_same | (rw [upd_ne (by first | assumption | exact Ne.symm (by assumption))]; first | assumption | exact upd_same))) | decide | exact Nat.le_of_ble_eq_true rfl | omega | (show ∃ xs, SqL _ _ _ xs; exact ⟨_, SqL.of (by (first | assumption | exact upd_same | (rw [upd_ne (by first | assumption | exact Ne.symm (by assumption))]; first | assumption | exact upd_same | (rw [upd_ne (by first | assumption | exact Ne.symm (by assumption))]; first | assumption | exact upd_same))))⟩) | (show ∃ xs, SqT _ _ _ xs; exact ⟨_, SqT.of (by (first | assumption | exact upd_same | (rw [upd_ne (by first | assumption | exact Ne.symm (by assumption))]; first | assumption | exact upd_same | (rw [upd_ne (by first | assumption | exact Ne.symm (by assumption))]; first | assumption | exact upd_same))))⟩) | exact DGet.k (k := Sum.inl _) (by (first | assumption | exact upd_same | (rw [upd_ne (by first | assumption | exact Ne.symm (by assumption))]; first | assumption | exact upd_same | (rw [upd_ne (by first | assumption | exact Ne.symm (by assumption))]; first | assumption | exact upd_same)))) | (show V.int _ = kV (Sum.inl _); rfl) | (show ∃ z, V.str _ = V.str z; exact ⟨_, rfl⟩) | exact Or.inl ⟨by (first | decide | omega), by (first | decide | omega)⟩ | exact Or.inr ⟨by (first | decide | omega), by (first | decide | omega)⟩ | exact ⟨by (first | decide | omega), by (first | decide | omega)⟩ | exact ⟨by decide, by decide, by decide⟩ | exact L2.ClsV.ty _ | exact Dt.ty (by assumption) | exact Dt.kint (by assumption) | exact Dt.kbool (by assumption) | exact Dt.ktuple (by assumption) | exact Dt.klist (by assumption) | exact Dt.kstr (by assumption))) | (apply Exists.intro; apply Exists.intro; apply Exists.intro; apply Exists.intro; apply Exists.intro; apply Exists.intro; apply Exists.intro; apply And.intro; focus (first | rfl | assumption | exact upd_same | exact SqL.of (by (first | assumption | exact upd_same | (rw [upd_ne (by first | assumption | exact Ne.symm (by assumption))]; first | assumption | exact upd_same | (rw [upd_ne (by first | assumption | exact Ne.symm (by assumption))]; first | assumption | exact upd_same)))) | exact SqT.of (by (first | assumption | exact upd_same | (rw [upd_ne (by first | assumption | exact Ne.symm (by assumption))]; first | assumption | exact upd_same | (rw [upd_ne (by first | assumption | exact Ne.symm (by assumption))]; first | assumption | exact upd_same)))) | exact Or.inl (SqL.of (by (first | assumption | exact upd_same | (rw [upd_ne (by first | assumption | exact Ne.symm (by assumption))]; first | assumption | exact upd_same | (rw [upd_ne (by first | assumption | exact Ne.symm (by assumption))]; first | assumption | exact upd_same))))) | exact Or.inr (SqT.of (by (first | assumption | exact upd_same | (rw [upd_ne (by first | assumption | exact Ne.symm (by assumption))]; first | assumption | exact upd_same | (rw [upd_ne (by first | assumption | exact Ne.symm (by assumption))]; first | assumption | exact upd_same))))) | exact Or.inl ⟨rfl, _, SqL.of (by (first | assumption | exact upd_same | (rw [upd_ne (by first | assumption | exact Ne.symm (by assumption))]; first | assumption | exact upd_same | (rw [upd_ne (by first | assumption | exact Ne.symm (by assumption))]; first | assumption | exact upd_same))))⟩ | (first | assumption | exact upd_same | (rw [upd_ne (by first | assumption | exact Ne.symm (by assumption))]; first | assumption | exact upd_same | (rw [upd_ne (by first | assumption | exact Ne.symm (by assumption))]; first | assumption | exact upd_same))) | decide | exact Nat.le_of_ble_eq_true rfl | omega | (show ∃ xs, SqL _ _ _ xs; exact ⟨_, SqL.of (by (first | assumption | exact upd_same | (rw [upd_ne (by first | assumption | exact Ne.symm (by assumption))]; first | assumption | exact upd_same | (rw [upd_ne (by first | assumption | exact Ne.symm (by assumption))]; first | assumption | exact upd_same))))⟩) | (show ∃ xs, SqT _ _ _ xs; exact ⟨_, SqT.of (by (first | assumption | exact upd_same | (rw [upd_ne (by first | assumption | exact Ne.symm (by assumption))]; first | assumption | exact upd_same | (rw [upd_ne (by first | assumption | exact Ne.symm (by assumption))]; first | assumption | exact upd_same))))⟩) | exact DGet.k (k := Sum.inl _) (by (first | assumption | exact upd_same | (rw [upd_ne (by first | assumption | exact Ne.symm (by assumption))]; first | assumption | exact upd_same | (rw [upd_ne (by first | assumption | exact Ne.symm (by assumption))]; first | assumption | exact upd_same)))) | (show V.int _ = kV (Sum.inl _); rfl) | (show ∃ z, V.str _ = V.str z; exact ⟨_, rfl⟩) | exact Or.inl ⟨by (first | decide | omega), by (first | decide | omega)⟩ | exact Or.inr ⟨by (first | decide | omega), by (first | decide | omega)⟩ | exact ⟨by (first | decide | omega), by (first | decide | omega)⟩ | exact ⟨by decide, by decide, by decide⟩ | exact L2.ClsV.ty _ | exact Dt.ty (by assumption) | exact Dt.kint (by assumption) | exact Dt.kbool (by assumption) | exact Dt.ktuple (by assumption) | exact Dt.klist (by assumption) | exact Dt.kstr (by assumption))) | (apply Exists.intro; apply Exists.intro; apply Exists.intro; apply Exists.intro; apply Exists.intro; apply Exists.intro; apply Exists.intro; apply Exists.intro; apply And.intro; focus (first | rfl | assumption | exact upd_same | exact SqL.of (by (first | assumption | exact upd_same | (rw [upd_ne (by first | assumption | exact Ne.symm (by assumption))]; first | assumption | exact upd_same | (rw [upd_ne (by first | assumption | exact Ne.symm (by assumption))]; first | assumption | exact upd_same)))) | exact SqT.of (by (first | assumption | exact upd_same | (rw [upd_ne (by first | assumption | exact Ne.symm (by assumption))]; first | assumption | exact upd_same | (rw [upd_ne (by first | assumption | exact Ne.symm (by assumption))]; first | assumption | exact upd_same)))) | exact Or.inl (SqL.of (by (first | assumption | exact upd_same | (rw [upd_ne (by first | assumption | exact Ne.symm (by assumption))]; first | assumption | exact upd_same | (rw [upd_ne (by first | assumption | exact Ne.symm (by assumption))]; first | assumption | exact upd_same))))) | exact Or.inr (SqT.of (by (first | assumption | exact upd_same | (rw [upd_ne (by first | assumption | exact Ne.symm (by assumption))]; first | assumption | exact upd_same | (rw [upd_ne (by first | assumption | exact Ne.symm (by assumption))]; first | assumption | exact upd_same))))) | exact Or.inl ⟨rfl, _, SqL.of (by (first | assumption | exact upd_same | (rw [upd_ne (by first | assumption | exact Ne.symm (by assumption))]; first | assumption | exact upd_same | (rw [upd_ne (by first | assumption | exact Ne.symm (by assumption))]; first | assumption | exact upd_same))))⟩ | (first | assumption | exact upd_same | (rw [upd_ne (by first | assumption | exact Ne.symm (by assumption))]; first | assumption | exact upd_same | (rw [upd_ne (by first | assumption | exact Ne.symm (by assumption))]; first | assumption | exact upd_same))) | decide | exact Nat.le_of_ble_eq_true rfl | omega | (show ∃ xs, SqL _ _ _ xs; exact ⟨_, SqL.of (by (first | assumption | exact upd_same | (rw [upd_ne (by first | assumption | exact Ne.symm (by assumption))]; first | assumption | exact upd_same | (rw [upd_ne (by first | assumption | exact Ne.symm (by assumption))]; first | assumption | exact upd_same))))⟩) | (show ∃ xs, SqT _ _ _ xs; exact ⟨_, SqT.of (by (first | assumption | exact upd_same | (rw [upd_ne (by first | assumption | exact Ne.symm (by assumption))]; first | assumption | exact upd_same | (rw [upd_ne (by first | assumption | exact Ne.symm (by assumption))]; first | assumption | exact upd_same))))⟩) | exact DGet.k (k := Sum.inl _) (by (first | assumption | exact upd_same | (rw [upd_ne (by first | assumption | exact Ne.symm (by assumption))]; first | assumption | exact upd_same | (rw [upd_ne (by first | assumption | exact Ne.symm (by assumption))]; first | assumption | exact upd_same)))) | (show V.int _ = kV (Sum.inl _); rfl) | (show ∃ z, V.str _ = V.str z; exact ⟨_, rfl⟩) | exact Or.inl ⟨by (first | decide | omega), by (first | decide | omega)⟩ | exact Or.inr ⟨by (first | decide | omega), by (first | decide | omega)⟩ | exact ⟨by (first | decide | omega), by (first | decide | omega)⟩ | exact ⟨by decide, by decide, by decide⟩ | exact L2.ClsV.ty _ | exact Dt.ty (by assumption) | exact Dt.kint (by assumption) | exact Dt.kbool (by assumption) | exact Dt.ktuple (by assumption) | exact Dt.klist (by assumption) | exact Dt.kstr (by assumption))) | (apply Exists.intro; apply Exists.intro; apply Exists.intro; apply Exists.intro; apply Exists.intro; apply Exists.intro; apply Exists.intro; apply Exists.intro; apply Exists.intro; apply And.intro; focus (first | rfl | assumption | exact upd_same | exact SqL.of (by (first | assumption | exact upd_same | (rw [upd_ne (by first | assumption | exact Ne.symm (by assumption))]; first | assumption | exact upd_same | (rw [upd_ne (by first | assumption | exact Ne.symm (by assumption))]; first | assumption | exact upd_same)))) | exact SqT.of (by (first | assumption | exact upd_same | (rw [upd_ne (by first | assumption | exact Ne.symm (by assumption))]; first | assumption | exact upd_same | (rw [upd_ne (by first | assumption | exact Ne.symm (by assumption))]; first | assumption | exact upd_same)))) | exact Or.inl (SqL.of (by (first | assumption | exact upd_same | (rw [upd_ne (by first | assumption | exact Ne.symm (by assumption))]; first | assumption | exact upd_same | (rw [upd_ne (by first | assumption | exact Ne.symm (by assumption))]; first | assumption | exact upd_same))))) | exact Or.inr (SqT.of (by (first | assumption | exact upd_same | (rw [upd_ne (by first | assumption | exact Ne.symm (by assumption))]; first | assumption | exact upd_same | (rw [upd_ne (by first | assumption | exact Ne.symm (by assumption))]; first | assumption | exact upd_same))))) | exact Or.inl ⟨rfl, _, SqL.of (by (first | assumption | exact upd_same | (rw [upd_ne (by first | assumption | exact Ne.symm (by assumption))]; first | assumption | exact upd_same | (rw [upd_ne (by first | assumption | exact Ne.symm (by assumption))]; first | assumption | exact upd_same))))⟩ | (first | assumption | exact upd_same | (rw [upd_ne (by first | assumption | exact Ne.symm (by assumption))]; first | assumption | exact upd_same | (rw [upd_ne (by first | assumption | exact Ne.symm (by assumption))]; first | assumption | exact upd_same))) | decide | exact Nat.le_of_ble_eq_true rfl | omega | (show ∃ xs, SqL _ _ _ xs; exact ⟨_, SqL.of (by (first | assumption | exact upd_same | (rw [upd_ne (by first | assumption | exact Ne.symm (by assumption))]; first | assumption | exact upd_same | (rw [upd_ne (by first | assumption | exact Ne.symm (by assumption))]; first | assumption | exact upd_same))))⟩) | (show ∃ xs, SqT _ _ _ xs; exact ⟨_, SqT.of (by (first | assumption | exact upd_same | (rw [upd_ne (by first | assumption | exact Ne.symm (by assumption))]; first | assumption | exact upd_same | (rw [upd_ne (by first | assumption | exact Ne.symm (by assumption))]; first | assumption | exact upd_same))))⟩) | exact DGet.k (k := Sum.inl _) (by (first | assumption | exact upd_same | (rw [upd_ne (by first | assumption | exact Ne.symm (by assumption))]; first | assumption | exact upd_same | (rw [upd_ne (by first | assumption | exact Ne.symm (by assumption))]; first | assumption | exact upd_same)))) | (show V.int _ = kV (Sum.inl _); rfl) | (show ∃ z, V.str _ = V.str z; exact ⟨_, rfl⟩) | exact Or.inl ⟨by (first | decide | omega), by (first | decide | omega)⟩ | exact Or.inr ⟨by (first | decide | omega), by (first | decide | omega)⟩ | exact ⟨by (first | decide | omega), by (first | decide | omega)⟩ | exact ⟨by decide, by decide, by decide⟩ | exact L2.ClsV.ty _ | exact Dt.ty (by assumption) | exact Dt.kint (by assumption) | exact Dt.kbool (by assumption) | exact Dt.ktuple (by assumption) | exact Dt.klist (by assumption) | exact Dt.kstr (by assumption))) | refine Or.inl ⟨_, rfl, ?_⟩ | refine Or.inr ⟨_, rfl, ?_⟩ | refine Or.inr ⟨SqT.of (by (first | assumption | exact upd_same | (rw [upd_ne (by first | assumption | exact Ne.symm (by assumption))]; first | assumption | exact upd_same | (rw [upd_ne (by first | assumption | exact Ne.symm (by assumption))]; first | assumption | exact upd_same)))), SqT.of (by (first | assumption | exact upd_same | (rw [upd_ne (by first | assumption | exact Ne.symm (by assumption))]; first | assumption | exact upd_same | (rw [upd_ne (by first | assumption | exact Ne.symm (by assumption))]; first | assumption | exact upd_same)))), ?_⟩ | refine Or.inl ⟨SqL.of (by (first | assumption | exact upd_same | (rw [upd_ne (by first | assumption | exact Ne.symm (by assumption))]; first | assumption | exact upd_same | (rw [upd_ne (by first | assumption | exact Ne.symm (by assumption))]; first | assumption | exact upd_same)))), SqL.of (by (first | assumption | exact upd_same | (rw [upd_ne (by first | assumption | exact Ne.symm (by assumption))]; first | assumption | exact upd_same | (rw [upd_ne (by first | assumption | exact Ne.symm (by assumption))]; first | assumption | exact upd_same)))), ?_⟩ | refine Or.inl ⟨SqL.of (by (first | assumption | exact upd_same | (rw [upd_ne (by first | assumption | exact Ne.symm (by assumption))]; first | assumption | exact upd_same | (rw [upd_ne (by first | assumption | exact Ne.symm (by assumption))]; first | assumption | exact upd_same)))), ?_⟩ | refine Or.inr ⟨SqT.of (by (first | assumption | exact upd_same | (rw [upd_ne (by first | assumption | exact Ne.symm (by assumption))]; first | assumption | exact upd_same | (rw [upd_ne (by first | assumption | exact Ne.symm (by assumption))]; first | assumption | exact upd_same)))), ?_⟩ | refine ifT rfl ?_ | refine ifF rfl ?_))
def spPNum : Sp := fun vs H Q _ => ∃ h l : Addr, vs = [.ref h] ∧ PoolOk H h l ∧ ∀ (i : Int) (H' : Hp), i.natAbs < 10 ^ 18 → PoolOk H' h l → Kp (Np h l) H H' → Q (.int i) H'
section
variable {P : Program} {w : World} {K : PySem.W.Frag} {mg : Str → Option Value} {base : Heap}
theorem d_pnum (B : Bi mg) (F : FunAt K mg "_law_number" s_law_number) (D_law_draw : Has P w K mg base 1 "_law_draw" ["pool", "many"] spDraw) : Has P w K mg base 2 "_law_number" ["pool"] spPNum := by
  refine mk_has F sc_law_number (fun _ _ _ _ _ _ us hl => match us, hl with | [_], _ => rfl) (fun vs H Q E h => ?_) fun f cdv A outer s H vs Q E hr h => ?_
  · obtain ⟨h, l, rfl, _⟩ := h
    rfl
  obtain ⟨h, l, rfl, ho, k⟩ := h
  refine ⟨_, (pss_cons (ps_set (i := 1) sc_law_number.nd rfl (Or.inl rfl) (pe_h D_law_draw (hr.mono (by decide)) rfl (pa_cons (pv 0) (pa_cons pe_int pa_nil))))
    (pss_cons (ps_if (pt_cmpR op_lt (pv 1) pe_int (nomark _))
    (pss_one (ps_ret (pe_ix ix_list (pe_lst (pa_cons pe_int (pa_cons pe_int (pa_cons (pe_un un_neg pe_int) (pa_cons pe_int (pa_cons pe_int (pa_cons (pe_un un_neg pe_int) (pa_cons (pe_un un_neg pe_int) (pa_cons pe_int (pa_cons pe_int (pa_cons pe_int (pa_cons (pe_un un_neg pe_int) pa_nil)))))))))))) (pe_h D_law_draw (hr.mono (by decide)) rfl (pa_cons (pv 0) (pa_cons pe_int pa_nil))) (fun _ _ => rfl))))
    pss_nil)
    (pss_cons (ps_set (i := 2) sc_law_number.nd rfl (Or.inl rfl) (pe_h D_law_draw (hr.mono (by decide)) rfl (pa_cons (pv 0) (pa_cons pe_int pa_nil))))
    (pss_cons (ps_for PassesOwn.never rfl (pi_range1 rfl B.range (pa_cons (pe_h D_law_draw (hr.mono (by decide)) rfl (pa_cons (pv 0) (pa_cons pe_int pa_nil))) pa_nil)) (pg_name (i := 3) sc_law_number.nd rfl (Or.inl rfl))
    (pss_one (ps_set (i := 2) sc_law_number.nd rfl (Or.inl rfl) (pe_op op_add (pe_op op_mul (pv 2) pe_int) (pe_h D_law_draw (hr.mono (by decide)) rfl (pa_cons (pv 0) (pa_cons pe_int pa_nil)))))))
    (pss_one (ps_ret (pe_ifExp (pt_cmpR op_lt (pv 1) pe_int (nomark _)) (pv 2) (pe_op op_sub pe_int (pv 2))))))))), ?_⟩
  trivial
  intro r1 H1 r10 r11 ho1 hk1
  have k1 : Kp (Np h l) H H1 := Kp.pool hk1
  trivial
  refine ite2 (fun c => ?_) (fun c => ?_)
  · trivial
    intro p np
    have hop := ho1.new (o := .lst [.int 0, .int 1, .int (-1), .int 127, .int 128, .int (-128), .int (-129), .int 300, .int 16383, .int 16384, .int (-16385)]) np
    trivial
    intro r2 H2 r20 r21 ho2 hk2
    have nph := ho1.np np
    have ep : H2 p = some (.lst [.int 0, .int 1, .int (-1), .int 127, .int 128, .int (-128), .int (-129), .int 300, .int 16383, .int 16384, .int (-16385)]) := (hk2 p (fun z => nph (.inl z)) (fun z => nph (.inr z))).trans upd_same
    obtain ⟨i, hi, hb⟩ : ∃ i : Int, atI [V.int 0, .int 1, .int (-1), .int 127, .int 128, .int (-128), .int (-129), .int 300, .int 16383, .int 16384, .int (-16385)] r2 = some (.int i) ∧ i.natAbs < 10 ^ 18 := by
      rcases (show r2 = 0 ∨ r2 = 1 ∨ r2 = 2 ∨ r2 = 3 ∨ r2 = 4 ∨ r2 = 5 ∨ r2 = 6 ∨ r2 = 7 ∨ r2 = 8 ∨ r2 = 9 ∨ r2 = 10 by omega) with rfl | rfl | rfl | rfl | rfl | rfl | rfl | rfl | rfl | rfl | rfl <;> exact ⟨_, rfl, by decide⟩
    trivial
    refine k i H2 hb ho2 ((k1.trans (Kp.new np)).trans (Kp.pool hk2))
  · trivial
    intro r2 H2 r20 r21 ho2 hk2
    have k2 := k1.trans (Kp.pool hk2)
    trivial
    intro r3 H3 r30 r31 ho3 hk3
    have k3 := k2.trans (Kp.pool hk3)
    trivial
    refine for_it walk_range (fun i σ H' => ∃ (x : Int) (v : Option V), σ = [some (.ref h), some (.int r1), some (.int x), v] ∧ 0 ≤ x ∧ x < 1000 ^ (i + 1) ∧ PoolOk H' h l ∧ Kp (Np h l) H H') ⟨r2, none, rfl, r20, by simpa using r21, ho3, k3⟩ (fun _ _ _ _ _ => True.intro) (fun i x σ H4 H5 hi q y => ?_) fun σ H4 q => ?_
    · obtain ⟨x, v, rfl, x0, x1, ho4, k4⟩ := q
      obtain ⟨rfl, rfl⟩ := y
      trivial
      intro r5 H6 r50 r51 ho6 hk6
      refine ⟨_, _, rfl, rfl, ?_⟩
      refine ⟨x * 1000 + r5, some (.int (0 + (i : Nat))), rfl, by omega, ?_, ho6, k4.trans (Kp.pool hk6)⟩
      rw [Int.pow_succ]
      omega
    · obtain ⟨x, v, rfl, x0, x1, ho4, k4⟩ := q
      have xb : x < 1000 ^ 5 := by
        refine Int.lt_of_lt_of_le x1 ?_
        rcases (show r3.toNat = 0 ∨ r3.toNat = 1 ∨ r3.toNat = 2 ∨ r3.toNat = 3 ∨ r3.toNat = 4 by omega) with e | e | e | e | e <;> rw [e] <;> decide
      trivial
      refine ite2 (fun c => ?_) (fun c => ?_)
      · trivial
        exact k x H4 (by omega) ho4 k4
      · trivial
        exact k _ H4 (by omega) ho4 k4
end
end KQ
set_option Elab.async false
set_option maxRecDepth 100000
set_option maxHeartbeats 4000000
namespace KQ
open PySem PySem.Spec PyProof.Rows L2
local macro_rules | `(tactic| trivial) => `(tactic| repeat (first | (apply And.intro; focus (first | rfl | assumption | exact upd_same | exact SqL.of (by (first | assumption | exact upd_same | (rw [upd_ne (by first | assumption | exact Ne.symm (by assumption))]; first | assumption | exact upd_same | (rw [upd_ne (by first | assumption | exact Ne.symm (by assumption))]; first | assumption | exact upd_same)))) | exact SqT.of (by (first | assumption | exact upd_same | (rw [upd_ne (by first | assumption | exact Ne.symm (by assumption))]; first | assumption | exact upd_same | (rw [upd_ne (by first | assumption | exact Ne.symm (by assumption))]; first | assumption | exact upd_same)))) | exact Or.inl (SqL.of (by (first | assumption | exact upd_same | (rw [upd_ne (by first | assumption | exact Ne.symm (by assumption))]; first | assumption | exact upd_same | (rw [upd_ne (by first | assumption | exact Ne.symm (by assumption))]; first | assumption | exact upd_same))))) | exact Or.inr (SqT.of (by (first | assumption | exact upd_same | (rw [upd_ne (by first | assumption | exact Ne.symm (by assumption))]; first | assumption | exact upd_same | (rw [upd_ne (by first | assumption | exact Ne.symm (by assumption))]; first | assumption | exact upd_same))))) | exact Or.inl ⟨rfl, _, SqL.of (by (first | assumption | exact upd_same | (rw [upd_ne (by first | assumption | exact Ne.symm (by assumption))]; first | assumption | exact upd_same | (rw [upd_ne (by first | assumption | exact Ne.symm (by assumption))]; first | assumption | exact upd_same))))⟩ | (first | assumption | exact upd_same | (rw [upd_ne (by first | assumption | exact Ne.symm (by assumption))]; first | assumption | exact upd_same | (rw [upd_ne (by first | assumption | exact Ne.symm (by assumption))]; first | assumption | exact upd_same))) | decide | exact Nat.le_of_ble_eq_true rfl | omega | (show ∃ xs, SqL _ _ _ xs; exact ⟨_, SqL.of (by (first | assumption | exact upd_same | (rw [upd_ne (by first | assumption | exact Ne.symm (by assumption))]; first | assumption | exact upd_same | (rw [upd_ne (by first | assumption | exact Ne.symm (by assumption))]; first | assumption | exact upd_same))))⟩) | (show ∃ xs, SqT _ _ _ xs; exact ⟨_, SqT.of (by (first | assumption | exact upd_same | (rw [upd_ne (by first | assumption | exact Ne.symm (by assumption))]; first | assumption | exact upd_same | (rw [upd_ne (by first | assumption | exact Ne.symm (by assumption))]; first | assumption | exact upd_same))))⟩) | exact DGet.k (k := Sum.inl _) (by (first | assumption | exact upd_same | (rw [upd_ne (by first | assumption | exact Ne.symm (by assumption))]; first | assumption | exact upd_same | (rw [upd_ne (by first | assumption | exact Ne.symm (by assumption))]; first | assumption | exact upd_same)))) | (show V.int _ = kV (Sum.inl _); rfl) | (show ∃ z, V.str _ = V.str z; exact ⟨_, rfl⟩) | exact Or.inl ⟨by (first | decide | omega), by (first | decide | omega)⟩ | exact Or.inr ⟨by (first | decide | omega), by (first | decide | omega)⟩ | exact ⟨by (first | decide | omega), by (first | decide | omega)⟩ | exact ⟨by decide, by decide, by decide⟩ | exact L2.ClsV.ty _ | exact Dt.ty (by assumption) | exact Dt.kint (by assumption) | exact Dt.kbool (by assumption) | exact Dt.ktuple (by assumption) | exact Dt.klist (by assumption) | exact Dt.kstr (by assumption))) | (apply Exists.intro; apply And.intro; focus (first | rfl | assumption | exact upd_same | exact SqL.of (by (first | assumption | exact upd_same | (rw [upd_ne (by first | assumption | exact Ne.symm (by assumption))]; first | assumption | exact upd_same | (rw [upd_ne (by first | assumption | exact Ne.symm (by assumption))]; first | assumption | exact upd_same)))) | exact SqT.of (by (first | assumption | exact upd_same | (rw [upd_ne (by first | assumption | exact Ne.symm (by assumption))]; first | assumption | exact upd_same | (rw [upd_ne (by first | assumption | exact Ne.symm (by assumption))]; first | assumption | exact upd_same)))) | exact Or.inl (SqL.of (by (first | assumption | exact upd_same | (rw [upd_ne (by first | assumption | exact Ne.symm (by assumption))]; first | assumption | exact upd_same | (rw [upd_ne (by first | assumption | exact Ne.symm (by assumption))]; first | assumption | exact upd_same))))) | exact Or.inr (SqT.of (by (first | assumption | exact upd_same | (rw [upd_ne (by first | assumption | exact Ne.symm (by assumption))]; first | assumption | exact upd_same | (rw [upd_ne (by first | assumption | exact Ne.symm (by assumption))]; first | assumption | exact upd_same))))) | exact Or.inl ⟨rfl, _, SqL.of (by (first | assumption | exact upd_same | (rw [upd_ne (by first | assumption | exact Ne.symm (by assumption))]; first | assumption | exact upd_same | (rw [upd_ne (by first | assumption | exact Ne.symm (by assumption))]; first | assumption | exact upd_same))))⟩ | (first | assumption | exact upd_same | (rw [upd_ne (by first | assumption | exact Ne.symm (by assumption))]; first | assumption | exact upd_same | (rw [upd_ne (by first | assumption | exact Ne.symm (by assumption))]; first | assumption | exact upd_same))) | decide | exact Nat.le_of_ble_eq_true rfl | omega | (show ∃ xs, SqL _ _ _ xs; exact ⟨_, SqL.of (by (first | assumption | exact upd_same | (rw [upd_ne (by first | assumption | exact Ne.symm (by assumption))]; first | assumption | exact upd_same | (rw [upd_ne (by first | assumption | exact Ne.symm (by assumption))]; first | assumption | exact upd_same))))⟩) | (show ∃ xs, SqT _ _ _ xs; exact ⟨_, SqT.of (by (first | assumption | exact upd_same | (rw [upd_ne (by first | assumption | exact Ne.symm (by assumption))]; first | assumption | exact upd_same | (rw [upd_ne (by first | assumption | exact Ne.symm (by assumption))]; first | assumption | exact upd_same))))⟩) | exact DGet.k (k := Sum.inl _) (by (first | assumption | exact upd_same | (rw [upd_ne (by first | assumption | exact Ne.symm (by assumption))]; first | assumption | exact upd_same | (rw [upd_ne (by first | assumption | exact Ne.symm (by assumption))]; first | assumption | exact upd_same)))) | (show V.int _ = kV (Sum.inl _); rfl) | (show ∃ z, V.str _ = V.str z; exact ⟨_, rfl⟩) | exact Or.inl ⟨by (first | decide | omega), by (first | decide | omega)⟩ | exact Or.inr ⟨by (first | decide | omega), by (first | decide | omega)⟩ | exact ⟨by (first | decide | omega), by (first | decide | omega)⟩ | exact ⟨by decide, by decide, by decide⟩ | exact L2.ClsV.ty _ | exact Dt.ty (by assumption) | exact Dt.kint (by assumption) | exact Dt.kbool (by assumption) | exact Dt.ktuple (by assumption) | exact Dt.klist (by assumption) | exact Dt.kstr (by assumption))) | (apply Exists.intro; apply Exists.intro; apply And.intro; focus (first | rfl | assumption | exact upd_same | exact SqL.of (by (first | assumption | exact upd_same | (rw [upd_ne (by first | assumption | exact Ne.symm (by assumption))]; first | assumption | exact upd_same | (rw [upd_ne (by first | assumption | exact Ne.symm (by assumption))]; first | assumption | exact upd_same)))) | exact SqT.of (by (first | assumption | exact upd_same | (rw [upd_ne (by first | assumption | exact Ne.symm (by assumption))]; first | assumption | exact upd_same | (rw [upd_ne (by first | assumption | exact Ne.symm (by assumption))]; first | assumption | exact upd_same)))) | exact Or.inl (SqL.of (by (first | assumption | exact upd_same | (rw [upd_ne (by first | assumption | exact Ne.symm (by assumption))]; first | assumption | exact upd_same | (rw [upd_ne (by first | assumption | exact Ne.symm (by assumption))]; first | assumption | exact upd_same))))) | exact Or.inr (SqT.of (by (first | assumption | exact upd_same | (rw [upd_ne (by first | assumption | exact Ne.symm (by assumption))]; first | assumption | exact upd_same | (rw [upd_ne (by first | assumption | exact Ne.symm (by assumption))]; first | assumption | exact upd_same))))) | exact Or.inl ⟨rfl, _, SqL.of (by (first | assumption | exact upd_same | (rw [upd_ne (by first | assumption | exact Ne.symm (by assumption))]; first | assumption | exact upd_same | (rw [upd_ne (by first | assumption | exact Ne.symm (by assumption))]; first | assumption | exact upd_same))))⟩ | (first | assumption | exact upd_same | (rw [upd_ne (by first | assumption | exact Ne.symm (by assumption))]; first | assumption | exact upd_same | (rw [upd_ne (by first | assumption | exact Ne.symm (by assumption))]; first | assumption | exact upd_same))) | decide | exact Nat.le_of_ble_eq_true rfl | omega | (show ∃ xs, SqL _ _ _ xs; exact ⟨_, SqL.of (by (first | assumption | exact upd_same | (rw [upd_ne (by first | assumption | exact Ne.symm (by assumption))]; first | assumption | exact upd_same | (rw [upd_ne (by first | assumption | exact Ne.symm (by assumption))]; first | assumption | exact upd_same))))⟩) | (show ∃ xs, SqT _ _ _ xs; exact ⟨_, SqT.of (by (first | assumption | exact upd_same | (rw [upd_ne (by first | assumption | exact Ne.symm (by assumption))]; first | assumption | exact upd_same | (rw [upd_ne (by first | assumption | exact Ne.symm (by assumption))]; first | assumption | exact upd_same))))⟩) | exact DGet.k (k := Sum.inl _) (by (first | assumption | exact upd_same | (rw [upd_ne (by first | assumption | exact Ne.symm (by assumption))]; first | assumption | exact upd_same | (rw [upd_ne (by first | assumption | exact Ne.symm (by assumption))]; first | assumption | exact upd_same)))) | (show V.int _ = kV (Sum.inl _); rfl) | (show ∃ z, V.str _ = V.str z; exact ⟨_, rfl⟩) | exact Or.inl ⟨by (first | decide | omega), by (first | decide | omega)⟩ | exact Or.inr ⟨by (first | decide | omega), by (first | decide | omega)⟩ | exact ⟨by (first | decide | omega), by (first | decide | omega)⟩ | exact ⟨by decide, by decide, by decide⟩ | exact L2.ClsV.ty _ | exact Dt.ty (by assumption) | exact Dt.kint (by assumption) | exact Dt.kbool (by assumption) | exact Dt.ktuple (by assumption) | exact Dt.klist (by assumption) | exact Dt.kstr (by assumption))) | (apply Exists.intro; apply Exists.intro; apply Exists.intro; apply And.intro; focus (first | rfl | assumption | exact upd_same | exact SqL.of (by (first | assumption | exact upd_same | (rw [upd_ne (by first | assumption | exact Ne.symm (by assumption))]; first | assumption | exact upd_same | (rw [upd_ne (by first | assumption | exact Ne.symm (by assumption))]; first | assumption | exact upd_same)))) | exact SqT.of (by (first | assumption | exact upd_same | (rw [upd_ne (by first | assumption | exact Ne.symm (by assumption))]; first | assumption | exact upd_same | (rw [upd_ne (by first | assumption | exact Ne.symm (by assumption))]; first | assumption | exact upd_same)))) | exact Or.inl (SqL.of (by (first | assumption | exact upd_same | (rw [upd_ne (by first | assumption | exact Ne.symm (by assumption))]; first | assumption | exact upd_same | (rw [upd_ne (by first | assumption | exact Ne.symm (by assumption))]; first | assumption | exact upd_same))))) | exact Or.inr (SqT.of (by (first | assumption | exact upd_same | (rw [upd_ne (by first | assumption | exact Ne.symm (by assumption))]; first | assumption | exact upd_same | (rw [upd_ne (by first | assumption | exact Ne.symm (by assumption))]; first | assumption | exact upd_same))))) | exact Or.inl ⟨rfl, _, SqL.of (by (first | assumption | exact upd_same | (rw [upd_ne (by first | assumption | exact Ne.symm (by assumption))]; first | assumption | exact upd_same | (rw [upd_ne (by first | assumption | exact Ne.symm (by assumption))]; first | assumption | exact upd_same))))⟩ | (first | assumption | exact upd_same | (rw [upd_ne (by first | assumption | exact Ne.symm (by assumption))]; first | assumption | exact upd_same | (rw [upd_ne (by first | assumption | exact Ne.symm (by assumption))]; first | assumption | exact upd_same))) | decide | exact Nat.le_of_ble_eq_true rfl | omega | (show ∃ xs, SqL _ _ _ xs; exact ⟨_, SqL.of (by (first | assumption | exact upd_same | (rw [upd_ne (by first | assumption | exact Ne.symm (by assumption))]; first | assumption | exact upd_same | (rw [upd_ne (by first | assumption | exact Ne.symm (by assumption))]; first | assumption | exact upd_same))))⟩) | (show ∃ xs, SqT _ _ _ xs; exact ⟨_, SqT.of (by (first | assumption | exact upd_same | (rw [upd_ne (by first | assumption | exact Ne.symm (by assumption))]; first | assumption | exact upd_same | (rw [upd_ne (by first | assumption | exact Ne.symm (by assumption))]; first | assumption | exact upd_same))))⟩) | exact DGet.k (k := Sum.inl _) (by (first | assumption | exact upd_same | (rw [upd_ne (by first | assumption | exact Ne.symm (by assumption))]; first | assumption | exact upd_same | (rw [upd_ne (by first | assumption | exact Ne.symm (by assumption))]; first | assumption | exact upd_same)))) | (show V.int _ = kV (Sum.inl _); rfl) | (show ∃ z, V.str _ = V.str z; exact ⟨_, rfl⟩) | exact Or.inl ⟨by (first | decide | omega), by (first | decide | omega)⟩ | exact Or.inr ⟨by (first | decide | omega), by (first | decide | omega)⟩ | exact ⟨by (first | decide | omega), by (first | decide | omega)⟩ | exact ⟨by decide, by decide, by decide⟩ | exact L2.ClsV.ty _ | exact Dt.ty (by assumption) | exact Dt.kint (by assumption) | exact Dt.kbool (by assumption) | exact Dt.ktuple (by assumption) | exact Dt.klist (by assumption) | exact Dt.kstr (by assumption))) | (apply Exists.intro; apply Exists.intro; apply Exists.intro; apply Exists.intro; apply And.intro; focus (first | rfl | assumption | exact upd_same | exact SqL.of (by (first | assumption | exact upd_same | (rw [upd_ne (by first | assumption | exact Ne.symm (by assumption))]; first | assumption | exact upd_same | (rw [upd_ne (by first | assumption | exact Ne.symm (by assumption))]; first | assumption | exact upd_same)))) | exact SqT.of (by (first | assumption | exact upd_same | (rw [upd_ne (by first | assumption | exact Ne.symm (by assumption))]; first | assumption | exact upd_same | (rw [upd_ne (by first | assumption | exact Ne.symm (by assumption))]; first | assumption | exact upd_same)))) | exact Or.inl (SqL.of (by (first | assumption | exact upd_same | (rw [upd_ne (by first | assumption | exact Ne.symm (by assumption))]; first | assumption | exact upd_same | (rw [upd_ne (by first | assumption | exact Ne.symm (by assumption))]; first | assumption | exact upd_same))))) | exact Or.inr (SqT.of (by (first | assumption | exact upd_same | (rw [upd_ne (by first | assumption | exact Ne.symm (by assumption))]; first | assumption | exact upd_same | (rw [upd_ne (by first | assumption | exact Ne.symm (by assumption))]; first | assumption | exact upd_same))))) | exact Or.inl ⟨rfl, _, SqL.of (by (first | assumption | exact upd_same | (rw [upd_ne (by first | assumption | exact Ne.symm (by assumption))]; first | assumption | exact upd_same | (rw [upd_ne (by first | assumption | exact Ne.symm (by assumption))]; first | assumption | exact upd_same))))⟩ | (first | assumption | exact upd_same | (rw [upd_ne (by first | assumption | exact Ne.symm (by assumption))]; first | assumption | exact upd_same | (rw [upd_ne (by first | assumption | exact Ne.symm (by assumption))]; first | assumption | exact upd_same))) | decide | exact Nat.le_of_ble_eq_true rfl | omega | (show ∃ xs, SqL _ _ _ xs; exact ⟨_, SqL.of (by (first | assumption | exact upd_same | (rw [upd_ne (by first | assumption | exact Ne.symm (by assumption))]; first | assumption | exact upd_same | (rw [upd_ne (by first | assumption | exact Ne.symm (by assumption))]; first | assumption | exact upd_same))))⟩) | (show ∃ xs, SqT _ _ _ xs; exact ⟨_, SqT.of (by (first | assumption | exact upd_same | (rw [upd_ne (by first | assumption | exact Ne.symm (by assumption))]; first | assumption | exact upd_same | (rw [upd_ne (by first | assumption | exact Ne.symm (by assumption))]; first | assumption | exact upd_same))))⟩) | exact DGet.k (k := Sum.inl _) (by (first | assumption | exact upd_same | (rw [upd_ne (by first | assumption | exact Ne.symm (by assumption))]; first | assumption | exact upd_same | (rw [upd_ne (by first | assumption | exact Ne.symm (by assumption))]; first | assumption | exact upd_same)))) | (show V.int _ = kV (Sum.inl _); rfl) | (show ∃ z, V.str _ = V.str z; exact ⟨_, rfl⟩) | exact Or.inl ⟨by (first | decide | omega), by (first | decide | omega)⟩ | exact Or.inr ⟨by (first | decide | omega), by (first | decide | omega)⟩ | exact ⟨by (first | decide | omega), by (first | decide | omega)⟩ | exact ⟨by decide, by decide, by decide⟩ | exact L2.ClsV.ty _ | exact Dt.ty (by assumption) | exact Dt.kint (by assumption) | exact Dt.kbool (by assumption) | exact Dt.ktuple (by assumption) | exact Dt.klist (by assumption) | exact Dt.kstr (by assumption))) | (apply Exists.intro; apply Exists.intro; apply Exists.intro; apply Exists.intro; apply Exists.intro; apply And.intro; focus (first | rfl | assumption | exact upd_same | exact SqL.of (by (first | assumption | exact upd_same | (rw [upd_ne (by first | assumption | exact Ne.symm (by assumption))]; first | assumption | exact upd_same | (rw [upd_ne (by first | assumption | exact Ne.symm (by assumption))]; first | assumption | exact upd_same)))) | exact SqT.of (by (first | assumption | exact upd_same | (rw [upd_ne (by first | assumption | exact Ne.symm (by assumption))]; first | assumption | exact upd_same | (rw [upd_ne (by first | assumption | exact Ne.symm (by assumption))]; first | assumption | exact upd_same)))) | exact Or.inl (SqL.of (by (first | assumption | exact upd_same | (rw [upd_ne (by first | assumption | exact Ne.symm (by assumption))]; first | assumption | exact upd_same | (rw [upd_ne (by first | assumption | exact Ne.symm (by assumption))]; first | assumption | exact upd_same))))) | exact Or.inr (SqT.of (by (first | assumption | exact upd_same | (rw [upd_ne (by first | assumption | exact Ne.symm (by assumption))]; first | assumption | exact upd_same | (rw [upd_ne (by first | assumption | exact Ne.symm (by assumption))]; first | assumption | exact upd_same))))) | exact Or.inl ⟨rfl, _, SqL.of (by (first | assumption | exact upd_same | (rw [upd_ne (by first | assumption | exact Ne.symm (by assumption))]; first | assumption | exact upd_same | (rw [upd_ne (by first | assumption | exact Ne.symm (by assumption))]; first | assumption | exact upd_same))))⟩ | (first | assumption | exact upd_same | (rw [upd_ne (by first | assumption | exact Ne.symm (by assumption))]; first | assumption | exact upd_same | (rw [upd_ne (by first | assumption | exact Ne.symm (by assumption))]; first | assumption | exact upd_same))) | decide | exact Nat.le_of_ble_eq_true rfl | omega | (show ∃ xs, SqL _ _ _ xs; exact ⟨_, SqL.of (by (first | assumption | exact upd_same | (rw [upd_ne (by first | assumption | exact Ne.symm (by assumption))]; first | assumption | exact upd_same | (rw [upd_ne (by first | assumption | exact Ne.symm (by assumption))]; first | assumption | exact upd_same))))⟩) | (show ∃ xs, SqT _ _ _ xs; exact ⟨_, SqT.of (by (first | assumption | exact upd_same | (rw [upd_ne (by first | assumption | exact Ne.symm (by assumption))]; first | assumption | exact upd_same | (rw [upd_ne (by first | assumption | exact Ne.symm (by assumption))]; first | assumption | exact upd_same))))⟩) | exact DGet.k (k := Sum.inl _) (by (first | assumption | exact upd_same | (rw [upd_ne (by first | assumption | exact Ne.symm (by assumption))]; first | assumption | exact upd_same | (rw [upd_ne (by first | assumption | exact Ne.symm (by assumption))]; first | assumption | exact upd_same)))) | (show V.int _ = kV (Sum.inl _); rfl) | (show ∃ z, V.str _ = V.str z; exact ⟨_, rfl⟩) | exact Or.inl ⟨by (first | decide | omega), by (first | decide | omega)⟩ | exact Or.inr ⟨by (first | decide | omega), by (first | decide | omega)⟩ | exact ⟨by (first | decide | omega), by (first | decide | omega)⟩ | exact ⟨by decide, by decide, by decide⟩ | exact L2.ClsV.ty _ | exact Dt.ty (by assumption) | exact Dt.kint (by assumption) | exact Dt.kbool (by assumption) | exact Dt.ktuple (by assumption) | exact Dt.klist (by assumption) | exact Dt.kstr (by assumption))) | (apply Exists.intro; apply Exists.intro; apply Exists.intro; apply Exists.intro; apply Exists.intro; apply Exists.intro; apply And.intro; focus (first | rfl | assumption | exact upd_same | exact SqL.of (by (first | assumption | exact upd_same | (rw [upd_ne (by first | assumption | exact Ne.symm (by assumption))]; first | assumption | exact upd_same | (rw [upd_ne (by first | assumption | exact Ne.symm (by assumption))]; first | assumption | exact upd_same)))) | exact SqT.of (by (first | assumption | exact upd_same | (rw [upd_ne (by first | assumption | exact Ne.symm (by assumption))]; first | assumption | exact upd_same | (rw [upd_ne (by first | assumption | exact Ne.symm (by assumption))]; first | assumption | exact upd_same)))) | exact Or.inl (SqL.of (by (first | assumption | exact upd_same | (rw [upd_ne (by first | assumption | exact Ne.symm (by assumption))]; first | assumption | exact upd_same | (rw [upd_ne (by first | assumption | exact Ne.symm (by assumption))]; first | assumption | exact upd_same))))) | exact Or.inr (SqT.of (by (first | assumption | exact upd_same | (rw [upd_ne (by first | assumption | exact Ne.symm (by assumption))]; first | assumption | exact upd_same | (rw [upd_ne (by first | assumption | exact Ne.symm (by assumption))]; first | assumption | exact upd_same))))) | exact Or.inl ⟨rfl, _, SqL.of (by (first | assumption | exact upd_same | (rw [upd_ne (by first | assumption | exact Ne.symm (by assumption))]; first | assumption | exact upd_same | (rw [upd_ne (by first | assumption | exact Ne.symm (by assumption))]; first | assumption | exact upd_same))))⟩ | (first | assumption | exact upd_same | (rw [upd_ne (by first | assumption | exact Ne.symm (by assumption))]; first | assumption | exact upd_same | (rw [upd_ne (by first | assumption | exact Ne.symm (by assumption))]; first | assumption | exact upd_same))) | decide | exact Nat.le_of_ble_eq_true rfl | omega | (show ∃ xs, SqL _ _ _ xs; exact ⟨_, SqL.of (by (first | assumption | exact upd_same | (rw [upd_ne (by first | assumption | exact Ne.symm (by assumption))]; first | assumption | exact upd_same | (rw [upd_ne (by first | assumption | exact Ne.symm (by assumption))]; first | assumption | exact upd_same))))⟩) | (show ∃ xs, SqT _ _ _ xs; exact ⟨_, SqT.of (by (first | assumption | exact upd_same | (rw [upd_ne (by first | assumption | exact Ne.symm (by assumption))]; first | assumption | exact upd_same | (rw [upd_ne (by first | assumption | exact Ne.symm (by assumption))]; first | assumption | exact upd_same))))⟩) | exact DGet.k (k := Sum.inl _) (by (first | assumption | exact upd_same | (rw [upd_ne (by first | assumption | exact Ne.symm (by assumption))]; first | assumption | exact upd_same | (rw [upd_ne (by first | assumption | exact Ne.symm (by assumption))]; first | assumption | exact upd_same)))) | (show V.int _ = kV (Sum.inl _); rfl) | (show ∃ z, V.str _ = V.str z; exact ⟨_, rfl⟩) | exact Or.inl ⟨by (first | decide | omega), by (first | decide | omega)⟩ | exact Or.inr ⟨by (first | decide | omega), by (first | decide | omega)⟩ | exact ⟨by (first | decide | omega), by (first | decide | omega)⟩ | exact ⟨by decide, by decide, by decide⟩ | exact L2.ClsV.ty _ | exact Dt.ty (by assumption) | exact Dt.kint (by assumption) | exact Dt.kbool (by assumption) | exact Dt.ktuple (by assumption) | exact Dt.klist (by assumption) | exact Dt.kstr (by assumption))) | (apply Exists.intro; apply Exists.intro; apply Exists.intro; apply Exists.intro; apply Exists.intro; apply Exists.intro; apply Exists.intro; apply And.intro; focus (first | rfl | assumption | exact upd_same | exact SqL.of (by (first | assumption | exact upd_same | (rw [upd_ne (by first | assumption | exact Ne.symm (by assumption))]; first | assumption | exact upd_same | (rw [upd_ne (by first | assumption | exact Ne.symm (by assumption))]; first | assumption | exact upd_same)))) | exact SqT.of (by (first | assumption | exact upd_same | (rw [upd_ne (by first | assumption | exact Ne.symm (by assumption))]; first | assumption | exact upd_same | (rw [upd_ne (by first | assumption | exact Ne.symm (by assumption))]; first | assumption | exact upd_same)))) | exact Or.inl (SqL.of (by (first | assumption | exact upd_same | (rw [upd_ne (by first | assumption | exact Ne.symm (by assumption))]; first | assumption | exact upd_same | (rw [upd_ne (by first | assumption | exact Ne.symm (by assumption))]; first | assumption | exact upd_same))))) | exact Or.inr (SqT.of (by (first | assumption | exact upd_same | (rw [upd_ne (by first | assumption | exact Ne.symm (by assumption))]; first | assumption | exact upd_same | (rw [upd_ne (by first | assumption | exact Ne.symm (by assumption))]; first | assumption | exact upd_same))))) | exact Or.inl ⟨rfl, _, SqL.of (by (first | assumption | exact upd_same | (rw [upd_ne (by first | assumption | exact Ne.symm (by assumption))]; first | assumption | exact upd_same | (rw [upd_ne (by first | assumption | exact Ne.symm (by assumption))]; first | assumption | exact upd_same))))⟩ | (first | assumption | exact upd_same | (rw [upd_ne (by first | assumption | exact Ne.symm (by assumption))]; first | assumption | exact upd_same | (rw [upd_ne (by first | assumption | exact Ne.symm (by assumption))]; first | assumption | exact upd_same))) | decide | exact Nat.le_of_ble_eq_true rfl | omega | (show ∃ xs, SqL _ _ _ xs; exact ⟨_, SqL.of (by (first | assumption | exact upd_same | (rw [upd_ne (by first | assumption | exact Ne.symm (by assumption))]; first | assumption | exact upd_same | (rw [upd_ne (by first | assumption | exact Ne.symm (by assumption))]; first | assumption | exact upd_same))))⟩) | (show ∃ xs, SqT _ _ _ xs; exact ⟨_, SqT.of (by (first | assumption | exact upd_same | (rw [upd_ne (by first | assumption | exact Ne.symm (by assumption))]; first | assumption | exact upd_same | (rw [upd_ne (by first | assumption | exact Ne.symm (by assumption))]; first | assumption | exact upd_same))))⟩) | exact DGet.k (k := Sum.inl _) (by (first | assumption | exact upd_same | (rw [upd_ne (by first | assumption | exact Ne.symm (by assumption))]; first | assumption | exact upd_same | (rw [upd_ne (by first | assumption | exact Ne.symm (by assumption))]; first | assumption | exact upd_same)))) | (show V.int _ = kV (Sum.inl _); rfl) | (show ∃ z, V.str _ = V.str z; exact ⟨_, rfl⟩) | exact Or.inl ⟨by (first | decide | omega), by (first | decide | omega)⟩ | exact Or.inr ⟨by (first | decide | omega), by (first | decide | omega)⟩ | exact ⟨by (first | decide | omega), by (first | decide | omega)⟩ | exact ⟨by decide, by decide, by decide⟩ | exact L2.ClsV.ty _ | exact Dt.ty (by assumption) | exact Dt.kint (by assumption) | exact Dt.kbool (by assumption) | exact Dt.ktuple (by assumption) | exact Dt.klist (by assumption) | exact Dt.kstr (by assumption))) | (apply Exists.intro; apply Exists.intro; apply Exists.intro; apply Exists.intro; apply Exists.intro; apply Exists.intro; apply Exists.intro; apply Exists.intro; apply And.intro; focus (first | rfl | assumption | exact upd_same | exact SqL.of (by (first | assumption | exact upd_same | (rw [upd_ne (by first | assumption | exact Ne.symm (by assumption))]; first | assumption | exact upd_same | (rw [upd_ne (by first | assumption | exact Ne.symm (by assumption))]; first | assumption | exact upd_same)))) | exact SqT.of (by (first | assumption | exact upd_same | (rw [upd_ne (by first | assumption | exact Ne.symm (by assumption))]; first | assumption | exact upd_same | (rw [upd_ne (by first | assumption | exact Ne.symm (by assumption))]; first | assumption | exact upd_same)))) | exact Or.inl (SqL.of (by (first | assumption | exact upd_same | (rw [upd_ne (by first | assumption | exact Ne.symm (by assumption))]; first | assumption | exact upd_same | (rw [upd_ne (by first | assumption | exact Ne.symm (by assumption))]; first | assumption | exact upd_same))))) | exact Or.inr (SqT.of (by (first | assumption | exact upd_same | (rw [upd_ne (by first | assumption | exact Ne.symm (by assumption))]; first | assumption | exact upd_same | (rw [upd_ne (by first | assumption | exact Ne.symm (by assumption))]; first | assumption | exact upd_same))))) | exact Or.inl ⟨rfl, _, SqL.of (by (first | assumption | exact upd_same | (rw [upd_ne (by first | assumption | exact Ne.symm (by assumption))]; first | assumption | exact upd_same | (rw [upd_ne (by first | assumption | exact Ne.symm (by assumption))]; first | assumption | exact upd_same))))⟩ | (first | assumption | exact upd_same | (rw [upd_ne (by first | assumption | exact Ne.symm (by assumption))]; first | assumption | exact upd_same | (rw [upd_ne (by first | assumption | exact Ne.symm (by assumption))]; first | assumption | exact upd_same))) | decide | exact Nat.le_of_ble_eq_true rfl | omega | (show ∃ xs, SqL _ _ _ xs; exact ⟨_, SqL.of (by (first | assumption | exact upd_same | (rw [upd_ne (by first | assumption | exact Ne.symm (by assumption))]; first | assumption | exact upd_same | (rw [upd_ne (by first | assumption | exact Ne.symm (by assumption))]; first | assumption | exact upd_same))))⟩) | (show ∃ xs, SqT _ _ _ xs; exact ⟨_, SqT.of (by (first | assumption | exact upd_same | (rw [upd_ne (by first | assumption | exact Ne.symm (by assumption))]; first | assumption | exact upd_same | (rw [upd_ne (by first | assumption | exact Ne.symm (by assumption))]; first | assumption | exact upd_same))))⟩) | exact DGet.k (k := Sum.inl _) (by (first | assumption | exact upd_same | (rw [upd_ne (by first | assumption | exact Ne.symm (by assumption))]; first | assumption | exact upd_same | (rw [upd_ne (by first | assumption | exact Ne.symm (by assumption))]; first | assumption | exact upd_same)))) | (show V.int _ = kV (Sum.inl _); rfl) | (show ∃ z, V.str _ = V.str z; exact ⟨_, rfl⟩) | exact Or.inl ⟨by (first | decide | omega), by (first | decide | omega)⟩ | exact Or.inr ⟨by (first | decide | omega), by (first | decide | omega)⟩ | exact ⟨by (first | decide | omega), by (first | decide | omega)⟩ | exact ⟨by decide, by decide, by decide⟩ | exact L2.ClsV.ty _ | exact Dt.ty (by assumption) | exact Dt.kint (by assumption) | exact Dt.kbool (by assumption) | exact Dt.ktuple (by assumption) | exact Dt.klist (by assumption) | exact Dt.kstr (by assumption))) | (apply Exists.intro; apply Exists.intro; apply Exists.intro; apply Exists.intro; apply Exists.intro; apply Exists.intro; apply Exists.intro; apply Exists.intro; apply Exists.intro; apply And.intro; focus (first | rfl | assumption | exact upd_same | exact SqL.of (by (first | assumption | exact upd_same | (rw [upd_ne (by first | assumption | exact Ne.symm (by assumption))]; first | assumption | exact upd_same | (rw [upd_ne (by first | assumption | exact Ne.symm (by assumption))]; first | assumption | exact upd_same)))) | exact SqT.of (by (first | assumption | exact upd_same | (rw [upd_ne (by first | assumption | exact Ne.symm (by assumption))]; first | assumption | exact upd_same | (rw [upd_ne (by first | assumption | exact Ne.symm (by assumption))]; first | assumption | exact upd_same)))) | exact Or.inl (SqL.of (by (first | assumption | exact upd_same | (rw [upd_ne (by first | assumption | exact Ne.symm (by assumption))]; first | assumption | exact upd_same | (rw [upd_ne (by first | assumption | exact Ne.symm (by assumption))]; first | assumption | exact upd_same))))) | exact Or.inr (SqT.of (by (first | assumption | exact upd_same | (rw [upd_ne (by first | assumption | exact Ne.symm (by assumption))]; first | assumption | exact upd_same | (rw [upd_ne (by first | assumption | exact Ne.symm (by assumption))]; first | assumption | exact upd_same))))) | exact Or.inl ⟨rfl, _, SqL.of (by (first | assumption | exact upd_same | (rw [upd_ne (by first | assumption | exact Ne.symm (by assumption))]; first | assumption | exact upd_same | (rw [upd_ne (by first | assumption | exact Ne.symm (by assumption))]; first | assumption | exact upd_same))))⟩ | (first | assumption | exact upd_same | (rw [upd_ne (by first | assumption | exact Ne.symm (by assumption))]; first | assumption | exact upd_same | (rw [upd_ne (by first | assumption | exact Ne.symm (by assumption))]; first | assumption | exact upd_same))) | decide | exact Nat.le_of_ble_eq_true rfl | omega | (show ∃ xs, SqL _ _ _ xs; exact ⟨_, SqL.of (by (first | assumption | exact upd_same | (rw [upd_ne (by first | assumption | exact Ne.symm (by assumption))]; first | assumption | exact upd_same | (rw [upd_ne (by first | assumption | exact Ne.symm (by assumption))]; first | assumption | exact upd_same))))⟩) | (show ∃ xs, SqT _ _ _ xs; exact ⟨_, SqT.of (by (first | assumption | exact upd_same | (rw [upd_ne (by first | assumption | exact Ne.symm (by assumption))]; first | assumption | exact upd_same | (rw [upd_ne (by first | assumption | exact Ne.symm (by assumption))]; first | assumption | exact upd_same))))⟩) | exact DGet.k (k := Sum.inl _) (by (first | assumption | exact upd_same | (rw [upd_ne (by first | assumption | exact Ne.symm (by assumption))]; first | assumption | exact upd_same | (rw [upd_ne (by first | assumption | exact Ne.symm (by assumption))]; first | assumption | exact upd_same)))) | (show V.int _ = kV (Sum.inl _); rfl) | (show ∃ z, V.str _ = V.str z; exact ⟨_, rfl⟩) | exact Or.inl ⟨by (first | decide | omega), by (first | decide | omega)⟩ | exact Or.inr ⟨by (first | decide | omega), by (first | decide | omega)⟩ | exact ⟨by (first | decide | omega), by (first | decide | omega)⟩ | exact ⟨by decide, by decide, by decide⟩ | exact L2.ClsV.ty _ | exact Dt.ty (by assumption) | exact Dt.kint (by assumption) | exact Dt.kbool (by assumption) | exact Dt.ktuple (by assumption) | exact Dt.klist (by assumption) | exact Dt.kstr (by assumption))) | refine Or.inl ⟨_, rfl, ?_⟩ | refine Or.inr ⟨_, rfl, ?_⟩ | refine Or.inr ⟨SqT.of (by (first | assumption | exact upd_same | (rw [upd_ne (by first | assumption | exact Ne.symm (by assumption))]; first | assumption | exact upd_same | (rw [upd_ne (by first | assumption | exact Ne.symm (by assumption))]; first | assumption | exact upd_same)))), SqT.of (by (first | assumption | exact upd_same | (rw [upd_ne (by first | assumption | exact Ne.symm (by assumption))]; first | assumption | exact upd_same | (rw [upd_ne (by first | assumption | exact Ne.symm (by assumption))]; first | assumption | exact upd_same)))), ?_⟩ | refine Or.inl ⟨SqL.of (by (first | assumption | exact upd_same | (rw [upd_ne (by first | assumption | exact Ne.symm (by assumption))]; first | assumption | exact upd_same | (rw [upd_ne (by first | assumption | exact Ne.symm (by assumption))]; first | assumption | exact upd_same)))), SqL.of (by (first | assumption | exact upd_same | (rw [upd_ne (by first | assumption | exact Ne.symm (by assumption))]; first | assumption | exact upd_same | (rw [upd_ne (by first | assumption | exact Ne.symm (by assumption))]; first | assumption | exact upd_same)))), ?_⟩ | refine Or.inl ⟨SqL.of (by (first | assumption | exact upd_same | (rw [upd_ne (by first | assumption | exact Ne.symm (by assumption))]; first | assumption | exact upd_same | (rw [upd_ne (by first | assumption | exact Ne.symm (by assumption))]; first | assumption | exact upd_same)))), ?_⟩ | refine Or.inr ⟨SqT.of (by (first | assumption | exact upd_same | (rw [upd_ne (by first | assumption | exact Ne.symm (by assumption))]; first | assumption | exact upd_same | (rw [upd_ne (by first | assumption | exact Ne.symm (by assumption))]; first | assumption | exact upd_same)))), ?_⟩ | refine ifT rfl ?_ | refine ifF rfl ?_))
def nestD : Nat → PyData → PyData
  | 0, d => d
  | n + 1, d => .tuple [nestD n d]
def spNested : Sp := fun vs H Q _ => ∃ (N : Addr → Prop) (m : Nat) (v : V) (d : PyData), vs = [.int (m : Int), v] ∧ m ≤ 1000 ∧ Rp N H v d ∧ (∀ p H', Same H H' → H' p = none → ¬ N p) ∧ ∀ v' H', Same H H' → Rp N H' v' (nestD m d) → Q v' H'
section
variable {P : Program} {w : World} {K : PySem.W.Frag} {mg : Str → Option Value} {base : Heap}
theorem d_nested (B : Bi mg) (F : FunAt K mg "_law_nested" s_law_nested) : Has P w K mg base 1 "_law_nested" ["many", "inner"] spNested := by
  refine mk_has F sc_law_nested (fun _ _ _ _ _ _ us hl => match us, hl with | [_, _], _ => rfl) (fun vs H Q E h => ?_) fun f cdv A outer s H vs Q E hr h => ?_
  · obtain ⟨N, m, v, d, rfl, _⟩ := h
    rfl
  obtain ⟨N, m, v, d, rfl, hm, r, hN, k⟩ := h
  have hm' : ((m : Nat) : Int) < 2 ^ 62 := by omega
  refine ⟨_, (pss_cons (ps_set (i := 2) sc_law_nested.nd rfl (Or.inl rfl) (pv 1))
    (pss_cons (ps_for PassesOwn.never rfl (pi_range1 rfl B.range (pa_cons (pv 0) pa_nil)) (pg_name (i := 3) sc_law_nested.nd rfl (Or.inl rfl))
    (pss_one (ps_set (i := 2) sc_law_nested.nd rfl (Or.inl rfl) (pe_tup (pa_cons (pv 2) pa_nil)))))
    (pss_one (ps_ret (pv 2))))), ?_⟩
  refine ⟨_, rfl, _, rfl, _, rfl, by omega, hm', ?_⟩
  refine for_it (walk_range (lo := 0) (n := ((m : Nat) : Int).toNat)) (fun i σ H' => ∃ (u : V) (x : Option V), σ = [some (.int (m : Int)), some v, some u, x] ∧ Same H H' ∧ Rp N H' u (nestD i d)) ?_ (fun _ _ _ _ _ => True.intro) (fun i x σ H1 H2 hi q y => ?_) fun σ H1 q => ?_
  · exact ⟨v, none, rfl, Same.refl H, r⟩
  · obtain ⟨u, x', rfl, s1, r1⟩ := q
    obtain ⟨rfl, rfl⟩ := y
    trivial
    intro p np
    refine ⟨.ref p, _, rfl, snew s1 np, .tup upd_same (hN p _ s1 np) (.cons (r1.to (Kp.new np)) .nil)⟩
  · obtain ⟨u, x', rfl, s1, r1⟩ := q
    rw [Int.toNat_natCast] at r1
    trivial
    exact k u H1 s1 r1
end
end KQ
set_option Elab.async false
set_option maxRecDepth 100000
set_option maxHeartbeats 4000000
namespace KQ
open PySem PySem.Spec PyProof.Rows L2
local macro_rules | `(tactic| trivial) => `(tactic| repeat (first | (apply And.intro; focus (first | rfl | assumption | exact upd_same | exact SqL.of (by (first | assumption | exact upd_same | (rw [upd_ne (by first | assumption | exact Ne.symm (by assumption))]; first | assumption | exact upd_same | (rw [upd_ne (by first | assumption | exact Ne.symm (by assumption))]; first | assumption | exact upd_same)))) | exact SqT.of (by (first | assumption | exact upd_same | (rw [upd_ne (by first | assumption | exact Ne.symm (by assumption))]; first | assumption | exact upd_same | (rw [upd_ne (by first | assumption | exact Ne.symm (by assumption))]; first | assumption | exact upd_same)))) | exact Or.inl (SqL.of (by (first | assumption | exact upd_same | (rw [upd_ne (by first | assumption | exact Ne.symm (by assumption))]; first | assumption | exact upd_same | (rw [upd_ne (by first | assumption | exact Ne.symm (by assumption))]; first | assumption | exact upd_same))))) | exact Or.inr (SqT.of (by (first | assumption | exact upd_same | (rw [upd_ne (by first | assumption | exact Ne.symm (by assumption))]; first | assumption | exact upd_same | (rw [upd_ne (by first | assumption | exact Ne.symm (by assumption))]; first | assumption | exact upd_same))))) | exact Or.inl ⟨rfl, _, SqL.of (by (first | assumption | exact upd_same | (rw [upd_ne (by first | assumption | exact Ne.symm (by assumption))]; first | assumption | exact upd_same | (rw [upd_ne (by first | assumption | exact Ne.symm (by assumption))]; first | assumption | exact upd_same))))⟩ | (first | assumption | exact upd_same | (rw [upd_ne (by first | assumption | exact Ne.symm (by assumption))]; first | assumption | exact upd_same | (rw [upd_ne (by first | assumption | exact Ne.symm (by assumption))]; first | assumption | exact upd_same))) | decide | exact Nat.le_of_ble_eq_true rfl | omega | (show ∃ xs, SqL _ _ _ xs; exact ⟨_, SqL.of (by (first | assumption | exact upd_same | (rw [upd_ne (by first | assumption | exact Ne.symm (by assumption))]; first | assumption | exact upd_same | (rw [upd_ne (by first | assumption | exact Ne.symm (by assumption))]; first | assumption | exact upd_same))))⟩) | (show ∃ xs, SqT _ _ _ xs; exact ⟨_, SqT.of (by (first | assumption | exact upd_same | (rw [upd_ne (by first | assumption | exact Ne.symm (by assumption))]; first | assumption | exact upd_same | (rw [upd_ne (by first | assumption | exact Ne.symm (by assumption))]; first | assumption | exact upd_same))))⟩) | exact DGet.k (k := Sum.inl _) (by (first | assumption | exact upd_same | (rw [upd_ne (by first | assumption | exact Ne.symm (by assumption))]; first | assumption | exact upd_same | (rw [upd_ne (by first | assumption | exact Ne.symm (by assumption))]; first | assumption | exact upd_same)))) | (show V.int _ = kV (Sum.inl _); rfl) | (show ∃ z, V.str _ = V.str z; exact ⟨_, rfl⟩) | exact Or.inl ⟨by (first | decide | omega), by (first | decide | omega)⟩ | exact Or.inr ⟨by (first | decide | omega), by (first | decide | omega)⟩ | exact ⟨by (first | decide | omega), by (first | decide | omega)⟩ | exact ⟨by decide, by decide, by decide⟩ | exact L2.ClsV.ty _ | exact Dt.ty (by assumption) | exact Dt.kint (by assumption) | exact Dt.kbool (by assumption) | exact Dt.ktuple (by assumption) | exact Dt.klist (by assumption) | exact Dt.kstr (by assumption))) | (apply Exists.intro; apply And.intro; focus (first | rfl | assumption | exact upd_same | exact SqL.of (by (first | assumption | exact upd_same | (rw [upd_ne (by first | assumption | exact Ne.symm (by assumption))]; first | assumption | exact upd_same | (rw [upd_ne (by first | assumption | exact Ne.symm (by assumption))]; first | assumption | exact upd_same)))) | exact SqT.of (by (first | assumption | exact upd_same | (rw [upd_ne (by first | assumption | exact Ne.symm (by assumption))]; first | assumption | exact upd_same | (rw [upd_ne (by first | assumption | exact Ne.symm (by assumption))]; first | assumption | exact upd_same)))) | exact Or.inl (SqL.of (by (first | assumption | exact upd_same | (rw [upd_ne (by first | assumption | exact Ne.symm (by assumption))]; first | assumption | exact upd_same | (rw [upd_ne (by first | assumption | exact Ne.symm (by assumption))]; first | assumption | exact upd_same))))) | exact Or.inr (SqT.of (by (first | assumption | exact upd_same | (rw [upd_ne (by first | assumption | exact Ne.symm (by assumption))]; first | assumption | exact upd_same | (rw [upd_ne (by first | assumption | exact Ne.symm (by assumption))]; first | assumption | exact upd_same))))) | exact Or.inl ⟨rfl, _, SqL.of (by (first | assumption | exact upd_same | (rw [upd_ne (by first | assumption | exact Ne.symm (by assumption))]; first | assumption | exact upd_same | (rw [upd_ne (by first | assumption | exact Ne.symm (by assumption))]; first | assumption | exact upd_same))))⟩ | (first | assumption | exact upd_same | (rw [upd_ne (by first | assumption | exact Ne.symm (by assumption))]; first | assumption | exact upd_same | (rw [upd_ne (by first | assumption | exact Ne.symm (by assumption))]; first | assumption | exact upd_same))) | decide | exact Nat.le_of_ble_eq_true rfl | omega | (show ∃ xs, SqL _ _ _ xs; exact ⟨_, SqL.of (by (first | assumption | exact upd_same | (rw [upd_ne (by first | assumption | exact Ne.symm (by assumption))]; first | assumption | exact upd_same | (rw [upd_ne (by first | assumption | exact Ne.symm (by assumption))]; first | assumption | exact upd_same))))⟩) | (show ∃ xs, SqT _ _ _ xs; exact ⟨_, SqT.of (by (first | assumption | exact upd_same | (rw [upd_ne (by first | assumption | exact Ne.symm (by assumption))]; first | assumption | exact upd_same | (rw [upd_ne (by first | assumption | exact Ne.symm (by assumption))]; first | assumption | exact upd_same))))⟩) | exact DGet.k (k := Sum.inl _) (by (first | assumption | exact upd_same | (rw [upd_ne (by first | assumption | exact Ne.symm (by assumption))]; first | assumption | exact upd_same | (rw [upd_ne (by first | assumption | exact Ne.symm (by assumption))]; first | assumption | exact upd_same)))) | (show V.int _ = kV (Sum.inl _); rfl) | (show ∃ z, V.str _ = V.str z; exact ⟨_, rfl⟩) | exact Or.inl ⟨by (first | decide | omega), by (first | decide | omega)⟩ | exact Or.inr ⟨by (first | decide | omega), by (first | decide | omega)⟩ | exact ⟨by (first | decide | omega), by (first | decide | omega)⟩ | exact ⟨by decide, by decide, by decide⟩ | exact L2.ClsV.ty _ | exact Dt.ty (by assumption) | exact Dt.kint (by assumption) | exact Dt.kbool (by assumption) | exact Dt.ktuple (by assumption) | exact Dt.klist (by assumption) | exact Dt.kstr (by assumption))) | (apply Exists.intro; apply Exists.intro; apply And.intro; focus (first | rfl | assumption | exact upd_same | exact SqL.of (by (first | assumption | exact upd_same | (rw [upd_ne (by first | assumption | exact Ne.symm (by assumption))]; first | assumption | exact upd_same | (rw [upd_ne (by first | assumption | exact Ne.symm (by assumption))]; first | assumption | exact upd_same)))) | exact SqT.of (by (first | assumption | exact upd_same | (rw [upd_ne (by first | assumption | exact Ne.symm (by assumption))]; first | assumption | exact upd_same | (rw [upd_ne (by first | assumption | exact Ne.symm (by assumption))]; first | assumption | exact upd_same)))) | exact Or.inl (SqL.of (by (first | assumption | exact upd_same | (rw [upd_ne (by first | assumption | exact Ne.symm (by assumption))]; first | assumption | exact upd_same | (rw [upd_ne (by first | assumption | exact Ne.symm (by assumption))]; first | assumption | exact upd_same))))) | exact Or.inr (SqT.of (by (first | assumption | exact upd_same | (rw [upd_ne (by first | assumption | exact Ne.symm (by assumption))]; first | assumption | exact upd_same | (rw [upd_ne (by first | assumption | exact Ne.symm (by assumption))]; first | assumption | exact upd_same))))) | exact Or.inl ⟨rfl, _, SqL.of (by (first | assumption | exact upd_same | (rw [upd_ne (by first | assumption | exact Ne.symm (by assumption))]; first | assumption | exact upd_same | (rw [upd_ne (by first | assumption | exact Ne.symm (by assumption))]; first | assumption | exact upd_same))))⟩ | (first | assumption | exact upd_same | (rw [upd_ne (by first | assumption | exact Ne.symm (by assumption))]; first | assumption | exact upd_same | (rw [upd_ne (by first | assumption | exact Ne.symm (by assumption))]; first | assumption | exact upd_same))) | decide | exact Nat.le_of_ble_eq_true rfl | omega | (show ∃ xs, SqL _ _ _ xs; exact ⟨_, SqL.of (by (first | assumption | exact upd_same | (rw [upd_ne (by first | assumption | exact Ne.symm (by assumption))]; first | assumption | exact upd_same | (rw [upd_ne (by first | assumption | exact Ne.symm (by assumption))]; first | assumption | exact upd_same))))⟩) | (show ∃ xs, SqT _ _ _ xs; exact ⟨_, SqT.of (by (first | assumption | exact upd_same | (rw [upd_ne (by first | assumption | exact Ne.symm (by assumption))]; first | assumption | exact upd_same | (rw [upd_ne (by first | assumption | exact Ne.symm (by assumption))]; first | assumption | exact upd_same))))⟩) | exact DGet.k (k := Sum.inl _) (by (first | assumption | exact upd_same | (rw [upd_ne (by first | assumption | exact Ne.symm (by assumption))]; first | assumption | exact upd_same | (rw [upd_ne (by first | assumption | exact Ne.symm (by assumption))]; first | assumption | exact upd_same)))) | (show V.int _ = kV (Sum.inl _); rfl) | (show ∃ z, V.str _ = V.str z; exact ⟨_, rfl⟩) | exact Or.inl ⟨by (first | decide | omega), by (first | decide | omega)⟩ | exact Or.inr ⟨by (first | decide | omega), by (first | decide | omega)⟩ | exact ⟨by (first | decide | omega), by (first | decide | omega)⟩ | exact ⟨by decide, by decide, by decide⟩ | exact L2.ClsV.ty _ | exact Dt.ty (by assumption) | exact Dt.kint (by assumption) | exact Dt.kbool (by assumption) | exact Dt.ktuple (by assumption) | exact Dt.klist (by assumption) | exact Dt.kstr (by assumption))) | (apply Exists.intro; apply Exists.intro; apply Exists.intro; apply And.intro; focus (first | rfl | assumption | exact upd_same | exact SqL.of (by (first | assumption | exact upd_same | (rw [upd_ne (by first | assumption | exact Ne.symm (by assumption))]; first | assumption | exact upd_same | (rw [upd_ne (by first | assumption | exact Ne.symm (by assumption))]; first | assumption | exact upd_same)))) | exact SqT.of (by (first | assumption | exact upd_same | (rw [upd_ne (by first | assumption | exact Ne.symm (by assumption))]; first | assumption | exact upd_same | (rw [upd_ne (by first | assumption | exact Ne.symm (by assumption))]; first | assumption | exact upd_same)))) | exact Or.inl (SqL.of (by (first | assumption | exact upd_same | (rw [upd_ne (by first | assumption | exact Ne.symm (by assumption))]; first | assumption | exact upd_same | (rw [upd_ne (by first | assumption | exact Ne.symm (by assumption))]; first | assumption | exact upd_same))))) | exact Or.inr (SqT.of (by (first | assumption | exact upd_same | (rw [upd_ne (by first | assumption | exact Ne.symm (by assumption))]; first | assumption | exact upd_same | (rw [upd_ne (by first | assumption | exact Ne.symm (by assumption))]; first | assumption | exact upd_same))))) | exact Or.inl ⟨rfl, _, SqL.of (by (first | assumption | exact upd_same | (rw [upd_ne (by first | assumption | exact Ne.symm (by assumption))]; first | assumption | exact upd_same | (rw [upd_ne (by first | assumption | exact Ne.symm (by assumption))]; first | assumption | exact upd_same))))⟩ | (first | assumption | exact upd_same | (rw [upd_ne (by first | assumption | exact Ne.symm (by assumption))]; first | assumption | exact upd_same | (rw [upd_ne (by first | assumption | exact Ne.symm (by assumption))]; first | assumption | exact upd_same))) | decide | exact Nat.le_of_ble_eq_true rfl | omega | (show ∃ xs, SqL _ _ _ xs; exact ⟨_, SqL.of (by (first | assumption | exact upd_same | (rw [upd_ne (by first | assumption | exact Ne.symm (by assumption))]; first | assumption | exact upd_same | (rw [upd_ne (by first | assumption | exact Ne.symm (by assumption))]; first | assumption | exact upd_same))))⟩) | (show ∃ xs, SqT _ _ _ xs; exact ⟨_, SqT.of (by (first | assumption | exact upd_same | (rw [upd_ne (by first | assumption | exact Ne.symm (by assumption))]; first | assumption | exact upd_same | (rw [upd_ne (by first | assumption | exact Ne.symm (by assumption))]; first | assumption | exact upd_same))))⟩) | exact DGet.k (k := Sum.inl _) (by (first | assumption | exact upd_same | (rw [upd_ne (by first | assumption | exact Ne.symm (by assumption))]; first | assumption | exact upd_same | (rw [upd_ne (by first | assumption | exact Ne.symm (by assumption))]; first | assumption | exact upd_same)))) | (show V.int _ = kV (Sum.inl _); rfl) | (show ∃ z, V.str _ = V.str z; exact ⟨_, rfl⟩) | exact Or.inl ⟨by (first | decide | omega), by (first | decide | omega)⟩ | exact Or.inr ⟨by (first | decide | omega), by (first | decide | omega)⟩ | exact ⟨by (first | decide | omega), by (first | decide | omega)⟩ | exact ⟨by decide, by decide, by decide⟩ | exact L2.ClsV.ty _ | exact Dt.ty (by assumption) | exact Dt.kint (by assumption) | exact Dt.kbool (by assumption) | exact Dt.ktuple (by assumption) | exact Dt.klist (by assumption) | exact Dt.kstr (by assumption))) | (apply Exists.intro; apply Exists.intro; apply Exists.intro; apply Exists.intro; apply And.intro; focus (first | rfl | assumption | exact upd_same | exact SqL.of (by (first | assumption | exact upd_same | (rw [upd_ne (by first | assumption | exact Ne.symm (by assumption))]; first | assumption | exact upd_same | (rw [upd_ne (by first | assumption | exact Ne.symm (by assumption))]; first | assumption | exact upd_same)))) | exact SqT.of (by (first | assumption | exact upd_same | (rw [upd_ne (by first | assumption | exact Ne.symm (by assumption))]; first | assumption | exact upd_same | (rw [upd_ne (by first | assumption | exact Ne.symm (by assumption))]; first | assumption | exact upd_same)))) | exact Or.inl (SqL.of (by (first | assumption | exact upd_same | (rw [upd_ne (by first | assumption | exact Ne.symm (by assumption))]; first | assumption | exact upd_same | (rw [upd_ne (by first | assumption | exact Ne.symm (by assumption))]; first | assumption | exact upd_same))))) | exact Or.inr (SqT.of (by (first | assumption | exact upd_same | (rw [upd_ne (by first | assumption | exact Ne.symm (by assumption))]; first | assumption | exact upd_same | (rw [upd_ne (by first | assumption | exact Ne.symm (by assumption))]; first | assumption | exact upd_same))))) | exact Or.inl ⟨rfl, _, SqL.of (by (first | assumption | exact upd_same | (rw [upd_ne (by first | assumption | exact Ne.symm (by assumption))]; first | assumption | exact upd_same | (rw [upd_ne (by first | assumption | exact Ne.symm (by assumption))]; first | assumption | exact upd_same))))⟩ | (first | assumption | exact upd_same | (rw [upd_ne (by first | assumption | exact Ne.symm (by assumption))]; first | assumption | exact upd_same | (rw [upd_ne (by first | assumption | exact Ne.symm (by assumption))]; first | assumption | exact upd_same))) | decide | exact Nat.le_of_ble_eq_true rfl | omega | (show ∃ xs, SqL _ _ _ xs; exact ⟨_, SqL.of (by (first | assumption | exact upd_same | (rw [upd_ne (by first | assumption | exact Ne.symm (by assumption))]; first | assumption | exact upd_same | (rw [upd_ne (by first | assumption | exact Ne.symm (by assumption))]; first | assumption | exact upd_same))))⟩) | (show ∃ xs, SqT _ _ _ xs; exact ⟨_, SqT.of (by (first | assumption | exact upd_same | (rw [upd_ne (by first | assumption | exact Ne.symm (by assumption))]; first | assumption | exact upd_same | (rw [upd_ne (by first | assumption | exact Ne.symm (by assumption))]; first | assumption | exact upd_same))))⟩) | exact DGet.k (k := Sum.inl _) (by (first | assumption | exact upd_same | (rw [upd_ne (by first | assumption | exact Ne.symm (by assumption))]; first | assumption | exact upd_same | (rw [upd_ne (by first | assumption | exact Ne.symm (by assumption))]; first | assumption | exact upd_same)))) | (show V.int _ = kV (Sum.inl _); rfl) | (show ∃ z, V.str _ = V.str z; exact ⟨_, rfl⟩) | exact Or.inl ⟨by (first | decide | omega), by (first | decide | omega)⟩ | exact Or.inr ⟨by (first | decide | omega), by (first | decide | omega)⟩ | exact ⟨by (first | decide | omega), by (first | decide | omega)⟩ | exact ⟨by decide, by decide, by decide⟩ | exact L2.ClsV.ty _ | exact Dt.ty (by assumption) | exact Dt.kint (by assumption) | exact Dt.kbool (by assumption) | exact Dt.ktuple (by assumption) | exact Dt.klist (by assumption) | exact Dt.kstr (by assumption))) | (apply Exists.intro; apply Exists.intro; apply Exists.intro; apply Exists.intro; apply Exists.intro; apply And.intro; focus (first | rfl | assumption | exact upd_same | exact SqL.of (by (first | assumption | exact upd_same | (rw [upd_ne (by first | assumption | exact Ne.symm (by assumption))]; first | assumption | exact upd_same | (rw [upd_ne (by first | assumption | exact Ne.symm (by assumption))]; first | assumption | exact upd_same)))) | exact SqT.of (by (first | assumption | exact upd_same | (rw [upd_ne (by first | assumption | exact Ne.symm (by assumption))]; first | assumption | exact upd_same | (rw [upd_ne (by first | assumption | exact Ne.symm (by assumption))]; first | assumption | exact upd_same)))) | exact Or.inl (SqL.of (by (first | assumption | exact upd_same | (rw [upd_ne (by first | assumption | exact Ne.symm (by assumption))]; first | assumption | exact upd_same | (rw [upd_ne (by first | assumption | exact Ne.symm (by assumption))]; first | assumption | exact upd_same))))) | exact Or.inr (SqT.of (by (first | assumption | exact upd_same | (rw [upd_ne (by first | assumption | exact Ne.symm (by assumption))]; first | assumption | exact upd_same | (rw [upd_ne (by first | assumption | exact Ne.symm (by assumption))]; first | assumption | exact upd_same))))) | exact Or.inl ⟨rfl, _, SqL.of (by (first | assumption | exact upd_same | (rw [upd_ne (by first | assumption | exact Ne.symm (by assumption))]; first | assumption | exact upd_same | (rw [upd_ne (by first | assumption | exact Ne.symm (by assumption))]; first | assumption | exact upd_same))))⟩ | (first | assumption | exact upd_same | (rw [upd_ne (by first | assumption | exact Ne.symm (by assumption))]; first | assumption | exact upd_same | (rw [upd_ne (by first | assumption | exact Ne.symm (by assumption))]; first | assumption | exact upd_same))) | decide | exact Nat.le_of_ble_eq_true rfl | omega | (show ∃ xs, SqL _ _ _ xs; exact ⟨_, SqL.of (by (first | assumption | exact upd_same | (rw [upd_ne (by first | assumption | exact Ne.symm (by assumption))]; first | assumption | exact upd_same | (rw [upd_ne (by first | assumption | exact Ne.symm (by assumption))]; first | assumption | exact upd_same))))⟩) | (show ∃ xs, SqT _ _ _ xs; exact ⟨_, SqT.of (by (first | assumption | exact upd_same | (rw [upd_ne (by first | assumption | exact Ne.symm (by assumption))]; first | assumption | exact upd_same | (rw [upd_ne (by first | assumption | exact Ne.symm (by assumption))]; first | assumption | exact upd_same))))⟩) | exact DGet.k (k := Sum.inl _) (by (first | assumption | exact upd_same | (rw [upd_ne (by first | assumption | exact Ne.symm (by assumption))]; first | assumption | exact upd_same | (rw [upd_ne (by first | assumption | exact Ne.symm (by assumption))]; first | assumption | exact upd_same)))) | (show V.int _ = kV (Sum.inl _); rfl) | (show ∃ z, V.str _ = V.str z; exact ⟨_, rfl⟩) | exact Or.inl ⟨by (first | decide | omega), by (first | decide | omega)⟩ | exact Or.inr ⟨by (first | decide | omega), by (first | decide | omega)⟩ | exact ⟨by (first | decide | omega), by (first | decide | omega)⟩ | exact ⟨by decide, by decide, by decide⟩ | exact L2.ClsV.ty _ | exact Dt.ty (by assumption) | exact Dt.kint (by assumption) | exact Dt.kbool (by assumption) | exact Dt.ktuple (by assumption) | exact Dt.klist (by assumption) | exact Dt.kstr (by assumption))) | (apply Exists.intro; apply Exists.intro; apply Exists.intro; apply Exists.intro; apply Exists.intro; apply Exists.intro; apply And.intro; focus (first | rfl | assumption | exact upd_same | exact SqL.of (by (first | assumption | exact upd_same | (rw [upd_ne (by first | assumption | exact Ne.symm (by assumption))]; first | assumption | exact upd_same | (rw [upd_ne (by first | assumption | exact Ne.symm (by assumption))]; first | assumption | exact upd_same)))) | exact SqT.of (by (first | assumption | exact upd_same | (rw [upd_ne (by first | assumption | exact Ne.symm (by assumption))]; first | assumption | exact upd_same | (rw [upd_ne (by first | assumption | exact Ne.symm (by assumption))]; first | assumption | exact upd_same)))) | exact Or.inl (SqL.of (by (first | assumption | exact upd_same | (rw [upd_ne (by first | assumption | exact Ne.symm (by assumption))]; first | assumption | exact upd_same | (rw [upd_ne (by first | assumption | exact Ne.symm (by assumption))]; first | assumption | exact upd_same))))) | exact Or.inr (SqT.of (by (first | assumption | exact upd_same | (rw [upd_ne (by first | assumption | exact Ne.symm (by assumption))]; first | assumption | exact upd_same | (rw [upd_ne (by first | assumption | exact Ne.symm (by assumption))]; first | assumption | exact upd_same))))) | exact Or.inl ⟨rfl, _, SqL.of (by (first | assumption | exact upd_same | (rw [upd_ne (by first | assumption | exact Ne.symm (by assumption))]; first | assumption | exact upd_same | (rw [upd_ne (by first | assumption | exact Ne.symm (by assumption))]; first | assumption | exact upd_same))))⟩ | (first | assumption | exact upd_same | (rw [upd_ne (by first | assumption | exact Ne.symm (by assumption))]; first | assumption | exact upd_same | (rw [upd_ne (by first | assumption | exact Ne.symm (by assumption))]; first | assumption | exact upd_same))) | decide | exact Nat.le_of_ble_eq_true rfl | omega | (show ∃ xs, SqL _ _ _ xs; exact ⟨_, SqL.of (by (first | assumption | exact upd_same | (rw [upd_ne (by first | assumption | exact Ne.symm (by assumption))]; first | assumption | exact upd_same | (rw [upd_ne (by first | assumption | exact Ne.symm (by assumption))]; first | assumption | exact upd_same))))⟩) | (show ∃ xs, SqT _ _ _ xs; exact ⟨_, SqT.of (by (first | assumption | exact upd_same | (rw [upd_ne (by first | assumption | exact Ne.symm (by assumption))]; first | assumption | exact upd_same | (rw [upd_ne (by first | assumption | exact Ne.symm (by assumption))]; first | assumption | exact upd_same))))⟩) | exact DGet.k (k := Sum.inl _) (by (first | assumption | exact upd_same | (rw [upd_ne (by first | assumption | exact Ne.symm (by assumption))]; first | assumption | exact upd_same | (rw [upd_ne (by first | assumption | exact Ne.symm (by assumption))]; first | assumption | exact upd_same)))) | (show V.int _ = kV (Sum.inl _); rfl) | (show ∃ z, V.str _ = V.str z; exact ⟨_, rfl⟩) | exact Or.inl ⟨by (first | decide | omega), by (first | decide | omega)⟩ | exact Or.inr ⟨by (first | decide | omega), by (first | decide | omega)⟩ | exact ⟨by (first | decide | omega), by (first | decide | omega)⟩ | exact ⟨by decide, by decide, by decide⟩ | exact L2.ClsV.ty _ | exact Dt.ty (by assumption) | exact Dt.kint (by assumption) | exact Dt.kbool (by assumption) | exact Dt.ktuple (by assumption) | exact Dt.klist (by assumption) | exact Dt.kstr (by assumption))) | (apply Exists.intro; apply Exists.intro; apply Exists.intro; apply Exists.intro; apply Exists.intro; apply Exists.intro; apply Exists.intro; apply And.intro; focus (first | rfl | assumption | exact upd_same | exact SqL.of (by (first | assumption | exact upd_same | (rw [upd_ne (by first | assumption | exact Ne.symm (by assumption))]; first | assumption | exact upd_same | (rw [upd_ne (by first | assumption | exact Ne.symm (by assumption))]; first | assumption | exact upd_same)))) | exact SqT.of (by (first | assumption | exact upd_same | (rw [upd_ne (by first | assumption | exact Ne.symm (by assumption))]; first | assumption | exact upd_same | (rw [upd_ne (by first | assumption | exact Ne.symm (by assumption))]; first | assumption | exact upd_same)))) | exact Or.inl (SqL.of (by (first | assumption | exact upd_same | (rw [upd_ne (by first | assumption | exact Ne.symm (by assumption))]; first | assumption | exact upd_same | (rw [upd_ne (by first | assumption | exact Ne.symm (by assumption))]; first | assumption | exact upd_same))))) | exact Or.inr (SqT.of (by (first | assumption | exact upd_same | (rw [upd_ne (by first | assumption | exact Ne.symm (by assumption))]; first | assumption | exact upd_same | (rw [upd_ne (by first | assumption | exact Ne.symm (by assumption))]; first | assumption | exact upd_same))))) | exact Or.inl ⟨rfl, _, SqL.of (by (first | assumption | exact upd_same | (rw [upd_ne (by first | assumption | exact Ne.symm (by assumption))]; first | assumption | exact upd_same | (rw [upd_ne (by first | assumption | exact Ne.symm (by assumption))]; first | assumption | exact upd_same))))⟩ | (first | assumption | exact upd_same | (rw [upd_ne (by first | assumption | exact Ne.symm (by assumption))]; first | assumption | exact upd_same | (rw [upd_ne (by first | assumption | exact Ne.symm (by assumption))]; first | assumption | exact upd_same))) | decide | exact Nat.le_of_ble_eq_true rfl | omega | (show ∃ xs, SqL _ _ _ xs; exact ⟨_, SqL.of (by (first | assumption | exact upd_same | (rw [upd_ne (by first | assumption | exact Ne.symm (by assumption))]; first | assumption | exact upd_same | (rw [upd_ne (by first | assumption | exact Ne.symm (by assumption))]; first | assumption | exact upd_same))))⟩) | (show ∃ xs, SqT _ _ _ xs; exact ⟨_, SqT.of (by (first | assumption | exact upd_same | (rw [upd_ne (by first | assumption | exact Ne.symm (by assumption))]; first | assumption | exact upd_same | (rw [upd_ne (by first | assumption | exact Ne.symm (by assumption))]; first | assumption | exact upd_same))))⟩) | exact DGet.k (k := Sum.inl _) (by (first | assumption | exact upd_same | (rw [upd_ne (by first | assumption | exact Ne.symm (by assumption))]; first | assumption | exact upd_same | (rw [upd_ne (by first | assumption | exact Ne.symm (by assumption))]; first | assumption | exact upd_same)))) | (show V.int _ = kV (Sum.inl _); rfl) | (show ∃ z, V.str _ = V.str z; exact ⟨_, rfl⟩) | exact Or.inl ⟨by (first | decide | omega), by (first | decide | omega)⟩ | exact Or.inr ⟨by (first | decide | omega), by (first | decide | omega)⟩ | exact ⟨by (first | decide | omega), by (first | decide | omega)⟩ | exact ⟨by decide, by decide, by decide⟩ | exact L2.ClsV.ty _ | exact Dt.ty (by assumption) | exact Dt.kint (by assumption) | exact Dt.kbool (by assumption) | exact Dt.ktuple (by assumption) | exact Dt.klist (by assumption) | exact Dt.kstr (by assumption))) | (apply Exists.intro; apply Exists.intro; apply Exists.intro; apply Exists.intro; apply Exists.intro; apply Exists.intro; apply Exists.intro; apply Exists.intro; apply And.intro; focus (first | rfl | assumption | exact upd_same | exact SqL.of (by (first | assumption | exact upd_same | (rw [upd_ne (by first | assumption | exact Ne.symm (by assumption))]; first | assumption | exact upd_same | (rw [upd_ne (by first | assumption | exact Ne.symm (by assumption))]; first | assumption | exact upd_same)))) | exact SqT.of (by (first | assumption | exact upd_same | (rw [upd_ne (by first | assumption | exact Ne.symm (by assumption))]; first | assumption | exact upd_same | (rw [upd_ne (by first | assumption | exact Ne.symm (by assumption))]; first | assumption | exact upd_same)))) | exact Or.inl (SqL.of (by (first | assumption | exact upd_same | (rw [upd_ne (by first | assumption | exact Ne.symm (by assumption))]; first | assumption | exact upd_same | (rw [upd_ne (by first | assumption | exact Ne.symm (by assumption))]; first | assumption | exact upd_same))))) | exact Or.inr (SqT.of (by (first | assumption | exact upd_same | (rw [upd_ne (by first | assumption | exact Ne.symm (by assumption))]; first | assumption | exact upd_same | (rw [upd_ne (by first | assumption | exact Ne.symm (by assumption))]; first | assumption | exact upd_same))))) | exact Or.inl ⟨rfl, _, SqL.of (by (first | assumption | exact upd_same | (rw [upd_ne (by first | assumption | exact Ne.symm (by assumption))]; first | assumption | exact upd_same | (rw [upd_ne (by first | assumption | exact Ne.symm (by assumption))]; first | assumption | exact upd_same))))⟩ | (first | assumption | exact upd_same | (rw [upd_ne (by first | assumption | exact Ne.symm (by assumption))]; first | assumption | exact upd_same | (rw [upd_ne (by first | assumption | exact Ne.symm (by assumption))]; first | assumption | exact upd_same))) | decide | exact Nat.le_of_ble_eq_true rfl | omega | (show ∃ xs, SqL _ _ _ xs; exact ⟨_, SqL.of (by (first | assumption | exact upd_same | (rw [upd_ne (by first | assumption | exact Ne.symm (by assumption))]; first | assumption | exact upd_same | (rw [upd_ne (by first | assumption | exact Ne.symm (by assumption))]; first | assumption | exact upd_same))))⟩) | (show ∃ xs, SqT _ _ _ xs; exact ⟨_, SqT.of (by (first | assumption | exact upd_same | (rw [upd_ne (by first | assumption | exact Ne.symm (by assumption))]; first | assumption | exact upd_same | (rw [upd_ne (by first | assumption | exact Ne.symm (by assumption))]; first | assumption | exact upd_same))))⟩) | exact DGet.k (k := Sum.inl _) (by (first | assumption | exact upd_same | (rw [upd_ne (by first | assumption | exact Ne.symm (by assumption))]; first | assumption | exact upd_same | (rw [upd_ne (by first | assumption | exact Ne.symm (by assumption))]; first | assumption | exact upd_same)))) | (show V.int _ = kV (Sum.inl _); rfl) | (show ∃ z, V.str _ = V.str z; exact ⟨_, rfl⟩) | exact Or.inl ⟨by (first | decide | omega), by (first | decide | omega)⟩ | exact Or.inr ⟨by (first | decide | omega), by (first | decide | omega)⟩ | exact ⟨by (first | decide | omega), by (first | decide | omega)⟩ | exact ⟨by decide, by decide, by decide⟩ | exact L2.ClsV.ty _ | exact Dt.ty (by assumption) | exact Dt.kint (by assumption) | exact Dt.kbool (by assumption) | exact Dt.ktuple (by assumption) | exact Dt.klist (by assumption) | exact Dt.kstr (by assumption))) | (apply Exists.intro; apply Exists.intro; apply Exists.intro; apply Exists.intro; apply Exists.intro; apply Exists.intro; apply Exists.intro; apply Exists.intro; apply Exists.intro; apply And.intro; focus (first | rfl | assumption | exact upd_same | exact SqL.of (by (first | assumption | exact upd_same | (rw [upd_ne (by first | assumption | exact Ne.symm (by assumption))]; first | assumption | exact upd_same | (rw [upd_ne (by first | assumption | exact Ne.symm (by assumption))]; first | assumption | exact upd_same)))) | exact SqT.of (by (first | assumption | exact upd_same | (rw [upd_ne (by first | assumption | exact Ne.symm (by assumption))]; first | assumption | exact upd_same | (rw [upd_ne (by first | assumption | exact Ne.symm (by assumption))]; first | assumption | exact upd_same)))) | exact Or.inl (SqL.of (by (first | assumption | exact upd_same | (rw [upd_ne (by first | assumption | exact Ne.symm (by assumption))]; first | assumption | exact upd_same | (rw [upd_ne (by first | assumption | exact Ne.symm (by assumption))]; first | assumption | exact upd_same))))) | exact Or.inr (SqT.of (by (first | assumption | exact upd_same | (rw [upd_ne (by first | assumption | exact Ne.symm (by assumption))]; first | assumption | exact upd_same | (rw [upd_ne (by first | assumption | exact Ne.symm (by assumption))]; first | assumption | exact upd_same))))) | exact Or.inl ⟨rfl, _, SqL.of (by (first | assumption | exact upd_same | (rw [upd_ne (by first | assumption | exact Ne.symm (by assumption))]; first | assumption | exact upd_same | (rw [upd_ne (by first | assumption | exact Ne.symm (by assumption))]; first | assumption | exact upd_same))))⟩ | (first | assumption | exact upd_same | (rw [upd_ne (by first | assumption | exact Ne.symm (by assumption))]; first | assumption | exact upd_same | (rw [upd_ne (by first | assumption | exact Ne.symm (by assumption))]; first | assumption | exact upd_same))) | decide | exact Nat.le_of_ble_eq_true rfl | omega | (show ∃ xs, SqL _ _ _ xs; exact ⟨_, SqL.of (by (first | assumption | exact upd_same | (rw [upd_ne (by first | assumption | exact Ne.symm (by assumption))]; first | assumption | exact upd_same | (rw [upd_ne (by first | assumption | exact Ne.symm (by assumption))]; first | assumption | exact upd_same))))⟩) | (show ∃ xs, SqT _ _ _ xs; exact ⟨_, SqT.of (by (first | assumption | exact upd_same | (rw [upd_ne (by first | assumption | exact Ne.symm (by assumption))]; first | assumption | exact upd_same | (rw [upd_ne (by first | assumption | exact Ne.symm (by assumption))]; first | assumption | exact upd_same))))⟩) | exact DGet.k (k := Sum.inl _) (by (first | assumption | exact upd_same | (rw [upd_ne (by first | assumption | exact Ne.symm (by assumption))]; first | assumption | exact upd_same | (rw [upd_ne (by first | assumption | exact Ne.symm (by assumption))]; first | assumption | exact upd_same)))) | (show V.int _ = kV (Sum.inl _); rfl) | (show ∃ z, V.str _ = V.str z; exact ⟨_, rfl⟩) | exact Or.inl ⟨by (first | decide | omega), by (first | decide | omega)⟩ | exact Or.inr ⟨by (first | decide | omega), by (first | decide | omega)⟩ | exact ⟨by (first | decide | omega), by (first | decide | omega)⟩ | exact ⟨by decide, by decide, by decide⟩ | exact L2.ClsV.ty _ | exact Dt.ty (by assumption) | exact Dt.kint (by assumption) | exact Dt.kbool (by assumption) | exact Dt.ktuple (by assumption) | exact Dt.klist (by assumption) | exact Dt.kstr (by assumption))) | refine Or.inl ⟨_, rfl, ?_⟩ | refine Or.inr ⟨_, rfl, ?_⟩ | refine Or.inr ⟨SqT.of (by (first | assumption | exact upd_same | (rw [upd_ne (by first | assumption | exact Ne.symm (by assumption))]; first | assumption | exact upd_same | (rw [upd_ne (by first | assumption | exact Ne.symm (by assumption))]; first | assumption | exact upd_same)))), SqT.of (by (first | assumption | exact upd_same | (rw [upd_ne (by first | assumption | exact Ne.symm (by assumption))]; first | assumption | exact upd_same | (rw [upd_ne (by first | assumption | exact Ne.symm (by assumption))]; first | assumption | exact upd_same)))), ?_⟩ | refine Or.inl ⟨SqL.of (by (first | assumption | exact upd_same | (rw [upd_ne (by first | assumption | exact Ne.symm (by assumption))]; first | assumption | exact upd_same | (rw [upd_ne (by first | assumption | exact Ne.symm (by assumption))]; first | assumption | exact upd_same)))), SqL.of (by (first | assumption | exact upd_same | (rw [upd_ne (by first | assumption | exact Ne.symm (by assumption))]; first | assumption | exact upd_same | (rw [upd_ne (by first | assumption | exact Ne.symm (by assumption))]; first | assumption | exact upd_same)))), ?_⟩ | refine Or.inl ⟨SqL.of (by (first | assumption | exact upd_same | (rw [upd_ne (by first | assumption | exact Ne.symm (by assumption))]; first | assumption | exact upd_same | (rw [upd_ne (by first | assumption | exact Ne.symm (by assumption))]; first | assumption | exact upd_same)))), ?_⟩ | refine Or.inr ⟨SqT.of (by (first | assumption | exact upd_same | (rw [upd_ne (by first | assumption | exact Ne.symm (by assumption))]; first | assumption | exact upd_same | (rw [upd_ne (by first | assumption | exact Ne.symm (by assumption))]; first | assumption | exact upd_same)))), ?_⟩ | refine ifT rfl ?_ | refine ifF rfl ?_))
theorem tYes_ok' {σ : L2.St} {H : Hp} {Q : Bool → Hp → Prop} (h : Q true H) : tYes σ H Q := h
theorem join1 : ∀ cs : List Nat, (Txt.join Str.empty (cs.map fun c => (⟨#[c]⟩ : Str))).cps.toList = cs := by
  intro cs
  have h : ∀ cs : List Nat, (Str.join Str.empty (cs.map fun c => (⟨#[c]⟩ : Str))).cps.toList = cs := by
    intro cs
    induction cs with
    | nil => rfl
    | cons c cs ih =>
      cases cs with
      | nil => rfl
      | cons d cs =>
        show ((⟨#[c]⟩ : Str) ++ Str.empty ++ Str.join Str.empty ((d :: cs).map fun c => (⟨#[c]⟩ : Str))).cps.toList = _
        show (#[c] ++ #[] ++ (Str.join Str.empty ((d :: cs).map fun c => (⟨#[c]⟩ : Str))).cps).toList = _
        rw [Array.toList_append, ih]
        rfl
  show (PySem.Builtin.Str.glued Str.empty _).cps.toList = cs
  rw [PySem.StrLaws.glued_eq_join]
  exact h cs
def flatD : PyData → Bool
  | .none => true
  | .bool _ => true
  | .int i => decide (i.natAbs < 10 ^ 18)
  | .str x => decide (0 < x.length) && decide (x.length ≤ 20) && x.cps.toList.all fun (c : Nat) => [32, 126, 97, 48, 90, 98, 39].contains c
  | _ => false
/-- what is drawn -/
def drawn : Nat → PyData → Bool
  | n + 1, .tuple ds => decide (ds.length ≤ 4) && ds.all (drawn n)
  | _, d => flatD d
theorem drawn_flat {n : Nat} {d : PyData} (h : flatD d = true) : drawn n d = true := by
  cases n with
  | zero => cases d <;> exact h
  | succ n => cases d <;> first | exact h | simp [flatD] at h
theorem PoolOk.upd' {H : Hp} {h l D : Addr} {o : HO} (k : PoolOk H h l) (n : ¬ Np h l D) : PoolOk (upd H D o) h l := by
  obtain ⟨xs, s, c, h1, h2, r⟩ := k
  exact ⟨xs, s, c, by rw [upd_ne (fun z => n (.inl z.symm))]; exact h1, by rw [upd_ne (fun z => n (.inr z.symm))]; exact h2, r⟩
theorem PoolOk.al {H : Hp} {h l a : Addr} (k : PoolOk H h l) (n : Np h l a) : H a ≠ none := by
  obtain ⟨xs, s, c, h1, h2, _⟩ := k
  rcases n with rfl | rfl
  · rw [h1]; exact fun z => nomatch z
  · rw [h2]; exact fun z => nomatch z
theorem pool_al {H H' : Hp} {h l a : Addr} (k : Kp (Np h l) H H') (o : PoolOk H' h l) (n : H a ≠ none) : H' a ≠ none := fun z => n (k.free (fun _ => o.al) z)
theorem joinD {cs : List Nat} (h0 : 0 < cs.length) (h1 : cs.length ≤ 20) (h : cs.all (fun c => [32, 126, 97, 48, 90, 98, 39].contains c) = true) : flatD (.str (Txt.join (Str.ofString "") (cs.map fun c => (⟨#[c]⟩ : Str)))) = true := by
  have e : Str.ofString "" = Str.empty := by decide +kernel
  rw [e]
  have j := join1 cs
  have l : (Txt.join Str.empty (cs.map fun c => (⟨#[c]⟩ : Str))).length = cs.length := by
    show (Txt.join Str.empty (cs.map fun c => (⟨#[c]⟩ : Str))).cps.size = _
    rw [← Array.length_toList, j]
  simp only [flatD]
  rw [l, j, h, decide_eq_true h0, decide_eq_true h1]
  rfl
theorem sum_ones : ∀ cs : List Nat, ((cs.map fun c => (⟨#[c]⟩ : Str)).map (·.length)).sum = cs.length
  | [] => rfl
  | c :: cs => by
    simp only [List.map_cons, List.sum_cons, List.length_cons]
    rw [sum_ones cs]
    show 1 + cs.length = _
    omega
theorem alph {r : Int} (h0 : 0 ≤ r) (h1 : r < 7) : ∃ c, atI (Str.ofString " ~a0Zb'").cps.toList r = some c ∧ [32, 126, 97, 48, 90, 98, 39].contains c = true := by
  rcases (show r = 0 ∨ r = 1 ∨ r = 2 ∨ r = 3 ∨ r = 4 ∨ r = 5 ∨ r = 6 by omega) with rfl | rfl | rfl | rfl | rfl | rfl | rfl
  · exact ⟨32, by decide +kernel, by decide⟩
  · exact ⟨126, by decide +kernel, by decide⟩
  · exact ⟨97, by decide +kernel, by decide⟩
  · exact ⟨48, by decide +kernel, by decide⟩
  · exact ⟨90, by decide +kernel, by decide⟩
  · exact ⟨98, by decide +kernel, by decide⟩
  · exact ⟨39, by decide +kernel, by decide⟩
def spParc (n : Nat) : Sp := fun vs H Q _ => ∃ (h l : Addr) (m : Nat), vs = [.ref h, .int (m : Int)] ∧ m ≤ n ∧ PoolOk H h l ∧ ∀ (v : V) (d : PyData) (H' : Hp), Rp (fun a => H a ≠ none) H' v d → drawn m d = true → PoolOk H' h l → Kp (Np h l) H H' → Q v H'
section
variable {P : Program} {w : World} {K : PySem.W.Frag} {mg : Str → Option Value} {base : Heap}
theorem parc_step (B : Bi mg) (F : FunAt K mg "_law_parcel" s_law_parcel) (D_law_draw : Has P w K mg base 1 "_law_draw" ["pool", "many"] spDraw) (D_law_number : Has P w K mg base 2 "_law_number" ["pool"] spPNum) (n : Nat)
    (D_law_parcel : Has P w K mg base (n + 2) "_law_parcel" ["pool", "deep"] (fun vs H Q E => ∃ m, m + 1 = n ∧ spParc m vs H Q E)) : Has P w K mg base (n + 3) "_law_parcel" ["pool", "deep"] (spParc n) := by
  refine mk_has F sc_law_parcel (fun _ _ _ _ _ _ us hl => match us, hl with | [_, _], _ => rfl) (fun vs H Q E h => ?_) fun f cdv A outer s H vs Q E hr h => ?_
  · obtain ⟨h, l, m, rfl, _⟩ := h
    rfl
  obtain ⟨h, l, m, rfl, hm, ho, k⟩ := h
  refine ⟨_, (pss_cons (ps_set (i := 2) sc_law_parcel.nd rfl (Or.inl rfl) (pe_h D_law_draw (hr.mono (by omega)) rfl (pa_cons (pv 0) (pa_cons pe_int pa_nil))))
    (pss_cons (ps_if (pt_cmpR op_lt (pv 2) pe_int (nomark _))
    (pss_one (ps_ret (pe_ix ix_list (pe_lst (pa_cons pe_non (pa_cons pe_bl (pa_cons pe_bl pa_nil)))) (pv 2) (fun _ _ => rfl))))
    pss_nil)
    (pss_cons (ps_if (pt_cmpR op_lt (pv 2) pe_int (nomark _))
    (pss_one (ps_ret (pe_h D_law_number (hr.mono (by omega)) rfl (pa_cons (pv 0) pa_nil))))
    pss_nil)
    (pss_cons (ps_if (pt_cmpR op_lt (pv 2) pe_int (nomark _))
    (pss_cons (ps_set (i := 3) sc_law_parcel.nd rfl (Or.inl rfl) (pe_ifExp (pt_cmpR op_eq (pe_h D_law_draw (hr.mono (by omega)) rfl (pa_cons (pv 0) (pa_cons pe_int pa_nil))) pe_int (nomark _)) pe_int (pe_op op_add pe_int (pe_h D_law_draw (hr.mono (by omega)) rfl (pa_cons (pv 0) (pa_cons pe_int pa_nil))))))
    (pss_one (ps_ret (pe_join pe_str (pe_lc (own := [("at", 4)]) (g := gName 4) (tt := tYes) (te := (tOp rIxS (tC (.str " ~a0Zb'")) (tCall spDraw [] E0 (tCons (tVar 0) (tCons (tC (.int 7)) tNil))))) rfl sc_law_parcel.nd (pi_range1 rfl B.range (pa_cons (pv 3) pa_nil)) (blkOk_by (own := [("at", 4)]) (N := ["pool", "deep", "kind", "many", "at", "turn"]) (sc := defScope s_law_parcel) (by decide +kernel)) (fun _ _ _ _ _ => (pg_name (i := 4) sc_law_parcel.nd rfl (Or.inl rfl))) (fun _ _ _ _ _ => pts_nil) (fun _ _ _ _ _ => (pe_ix ix_str pe_str (pe_h D_law_draw (hr.mono (by omega)) rfl (pa_cons (pv 0) (pa_cons pe_int pa_nil))) (fun _ _ => rfl))))))))
    pss_nil)
    (pss_cons (ps_if (pt_cmpR op_eq (pv 1) pe_int (nomark _))
    (pss_one (ps_ret pe_int))
    pss_nil)
    (pss_one (ps_ret (pe_callTy call_tuple_of rfl B.tuple (by decide +kernel) (pa_cons (pe_lc (own := [("turn", 5)]) (g := gName 5) (tt := tYes) (te := (tCall (fun vs H Q E => ∃ m, m + 1 = n ∧ spParc m vs H Q E) [] E0 (tCons (tVar 0) (tCons (tOp (rI0 fun i j => .int (i - j)) (tVar 1) (tC (.int 1))) tNil)))) rfl sc_law_parcel.nd (pi_range1 rfl B.range (pa_cons (pe_h D_law_draw (hr.mono (by omega)) rfl (pa_cons (pv 0) (pa_cons pe_int pa_nil))) pa_nil)) (blkOk_by (own := [("turn", 5)]) (N := ["pool", "deep", "kind", "many", "at", "turn"]) (sc := defScope s_law_parcel) (by decide +kernel)) (fun _ _ _ _ _ => (pg_name (i := 5) sc_law_parcel.nd rfl (Or.inl rfl))) (fun _ _ _ _ _ => pts_nil) (fun _ _ _ _ _ => (pe_h D_law_parcel hr rfl (pa_cons (pv 0) (pa_cons (pe_op op_sub (pv 1) pe_int) pa_nil))))) pa_nil))))))))), ?_⟩
  trivial
  intro r1 H1 r10 r11 ho1 hk1
  have k1 : Kp (Np h l) H H1 := Kp.pool hk1
  trivial
  refine ite2 (fun c => ?_) (fun c => ?_)
  · have c' := of_decide_eq_true c
    trivial
    intro p np
    obtain ⟨v, d, hv, hr, hd⟩ : ∃ v d, atI [V.non, .bl true, .bl false] r1 = some v ∧ Rp (fun a => H a ≠ none) (upd H1 p (.lst [.non, .bl true, .bl false])) v d ∧ flatD d = true := by
      rcases (show r1 = 0 ∨ r1 = 1 ∨ r1 = 2 by omega) with rfl | rfl | rfl
      · exact ⟨_, .none, rfl, .non, rfl⟩
      · exact ⟨_, .bool true, rfl, .bl _, rfl⟩
      · exact ⟨_, .bool false, rfl, .bl _, rfl⟩
    trivial
    exact k v d _ hr (drawn_flat hd) (ho1.new np) (k1.trans (Kp.new np))
  trivial
  refine ite2 (fun c => ?_) (fun c => ?_)
  · trivial
    intro i H2 hi ho2 k2
    exact k _ (.int i) H2 (.int i) (drawn_flat (decide_eq_true hi)) ho2 (k1.trans k2)
  trivial
  refine ite2 (fun c => ?_) (fun c => ?_)
  · trivial
    intro r2 H2 r20 r21 ho2 hk2
    have k2 := k1.trans (Kp.pool hk2)
    trivial
    refine ite2 (fun c2 => ?_) (fun c2 => ?_)
    · trivial
      intro D nD
      have npD := ho2.np nD
      have kD : ∀ {H' : Hp} {o : HO}, Kp (Np h l) H2 H' → Kp (Np h l) H2 (upd H' D o) := fun k a o e n => by
        rw [upd_ne (ne_of_none e nD)]
        exact k a o e n
      refine lc_it walk_range (fun i H' => PoolOk H' h l ∧ Kp (Np h l) H2 H' ∧ ∃ cs : List Nat, H' D = some (.lst (cs.map fun c => V.str ⟨#[c]⟩)) ∧ cs.length = i ∧ cs.all (fun c => [32, 126, 97, 48, 90, 98, 39].contains c) = true) ⟨ho2.new nD, kD Kp.refl, [], upd_same, rfl, rfl⟩ (fun _ _ _ _ => True.intro) (fun i x H4 H5 hi q y => ?_) fun H4 q => ?_
      · obtain ⟨ho4, k4, cs, eD, hl, hc⟩ := q
        obtain ⟨rfl, rfl⟩ := y
        refine ⟨rfl, tYes_ok' ?_⟩
        rw [if_pos rfl]
        have eL : (Str.ofString " ~a0Zb'").length ≤ sizeLine := by rw [sizeLine_eq]; decide +kernel
        refine ⟨_, rfl, h, l, 7, rfl, ho4, by decide, by decide, fun r5 H6 r50 r51 ho6 hk6 => ?_⟩
        obtain ⟨c5, a5, b5⟩ := alph r50 r51
        have eD6 := (hk6 D (fun z => npD (.inl z)) (fun z => npD (.inr z))).trans eD
        refine ⟨_, _, c5, rfl, rfl, eL, a5, ?_⟩
        refine ⟨_, eD6, by rw [sizeLine_eq, List.length_map]; omega, ho6.upd' npD, kD (k4.trans (Kp.pool hk6)), cs ++ [c5], by rw [upd_same, List.map_append]; rfl, by simp [hl], by rw [List.all_append, hc, Bool.true_and, List.all_cons, b5]; rfl⟩
      · obtain ⟨ho4, k4, cs, eD, hl, hc⟩ := q
        refine ⟨_, D, cs.map fun c => (⟨#[c]⟩ : Str), rfl, rfl, .inl (SqL.of (by rw [eD, List.map_map]; rfl)), by rw [sum_ones, List.length_map]; show _ + _ * 0 ≤ _; omega, ?_⟩
        exact k _ _ H4 (.str _) (drawn_flat (joinD (by omega) (by omega) hc)) ho4 (k2.trans k4)
    · trivial
      intro r3 H3 r30 r31 ho3 hk3
      have k3 := k2.trans (Kp.pool hk3)
      trivial
      intro D nD
      have npD := ho3.np nD
      have kD : ∀ {H' : Hp} {o : HO}, Kp (Np h l) H3 H' → Kp (Np h l) H3 (upd H' D o) := fun k a o e n => by
        rw [upd_ne (ne_of_none e nD)]
        exact k a o e n
      refine lc_it walk_range (fun i H' => PoolOk H' h l ∧ Kp (Np h l) H3 H' ∧ ∃ cs : List Nat, H' D = some (.lst (cs.map fun c => V.str ⟨#[c]⟩)) ∧ cs.length = i ∧ cs.all (fun c => [32, 126, 97, 48, 90, 98, 39].contains c) = true) ⟨ho3.new nD, kD Kp.refl, [], upd_same, rfl, rfl⟩ (fun _ _ _ _ => True.intro) (fun i x H4 H5 hi q y => ?_) fun H4 q => ?_
      · obtain ⟨ho4, k4, cs, eD, hl, hc⟩ := q
        obtain ⟨rfl, rfl⟩ := y
        refine ⟨rfl, tYes_ok' ?_⟩
        rw [if_pos rfl]
        have eL : (Str.ofString " ~a0Zb'").length ≤ sizeLine := by rw [sizeLine_eq]; decide +kernel
        refine ⟨_, rfl, h, l, 7, rfl, ho4, by decide, by decide, fun r5 H6 r50 r51 ho6 hk6 => ?_⟩
        obtain ⟨c5, a5, b5⟩ := alph r50 r51
        have eD6 := (hk6 D (fun z => npD (.inl z)) (fun z => npD (.inr z))).trans eD
        refine ⟨_, _, c5, rfl, rfl, eL, a5, ?_⟩
        refine ⟨_, eD6, by rw [sizeLine_eq, List.length_map]; omega, ho6.upd' npD, kD (k4.trans (Kp.pool hk6)), cs ++ [c5], by rw [upd_same, List.map_append]; rfl, by simp [hl], by rw [List.all_append, hc, Bool.true_and, List.all_cons, b5]; rfl⟩
      · obtain ⟨ho4, k4, cs, eD, hl, hc⟩ := q
        refine ⟨_, D, cs.map fun c => (⟨#[c]⟩ : Str), rfl, rfl, .inl (SqL.of (by rw [eD, List.map_map]; rfl)), by rw [sum_ones, List.length_map]; show _ + _ * 0 ≤ _; omega, ?_⟩
        exact k _ _ H4 (.str _) (drawn_flat (joinD (by omega) (by omega) hc)) ho4 (k3.trans k4)
  trivial
  refine ite2 (fun c => ?_) (fun c => ?_)
  · trivial
    exact k _ (.int 7) H1 (.int 7) (drawn_flat (by decide)) ho1 k1
  · trivial
    intro r3 H3 r30 r31 ho3 hk3
    have k3 := k1.trans (Kp.pool hk3)
    have m0 : m ≠ 0 := fun z => by
      have := of_decide_eq_false (Bool.eq_false_iff.mpr c)
      rw [z] at this
      exact this rfl
    obtain ⟨m', rfl⟩ : ∃ m', m = m' + 1 := ⟨m - 1, by omega⟩
    trivial
    intro D nD
    have npD := ho3.np nD
    have kD : ∀ {H' : Hp} {o : HO}, Kp (Np h l) H3 H' → Kp (Np h l) H3 (upd H' D o) := fun k a o e n => by
      rw [upd_ne (ne_of_none e nD)]
      exact k a o e n
    refine lc_it walk_range (fun i H' => PoolOk H' h l ∧ Kp (Np h l) H3 H' ∧ ∃ vs ds, H' D = some (.lst vs) ∧ RpAll (fun a => H3 a ≠ none ∨ a = D) H' vs ds ∧ ds.length = i ∧ ds.all (drawn m') = true) ⟨ho3.new nD, kD Kp.refl, [], [], upd_same, .nil, rfl, rfl⟩ (fun _ _ _ _ => True.intro) (fun i x H4 H5 hi q y => ?_) fun H4 q => ?_
    · obtain ⟨ho4, k4, vs, ds, eD, ra, hl, hc⟩ := q
      obtain ⟨rfl, rfl⟩ := y
      refine ⟨rfl, tYes_ok' ?_⟩
      rw [if_pos rfl]
      refine ⟨_, rfl, _, rfl, _, _, rfl, rfl, n - 1, by omega, h, l, m', ?_, by omega, ho4, fun v d H6 r6 d6 ho6 k6 => ?_⟩
      · show [V.ref h, V.int (((m' + 1 : Nat) : Int) - 1)] ++ [] = _
        rw [show ((m' + 1 : Nat) : Int) - 1 = (m' : Int) by omega]
        rfl
      · have eD6 := k6 _ _ eD npD
        have hN : ∀ a, (H3 a ≠ none ∨ a = D) → H5 a ≠ none := fun a z => by
          rcases z with z | rfl
          · exact pool_al k4 ho4 z
          · rw [eD]; exact fun y => nomatch y
        have hNp : ∀ a, Np h l a → (H3 a ≠ none ∨ a = D) := fun a z => .inl (ho3.al z)
        have ra6 := (ra.to (k6.wide hNp)).app (.cons (r6.kp (N' := fun a => H3 a ≠ none ∨ a = D) Kp.refl fun a o e n z => n (hN a z)) .nil)
        have el := ra.length
        refine ⟨vs, eD6, by rw [sizeLine_eq]; omega, ho6.upd' npD, kD (k4.trans k6), vs ++ [v], ds ++ [d], upd_same, ra6.to (Kp.put (.inr rfl)), by simp [hl], by rw [List.all_append, hc]; simp [d6]⟩
    · obtain ⟨ho4, k4, vs, ds, eD, ra, hl, hc⟩ := q
      trivial
      intro p2 n2
      have k04 := k3.trans k4
      have f3 : H3 p2 = none := k4.free (fun _ => ho4.al) n2
      have f0 : H p2 = none := k04.free (fun _ => ho4.al) n2
      refine k _ (.tuple ds) _ (.tup upd_same (fun z => z f0) ((ra.to (Kp.new n2)).kp (N' := fun a => H a ≠ none) Kp.refl fun a o e n z => n (.inl (pool_al k3 ho3 z)))) ?_ (ho4.new n2) (k04.trans (Kp.new n2))
      show (decide (ds.length ≤ 4) && ds.all (drawn m')) = true
      rw [hc, decide_eq_true (by omega)]
      rfl
theorem d_parcel (B : Bi mg) (F : FunAt K mg "_law_parcel" s_law_parcel) (D1 : Has P w K mg base 1 "_law_draw" ["pool", "many"] spDraw) (D2 : Has P w K mg base 2 "_law_number" ["pool"] spPNum) : ∀ n : Nat, Has P w K mg base (n + 3) "_law_parcel" ["pool", "deep"] (spParc n)
  | 0 => parc_step B F D1 D2 0 (has_none F (fun _ _ _ _ _ _ us hl => match us, hl with | [_, _], _ => rfl) fun _ _ _ _ ⟨_, e, _⟩ => nomatch e)
  | n + 1 => parc_step B F D1 D2 (n + 1) ((d_parcel B F D1 D2 n).imp fun _ _ _ _ ⟨m, e, q⟩ => by cases e; exact q)
end
end KQ
set_option Elab.async false
set_option maxRecDepth 100000
set_option maxHeartbeats 4000000
namespace KQ
open PySem PySem.Spec PyProof.Rows L2
/-! ### a row read back -/
def kW : List Int → Nat
  | [] => 0
  | b :: bs => if 128 ≤ b then kW bs + 1 else 0
def valW : List Int → Int
  | [] => 0
  | f :: fs => valW fs * 128 + f % 128
/-- a whole at the front: the number, how many bytes -/
def rdR : Bool → List Int → Option (Int × Nat)
  | _, [] => none
  | f, b :: bs => if 128 ≤ b then (rdR false bs).map fun q => (q.1 * 128 + b % 128, q.2 + 1) else if b = 0 ∧ f = false then none else some (b % 128, 1)
theorem kW_le : ∀ (r : List Int), kW r ≤ r.length
  | [] => Nat.le_refl _
  | b :: bs => by
    have := kW_le bs
    simp only [kW, List.length_cons]
    split <;> omega
theorem kW_lt : ∀ {r : List Int} {j : Nat}, j < kW r → ∃ b, r[j]? = some b ∧ 128 ≤ b
  | [], _, h => absurd h (Nat.not_lt_zero _)
  | b :: bs, j, h => by
    simp only [kW] at h
    by_cases c : 128 ≤ b
    · rw [if_pos c] at h
      cases j with
      | zero => exact ⟨b, rfl, c⟩
      | succ j => exact kW_lt (r := bs) (j := j) (by omega)
    · rw [if_neg c] at h
      omega
theorem kW_at : ∀ {r : List Int} {b : Int}, r[kW r]? = some b → b < 128
  | [], _, h => by simp at h
  | c :: bs, b, h => by
    simp only [kW] at h
    by_cases z : 128 ≤ c
    · rw [if_pos z] at h
      exact kW_at (r := bs) (by simpa using h)
    · rw [if_neg z] at h
      simp at h
      omega
theorem rdR_eq : ∀ (f : Bool) (r : List Int), rdR f r = match r[kW r]? with
    | none => none
    | some b => if b = 0 ∧ (0 < kW r ∨ f = false) then none else some (valW (r.take (kW r + 1)), kW r + 1)
  | f, [] => rfl
  | f, b :: bs => by
    by_cases c : 128 ≤ b
    · have e : kW (b :: bs) = kW bs + 1 := by simp only [kW]; rw [if_pos c]
      rw [rdR, if_pos c, rdR_eq false bs, e, List.getElem?_cons_succ]
      cases h : bs[kW bs]? with
      | none => rfl
      | some y =>
        simp only
        by_cases c2 : y = 0
        · rw [if_pos ⟨c2, .inr trivial⟩, if_pos ⟨c2, .inl (Nat.succ_pos _)⟩]
          rfl
        · rw [if_neg (fun z => c2 z.1), if_neg (fun z => c2 z.1)]
          rfl
    · have e : kW (b :: bs) = 0 := by simp only [kW]; rw [if_neg c]
      rw [rdR, if_neg c, e]
      simp only [List.getElem?_cons_zero]
      by_cases c2 : b = 0 ∧ f = false
      · rw [if_pos c2, if_pos ⟨c2.1, .inr c2.2⟩]
      · rw [if_neg c2, if_neg (fun z => c2 ⟨z.1, z.2.resolve_left (Nat.lt_irrefl 0)⟩)]
        simp [valW]
theorem rdR_wh : ∀ (n : Nat) (f : Bool) (t : List Int), (0 < n ∨ f = true) → rdR f (whN n ++ t) = some ((n : Int), (whN n).length) := by
  intro n
  induction n using Nat.strongRecOn with
  | ind n ih =>
    intro f t h
    by_cases c : n < 128
    · rw [whN_lt c]
      show rdR f ((n : Int) :: t) = _
      rw [rdR, if_neg (by omega), if_neg (fun z => by
        rcases h with h | h
        · omega
        · rw [h] at z; exact nomatch z.2)]
      rw [show (n : Int) % 128 = n by omega]
      rfl
    · rw [whN_ge c]
      show rdR f ((128 + (n % 128 : Nat) : Int) :: (whN (n / 128) ++ t)) = _
      rw [rdR, if_pos (by omega), ih (n / 128) (by omega) false t (.inl (by omega))]
      show some (((n / 128 : Nat) : Int) * 128 + (128 + ((n % 128 : Nat) : Int)) % 128, (whN (n / 128)).length + 1) = _
      rw [show ((n / 128 : Nat) : Int) * 128 + (128 + ((n % 128 : Nat) : Int)) % 128 = n by omega]
      rfl
theorem rdR_inv : ∀ {r : List Int} {f : Bool} {w : Int} {k : Nat}, (∀ b ∈ r, 0 ≤ b ∧ b < 256) → rdR f r = some (w, k) → 0 ≤ w ∧ (f = false → 0 < w) ∧ k ≤ r.length ∧ 0 < k ∧ whN w.toNat = r.take k
  | [], f, w, k, _, h => by simp [rdR] at h
  | b :: bs, f, w, k, hb, h => by
    have b0 := hb b (List.mem_cons_self ..)
    rw [rdR] at h
    by_cases c : 128 ≤ b
    · rw [if_pos c] at h
      cases e : rdR false bs with
      | none => rw [e] at h; simp at h
      | some q =>
        obtain ⟨v, j⟩ := q
        rw [e] at h
        simp only [Option.map_some, Option.some.injEq, Prod.mk.injEq] at h
        obtain ⟨rfl, rfl⟩ := h
        obtain ⟨i1, i2, i3, i4, i5⟩ := rdR_inv (fun x hx => hb x (List.mem_cons_of_mem _ hx)) e
        have i2 := i2 rfl
        refine ⟨by omega, fun _ => by omega, by simp; omega, by omega, ?_⟩
        rw [whN_ge (by omega), show (v * 128 + b % 128).toNat / 128 = v.toNat by omega, i5, List.take_succ_cons]
        congr 1
        omega
    · rw [if_neg c] at h
      by_cases c2 : b = 0 ∧ f = false
      · rw [if_pos c2] at h; cases h
      · rw [if_neg c2] at h
        simp only [Option.some.injEq, Prod.mk.injEq] at h
        obtain ⟨rfl, rfl⟩ := h
        refine ⟨by omega, fun z => by
          have : b ≠ 0 := fun y => c2 ⟨y, z⟩
          omega, by simp, by omega, ?_⟩
        rw [whN_lt (by omega)]
        simp
        omega
inductive Res where
  | bad (p : Nat)
  | ok (d : PyData) (b : Nat)
def rdS (row : List Int) : Nat → Nat → List Nat → Res
  | 0, p, cs => .ok (.str ⟨cs.toArray⟩) p
  | m + 1, p, cs => match row[p]? with
    | none => .bad p
    | some b => if sgn b then rdS row m (p + 1) (cs ++ [b.toNat]) else .bad p
def rdI (rd : Nat → Res) : Nat → Nat → List PyData → Res
  | 0, p, ds => .ok (.tuple ds) p
  | m + 1, p, ds => match rd p with
    | .bad q => .bad q
    | .ok d b => rdI rd m b (ds ++ [d])
def plainD (s : Int) : PyData := if s = 0 then .none else .bool (decide (s = 2))
/-- a parcel, of what its items are -/
def rdQ (row : List Int) (it : Option (Nat → Res)) (p : Nat) : Res := match row[p]? with
  | none => .bad p
  | some s =>
    if s < 3 then .ok (plainD s) (p + 1)
    else if 6 < s ∨ (s = 6 ∧ it.isNone) then .bad p
    else match rdR true (row.drop (p + 1)) with
      | none => .bad (p + 1)
      | some (w, k) =>
        if s = 3 then .ok (.int w) (p + 1 + k)
        else if s = 4 then .ok (.int (-1 - w)) (p + 1 + k)
        else if s = 6 then rdI (it.getD .bad) w.toNat (p + 1 + k) []
        else if w = 0 ∨ 20 < w then .bad (p + 1)
        else rdS row w.toNat (p + 1 + k) []
def rdP (row : List Int) : Nat → Nat → Res
  | 0 => rdQ row none
  | n + 1 => rdQ row (some (rdP row n))
def itP (row : List Int) : Nat → Option (Nat → Res)
  | 0 => none
  | n + 1 => some (rdP row n)
theorem rdP_eq {row : List Int} {n p : Nat} : rdP row n p = rdQ row (itP row n) p := by cases n <;> rfl
theorem itP_none {row : List Int} {n : Nat} : (itP row n).isNone = decide (n = 0) := by cases n <;> simp [itP]
theorem rdS_ok {row : List Int} : ∀ {m p : Nat} {cs : List Nat} {d : PyData} {b : Nat}, p ≤ row.length → rdS row m p cs = .ok d b → b = p + m ∧ b ≤ row.length ∧ ∃ es : List Nat, d = .str ⟨(cs ++ es).toArray⟩ ∧ es.length = m ∧ (es.all fun c => sgn (c : Int)) = true ∧ (row.drop p).take m = es.map fun (c : Nat) => (c : Int)
  | 0, p, cs, d, b, hp, h => by
    simp only [rdS, Res.ok.injEq] at h
    obtain ⟨rfl, rfl⟩ := h
    exact ⟨rfl, hp, [], by simp, rfl, rfl, by simp⟩
  | m + 1, p, cs, d, b, hp, h => by
    rw [rdS] at h
    cases e : row[p]? with
    | none => rw [e] at h; cases h
    | some c =>
      rw [e] at h
      simp only at h
      have hl : p < row.length := (List.getElem?_eq_some_iff.mp e).1
      by_cases g : sgn c = true
      · rw [if_pos g] at h
        obtain ⟨i1, i2, es, i3, i4, i5, i6⟩ := rdS_ok (by omega) h
        have c0 : 32 ≤ c := by
          simp only [sgn, Bool.and_eq_true, decide_eq_true_eq] at g
          exact g.1.1
        have ec : ((c.toNat : Nat) : Int) = c := by omega
        refine ⟨by omega, i2, c.toNat :: es, by rw [i3]; simp, by simp [i4], by rw [List.all_cons, ec, g, i5]; rfl, ?_⟩
        rw [List.map_cons, ← i6, ec]
        rw [show row.drop p = c :: row.drop (p + 1) from by rw [List.drop_eq_getElem_cons hl]; congr 1; rw [List.getElem?_eq_getElem hl] at e; exact Option.some.inj e]
        rfl
      · rw [if_neg g] at h; cases h
theorem rdS_by {pre post : List Int} : ∀ (es : List Nat) (fs : List Int) (cs : List Nat), (es.all fun c => sgn (c : Int)) = true → rdS (pre ++ fs ++ (es.map fun (c : Nat) => (c : Int)) ++ post) es.length (pre ++ fs).length cs = .ok (.str ⟨(cs ++ es).toArray⟩) ((pre ++ fs).length + es.length)
  | [], fs, cs, _ => by simp [rdS]
  | e :: es, fs, cs, h => by
    rw [List.all_cons, Bool.and_eq_true] at h
    have q := rdS_by (pre := pre) (post := post) es (fs ++ [(e : Int)]) (cs ++ [e]) h.2
    rw [List.length_cons, rdS]
    have g : (pre ++ fs ++ ((e :: es).map fun (c : Nat) => (c : Int)) ++ post)[(pre ++ fs).length]? = some (e : Int) := by
      rw [List.append_assoc, List.getElem?_append_right (Nat.le_refl _), Nat.sub_self]
      rfl
    rw [g]
    simp only
    rw [if_pos h.1, show ((e : Nat) : Int).toNat = e by omega]
    have e1 : pre ++ fs ++ ((e :: es).map fun (c : Nat) => (c : Int)) ++ post = pre ++ (fs ++ [(e : Int)]) ++ (es.map fun (c : Nat) => (c : Int)) ++ post := by simp
    have e2 : (pre ++ fs).length + 1 = (pre ++ (fs ++ [(e : Int)])).length := by simp; omega
    rw [e1, e2, q]
    simp
    omega
theorem rdI_by {rd : Nat → Res} {row pre post : List Int} : ∀ (ds es : List PyData) (p : Nat), p = (pre ++ byAll es).length → row = pre ++ byAll es ++ byAll ds ++ post → (∀ d ∈ ds, ∀ pre post, row = pre ++ byD d ++ post → rd pre.length = .ok d (pre.length + (byD d).length)) →
    rdI rd ds.length p es = .ok (.tuple (es ++ ds)) ((pre ++ byAll es).length + (byAll ds).length)
  | [], es, p, hp, _, _ => by simp [rdI, byAll, hp]
  | d :: ds, es, p, hp, hr, h => by
    rw [List.length_cons, rdI]
    have q := h d (List.mem_cons_self ..) (pre ++ byAll es) (byAll ds ++ post) (by rw [hr]; simp [byAll])
    rw [← hp] at q
    rw [q]
    simp only
    have z := rdI_by (rd := rd) (row := row) (pre := pre) (post := post) ds (es ++ [d]) (p + (byD d).length) (by rw [hp, byAll_app]; simp [byAll]; omega) (by rw [hr, byAll_app]; simp [byAll]) (fun x hx => h x (List.mem_cons_of_mem _ hx))
    rw [z, byAll_app]
    simp [byAll]
    omega
/-- a parcel is read back from its row -/
theorem rdP_by {row : List Int} : ∀ (n : Nat) (d : PyData), isP n d = true → ∀ pre post : List Int, row = pre ++ byD d ++ post → rdP row n pre.length = .ok d (pre.length + (byD d).length) := by
  have hd : ∀ {pre post : List Int} {s : Int} {t : List Int}, row = pre ++ (s :: t) ++ post → row[pre.length]? = some s ∧ row.drop (pre.length + 1) = t ++ post := fun {pre post s t} e => by
    rw [e, List.append_assoc]
    refine ⟨by rw [List.getElem?_append_right (Nat.le_refl _), Nat.sub_self]; rfl, ?_⟩
    rw [← List.drop_drop, List.drop_left]
    rfl
  have flat : ∀ (n : Nat) (d : PyData), (∀ ds, d ≠ .tuple ds) → isP n d = true → ∀ pre post : List Int, row = pre ++ byD d ++ post → rdP row n pre.length = .ok d (pre.length + (byD d).length) := fun n d nt h pre post e => by
    rw [isP_flat nt] at h
    cases d with
    | tuple ds => exact absurd rfl (nt ds)
    | list ds => simp [flatP] at h
    | dict ds => simp [flatP] at h
    | none =>
      obtain ⟨e1, e2⟩ := hd (s := 0) (t := []) (by rw [e, byD])
      rw [rdP_eq, rdQ, e1]
      rfl
    | bool b =>
      obtain ⟨e1, e2⟩ := hd (s := if b then 2 else 1) (t := []) (by rw [e, byD])
      rw [rdP_eq, rdQ, e1]
      cases b <;> rfl
    | int i =>
      by_cases c : 0 ≤ i
      · have eb : byD (.int i) = 3 :: whN i.toNat := by rw [byD, if_pos c]
        obtain ⟨e1, e2⟩ := hd (by rw [e, eb])
        rw [rdP_eq, rdQ, e1, e2, rdR_wh _ true _ (.inr rfl), eb]
        have : ((i.toNat : Nat) : Int) = i := by omega
        simp [this]
        omega
      · have eb : byD (.int i) = 4 :: whN (-1 - i).toNat := by rw [byD, if_neg c]
        obtain ⟨e1, e2⟩ := hd (by rw [e, eb])
        rw [rdP_eq, rdQ, e1, e2, rdR_wh _ true _ (.inr rfl), eb]
        have : (-1 : Int) - (((-1 - i).toNat : Nat) : Int) = i := by omega
        simp [this]
        omega
    | str x =>
      simp only [flatP, strP, Bool.and_eq_true, decide_eq_true_eq] at h
      obtain ⟨⟨h1, h2⟩, h3⟩ := h
      have eb : byD (.str x) = 5 :: (whN x.length ++ strB x) := by rw [byD]
      obtain ⟨e1, e2⟩ := hd (by rw [e, eb])
      rw [rdP_eq, rdQ, e1, e2, List.append_assoc, rdR_wh _ true _ (.inr rfl), eb]
      have lx : x.cps.toList.length = x.length := by simp [Str.length]
      have q := rdS_by (pre := pre ++ [5]) (post := post) x.cps.toList (whN x.length) [] h3
      rw [List.nil_append, show (⟨x.cps.toList.toArray⟩ : Str) = x by simp] at q
      have er : row = pre ++ [5] ++ whN x.length ++ (x.cps.toList.map fun (c : Nat) => (c : Int)) ++ post := by rw [e, eb, strB]; simp
      rw [← er] at q
      have ep : (pre ++ [5] ++ whN x.length).length = pre.length + 1 + (whN x.length).length := by simp; omega
      rw [ep, lx] at q
      simp only
      rw [if_neg (by decide), if_neg (fun z => by rcases z with z | z <;> omega), if_neg (by decide), if_neg (by decide), if_neg (by decide), if_neg (by omega), show ((x.length : Nat) : Int).toNat = x.length by omega, q]
      have : (strB x).length = x.length := by rw [strB, List.length_map, lx]
      simp [this]
      omega
  intro n
  induction n with
  | zero =>
    intro d h
    refine flat 0 d (fun ds z => ?_) h
    rw [z] at h
    simp [isP, flatP] at h
  | succ n ih =>
    intro d h
    cases d with
    | tuple ds =>
      intro pre post e
      have h' : ds.all (isP n) = true := h
      have eb : byD (.tuple ds) = 6 :: (whN ds.length ++ byAll ds) := by rw [byD]
      obtain ⟨e1, e2⟩ := hd (by rw [e, eb])
      rw [rdP_eq, rdQ, e1, e2, List.append_assoc, rdR_wh _ true _ (.inr rfl), eb]
      simp only
      rw [if_neg (by decide), if_neg (fun z => by rcases z with z | z; { omega }; exact nomatch z.2), if_neg (by decide), if_neg (by decide), if_pos trivial, show ((ds.length : Nat) : Int).toNat = ds.length by omega]
      show rdI (rdP row n) _ _ _ = _
      have q := rdI_by (rd := rdP row n) (row := row) (pre := pre ++ (6 :: whN ds.length)) (post := post) ds [] (pre.length + 1 + (whN ds.length).length) (by simp [byAll]; omega) (by rw [e, eb]; simp [byAll]) (fun d hd pre post er => ih d (List.all_eq_true.mp h' d hd) pre post er)
      rw [q]
      simp [byAll]
      omega
    | _ => exact flat (n + 1) _ (by intro ds z; cases z) h

theorem rdR_len : ∀ {r : List Int} {f : Bool} {w : Int} {k : Nat}, rdR f r = some (w, k) → k ≤ r.length ∧ 0 < k
  | [], f, w, k, h => by simp [rdR] at h
  | b :: bs, f, w, k, h => by
    rw [rdR] at h
    by_cases c : 128 ≤ b
    · rw [if_pos c] at h
      cases e : rdR false bs with
      | none => rw [e] at h; simp at h
      | some q =>
        obtain ⟨v, j⟩ := q
        rw [e] at h
        simp only [Option.map_some, Option.some.injEq, Prod.mk.injEq] at h
        obtain ⟨rfl, rfl⟩ := h
        have := rdR_len e
        simp
        omega
    · rw [if_neg c] at h
      by_cases c2 : b = 0 ∧ f = false
      · rw [if_pos c2] at h; cases h
      · rw [if_neg c2] at h
        simp only [Option.some.injEq, Prod.mk.injEq] at h
        obtain ⟨rfl, rfl⟩ := h
        simp
theorem rdI_lt {rd : Nat → Res} {L : Nat} (h : ∀ p d b, p ≤ L → rd p = .ok d b → p ≤ b ∧ b ≤ L) : ∀ {m p : Nat} {ds : List PyData} {d : PyData} {b : Nat}, p ≤ L → rdI rd m p ds = .ok d b → p ≤ b ∧ b ≤ L
  | 0, p, ds, d, b, hp, e => by
    simp only [rdI, Res.ok.injEq] at e
    obtain ⟨_, rfl⟩ := e
    exact ⟨Nat.le_refl _, hp⟩
  | m + 1, p, ds, d, b, hp, e => by
    rw [rdI] at e
    cases q : rd p with
    | bad x => rw [q] at e; cases e
    | ok d' b' =>
      rw [q] at e
      have h1 := h p d' b' hp q
      have h2 := rdI_lt h h1.2 e
      exact ⟨by omega, h2.2⟩
theorem rdQ_lt {row : List Int} {it : Option (Nat → Res)} (h : ∀ rd, it = some rd → ∀ p d b, p ≤ row.length → rd p = .ok d b → p ≤ b ∧ b ≤ row.length) {p b : Nat} {d : PyData} (e : rdQ row it p = .ok d b) : p < b ∧ b ≤ row.length := by
  rw [rdQ] at e
  cases e1 : row[p]? with
  | none => rw [e1] at e; cases e
  | some s =>
    have hl : p < row.length := (List.getElem?_eq_some_iff.mp e1).1
    rw [e1] at e
    simp only at e
    split at e
    · simp only [Res.ok.injEq] at e
      obtain ⟨_, rfl⟩ := e
      omega
    split at e
    · cases e
    cases e2 : rdR true (row.drop (p + 1)) with
    | none => rw [e2] at e; cases e
    | some q =>
      obtain ⟨w, k⟩ := q
      rw [e2] at e
      simp only at e
      have hk := rdR_len e2
      rw [List.length_drop] at hk
      split at e
      · simp only [Res.ok.injEq] at e
        obtain ⟨_, rfl⟩ := e
        omega
      split at e
      · simp only [Res.ok.injEq] at e
        obtain ⟨_, rfl⟩ := e
        omega
      split at e
      · cases it with
        | none =>
          have := rdI_lt (rd := Res.bad) (L := row.length) (fun p d b _ e => nomatch e) (show p + 1 + k ≤ row.length by omega) e
          omega
        | some rd =>
          have := rdI_lt (rd := rd) (L := row.length) (h rd rfl) (show p + 1 + k ≤ row.length by omega) e
          omega
      split at e
      · cases e
      · have := rdS_ok (by omega) e
        omega
theorem rdP_lt {row : List Int} : ∀ {n p b : Nat} {d : PyData}, rdP row n p = .ok d b → p < b ∧ b ≤ row.length
  | 0, _, _, _, e => rdQ_lt (it := none) (fun _ z => nomatch z) e
  | n + 1, _, _, _, e => rdQ_lt (it := some (rdP row n)) (fun rd z p d b _ e => by
      cases z
      have := rdP_lt (n := n) e
      omega) e
theorem rdI_ok {row : List Int} {rd : Nat → Res} {n : Nat} (h : ∀ p d b, rd p = .ok d b → p < b ∧ b ≤ row.length ∧ isP n d = true ∧ byD d = (row.drop p).take (b - p)) : ∀ {m p : Nat} {es : List PyData} {d : PyData} {b : Nat}, p ≤ row.length → rdI rd m p es = .ok d b →
    p ≤ b ∧ b ≤ row.length ∧ ∃ ds, d = .tuple (es ++ ds) ∧ ds.length = m ∧ ds.all (isP n) = true ∧ byAll ds = (row.drop p).take (b - p)
  | 0, p, es, d, b, hp, e => by
    simp only [rdI, Res.ok.injEq] at e
    obtain ⟨rfl, rfl⟩ := e
    exact ⟨Nat.le_refl _, hp, [], by simp, rfl, rfl, by simp [byAll]⟩
  | m + 1, p, es, d, b, hp, e => by
    rw [rdI] at e
    cases q : rd p with
    | bad x => rw [q] at e; cases e
    | ok d' b' =>
      rw [q] at e
      obtain ⟨h1, h2, h3, h4⟩ := h p d' b' q
      obtain ⟨i1, i2, ds, i3, i4, i5, i6⟩ := rdI_ok h h2 e
      refine ⟨by omega, i2, d' :: ds, by rw [i3]; simp, by simp [i4], by rw [List.all_cons, h3, i5]; rfl, ?_⟩
      rw [byAll, h4, i6]
      have e1 : row.drop b' = (row.drop p).drop (b' - p) := by rw [List.drop_drop]; congr 1; omega
      rw [e1, show b - p = (b' - p) + (b - b') by omega, List.take_add]
/-- what is read is a parcel, and its row stood there -/
theorem rdP_inv {row : List Int} (hb : ∀ b ∈ row, 0 ≤ b ∧ b < 256) : ∀ (n p : Nat) (d : PyData) (b : Nat), rdP row n p = .ok d b → p < b ∧ b ≤ row.length ∧ isP n d = true ∧ byD d = (row.drop p).take (b - p) := by
  have hd : ∀ {p : Nat} {s : Int}, row[p]? = some s → row.drop p = s :: row.drop (p + 1) := fun {p s} e => by
    have hl : p < row.length := (List.getElem?_eq_some_iff.mp e).1
    rw [List.drop_eq_getElem_cons hl]
    congr 1
    rw [List.getElem?_eq_getElem hl] at e
    exact Option.some.inj e
  have step : ∀ (n p : Nat) (d : PyData) (b : Nat), (∀ m, n = m + 1 → ∀ p d b, rdP row m p = .ok d b → p < b ∧ b ≤ row.length ∧ isP m d = true ∧ byD d = (row.drop p).take (b - p)) → rdP row n p = .ok d b → p < b ∧ b ≤ row.length ∧ isP n d = true ∧ byD d = (row.drop p).take (b - p) := fun n p d b ih e => by
    obtain ⟨lt1, lt2⟩ := rdP_lt e
    refine ⟨lt1, lt2, ?_⟩
    rw [rdP_eq, rdQ] at e
    cases e1 : row[p]? with
    | none => rw [e1] at e; cases e
    | some s =>
      have hl : p < row.length := (List.getElem?_eq_some_iff.mp e1).1
      have hs := hb s (List.mem_of_getElem? e1)
      rw [e1] at e
      simp only at e
      have e0 := hd e1
      split at e
      · rename_i c
        simp only [Res.ok.injEq] at e
        obtain ⟨rfl, rfl⟩ := e
        rw [show p + 1 - p = 1 by omega, e0]
        rcases (show s = 0 ∨ s = 1 ∨ s = 2 by omega) with rfl | rfl | rfl <;> exact ⟨by cases n <;> rfl, by simp [plainD, byD]⟩
      split at e
      · cases e
      rename_i c1 c2
      cases e2 : rdR true (row.drop (p + 1)) with
      | none => rw [e2] at e; cases e
      | some q =>
        obtain ⟨w, k⟩ := q
        rw [e2] at e
        simp only at e
        obtain ⟨w0, _, hk, k0, hw⟩ := rdR_inv (fun b hb' => hb b (List.mem_of_mem_drop hb')) e2
        rw [List.length_drop] at hk
        have tk : ∀ (j : Nat) (t : List Int), (row.drop (p + 1 + k)).take j = t → s :: (whN w.toNat ++ t) = (row.drop p).take (p + 1 + k + j - p) := fun j t h => by
          rw [e0, show p + 1 + k + j - p = (k + j) + 1 by omega, List.take_succ_cons, List.take_add, ← hw, List.drop_drop, h]
        split at e
        · rename_i c3
          simp only [Res.ok.injEq] at e
          obtain ⟨rfl, rfl⟩ := e
          refine ⟨by cases n <;> rfl, ?_⟩
          have z := tk 0 [] (by simp)
          rw [byD, if_pos w0, ← c3]
          simpa using z
        split at e
        · rename_i c3 c4
          simp only [Res.ok.injEq] at e
          obtain ⟨rfl, rfl⟩ := e
          refine ⟨by cases n <;> rfl, ?_⟩
          have z := tk 0 [] (by simp)
          rw [byD, if_neg (by omega), ← c4, show (-1 - (-1 - w)) = w by omega]
          simpa using z
        split at e
        · rename_i c3 c4 c5
          cases n with
          | zero => exact absurd (.inr ⟨c5, rfl⟩) c2
          | succ n =>
            obtain ⟨j1, j2, ds, rfl, j4, j5, j6⟩ := rdI_ok (row := row) (rd := rdP row n) (n := n) (ih n rfl) (show p + 1 + k ≤ row.length by omega) e
            rw [List.nil_append]
            refine ⟨j5, ?_⟩
            have z := tk (b - (p + 1 + k)) (byAll ds) j6.symm
            rw [show p + 1 + k + (b - (p + 1 + k)) = b by omega] at z
            rw [byD, j4, ← c5]
            exact z
        split at e
        · cases e
        · rename_i c3 c4 c5 c6
          obtain ⟨rfl, _, es, rfl, j3, j4, j5⟩ := rdS_ok (by omega) e
          have lx : (⟨([] ++ es).toArray⟩ : Str).length = w.toNat := by simp [Str.length, j3]
          have hx : isP n (.str ⟨([] ++ es).toArray⟩) = true := by
            rw [isP_flat (by intro ds z; cases z), flatP, strP, lx, decide_eq_true (by omega), decide_eq_true (by omega)]
            simpa using j4
          refine ⟨hx, ?_⟩
          have z := tk w.toNat (strB ⟨([] ++ es).toArray⟩) (by rw [j5, strB]; simp)
          rw [byD, lx]
          have c7 : s = 5 := by
            have : ¬ 6 < s := fun z => c2 (.inl z)
            omega
          rw [c7] at z
          exact z
  intro n
  induction n with
  | zero => exact fun p d b => step 0 p d b fun m z => nomatch z
  | succ n ih => exact fun p d b => step (n + 1) p d b fun m z => by cases z; exact ih
end KQ
set_option Elab.async false
set_option maxRecDepth 100000
set_option maxHeartbeats 4000000
namespace KQ
open PySem PySem.Spec PyProof.Rows L2
local macro_rules | `(tactic| trivial) => `(tactic| repeat (first | refine sl_go (by (first | assumption | exact upd_same | (rw [upd_ne (by first | assumption | exact Ne.symm (by assumption))]; first | assumption | exact upd_same | (rw [upd_ne (by first | assumption | exact Ne.symm (by assumption))]; first | assumption | exact upd_same)))) ?_ | (unfold tNoPart; refine sl_go (by (first | assumption | exact upd_same | (rw [upd_ne (by first | assumption | exact Ne.symm (by assumption))]; first | assumption | exact upd_same | (rw [upd_ne (by first | assumption | exact Ne.symm (by assumption))]; first | assumption | exact upd_same)))) ?_) | refine cat_go (by (first | assumption | exact upd_same | (rw [upd_ne (by first | assumption | exact Ne.symm (by assumption))]; first | assumption | exact upd_same | (rw [upd_ne (by first | assumption | exact Ne.symm (by assumption))]; first | assumption | exact upd_same)))) (by (first | assumption | exact upd_same | (rw [upd_ne (by first | assumption | exact Ne.symm (by assumption))]; first | assumption | exact upd_same | (rw [upd_ne (by first | assumption | exact Ne.symm (by assumption))]; first | assumption | exact upd_same)))) ?_ ?_ | (apply And.intro; focus (first | rfl | assumption | exact upd_same | exact SqL.of (by (first | assumption | exact upd_same | (rw [upd_ne (by first | assumption | exact Ne.symm (by assumption))]; first | assumption | exact upd_same | (rw [upd_ne (by first | assumption | exact Ne.symm (by assumption))]; first | assumption | exact upd_same)))) | exact SqT.of (by (first | assumption | exact upd_same | (rw [upd_ne (by first | assumption | exact Ne.symm (by assumption))]; first | assumption | exact upd_same | (rw [upd_ne (by first | assumption | exact Ne.symm (by assumption))]; first | assumption | exact upd_same)))) | exact Or.inl (SqL.of (by (first | assumption | exact upd_same | (rw [upd_ne (by first | assumption | exact Ne.symm (by assumption))]; first | assumption | exact upd_same | (rw [upd_ne (by first | assumption | exact Ne.symm (by assumption))]; first | assumption | exact upd_same))))) | exact Or.inr (SqT.of (by (first | assumption | exact upd_same | (rw [upd_ne (by first | assumption | exact Ne.symm (by assumption))]; first | assumption | exact upd_same | (rw [upd_ne (by first | assumption | exact Ne.symm (by assumption))]; first | assumption | exact upd_same))))) | exact Or.inl ⟨rfl, _, SqL.of (by (first | assumption | exact upd_same | (rw [upd_ne (by first | assumption | exact Ne.symm (by assumption))]; first | assumption | exact upd_same | (rw [upd_ne (by first | assumption | exact Ne.symm (by assumption))]; first | assumption | exact upd_same))))⟩ | (first | assumption | exact upd_same | (rw [upd_ne (by first | assumption | exact Ne.symm (by assumption))]; first | assumption | exact upd_same | (rw [upd_ne (by first | assumption | exact Ne.symm (by assumption))]; first | assumption | exact upd_same))) | decide | exact Nat.le_of_ble_eq_true rfl | omega | (show ∃ xs, SqL _ _ _ xs; exact ⟨_, SqL.of (by (first | assumption | exact upd_same | (rw [upd_ne (by first | assumption | exact Ne.symm (by assumption))]; first | assumption | exact upd_same | (rw [upd_ne (by first | assumption | exact Ne.symm (by assumption))]; first | assumption | exact upd_same))))⟩) | (show ∃ xs, SqT _ _ _ xs; exact ⟨_, SqT.of (by (first | assumption | exact upd_same | (rw [upd_ne (by first | assumption | exact Ne.symm (by assumption))]; first | assumption | exact upd_same | (rw [upd_ne (by first | assumption | exact Ne.symm (by assumption))]; first | assumption | exact upd_same))))⟩) | exact DGet.k (k := Sum.inl _) (by (first | assumption | exact upd_same | (rw [upd_ne (by first | assumption | exact Ne.symm (by assumption))]; first | assumption | exact upd_same | (rw [upd_ne (by first | assumption | exact Ne.symm (by assumption))]; first | assumption | exact upd_same)))) | (show V.int _ = kV (Sum.inl _); rfl) | (show ∃ z, V.str _ = V.str z; exact ⟨_, rfl⟩) | exact Or.inl ⟨by (first | decide | omega), by (first | decide | omega)⟩ | exact Or.inr ⟨by (first | decide | omega), by (first | decide | omega)⟩ | exact ⟨by (first | decide | omega), by (first | decide | omega)⟩ | exact ⟨by decide, by decide, by decide⟩ | exact L2.ClsV.ty _ | exact Dt.ty (by assumption) | exact Dt.kint (by assumption) | exact Dt.kbool (by assumption) | exact Dt.ktuple (by assumption) | exact Dt.klist (by assumption) | exact Dt.kstr (by assumption))) | (apply Exists.intro; apply And.intro; focus (first | rfl | assumption | exact upd_same | exact SqL.of (by (first | assumption | exact upd_same | (rw [upd_ne (by first | assumption | exact Ne.symm (by assumption))]; first | assumption | exact upd_same | (rw [upd_ne (by first | assumption | exact Ne.symm (by assumption))]; first | assumption | exact upd_same)))) | exact SqT.of (by (first | assumption | exact upd_same | (rw [upd_ne (by first | assumption | exact Ne.symm (by assumption))]; first | assumption | exact upd_same | (rw [upd_ne (by first | assumption | exact Ne.symm (by assumption))]; first | assumption | exact upd_same)))) | exact Or.inl (SqL.of (by (first | assumption | exact upd_same | (rw [upd_ne (by first | assumption | exact Ne.symm (by assumption))]; first | assumption | exact upd_same | (rw [upd_ne (by first | assumption | exact Ne.symm (by assumption))]; first | assumption | exact upd_same))))) | exact Or.inr (SqT.of (by (first | assumption | exact upd_same | (rw [upd_ne (by first | assumption | exact Ne.symm (by assumption))]; first | assumption | exact upd_same | (rw [upd_ne (by first | assumption | exact Ne.symm (by assumption))]; first | assumption | exact upd_same))))) | exact Or.inl ⟨rfl, _, SqL.of (by (first | assumption | exact upd_same | (rw [upd_ne (by first | assumption | exact Ne.symm (by assumption))]; first | assumption | exact upd_same | (rw [upd_ne (by first | assumption | exact Ne.symm (by assumption))]; first | assumption | exact upd_same))))⟩ | (first | assumption | exact upd_same | (rw [upd_ne (by first | assumption | exact Ne.symm (by assumption))]; first | assumption | exact upd_same | (rw [upd_ne (by first | assumption | exact Ne.symm (by assumption))]; first | assumption | exact upd_same))) | decide | exact Nat.le_of_ble_eq_true rfl | omega | (show ∃ xs, SqL _ _ _ xs; exact ⟨_, SqL.of (by (first | assumption | exact upd_same | (rw [upd_ne (by first | assumption | exact Ne.symm (by assumption))]; first | assumption | exact upd_same | (rw [upd_ne (by first | assumption | exact Ne.symm (by assumption))]; first | assumption | exact upd_same))))⟩) | (show ∃ xs, SqT _ _ _ xs; exact ⟨_, SqT.of (by (first | assumption | exact upd_same | (rw [upd_ne (by first | assumption | exact Ne.symm (by assumption))]; first | assumption | exact upd_same | (rw [upd_ne (by first | assumption | exact Ne.symm (by assumption))]; first | assumption | exact upd_same))))⟩) | exact DGet.k (k := Sum.inl _) (by (first | assumption | exact upd_same | (rw [upd_ne (by first | assumption | exact Ne.symm (by assumption))]; first | assumption | exact upd_same | (rw [upd_ne (by first | assumption | exact Ne.symm (by assumption))]; first | assumption | exact upd_same)))) | (show V.int _ = kV (Sum.inl _); rfl) | (show ∃ z, V.str _ = V.str z; exact ⟨_, rfl⟩) | exact Or.inl ⟨by (first | decide | omega), by (first | decide | omega)⟩ | exact Or.inr ⟨by (first | decide | omega), by (first | decide | omega)⟩ | exact ⟨by (first | decide | omega), by (first | decide | omega)⟩ | exact ⟨by decide, by decide, by decide⟩ | exact L2.ClsV.ty _ | exact Dt.ty (by assumption) | exact Dt.kint (by assumption) | exact Dt.kbool (by assumption) | exact Dt.ktuple (by assumption) | exact Dt.klist (by assumption) | exact Dt.kstr (by assumption))) | (apply Exists.intro; apply Exists.intro; apply And.intro; focus (first | rfl | assumption | exact upd_same | exact SqL.of (by (first | assumption | exact upd_same | (rw [upd_ne (by first | assumption | exact Ne.symm (by assumption))]; first | assumption | exact upd_same | (rw [upd_ne (by first | assumption | exact Ne.symm (by assumption))]; first | assumption | exact upd_same)))) | exact SqT.of (by (first | assumption | exact upd_same | (rw [upd_ne (by first | assumption | exact Ne.symm (by assumption))]; first | assumption | exact upd_same | (rw [upd_ne (by first | assumption | exact Ne.symm (by assumption))]; first | assumption | exact upd_same)))) | exact Or.inl (SqL.of (by (first | assumption | exact upd_same | (rw [upd_ne (by first | assumption | exact Ne.symm (by assumption))]; first | assumption | exact upd_same | (rw [upd_ne (by first | assumption | exact Ne.symm (by assumption))]; first | assumption | exact upd_same))))) | exact Or.inr (SqT.of (by (first | assumption | exact upd_same | (rw [upd_ne (by first | assumption | exact Ne.symm (by assumption))]; first | assumption | exact upd_same | (rw [upd_ne (by first | assumption | exact Ne.symm (by assumption))]; first | assumption | exact upd_same))))) | exact Or.inl ⟨rfl, _, SqL.of (by (first | assumption | exact upd_same | (rw [upd_ne (by first | assumption | exact Ne.symm (by assumption))]; first | assumption | exact upd_same | (rw [upd_ne (by first | assumption | exact Ne.symm (by assumption))]; first | assumption | exact upd_same))))⟩ | (first | assumption | exact upd_same | (rw [upd_ne (by first | assumption | exact Ne.symm (by assumption))]; first | assumption | exact upd_same | (rw [upd_ne (by first | assumption | exact Ne.symm (by assumption))]; first | assumption | exact upd_same))) | decide | exact Nat.le_of_ble_eq_true rfl | omega | (show ∃ xs, SqL _ _ _ xs; exact ⟨_, SqL.of (by (first | assumption | exact upd_same | (rw [upd_ne (by first | assumption | exact Ne.symm (by assumption))]; first | assumption | exact upd_same | (rw [upd_ne (by first | assumption | exact Ne.symm (by assumption))]; first | assumption | exact upd_same))))⟩) | (show ∃ xs, SqT _ _ _ xs; exact ⟨_, SqT.of (by (first | assumption | exact upd_same | (rw [upd_ne (by first | assumption | exact Ne.symm (by assumption))]; first | assumption | exact upd_same | (rw [upd_ne (by first | assumption | exact Ne.symm (by assumption))]; first | assumption | exact upd_same))))⟩) | exact DGet.k (k := Sum.inl _) (by (first | assumption | exact upd_same | (rw [upd_ne (by first | assumption | exact Ne.symm (by assumption))]; first | assumption | exact upd_same | (rw [upd_ne (by first | assumption | exact Ne.symm (by assumption))]; first | assumption | exact upd_same)))) | (show V.int _ = kV (Sum.inl _); rfl) | (show ∃ z, V.str _ = V.str z; exact ⟨_, rfl⟩) | exact Or.inl ⟨by (first | decide | omega), by (first | decide | omega)⟩ | exact Or.inr ⟨by (first | decide | omega), by (first | decide | omega)⟩ | exact ⟨by (first | decide | omega), by (first | decide | omega)⟩ | exact ⟨by decide, by decide, by decide⟩ | exact L2.ClsV.ty _ | exact Dt.ty (by assumption) | exact Dt.kint (by assumption) | exact Dt.kbool (by assumption) | exact Dt.ktuple (by assumption) | exact Dt.klist (by assumption) | exact Dt.kstr (by assumption))) | (apply Exists.intro; apply Exists.intro; apply Exists.intro; apply And.intro; focus (first | rfl | assumption | exact upd_same | exact SqL.of (by (first | assumption | exact upd_same | (rw [upd_ne (by first | assumption | exact Ne.symm (by assumption))]; first | assumption | exact upd_same | (rw [upd_ne (by first | assumption | exact Ne.symm (by assumption))]; first | assumption | exact upd_same)))) | exact SqT.of (by (first | assumption | exact upd_same | (rw [upd_ne (by first | assumption | exact Ne.symm (by assumption))]; first | assumption | exact upd_same | (rw [upd_ne (by first | assumption | exact Ne.symm (by assumption))]; first | assumption | exact upd_same)))) | exact Or.inl (SqL.of (by (first | assumption | exact upd_same | (rw [upd_ne (by first | assumption | exact Ne.symm (by assumption))]; first | assumption | exact upd_same | (rw [upd_ne (by first | assumption | exact Ne.symm (by assumption))]; first | assumption | exact upd_same))))) | exact Or.inr (SqT.of (by (first | assumption | exact upd_same | (rw [upd_ne (by first | assumption | exact Ne.symm (by assumption))]; first | assumption | exact upd_same | (rw [upd_ne (by first | assumption | exact Ne.symm (by assumption))]; first | assumption | exact upd_same))))) | exact Or.inl ⟨rfl, _, SqL.of (by (first | assumption | exact upd_same | (rw [upd_ne (by first | assumption | exact Ne.symm (by assumption))]; first | assumption | exact upd_same | (rw [upd_ne (by first | assumption | exact Ne.symm (by assumption))]; first | assumption | exact upd_same))))⟩ | (first | assumption | exact upd_same | (rw [upd_ne (by first | assumption | exact Ne.symm (by assumption))]; first | assumption | exact upd_same | (rw [upd_ne (by first | assumption | exact Ne.symm (by assumption))]; first | assumption | exact upd_same))) | decide | exact Nat.le_of_ble_eq_true rfl | omega | (show ∃ xs, SqL _ _ _ xs; exact ⟨_, SqL.of (by (first | assumption | exact upd_same | (rw [upd_ne (by first | assumption | exact Ne.symm (by assumption))]; first | assumption | exact upd_same | (rw [upd_ne (by first | assumption | exact Ne.symm (by assumption))]; first | assumption | exact upd_same))))⟩) | (show ∃ xs, SqT _ _ _ xs; exact ⟨_, SqT.of (by (first | assumption | exact upd_same | (rw [upd_ne (by first | assumption | exact Ne.symm (by assumption))]; first | assumption | exact upd_same | (rw [upd_ne (by first | assumption | exact Ne.symm (by assumption))]; first | assumption | exact upd_same))))⟩) | exact DGet.k (k := Sum.inl _) (by (first | assumption | exact upd_same | (rw [upd_ne (by first | assumption | exact Ne.symm (by assumption))]; first | assumption | exact upd_same | (rw [upd_ne (by first | assumption | exact Ne.symm (by assumption))]; first | assumption | exact upd_same)))) | (show V.int _ = kV (Sum.inl _); rfl) | (show ∃ z, V.str _ = V.str z; exact ⟨_, rfl⟩) | exact Or.inl ⟨by (first | decide | omega), by (first | decide | omega)⟩ | exact Or.inr ⟨by (first | decide | omega), by (first | decide | omega)⟩ | exact ⟨by (first | decide | omega), by (first | decide | omega)⟩ | exact ⟨by decide, by decide, by decide⟩ | exact L2.ClsV.ty _ | exact Dt.ty (by assumption) | exact Dt.kint (by assumption) | exact Dt.kbool (by assumption) | exact Dt.ktuple (by assumption) | exact Dt.klist (by assumption) | exact Dt.kstr (by assumption))) | (apply Exists.intro; apply Exists.intro; apply Exists.intro; apply Exists.intro; apply And.intro; focus (first | rfl | assumption | exact upd_same | exact SqL.of (by (first | assumption | exact upd_same | (rw [upd_ne (by first | assumption | exact Ne.symm (by assumption))]; first | assumption | exact upd_same | (rw [upd_ne (by first | assumption | exact Ne.symm (by assumption))]; first | assumption | exact upd_same)))) | exact SqT.of (by (first | assumption | exact upd_same | (rw [upd_ne (by first | assumption | exact Ne.symm (by assumption))]; first | assumption | exact upd_same | (rw [upd_ne (by first | assumption | exact Ne.symm (by assumption))]; first | assumption | exact upd_same)))) | exact Or.inl (SqL.of (by (first | assumption | exact upd_same | (rw [upd_ne (by first | assumption | exact Ne.symm (by assumption))]; first | assumption | exact upd_same | (rw [upd_ne (by first | assumption | exact Ne.symm (by assumption))]; first | assumption | exact upd_same))))) | exact Or.inr (SqT.of (by (first | assumption | exact upd_same | (rw [upd_ne (by first | assumption | exact Ne.symm (by assumption))]; first | assumption | exact upd_same | (rw [upd_ne (by first | assumption | exact Ne.symm (by assumption))]; first | assumption | exact upd_same))))) | exact Or.inl ⟨rfl, _, SqL.of (by (first | assumption | exact upd_same | (rw [upd_ne (by first | assumption | exact Ne.symm (by assumption))]; first | assumption | exact upd_same | (rw [upd_ne (by first | assumption | exact Ne.symm (by assumption))]; first | assumption | exact upd_same))))⟩ | (first | assumption | exact upd_same | (rw [upd_ne (by first | assumption | exact Ne.symm (by assumption))]; first | assumption | exact upd_same | (rw [upd_ne (by first | assumption | exact Ne.symm (by assumption))]; first | assumption | exact upd_same))) | decide | exact Nat.le_of_ble_eq_true rfl | omega | (show ∃ xs, SqL _ _ _ xs; exact ⟨_, SqL.of (by (first | assumption | exact upd_same | (rw [upd_ne (by first | assumption | exact Ne.symm (by assumption))]; first | assumption | exact upd_same | (rw [upd_ne (by first | assumption | exact Ne.symm (by assumption))]; first | assumption | exact upd_same))))⟩) | (show ∃ xs, SqT _ _ _ xs; exact ⟨_, SqT.of (by (first | assumption | exact upd_same | (rw [upd_ne (by first | assumption | exact Ne.symm (by assumption))]; first | assumption | exact upd_same | (rw [upd_ne (by first | assumption | exact Ne.symm (by assumption))]; first | assumption | exact upd_same))))⟩) | exact DGet.k (k := Sum.inl _) (by (first | assumption | exact upd_same | (rw [upd_ne (by first | assumption | exact Ne.symm (by assumption))]; first | assumption | exact upd_same | (rw [upd_ne (by first | assumption | exact Ne.symm (by assumption))]; first | assumption | exact upd_same)))) | (show V.int _ = kV (Sum.inl _); rfl) | (show ∃ z, V.str _ = V.str z; exact ⟨_, rfl⟩) | exact Or.inl ⟨by (first | decide | omega), by (first | decide | omega)⟩ | exact Or.inr ⟨by (first | decide | omega), by (first | decide | omega)⟩ | exact ⟨by (first | decide | omega), by (first | decide | omega)⟩ | exact ⟨by decide, by decide, by decide⟩ | exact L2.ClsV.ty _ | exact Dt.ty (by assumption) | exact Dt.kint (by assumption) | exact Dt.kbool (by assumption) | exact Dt.ktuple (by assumption) | exact Dt.klist (by assumption) | exact Dt.kstr (by assumption))) | (apply Exists.intro; apply Exists.intro; apply Exists.intro; apply Exists.intro; apply Exists.intro; apply And.intro; focus (first | rfl | assumption | exact upd_same | exact SqL.of (by (first | assumption | exact upd_same | (rw [upd_ne (by first | assumption | exact Ne.symm (by assumption))]; first | assumption | exact upd_same | (rw [upd_ne (by first | assumption | exact Ne.symm (by assumption))]; first | assumption | exact upd_same)))) | exact SqT.of (by (first | assumption | exact upd_same | (rw [upd_ne (by first | assumption | exact Ne.symm (by assumption))]; first | assumption | exact upd_same | (rw [upd_ne (by first | assumption | exact Ne.symm (by assumption))]; first | assumption | exact upd_same)))) | exact Or.inl (SqL.of (by (first | assumption | exact upd_same | (rw [upd_ne (by first | assumption | exact Ne.symm (by assumption))]; first | assumption | exact upd_same | (rw [upd_ne (by first | assumption | exact Ne.symm (by assumption))]; first | assumption | exact upd_same))))) | exact Or.inr (SqT.of (by (first | assumption | exact upd_same | (rw [upd_ne (by first | assumption | exact Ne.symm (by assumption))]; first | assumption | exact upd_same | (rw [upd_ne (by first | assumption | exact Ne.symm (by assumption))]; first | assumption | exact upd_same))))) | exact Or.inl ⟨rfl, _, SqL.of (by (first | assumption | exact upd_same | (rw [upd_ne (by first | assumption | exact Ne.symm (by assumption))]; first | assumption | exact upd_same | (rw [upd_ne (by first | assumption | exact Ne.symm (by assumption))]; first | assumption | exact upd_same))))⟩ | (first | assumption | exact upd_same | (rw [upd_ne (by first | assumption | exact Ne.symm (by assumption))]; first | assumption | exact upd_same | (rw [upd_ne (by first | assumption | exact Ne.symm (by assumption))]; first | assumption | exact upd_same))) | decide | exact Nat.le_of_ble_eq_true rfl | omega | (show ∃ xs, SqL _ _ _ xs; exact ⟨_, SqL.of (by (first | assumption | exact upd_same | (rw [upd_ne (by first | assumption | exact Ne.symm (by assumption))]; first | assumption | exact upd_same | (rw [upd_ne (by first | assumption | exact Ne.symm (by assumption))]; first | assumption | exact upd_same))))⟩) | (show ∃ xs, SqT _ _ _ xs; exact ⟨_, SqT.of (by (first | assumption | exact upd_same | (rw [upd_ne (by first | assumption | exact Ne.symm (by assumption))]; first | assumption | exact upd_same | (rw [upd_ne (by first | assumption | exact Ne.symm (by assumption))]; first | assumption | exact upd_same))))⟩) | exact DGet.k (k := Sum.inl _) (by (first | assumption | exact upd_same | (rw [upd_ne (by first | assumption | exact Ne.symm (by assumption))]; first | assumption | exact upd_same | (rw [upd_ne (by first | assumption | exact Ne.symm (by assumption))]; first | assumption | exact upd_same)))) | (show V.int _ = kV (Sum.inl _); rfl) | (show ∃ z, V.str _ = V.str z; exact ⟨_, rfl⟩) | exact Or.inl ⟨by (first | decide | omega), by (first | decide | omega)⟩ | exact Or.inr ⟨by (first | decide | omega), by (first | decide | omega)⟩ | exact ⟨by (first | decide | omega), by (first | decide | omega)⟩ | exact ⟨by decide, by decide, by decide⟩ | exact L2.ClsV.ty _ | exact Dt.ty (by assumption) | exact Dt.kint (by assumption) | exact Dt.kbool (by assumption) | exact Dt.ktuple (by assumption) | exact Dt.klist (by assumption) | exact Dt.kstr (by assumption))) | (apply Exists.intro; apply Exists.intro; apply Exists.intro; apply Exists.intro; apply Exists.intro; apply Exists.intro; apply And.intro; focus (first | rfl | assumption | exact upd_same | exact SqL.of (by (first | assumption | exact upd_same | (rw [upd_ne (by first | assumption | exact Ne.symm (by assumption))]; first | assumption | exact upd_same | (rw [upd_ne (by first | assumption | exact Ne.symm (by assumption))]; first | assumption | exact upd_same)))) | exact SqT.of (by (first | assumption | exact upd_same | (rw [upd_ne (by first | assumption | exact Ne.symm (by assumption))]; first | assumption | exact upd_same | (rw [upd_ne (by first | assumption | exact Ne.symm (by assumption))]; first | assumption | exact upd_same)))) | exact Or.inl (SqL.of (by (first | assumption | exact upd_same | (rw [upd_ne (by first | assumption | exact Ne.symm (by assumption))]; first | assumption | exact upd_same | (rw [upd_ne (by first | assumption | exact Ne.symm (by assumption))]; first | assumption | exact upd_same))))) | exact Or.inr (SqT.of (by (first | assumption | exact upd_same | (rw [upd_ne (by first | assumption | exact Ne.symm (by assumption))]; first | assumption | exact upd_same | (rw [upd_ne (by first | assumption | exact Ne.symm (by assumption))]; first | assumption | exact upd_same))))) | exact Or.inl ⟨rfl, _, SqL.of (by (first | assumption | exact upd_same | (rw [upd_ne (by first | assumption | exact Ne.symm (by assumption))]; first | assumption | exact upd_same | (rw [upd_ne (by first | assumption | exact Ne.symm (by assumption))]; first | assumption | exact upd_same))))⟩ | (first | assumption | exact upd_same | (rw [upd_ne (by first | assumption | exact Ne.symm (by assumption))]; first | assumption | exact upd_same | (rw [upd_ne (by first | assumption | exact Ne.symm (by assumption))]; first | assumption | exact upd_same))) | decide | exact Nat.le_of_ble_eq_true rfl | omega | (show ∃ xs, SqL _ _ _ xs; exact ⟨_, SqL.of (by (first | assumption | exact upd_same | (rw [upd_ne (by first | assumption | exact Ne.symm (by assumption))]; first | assumption | exact upd_same | (rw [upd_ne (by first | assumption | exact Ne.symm (by assumption))]; first | assumption | exact upd_same))))⟩) | (show ∃ xs, SqT _ _ _ xs; exact ⟨_, SqT.of (by (first | assumption | exact upd_same | (rw [upd_ne (by first | assumption | exact Ne.symm (by assumption))]; first | assumption | exact upd_same | (rw [upd_ne (by first | assumption | exact Ne.symm (by assumption))]; first | assumption | exact upd_same))))⟩) | exact DGet.k (k := Sum.inl _) (by (first | assumption | exact upd_same | (rw [upd_ne (by first | assumption | exact Ne.symm (by assumption))]; first | assumption | exact upd_same | (rw [upd_ne (by first | assumption | exact Ne.symm (by assumption))]; first | assumption | exact upd_same)))) | (show V.int _ = kV (Sum.inl _); rfl) | (show ∃ z, V.str _ = V.str z; exact ⟨_, rfl⟩) | exact Or.inl ⟨by (first | decide | omega), by (first | decide | omega)⟩ | exact Or.inr ⟨by (first | decide | omega), by (first | decide | omega)⟩ | exact ⟨by (first | decide | omega), by (first | decide | omega)⟩ | exact ⟨by decide, by decide, by decide⟩ | exact L2.ClsV.ty _ | exact Dt.ty (by assumption) | exact Dt.kint (by assumption) | exact Dt.kbool (by assumption) | exact Dt.ktuple (by assumption) | exact Dt.klist (by assumption) | exact Dt.kstr (by assumption))) | (apply Exists.intro; apply Exists.intro; apply Exists.intro; apply Exists.intro; apply Exists.intro; apply Exists.intro; apply Exists.intro; apply And.intro; focus (first | rfl | assumption | exact upd_same | exact SqL.of (by (first | assumption | exact upd_same | (rw [upd_ne (by first | assumption | exact Ne.symm (by assumption))]; first | assumption | exact upd_same | (rw [upd_ne (by first | assumption | exact Ne.symm (by assumption))]; first | assumption | exact upd_same)))) | exact SqT.of (by (first | assumption | exact upd_same | (rw [upd_ne (by first | assumption | exact Ne.symm (by assumption))]; first | assumption | exact upd_same | (rw [upd_ne (by first | assumption | exact Ne.symm (by assumption))]; first | assumption | exact upd_same)))) | exact Or.inl (SqL.of (by (first | assumption | exact upd_same | (rw [upd_ne (by first | assumption | exact Ne.symm (by assumption))]; first | assumption | exact upd_same | (rw [upd_ne (by first | assumption | exact Ne.symm (by assumption))]; first | assumption | exact upd_same))))) | exact Or.inr (SqT.of (by (first | assumption | exact upd_same | (rw [upd_ne (by first | assumption | exact Ne.symm (by assumption))]; first | assumption | exact upd_same | (rw [upd_ne (by first | assumption | exact Ne.symm (by assumption))]; first | assumption | exact upd_same))))) | exact Or.inl ⟨rfl, _, SqL.of (by (first | assumption | exact upd_same | (rw [upd_ne (by first | assumption | exact Ne.symm (by assumption))]; first | assumption | exact upd_same | (rw [upd_ne (by first | assumption | exact Ne.symm (by assumption))]; first | assumption | exact upd_same))))⟩ | (first | assumption | exact upd_same | (rw [upd_ne (by first | assumption | exact Ne.symm (by assumption))]; first | assumption | exact upd_same | (rw [upd_ne (by first | assumption | exact Ne.symm (by assumption))]; first | assumption | exact upd_same))) | decide | exact Nat.le_of_ble_eq_true rfl | omega | (show ∃ xs, SqL _ _ _ xs; exact ⟨_, SqL.of (by (first | assumption | exact upd_same | (rw [upd_ne (by first | assumption | exact Ne.symm (by assumption))]; first | assumption | exact upd_same | (rw [upd_ne (by first | assumption | exact Ne.symm (by assumption))]; first | assumption | exact upd_same))))⟩) | (show ∃ xs, SqT _ _ _ xs; exact ⟨_, SqT.of (by (first | assumption | exact upd_same | (rw [upd_ne (by first | assumption | exact Ne.symm (by assumption))]; first | assumption | exact upd_same | (rw [upd_ne (by first | assumption | exact Ne.symm (by assumption))]; first | assumption | exact upd_same))))⟩) | exact DGet.k (k := Sum.inl _) (by (first | assumption | exact upd_same | (rw [upd_ne (by first | assumption | exact Ne.symm (by assumption))]; first | assumption | exact upd_same | (rw [upd_ne (by first | assumption | exact Ne.symm (by assumption))]; first | assumption | exact upd_same)))) | (show V.int _ = kV (Sum.inl _); rfl) | (show ∃ z, V.str _ = V.str z; exact ⟨_, rfl⟩) | exact Or.inl ⟨by (first | decide | omega), by (first | decide | omega)⟩ | exact Or.inr ⟨by (first | decide | omega), by (first | decide | omega)⟩ | exact ⟨by (first | decide | omega), by (first | decide | omega)⟩ | exact ⟨by decide, by decide, by decide⟩ | exact L2.ClsV.ty _ | exact Dt.ty (by assumption) | exact Dt.kint (by assumption) | exact Dt.kbool (by assumption) | exact Dt.ktuple (by assumption) | exact Dt.klist (by assumption) | exact Dt.kstr (by assumption))) | (apply Exists.intro; apply Exists.intro; apply Exists.intro; apply Exists.intro; apply Exists.intro; apply Exists.intro; apply Exists.intro; apply Exists.intro; apply And.intro; focus (first | rfl | assumption | exact upd_same | exact SqL.of (by (first | assumption | exact upd_same | (rw [upd_ne (by first | assumption | exact Ne.symm (by assumption))]; first | assumption | exact upd_same | (rw [upd_ne (by first | assumption | exact Ne.symm (by assumption))]; first | assumption | exact upd_same)))) | exact SqT.of (by (first | assumption | exact upd_same | (rw [upd_ne (by first | assumption | exact Ne.symm (by assumption))]; first | assumption | exact upd_same | (rw [upd_ne (by first | assumption | exact Ne.symm (by assumption))]; first | assumption | exact upd_same)))) | exact Or.inl (SqL.of (by (first | assumption | exact upd_same | (rw [upd_ne (by first | assumption | exact Ne.symm (by assumption))]; first | assumption | exact upd_same | (rw [upd_ne (by first | assumption | exact Ne.symm (by assumption))]; first | assumption | exact upd_same))))) | exact Or.inr (SqT.of (by (first | assumption | exact upd_same | (rw [upd_ne (by first | assumption | exact Ne.symm (by assumption))]; first | assumption | exact upd_same | (rw [upd_ne (by first | assumption | exact Ne.symm (by assumption))]; first | assumption | exact upd_same))))) | exact Or.inl ⟨rfl, _, SqL.of (by (first | assumption | exact upd_same | (rw [upd_ne (by first | assumption | exact Ne.symm (by assumption))]; first | assumption | exact upd_same | (rw [upd_ne (by first | assumption | exact Ne.symm (by assumption))]; first | assumption | exact upd_same))))⟩ | (first | assumption | exact upd_same | (rw [upd_ne (by first | assumption | exact Ne.symm (by assumption))]; first | assumption | exact upd_same | (rw [upd_ne (by first | assumption | exact Ne.symm (by assumption))]; first | assumption | exact upd_same))) | decide | exact Nat.le_of_ble_eq_true rfl | omega | (show ∃ xs, SqL _ _ _ xs; exact ⟨_, SqL.of (by (first | assumption | exact upd_same | (rw [upd_ne (by first | assumption | exact Ne.symm (by assumption))]; first | assumption | exact upd_same | (rw [upd_ne (by first | assumption | exact Ne.symm (by assumption))]; first | assumption | exact upd_same))))⟩) | (show ∃ xs, SqT _ _ _ xs; exact ⟨_, SqT.of (by (first | assumption | exact upd_same | (rw [upd_ne (by first | assumption | exact Ne.symm (by assumption))]; first | assumption | exact upd_same | (rw [upd_ne (by first | assumption | exact Ne.symm (by assumption))]; first | assumption | exact upd_same))))⟩) | exact DGet.k (k := Sum.inl _) (by (first | assumption | exact upd_same | (rw [upd_ne (by first | assumption | exact Ne.symm (by assumption))]; first | assumption | exact upd_same | (rw [upd_ne (by first | assumption | exact Ne.symm (by assumption))]; first | assumption | exact upd_same)))) | (show V.int _ = kV (Sum.inl _); rfl) | (show ∃ z, V.str _ = V.str z; exact ⟨_, rfl⟩) | exact Or.inl ⟨by (first | decide | omega), by (first | decide | omega)⟩ | exact Or.inr ⟨by (first | decide | omega), by (first | decide | omega)⟩ | exact ⟨by (first | decide | omega), by (first | decide | omega)⟩ | exact ⟨by decide, by decide, by decide⟩ | exact L2.ClsV.ty _ | exact Dt.ty (by assumption) | exact Dt.kint (by assumption) | exact Dt.kbool (by assumption) | exact Dt.ktuple (by assumption) | exact Dt.klist (by assumption) | exact Dt.kstr (by assumption))) | (apply Exists.intro; apply Exists.intro; apply Exists.intro; apply Exists.intro; apply Exists.intro; apply Exists.intro; apply Exists.intro; apply Exists.intro; apply Exists.intro; apply And.intro; focus (first | rfl | assumption | exact upd_same | exact SqL.of (by (first | assumption | exact upd_same | (rw [upd_ne (by first | assumption | exact Ne.symm (by assumption))]; first | assumption | exact upd_same | (rw [upd_ne (by first | assumption | exact Ne.symm (by assumption))]; first | assumption | exact upd_same)))) | exact SqT.of (by (first | assumption | exact upd_same | (rw [upd_ne (by first | assumption | exact Ne.symm (by assumption))]; first | assumption | exact upd_same | (rw [upd_ne (by first | assumption | exact Ne.symm (by assumption))]; first | assumption | exact upd_same)))) | exact Or.inl (SqL.of (by (first | assumption | exact upd_same | (rw [upd_ne (by first | assumption | exact Ne.symm (by assumption))]; first | assumption | exact upd_same | (rw [upd_ne (by first | assumption | exact Ne.symm (by assumption))]; first | assumption | exact upd_same))))) | exact Or.inr (SqT.of (by (first | assumption | exact upd_same | (rw [upd_ne (by first | assumption | exact Ne.symm (by assumption))]; first | assumption | exact upd_same | (rw [upd_ne (by first | assumption | exact Ne.symm (by assumption))]; first | assumption | exact upd_same))))) | exact Or.inl ⟨rfl, _, SqL.of (by (first | assumption | exact upd_same | (rw [upd_ne (by first | assumption | exact Ne.symm (by assumption))]; first | assumption | exact upd_same | (rw [upd_ne (by first | assumption | exact Ne.symm (by assumption))]; first | assumption | exact upd_same))))⟩ | (first | assumption | exact upd_same | (rw [upd_ne (by first | assumption | exact Ne.symm (by assumption))]; first | assumption | exact upd_same | (rw [upd_ne (by first | assumption | exact Ne.symm (by assumption))]; first | assumption | exact upd_same))) | decide | exact Nat.le_of_ble_eq_true rfl | omega | (show ∃ xs, SqL _ _ _ xs; exact ⟨_, SqL.of (by (first | assumption | exact upd_same | (rw [upd_ne (by first | assumption | exact Ne.symm (by assumption))]; first | assumption | exact upd_same | (rw [upd_ne (by first | assumption | exact Ne.symm (by assumption))]; first | assumption | exact upd_same))))⟩) | (show ∃ xs, SqT _ _ _ xs; exact ⟨_, SqT.of (by (first | assumption | exact upd_same | (rw [upd_ne (by first | assumption | exact Ne.symm (by assumption))]; first | assumption | exact upd_same | (rw [upd_ne (by first | assumption | exact Ne.symm (by assumption))]; first | assumption | exact upd_same))))⟩) | exact DGet.k (k := Sum.inl _) (by (first | assumption | exact upd_same | (rw [upd_ne (by first | assumption | exact Ne.symm (by assumption))]; first | assumption | exact upd_same | (rw [upd_ne (by first | assumption | exact Ne.symm (by assumption))]; first | assumption | exact upd_same)))) | (show V.int _ = kV (Sum.inl _); rfl) | (show ∃ z, V.str _ = V.str z; exact ⟨_, rfl⟩) | exact Or.inl ⟨by (first | decide | omega), by (first | decide | omega)⟩ | exact Or.inr ⟨by (first | decide | omega), by (first | decide | omega)⟩ | exact ⟨by (first | decide | omega), by (first | decide | omega)⟩ | exact ⟨by decide, by decide, by decide⟩ | exact L2.ClsV.ty _ | exact Dt.ty (by assumption) | exact Dt.kint (by assumption) | exact Dt.kbool (by assumption) | exact Dt.ktuple (by assumption) | exact Dt.klist (by assumption) | exact Dt.kstr (by assumption))) | refine Or.inl ⟨_, rfl, ?_⟩ | refine Or.inr ⟨_, rfl, ?_⟩ | refine Or.inr ⟨SqT.of (by (first | assumption | exact upd_same | (rw [upd_ne (by first | assumption | exact Ne.symm (by assumption))]; first | assumption | exact upd_same | (rw [upd_ne (by first | assumption | exact Ne.symm (by assumption))]; first | assumption | exact upd_same)))), SqT.of (by (first | assumption | exact upd_same | (rw [upd_ne (by first | assumption | exact Ne.symm (by assumption))]; first | assumption | exact upd_same | (rw [upd_ne (by first | assumption | exact Ne.symm (by assumption))]; first | assumption | exact upd_same)))), ?_⟩ | refine Or.inl ⟨SqL.of (by (first | assumption | exact upd_same | (rw [upd_ne (by first | assumption | exact Ne.symm (by assumption))]; first | assumption | exact upd_same | (rw [upd_ne (by first | assumption | exact Ne.symm (by assumption))]; first | assumption | exact upd_same)))), SqL.of (by (first | assumption | exact upd_same | (rw [upd_ne (by first | assumption | exact Ne.symm (by assumption))]; first | assumption | exact upd_same | (rw [upd_ne (by first | assumption | exact Ne.symm (by assumption))]; first | assumption | exact upd_same)))), ?_⟩ | refine Or.inl ⟨SqL.of (by (first | assumption | exact upd_same | (rw [upd_ne (by first | assumption | exact Ne.symm (by assumption))]; first | assumption | exact upd_same | (rw [upd_ne (by first | assumption | exact Ne.symm (by assumption))]; first | assumption | exact upd_same)))), ?_⟩ | refine Or.inr ⟨SqT.of (by (first | assumption | exact upd_same | (rw [upd_ne (by first | assumption | exact Ne.symm (by assumption))]; first | assumption | exact upd_same | (rw [upd_ne (by first | assumption | exact Ne.symm (by assumption))]; first | assumption | exact upd_same)))), ?_⟩ | refine ifT rfl ?_ | refine ifF rfl ?_))
/-- a row that is read -/
structure RowOk (H : Hp) (a : Addr) (row : List Int) : Prop where
  e : H a = some (.tup (row.map V.int))
  b : ∀ x ∈ row, 0 ≤ x ∧ x < 256
  l : row.length ≤ 100000
theorem RowOk.same {H H' : Hp} {a : Addr} {row : List Int} (r : RowOk H a row) (s : Same H H') : RowOk H' a row := ⟨s _ _ r.e, r.b, r.l⟩
theorem RowOk.at_ {H : Hp} {a : Addr} {row : List Int} (_ : RowOk H a row) {p : Nat} {b : Int} (h : row[p]? = some b) : atI (row.map V.int) (p : Int) = some (.int b) := atI_nat (by rw [List.getElem?_map, h]; rfl)
abbrev BadAt (CB : Addr) (H : Hp) (E : XK) (q : Nat) : Prop := ∀ d H', Same H H' → H d = none → H' d = some (.xd [("place", .int (q : Nat))]) → E (.ref CB) (some d) H'
def tells (CB : Addr) (H : Hp) (Q : VK) (E : XK) : Res → Prop
  | .bad q => BadAt CB H E q
  | .ok d b => ∀ T v H', Same H H' → H' T = some (.tup [v, .int (b : Nat)]) → Rp (fun a => H a ≠ none) H' v d → Q (.ref T) H'
theorem tells_same {CB : Addr} {H H1 : Hp} {Q : VK} {E : XK} {r : Res} (t : tells CB H Q E r) (s : Same H H1) : tells CB H1 Q E r := by
  cases r with
  | bad q => exact fun d H' s' n e => t d H' (s.trans s') (s.free n) e
  | ok d b => exact fun T v H' s' e r => t T v H' (s.trans s') e (r.kp Kp.refl fun a o _ n z => n (fun y => by cases q : H a with | none => exact z q | some o => rw [s _ _ q] at y; cases y))
def spRdW (CB : Addr) : Sp := fun vs H Q E => ∃ (a : Addr) (p : Nat) (row : List Int), vs = [.ref a, .int (p : Int)] ∧ RowOk H a row ∧ p ≤ row.length ∧ (rdR true (row.drop p) = none → BadAt CB H E p) ∧
  ∀ w k, rdR true (row.drop p) = some (w, k) → ∀ T H', Same H H' → H' T = some (.tup [.int w, .int ((p + k : Nat) : Int)]) → Q (.ref T) H'
def spSign : Sp := fun vs H Q _ => ∃ c : Int, vs = [.int c] ∧ sgn c = true ∧ Q (.str ⟨#[c.toNat]⟩) H
def spRdS (CB : Addr) : Sp := fun vs H Q E => ∃ (a : Addr) (p m : Nat) (row : List Int), vs = [.ref a, .int (p : Int), .int (m : Int)] ∧ RowOk H a row ∧ p ≤ row.length ∧ m ≤ 20 ∧ tells CB H Q E (rdS row m p [])
def spRdI (CB : Addr) (n : Nat) : Sp := fun vs H Q E => ∃ (a : Addr) (p m k : Nat) (row : List Int), vs = [.ref a, .int (p : Int), .int (m : Int), .int (k : Int)] ∧ k ≤ n ∧ RowOk H a row ∧ p ≤ row.length ∧ tells CB H Q E (rdI (rdP row k) m p [])
def spRdP (CB : Addr) (n : Nat) : Sp := fun vs H Q E => ∃ (a : Addr) (p k : Nat) (row : List Int), vs = [.ref a, .int (p : Int), .int (k : Int)] ∧ k ≤ n ∧ RowOk H a row ∧ p ≤ row.length ∧ tells CB H Q E (rdP row k p)
section
variable {P : Program} {w : World} {K : PySem.W.Frag} {mg : Str → Option Value} {base : Heap} {t1 t2 t3 t4 : Tok} {CB : Addr}
theorem d_sign_of (F : FunAt K mg "sign_of" s_sign_of) (g_FIRST_SIGN : mg "FIRST_SIGN" = some (.int 32 t1)) (g_BARRED_SIGN : mg "BARRED_SIGN" = some (.int 37 t2)) (g_LOW_SIGNS : mg "LOW_SIGNS" = some (.str (Str.ofString " !\"#$") t3)) (g_HIGH_SIGNS : mg "HIGH_SIGNS" = some (.str (Str.ofString "&'()*+,-./0123456789:;<=>?@ABCDEFGHIJKLMNOPQRSTUVWXYZ[\\]^_`abcdefghijklmnopqrstuvwxyz{|}~") t4)) : Has P w K mg base 1 "sign_of" ["number"] spSign := by
  refine mk_has F sc_sign_of (fun _ _ _ _ _ _ us hl => match us, hl with | [_], _ => rfl) (fun vs H Q E h => ?_) fun f cdv A outer s H vs Q E hr h => ?_
  · obtain ⟨c, rfl, _⟩ := h
    rfl
  obtain ⟨c, rfl, g, k⟩ := h
  refine ⟨_, (pss_cons (ps_if (pt_cmpR op_lt (pv 0) (pe_glob (v := .int 37) rfl g_BARRED_SIGN ⟨_, rfl⟩) (nomark _))
    (pss_one (ps_ret (pe_ix ix_str (pe_glob (v := .str (Str.ofString " !\"#$")) rfl g_LOW_SIGNS ⟨_, rfl⟩) (pe_op op_sub (pv 0) (pe_glob (v := .int 32) rfl g_FIRST_SIGN ⟨_, rfl⟩)) (fun _ _ => rfl))))
    pss_nil)
    (pss_one (ps_ret (pe_ix ix_str (pe_glob (v := .str (Str.ofString "&'()*+,-./0123456789:;<=>?@ABCDEFGHIJKLMNOPQRSTUVWXYZ[\\]^_`abcdefghijklmnopqrstuvwxyz{|}~")) rfl g_HIGH_SIGNS ⟨_, rfl⟩) (pe_op op_sub (pe_op op_sub (pv 0) (pe_glob (v := .int 37) rfl g_BARRED_SIGN ⟨_, rfl⟩)) pe_int) (fun _ _ => rfl))))), ?_⟩
  simp only [sgn, Bool.and_eq_true, decide_eq_true_eq, Bool.not_eq_true', decide_eq_false_iff_not] at g
  obtain ⟨⟨g1, g2⟩, g3⟩ := g
  obtain ⟨n, rfl⟩ : ∃ n : Nat, c = (n : Int) := ⟨c.toNat, by omega⟩
  trivial
  refine ite2 (fun c => ?_) (fun c => ?_)
  · have c' := of_decide_eq_true c
    have hx : (Str.ofString " !\"#$").cps.toList[n - 32]? = some n := by
      have : ∀ m : Fin 5, (Str.ofString " !\"#$").cps.toList[m.val]? = some (m.val + 32) := by decide +kernel
      have z := this ⟨n - 32, by omega⟩
      simp only at z
      rw [z]
      congr 1
      omega
    have hz : (Str.ofString " !\"#$").length ≤ sizeLine := by rw [sizeLine_eq]; decide +kernel
    have aI : atI (Str.ofString " !\"#$").cps.toList ((n : Int) - 32) = some n := by
      rw [show (n : Int) - 32 = ((n - 32 : Nat) : Int) by omega]
      exact atI_nat hx
    trivial
    exact k
  · have c' := of_decide_eq_false (Bool.eq_false_iff.mpr c)
    have hx : (Str.ofString "&'()*+,-./0123456789:;<=>?@ABCDEFGHIJKLMNOPQRSTUVWXYZ[\\]^_`abcdefghijklmnopqrstuvwxyz{|}~").cps.toList[n - 38]? = some n := by
      have : ∀ m : Fin 89, (Str.ofString "&'()*+,-./0123456789:;<=>?@ABCDEFGHIJKLMNOPQRSTUVWXYZ[\\]^_`abcdefghijklmnopqrstuvwxyz{|}~").cps.toList[m.val]? = some (m.val + 38) := by decide +kernel
      have z := this ⟨n - 38, by omega⟩
      simp only at z
      rw [z]
      congr 1
      omega
    have hz : (Str.ofString "&'()*+,-./0123456789:;<=>?@ABCDEFGHIJKLMNOPQRSTUVWXYZ[\\]^_`abcdefghijklmnopqrstuvwxyz{|}~").length ≤ sizeLine := by rw [sizeLine_eq]; decide +kernel
    have aI : atI (Str.ofString "&'()*+,-./0123456789:;<=>?@ABCDEFGHIJKLMNOPQRSTUVWXYZ[\\]^_`abcdefghijklmnopqrstuvwxyz{|}~").cps.toList ((n : Int) - 37 - 1) = some n := by
      rw [show (n : Int) - 37 - 1 = ((n - 38 : Nat) : Int) by omega]
      exact atI_nat hx
    trivial
    exact k
theorem d_read_whole (B : Bi mg) (x_BadRow : ErrAt P w K mg base "BadRow" CB "place") (F : FunAt K mg "read_whole" s_read_whole) (g_BASE : mg "BASE" = some (.int 128 t1)) : HasX P w K mg base 3 "read_whole" ["row", "place"] (spRdW CB) := by
  refine mk_hasX F sc_read_whole (fun _ _ _ _ _ _ us hl => match us, hl with | [_, _], _ => rfl) (fun vs H Q E h => ?_) fun f cdv A outer s H vs Q E hr h => ?_
  · obtain ⟨a, p, row, rfl, _⟩ := h
    rfl
  obtain ⟨a, p, row, rfl, ro, hp, k1, k2⟩ := h
  refine ⟨_, (pss_cons (ps_set (i := 2) sc_read_whole.nd rfl (Or.inl rfl) (pv 1))
    (C8.pss_cut (ps_while (passes_of rfl) (PW.pt (pw_and (pt_cmpR op_lt (pv 2) (pe_callB call_len_seq rfl B.len PySem.boot_len (pa_cons (pv 0) pa_nil)) (nomark _)) (pw_and1 (pt_cmpR op_ge (pe_ix ix_tup (pv 0) (pv 2) (fun _ _ => rfl)) (pe_glob (v := .int 128) rfl g_BASE ⟨_, rfl⟩) (nomark _)))))
    (pss_one (ps_aug (i := 2) sc_read_whole.nd rfl (Or.inl rfl) pe_int ip_add)))
    (C8.pss_cut (ps_if (PW.pt (pw_or (pt_cmpR op_eq (pv 2) (pe_callB call_len_seq rfl B.len PySem.boot_len (pa_cons (pv 0) pa_nil)) (nomark _)) (pw_or1 (PW.pt (pw_and (pt_cmpR op_eq (pe_ix ix_tup (pv 0) (pv 2) (fun _ _ => rfl)) pe_int (nomark _)) (pw_and1 (pt_cmpR op_gt (pv 2) (pv 1) (nomark _))))))))
    (pss_one (ps_rx rfl (takes_of rfl rfl rfl rfl) x_BadRow (hr.mono (by decide)) (pa_cons (pv 1) pa_nil) rfl))
    pss_nil)
    (pss_cons (ps_set (i := 3) sc_read_whole.nd rfl (Or.inl rfl) pe_int)
    (pss_cons (ps_for (passes_of rfl) rfl (pi_tup (pe_revT (pe_slice sl_tupA (pv 0) (po_some (pv 1)) (po_some (pe_op op_add (pv 2) pe_int))))) (pg_name (i := 4) sc_read_whole.nd rfl (Or.inl rfl))
    (pss_one (ps_set (i := 3) sc_read_whole.nd rfl (Or.inl rfl) (pe_op op_add (pe_op op_mul (pv 3) (pe_glob (v := .int 128) rfl g_BASE ⟨_, rfl⟩)) (pe_op op_modN (pv 4) (pe_glob (v := .int 128) rfl g_BASE ⟨_, rfl⟩))))))
    (pss_one (ps_ret (pe_tup (pa_cons (pv 3) (pa_cons (pe_op op_add (pv 2) pe_int) pa_nil)))))))))), ?_⟩
  have ea := ro.e
  have hlen : (row.map V.int).length = row.length := List.length_map ..
  have hdl : (row.drop p).length = row.length - p := List.length_drop ..
  have hk0 := kW_le (row.drop p)
  have eq := rdR_eq true (row.drop p)
  trivial
  refine ⟨fun σ H' => H' = H ∧ σ = [some (.ref a), some (.int (p : Int)), some (.int ((p + kW (row.drop p) : Nat) : Int)), none, none], ?_, ?_⟩
  · refine while_by (fun σ H' => ∃ j, j ≤ kW (row.drop p) ∧ H' = H ∧ σ = [some (.ref a), some (.int (p : Int)), some (.int ((p + j : Nat) : Int)), none, none]) (fun σ _ => match σ[2]? with | some (some (V.int m)) => row.length - m.toNat | _ => 0) ⟨0, Nat.zero_le _, rfl, rfl⟩ ?_ ?_
    · rintro σ H1 ⟨j, hj, rfl, rfl⟩
      trivial
      refine ite2 (fun c => ?_) (fun c => ?_)
      · have c' : p + j < row.length := by have := of_decide_eq_true c; omega
        obtain ⟨b, hb⟩ : ∃ b, row[p + j]? = some b := ⟨_, List.getElem?_eq_getElem c'⟩
        have aI := ro.at_ hb
        trivial
        refine ite2 (fun c2 => ?_) (fun c2 => ?_)
        · have c2' : 128 ≤ b := of_decide_eq_true c2
          have hj2 : j < kW (row.drop p) := by
            rcases Nat.lt_or_eq_of_le hj with h | h
            · exact h
            · subst h
              have := kW_at (r := row.drop p) (b := b) (by rw [List.getElem?_drop]; exact hb)
              omega
          trivial
          refine ⟨⟨j + 1, hj2, rfl, ?_⟩, ?_⟩
          · show [some (V.ref a), some (V.int (p : Int)), some (V.int (((p + j : Nat) : Int) + 1)), none, none] = _
            rw [show ((p + j : Nat) : Int) + 1 = ((p + (j + 1) : Nat) : Int) by omega]
          · show row.length - (((p + j : Nat) : Int) + 1).toNat < row.length - ((p + j : Nat) : Int).toNat
            omega
        · have c2' : ¬ 128 ≤ b := of_decide_eq_false (Bool.eq_false_iff.mpr c2)
          have e : j = kW (row.drop p) := by
            rcases Nat.lt_or_eq_of_le hj with h | h
            · obtain ⟨b2, h1, h2⟩ := kW_lt h
              rw [List.getElem?_drop, hb] at h1
              cases h1
              exact absurd h2 c2'
            · exact h
          rw [e]
          exact ⟨rfl, rfl⟩
      · have c' : ¬ p + j < row.length := by have := of_decide_eq_false (Bool.eq_false_iff.mpr c); omega
        have e : j = kW (row.drop p) := by omega
        rw [e]
        exact ⟨rfl, rfl⟩
    · rintro σ H Q Q' hQ ⟨v2, a1, v0, a2, p', ys, a3, a4, i, j, a5, a6, b, a7, a8⟩
      refine ⟨v2, a1, v0, a2, p', ys, a3, a4, i, j, a5, a6, b, a7, ?_⟩
      revert a8
      cases b with
      | false => exact fun z => hQ _ _ z
      | true =>
        rintro ⟨v0, b1, v2, b2, p, xs, i, v, b3, b4, b5, b6, i', j', b7, b8, b, b9, b10⟩
        exact ⟨v0, b1, v2, b2, p, xs, i, v, b3, b4, b5, b6, i', j', b7, b8, b, b9, hQ _ _ b10⟩
  · rintro σ H1 ⟨rfl, rfl⟩
    have eg : (row.drop p)[kW (row.drop p)]? = row[p + kW (row.drop p)]? := List.getElem?_drop ..
    refine ⟨fun σ H' => (∃ b, rdR true (row.drop p) = some (valW ((row.drop p).take (kW (row.drop p) + 1)), kW (row.drop p) + 1) ∧ row[p + kW (row.drop p)]? = some b) ∧ H' = H1 ∧ σ = [some (.ref a), some (.int (p : Int)), some (.int ((p + kW (row.drop p) : Nat) : Int)), none, none], ?_, ?_⟩
    · trivial
      cases e0 : row[p + kW (row.drop p)]? with
      | none =>
        rw [eg, e0] at eq
        have hz : p + kW (row.drop p) = row.length := by
          have := List.getElem?_eq_none_iff.mp e0
          omega
        refine ite2 (fun c => ?_) (fun c => ?_)
        · trivial
          exact (mk_err fun d nd => k1 eq d _ (same_new0 nd) nd upd_same).2
        · refine absurd ?_ c
          rw [hlen, hz]
          exact decide_eq_true rfl
      | some b =>
        rw [eg, e0] at eq
        simp only at eq
        have hlt := (List.getElem?_eq_some_iff.mp e0).1
        have aI := ro.at_ e0
        refine ite2 (fun c => ?_) (fun c => ?_)
        · have := of_decide_eq_true c
          injection this
          omega
        trivial
        refine ite2 (fun c2 => ?_) (fun c2 => ?_)
        · have c2' : b = 0 := by
            have := of_decide_eq_true c2
            injection this
          trivial
          refine ite2 (fun c3 => ?_) (fun c3 => ?_)
          · have c3' := of_decide_eq_true c3
            rw [if_pos ⟨c2', .inl (by omega)⟩] at eq
            trivial
            exact (mk_err fun d nd => k1 eq d _ (same_new0 nd) nd upd_same).2
          · have c3' := of_decide_eq_false (Bool.eq_false_iff.mpr c3)
            rw [if_neg (fun z => by rcases z.2 with z | z; { omega }; exact nomatch z)] at eq
            trivial
            exact ⟨⟨b, eq, rfl⟩, rfl, rfl⟩
        · have c2' : b ≠ 0 := fun z => c2 (decide_eq_true (by rw [z]))
          rw [if_neg (fun z => c2' z.1)] at eq
          trivial
          exact ⟨⟨b, eq, rfl⟩, rfl, rfl⟩
    · rintro σ H2 ⟨⟨b, eq2, e0⟩, rfl, rfl⟩
      have hlt := (List.getElem?_eq_some_iff.mp e0).1
      trivial
      have ec : cutV (row.map V.int) (some (p : Int)) (some (((p + kW (row.drop p) : Nat) : Int) + 1)) = ((row.drop p).take (kW (row.drop p) + 1)).map V.int := by
        rw [show ((p + kW (row.drop p) : Nat) : Int) + 1 = ((p + kW (row.drop p) + 1 : Nat) : Int) by omega, cutV, sIx_some, sIx_some, List.length_map, Nat.min_eq_left hp, Nat.min_eq_left (by omega), show p + kW (row.drop p) + 1 - p = kW (row.drop p) + 1 by omega, List.map_take, List.map_drop]
      rw [ec]
      intro q H3 s3 eq3
      trivial
      intro p4 n4
      generalize hf : (row.drop p).take (kW (row.drop p) + 1) = figs at *
      have lf : figs.length = kW (row.drop p) + 1 := by rw [← hf, List.length_take, hdl]; omega
      have s34 := snew (o := .tup (figs.map V.int).reverse) s3 n4
      trivial
      refine for_it (walk_tup (xs := (figs.map V.int).reverse)) (fun i σ H' => ∃ v, H' = upd H3 p4 (.tup (figs.map V.int).reverse) ∧ σ = [some (.ref a), some (.int (p : Int)), some (.int ((p + kW (row.drop p) : Nat) : Int)), some (.int (valW (figs.drop (figs.length - i)))), v]) ?_ (fun i σ H' _ q => ?_) (fun i x σ H4 H5 hi q y => ?_) fun σ H4 q => ?_
      · refine ⟨none, rfl, ?_⟩
        rw [Nat.sub_zero, List.drop_length]
        rfl
      · obtain ⟨v, rfl, _⟩ := q
        exact SqT.of upd_same
      · obtain ⟨v, rfl, rfl⟩ := q
        obtain ⟨rfl, gx⟩ := y
        rw [List.length_reverse, List.length_map] at hi
        have hj : figs.length - 1 - i < figs.length := by omega
        rw [← List.map_reverse, List.getElem?_map, List.getElem?_reverse (by omega), List.getElem?_eq_getElem hj] at gx
        simp only [Option.map_some, Option.some.injEq] at gx
        subst gx
        have hv : valW (figs.drop (figs.length - (i + 1))) = valW (figs.drop (figs.length - i)) * 128 + figs[figs.length - 1 - i] % 128 := by
          rw [show figs.length - (i + 1) = figs.length - 1 - i by omega, List.drop_eq_getElem_cons hj, valW, show figs.length - 1 - i + 1 = figs.length - i by omega]
        have hm : figs[figs.length - 1 - i] % 128 = figs[figs.length - 1 - i].fmod 128 := (Int.fmod_eq_emod_of_nonneg _ (by decide)).symm
        rw [hm] at hv
        trivial
        · rw [hv]
          rfl
      · obtain ⟨v, rfl, rfl⟩ := q
        rw [List.length_reverse, List.length_map, Nat.sub_self, List.drop_zero]
        trivial
        intro T nT
        refine k2 _ _ eq2 T _ (snew s34 nT) ?_
        rw [upd_same]
        show some (HO.tup [V.int (valW figs), V.int (((p + kW (row.drop p) : Nat) : Int) + 1)]) = _
        rw [show ((p + kW (row.drop p) : Nat) : Int) + 1 = ((p + (kW (row.drop p) + 1) : Nat) : Int) by omega]
end
end KQ
set_option Elab.async false
set_option maxRecDepth 100000
set_option maxHeartbeats 4000000
namespace KQ
open PySem PySem.Spec PyProof.Rows L2
local macro_rules | `(tactic| trivial) => `(tactic| repeat (first | refine sl_go (by (first | assumption | exact upd_same | (rw [upd_ne (by first | assumption | exact Ne.symm (by assumption))]; first | assumption | exact upd_same | (rw [upd_ne (by first | assumption | exact Ne.symm (by assumption))]; first | assumption | exact upd_same)))) ?_ | (unfold tNoPart; refine sl_go (by (first | assumption | exact upd_same | (rw [upd_ne (by first | assumption | exact Ne.symm (by assumption))]; first | assumption | exact upd_same | (rw [upd_ne (by first | assumption | exact Ne.symm (by assumption))]; first | assumption | exact upd_same)))) ?_) | refine cat_go (by (first | assumption | exact upd_same | (rw [upd_ne (by first | assumption | exact Ne.symm (by assumption))]; first | assumption | exact upd_same | (rw [upd_ne (by first | assumption | exact Ne.symm (by assumption))]; first | assumption | exact upd_same)))) (by (first | assumption | exact upd_same | (rw [upd_ne (by first | assumption | exact Ne.symm (by assumption))]; first | assumption | exact upd_same | (rw [upd_ne (by first | assumption | exact Ne.symm (by assumption))]; first | assumption | exact upd_same)))) ?_ ?_ | (apply And.intro; focus (first | rfl | assumption | exact upd_same | exact SqL.of (by (first | assumption | exact upd_same | (rw [upd_ne (by first | assumption | exact Ne.symm (by assumption))]; first | assumption | exact upd_same | (rw [upd_ne (by first | assumption | exact Ne.symm (by assumption))]; first | assumption | exact upd_same)))) | exact SqT.of (by (first | assumption | exact upd_same | (rw [upd_ne (by first | assumption | exact Ne.symm (by assumption))]; first | assumption | exact upd_same | (rw [upd_ne (by first | assumption | exact Ne.symm (by assumption))]; first | assumption | exact upd_same)))) | exact Or.inl (SqL.of (by (first | assumption | exact upd_same | (rw [upd_ne (by first | assumption | exact Ne.symm (by assumption))]; first | assumption | exact upd_same | (rw [upd_ne (by first | assumption | exact Ne.symm (by assumption))]; first | assumption | exact upd_same))))) | exact Or.inr (SqT.of (by (first | assumption | exact upd_same | (rw [upd_ne (by first | assumption | exact Ne.symm (by assumption))]; first | assumption | exact upd_same | (rw [upd_ne (by first | assumption | exact Ne.symm (by assumption))]; first | assumption | exact upd_same))))) | exact Or.inl ⟨rfl, _, SqL.of (by (first | assumption | exact upd_same | (rw [upd_ne (by first | assumption | exact Ne.symm (by assumption))]; first | assumption | exact upd_same | (rw [upd_ne (by first | assumption | exact Ne.symm (by assumption))]; first | assumption | exact upd_same))))⟩ | (first | assumption | exact upd_same | (rw [upd_ne (by first | assumption | exact Ne.symm (by assumption))]; first | assumption | exact upd_same | (rw [upd_ne (by first | assumption | exact Ne.symm (by assumption))]; first | assumption | exact upd_same))) | decide | exact Nat.le_of_ble_eq_true rfl | omega | (show ∃ xs, SqL _ _ _ xs; exact ⟨_, SqL.of (by (first | assumption | exact upd_same | (rw [upd_ne (by first | assumption | exact Ne.symm (by assumption))]; first | assumption | exact upd_same | (rw [upd_ne (by first | assumption | exact Ne.symm (by assumption))]; first | assumption | exact upd_same))))⟩) | (show ∃ xs, SqT _ _ _ xs; exact ⟨_, SqT.of (by (first | assumption | exact upd_same | (rw [upd_ne (by first | assumption | exact Ne.symm (by assumption))]; first | assumption | exact upd_same | (rw [upd_ne (by first | assumption | exact Ne.symm (by assumption))]; first | assumption | exact upd_same))))⟩) | exact DGet.k (k := Sum.inl _) (by (first | assumption | exact upd_same | (rw [upd_ne (by first | assumption | exact Ne.symm (by assumption))]; first | assumption | exact upd_same | (rw [upd_ne (by first | assumption | exact Ne.symm (by assumption))]; first | assumption | exact upd_same)))) | (show V.int _ = kV (Sum.inl _); rfl) | (show ∃ z, V.str _ = V.str z; exact ⟨_, rfl⟩) | exact Or.inl ⟨by (first | decide | omega), by (first | decide | omega)⟩ | exact Or.inr ⟨by (first | decide | omega), by (first | decide | omega)⟩ | exact ⟨by (first | decide | omega), by (first | decide | omega)⟩ | exact ⟨by decide, by decide, by decide⟩ | exact L2.ClsV.ty _ | exact Dt.ty (by assumption) | exact Dt.kint (by assumption) | exact Dt.kbool (by assumption) | exact Dt.ktuple (by assumption) | exact Dt.klist (by assumption) | exact Dt.kstr (by assumption))) | (apply Exists.intro; apply And.intro; focus (first | rfl | assumption | exact upd_same | exact SqL.of (by (first | assumption | exact upd_same | (rw [upd_ne (by first | assumption | exact Ne.symm (by assumption))]; first | assumption | exact upd_same | (rw [upd_ne (by first | assumption | exact Ne.symm (by assumption))]; first | assumption | exact upd_same)))) | exact SqT.of (by (first | assumption | exact upd_same | (rw [upd_ne (by first | assumption | exact Ne.symm (by assumption))]; first | assumption | exact upd_same | (rw [upd_ne (by first | assumption | exact Ne.symm (by assumption))]; first | assumption | exact upd_same)))) | exact Or.inl (SqL.of (by (first | assumption | exact upd_same | (rw [upd_ne (by first | assumption | exact Ne.symm (by assumption))]; first | assumption | exact upd_same | (rw [upd_ne (by first | assumption | exact Ne.symm (by assumption))]; first | assumption | exact upd_same))))) | exact Or.inr (SqT.of (by (first | assumption | exact upd_same | (rw [upd_ne (by first | assumption | exact Ne.symm (by assumption))]; first | assumption | exact upd_same | (rw [upd_ne (by first | assumption | exact Ne.symm (by assumption))]; first | assumption | exact upd_same))))) | exact Or.inl ⟨rfl, _, SqL.of (by (first | assumption | exact upd_same | (rw [upd_ne (by first | assumption | exact Ne.symm (by assumption))]; first | assumption | exact upd_same | (rw [upd_ne (by first | assumption | exact Ne.symm (by assumption))]; first | assumption | exact upd_same))))⟩ | (first | assumption | exact upd_same | (rw [upd_ne (by first | assumption | exact Ne.symm (by assumption))]; first | assumption | exact upd_same | (rw [upd_ne (by first | assumption | exact Ne.symm (by assumption))]; first | assumption | exact upd_same))) | decide | exact Nat.le_of_ble_eq_true rfl | omega | (show ∃ xs, SqL _ _ _ xs; exact ⟨_, SqL.of (by (first | assumption | exact upd_same | (rw [upd_ne (by first | assumption | exact Ne.symm (by assumption))]; first | assumption | exact upd_same | (rw [upd_ne (by first | assumption | exact Ne.symm (by assumption))]; first | assumption | exact upd_same))))⟩) | (show ∃ xs, SqT _ _ _ xs; exact ⟨_, SqT.of (by (first | assumption | exact upd_same | (rw [upd_ne (by first | assumption | exact Ne.symm (by assumption))]; first | assumption | exact upd_same | (rw [upd_ne (by first | assumption | exact Ne.symm (by assumption))]; first | assumption | exact upd_same))))⟩) | exact DGet.k (k := Sum.inl _) (by (first | assumption | exact upd_same | (rw [upd_ne (by first | assumption | exact Ne.symm (by assumption))]; first | assumption | exact upd_same | (rw [upd_ne (by first | assumption | exact Ne.symm (by assumption))]; first | assumption | exact upd_same)))) | (show V.int _ = kV (Sum.inl _); rfl) | (show ∃ z, V.str _ = V.str z; exact ⟨_, rfl⟩) | exact Or.inl ⟨by (first | decide | omega), by (first | decide | omega)⟩ | exact Or.inr ⟨by (first | decide | omega), by (first | decide | omega)⟩ | exact ⟨by (first | decide | omega), by (first | decide | omega)⟩ | exact ⟨by decide, by decide, by decide⟩ | exact L2.ClsV.ty _ | exact Dt.ty (by assumption) | exact Dt.kint (by assumption) | exact Dt.kbool (by assumption) | exact Dt.ktuple (by assumption) | exact Dt.klist (by assumption) | exact Dt.kstr (by assumption))) | (apply Exists.intro; apply Exists.intro; apply And.intro; focus (first | rfl | assumption | exact upd_same | exact SqL.of (by (first | assumption | exact upd_same | (rw [upd_ne (by first | assumption | exact Ne.symm (by assumption))]; first | assumption | exact upd_same | (rw [upd_ne (by first | assumption | exact Ne.symm (by assumption))]; first | assumption | exact upd_same)))) | exact SqT.of (by (first | assumption | exact upd_same | (rw [upd_ne (by first | assumption | exact Ne.symm (by assumption))]; first | assumption | exact upd_same | (rw [upd_ne (by first | assumption | exact Ne.symm (by assumption))]; first | assumption | exact upd_same)))) | exact Or.inl (SqL.of (by (first | assumption | exact upd_same | (rw [upd_ne (by first | assumption | exact Ne.symm (by assumption))]; first | assumption | exact upd_same | (rw [upd_ne (by first | assumption | exact Ne.symm (by assumption))]; first | assumption | exact upd_same))))) | exact Or.inr (SqT.of (by (first | assumption | exact upd_same | (rw [upd_ne (by first | assumption | exact Ne.symm (by assumption))]; first | assumption | exact upd_same | (rw [upd_ne (by first | assumption | exact Ne.symm (by assumption))]; first | assumption | exact upd_same))))) | exact Or.inl ⟨rfl, _, SqL.of (by (first | assumption | exact upd_same | (rw [upd_ne (by first | assumption | exact Ne.symm (by assumption))]; first | assumption | exact upd_same | (rw [upd_ne (by first | assumption | exact Ne.symm (by assumption))]; first | assumption | exact upd_same))))⟩ | (first | assumption | exact upd_same | (rw [upd_ne (by first | assumption | exact Ne.symm (by assumption))]; first | assumption | exact upd_same | (rw [upd_ne (by first | assumption | exact Ne.symm (by assumption))]; first | assumption | exact upd_same))) | decide | exact Nat.le_of_ble_eq_true rfl | omega | (show ∃ xs, SqL _ _ _ xs; exact ⟨_, SqL.of (by (first | assumption | exact upd_same | (rw [upd_ne (by first | assumption | exact Ne.symm (by assumption))]; first | assumption | exact upd_same | (rw [upd_ne (by first | assumption | exact Ne.symm (by assumption))]; first | assumption | exact upd_same))))⟩) | (show ∃ xs, SqT _ _ _ xs; exact ⟨_, SqT.of (by (first | assumption | exact upd_same | (rw [upd_ne (by first | assumption | exact Ne.symm (by assumption))]; first | assumption | exact upd_same | (rw [upd_ne (by first | assumption | exact Ne.symm (by assumption))]; first | assumption | exact upd_same))))⟩) | exact DGet.k (k := Sum.inl _) (by (first | assumption | exact upd_same | (rw [upd_ne (by first | assumption | exact Ne.symm (by assumption))]; first | assumption | exact upd_same | (rw [upd_ne (by first | assumption | exact Ne.symm (by assumption))]; first | assumption | exact upd_same)))) | (show V.int _ = kV (Sum.inl _); rfl) | (show ∃ z, V.str _ = V.str z; exact ⟨_, rfl⟩) | exact Or.inl ⟨by (first | decide | omega), by (first | decide | omega)⟩ | exact Or.inr ⟨by (first | decide | omega), by (first | decide | omega)⟩ | exact ⟨by (first | decide | omega), by (first | decide | omega)⟩ | exact ⟨by decide, by decide, by decide⟩ | exact L2.ClsV.ty _ | exact Dt.ty (by assumption) | exact Dt.kint (by assumption) | exact Dt.kbool (by assumption) | exact Dt.ktuple (by assumption) | exact Dt.klist (by assumption) | exact Dt.kstr (by assumption))) | (apply Exists.intro; apply Exists.intro; apply Exists.intro; apply And.intro; focus (first | rfl | assumption | exact upd_same | exact SqL.of (by (first | assumption | exact upd_same | (rw [upd_ne (by first | assumption | exact Ne.symm (by assumption))]; first | assumption | exact upd_same | (rw [upd_ne (by first | assumption | exact Ne.symm (by assumption))]; first | assumption | exact upd_same)))) | exact SqT.of (by (first | assumption | exact upd_same | (rw [upd_ne (by first | assumption | exact Ne.symm (by assumption))]; first | assumption | exact upd_same | (rw [upd_ne (by first | assumption | exact Ne.symm (by assumption))]; first | assumption | exact upd_same)))) | exact Or.inl (SqL.of (by (first | assumption | exact upd_same | (rw [upd_ne (by first | assumption | exact Ne.symm (by assumption))]; first | assumption | exact upd_same | (rw [upd_ne (by first | assumption | exact Ne.symm (by assumption))]; first | assumption | exact upd_same))))) | exact Or.inr (SqT.of (by (first | assumption | exact upd_same | (rw [upd_ne (by first | assumption | exact Ne.symm (by assumption))]; first | assumption | exact upd_same | (rw [upd_ne (by first | assumption | exact Ne.symm (by assumption))]; first | assumption | exact upd_same))))) | exact Or.inl ⟨rfl, _, SqL.of (by (first | assumption | exact upd_same | (rw [upd_ne (by first | assumption | exact Ne.symm (by assumption))]; first | assumption | exact upd_same | (rw [upd_ne (by first | assumption | exact Ne.symm (by assumption))]; first | assumption | exact upd_same))))⟩ | (first | assumption | exact upd_same | (rw [upd_ne (by first | assumption | exact Ne.symm (by assumption))]; first | assumption | exact upd_same | (rw [upd_ne (by first | assumption | exact Ne.symm (by assumption))]; first | assumption | exact upd_same))) | decide | exact Nat.le_of_ble_eq_true rfl | omega | (show ∃ xs, SqL _ _ _ xs; exact ⟨_, SqL.of (by (first | assumption | exact upd_same | (rw [upd_ne (by first | assumption | exact Ne.symm (by assumption))]; first | assumption | exact upd_same | (rw [upd_ne (by first | assumption | exact Ne.symm (by assumption))]; first | assumption | exact upd_same))))⟩) | (show ∃ xs, SqT _ _ _ xs; exact ⟨_, SqT.of (by (first | assumption | exact upd_same | (rw [upd_ne (by first | assumption | exact Ne.symm (by assumption))]; first | assumption | exact upd_same | (rw [upd_ne (by first | assumption | exact Ne.symm (by assumption))]; first | assumption | exact upd_same))))⟩) | exact DGet.k (k := Sum.inl _) (by (first | assumption | exact upd_same | (rw [upd_ne (by first | assumption | exact Ne.symm (by assumption))]; first | assumption | exact upd_same | (rw [upd_ne (by first | assumption | exact Ne.symm (by assumption))]; first | assumption | exact upd_same)))) | (show V.int _ = kV (Sum.inl _); rfl) | (show ∃ z, V.str _ = V.str z; exact ⟨_, rfl⟩) | exact Or.inl ⟨by (first | decide | omega), by (first | decide | omega)⟩ | exact Or.inr ⟨by (first | decide | omega), by (first | decide | omega)⟩ | exact ⟨by (first | decide | omega), by (first | decide | omega)⟩ | exact ⟨by decide, by decide, by decide⟩ | exact L2.ClsV.ty _ | exact Dt.ty (by assumption) | exact Dt.kint (by assumption) | exact Dt.kbool (by assumption) | exact Dt.ktuple (by assumption) | exact Dt.klist (by assumption) | exact Dt.kstr (by assumption))) | (apply Exists.intro; apply Exists.intro; apply Exists.intro; apply Exists.intro; apply And.intro; focus (first | rfl | assumption | exact upd_same | exact SqL.of (by (first | assumption | exact upd_same | (rw [upd_ne (by first | assumption | exact Ne.symm (by assumption))]; first | assumption | exact upd_same | (rw [upd_ne (by first | assumption | exact Ne.symm (by assumption))]; first | assumption | exact upd_same)))) | exact SqT.of (by (first | assumption | exact upd_same | (rw [upd_ne (by first | assumption | exact Ne.symm (by assumption))]; first | assumption | exact upd_same | (rw [upd_ne (by first | assumption | exact Ne.symm (by assumption))]; first | assumption | exact upd_same)))) | exact Or.inl (SqL.of (by (first | assumption | exact upd_same | (rw [upd_ne (by first | assumption | exact Ne.symm (by assumption))]; first | assumption | exact upd_same | (rw [upd_ne (by first | assumption | exact Ne.symm (by assumption))]; first | assumption | exact upd_same))))) | exact Or.inr (SqT.of (by (first | assumption | exact upd_same | (rw [upd_ne (by first | assumption | exact Ne.symm (by assumption))]; first | assumption | exact upd_same | (rw [upd_ne (by first | assumption | exact Ne.symm (by assumption))]; first | assumption | exact upd_same))))) | exact Or.inl ⟨rfl, _, SqL.of (by (first | assumption | exact upd_same | (rw [upd_ne (by first | assumption | exact Ne.symm (by assumption))]; first | assumption | exact upd_same | (rw [upd_ne (by first | assumption | exact Ne.symm (by assumption))]; first | assumption | exact upd_same))))⟩ | (first | assumption | exact upd_same | (rw [upd_ne (by first | assumption | exact Ne.symm (by assumption))]; first | assumption | exact upd_same | (rw [upd_ne (by first | assumption | exact Ne.symm (by assumption))]; first | assumption | exact upd_same))) | decide | exact Nat.le_of_ble_eq_true rfl | omega | (show ∃ xs, SqL _ _ _ xs; exact ⟨_, SqL.of (by (first | assumption | exact upd_same | (rw [upd_ne (by first | assumption | exact Ne.symm (by assumption))]; first | assumption | exact upd_same | (rw [upd_ne (by first | assumption | exact Ne.symm (by assumption))]; first | assumption | exact upd_same))))⟩) | (show ∃ xs, SqT _ _ _ xs; exact ⟨_, SqT.of (by (first | assumption | exact upd_same | (rw [upd_ne (by first | assumption | exact Ne.symm (by assumption))]; first | assumption | exact upd_same | (rw [upd_ne (by first | assumption | exact Ne.symm (by assumption))]; first | assumption | exact upd_same))))⟩) | exact DGet.k (k := Sum.inl _) (by (first | assumption | exact upd_same | (rw [upd_ne (by first | assumption | exact Ne.symm (by assumption))]; first | assumption | exact upd_same | (rw [upd_ne (by first | assumption | exact Ne.symm (by assumption))]; first | assumption | exact upd_same)))) | (show V.int _ = kV (Sum.inl _); rfl) | (show ∃ z, V.str _ = V.str z; exact ⟨_, rfl⟩) | exact Or.inl ⟨by (first | decide | omega), by (first | decide | omega)⟩ | exact Or.inr ⟨by (first | decide | omega), by (first | decide | omega)⟩ | exact ⟨by (first | decide | omega), by (first | decide | omega)⟩ | exact ⟨by decide, by decide, by decide⟩ | exact L2.ClsV.ty _ | exact Dt.ty (by assumption) | exact Dt.kint (by assumption) | exact Dt.kbool (by assumption) | exact Dt.ktuple (by assumption) | exact Dt.klist (by assumption) | exact Dt.kstr (by assumption))) | (apply Exists.intro; apply Exists.intro; apply Exists.intro; apply Exists.intro; apply Exists.intro; apply And.intro; focus (first | rfl | assumption | exact upd_same | exact SqL.of (by (first | assumption | exact upd_same | (rw [upd_ne (by first | assumption | exact Ne.symm (by assumption))]; first | assumption | exact upd_same | (rw [upd_ne (by first | assumption | exact Ne.symm (by assumption))]; first | assumption | exact upd_same)))) | exact SqT.of (by (first | assumption | exact upd_same | (rw [upd_ne (by first | assumption | exact Ne.symm (by assumption))]; first | assumption | exact upd_same | (rw [upd_ne (by first | assumption | exact Ne.symm (by assumption))]; first | assumption | exact upd_same)))) | exact Or.inl (SqL.of (by (first | assumption | exact upd_same | (rw [upd_ne (by first | assumption | exact Ne.symm (by assumption))]; first | assumption | exact upd_same | (rw [upd_ne (by first | assumption | exact Ne.symm (by assumption))]; first | assumption | exact upd_same))))) | exact Or.inr (SqT.of (by (first | assumption | exact upd_same | (rw [upd_ne (by first | assumption | exact Ne.symm (by assumption))]; first | assumption | exact upd_same | (rw [upd_ne (by first | assumption | exact Ne.symm (by assumption))]; first | assumption | exact upd_same))))) | exact Or.inl ⟨rfl, _, SqL.of (by (first | assumption | exact upd_same | (rw [upd_ne (by first | assumption | exact Ne.symm (by assumption))]; first | assumption | exact upd_same | (rw [upd_ne (by first | assumption | exact Ne.symm (by assumption))]; first | assumption | exact upd_same))))⟩ | (first | assumption | exact upd_same | (rw [upd_ne (by first | assumption | exact Ne.symm (by assumption))]; first | assumption | exact upd_same | (rw [upd_ne (by first | assumption | exact Ne.symm (by assumption))]; first | assumption | exact upd_same))) | decide | exact Nat.le_of_ble_eq_true rfl | omega | (show ∃ xs, SqL _ _ _ xs; exact ⟨_, SqL.of (by (first | assumption | exact upd_same | (rw [upd_ne (by first | assumption | exact Ne.symm (by assumption))]; first | assumption | exact upd_same | (rw [upd_ne (by first | assumption | exact Ne.symm (by assumption))]; first | assumption | exact upd_same))))⟩) | (show ∃ xs, SqT _ _ _ xs; exact ⟨_, SqT.of (by (first | assumption | exact upd_same | (rw [upd_ne (by first | assumption | exact Ne.symm (by assumption))]; first | assumption | exact upd_same | (rw [upd_ne (by first | assumption | exact Ne.symm (by assumption))]; first | assumption | exact upd_same))))⟩) | exact DGet.k (k := Sum.inl _) (by (first | assumption | exact upd_same | (rw [upd_ne (by first | assumption | exact Ne.symm (by assumption))]; first | assumption | exact upd_same | (rw [upd_ne (by first | assumption | exact Ne.symm (by assumption))]; first | assumption | exact upd_same)))) | (show V.int _ = kV (Sum.inl _); rfl) | (show ∃ z, V.str _ = V.str z; exact ⟨_, rfl⟩) | exact Or.inl ⟨by (first | decide | omega), by (first | decide | omega)⟩ | exact Or.inr ⟨by (first | decide | omega), by (first | decide | omega)⟩ | exact ⟨by (first | decide | omega), by (first | decide | omega)⟩ | exact ⟨by decide, by decide, by decide⟩ | exact L2.ClsV.ty _ | exact Dt.ty (by assumption) | exact Dt.kint (by assumption) | exact Dt.kbool (by assumption) | exact Dt.ktuple (by assumption) | exact Dt.klist (by assumption) | exact Dt.kstr (by assumption))) | (apply Exists.intro; apply Exists.intro; apply Exists.intro; apply Exists.intro; apply Exists.intro; apply Exists.intro; apply And.intro; focus (first | rfl | assumption | exact upd_same | exact SqL.of (by (first | assumption | exact upd_same | (rw [upd_ne (by first | assumption | exact Ne.symm (by assumption))]; first | assumption | exact upd_same | (rw [upd_ne (by first | assumption | exact Ne.symm (by assumption))]; first | assumption | exact upd_same)))) | exact SqT.of (by (first | assumption | exact upd_same | (rw [upd_ne (by first | assumption | exact Ne.symm (by assumption))]; first | assumption | exact upd_same | (rw [upd_ne (by first | assumption | exact Ne.symm (by assumption))]; first | assumption | exact upd_same)))) | exact Or.inl (SqL.of (by (first | assumption | exact upd_same | (rw [upd_ne (by first | assumption | exact Ne.symm (by assumption))]; first | assumption | exact upd_same | (rw [upd_ne (by first | assumption | exact Ne.symm (by assumption))]; first | assumption | exact upd_same))))) | exact Or.inr (SqT.of (by (first | assumption | exact upd_same | (rw [upd_ne (by first | assumption | exact Ne.symm (by assumption))]; first | assumption | exact upd_same | (rw [upd_ne (by first | assumption | exact Ne.symm (by assumption))]; first | assumption | exact upd_same))))) | exact Or.inl ⟨rfl, _, SqL.of (by (first | assumption | exact upd_same | (rw [upd_ne (by first | assumption | exact Ne.symm (by assumption))]; first | assumption | exact upd_same | (rw [upd_ne (by first | assumption | exact Ne.symm (by assumption))]; first | assumption | exact upd_same))))⟩ | (first | assumption | exact upd_same | (rw [upd_ne (by first | assumption | exact Ne.symm (by assumption))]; first | assumption | exact upd_same | (rw [upd_ne (by first | assumption | exact Ne.symm (by assumption))]; first | assumption | exact upd_same))) | decide | exact Nat.le_of_ble_eq_true rfl | omega | (show ∃ xs, SqL _ _ _ xs; exact ⟨_, SqL.of (by (first | assumption | exact upd_same | (rw [upd_ne (by first | assumption | exact Ne.symm (by assumption))]; first | assumption | exact upd_same | (rw [upd_ne (by first | assumption | exact Ne.symm (by assumption))]; first | assumption | exact upd_same))))⟩) | (show ∃ xs, SqT _ _ _ xs; exact ⟨_, SqT.of (by (first | assumption | exact upd_same | (rw [upd_ne (by first | assumption | exact Ne.symm (by assumption))]; first | assumption | exact upd_same | (rw [upd_ne (by first | assumption | exact Ne.symm (by assumption))]; first | assumption | exact upd_same))))⟩) | exact DGet.k (k := Sum.inl _) (by (first | assumption | exact upd_same | (rw [upd_ne (by first | assumption | exact Ne.symm (by assumption))]; first | assumption | exact upd_same | (rw [upd_ne (by first | assumption | exact Ne.symm (by assumption))]; first | assumption | exact upd_same)))) | (show V.int _ = kV (Sum.inl _); rfl) | (show ∃ z, V.str _ = V.str z; exact ⟨_, rfl⟩) | exact Or.inl ⟨by (first | decide | omega), by (first | decide | omega)⟩ | exact Or.inr ⟨by (first | decide | omega), by (first | decide | omega)⟩ | exact ⟨by (first | decide | omega), by (first | decide | omega)⟩ | exact ⟨by decide, by decide, by decide⟩ | exact L2.ClsV.ty _ | exact Dt.ty (by assumption) | exact Dt.kint (by assumption) | exact Dt.kbool (by assumption) | exact Dt.ktuple (by assumption) | exact Dt.klist (by assumption) | exact Dt.kstr (by assumption))) | (apply Exists.intro; apply Exists.intro; apply Exists.intro; apply Exists.intro; apply Exists.intro; apply Exists.intro; apply Exists.intro; apply And.intro; focus (first | rfl | assumption | exact upd_same | exact SqL.of (by (first | assumption | exact upd_same | (rw [upd_ne (by first | assumption | exact Ne.symm (by assumption))]; first | assumption | exact upd_same | (rw [upd_ne (by first | assumption | exact Ne.symm (by assumption))]; first | assumption | exact upd_same)))) | exact SqT.of (by (first | assumption | exact upd_same | (rw [upd_ne (by first | assumption | exact Ne.symm (by assumption))]; first | assumption | exact upd_same | (rw [upd_ne (by first | assumption | exact Ne.symm (by assumption))]; first | assumption | exact upd_same)))) | exact Or.inl (SqL.of (by (first | assumption | exact upd_same | (rw [upd_ne (by first | assumption | exact Ne.symm (by assumption))]; first | assumption | exact upd_same | (rw [upd_ne (by first | assumption | exact Ne.symm (by assumption))]; first | assumption | exact upd_same))))) | exact Or.inr (SqT.of (by (first | assumption | exact upd_same | (rw [upd_ne (by first | assumption | exact Ne.symm (by assumption))]; first | assumption | exact upd_same | (rw [upd_ne (by first | assumption | exact Ne.symm (by assumption))]; first | assumption | exact upd_same))))) | exact Or.inl ⟨rfl, _, SqL.of (by (first | assumption | exact upd_same | (rw [upd_ne (by first | assumption | exact Ne.symm (by assumption))]; first | assumption | exact upd_same | (rw [upd_ne (by first | assumption | exact Ne.symm (by assumption))]; first | assumption | exact upd_same))))⟩ | (first | assumption | exact upd_same | (rw [upd_ne (by first | assumption | exact Ne.symm (by assumption))]; first | assumption | exact upd_same | (rw [upd_ne (by first | assumption | exact Ne.symm (by assumption))]; first | assumption | exact upd_same))) | decide | exact Nat.le_of_ble_eq_true rfl | omega | (show ∃ xs, SqL _ _ _ xs; exact ⟨_, SqL.of (by (first | assumption | exact upd_same | (rw [upd_ne (by first | assumption | exact Ne.symm (by assumption))]; first | assumption | exact upd_same | (rw [upd_ne (by first | assumption | exact Ne.symm (by assumption))]; first | assumption | exact upd_same))))⟩) | (show ∃ xs, SqT _ _ _ xs; exact ⟨_, SqT.of (by (first | assumption | exact upd_same | (rw [upd_ne (by first | assumption | exact Ne.symm (by assumption))]; first | assumption | exact upd_same | (rw [upd_ne (by first | assumption | exact Ne.symm (by assumption))]; first | assumption | exact upd_same))))⟩) | exact DGet.k (k := Sum.inl _) (by (first | assumption | exact upd_same | (rw [upd_ne (by first | assumption | exact Ne.symm (by assumption))]; first | assumption | exact upd_same | (rw [upd_ne (by first | assumption | exact Ne.symm (by assumption))]; first | assumption | exact upd_same)))) | (show V.int _ = kV (Sum.inl _); rfl) | (show ∃ z, V.str _ = V.str z; exact ⟨_, rfl⟩) | exact Or.inl ⟨by (first | decide | omega), by (first | decide | omega)⟩ | exact Or.inr ⟨by (first | decide | omega), by (first | decide | omega)⟩ | exact ⟨by (first | decide | omega), by (first | decide | omega)⟩ | exact ⟨by decide, by decide, by decide⟩ | exact L2.ClsV.ty _ | exact Dt.ty (by assumption) | exact Dt.kint (by assumption) | exact Dt.kbool (by assumption) | exact Dt.ktuple (by assumption) | exact Dt.klist (by assumption) | exact Dt.kstr (by assumption))) | (apply Exists.intro; apply Exists.intro; apply Exists.intro; apply Exists.intro; apply Exists.intro; apply Exists.intro; apply Exists.intro; apply Exists.intro; apply And.intro; focus (first | rfl | assumption | exact upd_same | exact SqL.of (by (first | assumption | exact upd_same | (rw [upd_ne (by first | assumption | exact Ne.symm (by assumption))]; first | assumption | exact upd_same | (rw [upd_ne (by first | assumption | exact Ne.symm (by assumption))]; first | assumption | exact upd_same)))) | exact SqT.of (by (first | assumption | exact upd_same | (rw [upd_ne (by first | assumption | exact Ne.symm (by assumption))]; first | assumption | exact upd_same | (rw [upd_ne (by first | assumption | exact Ne.symm (by assumption))]; first | assumption | exact upd_same)))) | exact Or.inl (SqL.of (by (first | assumption | exact upd_same | (rw [upd_ne (by first | assumption | exact Ne.symm (by assumption))]; first | assumption | exact upd_same | (rw [upd_ne (by first | assumption | exact Ne.symm (by assumption))]; first | assumption | exact upd_same))))) | exact Or.inr (SqT.of (by (first | assumption | exact upd_same | (rw [upd_ne (by first | assumption | exact Ne.symm (by assumption))]; first | assumption | exact upd_same | (rw [upd_ne (by first | assumption | exact Ne.symm (by assumption))]; first | assumption | exact upd_same))))) | exact Or.inl ⟨rfl, _, SqL.of (by (first | assumption | exact upd_same | (rw [upd_ne (by first | assumption | exact Ne.symm (by assumption))]; first | assumption | exact upd_same | (rw [upd_ne (by first | assumption | exact Ne.symm (by assumption))]; first | assumption | exact upd_same))))⟩ | (first | assumption | exact upd_same | (rw [upd_ne (by first | assumption | exact Ne.symm (by assumption))]; first | assumption | exact upd_same | (rw [upd_ne (by first | assumption | exact Ne.symm (by assumption))]; first | assumption | exact upd_same))) | decide | exact Nat.le_of_ble_eq_true rfl | omega | (show ∃ xs, SqL _ _ _ xs; exact ⟨_, SqL.of (by (first | assumption | exact upd_same | (rw [upd_ne (by first | assumption | exact Ne.symm (by assumption))]; first | assumption | exact upd_same | (rw [upd_ne (by first | assumption | exact Ne.symm (by assumption))]; first | assumption | exact upd_same))))⟩) | (show ∃ xs, SqT _ _ _ xs; exact ⟨_, SqT.of (by (first | assumption | exact upd_same | (rw [upd_ne (by first | assumption | exact Ne.symm (by assumption))]; first | assumption | exact upd_same | (rw [upd_ne (by first | assumption | exact Ne.symm (by assumption))]; first | assumption | exact upd_same))))⟩) | exact DGet.k (k := Sum.inl _) (by (first | assumption | exact upd_same | (rw [upd_ne (by first | assumption | exact Ne.symm (by assumption))]; first | assumption | exact upd_same | (rw [upd_ne (by first | assumption | exact Ne.symm (by assumption))]; first | assumption | exact upd_same)))) | (show V.int _ = kV (Sum.inl _); rfl) | (show ∃ z, V.str _ = V.str z; exact ⟨_, rfl⟩) | exact Or.inl ⟨by (first | decide | omega), by (first | decide | omega)⟩ | exact Or.inr ⟨by (first | decide | omega), by (first | decide | omega)⟩ | exact ⟨by (first | decide | omega), by (first | decide | omega)⟩ | exact ⟨by decide, by decide, by decide⟩ | exact L2.ClsV.ty _ | exact Dt.ty (by assumption) | exact Dt.kint (by assumption) | exact Dt.kbool (by assumption) | exact Dt.ktuple (by assumption) | exact Dt.klist (by assumption) | exact Dt.kstr (by assumption))) | (apply Exists.intro; apply Exists.intro; apply Exists.intro; apply Exists.intro; apply Exists.intro; apply Exists.intro; apply Exists.intro; apply Exists.intro; apply Exists.intro; apply And.intro; focus (first | rfl | assumption | exact upd_same | exact SqL.of (by (first | assumption | exact upd_same | (rw [upd_ne (by first | assumption | exact Ne.symm (by assumption))]; first | assumption | exact upd_same | (rw [upd_ne (by first | assumption | exact Ne.symm (by assumption))]; first | assumption | exact upd_same)))) | exact SqT.of (by (first | assumption | exact upd_same | (rw [upd_ne (by first | assumption | exact Ne.symm (by assumption))]; first | assumption | exact upd_same | (rw [upd_ne (by first | assumption | exact Ne.symm (by assumption))]; first | assumption | exact upd_same)))) | exact Or.inl (SqL.of (by (first | assumption | exact upd_same | (rw [upd_ne (by first | assumption | exact Ne.symm (by assumption))]; first | assumption | exact upd_same | (rw [upd_ne (by first | assumption | exact Ne.symm (by assumption))]; first | assumption | exact upd_same))))) | exact Or.inr (SqT.of (by (first | assumption | exact upd_same | (rw [upd_ne (by first | assumption | exact Ne.symm (by assumption))]; first | assumption | exact upd_same | (rw [upd_ne (by first | assumption | exact Ne.symm (by assumption))]; first | assumption | exact upd_same))))) | exact Or.inl ⟨rfl, _, SqL.of (by (first | assumption | exact upd_same | (rw [upd_ne (by first | assumption | exact Ne.symm (by assumption))]; first | assumption | exact upd_same | (rw [upd_ne (by first | assumption | exact Ne.symm (by assumption))]; first | assumption | exact upd_same))))⟩ | (first | assumption | exact upd_same | (rw [upd_ne (by first | assumption | exact Ne.symm (by assumption))]; first | assumption | exact upd_same | (rw [upd_ne (by first | assumption | exact Ne.symm (by assumption))]; first | assumption | exact upd_same))) | decide | exact Nat.le_of_ble_eq_true rfl | omega | (show ∃ xs, SqL _ _ _ xs; exact ⟨_, SqL.of (by (first | assumption | exact upd_same | (rw [upd_ne (by first | assumption | exact Ne.symm (by assumption))]; first | assumption | exact upd_same | (rw [upd_ne (by first | assumption | exact Ne.symm (by assumption))]; first | assumption | exact upd_same))))⟩) | (show ∃ xs, SqT _ _ _ xs; exact ⟨_, SqT.of (by (first | assumption | exact upd_same | (rw [upd_ne (by first | assumption | exact Ne.symm (by assumption))]; first | assumption | exact upd_same | (rw [upd_ne (by first | assumption | exact Ne.symm (by assumption))]; first | assumption | exact upd_same))))⟩) | exact DGet.k (k := Sum.inl _) (by (first | assumption | exact upd_same | (rw [upd_ne (by first | assumption | exact Ne.symm (by assumption))]; first | assumption | exact upd_same | (rw [upd_ne (by first | assumption | exact Ne.symm (by assumption))]; first | assumption | exact upd_same)))) | (show V.int _ = kV (Sum.inl _); rfl) | (show ∃ z, V.str _ = V.str z; exact ⟨_, rfl⟩) | exact Or.inl ⟨by (first | decide | omega), by (first | decide | omega)⟩ | exact Or.inr ⟨by (first | decide | omega), by (first | decide | omega)⟩ | exact ⟨by (first | decide | omega), by (first | decide | omega)⟩ | exact ⟨by decide, by decide, by decide⟩ | exact L2.ClsV.ty _ | exact Dt.ty (by assumption) | exact Dt.kint (by assumption) | exact Dt.kbool (by assumption) | exact Dt.ktuple (by assumption) | exact Dt.klist (by assumption) | exact Dt.kstr (by assumption))) | refine Or.inl ⟨_, rfl, ?_⟩ | refine Or.inr ⟨_, rfl, ?_⟩ | refine Or.inr ⟨SqT.of (by (first | assumption | exact upd_same | (rw [upd_ne (by first | assumption | exact Ne.symm (by assumption))]; first | assumption | exact upd_same | (rw [upd_ne (by first | assumption | exact Ne.symm (by assumption))]; first | assumption | exact upd_same)))), SqT.of (by (first | assumption | exact upd_same | (rw [upd_ne (by first | assumption | exact Ne.symm (by assumption))]; first | assumption | exact upd_same | (rw [upd_ne (by first | assumption | exact Ne.symm (by assumption))]; first | assumption | exact upd_same)))), ?_⟩ | refine Or.inl ⟨SqL.of (by (first | assumption | exact upd_same | (rw [upd_ne (by first | assumption | exact Ne.symm (by assumption))]; first | assumption | exact upd_same | (rw [upd_ne (by first | assumption | exact Ne.symm (by assumption))]; first | assumption | exact upd_same)))), SqL.of (by (first | assumption | exact upd_same | (rw [upd_ne (by first | assumption | exact Ne.symm (by assumption))]; first | assumption | exact upd_same | (rw [upd_ne (by first | assumption | exact Ne.symm (by assumption))]; first | assumption | exact upd_same)))), ?_⟩ | refine Or.inl ⟨SqL.of (by (first | assumption | exact upd_same | (rw [upd_ne (by first | assumption | exact Ne.symm (by assumption))]; first | assumption | exact upd_same | (rw [upd_ne (by first | assumption | exact Ne.symm (by assumption))]; first | assumption | exact upd_same)))), ?_⟩ | refine Or.inr ⟨SqT.of (by (first | assumption | exact upd_same | (rw [upd_ne (by first | assumption | exact Ne.symm (by assumption))]; first | assumption | exact upd_same | (rw [upd_ne (by first | assumption | exact Ne.symm (by assumption))]; first | assumption | exact upd_same)))), ?_⟩ | refine ifT rfl ?_ | refine ifF rfl ?_))
theorem joinE (cs : List Nat) : Txt.join (Str.ofString "") (cs.map fun c => (⟨#[c]⟩ : Str)) = ⟨cs.toArray⟩ := by
  have e : Str.ofString "" = Str.empty := by decide +kernel
  rw [e]
  have j := join1 cs
  have : (Txt.join Str.empty (cs.map fun c => (⟨#[c]⟩ : Str))).cps = cs.toArray := Array.ext' j
  calc Txt.join Str.empty (cs.map fun c => (⟨#[c]⟩ : Str)) = ⟨(Txt.join Str.empty (cs.map fun c => (⟨#[c]⟩ : Str))).cps⟩ := rfl
    _ = _ := by rw [this]
section
variable {P : Program} {w : World} {K : PySem.W.Frag} {mg : Str → Option Value} {base : Heap} {t1 t2 t3 t4 : Tok} {CB : Addr}
theorem d_read_signs (B : Bi mg) (x_BadRow : ErrAt P w K mg base "BadRow" CB "place") (F : FunAt K mg "read_signs" s_read_signs) (D_is_sign_number : Has P w K mg base 1 "is_sign_number" ["number"] spSgn) (D_sign_of : Has P w K mg base 1 "sign_of" ["number"] spSign) : HasX P w K mg base 3 "read_signs" ["row", "place", "many"] (spRdS CB) := by
  refine mk_hasX F sc_read_signs (fun _ _ _ _ _ _ us hl => match us, hl with | [_, _, _], _ => rfl) (fun vs H Q E h => ?_) fun f cdv A outer s H vs Q E hr h => ?_
  · obtain ⟨a, p, m, row, rfl, _⟩ := h
    rfl
  obtain ⟨a, p, m, row, rfl, ro, hp, hm, t⟩ := h
  refine ⟨_, (pss_cons (ps_set (i := 3) sc_read_signs.nd rfl (Or.inl rfl) (pe_lst pa_nil))
    (pss_cons (ps_for (passes_of rfl) rfl (pi_range2 rfl B.range (pa_cons (pv 1) (pa_cons (pe_op op_add (pv 1) (pv 2)) pa_nil))) (pg_name (i := 4) sc_read_signs.nd rfl (Or.inl rfl))
    (pss_cons (ps_if (PW.pt (pw_or (pt_cmpR op_eq (pv 4) (pe_callB call_len_seq rfl B.len PySem.boot_len (pa_cons (pv 0) pa_nil)) (nomark _)) (pw_or1 (pt_not (pt_val (pe_h D_is_sign_number (hr.mono (by decide)) rfl (pa_cons (pe_ix ix_tup (pv 0) (pv 4) (fun _ _ => rfl)) pa_nil)))))))
    (pss_one (ps_rx rfl (takes_of rfl rfl rfl rfl) x_BadRow (hr.mono (by decide)) (pa_cons (pv 4) pa_nil) rfl))
    pss_nil)
    (pss_one (ps_expr (pe_bm PySem.F.plainAttrs_list PySem.F.slot_list_append PySem.F.type_list_append mt_append (pv 3) (pa_cons (pe_h D_sign_of (hr.mono (by decide)) rfl (pa_cons (pe_ix ix_tup (pv 0) (pv 4) (fun _ _ => rfl)) pa_nil)) pa_nil))))))
    (pss_one (ps_ret (pe_tup (pa_cons (pe_join pe_str (pv 3)) (pa_cons (pe_op op_add (pv 1) (pv 2)) pa_nil))))))), ?_⟩
  have ea := ro.e
  have hlen : (row.map V.int).length = row.length := List.length_map ..
  have hl := ro.l
  trivial
  intro D nD
  have sD := same_new0 (o := .lst []) nD
  trivial
  have hn : (((p : Nat) : Int) + ((m : Nat) : Int) - ((p : Nat) : Int)).toNat = m := by omega
  refine for_it (walk_range (lo := (p : Int)) (n := (((p : Nat) : Int) + ((m : Nat) : Int) - ((p : Nat) : Int)).toNat)) (fun i σ H' => ∃ (v : Option V) (cs : List Nat), i ≤ m ∧ σ = [some (.ref a), some (.int (p : Int)), some (.int (m : Int)), some (.ref D), v] ∧ Same H H' ∧ H' D = some (.lst (cs.map fun c => V.str ⟨#[c]⟩)) ∧ cs.length = i ∧ p + i ≤ row.length ∧ rdS row m p [] = rdS row (m - i) (p + i) cs) ?_ (fun _ _ _ _ _ => True.intro) (fun i x σ H4 H5 hi q y => ?_) fun σ H4 q => ?_
  · exact ⟨none, [], Nat.zero_le _, rfl, sD, upd_same, rfl, hp, rfl⟩
  · obtain ⟨v, cs, hi', rfl, s4, eD, lc, pl, er⟩ := q
    obtain ⟨rfl, rfl⟩ := y
    rw [hn] at hi
    rw [show m - i = (m - (i + 1)) + 1 by omega, rdS] at er
    have ea4 := s4 _ _ ea
    show gName 4 (V.int (((p : Nat) : Int) + ((i : Nat) : Int))) _ _ _
    rw [show ((p : Nat) : Int) + ((i : Nat) : Int) = ((p + i : Nat) : Int) by omega]
    trivial
    cases e0 : row[p + i]? with
    | none =>
      rw [e0] at er
      rw [er] at t
      have hz : p + i = row.length := by
        have := List.getElem?_eq_none_iff.mp e0
        omega
      refine ite2 (fun c => ?_) (fun c => ?_)
      · trivial
        exact (mk_err fun d nd => t d _ (snew s4 nd) (s4.free nd) upd_same).2
      · refine absurd ?_ c
        rw [hlen, hz]
        exact decide_eq_true rfl
    | some b =>
      rw [e0] at er
      simp only at er
      have hlt := (List.getElem?_eq_some_iff.mp e0).1
      have aI := ro.at_ e0
      refine ite2 (fun c => ?_) (fun c => ?_)
      · have := of_decide_eq_true c
        injection this
        omega
      trivial
      cases g : sgn b with
      | false =>
        rw [g, if_neg (by decide)] at er
        rw [er] at t
        trivial
        exact (mk_err fun d nd => t d _ (snew s4 nd) (s4.free nd) upd_same).2
      | true =>
        rw [g, if_pos rfl] at er
        trivial
        refine ⟨by rw [sizeLine_eq, List.length_map]; omega, ?_⟩
        refine ⟨_, cs ++ [b.toNat], by omega, rfl, sput s4 nD, ?_, by simp [lc], by omega, er⟩
        rw [upd_same, List.map_append]
        rfl
  · obtain ⟨v, cs, hi', rfl, s4, eD, lc, pl, er⟩ := q
    rw [hn] at lc pl er
    rw [Nat.sub_self, rdS] at er
    rw [er] at t
    refine ⟨⟨_, rfl⟩, _, rfl, _, D, cs.map fun c => (⟨#[c]⟩ : Str), rfl, rfl, .inl (SqL.of (by rw [eD, List.map_map]; rfl)), by rw [sum_ones, List.length_map]; show _ + _ * 0 ≤ _; omega, ?_⟩
    rw [joinE]
    trivial
    intro T nT
    exact t T _ _ (snew s4 nT) upd_same (.str _)
theorem hasX_none {x : Str} {st : Stmt} {ps : List Str} {k : Nat} {sp : Sp} (F : FunAt K mg x st) (hb : BindsTo? st x ps) (no : ∀ vs H Q E, ¬ sp vs H Q E) : HasX P w K mg base k x ps sp := by
  obtain ⟨f, fd, F, m⟩ := F
  exact ⟨f, fd, ⟨fun vs H Q E h => absurd h (no vs H Q E), fun A outer s H args us vs Q E _ _ _ _ h => absurd h (no vs H Q E)⟩, m, F.kp, F.binds hb⟩
theorem items_step (B : Bi mg) (F : FunAt K mg "read_items" s_read_items) (n kk : Nat) (D_read_parcel : HasX P w K mg base kk "read_parcel" ["row", "place", "deep"] (spRdP CB n)) : HasX P w K mg base (kk + 1) "read_items" ["row", "place", "many", "deep"] (spRdI CB n) := by
  refine mk_hasX F sc_read_items (fun _ _ _ _ _ _ us hl => match us, hl with | [_, _, _, _], _ => rfl) (fun vs H Q E h => ?_) fun f cdv A outer s H vs Q E hr h => ?_
  · obtain ⟨a, p, m, k, row, rfl, _⟩ := h
    rfl
  obtain ⟨a, p, m, k, row, rfl, hk, ro, hp, t⟩ := h
  refine ⟨_, (pss_cons (ps_set (i := 4) sc_read_items.nd rfl (Or.inl rfl) (pe_lst pa_nil))
    (pss_cons (ps_set (i := 5) sc_read_items.nd rfl (Or.inl rfl) (pv 1))
    (pss_cons (ps_while (passes_of rfl) (pt_cmpR op_lt (pe_callB call_len_seq rfl B.len PySem.boot_len (pa_cons (pv 4) pa_nil)) (pv 2) (nomark _))
    (pss_cons (ps_asg (pe_hX (takes_of rfl rfl rfl rfl) D_read_parcel hr rfl (pa_cons (pv 0) (pa_cons (pv 5) (pa_cons (pv 3) pa_nil)))) (pg_tup rfl (pgs_cons (pg_name (i := 6) sc_read_items.nd rfl (Or.inl rfl)) (pgs_cons (pg_name (i := 5) sc_read_items.nd rfl (Or.inl rfl)) pgs_nil))))
    (pss_one (ps_expr (pe_bm PySem.F.plainAttrs_list PySem.F.slot_list_append PySem.F.type_list_append mt_append (pv 4) (pa_cons (pv 6) pa_nil))))))
    (pss_one (ps_ret (pe_tup (pa_cons (pe_callTy call_tuple_of rfl B.tuple (by decide +kernel) (pa_cons (pv 4) pa_nil)) (pa_cons (pv 5) pa_nil)))))))), ?_⟩
  have ea := ro.e
  have hl := ro.l
  trivial
  intro D nD
  have sD := same_new0 (o := .lst []) nD
  trivial
  refine while_by (fun σ H' => ∃ (v : Option V) (xs : List V) (ds : List PyData) (b : Nat), σ = [some (.ref a), some (.int (p : Int)), some (.int (m : Int)), some (.int (k : Int)), some (.ref D), some (.int (b : Int)), v] ∧ Same H H' ∧ H' D = some (.lst xs) ∧ RpAll (fun a => H a ≠ none ∨ a = D) H' xs ds ∧ ds.length ≤ m ∧ ds.length ≤ b ∧ b ≤ row.length ∧ rdI (rdP row k) m p [] = rdI (rdP row k) (m - ds.length) b ds) (fun _ H' => match H' D with | some (.lst xs) => m - xs.length | _ => 0) ?_ ?_ ?_
  · exact ⟨none, [], [], p, rfl, sD, upd_same, .nil, Nat.zero_le _, Nat.zero_le _, hp, rfl⟩
  · rintro σ H4 ⟨v, xs, ds, b, rfl, s4, eD, ra, h1, h2, h3, er⟩
    have la := ra.length
    trivial
    refine ite2 (fun c => ?_) (fun c => ?_)
    · have c' : xs.length < m := by have := of_decide_eq_true c; omega
      rw [show m - ds.length = (m - (ds.length + 1)) + 1 by omega, rdI] at er
      refine ⟨_, rfl, _, rfl, _, rfl, a, b, k, row, rfl, hk, ro.same s4, h3, ?_⟩
      cases e : rdP row k b with
      | bad q =>
        rw [e] at er
        rw [er] at t
        exact fun d H' s' n e => t d H' (s4.trans s') (s4.free n) e
      | ok d b' =>
        rw [e] at er
        simp only at er
        have hb := rdP_lt e
        intro T v5 H5 s5 eT rv
        have eD5 := s5 _ _ eD
        trivial
        refine ⟨by rw [sizeLine_eq]; omega, ?_⟩
        have ra5 : RpAll (fun a => H a ≠ none ∨ a = D) H5 (xs ++ [v5]) (ds ++ [d]) := (ra.to (kp_same s5)).app (.cons (rv.kp Kp.refl fun a o _ n z => n (z.elim (fun y w => by cases q : H a with | none => exact y q | some o => rw [s4 _ _ q] at w; cases w) fun y => by rw [y, eD]; exact fun z => nomatch z)) .nil)
        refine ⟨⟨_, xs ++ [v5], ds ++ [d], b', rfl, sput (s4.trans s5) nD, upd_same, ra5.to (Kp.put (.inr rfl)), by simp; omega, by simp; omega, hb.2, by rw [er]; simp⟩, ?_⟩
        rw [upd_same, eD]
        show m - (xs ++ [v5]).length < m - xs.length
        rw [List.length_append, List.length_singleton]
        omega
    · have c' : ¬ xs.length < m := by have := of_decide_eq_false (Bool.eq_false_iff.mpr c); omega
      rw [show m - ds.length = 0 by omega, rdI] at er
      rw [er] at t
      trivial
      intro l nl
      have s5 := snew (o := .tup xs) s4 nl
      trivial
      intro T nT
      refine t T _ _ (snew s5 nT) upd_same (.tup (by rw [upd_ne (fun z => by rw [← z] at nT; rw [upd_same] at nT; cases nT)]; exact upd_same) (fun z => z (s4.free nl)) ?_)
      exact (((ra.to (Kp.new nl)).to (Kp.new nT)).kp (N' := fun a => H a ≠ none) Kp.refl fun a o e n z => n (.inl z))
  · rintro σ H Q Q' hQ ⟨v4, a1, p', ys, a2, a3, v2, a4, i, j, a5, a6, b, a7, a8⟩
    exact ⟨v4, a1, p', ys, a2, a3, v2, a4, i, j, a5, a6, b, a7, hQ _ _ a8⟩
theorem parcel_step (B : Bi mg) (x_BadRow : ErrAt P w K mg base "BadRow" CB "place") (F : FunAt K mg "read_parcel" s_read_parcel) {PL : Addr} (g_PLAIN : mg "PLAIN" = some (.ref PL)) (tPL : ∀ H, SqT K H PL [.non, .bl false, .bl true])
    (g_FROM_ZERO : mg "FROM_ZERO" = some (.int 3 t1)) (g_BELOW_ZERO : mg "BELOW_ZERO" = some (.int 4 t2)) (g_TUPLE : mg "TUPLE" = some (.int 6 t3)) (g_LONGEST : mg "LONGEST" = some (.int 20 t4))
    (D_read_whole : HasX P w K mg base 3 "read_whole" ["row", "place"] (spRdW CB)) (D_read_signs : HasX P w K mg base 3 "read_signs" ["row", "place", "many"] (spRdS CB)) (n : Nat)
    (D_read_items : HasX P w K mg base (2 * n + 3) "read_items" ["row", "place", "many", "deep"] (fun vs H Q E => ∃ m, m + 1 = n ∧ spRdI CB m vs H Q E)) : HasX P w K mg base (2 * n + 4) "read_parcel" ["row", "place", "deep"] (spRdP CB n) := by
  refine mk_hasX F sc_read_parcel (fun _ _ _ _ _ _ us hl => match us, hl with | [_, _, _], _ => rfl) (fun vs H Q E h => ?_) fun f cdv A outer s H vs Q E hr h => ?_
  · obtain ⟨a, p, k, row, rfl, _⟩ := h
    rfl
  obtain ⟨a, p, k, row, rfl, hk, ro, hp, t⟩ := h
  refine ⟨_, (pss_cons (ps_if (pt_cmpR op_eq (pv 1) (pe_callB call_len_seq rfl B.len PySem.boot_len (pa_cons (pv 0) pa_nil)) (nomark _))
    (pss_one (ps_rx rfl (takes_of rfl rfl rfl rfl) x_BadRow (hr.mono (by omega)) (pa_cons (pv 1) pa_nil) rfl))
    pss_nil)
    (pss_cons (ps_set (i := 3) sc_read_parcel.nd rfl (Or.inl rfl) (pe_ix ix_tup (pv 0) (pv 1) (fun _ _ => rfl)))
    (pss_cons (ps_if (pt_cmpR op_lt (pv 3) (pe_callB call_len_seq rfl B.len PySem.boot_len (pa_cons (pe_glob (v := .ref PL) rfl g_PLAIN rfl) pa_nil)) (nomark _))
    (pss_one (ps_ret (pe_tup (pa_cons (pe_ix ix_tup (pe_glob (v := .ref PL) rfl g_PLAIN rfl) (pv 3) (fun _ _ => rfl)) (pa_cons (pe_op op_add (pv 1) pe_int) pa_nil)))))
    pss_nil)
    (C8.pss_cut (ps_if (PW.pt (pw_or (pt_cmpR op_gt (pv 3) (pe_glob (v := .int 6) rfl g_TUPLE ⟨_, rfl⟩) (nomark _)) (pw_or1 (PW.pt (pw_and (pt_cmpR op_eq (pv 3) (pe_glob (v := .int 6) rfl g_TUPLE ⟨_, rfl⟩) (nomark _)) (pw_and1 (pt_cmpR op_eq (pv 2) pe_int (nomark _))))))))
    (pss_one (ps_rx rfl (takes_of rfl rfl rfl rfl) x_BadRow (hr.mono (by omega)) (pa_cons (pv 1) pa_nil) rfl))
    pss_nil)
    (pss_cons (ps_asg (pe_hX (takes_of rfl rfl rfl rfl) D_read_whole (hr.mono (by omega)) rfl (pa_cons (pv 0) (pa_cons (pe_op op_add (pv 1) pe_int) pa_nil))) (pg_tup rfl (pgs_cons (pg_name (i := 4) sc_read_parcel.nd rfl (Or.inl rfl)) (pgs_cons (pg_name (i := 5) sc_read_parcel.nd rfl (Or.inl rfl)) pgs_nil))))
    (pss_cons (ps_if (pt_cmpR op_eq (pv 3) (pe_glob (v := .int 3) rfl g_FROM_ZERO ⟨_, rfl⟩) (nomark _))
    (pss_one (ps_ret (pe_tup (pa_cons (pv 4) (pa_cons (pv 5) pa_nil)))))
    pss_nil)
    (pss_cons (ps_if (pt_cmpR op_eq (pv 3) (pe_glob (v := .int 4) rfl g_BELOW_ZERO ⟨_, rfl⟩) (nomark _))
    (pss_one (ps_ret (pe_tup (pa_cons (pe_op op_sub (pe_un un_neg pe_int) (pv 4)) (pa_cons (pv 5) pa_nil)))))
    pss_nil)
    (pss_cons (ps_if (pt_cmpR op_eq (pv 3) (pe_glob (v := .int 6) rfl g_TUPLE ⟨_, rfl⟩) (nomark _))
    (pss_one (ps_ret (pe_hX (takes_of rfl rfl rfl rfl) D_read_items hr rfl (pa_cons (pv 0) (pa_cons (pv 5) (pa_cons (pv 4) (pa_cons (pe_op op_sub (pv 2) pe_int) pa_nil)))))))
    pss_nil)
    (pss_cons (ps_if (PW.pt (pw_or (pt_cmpR op_eq (pv 4) pe_int (nomark _)) (pw_or1 (pt_cmpR op_gt (pv 4) (pe_glob (v := .int 20) rfl g_LONGEST ⟨_, rfl⟩) (nomark _)))))
    (pss_one (ps_rx rfl (takes_of rfl rfl rfl rfl) x_BadRow (hr.mono (by omega)) (pa_cons (pe_op op_add (pv 1) pe_int) pa_nil) rfl))
    pss_nil)
    (pss_one (ps_ret (pe_hX (takes_of rfl rfl rfl rfl) D_read_signs (hr.mono (by omega)) rfl (pa_cons (pv 0) (pa_cons (pv 5) (pa_cons (pv 4) pa_nil))))))))))))))), ?_⟩
  have ea := ro.e
  have hl := ro.l
  have hlen : (row.map V.int).length = row.length := List.length_map ..
  have tP := tPL H
  have tP2 : SqL K H PL [.non, .bl false, .bl true] ∨ SqT K H PL [.non, .bl false, .bl true] := .inr tP
  rw [rdP_eq, rdQ] at t
  trivial
  cases e1 : row[p]? with
  | none =>
    rw [e1] at t
    have hz : p = row.length := by
      have := List.getElem?_eq_none_iff.mp e1
      omega
    refine ite2 (fun c => ?_) (fun c => ?_)
    · trivial
      exact (mk_err fun d nd => t d _ (same_new0 nd) nd upd_same).2
    · refine absurd ?_ c
      rw [hlen, hz]
      exact decide_eq_true rfl
  | some s1 =>
    rw [e1] at t
    simp only at t
    have hlt := (List.getElem?_eq_some_iff.mp e1).1
    have hs := ro.b s1 (List.mem_of_getElem? e1)
    have aI := ro.at_ e1
    refine ite2 (fun c => ?_) (fun c => ?_)
    · have := of_decide_eq_true c
      injection this
      omega
    trivial
    refine ite2 (fun c2 => ?_) (fun c2 => ?_)
    · have c2' : s1 < 3 := by have := of_decide_eq_true c2; simpa using this
      rw [if_pos c2'] at t
      obtain ⟨v, hv, rv⟩ : ∃ v, atI [V.non, .bl false, .bl true] s1 = some v ∧ ∀ N H', Rp N H' v (plainD s1) := by
        rcases (show s1 = 0 ∨ s1 = 1 ∨ s1 = 2 by omega) with rfl | rfl | rfl
        · exact ⟨_, rfl, fun _ _ => .non⟩
        · exact ⟨_, rfl, fun _ _ => .bl false⟩
        · exact ⟨_, rfl, fun _ _ => .bl true⟩
      trivial
      intro T nT
      exact t T v _ (same_new0 nT) upd_same (rv _ _)
    have c2' : ¬ s1 < 3 := fun z => c2 (decide_eq_true (by simpa using z))
    rw [if_neg c2', itP_none] at t
    trivial
    refine ⟨fun σ H' => H' = H ∧ σ = [some (.ref a), some (.int (p : Int)), some (.int (k : Int)), some (.int s1), none, none] ∧ ¬ (6 < s1 ∨ s1 = 6 ∧ k = 0), ?_, ?_⟩
    · by_cases cc : 6 < s1 ∨ s1 = 6 ∧ k = 0
      · rw [if_pos (by simpa using cc)] at t
        trivial
        refine ite2 (fun c3 => ?_) (fun c3 => ?_)
        · trivial
          exact (mk_err fun d nd => t d _ (same_new0 nd) nd upd_same).2
        have c3' := of_decide_eq_false (Bool.eq_false_iff.mpr c3)
        have c4 := cc.resolve_left c3'
        obtain ⟨rfl, rfl⟩ := c4
        trivial
        exact (mk_err fun d nd => t d _ (same_new0 nd) nd upd_same).2
      · trivial
        refine ite2 (fun c3 => ?_) (fun c3 => ?_)
        · exact absurd (.inl (of_decide_eq_true c3)) cc
        trivial
        refine ite2 (fun c4 => ?_) (fun c4 => ?_)
        · have c4' : s1 = 6 := by
            have := of_decide_eq_true c4
            injection this
          trivial
          refine ite2 (fun c5 => ?_) (fun c5 => ?_)
          · have c5' : k = 0 := by
              have := of_decide_eq_true c5
              injection this
              omega
            exact absurd (.inr ⟨c4', c5'⟩) cc
          · trivial
            exact cc
        · trivial
          exact cc
    rintro σ H1 ⟨rfl, rfl, cc⟩
    rw [if_neg (by simpa using cc)] at t
    refine ⟨_, rfl, _, rfl, _, _, rfl, rfl, a, p + 1, row, rfl, ro, hlt, fun e2 => ?_, fun w1 k1 e2 T2 H2 s2 eT2 => ?_⟩
    · rw [e2] at t
      exact t
    rw [e2] at t
    simp only at t
    obtain ⟨w0, _, _, _, _⟩ := rdR_inv (fun b hb => ro.b b (List.mem_of_mem_drop hb)) e2
    have hk1 := rdR_len e2
    rw [List.length_drop] at hk1
    have dV : ∀ {i j : Int}, decide (V.int i = V.int j) = true ↔ i = j := fun {i j} => ⟨fun z => by have := of_decide_eq_true z; injection this, fun z => decide_eq_true (by rw [z])⟩
    have raise1 : tells CB H1 Q E (.bad (p + 1)) → ∀ d, H2 d = none → E (.ref CB) (some d) (upd H2 d (.xd [("place", .int ((p : Int) + 1))])) := fun t d nd => t d _ (snew s2 nd) (s2.free nd) upd_same
    trivial
    refine ite2 (fun c3 => ?_) (fun c3 => ?_)
    · rw [if_pos (dV.mp c3)] at t
      trivial
      intro T nT
      exact t T _ _ (snew s2 nT) upd_same (.int w1)
    rw [if_neg (fun z => c3 (dV.mpr z))] at t
    trivial
    refine ite2 (fun c4 => ?_) (fun c4 => ?_)
    · rw [if_pos (dV.mp c4)] at t
      trivial
      intro T nT
      exact t T _ _ (snew s2 nT) upd_same (.int _)
    rw [if_neg (fun z => c4 (dV.mpr z))] at t
    trivial
    refine ite2 (fun c5 => ?_) (fun c5 => ?_)
    · have c5' := dV.mp c5
      rw [if_pos c5'] at t
      cases k with
      | zero => exact absurd (.inr ⟨c5', rfl⟩) cc
      | succ k =>
        refine ⟨_, rfl, _, rfl, _, rfl, _, rfl, _, _, rfl, rfl, n - 1, by omega, a, p + 1 + k1, w1.toNat, k, row, ?_, by omega, ro.same s2, by omega, tells_same t s2⟩
        show [V.ref a, V.int ((p + 1 + k1 : Nat) : Int), V.int w1, V.int (((k + 1 : Nat) : Int) - 1)] ++ [] = _
        rw [show ((w1.toNat : Nat) : Int) = w1 by omega, show (((k + 1 : Nat) : Int) - 1) = (k : Int) by omega]
        rfl
    rw [if_neg (fun z => c5 (dV.mpr z))] at t
    trivial
    refine ite2 (fun c6 => ?_) (fun c6 => ?_)
    · rw [if_pos (.inl (dV.mp c6))] at t
      trivial
      exact (mk_err (raise1 t)).2
    trivial
    refine ite2 (fun c7 => ?_) (fun c7 => ?_)
    · rw [if_pos (.inr (of_decide_eq_true c7))] at t
      trivial
      exact (mk_err (raise1 t)).2
    have c7' := of_decide_eq_false (Bool.eq_false_iff.mpr c7)
    rw [if_neg (fun z => z.elim (fun z => c6 (dV.mpr z)) c7')] at t
    refine ⟨_, rfl, _, rfl, _, rfl, a, p + 1 + k1, w1.toNat, row, ?_, ro.same s2, by omega, by omega, tells_same t s2⟩
    show [V.ref a, V.int ((p + 1 + k1 : Nat) : Int), V.int w1] = _
    rw [show ((w1.toNat : Nat) : Int) = w1 by omega]
theorem d_read_parcel (B : Bi mg) (x_BadRow : ErrAt P w K mg base "BadRow" CB "place") (F : FunAt K mg "read_parcel" s_read_parcel) (FI : FunAt K mg "read_items" s_read_items) {PL : Addr} (g_PLAIN : mg "PLAIN" = some (.ref PL)) (tPL : ∀ H, SqT K H PL [.non, .bl false, .bl true])
    (g_FROM_ZERO : mg "FROM_ZERO" = some (.int 3 t1)) (g_BELOW_ZERO : mg "BELOW_ZERO" = some (.int 4 t2)) (g_TUPLE : mg "TUPLE" = some (.int 6 t3)) (g_LONGEST : mg "LONGEST" = some (.int 20 t4))
    (D1 : HasX P w K mg base 3 "read_whole" ["row", "place"] (spRdW CB)) (D2 : HasX P w K mg base 3 "read_signs" ["row", "place", "many"] (spRdS CB)) : ∀ n : Nat, HasX P w K mg base (2 * n + 4) "read_parcel" ["row", "place", "deep"] (spRdP CB n)
  | 0 => parcel_step B x_BadRow F g_PLAIN tPL g_FROM_ZERO g_BELOW_ZERO g_TUPLE g_LONGEST D1 D2 0 (hasX_none FI (fun _ _ _ _ _ _ us hl => match us, hl with | [_, _, _, _], _ => rfl) fun _ _ _ _ ⟨_, e, _⟩ => nomatch e)
  | n + 1 => parcel_step B x_BadRow F g_PLAIN tPL g_FROM_ZERO g_BELOW_ZERO g_TUPLE g_LONGEST D1 D2 (n + 1) (by
      obtain ⟨f, fd, G, r⟩ := items_step B FI n (2 * n + 4) (d_read_parcel B x_BadRow F FI g_PLAIN tPL g_FROM_ZERO g_BELOW_ZERO g_TUPLE g_LONGEST D1 D2 n)
      exact ⟨f, fd, (G.mono (by omega)).imp fun _ _ _ _ ⟨m, e, q⟩ => by cases e; exact q, r⟩)
end
end KQ
set_option Elab.async false
set_option maxRecDepth 100000
set_option maxHeartbeats 4000000
namespace KQ
open PySem PySem.Spec PyProof.Rows L2
local macro_rules | `(tactic| trivial) => `(tactic| repeat (first | refine sl_go (by (first | assumption | exact upd_same | (rw [upd_ne (by first | assumption | exact Ne.symm (by assumption))]; first | assumption | exact upd_same | (rw [upd_ne (by first | assumption | exact Ne.symm (by assumption))]; first | assumption | exact upd_same)))) ?_ | (unfold tNoPart; refine sl_go (by (first | assumption | exact upd_same | (rw [upd_ne (by first | assumption | exact Ne.symm (by assumption))]; first | assumption | exact upd_same | (rw [upd_ne (by first | assumption | exact Ne.symm (by assumption))]; first | assumption | exact upd_same)))) ?_) | refine cat_go (by (first | assumption | exact upd_same | (rw [upd_ne (by first | assumption | exact Ne.symm (by assumption))]; first | assumption | exact upd_same | (rw [upd_ne (by first | assumption | exact Ne.symm (by assumption))]; first | assumption | exact upd_same)))) (by (first | assumption | exact upd_same | (rw [upd_ne (by first | assumption | exact Ne.symm (by assumption))]; first | assumption | exact upd_same | (rw [upd_ne (by first | assumption | exact Ne.symm (by assumption))]; first | assumption | exact upd_same)))) ?_ ?_ | (apply And.intro; focus (first | rfl | assumption | exact upd_same | exact SqL.of (by (first | assumption | exact upd_same | (rw [upd_ne (by first | assumption | exact Ne.symm (by assumption))]; first | assumption | exact upd_same | (rw [upd_ne (by first | assumption | exact Ne.symm (by assumption))]; first | assumption | exact upd_same)))) | exact SqT.of (by (first | assumption | exact upd_same | (rw [upd_ne (by first | assumption | exact Ne.symm (by assumption))]; first | assumption | exact upd_same | (rw [upd_ne (by first | assumption | exact Ne.symm (by assumption))]; first | assumption | exact upd_same)))) | exact Or.inl (SqL.of (by (first | assumption | exact upd_same | (rw [upd_ne (by first | assumption | exact Ne.symm (by assumption))]; first | assumption | exact upd_same | (rw [upd_ne (by first | assumption | exact Ne.symm (by assumption))]; first | assumption | exact upd_same))))) | exact Or.inr (SqT.of (by (first | assumption | exact upd_same | (rw [upd_ne (by first | assumption | exact Ne.symm (by assumption))]; first | assumption | exact upd_same | (rw [upd_ne (by first | assumption | exact Ne.symm (by assumption))]; first | assumption | exact upd_same))))) | exact Or.inl ⟨rfl, _, SqL.of (by (first | assumption | exact upd_same | (rw [upd_ne (by first | assumption | exact Ne.symm (by assumption))]; first | assumption | exact upd_same | (rw [upd_ne (by first | assumption | exact Ne.symm (by assumption))]; first | assumption | exact upd_same))))⟩ | (first | assumption | exact upd_same | (rw [upd_ne (by first | assumption | exact Ne.symm (by assumption))]; first | assumption | exact upd_same | (rw [upd_ne (by first | assumption | exact Ne.symm (by assumption))]; first | assumption | exact upd_same))) | decide | exact Nat.le_of_ble_eq_true rfl | omega | (show ∃ xs, SqL _ _ _ xs; exact ⟨_, SqL.of (by (first | assumption | exact upd_same | (rw [upd_ne (by first | assumption | exact Ne.symm (by assumption))]; first | assumption | exact upd_same | (rw [upd_ne (by first | assumption | exact Ne.symm (by assumption))]; first | assumption | exact upd_same))))⟩) | (show ∃ xs, SqT _ _ _ xs; exact ⟨_, SqT.of (by (first | assumption | exact upd_same | (rw [upd_ne (by first | assumption | exact Ne.symm (by assumption))]; first | assumption | exact upd_same | (rw [upd_ne (by first | assumption | exact Ne.symm (by assumption))]; first | assumption | exact upd_same))))⟩) | exact DGet.k (k := Sum.inl _) (by (first | assumption | exact upd_same | (rw [upd_ne (by first | assumption | exact Ne.symm (by assumption))]; first | assumption | exact upd_same | (rw [upd_ne (by first | assumption | exact Ne.symm (by assumption))]; first | assumption | exact upd_same)))) | (show V.int _ = kV (Sum.inl _); rfl) | (show ∃ z, V.str _ = V.str z; exact ⟨_, rfl⟩) | exact Or.inl ⟨by (first | decide | omega), by (first | decide | omega)⟩ | exact Or.inr ⟨by (first | decide | omega), by (first | decide | omega)⟩ | exact ⟨by (first | decide | omega), by (first | decide | omega)⟩ | exact ⟨by decide, by decide, by decide⟩ | exact L2.ClsV.ty _ | exact Dt.ty (by assumption) | exact Dt.kint (by assumption) | exact Dt.kbool (by assumption) | exact Dt.ktuple (by assumption) | exact Dt.klist (by assumption) | exact Dt.kstr (by assumption))) | (apply Exists.intro; apply And.intro; focus (first | rfl | assumption | exact upd_same | exact SqL.of (by (first | assumption | exact upd_same | (rw [upd_ne (by first | assumption | exact Ne.symm (by assumption))]; first | assumption | exact upd_same | (rw [upd_ne (by first | assumption | exact Ne.symm (by assumption))]; first | assumption | exact upd_same)))) | exact SqT.of (by (first | assumption | exact upd_same | (rw [upd_ne (by first | assumption | exact Ne.symm (by assumption))]; first | assumption | exact upd_same | (rw [upd_ne (by first | assumption | exact Ne.symm (by assumption))]; first | assumption | exact upd_same)))) | exact Or.inl (SqL.of (by (first | assumption | exact upd_same | (rw [upd_ne (by first | assumption | exact Ne.symm (by assumption))]; first | assumption | exact upd_same | (rw [upd_ne (by first | assumption | exact Ne.symm (by assumption))]; first | assumption | exact upd_same))))) | exact Or.inr (SqT.of (by (first | assumption | exact upd_same | (rw [upd_ne (by first | assumption | exact Ne.symm (by assumption))]; first | assumption | exact upd_same | (rw [upd_ne (by first | assumption | exact Ne.symm (by assumption))]; first | assumption | exact upd_same))))) | exact Or.inl ⟨rfl, _, SqL.of (by (first | assumption | exact upd_same | (rw [upd_ne (by first | assumption | exact Ne.symm (by assumption))]; first | assumption | exact upd_same | (rw [upd_ne (by first | assumption | exact Ne.symm (by assumption))]; first | assumption | exact upd_same))))⟩ | (first | assumption | exact upd_same | (rw [upd_ne (by first | assumption | exact Ne.symm (by assumption))]; first | assumption | exact upd_same | (rw [upd_ne (by first | assumption | exact Ne.symm (by assumption))]; first | assumption | exact upd_same))) | decide | exact Nat.le_of_ble_eq_true rfl | omega | (show ∃ xs, SqL _ _ _ xs; exact ⟨_, SqL.of (by (first | assumption | exact upd_same | (rw [upd_ne (by first | assumption | exact Ne.symm (by assumption))]; first | assumption | exact upd_same | (rw [upd_ne (by first | assumption | exact Ne.symm (by assumption))]; first | assumption | exact upd_same))))⟩) | (show ∃ xs, SqT _ _ _ xs; exact ⟨_, SqT.of (by (first | assumption | exact upd_same | (rw [upd_ne (by first | assumption | exact Ne.symm (by assumption))]; first | assumption | exact upd_same | (rw [upd_ne (by first | assumption | exact Ne.symm (by assumption))]; first | assumption | exact upd_same))))⟩) | exact DGet.k (k := Sum.inl _) (by (first | assumption | exact upd_same | (rw [upd_ne (by first | assumption | exact Ne.symm (by assumption))]; first | assumption | exact upd_same | (rw [upd_ne (by first | assumption | exact Ne.symm (by assumption))]; first | assumption | exact upd_same)))) | (show V.int _ = kV (Sum.inl _); rfl) | (show ∃ z, V.str _ = V.str z; exact ⟨_, rfl⟩) | exact Or.inl ⟨by (first | decide | omega), by (first | decide | omega)⟩ | exact Or.inr ⟨by (first | decide | omega), by (first | decide | omega)⟩ | exact ⟨by (first | decide | omega), by (first | decide | omega)⟩ | exact ⟨by decide, by decide, by decide⟩ | exact L2.ClsV.ty _ | exact Dt.ty (by assumption) | exact Dt.kint (by assumption) | exact Dt.kbool (by assumption) | exact Dt.ktuple (by assumption) | exact Dt.klist (by assumption) | exact Dt.kstr (by assumption))) | (apply Exists.intro; apply Exists.intro; apply And.intro; focus (first | rfl | assumption | exact upd_same | exact SqL.of (by (first | assumption | exact upd_same | (rw [upd_ne (by first | assumption | exact Ne.symm (by assumption))]; first | assumption | exact upd_same | (rw [upd_ne (by first | assumption | exact Ne.symm (by assumption))]; first | assumption | exact upd_same)))) | exact SqT.of (by (first | assumption | exact upd_same | (rw [upd_ne (by first | assumption | exact Ne.symm (by assumption))]; first | assumption | exact upd_same | (rw [upd_ne (by first | assumption | exact Ne.symm (by assumption))]; first | assumption | exact upd_same)))) | exact Or.inl (SqL.of (by (first | assumption | exact upd_same | (rw [upd_ne (by first | assumption | exact Ne.symm (by assumption))]; first | assumption | exact upd_same | (rw [upd_ne (by first | assumption | exact Ne.symm (by assumption))]; first | assumption | exact upd_same))))) | exact Or.inr (SqT.of (by (first | assumption | exact upd_same | (rw [upd_ne (by first | assumption | exact Ne.symm (by assumption))]; first | assumption | exact upd_same | (rw [upd_ne (by first | assumption | exact Ne.symm (by assumption))]; first | assumption | exact upd_same))))) | exact Or.inl ⟨rfl, _, SqL.of (by (first | assumption | exact upd_same | (rw [upd_ne (by first | assumption | exact Ne.symm (by assumption))]; first | assumption | exact upd_same | (rw [upd_ne (by first | assumption | exact Ne.symm (by assumption))]; first | assumption | exact upd_same))))⟩ | (first | assumption | exact upd_same | (rw [upd_ne (by first | assumption | exact Ne.symm (by assumption))]; first | assumption | exact upd_same | (rw [upd_ne (by first | assumption | exact Ne.symm (by assumption))]; first | assumption | exact upd_same))) | decide | exact Nat.le_of_ble_eq_true rfl | omega | (show ∃ xs, SqL _ _ _ xs; exact ⟨_, SqL.of (by (first | assumption | exact upd_same | (rw [upd_ne (by first | assumption | exact Ne.symm (by assumption))]; first | assumption | exact upd_same | (rw [upd_ne (by first | assumption | exact Ne.symm (by assumption))]; first | assumption | exact upd_same))))⟩) | (show ∃ xs, SqT _ _ _ xs; exact ⟨_, SqT.of (by (first | assumption | exact upd_same | (rw [upd_ne (by first | assumption | exact Ne.symm (by assumption))]; first | assumption | exact upd_same | (rw [upd_ne (by first | assumption | exact Ne.symm (by assumption))]; first | assumption | exact upd_same))))⟩) | exact DGet.k (k := Sum.inl _) (by (first | assumption | exact upd_same | (rw [upd_ne (by first | assumption | exact Ne.symm (by assumption))]; first | assumption | exact upd_same | (rw [upd_ne (by first | assumption | exact Ne.symm (by assumption))]; first | assumption | exact upd_same)))) | (show V.int _ = kV (Sum.inl _); rfl) | (show ∃ z, V.str _ = V.str z; exact ⟨_, rfl⟩) | exact Or.inl ⟨by (first | decide | omega), by (first | decide | omega)⟩ | exact Or.inr ⟨by (first | decide | omega), by (first | decide | omega)⟩ | exact ⟨by (first | decide | omega), by (first | decide | omega)⟩ | exact ⟨by decide, by decide, by decide⟩ | exact L2.ClsV.ty _ | exact Dt.ty (by assumption) | exact Dt.kint (by assumption) | exact Dt.kbool (by assumption) | exact Dt.ktuple (by assumption) | exact Dt.klist (by assumption) | exact Dt.kstr (by assumption))) | (apply Exists.intro; apply Exists.intro; apply Exists.intro; apply And.intro; focus (first | rfl | assumption | exact upd_same | exact SqL.of (by (first | assumption | exact upd_same | (rw [upd_ne (by first | assumption | exact Ne.symm (by assumption))]; first | assumption | exact upd_same | (rw [upd_ne (by first | assumption | exact Ne.symm (by assumption))]; first | assumption | exact upd_same)))) | exact SqT.of (by (first | assumption | exact upd_same | (rw [upd_ne (by first | assumption | exact Ne.symm (by assumption))]; first | assumption | exact upd_same | (rw [upd_ne (by first | assumption | exact Ne.symm (by assumption))]; first | assumption | exact upd_same)))) | exact Or.inl (SqL.of (by (first | assumption | exact upd_same | (rw [upd_ne (by first | assumption | exact Ne.symm (by assumption))]; first | assumption | exact upd_same | (rw [upd_ne (by first | assumption | exact Ne.symm (by assumption))]; first | assumption | exact upd_same))))) | exact Or.inr (SqT.of (by (first | assumption | exact upd_same | (rw [upd_ne (by first | assumption | exact Ne.symm (by assumption))]; first | assumption | exact upd_same | (rw [upd_ne (by first | assumption | exact Ne.symm (by assumption))]; first | assumption | exact upd_same))))) | exact Or.inl ⟨rfl, _, SqL.of (by (first | assumption | exact upd_same | (rw [upd_ne (by first | assumption | exact Ne.symm (by assumption))]; first | assumption | exact upd_same | (rw [upd_ne (by first | assumption | exact Ne.symm (by assumption))]; first | assumption | exact upd_same))))⟩ | (first | assumption | exact upd_same | (rw [upd_ne (by first | assumption | exact Ne.symm (by assumption))]; first | assumption | exact upd_same | (rw [upd_ne (by first | assumption | exact Ne.symm (by assumption))]; first | assumption | exact upd_same))) | decide | exact Nat.le_of_ble_eq_true rfl | omega | (show ∃ xs, SqL _ _ _ xs; exact ⟨_, SqL.of (by (first | assumption | exact upd_same | (rw [upd_ne (by first | assumption | exact Ne.symm (by assumption))]; first | assumption | exact upd_same | (rw [upd_ne (by first | assumption | exact Ne.symm (by assumption))]; first | assumption | exact upd_same))))⟩) | (show ∃ xs, SqT _ _ _ xs; exact ⟨_, SqT.of (by (first | assumption | exact upd_same | (rw [upd_ne (by first | assumption | exact Ne.symm (by assumption))]; first | assumption | exact upd_same | (rw [upd_ne (by first | assumption | exact Ne.symm (by assumption))]; first | assumption | exact upd_same))))⟩) | exact DGet.k (k := Sum.inl _) (by (first | assumption | exact upd_same | (rw [upd_ne (by first | assumption | exact Ne.symm (by assumption))]; first | assumption | exact upd_same | (rw [upd_ne (by first | assumption | exact Ne.symm (by assumption))]; first | assumption | exact upd_same)))) | (show V.int _ = kV (Sum.inl _); rfl) | (show ∃ z, V.str _ = V.str z; exact ⟨_, rfl⟩) | exact Or.inl ⟨by (first | decide | omega), by (first | decide | omega)⟩ | exact Or.inr ⟨by (first | decide | omega), by (first | decide | omega)⟩ | exact ⟨by (first | decide | omega), by (first | decide | omega)⟩ | exact ⟨by decide, by decide, by decide⟩ | exact L2.ClsV.ty _ | exact Dt.ty (by assumption) | exact Dt.kint (by assumption) | exact Dt.kbool (by assumption) | exact Dt.ktuple (by assumption) | exact Dt.klist (by assumption) | exact Dt.kstr (by assumption))) | (apply Exists.intro; apply Exists.intro; apply Exists.intro; apply Exists.intro; apply And.intro; focus (first | rfl | assumption | exact upd_same | exact SqL.of (by (first | assumption | exact upd_same | (rw [upd_ne (by first | assumption | exact Ne.symm (by assumption))]; first | assumption | exact upd_same | (rw [upd_ne (by first | assumption | exact Ne.symm (by assumption))]; first | assumption | exact upd_same)))) | exact SqT.of (by (first | assumption | exact upd_same | (rw [upd_ne (by first | assumption | exact Ne.symm (by assumption))]; first | assumption | exact upd_same | (rw [upd_ne (by first | assumption | exact Ne.symm (by assumption))]; first | assumption | exact upd_same)))) | exact Or.inl (SqL.of (by (first | assumption | exact upd_same | (rw [upd_ne (by first | assumption | exact Ne.symm (by assumption))]; first | assumption | exact upd_same | (rw [upd_ne (by first | assumption | exact Ne.symm (by assumption))]; first | assumption | exact upd_same))))) | exact Or.inr (SqT.of (by (first | assumption | exact upd_same | (rw [upd_ne (by first | assumption | exact Ne.symm (by assumption))]; first | assumption | exact upd_same | (rw [upd_ne (by first | assumption | exact Ne.symm (by assumption))]; first | assumption | exact upd_same))))) | exact Or.inl ⟨rfl, _, SqL.of (by (first | assumption | exact upd_same | (rw [upd_ne (by first | assumption | exact Ne.symm (by assumption))]; first | assumption | exact upd_same | (rw [upd_ne (by first | assumption | exact Ne.symm (by assumption))]; first | assumption | exact upd_same))))⟩ | (first | assumption | exact upd_same | (rw [upd_ne (by first | assumption | exact Ne.symm (by assumption))]; first | assumption | exact upd_same | (rw [upd_ne (by first | assumption | exact Ne.symm (by assumption))]; first | assumption | exact upd_same))) | decide | exact Nat.le_of_ble_eq_true rfl | omega | (show ∃ xs, SqL _ _ _ xs; exact ⟨_, SqL.of (by (first | assumption | exact upd_same | (rw [upd_ne (by first | assumption | exact Ne.symm (by assumption))]; first | assumption | exact upd_same | (rw [upd_ne (by first | assumption | exact Ne.symm (by assumption))]; first | assumption | exact upd_same))))⟩) | (show ∃ xs, SqT _ _ _ xs; exact ⟨_, SqT.of (by (first | assumption | exact upd_same | (rw [upd_ne (by first | assumption | exact Ne.symm (by assumption))]; first | assumption | exact upd_same | (rw [upd_ne (by first | assumption | exact Ne.symm (by assumption))]; first | assumption | exact upd_same))))⟩) | exact DGet.k (k := Sum.inl _) (by (first | assumption | exact upd_same | (rw [upd_ne (by first | assumption | exact Ne.symm (by assumption))]; first | assumption | exact upd_same | (rw [upd_ne (by first | assumption | exact Ne.symm (by assumption))]; first | assumption | exact upd_same)))) | (show V.int _ = kV (Sum.inl _); rfl) | (show ∃ z, V.str _ = V.str z; exact ⟨_, rfl⟩) | exact Or.inl ⟨by (first | decide | omega), by (first | decide | omega)⟩ | exact Or.inr ⟨by (first | decide | omega), by (first | decide | omega)⟩ | exact ⟨by (first | decide | omega), by (first | decide | omega)⟩ | exact ⟨by decide, by decide, by decide⟩ | exact L2.ClsV.ty _ | exact Dt.ty (by assumption) | exact Dt.kint (by assumption) | exact Dt.kbool (by assumption) | exact Dt.ktuple (by assumption) | exact Dt.klist (by assumption) | exact Dt.kstr (by assumption))) | (apply Exists.intro; apply Exists.intro; apply Exists.intro; apply Exists.intro; apply Exists.intro; apply And.intro; focus (first | rfl | assumption | exact upd_same | exact SqL.of (by (first | assumption | exact upd_same | (rw [upd_ne (by first | assumption | exact Ne.symm (by assumption))]; first | assumption | exact upd_same | (rw [upd_ne (by first | assumption | exact Ne.symm (by assumption))]; first | assumption | exact upd_same)))) | exact SqT.of (by (first | assumption | exact upd_same | (rw [upd_ne (by first | assumption | exact Ne.symm (by assumption))]; first | assumption | exact upd_same | (rw [upd_ne (by first | assumption | exact Ne.symm (by assumption))]; first | assumption | exact upd_same)))) | exact Or.inl (SqL.of (by (first | assumption | exact upd_same | (rw [upd_ne (by first | assumption | exact Ne.symm (by assumption))]; first | assumption | exact upd_same | (rw [upd_ne (by first | assumption | exact Ne.symm (by assumption))]; first | assumption | exact upd_same))))) | exact Or.inr (SqT.of (by (first | assumption | exact upd_same | (rw [upd_ne (by first | assumption | exact Ne.symm (by assumption))]; first | assumption | exact upd_same | (rw [upd_ne (by first | assumption | exact Ne.symm (by assumption))]; first | assumption | exact upd_same))))) | exact Or.inl ⟨rfl, _, SqL.of (by (first | assumption | exact upd_same | (rw [upd_ne (by first | assumption | exact Ne.symm (by assumption))]; first | assumption | exact upd_same | (rw [upd_ne (by first | assumption | exact Ne.symm (by assumption))]; first | assumption | exact upd_same))))⟩ | (first | assumption | exact upd_same | (rw [upd_ne (by first | assumption | exact Ne.symm (by assumption))]; first | assumption | exact upd_same | (rw [upd_ne (by first | assumption | exact Ne.symm (by assumption))]; first | assumption | exact upd_same))) | decide | exact Nat.le_of_ble_eq_true rfl | omega | (show ∃ xs, SqL _ _ _ xs; exact ⟨_, SqL.of (by (first | assumption | exact upd_same | (rw [upd_ne (by first | assumption | exact Ne.symm (by assumption))]; first | assumption | exact upd_same | (rw [upd_ne (by first | assumption | exact Ne.symm (by assumption))]; first | assumption | exact upd_same))))⟩) | (show ∃ xs, SqT _ _ _ xs; exact ⟨_, SqT.of (by (first | assumption | exact upd_same | (rw [upd_ne (by first | assumption | exact Ne.symm (by assumption))]; first | assumption | exact upd_same | (rw [upd_ne (by first | assumption | exact Ne.symm (by assumption))]; first | assumption | exact upd_same))))⟩) | exact DGet.k (k := Sum.inl _) (by (first | assumption | exact upd_same | (rw [upd_ne (by first | assumption | exact Ne.symm (by assumption))]; first | assumption | exact upd_same | (rw [upd_ne (by first | assumption | exact Ne.symm (by assumption))]; first | assumption | exact upd_same)))) | (show V.int _ = kV (Sum.inl _); rfl) | (show ∃ z, V.str _ = V.str z; exact ⟨_, rfl⟩) | exact Or.inl ⟨by (first | decide | omega), by (first | decide | omega)⟩ | exact Or.inr ⟨by (first | decide | omega), by (first | decide | omega)⟩ | exact ⟨by (first | decide | omega), by (first | decide | omega)⟩ | exact ⟨by decide, by decide, by decide⟩ | exact L2.ClsV.ty _ | exact Dt.ty (by assumption) | exact Dt.kint (by assumption) | exact Dt.kbool (by assumption) | exact Dt.ktuple (by assumption) | exact Dt.klist (by assumption) | exact Dt.kstr (by assumption))) | (apply Exists.intro; apply Exists.intro; apply Exists.intro; apply Exists.intro; apply Exists.intro; apply Exists.intro; apply And.intro; focus (first | rfl | assumption | exact upd_same | exact SqL.of (by (first | assumption | exact upd_same | (rw [upd_ne (by first | assumption | exact Ne.symm (by assumption))]; first | assumption | exact upd_same | (rw [upd_ne (by first | assumption | exact Ne.symm (by assumption))]; first | assumption | exact upd_same)))) | exact SqT.of (by (first | assumption | exact upd_same | (rw [upd_ne (by first | assumption | exact Ne.symm (by assumption))]; first | assumption | exact upd_same | (rw [upd_ne (by first | assumption | exact Ne.symm (by assumption))]; first | assumption | exact upd_same)))) | exact Or.inl (SqL.of (by (first | assumption | exact upd_same | (rw [upd_ne (by first | assumption | exact Ne.symm (by assumption))]; first | assumption | exact upd_same | (rw [upd_ne (by first | assumption | exact Ne.symm (by assumption))]; first | assumption | exact upd_same))))) | exact Or.inr (SqT.of (by (first | assumption | exact upd_same | (rw [upd_ne (by first | assumption | exact Ne.symm (by assumption))]; first | assumption | exact upd_same | (rw [upd_ne (by first | assumption | exact Ne.symm (by assumption))]; first | assumption | exact upd_same))))) | exact Or.inl ⟨rfl, _, SqL.of (by (first | assumption | exact upd_same | (rw [upd_ne (by first | assumption | exact Ne.symm (by assumption))]; first | assumption | exact upd_same | (rw [upd_ne (by first | assumption | exact Ne.symm (by assumption))]; first | assumption | exact upd_same))))⟩ | (first | assumption | exact upd_same | (rw [upd_ne (by first | assumption | exact Ne.symm (by assumption))]; first | assumption | exact upd_same | (rw [upd_ne (by first | assumption | exact Ne.symm (by assumption))]; first | assumption | exact upd_same))) | decide | exact Nat.le_of_ble_eq_true rfl | omega | (show ∃ xs, SqL _ _ _ xs; exact ⟨_, SqL.of (by (first | assumption | exact upd_same | (rw [upd_ne (by first | assumption | exact Ne.symm (by assumption))]; first | assumption | exact upd_same | (rw [upd_ne (by first | assumption | exact Ne.symm (by assumption))]; first | assumption | exact upd_same))))⟩) | (show ∃ xs, SqT _ _ _ xs; exact ⟨_, SqT.of (by (first | assumption | exact upd_same | (rw [upd_ne (by first | assumption | exact Ne.symm (by assumption))]; first | assumption | exact upd_same | (rw [upd_ne (by first | assumption | exact Ne.symm (by assumption))]; first | assumption | exact upd_same))))⟩) | exact DGet.k (k := Sum.inl _) (by (first | assumption | exact upd_same | (rw [upd_ne (by first | assumption | exact Ne.symm (by assumption))]; first | assumption | exact upd_same | (rw [upd_ne (by first | assumption | exact Ne.symm (by assumption))]; first | assumption | exact upd_same)))) | (show V.int _ = kV (Sum.inl _); rfl) | (show ∃ z, V.str _ = V.str z; exact ⟨_, rfl⟩) | exact Or.inl ⟨by (first | decide | omega), by (first | decide | omega)⟩ | exact Or.inr ⟨by (first | decide | omega), by (first | decide | omega)⟩ | exact ⟨by (first | decide | omega), by (first | decide | omega)⟩ | exact ⟨by decide, by decide, by decide⟩ | exact L2.ClsV.ty _ | exact Dt.ty (by assumption) | exact Dt.kint (by assumption) | exact Dt.kbool (by assumption) | exact Dt.ktuple (by assumption) | exact Dt.klist (by assumption) | exact Dt.kstr (by assumption))) | (apply Exists.intro; apply Exists.intro; apply Exists.intro; apply Exists.intro; apply Exists.intro; apply Exists.intro; apply Exists.intro; apply And.intro; focus (first | rfl | assumption | exact upd_same | exact SqL.of (by (first | assumption | exact upd_same | (rw [upd_ne (by first | assumption | exact Ne.symm (by assumption))]; first | assumption | exact upd_same | (rw [upd_ne (by first | assumption | exact Ne.symm (by assumption))]; first | assumption | exact upd_same)))) | exact SqT.of (by (first | assumption | exact upd_same | (rw [upd_ne (by first | assumption | exact Ne.symm (by assumption))]; first | assumption | exact upd_same | (rw [upd_ne (by first | assumption | exact Ne.symm (by assumption))]; first | assumption | exact upd_same)))) | exact Or.inl (SqL.of (by (first | assumption | exact upd_same | (rw [upd_ne (by first | assumption | exact Ne.symm (by assumption))]; first | assumption | exact upd_same | (rw [upd_ne (by first | assumption | exact Ne.symm (by assumption))]; first | assumption | exact upd_same))))) | exact Or.inr (SqT.of (by (first | assumption | exact upd_same | (rw [upd_ne (by first | assumption | exact Ne.symm (by assumption))]; first | assumption | exact upd_same | (rw [upd_ne (by first | assumption | exact Ne.symm (by assumption))]; first | assumption | exact upd_same))))) | exact Or.inl ⟨rfl, _, SqL.of (by (first | assumption | exact upd_same | (rw [upd_ne (by first | assumption | exact Ne.symm (by assumption))]; first | assumption | exact upd_same | (rw [upd_ne (by first | assumption | exact Ne.symm (by assumption))]; first | assumption | exact upd_same))))⟩ | (first | assumption | exact upd_same | (rw [upd_ne (by first | assumption | exact Ne.symm (by assumption))]; first | assumption | exact upd_same | (rw [upd_ne (by first | assumption | exact Ne.symm (by assumption))]; first | assumption | exact upd_same))) | decide | exact Nat.le_of_ble_eq_true rfl | omega | (show ∃ xs, SqL _ _ _ xs; exact ⟨_, SqL.of (by (first | assumption | exact upd_same | (rw [upd_ne (by first | assumption | exact Ne.symm (by assumption))]; first | assumption | exact upd_same | (rw [upd_ne (by first | assumption | exact Ne.symm (by assumption))]; first | assumption | exact upd_same))))⟩) | (show ∃ xs, SqT _ _ _ xs; exact ⟨_, SqT.of (by (first | assumption | exact upd_same | (rw [upd_ne (by first | assumption | exact Ne.symm (by assumption))]; first | assumption | exact upd_same | (rw [upd_ne (by first | assumption | exact Ne.symm (by assumption))]; first | assumption | exact upd_same))))⟩) | exact DGet.k (k := Sum.inl _) (by (first | assumption | exact upd_same | (rw [upd_ne (by first | assumption | exact Ne.symm (by assumption))]; first | assumption | exact upd_same | (rw [upd_ne (by first | assumption | exact Ne.symm (by assumption))]; first | assumption | exact upd_same)))) | (show V.int _ = kV (Sum.inl _); rfl) | (show ∃ z, V.str _ = V.str z; exact ⟨_, rfl⟩) | exact Or.inl ⟨by (first | decide | omega), by (first | decide | omega)⟩ | exact Or.inr ⟨by (first | decide | omega), by (first | decide | omega)⟩ | exact ⟨by (first | decide | omega), by (first | decide | omega)⟩ | exact ⟨by decide, by decide, by decide⟩ | exact L2.ClsV.ty _ | exact Dt.ty (by assumption) | exact Dt.kint (by assumption) | exact Dt.kbool (by assumption) | exact Dt.ktuple (by assumption) | exact Dt.klist (by assumption) | exact Dt.kstr (by assumption))) | (apply Exists.intro; apply Exists.intro; apply Exists.intro; apply Exists.intro; apply Exists.intro; apply Exists.intro; apply Exists.intro; apply Exists.intro; apply And.intro; focus (first | rfl | assumption | exact upd_same | exact SqL.of (by (first | assumption | exact upd_same | (rw [upd_ne (by first | assumption | exact Ne.symm (by assumption))]; first | assumption | exact upd_same | (rw [upd_ne (by first | assumption | exact Ne.symm (by assumption))]; first | assumption | exact upd_same)))) | exact SqT.of (by (first | assumption | exact upd_same | (rw [upd_ne (by first | assumption | exact Ne.symm (by assumption))]; first | assumption | exact upd_same | (rw [upd_ne (by first | assumption | exact Ne.symm (by assumption))]; first | assumption | exact upd_same)))) | exact Or.inl (SqL.of (by (first | assumption | exact upd_same | (rw [upd_ne (by first | assumption | exact Ne.symm (by assumption))]; first | assumption | exact upd_same | (rw [upd_ne (by first | assumption | exact Ne.symm (by assumption))]; first | assumption | exact upd_same))))) | exact Or.inr (SqT.of (by (first | assumption | exact upd_same | (rw [upd_ne (by first | assumption | exact Ne.symm (by assumption))]; first | assumption | exact upd_same | (rw [upd_ne (by first | assumption | exact Ne.symm (by assumption))]; first | assumption | exact upd_same))))) | exact Or.inl ⟨rfl, _, SqL.of (by (first | assumption | exact upd_same | (rw [upd_ne (by first | assumption | exact Ne.symm (by assumption))]; first | assumption | exact upd_same | (rw [upd_ne (by first | assumption | exact Ne.symm (by assumption))]; first | assumption | exact upd_same))))⟩ | (first | assumption | exact upd_same | (rw [upd_ne (by first | assumption | exact Ne.symm (by assumption))]; first | assumption | exact upd_same | (rw [upd_ne (by first | assumption | exact Ne.symm (by assumption))]; first | assumption | exact upd_same))) | decide | exact Nat.le_of_ble_eq_true rfl | omega | (show ∃ xs, SqL _ _ _ xs; exact ⟨_, SqL.of (by (first | assumption | exact upd_same | (rw [upd_ne (by first | assumption | exact Ne.symm (by assumption))]; first | assumption | exact upd_same | (rw [upd_ne (by first | assumption | exact Ne.symm (by assumption))]; first | assumption | exact upd_same))))⟩) | (show ∃ xs, SqT _ _ _ xs; exact ⟨_, SqT.of (by (first | assumption | exact upd_same | (rw [upd_ne (by first | assumption | exact Ne.symm (by assumption))]; first | assumption | exact upd_same | (rw [upd_ne (by first | assumption | exact Ne.symm (by assumption))]; first | assumption | exact upd_same))))⟩) | exact DGet.k (k := Sum.inl _) (by (first | assumption | exact upd_same | (rw [upd_ne (by first | assumption | exact Ne.symm (by assumption))]; first | assumption | exact upd_same | (rw [upd_ne (by first | assumption | exact Ne.symm (by assumption))]; first | assumption | exact upd_same)))) | (show V.int _ = kV (Sum.inl _); rfl) | (show ∃ z, V.str _ = V.str z; exact ⟨_, rfl⟩) | exact Or.inl ⟨by (first | decide | omega), by (first | decide | omega)⟩ | exact Or.inr ⟨by (first | decide | omega), by (first | decide | omega)⟩ | exact ⟨by (first | decide | omega), by (first | decide | omega)⟩ | exact ⟨by decide, by decide, by decide⟩ | exact L2.ClsV.ty _ | exact Dt.ty (by assumption) | exact Dt.kint (by assumption) | exact Dt.kbool (by assumption) | exact Dt.ktuple (by assumption) | exact Dt.klist (by assumption) | exact Dt.kstr (by assumption))) | (apply Exists.intro; apply Exists.intro; apply Exists.intro; apply Exists.intro; apply Exists.intro; apply Exists.intro; apply Exists.intro; apply Exists.intro; apply Exists.intro; apply And.intro; focus (first | rfl | assumption | exact upd_same | exact SqL.of (by (first | assumption | exact upd_same | (rw [upd_ne (by first | assumption | exact Ne.symm (by assumption))]; first | assumption | exact upd_same | (rw [upd_ne (by first | assumption | exact Ne.symm (by assumption))]; first | assumption | exact upd_same)))) | exact SqT.of (by (first | assumption | exact upd_same | (rw [upd_ne (by first | assumption | exact Ne.symm (by assumption))]; first | assumption | exact upd_same | (rw [upd_ne (by first | assumption | exact Ne.symm (by assumption))]; first | assumption | exact upd_same)))) | exact Or.inl (SqL.of (by (first | assumption | exact upd_same | (rw [upd_ne (by first | assumption | exact Ne.symm (by assumption))]; first | assumption | exact upd_same | (rw [upd_ne (by first | assumption | exact Ne.symm (by assumption))]; first | assumption | exact upd_same))))) | exact Or.inr (SqT.of (by (first | assumption | exact upd_same | (rw [upd_ne (by first | assumption | exact Ne.symm (by assumption))]; first | assumption | exact upd_same | (rw [upd_ne (by first | assumption | exact Ne.symm (by assumption))]; first | assumption | exact upd_same))))) | exact Or.inl ⟨rfl, _, SqL.of (by (first | assumption | exact upd_same | (rw [upd_ne (by first | assumption | exact Ne.symm (by assumption))]; first | assumption | exact upd_same | (rw [upd_ne (by first | assumption | exact Ne.symm (by assumption))]; first | assumption | exact upd_same))))⟩ | (first | assumption | exact upd_same | (rw [upd_ne (by first | assumption | exact Ne.symm (by assumption))]; first | assumption | exact upd_same | (rw [upd_ne (by first | assumption | exact Ne.symm (by assumption))]; first | assumption | exact upd_same))) | decide | exact Nat.le_of_ble_eq_true rfl | omega | (show ∃ xs, SqL _ _ _ xs; exact ⟨_, SqL.of (by (first | assumption | exact upd_same | (rw [upd_ne (by first | assumption | exact Ne.symm (by assumption))]; first | assumption | exact upd_same | (rw [upd_ne (by first | assumption | exact Ne.symm (by assumption))]; first | assumption | exact upd_same))))⟩) | (show ∃ xs, SqT _ _ _ xs; exact ⟨_, SqT.of (by (first | assumption | exact upd_same | (rw [upd_ne (by first | assumption | exact Ne.symm (by assumption))]; first | assumption | exact upd_same | (rw [upd_ne (by first | assumption | exact Ne.symm (by assumption))]; first | assumption | exact upd_same))))⟩) | exact DGet.k (k := Sum.inl _) (by (first | assumption | exact upd_same | (rw [upd_ne (by first | assumption | exact Ne.symm (by assumption))]; first | assumption | exact upd_same | (rw [upd_ne (by first | assumption | exact Ne.symm (by assumption))]; first | assumption | exact upd_same)))) | (show V.int _ = kV (Sum.inl _); rfl) | (show ∃ z, V.str _ = V.str z; exact ⟨_, rfl⟩) | exact Or.inl ⟨by (first | decide | omega), by (first | decide | omega)⟩ | exact Or.inr ⟨by (first | decide | omega), by (first | decide | omega)⟩ | exact ⟨by (first | decide | omega), by (first | decide | omega)⟩ | exact ⟨by decide, by decide, by decide⟩ | exact L2.ClsV.ty _ | exact Dt.ty (by assumption) | exact Dt.kint (by assumption) | exact Dt.kbool (by assumption) | exact Dt.ktuple (by assumption) | exact Dt.klist (by assumption) | exact Dt.kstr (by assumption))) | refine Or.inl ⟨_, rfl, ?_⟩ | refine Or.inr ⟨_, rfl, ?_⟩ | refine Or.inr ⟨SqT.of (by (first | assumption | exact upd_same | (rw [upd_ne (by first | assumption | exact Ne.symm (by assumption))]; first | assumption | exact upd_same | (rw [upd_ne (by first | assumption | exact Ne.symm (by assumption))]; first | assumption | exact upd_same)))), SqT.of (by (first | assumption | exact upd_same | (rw [upd_ne (by first | assumption | exact Ne.symm (by assumption))]; first | assumption | exact upd_same | (rw [upd_ne (by first | assumption | exact Ne.symm (by assumption))]; first | assumption | exact upd_same)))), ?_⟩ | refine Or.inl ⟨SqL.of (by (first | assumption | exact upd_same | (rw [upd_ne (by first | assumption | exact Ne.symm (by assumption))]; first | assumption | exact upd_same | (rw [upd_ne (by first | assumption | exact Ne.symm (by assumption))]; first | assumption | exact upd_same)))), SqL.of (by (first | assumption | exact upd_same | (rw [upd_ne (by first | assumption | exact Ne.symm (by assumption))]; first | assumption | exact upd_same | (rw [upd_ne (by first | assumption | exact Ne.symm (by assumption))]; first | assumption | exact upd_same)))), ?_⟩ | refine Or.inl ⟨SqL.of (by (first | assumption | exact upd_same | (rw [upd_ne (by first | assumption | exact Ne.symm (by assumption))]; first | assumption | exact upd_same | (rw [upd_ne (by first | assumption | exact Ne.symm (by assumption))]; first | assumption | exact upd_same)))), ?_⟩ | refine Or.inr ⟨SqT.of (by (first | assumption | exact upd_same | (rw [upd_ne (by first | assumption | exact Ne.symm (by assumption))]; first | assumption | exact upd_same | (rw [upd_ne (by first | assumption | exact Ne.symm (by assumption))]; first | assumption | exact upd_same)))), ?_⟩ | refine ifT rfl ?_ | refine ifF rfl ?_))
/-- is it a row -/
def rowD : PyData → Bool
  | .tuple ds => ds.all (below 256)
  | _ => false
def spIsRow : Sp := fun vs H Q _ => ∃ (N : Addr → Prop) (v : V) (d : PyData), vs = [v] ∧ Rp N H v d ∧ slim d = true ∧ ∀ H', Same H H' → Q (.bl (rowD d)) H'
def spCheckRow (CN : Addr) : Sp := fun vs H Q E => ∃ (N : Addr → Prop) (v : V) (d : PyData), vs = [v] ∧ Rp N H v d ∧ slim d = true ∧ (rowD d = false → ∀ H', Same H H' → E (.ref CN) none H') ∧ (rowD d = true → ∀ H', Same H H' → Q .non H')
def toldRow (row : List Int) : Option Nat ⊕ PyData := match rdP row 20 0 with
  | .bad q => .inl (some q)
  | .ok d b => if b < row.length then .inl (some b) else .inr d
def spReadRow (CB : Addr) : Sp := fun vs H Q E => ∃ (a : Addr) (row : List Int), vs = [.ref a] ∧ RowOk H a row ∧
  match toldRow row with
  | .inl (some q) => BadAt CB H E q
  | .inl none => False
  | .inr d => ∀ v H', Same H H' → Rp (fun a => H a ≠ none) H' v d → Q v H'
theorem row_data {N : Addr → Prop} {H : Hp} {a : Addr} {row : List Int} (e : H a = some (.tup (row.map V.int))) (n : ¬ N a) : Rp N H (.ref a) (.tuple (row.map PyData.int)) := by
  refine .tup e n ?_
  clear e
  induction row with
  | nil => exact .nil
  | cons x xs ih => exact .cons (.int x) ih
theorem row_rowD {row : List Int} (h : ∀ x ∈ row, 0 ≤ x ∧ x < 256) : rowD (.tuple (row.map PyData.int)) = true := by
  show (row.map PyData.int).all (below 256) = true
  rw [List.all_map, List.all_eq_true]
  intro x hx
  have := h x hx
  simp [below, intOf, this]
section
variable {P : Program} {w : World} {K : PySem.W.Frag} {mg : Str → Option Value} {base : Heap} {t1 t2 t3 t4 : Tok} {CB CN : Addr}
theorem d_is_row (B : Bi mg) (F : FunAt K mg "is_row" s_is_row) (D_is_below : Has P w K mg base 2 "is_below" ["bound", "thing"] spIsBelow) : Has P w K mg base 3 "is_row" ["thing"] spIsRow := by
  refine mk_has F sc_is_row (fun _ _ _ _ _ _ us hl => match us, hl with | [_], _ => rfl) (fun vs H Q E h => ?_) fun f cdv A outer s H vs Q E hr h => ?_
  · obtain ⟨N, v, d, rfl, _⟩ := h
    rfl
  obtain ⟨N, v, d, rfl, r, hs, k⟩ := h
  refine ⟨_, (pss_one (ps_ret (pe_and (pe_callB call_isi rfl B.isinstance (by decide +kernel) (pa_cons (pv 0) (pa_cons (pe_bltn (v := .ty "tuple") rfl B.tuple (by decide +kernel) rfl) pa_nil))) (pe_one (pe_callB (cr_all rfl) rfl B.all (by decide +kernel) (pa_cons (pe_lc (own := [("item", 1)]) (g := gName 1) (tt := tYes) (te := (tCall spIsBelow [] E0 (tCons (tC (.int 256)) (tCons (tVar 1) tNil)))) rfl sc_is_row.nd (pi_tup (pv 0)) (blkOk_by (own := [("item", 1)]) (N := ["thing", "item"]) (sc := defScope s_is_row) (by decide +kernel)) (fun _ _ _ _ _ => (pg_name (i := 1) sc_is_row.nd rfl (Or.inl rfl))) (fun _ _ _ _ _ => pts_nil) (fun _ _ _ _ _ => (pe_h D_is_below (hr.mono (by decide)) rfl (pa_cons pe_int (pa_cons (pv 1) pa_nil))))) pa_nil)))))), ?_⟩
  have d0 := r.dt
  cases d with
  | tuple ds =>
    cases r with
    | @tup a xs _ ea na aa =>
    have d1 := Dt.tup ea
    rw [slim, Bool.and_eq_true, decide_eq_true_eq] at hs
    have hl := aa.length
    trivial
    intro D nD
    refine lc_map (walk_tup (xs := xs)) (ds.map fun d => V.bl (below 256 d)) (by rw [List.length_map, hl]) nD (by omega) (fun i H' _ s => SqT.of (s _ _ ea)) (fun i x H3 H4 Pn hi s2 y fin => ?_) fun H3 s2 e1 => ?_
    · obtain ⟨rfl, gx⟩ := y
      obtain ⟨dx, mx, gdx, rx⟩ := aa.at_ gx
      refine ⟨rfl, ?_⟩
      refine ⟨_, rfl, N, x, dx, 256, rfl, rx.to (kp_same s2), ?_⟩
      exact fin _ _ (by rw [List.getElem?_map, gdx]; rfl) (Same.refl _)
    · have e2 : (ds.map fun d => V.bl (below 256 d)) = (ds.map (below 256)).map V.bl := by rw [List.map_map]; rfl
      rw [e2] at e1
      trivial
      have e3 : (ds.map (below 256)).all id = ds.all (below 256) := by simp [List.all_map]
      rw [e3]
      exact k H3 s2
  | none =>
    have k0 := k H (Same.refl H)
    cases r
    trivial
    exact k0
  | bool b =>
    have k0 := k H (Same.refl H)
    cases r
    trivial
    exact k0
  | int i =>
    have k0 := k H (Same.refl H)
    cases r
    trivial
    exact k0
  | str x =>
    have k0 := k H (Same.refl H)
    cases r
    trivial
    exact k0
  | list ds =>
    have k0 := k H (Same.refl H)
    cases r with
    | lst ea _ _ =>
    have d1 := Dt.lst ea
    trivial
    exact k0
  | dict ds =>
    have k0 := k H (Same.refl H)
    cases r with
    | emp ea _ =>
    have d1 := Dt.dK ea
    trivial
    exact k0
theorem d_check_row (x_NoRow : ExcAt K mg "NoRow" CN) (F : FunAt K mg "check_row" s_check_row) (D_is_row : Has P w K mg base 3 "is_row" ["thing"] spIsRow) : HasX P w K mg base 4 "check_row" ["row"] (spCheckRow CN) := by
  refine mk_hasX F sc_check_row (fun _ _ _ _ _ _ us hl => match us, hl with | [_], _ => rfl) (fun vs H Q E h => ?_) fun f cdv A outer s H vs Q E hr h => ?_
  · obtain ⟨N, v, d, rfl, _⟩ := h
    rfl
  obtain ⟨N, v, d, rfl, r, hs, k1, k2⟩ := h
  refine ⟨_, (pss_one (ps_if (pt_not (pt_val (pe_h D_is_row (hr.mono (by decide)) rfl (pa_cons (pv 0) pa_nil))))
    (pss_one (ps_rz rfl (takes_of rfl rfl rfl rfl) x_NoRow rfl))
    pss_nil)), ?_⟩
  refine ⟨_, rfl, N, v, d, rfl, r, hs, fun H1 s1 => ?_⟩
  trivial
  cases e : rowD d with
  | false =>
    trivial
    exact k1 e H1 s1
  | true =>
    trivial
    exact k2 e H1 s1
theorem d_read_row (B : Bi mg) (x_BadRow : ErrAt P w K mg base "BadRow" CB "place") (F : FunAt K mg "read_row" s_read_row) (g_DEEPEST : mg "DEEPEST" = some (.int 20 t1)) (D_read_parcel : HasX P w K mg base 44 "read_parcel" ["row", "place", "deep"] (spRdP CB 20)) : HasX P w K mg base 45 "read_row" ["row"] (spReadRow CB) := by
  refine mk_hasX F sc_read_row (fun _ _ _ _ _ _ us hl => match us, hl with | [_], _ => rfl) (fun vs H Q E h => ?_) fun f cdv A outer s H vs Q E hr h => ?_
  · obtain ⟨a, row, rfl, _⟩ := h
    rfl
  obtain ⟨a, row, rfl, ro, t⟩ := h
  refine ⟨_, (pss_cons (ps_asg (pe_hX (takes_of rfl rfl rfl rfl) D_read_parcel (hr.mono (by decide)) rfl (pa_cons (pv 0) (pa_cons pe_int (pa_cons (pe_glob (v := .int 20) rfl g_DEEPEST ⟨_, rfl⟩) pa_nil)))) (pg_tup rfl (pgs_cons (pg_name (i := 1) sc_read_row.nd rfl (Or.inl rfl)) (pgs_cons (pg_name (i := 2) sc_read_row.nd rfl (Or.inl rfl)) pgs_nil))))
    (pss_cons (ps_if (pt_cmpR op_lt (pv 2) (pe_callB call_len_seq rfl B.len PySem.boot_len (pa_cons (pv 0) pa_nil)) (nomark _))
    (pss_one (ps_rx rfl (takes_of rfl rfl rfl rfl) x_BadRow (hr.mono (by decide)) (pa_cons (pv 2) pa_nil) rfl))
    pss_nil)
    (pss_one (ps_ret (pv 1))))), ?_⟩
  have ea := ro.e
  have hlen : (row.map V.int).length = row.length := List.length_map ..
  refine ⟨_, rfl, a, 0, 20, row, rfl, Nat.le_refl _, ro, Nat.zero_le _, ?_⟩
  unfold toldRow at t
  cases e : rdP row 20 0 with
  | bad q =>
    rw [e] at t
    exact t
  | ok d b =>
    rw [e] at t
    simp only at t
    intro T v H1 s1 eT rv
    have ea1 := s1 _ _ ea
    trivial
    refine ite2 (fun c => ?_) (fun c => ?_)
    · have c' := of_decide_eq_true c
      rw [if_pos (by omega)] at t
      trivial
      exact (mk_err fun d nd => t d _ (snew s1 nd) (s1.free nd) upd_same).2
    · have c' := of_decide_eq_false (Bool.eq_false_iff.mpr c)
      rw [if_neg (by omega)] at t
      trivial
      exact t v H1 s1 rv
theorem d_parcel_of (F : FunAt K mg "parcel_of" s_parcel_of) (D_check_row : HasX P w K mg base 4 "check_row" ["row"] (spCheckRow CN)) (D_read_row : HasX P w K mg base 45 "read_row" ["row"] (spReadRow CB)) : HasX P w K mg base 46 "parcel_of" ["row"] (spReadRow CB) := by
  refine mk_hasX F sc_parcel_of (fun _ _ _ _ _ _ us hl => match us, hl with | [_], _ => rfl) (fun vs H Q E h => ?_) fun f cdv A outer s H vs Q E hr h => ?_
  · obtain ⟨a, row, rfl, _⟩ := h
    rfl
  obtain ⟨a, row, rfl, ro, t⟩ := h
  refine ⟨_, (pss_cons (ps_expr (pe_hX (takes_of rfl rfl rfl rfl) D_check_row (hr.mono (by decide)) rfl (pa_cons (pv 0) pa_nil)))
    (pss_one (ps_ret (pe_hX (takes_of rfl rfl rfl rfl) D_read_row (hr.mono (by decide)) rfl (pa_cons (pv 0) pa_nil))))), ?_⟩
  have hR := row_rowD ro.b
  have hsl : slim (.tuple (row.map PyData.int)) = true := by
    rw [slim, Bool.and_eq_true, List.length_map]
    refine ⟨decide_eq_true ro.l, ?_⟩
    have : ∀ l : List Int, slimAll (l.map PyData.int) = true := fun l => by
      induction l with
      | nil => rfl
      | cons x l ih => rw [List.map_cons, slimAll, ih]; rfl
    exact this row
  have kF : rowD (.tuple (row.map PyData.int)) = false → ∀ H', Same H H' → E (.ref CN) none H' := fun z => by
    rw [hR] at z
    cases z
  have kT : rowD (.tuple (row.map PyData.int)) = true → ∀ H', Same H H' → spReadRow CB [.ref a] H' Q E := fun _ H1 s1 => by
    refine ⟨a, row, rfl, ro.same s1, ?_⟩
    revert t
    cases toldRow row with
    | inl o =>
      cases o with
      | none => exact fun z => z
      | some q => exact fun t d H' s n e => t d H' (s1.trans s) (s1.free n) e
    | inr d => exact fun t v H' s r => t v H' (s1.trans s) (r.kp Kp.refl fun a o _ n z => n (fun y => by cases q : H a with | none => exact z q | some o => rw [s1 _ _ q] at y; cases y))
  refine ⟨_, rfl, fun _ => False, .ref a, .tuple (row.map PyData.int), rfl, row_data ro.e (fun z => z), hsl, kF, fun h H1 s1 => ?_⟩
  exact ⟨_, rfl, kT h H1 s1⟩
end
end KQ
set_option Elab.async false
set_option maxRecDepth 100000
set_option maxHeartbeats 4000000
namespace KQ
open PySem PySem.Spec PyProof.Rows L2
local macro_rules | `(tactic| trivial) => `(tactic| repeat (first | refine sl_go (by (first | assumption | exact upd_same | (rw [upd_ne (by first | assumption | exact Ne.symm (by assumption))]; first | assumption | exact upd_same | (rw [upd_ne (by first | assumption | exact Ne.symm (by assumption))]; first | assumption | exact upd_same)))) ?_ | (unfold tNoPart; refine sl_go (by (first | assumption | exact upd_same | (rw [upd_ne (by first | assumption | exact Ne.symm (by assumption))]; first | assumption | exact upd_same | (rw [upd_ne (by first | assumption | exact Ne.symm (by assumption))]; first | assumption | exact upd_same)))) ?_) | refine cat_go (by (first | assumption | exact upd_same | (rw [upd_ne (by first | assumption | exact Ne.symm (by assumption))]; first | assumption | exact upd_same | (rw [upd_ne (by first | assumption | exact Ne.symm (by assumption))]; first | assumption | exact upd_same)))) (by (first | assumption | exact upd_same | (rw [upd_ne (by first | assumption | exact Ne.symm (by assumption))]; first | assumption | exact upd_same | (rw [upd_ne (by first | assumption | exact Ne.symm (by assumption))]; first | assumption | exact upd_same)))) ?_ ?_ | (apply And.intro; focus (first | rfl | assumption | exact upd_same | exact SqL.of (by (first | assumption | exact upd_same | (rw [upd_ne (by first | assumption | exact Ne.symm (by assumption))]; first | assumption | exact upd_same | (rw [upd_ne (by first | assumption | exact Ne.symm (by assumption))]; first | assumption | exact upd_same)))) | exact SqT.of (by (first | assumption | exact upd_same | (rw [upd_ne (by first | assumption | exact Ne.symm (by assumption))]; first | assumption | exact upd_same | (rw [upd_ne (by first | assumption | exact Ne.symm (by assumption))]; first | assumption | exact upd_same)))) | exact Or.inl (SqL.of (by (first | assumption | exact upd_same | (rw [upd_ne (by first | assumption | exact Ne.symm (by assumption))]; first | assumption | exact upd_same | (rw [upd_ne (by first | assumption | exact Ne.symm (by assumption))]; first | assumption | exact upd_same))))) | exact Or.inr (SqT.of (by (first | assumption | exact upd_same | (rw [upd_ne (by first | assumption | exact Ne.symm (by assumption))]; first | assumption | exact upd_same | (rw [upd_ne (by first | assumption | exact Ne.symm (by assumption))]; first | assumption | exact upd_same))))) | exact Or.inl ⟨rfl, _, SqL.of (by (first | assumption | exact upd_same | (rw [upd_ne (by first | assumption | exact Ne.symm (by assumption))]; first | assumption | exact upd_same | (rw [upd_ne (by first | assumption | exact Ne.symm (by assumption))]; first | assumption | exact upd_same))))⟩ | (first | assumption | exact upd_same | (rw [upd_ne (by first | assumption | exact Ne.symm (by assumption))]; first | assumption | exact upd_same | (rw [upd_ne (by first | assumption | exact Ne.symm (by assumption))]; first | assumption | exact upd_same))) | decide | exact Nat.le_of_ble_eq_true rfl | omega | (show ∃ xs, SqL _ _ _ xs; exact ⟨_, SqL.of (by (first | assumption | exact upd_same | (rw [upd_ne (by first | assumption | exact Ne.symm (by assumption))]; first | assumption | exact upd_same | (rw [upd_ne (by first | assumption | exact Ne.symm (by assumption))]; first | assumption | exact upd_same))))⟩) | (show ∃ xs, SqT _ _ _ xs; exact ⟨_, SqT.of (by (first | assumption | exact upd_same | (rw [upd_ne (by first | assumption | exact Ne.symm (by assumption))]; first | assumption | exact upd_same | (rw [upd_ne (by first | assumption | exact Ne.symm (by assumption))]; first | assumption | exact upd_same))))⟩) | exact DGet.k (k := Sum.inl _) (by (first | assumption | exact upd_same | (rw [upd_ne (by first | assumption | exact Ne.symm (by assumption))]; first | assumption | exact upd_same | (rw [upd_ne (by first | assumption | exact Ne.symm (by assumption))]; first | assumption | exact upd_same)))) | (show V.int _ = kV (Sum.inl _); rfl) | (show ∃ z, V.str _ = V.str z; exact ⟨_, rfl⟩) | exact Or.inl ⟨by (first | decide | omega), by (first | decide | omega)⟩ | exact Or.inr ⟨by (first | decide | omega), by (first | decide | omega)⟩ | exact ⟨by (first | decide | omega), by (first | decide | omega)⟩ | exact ⟨by decide, by decide, by decide⟩ | exact L2.ClsV.ty _ | exact Dt.ty (by assumption) | exact Dt.kint (by assumption) | exact Dt.kbool (by assumption) | exact Dt.ktuple (by assumption) | exact Dt.klist (by assumption) | exact Dt.kstr (by assumption))) | (apply Exists.intro; apply And.intro; focus (first | rfl | assumption | exact upd_same | exact SqL.of (by (first | assumption | exact upd_same | (rw [upd_ne (by first | assumption | exact Ne.symm (by assumption))]; first | assumption | exact upd_same | (rw [upd_ne (by first | assumption | exact Ne.symm (by assumption))]; first | assumption | exact upd_same)))) | exact SqT.of (by (first | assumption | exact upd_same | (rw [upd_ne (by first | assumption | exact Ne.symm (by assumption))]; first | assumption | exact upd_same | (rw [upd_ne (by first | assumption | exact Ne.symm (by assumption))]; first | assumption | exact upd_same)))) | exact Or.inl (SqL.of (by (first | assumption | exact upd_same | (rw [upd_ne (by first | assumption | exact Ne.symm (by assumption))]; first | assumption | exact upd_same | (rw [upd_ne (by first | assumption | exact Ne.symm (by assumption))]; first | assumption | exact upd_same))))) | exact Or.inr (SqT.of (by (first | assumption | exact upd_same | (rw [upd_ne (by first | assumption | exact Ne.symm (by assumption))]; first | assumption | exact upd_same | (rw [upd_ne (by first | assumption | exact Ne.symm (by assumption))]; first | assumption | exact upd_same))))) | exact Or.inl ⟨rfl, _, SqL.of (by (first | assumption | exact upd_same | (rw [upd_ne (by first | assumption | exact Ne.symm (by assumption))]; first | assumption | exact upd_same | (rw [upd_ne (by first | assumption | exact Ne.symm (by assumption))]; first | assumption | exact upd_same))))⟩ | (first | assumption | exact upd_same | (rw [upd_ne (by first | assumption | exact Ne.symm (by assumption))]; first | assumption | exact upd_same | (rw [upd_ne (by first | assumption | exact Ne.symm (by assumption))]; first | assumption | exact upd_same))) | decide | exact Nat.le_of_ble_eq_true rfl | omega | (show ∃ xs, SqL _ _ _ xs; exact ⟨_, SqL.of (by (first | assumption | exact upd_same | (rw [upd_ne (by first | assumption | exact Ne.symm (by assumption))]; first | assumption | exact upd_same | (rw [upd_ne (by first | assumption | exact Ne.symm (by assumption))]; first | assumption | exact upd_same))))⟩) | (show ∃ xs, SqT _ _ _ xs; exact ⟨_, SqT.of (by (first | assumption | exact upd_same | (rw [upd_ne (by first | assumption | exact Ne.symm (by assumption))]; first | assumption | exact upd_same | (rw [upd_ne (by first | assumption | exact Ne.symm (by assumption))]; first | assumption | exact upd_same))))⟩) | exact DGet.k (k := Sum.inl _) (by (first | assumption | exact upd_same | (rw [upd_ne (by first | assumption | exact Ne.symm (by assumption))]; first | assumption | exact upd_same | (rw [upd_ne (by first | assumption | exact Ne.symm (by assumption))]; first | assumption | exact upd_same)))) | (show V.int _ = kV (Sum.inl _); rfl) | (show ∃ z, V.str _ = V.str z; exact ⟨_, rfl⟩) | exact Or.inl ⟨by (first | decide | omega), by (first | decide | omega)⟩ | exact Or.inr ⟨by (first | decide | omega), by (first | decide | omega)⟩ | exact ⟨by (first | decide | omega), by (first | decide | omega)⟩ | exact ⟨by decide, by decide, by decide⟩ | exact L2.ClsV.ty _ | exact Dt.ty (by assumption) | exact Dt.kint (by assumption) | exact Dt.kbool (by assumption) | exact Dt.ktuple (by assumption) | exact Dt.klist (by assumption) | exact Dt.kstr (by assumption))) | (apply Exists.intro; apply Exists.intro; apply And.intro; focus (first | rfl | assumption | exact upd_same | exact SqL.of (by (first | assumption | exact upd_same | (rw [upd_ne (by first | assumption | exact Ne.symm (by assumption))]; first | assumption | exact upd_same | (rw [upd_ne (by first | assumption | exact Ne.symm (by assumption))]; first | assumption | exact upd_same)))) | exact SqT.of (by (first | assumption | exact upd_same | (rw [upd_ne (by first | assumption | exact Ne.symm (by assumption))]; first | assumption | exact upd_same | (rw [upd_ne (by first | assumption | exact Ne.symm (by assumption))]; first | assumption | exact upd_same)))) | exact Or.inl (SqL.of (by (first | assumption | exact upd_same | (rw [upd_ne (by first | assumption | exact Ne.symm (by assumption))]; first | assumption | exact upd_same | (rw [upd_ne (by first | assumption | exact Ne.symm (by assumption))]; first | assumption | exact upd_same))))) | exact Or.inr (SqT.of (by (first | assumption | exact upd_same | (rw [upd_ne (by first | assumption | exact Ne.symm (by assumption))]; first | assumption | exact upd_same | (rw [upd_ne (by first | assumption | exact Ne.symm (by assumption))]; first | assumption | exact upd_same))))) | exact Or.inl ⟨rfl, _, SqL.of (by (first | assumption | exact upd_same | (rw [upd_ne (by first | assumption | exact Ne.symm (by assumption))]; first | assumption | exact upd_same | (rw [upd_ne (by first | assumption | exact Ne.symm (by assumption))]; first | assumption | exact upd_same))))⟩ | (first | assumption | exact upd_same | (rw [upd_ne (by first | assumption | exact Ne.symm (by assumption))]; first | assumption | exact upd_same | (rw [upd_ne (by first | assumption | exact Ne.symm (by assumption))]; first | assumption | exact upd_same))) | decide | exact Nat.le_of_ble_eq_true rfl | omega | (show ∃ xs, SqL _ _ _ xs; exact ⟨_, SqL.of (by (first | assumption | exact upd_same | (rw [upd_ne (by first | assumption | exact Ne.symm (by assumption))]; first | assumption | exact upd_same | (rw [upd_ne (by first | assumption | exact Ne.symm (by assumption))]; first | assumption | exact upd_same))))⟩) | (show ∃ xs, SqT _ _ _ xs; exact ⟨_, SqT.of (by (first | assumption | exact upd_same | (rw [upd_ne (by first | assumption | exact Ne.symm (by assumption))]; first | assumption | exact upd_same | (rw [upd_ne (by first | assumption | exact Ne.symm (by assumption))]; first | assumption | exact upd_same))))⟩) | exact DGet.k (k := Sum.inl _) (by (first | assumption | exact upd_same | (rw [upd_ne (by first | assumption | exact Ne.symm (by assumption))]; first | assumption | exact upd_same | (rw [upd_ne (by first | assumption | exact Ne.symm (by assumption))]; first | assumption | exact upd_same)))) | (show V.int _ = kV (Sum.inl _); rfl) | (show ∃ z, V.str _ = V.str z; exact ⟨_, rfl⟩) | exact Or.inl ⟨by (first | decide | omega), by (first | decide | omega)⟩ | exact Or.inr ⟨by (first | decide | omega), by (first | decide | omega)⟩ | exact ⟨by (first | decide | omega), by (first | decide | omega)⟩ | exact ⟨by decide, by decide, by decide⟩ | exact L2.ClsV.ty _ | exact Dt.ty (by assumption) | exact Dt.kint (by assumption) | exact Dt.kbool (by assumption) | exact Dt.ktuple (by assumption) | exact Dt.klist (by assumption) | exact Dt.kstr (by assumption))) | (apply Exists.intro; apply Exists.intro; apply Exists.intro; apply And.intro; focus (first | rfl | assumption | exact upd_same | exact SqL.of (by (first | assumption | exact upd_same | (rw [upd_ne (by first | assumption | exact Ne.symm (by assumption))]; first | assumption | exact upd_same | (rw [upd_ne (by first | assumption | exact Ne.symm (by assumption))]; first | assumption | exact upd_same)))) | exact SqT.of (by (first | assumption | exact upd_same | (rw [upd_ne (by first | assumption | exact Ne.symm (by assumption))]; first | assumption | exact upd_same | (rw [upd_ne (by first | assumption | exact Ne.symm (by assumption))]; first | assumption | exact upd_same)))) | exact Or.inl (SqL.of (by (first | assumption | exact upd_same | (rw [upd_ne (by first | assumption | exact Ne.symm (by assumption))]; first | assumption | exact upd_same | (rw [upd_ne (by first | assumption | exact Ne.symm (by assumption))]; first | assumption | exact upd_same))))) | exact Or.inr (SqT.of (by (first | assumption | exact upd_same | (rw [upd_ne (by first | assumption | exact Ne.symm (by assumption))]; first | assumption | exact upd_same | (rw [upd_ne (by first | assumption | exact Ne.symm (by assumption))]; first | assumption | exact upd_same))))) | exact Or.inl ⟨rfl, _, SqL.of (by (first | assumption | exact upd_same | (rw [upd_ne (by first | assumption | exact Ne.symm (by assumption))]; first | assumption | exact upd_same | (rw [upd_ne (by first | assumption | exact Ne.symm (by assumption))]; first | assumption | exact upd_same))))⟩ | (first | assumption | exact upd_same | (rw [upd_ne (by first | assumption | exact Ne.symm (by assumption))]; first | assumption | exact upd_same | (rw [upd_ne (by first | assumption | exact Ne.symm (by assumption))]; first | assumption | exact upd_same))) | decide | exact Nat.le_of_ble_eq_true rfl | omega | (show ∃ xs, SqL _ _ _ xs; exact ⟨_, SqL.of (by (first | assumption | exact upd_same | (rw [upd_ne (by first | assumption | exact Ne.symm (by assumption))]; first | assumption | exact upd_same | (rw [upd_ne (by first | assumption | exact Ne.symm (by assumption))]; first | assumption | exact upd_same))))⟩) | (show ∃ xs, SqT _ _ _ xs; exact ⟨_, SqT.of (by (first | assumption | exact upd_same | (rw [upd_ne (by first | assumption | exact Ne.symm (by assumption))]; first | assumption | exact upd_same | (rw [upd_ne (by first | assumption | exact Ne.symm (by assumption))]; first | assumption | exact upd_same))))⟩) | exact DGet.k (k := Sum.inl _) (by (first | assumption | exact upd_same | (rw [upd_ne (by first | assumption | exact Ne.symm (by assumption))]; first | assumption | exact upd_same | (rw [upd_ne (by first | assumption | exact Ne.symm (by assumption))]; first | assumption | exact upd_same)))) | (show V.int _ = kV (Sum.inl _); rfl) | (show ∃ z, V.str _ = V.str z; exact ⟨_, rfl⟩) | exact Or.inl ⟨by (first | decide | omega), by (first | decide | omega)⟩ | exact Or.inr ⟨by (first | decide | omega), by (first | decide | omega)⟩ | exact ⟨by (first | decide | omega), by (first | decide | omega)⟩ | exact ⟨by decide, by decide, by decide⟩ | exact L2.ClsV.ty _ | exact Dt.ty (by assumption) | exact Dt.kint (by assumption) | exact Dt.kbool (by assumption) | exact Dt.ktuple (by assumption) | exact Dt.klist (by assumption) | exact Dt.kstr (by assumption))) | (apply Exists.intro; apply Exists.intro; apply Exists.intro; apply Exists.intro; apply And.intro; focus (first | rfl | assumption | exact upd_same | exact SqL.of (by (first | assumption | exact upd_same | (rw [upd_ne (by first | assumption | exact Ne.symm (by assumption))]; first | assumption | exact upd_same | (rw [upd_ne (by first | assumption | exact Ne.symm (by assumption))]; first | assumption | exact upd_same)))) | exact SqT.of (by (first | assumption | exact upd_same | (rw [upd_ne (by first | assumption | exact Ne.symm (by assumption))]; first | assumption | exact upd_same | (rw [upd_ne (by first | assumption | exact Ne.symm (by assumption))]; first | assumption | exact upd_same)))) | exact Or.inl (SqL.of (by (first | assumption | exact upd_same | (rw [upd_ne (by first | assumption | exact Ne.symm (by assumption))]; first | assumption | exact upd_same | (rw [upd_ne (by first | assumption | exact Ne.symm (by assumption))]; first | assumption | exact upd_same))))) | exact Or.inr (SqT.of (by (first | assumption | exact upd_same | (rw [upd_ne (by first | assumption | exact Ne.symm (by assumption))]; first | assumption | exact upd_same | (rw [upd_ne (by first | assumption | exact Ne.symm (by assumption))]; first | assumption | exact upd_same))))) | exact Or.inl ⟨rfl, _, SqL.of (by (first | assumption | exact upd_same | (rw [upd_ne (by first | assumption | exact Ne.symm (by assumption))]; first | assumption | exact upd_same | (rw [upd_ne (by first | assumption | exact Ne.symm (by assumption))]; first | assumption | exact upd_same))))⟩ | (first | assumption | exact upd_same | (rw [upd_ne (by first | assumption | exact Ne.symm (by assumption))]; first | assumption | exact upd_same | (rw [upd_ne (by first | assumption | exact Ne.symm (by assumption))]; first | assumption | exact upd_same))) | decide | exact Nat.le_of_ble_eq_true rfl | omega | (show ∃ xs, SqL _ _ _ xs; exact ⟨_, SqL.of (by (first | assumption | exact upd_same | (rw [upd_ne (by first | assumption | exact Ne.symm (by assumption))]; first | assumption | exact upd_same | (rw [upd_ne (by first | assumption | exact Ne.symm (by assumption))]; first | assumption | exact upd_same))))⟩) | (show ∃ xs, SqT _ _ _ xs; exact ⟨_, SqT.of (by (first | assumption | exact upd_same | (rw [upd_ne (by first | assumption | exact Ne.symm (by assumption))]; first | assumption | exact upd_same | (rw [upd_ne (by first | assumption | exact Ne.symm (by assumption))]; first | assumption | exact upd_same))))⟩) | exact DGet.k (k := Sum.inl _) (by (first | assumption | exact upd_same | (rw [upd_ne (by first | assumption | exact Ne.symm (by assumption))]; first | assumption | exact upd_same | (rw [upd_ne (by first | assumption | exact Ne.symm (by assumption))]; first | assumption | exact upd_same)))) | (show V.int _ = kV (Sum.inl _); rfl) | (show ∃ z, V.str _ = V.str z; exact ⟨_, rfl⟩) | exact Or.inl ⟨by (first | decide | omega), by (first | decide | omega)⟩ | exact Or.inr ⟨by (first | decide | omega), by (first | decide | omega)⟩ | exact ⟨by (first | decide | omega), by (first | decide | omega)⟩ | exact ⟨by decide, by decide, by decide⟩ | exact L2.ClsV.ty _ | exact Dt.ty (by assumption) | exact Dt.kint (by assumption) | exact Dt.kbool (by assumption) | exact Dt.ktuple (by assumption) | exact Dt.klist (by assumption) | exact Dt.kstr (by assumption))) | (apply Exists.intro; apply Exists.intro; apply Exists.intro; apply Exists.intro; apply Exists.intro; apply And.intro; focus (first | rfl | assumption | exact upd_same | exact SqL.of (by (first | assumption | exact upd_same | (rw [upd_ne (by first | assumption | exact Ne.symm (by assumption))]; first | assumption | exact upd_same | (rw [upd_ne (by first | assumption | exact Ne.symm (by assumption))]; first | assumption | exact upd_same)))) | exact SqT.of (by (first | assumption | exact upd_same | (rw [upd_ne (by first | assumption | exact Ne.symm (by assumption))]; first | assumption | exact upd_same | (rw [upd_ne (by first | assumption | exact Ne.symm (by assumption))]; first | assumption | exact upd_same)))) | exact Or.inl (SqL.of (by (first | assumption | exact upd_same | (rw [upd_ne (by first | assumption | exact Ne.symm (by assumption))]; first | assumption | exact upd_same | (rw [upd_ne (by first | assumption | exact Ne.symm (by assumption))]; first | assumption | exact upd_same))))) | exact Or.inr (SqT.of (by (first | assumption | exact upd_same | (rw [upd_ne (by first | assumption | exact Ne.symm (by assumption))]; first | assumption | exact upd_same | (rw [upd_ne (by first | assumption | exact Ne.symm (by assumption))]; first | assumption | exact upd_same))))) | exact Or.inl ⟨rfl, _, SqL.of (by (first | assumption | exact upd_same | (rw [upd_ne (by first | assumption | exact Ne.symm (by assumption))]; first | assumption | exact upd_same | (rw [upd_ne (by first | assumption | exact Ne.symm (by assumption))]; first | assumption | exact upd_same))))⟩ | (first | assumption | exact upd_same | (rw [upd_ne (by first | assumption | exact Ne.symm (by assumption))]; first | assumption | exact upd_same | (rw [upd_ne (by first | assumption | exact Ne.symm (by assumption))]; first | assumption | exact upd_same))) | decide | exact Nat.le_of_ble_eq_true rfl | omega | (show ∃ xs, SqL _ _ _ xs; exact ⟨_, SqL.of (by (first | assumption | exact upd_same | (rw [upd_ne (by first | assumption | exact Ne.symm (by assumption))]; first | assumption | exact upd_same | (rw [upd_ne (by first | assumption | exact Ne.symm (by assumption))]; first | assumption | exact upd_same))))⟩) | (show ∃ xs, SqT _ _ _ xs; exact ⟨_, SqT.of (by (first | assumption | exact upd_same | (rw [upd_ne (by first | assumption | exact Ne.symm (by assumption))]; first | assumption | exact upd_same | (rw [upd_ne (by first | assumption | exact Ne.symm (by assumption))]; first | assumption | exact upd_same))))⟩) | exact DGet.k (k := Sum.inl _) (by (first | assumption | exact upd_same | (rw [upd_ne (by first | assumption | exact Ne.symm (by assumption))]; first | assumption | exact upd_same | (rw [upd_ne (by first | assumption | exact Ne.symm (by assumption))]; first | assumption | exact upd_same)))) | (show V.int _ = kV (Sum.inl _); rfl) | (show ∃ z, V.str _ = V.str z; exact ⟨_, rfl⟩) | exact Or.inl ⟨by (first | decide | omega), by (first | decide | omega)⟩ | exact Or.inr ⟨by (first | decide | omega), by (first | decide | omega)⟩ | exact ⟨by (first | decide | omega), by (first | decide | omega)⟩ | exact ⟨by decide, by decide, by decide⟩ | exact L2.ClsV.ty _ | exact Dt.ty (by assumption) | exact Dt.kint (by assumption) | exact Dt.kbool (by assumption) | exact Dt.ktuple (by assumption) | exact Dt.klist (by assumption) | exact Dt.kstr (by assumption))) | (apply Exists.intro; apply Exists.intro; apply Exists.intro; apply Exists.intro; apply Exists.intro; apply Exists.intro; apply And.intro; focus (first | rfl | assumption | exact upd_same | exact SqL.of (by (first | assumption | exact upd_same | (rw [upd_ne (by first | assumption | exact Ne.symm (by assumption))]; first | assumption | exact upd_same | (rw [upd_ne (by first | assumption | exact Ne.symm (by assumption))]; first | assumption | exact upd_same)))) | exact SqT.of (by (first | assumption | exact upd_same | (rw [upd_ne (by first | assumption | exact Ne.symm (by assumption))]; first | assumption | exact upd_same | (rw [upd_ne (by first | assumption | exact Ne.symm (by assumption))]; first | assumption | exact upd_same)))) | exact Or.inl (SqL.of (by (first | assumption | exact upd_same | (rw [upd_ne (by first | assumption | exact Ne.symm (by assumption))]; first | assumption | exact upd_same | (rw [upd_ne (by first | assumption | exact Ne.symm (by assumption))]; first | assumption | exact upd_same))))) | exact Or.inr (SqT.of (by (first | assumption | exact upd_same | (rw [upd_ne (by first | assumption | exact Ne.symm (by assumption))]; first | assumption | exact upd_same | (rw [upd_ne (by first | assumption | exact Ne.symm (by assumption))]; first | assumption | exact upd_same))))) | exact Or.inl ⟨rfl, _, SqL.of (by (first | assumption | exact upd_same | (rw [upd_ne (by first | assumption | exact Ne.symm (by assumption))]; first | assumption | exact upd_same | (rw [upd_ne (by first | assumption | exact Ne.symm (by assumption))]; first | assumption | exact upd_same))))⟩ | (first | assumption | exact upd_same | (rw [upd_ne (by first | assumption | exact Ne.symm (by assumption))]; first | assumption | exact upd_same | (rw [upd_ne (by first | assumption | exact Ne.symm (by assumption))]; first | assumption | exact upd_same))) | decide | exact Nat.le_of_ble_eq_true rfl | omega | (show ∃ xs, SqL _ _ _ xs; exact ⟨_, SqL.of (by (first | assumption | exact upd_same | (rw [upd_ne (by first | assumption | exact Ne.symm (by assumption))]; first | assumption | exact upd_same | (rw [upd_ne (by first | assumption | exact Ne.symm (by assumption))]; first | assumption | exact upd_same))))⟩) | (show ∃ xs, SqT _ _ _ xs; exact ⟨_, SqT.of (by (first | assumption | exact upd_same | (rw [upd_ne (by first | assumption | exact Ne.symm (by assumption))]; first | assumption | exact upd_same | (rw [upd_ne (by first | assumption | exact Ne.symm (by assumption))]; first | assumption | exact upd_same))))⟩) | exact DGet.k (k := Sum.inl _) (by (first | assumption | exact upd_same | (rw [upd_ne (by first | assumption | exact Ne.symm (by assumption))]; first | assumption | exact upd_same | (rw [upd_ne (by first | assumption | exact Ne.symm (by assumption))]; first | assumption | exact upd_same)))) | (show V.int _ = kV (Sum.inl _); rfl) | (show ∃ z, V.str _ = V.str z; exact ⟨_, rfl⟩) | exact Or.inl ⟨by (first | decide | omega), by (first | decide | omega)⟩ | exact Or.inr ⟨by (first | decide | omega), by (first | decide | omega)⟩ | exact ⟨by (first | decide | omega), by (first | decide | omega)⟩ | exact ⟨by decide, by decide, by decide⟩ | exact L2.ClsV.ty _ | exact Dt.ty (by assumption) | exact Dt.kint (by assumption) | exact Dt.kbool (by assumption) | exact Dt.ktuple (by assumption) | exact Dt.klist (by assumption) | exact Dt.kstr (by assumption))) | (apply Exists.intro; apply Exists.intro; apply Exists.intro; apply Exists.intro; apply Exists.intro; apply Exists.intro; apply Exists.intro; apply And.intro; focus (first | rfl | assumption | exact upd_same | exact SqL.of (by (first | assumption | exact upd_same | (rw [upd_ne (by first | assumption | exact Ne.symm (by assumption))]; first | assumption | exact upd_same | (rw [upd_ne (by first | assumption | exact Ne.symm (by assumption))]; first | assumption | exact upd_same)))) | exact SqT.of (by (first | assumption | exact upd_same | (rw [upd_ne (by first | assumption | exact Ne.symm (by assumption))]; first | assumption | exact upd_same | (rw [upd_ne (by first | assumption | exact Ne.symm (by assumption))]; first | assumption | exact upd_same)))) | exact Or.inl (SqL.of (by (first | assumption | exact upd_same | (rw [upd_ne (by first | assumption | exact Ne.symm (by assumption))]; first | assumption | exact upd_same | (rw [upd_ne (by first | assumption | exact Ne.symm (by assumption))]; first | assumption | exact upd_same))))) | exact Or.inr (SqT.of (by (first | assumption | exact upd_same | (rw [upd_ne (by first | assumption | exact Ne.symm (by assumption))]; first | assumption | exact upd_same | (rw [upd_ne (by first | assumption | exact Ne.symm (by assumption))]; first | assumption | exact upd_same))))) | exact Or.inl ⟨rfl, _, SqL.of (by (first | assumption | exact upd_same | (rw [upd_ne (by first | assumption | exact Ne.symm (by assumption))]; first | assumption | exact upd_same | (rw [upd_ne (by first | assumption | exact Ne.symm (by assumption))]; first | assumption | exact upd_same))))⟩ | (first | assumption | exact upd_same | (rw [upd_ne (by first | assumption | exact Ne.symm (by assumption))]; first | assumption | exact upd_same | (rw [upd_ne (by first | assumption | exact Ne.symm (by assumption))]; first | assumption | exact upd_same))) | decide | exact Nat.le_of_ble_eq_true rfl | omega | (show ∃ xs, SqL _ _ _ xs; exact ⟨_, SqL.of (by (first | assumption | exact upd_same | (rw [upd_ne (by first | assumption | exact Ne.symm (by assumption))]; first | assumption | exact upd_same | (rw [upd_ne (by first | assumption | exact Ne.symm (by assumption))]; first | assumption | exact upd_same))))⟩) | (show ∃ xs, SqT _ _ _ xs; exact ⟨_, SqT.of (by (first | assumption | exact upd_same | (rw [upd_ne (by first | assumption | exact Ne.symm (by assumption))]; first | assumption | exact upd_same | (rw [upd_ne (by first | assumption | exact Ne.symm (by assumption))]; first | assumption | exact upd_same))))⟩) | exact DGet.k (k := Sum.inl _) (by (first | assumption | exact upd_same | (rw [upd_ne (by first | assumption | exact Ne.symm (by assumption))]; first | assumption | exact upd_same | (rw [upd_ne (by first | assumption | exact Ne.symm (by assumption))]; first | assumption | exact upd_same)))) | (show V.int _ = kV (Sum.inl _); rfl) | (show ∃ z, V.str _ = V.str z; exact ⟨_, rfl⟩) | exact Or.inl ⟨by (first | decide | omega), by (first | decide | omega)⟩ | exact Or.inr ⟨by (first | decide | omega), by (first | decide | omega)⟩ | exact ⟨by (first | decide | omega), by (first | decide | omega)⟩ | exact ⟨by decide, by decide, by decide⟩ | exact L2.ClsV.ty _ | exact Dt.ty (by assumption) | exact Dt.kint (by assumption) | exact Dt.kbool (by assumption) | exact Dt.ktuple (by assumption) | exact Dt.klist (by assumption) | exact Dt.kstr (by assumption))) | (apply Exists.intro; apply Exists.intro; apply Exists.intro; apply Exists.intro; apply Exists.intro; apply Exists.intro; apply Exists.intro; apply Exists.intro; apply And.intro; focus (first | rfl | assumption | exact upd_same | exact SqL.of (by (first | assumption | exact upd_same | (rw [upd_ne (by first | assumption | exact Ne.symm (by assumption))]; first | assumption | exact upd_same | (rw [upd_ne (by first | assumption | exact Ne.symm (by assumption))]; first | assumption | exact upd_same)))) | exact SqT.of (by (first | assumption | exact upd_same | (rw [upd_ne (by first | assumption | exact Ne.symm (by assumption))]; first | assumption | exact upd_same | (rw [upd_ne (by first | assumption | exact Ne.symm (by assumption))]; first | assumption | exact upd_same)))) | exact Or.inl (SqL.of (by (first | assumption | exact upd_same | (rw [upd_ne (by first | assumption | exact Ne.symm (by assumption))]; first | assumption | exact upd_same | (rw [upd_ne (by first | assumption | exact Ne.symm (by assumption))]; first | assumption | exact upd_same))))) | exact Or.inr (SqT.of (by (first | assumption | exact upd_same | (rw [upd_ne (by first | assumption | exact Ne.symm (by assumption))]; first | assumption | exact upd_same | (rw [upd_ne (by first | assumption | exact Ne.symm (by assumption))]; first | assumption | exact upd_same))))) | exact Or.inl ⟨rfl, _, SqL.of (by (first | assumption | exact upd_same | (rw [upd_ne (by first | assumption | exact Ne.symm (by assumption))]; first | assumption | exact upd_same | (rw [upd_ne (by first | assumption | exact Ne.symm (by assumption))]; first | assumption | exact upd_same))))⟩ | (first | assumption | exact upd_same | (rw [upd_ne (by first | assumption | exact Ne.symm (by assumption))]; first | assumption | exact upd_same | (rw [upd_ne (by first | assumption | exact Ne.symm (by assumption))]; first | assumption | exact upd_same))) | decide | exact Nat.le_of_ble_eq_true rfl | omega | (show ∃ xs, SqL _ _ _ xs; exact ⟨_, SqL.of (by (first | assumption | exact upd_same | (rw [upd_ne (by first | assumption | exact Ne.symm (by assumption))]; first | assumption | exact upd_same | (rw [upd_ne (by first | assumption | exact Ne.symm (by assumption))]; first | assumption | exact upd_same))))⟩) | (show ∃ xs, SqT _ _ _ xs; exact ⟨_, SqT.of (by (first | assumption | exact upd_same | (rw [upd_ne (by first | assumption | exact Ne.symm (by assumption))]; first | assumption | exact upd_same | (rw [upd_ne (by first | assumption | exact Ne.symm (by assumption))]; first | assumption | exact upd_same))))⟩) | exact DGet.k (k := Sum.inl _) (by (first | assumption | exact upd_same | (rw [upd_ne (by first | assumption | exact Ne.symm (by assumption))]; first | assumption | exact upd_same | (rw [upd_ne (by first | assumption | exact Ne.symm (by assumption))]; first | assumption | exact upd_same)))) | (show V.int _ = kV (Sum.inl _); rfl) | (show ∃ z, V.str _ = V.str z; exact ⟨_, rfl⟩) | exact Or.inl ⟨by (first | decide | omega), by (first | decide | omega)⟩ | exact Or.inr ⟨by (first | decide | omega), by (first | decide | omega)⟩ | exact ⟨by (first | decide | omega), by (first | decide | omega)⟩ | exact ⟨by decide, by decide, by decide⟩ | exact L2.ClsV.ty _ | exact Dt.ty (by assumption) | exact Dt.kint (by assumption) | exact Dt.kbool (by assumption) | exact Dt.ktuple (by assumption) | exact Dt.klist (by assumption) | exact Dt.kstr (by assumption))) | (apply Exists.intro; apply Exists.intro; apply Exists.intro; apply Exists.intro; apply Exists.intro; apply Exists.intro; apply Exists.intro; apply Exists.intro; apply Exists.intro; apply And.intro; focus (first | rfl | assumption | exact upd_same | exact SqL.of (by (first | assumption | exact upd_same | (rw [upd_ne (by first | assumption | exact Ne.symm (by assumption))]; first | assumption | exact upd_same | (rw [upd_ne (by first | assumption | exact Ne.symm (by assumption))]; first | assumption | exact upd_same)))) | exact SqT.of (by (first | assumption | exact upd_same | (rw [upd_ne (by first | assumption | exact Ne.symm (by assumption))]; first | assumption | exact upd_same | (rw [upd_ne (by first | assumption | exact Ne.symm (by assumption))]; first | assumption | exact upd_same)))) | exact Or.inl (SqL.of (by (first | assumption | exact upd_same | (rw [upd_ne (by first | assumption | exact Ne.symm (by assumption))]; first | assumption | exact upd_same | (rw [upd_ne (by first | assumption | exact Ne.symm (by assumption))]; first | assumption | exact upd_same))))) | exact Or.inr (SqT.of (by (first | assumption | exact upd_same | (rw [upd_ne (by first | assumption | exact Ne.symm (by assumption))]; first | assumption | exact upd_same | (rw [upd_ne (by first | assumption | exact Ne.symm (by assumption))]; first | assumption | exact upd_same))))) | exact Or.inl ⟨rfl, _, SqL.of (by (first | assumption | exact upd_same | (rw [upd_ne (by first | assumption | exact Ne.symm (by assumption))]; first | assumption | exact upd_same | (rw [upd_ne (by first | assumption | exact Ne.symm (by assumption))]; first | assumption | exact upd_same))))⟩ | (first | assumption | exact upd_same | (rw [upd_ne (by first | assumption | exact Ne.symm (by assumption))]; first | assumption | exact upd_same | (rw [upd_ne (by first | assumption | exact Ne.symm (by assumption))]; first | assumption | exact upd_same))) | decide | exact Nat.le_of_ble_eq_true rfl | omega | (show ∃ xs, SqL _ _ _ xs; exact ⟨_, SqL.of (by (first | assumption | exact upd_same | (rw [upd_ne (by first | assumption | exact Ne.symm (by assumption))]; first | assumption | exact upd_same | (rw [upd_ne (by first | assumption | exact Ne.symm (by assumption))]; first | assumption | exact upd_same))))⟩) | (show ∃ xs, SqT _ _ _ xs; exact ⟨_, SqT.of (by (first | assumption | exact upd_same | (rw [upd_ne (by first | assumption | exact Ne.symm (by assumption))]; first | assumption | exact upd_same | (rw [upd_ne (by first | assumption | exact Ne.symm (by assumption))]; first | assumption | exact upd_same))))⟩) | exact DGet.k (k := Sum.inl _) (by (first | assumption | exact upd_same | (rw [upd_ne (by first | assumption | exact Ne.symm (by assumption))]; first | assumption | exact upd_same | (rw [upd_ne (by first | assumption | exact Ne.symm (by assumption))]; first | assumption | exact upd_same)))) | (show V.int _ = kV (Sum.inl _); rfl) | (show ∃ z, V.str _ = V.str z; exact ⟨_, rfl⟩) | exact Or.inl ⟨by (first | decide | omega), by (first | decide | omega)⟩ | exact Or.inr ⟨by (first | decide | omega), by (first | decide | omega)⟩ | exact ⟨by (first | decide | omega), by (first | decide | omega)⟩ | exact ⟨by decide, by decide, by decide⟩ | exact L2.ClsV.ty _ | exact Dt.ty (by assumption) | exact Dt.kint (by assumption) | exact Dt.kbool (by assumption) | exact Dt.ktuple (by assumption) | exact Dt.klist (by assumption) | exact Dt.kstr (by assumption))) | refine Or.inl ⟨_, rfl, ?_⟩ | refine Or.inr ⟨_, rfl, ?_⟩ | refine Or.inr ⟨SqT.of (by (first | assumption | exact upd_same | (rw [upd_ne (by first | assumption | exact Ne.symm (by assumption))]; first | assumption | exact upd_same | (rw [upd_ne (by first | assumption | exact Ne.symm (by assumption))]; first | assumption | exact upd_same)))), SqT.of (by (first | assumption | exact upd_same | (rw [upd_ne (by first | assumption | exact Ne.symm (by assumption))]; first | assumption | exact upd_same | (rw [upd_ne (by first | assumption | exact Ne.symm (by assumption))]; first | assumption | exact upd_same)))), ?_⟩ | refine Or.inl ⟨SqL.of (by (first | assumption | exact upd_same | (rw [upd_ne (by first | assumption | exact Ne.symm (by assumption))]; first | assumption | exact upd_same | (rw [upd_ne (by first | assumption | exact Ne.symm (by assumption))]; first | assumption | exact upd_same)))), SqL.of (by (first | assumption | exact upd_same | (rw [upd_ne (by first | assumption | exact Ne.symm (by assumption))]; first | assumption | exact upd_same | (rw [upd_ne (by first | assumption | exact Ne.symm (by assumption))]; first | assumption | exact upd_same)))), ?_⟩ | refine Or.inl ⟨SqL.of (by (first | assumption | exact upd_same | (rw [upd_ne (by first | assumption | exact Ne.symm (by assumption))]; first | assumption | exact upd_same | (rw [upd_ne (by first | assumption | exact Ne.symm (by assumption))]; first | assumption | exact upd_same)))), ?_⟩ | refine Or.inr ⟨SqT.of (by (first | assumption | exact upd_same | (rw [upd_ne (by first | assumption | exact Ne.symm (by assumption))]; first | assumption | exact upd_same | (rw [upd_ne (by first | assumption | exact Ne.symm (by assumption))]; first | assumption | exact upd_same)))), ?_⟩ | refine ifT rfl ?_ | refine ifF rfl ?_))
mutual
/-- tuples of flat things, not too long -/
def tidy : PyData → Bool
  | .tuple ds => decide (ds.length ≤ 100000) && tidyAll ds
  | .list _ => false
  | .dict _ => false
  | _ => true
def tidyAll : List PyData → Bool
  | [] => true
  | d :: ds => tidy d && tidyAll ds
end
theorem tidy_mem : ∀ {ds : List PyData} {d : PyData}, tidyAll ds = true → d ∈ ds → tidy d = true
  | [], _, _, h => absurd h (List.not_mem_nil)
  | x :: ds, d, e, h => by
    rw [tidyAll, Bool.and_eq_true] at e
    rcases List.mem_cons.mp h with rfl | h
    · exact e.1
    · exact tidy_mem e.2 h
mutual
/-- no string holds the sign 37 -/
def no37 : PyData → Bool
  | .str x => x.cps.toList.all fun (c : Nat) => !decide (c = 37)
  | .tuple ds => no37All ds
  | _ => true
def no37All : List PyData → Bool
  | [] => true
  | d :: ds => no37 d && no37All ds
end
theorem no37_mem : ∀ {ds : List PyData} {d : PyData}, no37All ds = true → d ∈ ds → no37 d = true
  | [], _, _, h => absurd h (List.not_mem_nil)
  | x :: ds, d, e, h => by
    rw [no37All, Bool.and_eq_true] at e
    rcases List.mem_cons.mp h with rfl | h
    · exact e.1
    · exact no37_mem e.2 h
def rLeS : R2 := fun x y H Q => ∃ i j, x = .str i ∧ y = .str j ∧ Q (.bl (!decide (j.cps.toList < i.cps.toList))) H
def spSameD (n : Nat) : Sp := fun vs H Q _ => ∃ (N N' : Addr → Prop) (v v' : V) (d : PyData), vs = [v, v'] ∧ Rp N H v d ∧ Rp N' H v' d ∧ d.depth ≤ n ∧ tidy d = true ∧ ∀ H', Same H H' → Q (.bl true) H'
def spLIsP (n : Nat) : Sp := fun vs H Q _ => ∃ (N : Addr → Prop) (m : Nat) (v : V) (d : PyData), vs = [v, .int (m : Int)] ∧ m ≤ n ∧ Rp N H v d ∧ slim d = true ∧ no37 d = true ∧ ∀ H', Same H H' → Q (.bl (isP m d)) H'
section
variable {P : Program} {w : World} {K : PySem.W.Frag} {mg : Str → Option Value} {base : Heap} {t1 t2 t3 t4 : Tok} {CB CN : Addr}
theorem lsame_step (B : Bi mg) (F : FunAt K mg "_law_same" s_law_same) (n : Nat) (D_law_same : Has P w K mg base (n + 1) "_law_same" ["one", "other"] (fun vs H Q E => ∃ m, m + 1 = n ∧ spSameD m vs H Q E)) : Has P w K mg base (n + 2) "_law_same" ["one", "other"] (spSameD n) := by
  refine mk_has F sc_law_same (fun _ _ _ _ _ _ us hl => match us, hl with | [_, _], _ => rfl) (fun vs H Q E h => ?_) fun f cdv A outer s H vs Q E hr h => ?_
  · obtain ⟨N, N', v, v', d, rfl, _⟩ := h
    rfl
  obtain ⟨N, N', v, v', d, rfl, r, r', hd, ht, k⟩ := h
  refine ⟨_, (pss_cons (ps_if (PW.pt (pw_or (pt_val (pe_callB call_isi rfl B.isinstance (by decide +kernel) (pa_cons (pv 0) (pa_cons (pe_bltn (v := .ty "tuple") rfl B.tuple (by decide +kernel) rfl) pa_nil)))) (pw_or1 (pt_val (pe_callB call_isi rfl B.isinstance (by decide +kernel) (pa_cons (pv 1) (pa_cons (pe_bltn (v := .ty "tuple") rfl B.tuple (by decide +kernel) rfl) pa_nil)))))))
    (pss_cons (ps_if (PW.pt (pw_or (pt_not (pt_val (pe_callB call_isi rfl B.isinstance (by decide +kernel) (pa_cons (pv 0) (pa_cons (pe_bltn (v := .ty "tuple") rfl B.tuple (by decide +kernel) rfl) pa_nil))))) (pw_or (pt_not (pt_val (pe_callB call_isi rfl B.isinstance (by decide +kernel) (pa_cons (pv 1) (pa_cons (pe_bltn (v := .ty "tuple") rfl B.tuple (by decide +kernel) rfl) pa_nil))))) (pw_or1 (pt_cmpR op_ne (pe_callB call_len_seq rfl B.len PySem.boot_len (pa_cons (pv 0) pa_nil)) (pe_callB call_len_seq rfl B.len PySem.boot_len (pa_cons (pv 1) pa_nil)) (nomark _))))))
    (pss_one (ps_ret pe_bl))
    pss_nil)
    (pss_one (ps_ret (pe_callB (cr_all rfl) rfl B.all (by decide +kernel) (pa_cons (pe_lc (own := [("first", 2), ("later", 3)]) (g := gTup K 2 (gCons (gName 2) (gCons (gName 3) gNil))) (tt := tYes) (te := (tCall (fun vs H Q E => ∃ m, m + 1 = n ∧ spSameD m vs H Q E) [] E0 (tCons (tVar 2) (tCons (tVar 3) tNil)))) rfl sc_law_same.nd (RZ.pi_zipA rfl B.zip (pa_cons (pv 0) (pa_cons (pv 1) pa_nil))) (blkOk_by (own := [("first", 2), ("later", 3)]) (N := ["one", "other", "first", "later"]) (sc := defScope s_law_same) (by decide +kernel)) (fun _ _ _ _ _ => (pg_tup rfl (pgs_cons (pg_name (i := 2) sc_law_same.nd rfl (Or.inl rfl)) (pgs_cons (pg_name (i := 3) sc_law_same.nd rfl (Or.inl rfl)) pgs_nil)))) (fun _ _ _ _ _ => pts_nil) (fun _ _ _ _ _ => (pe_h D_law_same hr rfl (pa_cons (pv 2) (pa_cons (pv 3) pa_nil))))) pa_nil)))))
    pss_nil)
    (pss_one (ps_ret (pe_and (pe_cmpR op_eq (pe_callB call_isi rfl B.isinstance (by decide +kernel) (pa_cons (pv 0) (pa_cons (pe_bltn (v := .ty "bool") rfl B.bool (by decide +kernel) rfl) pa_nil))) (pe_callB call_isi rfl B.isinstance (by decide +kernel) (pa_cons (pv 1) (pa_cons (pe_bltn (v := .ty "bool") rfl B.bool (by decide +kernel) rfl) pa_nil))) (nomark _)) (pe_and (pe_cmpR op_eq (pe_callB call_isi rfl B.isinstance (by decide +kernel) (pa_cons (pv 0) (pa_cons (pe_bltn (v := .ty "str") rfl B.str (by decide +kernel) rfl) pa_nil))) (pe_callB call_isi rfl B.isinstance (by decide +kernel) (pa_cons (pv 1) (pa_cons (pe_bltn (v := .ty "str") rfl B.str (by decide +kernel) rfl) pa_nil))) (nomark _)) (pe_one (pe_cmpR op_eq (pv 0) (pv 1) (nomark _)))))))), ?_⟩
  have d0 := r.dt
  have d1 := r'.dt
  have k0 := k H (Same.refl H)
  cases d with
  | list ds => simp [tidy] at ht
  | dict ds => simp [tidy] at ht
  | none =>
    cases r
    cases r'
    trivial
    exact k0
  | bool b =>
    cases r
    cases r'
    trivial
    rw [decide_eq_true rfl]
    exact k0
  | int i =>
    cases r
    cases r'
    trivial
    rw [decide_eq_true rfl]
    exact k0
  | str x =>
    cases r
    cases r'
    trivial
    rw [decide_eq_true rfl]
    exact k0
  | tuple ds =>
    cases r with
    | @tup a xs _ ea na aa =>
    cases r' with
    | @tup a' xs' _ ea' na' aa' =>
    have d2 := Dt.tup ea
    have d3 := Dt.tup ea'
    rw [tidy, Bool.and_eq_true, decide_eq_true_eq] at ht
    have hl := aa.length
    have hl' := aa'.length
    have dl : decide (V.int (xs.length : Nat) = V.int (xs'.length : Nat)) = true := decide_eq_true (by rw [hl, hl'])
    trivial
    refine ite2 (fun c => ?_) (fun _ => ?_)
    · rw [dl] at c
      cases c
    trivial
    intro D nD
    refine lc_map (walk_zipT (show xs.length = min xs.length xs'.length by omega)) (List.replicate xs.length (.bl true)) (by simp) nD (by omega) (fun i H' _ s => ⟨SqT.of (s _ _ ea), SqT.of (s _ _ ea')⟩) (fun i x H3 H4 Pn hi s3 y fin => ?_) fun H3 s3 e1 => ?_
    · obtain ⟨T, x, z, rfl, nT, rfl, gx, gz⟩ := ypair y
      obtain ⟨dx, mx, gdx, rx⟩ := aa.at_ gx
      obtain ⟨dz, mz, gdz, rz⟩ := aa'.at_ gz
      rw [gdx] at gdz
      cases gdz
      have s4 : Same H (upd H3 T (.tup [x, z])) := s3.trans (same_new0 nT)
      have hd' : dx.depth + 1 ≤ n := Nat.le_trans (Nat.succ_le_succ (depth_mem mx)) hd
      refine ⟨_, _, rfl, SqT.of upd_same, rfl, _, _, rfl, _, _, rfl, rfl, rfl, ?_⟩
      refine ⟨_, rfl, _, rfl, n - 1, by omega, N, N', x, z, dx, rfl, rx.to (Kp.of_same s4), rz.to (Kp.of_same s4), by omega, tidy_mem ht.2 mx, fun H5 s5 => ?_⟩
      exact fin _ _ (by rw [List.getElem?_replicate, if_pos hi]) ((same_new0 nT).trans s5)
    · rw [show (List.replicate xs.length (V.bl true)) = (List.replicate xs.length true).map V.bl by simp] at e1
      trivial
      rw [show (List.replicate xs.length true).all id = true by simp]
      exact k H3 s3
theorem d_lsame (B : Bi mg) (F : FunAt K mg "_law_same" s_law_same) : ∀ n : Nat, Has P w K mg base (n + 2) "_law_same" ["one", "other"] (spSameD n)
  | 0 => lsame_step B F 0 (has_none F (fun _ _ _ _ _ _ us hl => match us, hl with | [_, _], _ => rfl) fun _ _ _ _ ⟨_, e, _⟩ => nomatch e)
  | n + 1 => lsame_step B F (n + 1) ((d_lsame B F n).imp fun _ _ _ _ ⟨m, e, q⟩ => by cases e; exact q)
theorem str_lt1 {c d : Nat} : (([c] : List Nat) < [d]) ↔ c < d := by
  constructor
  · intro h
    cases h with
    | rel h => exact h
    | cons h => cases h
  · exact fun h => List.Lex.rel h
theorem sgn_le {c : Nat} : (!decide (([c] : List Nat) < [32]) && !decide (([126] : List Nat) < [c])) = (decide (32 ≤ c) && decide (c ≤ 126)) := by
  rw [show decide (([c] : List Nat) < [32]) = decide (c < 32) from decide_eq_decide.mpr str_lt1, show decide (([126] : List Nat) < [c]) = decide (126 < c) from decide_eq_decide.mpr str_lt1]
  by_cases h1 : c < 32 <;> by_cases h2 : 126 < c <;> simp [h1, h2] <;> omega
theorem lisp_step (B : Bi mg) (F : FunAt K mg "_law_is_parcel" s_law_is_parcel) (n : Nat)
    (D_law_is_parcel : Has P w K mg base (n + 1) "_law_is_parcel" ["thing", "left"] (fun vs H Q E => ∃ m, m + 1 = n ∧ spLIsP m vs H Q E)) : Has P w K mg base (n + 2) "_law_is_parcel" ["thing", "left"] (spLIsP n) := by
  refine mk_has F sc_law_is_parcel (fun _ _ _ _ _ _ us hl => match us, hl with | [_, _], _ => rfl) (fun vs H Q E h => ?_) fun f cdv A outer s H vs Q E hr h => ?_
  · obtain ⟨N, m, v, d, rfl, _⟩ := h
    rfl
  obtain ⟨N, m, v, d, rfl, hm, r, hs, h37, k⟩ := h
  refine ⟨_, (pss_cons (ps_if (pt_val (pe_callB call_isi rfl B.isinstance (by decide +kernel) (pa_cons (pv 0) (pa_cons (pe_bltn (v := .ty "tuple") rfl B.tuple (by decide +kernel) rfl) pa_nil))))
    (pss_one (ps_ret (pe_and (pe_cmpR op_gt (pv 1) pe_int (nomark _)) (pe_one (pe_callB (cr_all rfl) rfl B.all (by decide +kernel) (pa_cons (pe_lc (own := [("part", 2)]) (g := gName 2) (tt := tYes) (te := (tCall (fun vs H Q E => ∃ m, m + 1 = n ∧ spLIsP m vs H Q E) [] E0 (tCons (tVar 2) (tCons (tOp (rI0 fun i j => .int (i - j)) (tVar 1) (tC (.int 1))) tNil)))) rfl sc_law_is_parcel.nd (pi_tup (pv 0)) (blkOk_by (own := [("part", 2)]) (N := ["thing", "left", "part", "sign"]) (sc := defScope s_law_is_parcel) (by decide +kernel)) (fun _ _ _ _ _ => (pg_name (i := 2) sc_law_is_parcel.nd rfl (Or.inl rfl))) (fun _ _ _ _ _ => pts_nil) (fun _ _ _ _ _ => (pe_h D_law_is_parcel hr rfl (pa_cons (pv 2) (pa_cons (pe_op op_sub (pv 1) pe_int) pa_nil))))) pa_nil))))))
    pss_nil)
    (pss_cons (ps_if (pt_val (pe_callB call_isi rfl B.isinstance (by decide +kernel) (pa_cons (pv 0) (pa_cons (pe_bltn (v := .ty "str") rfl B.str (by decide +kernel) rfl) pa_nil))))
    (pss_one (ps_ret (pe_and (pe_chain op_le op_le pe_int (pe_callB call_len_str rfl B.len PySem.boot_len (pa_cons (pv 0) pa_nil)) pe_int) (pe_one (pe_callB (cr_all rfl) rfl B.all (by decide +kernel) (pa_cons (pe_lc (own := [("sign", 3)]) (g := gName 3) (tt := tYes) (te := tChain rLeS rLeS (tC (.str " ")) (tVar 3) (tC (.str "~"))) rfl sc_law_is_parcel.nd (pi_str (pv 0)) (blkOk_by (own := [("sign", 3)]) (N := ["thing", "left", "part", "sign"]) (sc := defScope s_law_is_parcel) (by decide +kernel)) (fun _ _ _ _ _ => (pg_name (i := 3) sc_law_is_parcel.nd rfl (Or.inl rfl))) (fun _ _ _ _ _ => pts_nil) (fun _ _ _ _ _ => (pe_chain op_le_str op_le_str pe_str (pv 3) pe_str))) pa_nil))))))
    pss_nil)
    (pss_one (ps_ret (pe_or (pe_cmp (pc_isN (pv 0)) rfl) (pe_one (pe_callB call_isi rfl B.isinstance (by decide +kernel) (pa_cons (pv 0) (pa_cons (pe_bltn (v := .ty "int") rfl B.int (by decide +kernel) rfl) pa_nil))))))))), ?_⟩
  have k0 := k H (Same.refl H)
  have d0 := r.dt
  cases d with
  | none =>
    rw [isP_flat (by intro ds z; cases z)] at k0
    cases r
    trivial
    exact k0
  | bool b =>
    rw [isP_flat (by intro ds z; cases z)] at k0
    cases r
    trivial
    exact k0
  | int i =>
    rw [isP_flat (by intro ds z; cases z)] at k0
    cases r
    trivial
    exact k0
  | list ds =>
    rw [isP_flat (by intro ds z; cases z)] at k0
    cases r with
    | lst ea _ _ =>
    have d1 := Dt.lst ea
    trivial
    exact k0
  | dict kvs =>
    rw [isP_flat (by intro ds z; cases z)] at k0
    cases r with
    | emp ea _ =>
    have d1 := Dt.dK ea
    trivial
    exact k0
  | str x =>
    have e1 : isP m (.str x) = strP x := isP_flat (by intro ds z; cases z)
    rw [e1] at k0
    have eP := e1
    cases r
    have hx : x.length ≤ 100000 := by simpa [slim] using hs
    have hz : x.length ≤ sizeLine := by rw [sizeLine_eq]; omega
    have h7 : (x.cps.toList.all fun (c : Nat) => !decide (c = 37)) = true := by simpa [no37] using h37
    have e1' : strP x = (decide (0 < x.length) && decide (x.length ≤ 20) && x.cps.toList.all fun (c : Nat) => sgn (c : Int)) := rfl
    rw [e1'] at k0
    rw [show decide (0 < x.length) = decide ((1 : Int) ≤ (x.length : Nat)) from decide_eq_decide.mpr ⟨fun h => by omega, fun h => by omega⟩, show decide (x.length ≤ 20) = decide (((x.length : Nat) : Int) ≤ 20) from decide_eq_decide.mpr ⟨fun h => by omega, fun h => by omega⟩] at k0
    trivial
    refine ite2 (fun c => ?_) (fun c => ?_)
    · rw [c, Bool.true_and] at k0
      trivial
      refine ite2 (fun c2 => ?_) (fun c2 => ?_)
      · rw [c2, Bool.true_and] at k0
        trivial
        intro D nD
        have lx : x.cps.toList.length = x.cps.size := by simp
        have hx2 : x.cps.size ≤ 16777216 := Nat.le_trans hx (by decide)
        refine lc_map walk_str (x.cps.toList.map fun (q : Nat) => V.bl (sgn (q : Int))) (by rw [List.length_map, lx]) nD hx2 (fun i H' _ s => True.intro) (fun i y H3 H4 Pn hi s2 yy fin => ?_) fun H3 s2 e1 => ?_
        · obtain ⟨rfl, c3, hc, rfl⟩ := yy
          have mc : c3 ∈ x.cps.toList := List.mem_of_getElem? (by rw [Array.getElem?_toList]; exact hc)
          have n7 : c3 ≠ 37 := by simpa using List.all_eq_true.mp h7 c3 mc
          have es : sgn (c3 : Int) = (!decide (([c3] : List Nat) < [32]) && !decide (([126] : List Nat) < [c3])) := by
            rw [sgn_le]
            unfold sgn
            by_cases h1 : 32 ≤ c3 <;> by_cases h2 : c3 ≤ 126 <;> simp [h1, h2] <;> omega
          have fin2 := fin (.bl (sgn (c3 : Int))) _ (by rw [List.getElem?_map, Array.getElem?_toList, hc]; rfl) (Same.refl _)
          rw [es] at fin2
          have eS : (Str.ofString " ").cps.toList = [32] := by decide +kernel
          have eT : (Str.ofString "~").cps.toList = [126] := by decide +kernel
          trivial
          rw [eS]
          refine ite2 (fun c4 => ?_) (fun c4 => ?_)
          · have c4' : (!decide (([c3] : List Nat) < [32])) = true := c4
            rw [c4', Bool.true_and] at fin2
            refine ⟨_, _, rfl, rfl, ?_⟩
            rw [eT]
            exact fin2
          · have c4' : (!decide (([c3] : List Nat) < [32])) = false := Bool.eq_false_iff.mpr c4
            rw [c4', Bool.false_and] at fin2
            exact fin2
        · have e2 : (x.cps.toList.map fun (q : Nat) => V.bl (sgn (q : Int))) = (x.cps.toList.map fun (q : Nat) => sgn (q : Int)).map V.bl := by rw [List.map_map]; rfl
          rw [e2] at e1
          trivial
          have e3 : (x.cps.toList.map fun (q : Nat) => sgn (q : Int)).all id = x.cps.toList.all fun (q : Nat) => sgn (q : Int) := by simp [List.all_map, Function.comp_def]
          rw [e3]
          have kk := k H3 s2
          have d1 : decide (0 < x.length) = true := by have := of_decide_eq_true c; exact decide_eq_true (by omega)
          have d2 : decide (x.length ≤ 20) = true := by have := of_decide_eq_true c2; exact decide_eq_true (by omega)
          rw [eP, e1', d1, d2, Bool.true_and, Bool.true_and] at kk
          exact kk
      · rw [Bool.eq_false_iff.mpr c2, Bool.false_and] at k0
        trivial
        exact k0
    · rw [Bool.eq_false_iff.mpr c, Bool.false_and, Bool.false_and] at k0
      trivial
      exact k0
  | tuple ds =>
    cases r with
    | @tup a xs _ ea na aa =>
    have d1 := Dt.tup ea
    cases m with
    | zero =>
      trivial
      exact k0
    | succ m =>
      rw [slim, Bool.and_eq_true, decide_eq_true_eq] at hs
      rw [no37] at h37
      have hl := aa.length
      have hp : decide ((0 : Int) < ((m + 1 : Nat) : Int)) = true := decide_eq_true (by omega)
      trivial
      rw [hp]
      refine ifT rfl ?_
      trivial
      intro D nD
      refine lc_map (walk_tup (xs := xs)) (ds.map fun d => V.bl (isP m d)) (by rw [List.length_map, hl]) nD (by omega) (fun i H' _ s => SqT.of (s _ _ ea)) (fun i x H3 H4 Pn hi s2 y fin => ?_) fun H3 s2 e1 => ?_
      · obtain ⟨rfl, gx⟩ := y
        obtain ⟨dx, mx, gdx, rx⟩ := aa.at_ gx
        refine ⟨rfl, ?_⟩
        refine ⟨_, rfl, _, rfl, _, _, rfl, rfl, n - 1, by omega, N, m, x, dx, ?_, by omega, rx.to (kp_same s2), slim_mem hs.2 mx, no37_mem h37 mx, fun H5 s5 => ?_⟩
        · show [x, V.int (((m + 1 : Nat) : Int) - 1)] = _
          rw [show ((m + 1 : Nat) : Int) - 1 = (m : Int) by omega]
        · exact fin _ _ (by rw [List.getElem?_map, gdx]; rfl) s5
      · have e2 : (ds.map fun d => V.bl (isP m d)) = (ds.map (isP m)).map V.bl := by rw [List.map_map]; rfl
        rw [e2] at e1
        trivial
        have e3 : (ds.map (isP m)).all id = ds.all (isP m) := by simp [List.all_map]
        rw [e3]
        exact k H3 s2
theorem d_lisp (B : Bi mg) (F : FunAt K mg "_law_is_parcel" s_law_is_parcel) : ∀ n : Nat, Has P w K mg base (n + 2) "_law_is_parcel" ["thing", "left"] (spLIsP n)
  | 0 => lisp_step B F 0 (has_none F (fun _ _ _ _ _ _ us hl => match us, hl with | [_, _], _ => rfl) fun _ _ _ _ ⟨_, e, _⟩ => nomatch e)
  | n + 1 => lisp_step B F (n + 1) ((d_lisp B F n).imp fun _ _ _ _ ⟨m, e, q⟩ => by cases e; exact q)
end
end KQ
set_option Elab.async false
set_option maxRecDepth 100000
set_option maxHeartbeats 4000000
namespace KQ
open PySem PySem.Spec PyProof.Rows L2
local macro_rules | `(tactic| trivial) => `(tactic| repeat (first | refine sl_go (by (first | assumption | exact upd_same | (rw [upd_ne (by first | assumption | exact Ne.symm (by assumption))]; first | assumption | exact upd_same | (rw [upd_ne (by first | assumption | exact Ne.symm (by assumption))]; first | assumption | exact upd_same)))) ?_ | (unfold tNoPart; refine sl_go (by (first | assumption | exact upd_same | (rw [upd_ne (by first | assumption | exact Ne.symm (by assumption))]; first | assumption | exact upd_same | (rw [upd_ne (by first | assumption | exact Ne.symm (by assumption))]; first | assumption | exact upd_same)))) ?_) | refine cat_go (by (first | assumption | exact upd_same | (rw [upd_ne (by first | assumption | exact Ne.symm (by assumption))]; first | assumption | exact upd_same | (rw [upd_ne (by first | assumption | exact Ne.symm (by assumption))]; first | assumption | exact upd_same)))) (by (first | assumption | exact upd_same | (rw [upd_ne (by first | assumption | exact Ne.symm (by assumption))]; first | assumption | exact upd_same | (rw [upd_ne (by first | assumption | exact Ne.symm (by assumption))]; first | assumption | exact upd_same)))) ?_ ?_ | (apply And.intro; focus (first | rfl | assumption | exact upd_same | exact SqL.of (by (first | assumption | exact upd_same | (rw [upd_ne (by first | assumption | exact Ne.symm (by assumption))]; first | assumption | exact upd_same | (rw [upd_ne (by first | assumption | exact Ne.symm (by assumption))]; first | assumption | exact upd_same)))) | exact SqT.of (by (first | assumption | exact upd_same | (rw [upd_ne (by first | assumption | exact Ne.symm (by assumption))]; first | assumption | exact upd_same | (rw [upd_ne (by first | assumption | exact Ne.symm (by assumption))]; first | assumption | exact upd_same)))) | exact Or.inl (SqL.of (by (first | assumption | exact upd_same | (rw [upd_ne (by first | assumption | exact Ne.symm (by assumption))]; first | assumption | exact upd_same | (rw [upd_ne (by first | assumption | exact Ne.symm (by assumption))]; first | assumption | exact upd_same))))) | exact Or.inr (SqT.of (by (first | assumption | exact upd_same | (rw [upd_ne (by first | assumption | exact Ne.symm (by assumption))]; first | assumption | exact upd_same | (rw [upd_ne (by first | assumption | exact Ne.symm (by assumption))]; first | assumption | exact upd_same))))) | exact Or.inl ⟨rfl, _, SqL.of (by (first | assumption | exact upd_same | (rw [upd_ne (by first | assumption | exact Ne.symm (by assumption))]; first | assumption | exact upd_same | (rw [upd_ne (by first | assumption | exact Ne.symm (by assumption))]; first | assumption | exact upd_same))))⟩ | (first | assumption | exact upd_same | (rw [upd_ne (by first | assumption | exact Ne.symm (by assumption))]; first | assumption | exact upd_same | (rw [upd_ne (by first | assumption | exact Ne.symm (by assumption))]; first | assumption | exact upd_same))) | decide | exact Nat.le_of_ble_eq_true rfl | omega | (show ∃ xs, SqL _ _ _ xs; exact ⟨_, SqL.of (by (first | assumption | exact upd_same | (rw [upd_ne (by first | assumption | exact Ne.symm (by assumption))]; first | assumption | exact upd_same | (rw [upd_ne (by first | assumption | exact Ne.symm (by assumption))]; first | assumption | exact upd_same))))⟩) | (show ∃ xs, SqT _ _ _ xs; exact ⟨_, SqT.of (by (first | assumption | exact upd_same | (rw [upd_ne (by first | assumption | exact Ne.symm (by assumption))]; first | assumption | exact upd_same | (rw [upd_ne (by first | assumption | exact Ne.symm (by assumption))]; first | assumption | exact upd_same))))⟩) | exact DGet.k (k := Sum.inl _) (by (first | assumption | exact upd_same | (rw [upd_ne (by first | assumption | exact Ne.symm (by assumption))]; first | assumption | exact upd_same | (rw [upd_ne (by first | assumption | exact Ne.symm (by assumption))]; first | assumption | exact upd_same)))) | (show V.int _ = kV (Sum.inl _); rfl) | (show ∃ z, V.str _ = V.str z; exact ⟨_, rfl⟩) | exact Or.inl ⟨by (first | decide | omega), by (first | decide | omega)⟩ | exact Or.inr ⟨by (first | decide | omega), by (first | decide | omega)⟩ | exact ⟨by (first | decide | omega), by (first | decide | omega)⟩ | exact ⟨by decide, by decide, by decide⟩ | exact L2.ClsV.ty _ | exact Dt.ty (by assumption) | exact Dt.kint (by assumption) | exact Dt.kbool (by assumption) | exact Dt.ktuple (by assumption) | exact Dt.klist (by assumption) | exact Dt.kstr (by assumption))) | (apply Exists.intro; apply And.intro; focus (first | rfl | assumption | exact upd_same | exact SqL.of (by (first | assumption | exact upd_same | (rw [upd_ne (by first | assumption | exact Ne.symm (by assumption))]; first | assumption | exact upd_same | (rw [upd_ne (by first | assumption | exact Ne.symm (by assumption))]; first | assumption | exact upd_same)))) | exact SqT.of (by (first | assumption | exact upd_same | (rw [upd_ne (by first | assumption | exact Ne.symm (by assumption))]; first | assumption | exact upd_same | (rw [upd_ne (by first | assumption | exact Ne.symm (by assumption))]; first | assumption | exact upd_same)))) | exact Or.inl (SqL.of (by (first | assumption | exact upd_same | (rw [upd_ne (by first | assumption | exact Ne.symm (by assumption))]; first | assumption | exact upd_same | (rw [upd_ne (by first | assumption | exact Ne.symm (by assumption))]; first | assumption | exact upd_same))))) | exact Or.inr (SqT.of (by (first | assumption | exact upd_same | (rw [upd_ne (by first | assumption | exact Ne.symm (by assumption))]; first | assumption | exact upd_same | (rw [upd_ne (by first | assumption | exact Ne.symm (by assumption))]; first | assumption | exact upd_same))))) | exact Or.inl ⟨rfl, _, SqL.of (by (first | assumption | exact upd_same | (rw [upd_ne (by first | assumption | exact Ne.symm (by assumption))]; first | assumption | exact upd_same | (rw [upd_ne (by first | assumption | exact Ne.symm (by assumption))]; first | assumption | exact upd_same))))⟩ | (first | assumption | exact upd_same | (rw [upd_ne (by first | assumption | exact Ne.symm (by assumption))]; first | assumption | exact upd_same | (rw [upd_ne (by first | assumption | exact Ne.symm (by assumption))]; first | assumption | exact upd_same))) | decide | exact Nat.le_of_ble_eq_true rfl | omega | (show ∃ xs, SqL _ _ _ xs; exact ⟨_, SqL.of (by (first | assumption | exact upd_same | (rw [upd_ne (by first | assumption | exact Ne.symm (by assumption))]; first | assumption | exact upd_same | (rw [upd_ne (by first | assumption | exact Ne.symm (by assumption))]; first | assumption | exact upd_same))))⟩) | (show ∃ xs, SqT _ _ _ xs; exact ⟨_, SqT.of (by (first | assumption | exact upd_same | (rw [upd_ne (by first | assumption | exact Ne.symm (by assumption))]; first | assumption | exact upd_same | (rw [upd_ne (by first | assumption | exact Ne.symm (by assumption))]; first | assumption | exact upd_same))))⟩) | exact DGet.k (k := Sum.inl _) (by (first | assumption | exact upd_same | (rw [upd_ne (by first | assumption | exact Ne.symm (by assumption))]; first | assumption | exact upd_same | (rw [upd_ne (by first | assumption | exact Ne.symm (by assumption))]; first | assumption | exact upd_same)))) | (show V.int _ = kV (Sum.inl _); rfl) | (show ∃ z, V.str _ = V.str z; exact ⟨_, rfl⟩) | exact Or.inl ⟨by (first | decide | omega), by (first | decide | omega)⟩ | exact Or.inr ⟨by (first | decide | omega), by (first | decide | omega)⟩ | exact ⟨by (first | decide | omega), by (first | decide | omega)⟩ | exact ⟨by decide, by decide, by decide⟩ | exact L2.ClsV.ty _ | exact Dt.ty (by assumption) | exact Dt.kint (by assumption) | exact Dt.kbool (by assumption) | exact Dt.ktuple (by assumption) | exact Dt.klist (by assumption) | exact Dt.kstr (by assumption))) | (apply Exists.intro; apply Exists.intro; apply And.intro; focus (first | rfl | assumption | exact upd_same | exact SqL.of (by (first | assumption | exact upd_same | (rw [upd_ne (by first | assumption | exact Ne.symm (by assumption))]; first | assumption | exact upd_same | (rw [upd_ne (by first | assumption | exact Ne.symm (by assumption))]; first | assumption | exact upd_same)))) | exact SqT.of (by (first | assumption | exact upd_same | (rw [upd_ne (by first | assumption | exact Ne.symm (by assumption))]; first | assumption | exact upd_same | (rw [upd_ne (by first | assumption | exact Ne.symm (by assumption))]; first | assumption | exact upd_same)))) | exact Or.inl (SqL.of (by (first | assumption | exact upd_same | (rw [upd_ne (by first | assumption | exact Ne.symm (by assumption))]; first | assumption | exact upd_same | (rw [upd_ne (by first | assumption | exact Ne.symm (by assumption))]; first | assumption | exact upd_same))))) | exact Or.inr (SqT.of (by (first | assumption | exact upd_same | (rw [upd_ne (by first | assumption | exact Ne.symm (by assumption))]; first | assumption | exact upd_same | (rw [upd_ne (by first | assumption | exact Ne.symm (by assumption))]; first | assumption | exact upd_same))))) | exact Or.inl ⟨rfl, _, SqL.of (by (first | assumption | exact upd_same | (rw [upd_ne (by first | assumption | exact Ne.symm (by assumption))]; first | assumption | exact upd_same | (rw [upd_ne (by first | assumption | exact Ne.symm (by assumption))]; first | assumption | exact upd_same))))⟩ | (first | assumption | exact upd_same | (rw [upd_ne (by first | assumption | exact Ne.symm (by assumption))]; first | assumption | exact upd_same | (rw [upd_ne (by first | assumption | exact Ne.symm (by assumption))]; first | assumption | exact upd_same))) | decide | exact Nat.le_of_ble_eq_true rfl | omega | (show ∃ xs, SqL _ _ _ xs; exact ⟨_, SqL.of (by (first | assumption | exact upd_same | (rw [upd_ne (by first | assumption | exact Ne.symm (by assumption))]; first | assumption | exact upd_same | (rw [upd_ne (by first | assumption | exact Ne.symm (by assumption))]; first | assumption | exact upd_same))))⟩) | (show ∃ xs, SqT _ _ _ xs; exact ⟨_, SqT.of (by (first | assumption | exact upd_same | (rw [upd_ne (by first | assumption | exact Ne.symm (by assumption))]; first | assumption | exact upd_same | (rw [upd_ne (by first | assumption | exact Ne.symm (by assumption))]; first | assumption | exact upd_same))))⟩) | exact DGet.k (k := Sum.inl _) (by (first | assumption | exact upd_same | (rw [upd_ne (by first | assumption | exact Ne.symm (by assumption))]; first | assumption | exact upd_same | (rw [upd_ne (by first | assumption | exact Ne.symm (by assumption))]; first | assumption | exact upd_same)))) | (show V.int _ = kV (Sum.inl _); rfl) | (show ∃ z, V.str _ = V.str z; exact ⟨_, rfl⟩) | exact Or.inl ⟨by (first | decide | omega), by (first | decide | omega)⟩ | exact Or.inr ⟨by (first | decide | omega), by (first | decide | omega)⟩ | exact ⟨by (first | decide | omega), by (first | decide | omega)⟩ | exact ⟨by decide, by decide, by decide⟩ | exact L2.ClsV.ty _ | exact Dt.ty (by assumption) | exact Dt.kint (by assumption) | exact Dt.kbool (by assumption) | exact Dt.ktuple (by assumption) | exact Dt.klist (by assumption) | exact Dt.kstr (by assumption))) | (apply Exists.intro; apply Exists.intro; apply Exists.intro; apply And.intro; focus (first | rfl | assumption | exact upd_same | exact SqL.of (by (first | assumption | exact upd_same | (rw [upd_ne (by first | assumption | exact Ne.symm (by assumption))]; first | assumption | exact upd_same | (rw [upd_ne (by first | assumption | exact Ne.symm (by assumption))]; first | assumption | exact upd_same)))) | exact SqT.of (by (first | assumption | exact upd_same | (rw [upd_ne (by first | assumption | exact Ne.symm (by assumption))]; first | assumption | exact upd_same | (rw [upd_ne (by first | assumption | exact Ne.symm (by assumption))]; first | assumption | exact upd_same)))) | exact Or.inl (SqL.of (by (first | assumption | exact upd_same | (rw [upd_ne (by first | assumption | exact Ne.symm (by assumption))]; first | assumption | exact upd_same | (rw [upd_ne (by first | assumption | exact Ne.symm (by assumption))]; first | assumption | exact upd_same))))) | exact Or.inr (SqT.of (by (first | assumption | exact upd_same | (rw [upd_ne (by first | assumption | exact Ne.symm (by assumption))]; first | assumption | exact upd_same | (rw [upd_ne (by first | assumption | exact Ne.symm (by assumption))]; first | assumption | exact upd_same))))) | exact Or.inl ⟨rfl, _, SqL.of (by (first | assumption | exact upd_same | (rw [upd_ne (by first | assumption | exact Ne.symm (by assumption))]; first | assumption | exact upd_same | (rw [upd_ne (by first | assumption | exact Ne.symm (by assumption))]; first | assumption | exact upd_same))))⟩ | (first | assumption | exact upd_same | (rw [upd_ne (by first | assumption | exact Ne.symm (by assumption))]; first | assumption | exact upd_same | (rw [upd_ne (by first | assumption | exact Ne.symm (by assumption))]; first | assumption | exact upd_same))) | decide | exact Nat.le_of_ble_eq_true rfl | omega | (show ∃ xs, SqL _ _ _ xs; exact ⟨_, SqL.of (by (first | assumption | exact upd_same | (rw [upd_ne (by first | assumption | exact Ne.symm (by assumption))]; first | assumption | exact upd_same | (rw [upd_ne (by first | assumption | exact Ne.symm (by assumption))]; first | assumption | exact upd_same))))⟩) | (show ∃ xs, SqT _ _ _ xs; exact ⟨_, SqT.of (by (first | assumption | exact upd_same | (rw [upd_ne (by first | assumption | exact Ne.symm (by assumption))]; first | assumption | exact upd_same | (rw [upd_ne (by first | assumption | exact Ne.symm (by assumption))]; first | assumption | exact upd_same))))⟩) | exact DGet.k (k := Sum.inl _) (by (first | assumption | exact upd_same | (rw [upd_ne (by first | assumption | exact Ne.symm (by assumption))]; first | assumption | exact upd_same | (rw [upd_ne (by first | assumption | exact Ne.symm (by assumption))]; first | assumption | exact upd_same)))) | (show V.int _ = kV (Sum.inl _); rfl) | (show ∃ z, V.str _ = V.str z; exact ⟨_, rfl⟩) | exact Or.inl ⟨by (first | decide | omega), by (first | decide | omega)⟩ | exact Or.inr ⟨by (first | decide | omega), by (first | decide | omega)⟩ | exact ⟨by (first | decide | omega), by (first | decide | omega)⟩ | exact ⟨by decide, by decide, by decide⟩ | exact L2.ClsV.ty _ | exact Dt.ty (by assumption) | exact Dt.kint (by assumption) | exact Dt.kbool (by assumption) | exact Dt.ktuple (by assumption) | exact Dt.klist (by assumption) | exact Dt.kstr (by assumption))) | (apply Exists.intro; apply Exists.intro; apply Exists.intro; apply Exists.intro; apply And.intro; focus (first | rfl | assumption | exact upd_same | exact SqL.of (by (first | assumption | exact upd_same | (rw [upd_ne (by first | assumption | exact Ne.symm (by assumption))]; first | assumption | exact upd_same | (rw [upd_ne (by first | assumption | exact Ne.symm (by assumption))]; first | assumption | exact upd_same)))) | exact SqT.of (by (first | assumption | exact upd_same | (rw [upd_ne (by first | assumption | exact Ne.symm (by assumption))]; first | assumption | exact upd_same | (rw [upd_ne (by first | assumption | exact Ne.symm (by assumption))]; first | assumption | exact upd_same)))) | exact Or.inl (SqL.of (by (first | assumption | exact upd_same | (rw [upd_ne (by first | assumption | exact Ne.symm (by assumption))]; first | assumption | exact upd_same | (rw [upd_ne (by first | assumption | exact Ne.symm (by assumption))]; first | assumption | exact upd_same))))) | exact Or.inr (SqT.of (by (first | assumption | exact upd_same | (rw [upd_ne (by first | assumption | exact Ne.symm (by assumption))]; first | assumption | exact upd_same | (rw [upd_ne (by first | assumption | exact Ne.symm (by assumption))]; first | assumption | exact upd_same))))) | exact Or.inl ⟨rfl, _, SqL.of (by (first | assumption | exact upd_same | (rw [upd_ne (by first | assumption | exact Ne.symm (by assumption))]; first | assumption | exact upd_same | (rw [upd_ne (by first | assumption | exact Ne.symm (by assumption))]; first | assumption | exact upd_same))))⟩ | (first | assumption | exact upd_same | (rw [upd_ne (by first | assumption | exact Ne.symm (by assumption))]; first | assumption | exact upd_same | (rw [upd_ne (by first | assumption | exact Ne.symm (by assumption))]; first | assumption | exact upd_same))) | decide | exact Nat.le_of_ble_eq_true rfl | omega | (show ∃ xs, SqL _ _ _ xs; exact ⟨_, SqL.of (by (first | assumption | exact upd_same | (rw [upd_ne (by first | assumption | exact Ne.symm (by assumption))]; first | assumption | exact upd_same | (rw [upd_ne (by first | assumption | exact Ne.symm (by assumption))]; first | assumption | exact upd_same))))⟩) | (show ∃ xs, SqT _ _ _ xs; exact ⟨_, SqT.of (by (first | assumption | exact upd_same | (rw [upd_ne (by first | assumption | exact Ne.symm (by assumption))]; first | assumption | exact upd_same | (rw [upd_ne (by first | assumption | exact Ne.symm (by assumption))]; first | assumption | exact upd_same))))⟩) | exact DGet.k (k := Sum.inl _) (by (first | assumption | exact upd_same | (rw [upd_ne (by first | assumption | exact Ne.symm (by assumption))]; first | assumption | exact upd_same | (rw [upd_ne (by first | assumption | exact Ne.symm (by assumption))]; first | assumption | exact upd_same)))) | (show V.int _ = kV (Sum.inl _); rfl) | (show ∃ z, V.str _ = V.str z; exact ⟨_, rfl⟩) | exact Or.inl ⟨by (first | decide | omega), by (first | decide | omega)⟩ | exact Or.inr ⟨by (first | decide | omega), by (first | decide | omega)⟩ | exact ⟨by (first | decide | omega), by (first | decide | omega)⟩ | exact ⟨by decide, by decide, by decide⟩ | exact L2.ClsV.ty _ | exact Dt.ty (by assumption) | exact Dt.kint (by assumption) | exact Dt.kbool (by assumption) | exact Dt.ktuple (by assumption) | exact Dt.klist (by assumption) | exact Dt.kstr (by assumption))) | (apply Exists.intro; apply Exists.intro; apply Exists.intro; apply Exists.intro; apply Exists.intro; apply And.intro; focus (first | rfl | assumption | exact upd_same | exact SqL.of (by (first | assumption | exact upd_same | (rw [upd_ne (by first | assumption | exact Ne.symm (by assumption))]; first | assumption | exact upd_same | (rw [upd_ne (by first | assumption | exact Ne.symm (by assumption))]; first | assumption | exact upd_same)))) | exact SqT.of (by (first | assumption | exact upd_same | (rw [upd_ne (by first | assumption | exact Ne.symm (by assumption))]; first | assumption | exact upd_same | (rw [upd_ne (by first | assumption | exact Ne.symm (by assumption))]; first | assumption | exact upd_same)))) | exact Or.inl (SqL.of (by (first | assumption | exact upd_same | (rw [upd_ne (by first | assumption | exact Ne.symm (by assumption))]; first | assumption | exact upd_same | (rw [upd_ne (by first | assumption | exact Ne.symm (by assumption))]; first | assumption | exact upd_same))))) | exact Or.inr (SqT.of (by (first | assumption | exact upd_same | (rw [upd_ne (by first | assumption | exact Ne.symm (by assumption))]; first | assumption | exact upd_same | (rw [upd_ne (by first | assumption | exact Ne.symm (by assumption))]; first | assumption | exact upd_same))))) | exact Or.inl ⟨rfl, _, SqL.of (by (first | assumption | exact upd_same | (rw [upd_ne (by first | assumption | exact Ne.symm (by assumption))]; first | assumption | exact upd_same | (rw [upd_ne (by first | assumption | exact Ne.symm (by assumption))]; first | assumption | exact upd_same))))⟩ | (first | assumption | exact upd_same | (rw [upd_ne (by first | assumption | exact Ne.symm (by assumption))]; first | assumption | exact upd_same | (rw [upd_ne (by first | assumption | exact Ne.symm (by assumption))]; first | assumption | exact upd_same))) | decide | exact Nat.le_of_ble_eq_true rfl | omega | (show ∃ xs, SqL _ _ _ xs; exact ⟨_, SqL.of (by (first | assumption | exact upd_same | (rw [upd_ne (by first | assumption | exact Ne.symm (by assumption))]; first | assumption | exact upd_same | (rw [upd_ne (by first | assumption | exact Ne.symm (by assumption))]; first | assumption | exact upd_same))))⟩) | (show ∃ xs, SqT _ _ _ xs; exact ⟨_, SqT.of (by (first | assumption | exact upd_same | (rw [upd_ne (by first | assumption | exact Ne.symm (by assumption))]; first | assumption | exact upd_same | (rw [upd_ne (by first | assumption | exact Ne.symm (by assumption))]; first | assumption | exact upd_same))))⟩) | exact DGet.k (k := Sum.inl _) (by (first | assumption | exact upd_same | (rw [upd_ne (by first | assumption | exact Ne.symm (by assumption))]; first | assumption | exact upd_same | (rw [upd_ne (by first | assumption | exact Ne.symm (by assumption))]; first | assumption | exact upd_same)))) | (show V.int _ = kV (Sum.inl _); rfl) | (show ∃ z, V.str _ = V.str z; exact ⟨_, rfl⟩) | exact Or.inl ⟨by (first | decide | omega), by (first | decide | omega)⟩ | exact Or.inr ⟨by (first | decide | omega), by (first | decide | omega)⟩ | exact ⟨by (first | decide | omega), by (first | decide | omega)⟩ | exact ⟨by decide, by decide, by decide⟩ | exact L2.ClsV.ty _ | exact Dt.ty (by assumption) | exact Dt.kint (by assumption) | exact Dt.kbool (by assumption) | exact Dt.ktuple (by assumption) | exact Dt.klist (by assumption) | exact Dt.kstr (by assumption))) | (apply Exists.intro; apply Exists.intro; apply Exists.intro; apply Exists.intro; apply Exists.intro; apply Exists.intro; apply And.intro; focus (first | rfl | assumption | exact upd_same | exact SqL.of (by (first | assumption | exact upd_same | (rw [upd_ne (by first | assumption | exact Ne.symm (by assumption))]; first | assumption | exact upd_same | (rw [upd_ne (by first | assumption | exact Ne.symm (by assumption))]; first | assumption | exact upd_same)))) | exact SqT.of (by (first | assumption | exact upd_same | (rw [upd_ne (by first | assumption | exact Ne.symm (by assumption))]; first | assumption | exact upd_same | (rw [upd_ne (by first | assumption | exact Ne.symm (by assumption))]; first | assumption | exact upd_same)))) | exact Or.inl (SqL.of (by (first | assumption | exact upd_same | (rw [upd_ne (by first | assumption | exact Ne.symm (by assumption))]; first | assumption | exact upd_same | (rw [upd_ne (by first | assumption | exact Ne.symm (by assumption))]; first | assumption | exact upd_same))))) | exact Or.inr (SqT.of (by (first | assumption | exact upd_same | (rw [upd_ne (by first | assumption | exact Ne.symm (by assumption))]; first | assumption | exact upd_same | (rw [upd_ne (by first | assumption | exact Ne.symm (by assumption))]; first | assumption | exact upd_same))))) | exact Or.inl ⟨rfl, _, SqL.of (by (first | assumption | exact upd_same | (rw [upd_ne (by first | assumption | exact Ne.symm (by assumption))]; first | assumption | exact upd_same | (rw [upd_ne (by first | assumption | exact Ne.symm (by assumption))]; first | assumption | exact upd_same))))⟩ | (first | assumption | exact upd_same | (rw [upd_ne (by first | assumption | exact Ne.symm (by assumption))]; first | assumption | exact upd_same | (rw [upd_ne (by first | assumption | exact Ne.symm (by assumption))]; first | assumption | exact upd_same))) | decide | exact Nat.le_of_ble_eq_true rfl | omega | (show ∃ xs, SqL _ _ _ xs; exact ⟨_, SqL.of (by (first | assumption | exact upd_same | (rw [upd_ne (by first | assumption | exact Ne.symm (by assumption))]; first | assumption | exact upd_same | (rw [upd_ne (by first | assumption | exact Ne.symm (by assumption))]; first | assumption | exact upd_same))))⟩) | (show ∃ xs, SqT _ _ _ xs; exact ⟨_, SqT.of (by (first | assumption | exact upd_same | (rw [upd_ne (by first | assumption | exact Ne.symm (by assumption))]; first | assumption | exact upd_same | (rw [upd_ne (by first | assumption | exact Ne.symm (by assumption))]; first | assumption | exact upd_same))))⟩) | exact DGet.k (k := Sum.inl _) (by (first | assumption | exact upd_same | (rw [upd_ne (by first | assumption | exact Ne.symm (by assumption))]; first | assumption | exact upd_same | (rw [upd_ne (by first | assumption | exact Ne.symm (by assumption))]; first | assumption | exact upd_same)))) | (show V.int _ = kV (Sum.inl _); rfl) | (show ∃ z, V.str _ = V.str z; exact ⟨_, rfl⟩) | exact Or.inl ⟨by (first | decide | omega), by (first | decide | omega)⟩ | exact Or.inr ⟨by (first | decide | omega), by (first | decide | omega)⟩ | exact ⟨by (first | decide | omega), by (first | decide | omega)⟩ | exact ⟨by decide, by decide, by decide⟩ | exact L2.ClsV.ty _ | exact Dt.ty (by assumption) | exact Dt.kint (by assumption) | exact Dt.kbool (by assumption) | exact Dt.ktuple (by assumption) | exact Dt.klist (by assumption) | exact Dt.kstr (by assumption))) | (apply Exists.intro; apply Exists.intro; apply Exists.intro; apply Exists.intro; apply Exists.intro; apply Exists.intro; apply Exists.intro; apply And.intro; focus (first | rfl | assumption | exact upd_same | exact SqL.of (by (first | assumption | exact upd_same | (rw [upd_ne (by first | assumption | exact Ne.symm (by assumption))]; first | assumption | exact upd_same | (rw [upd_ne (by first | assumption | exact Ne.symm (by assumption))]; first | assumption | exact upd_same)))) | exact SqT.of (by (first | assumption | exact upd_same | (rw [upd_ne (by first | assumption | exact Ne.symm (by assumption))]; first | assumption | exact upd_same | (rw [upd_ne (by first | assumption | exact Ne.symm (by assumption))]; first | assumption | exact upd_same)))) | exact Or.inl (SqL.of (by (first | assumption | exact upd_same | (rw [upd_ne (by first | assumption | exact Ne.symm (by assumption))]; first | assumption | exact upd_same | (rw [upd_ne (by first | assumption | exact Ne.symm (by assumption))]; first | assumption | exact upd_same))))) | exact Or.inr (SqT.of (by (first | assumption | exact upd_same | (rw [upd_ne (by first | assumption | exact Ne.symm (by assumption))]; first | assumption | exact upd_same | (rw [upd_ne (by first | assumption | exact Ne.symm (by assumption))]; first | assumption | exact upd_same))))) | exact Or.inl ⟨rfl, _, SqL.of (by (first | assumption | exact upd_same | (rw [upd_ne (by first | assumption | exact Ne.symm (by assumption))]; first | assumption | exact upd_same | (rw [upd_ne (by first | assumption | exact Ne.symm (by assumption))]; first | assumption | exact upd_same))))⟩ | (first | assumption | exact upd_same | (rw [upd_ne (by first | assumption | exact Ne.symm (by assumption))]; first | assumption | exact upd_same | (rw [upd_ne (by first | assumption | exact Ne.symm (by assumption))]; first | assumption | exact upd_same))) | decide | exact Nat.le_of_ble_eq_true rfl | omega | (show ∃ xs, SqL _ _ _ xs; exact ⟨_, SqL.of (by (first | assumption | exact upd_same | (rw [upd_ne (by first | assumption | exact Ne.symm (by assumption))]; first | assumption | exact upd_same | (rw [upd_ne (by first | assumption | exact Ne.symm (by assumption))]; first | assumption | exact upd_same))))⟩) | (show ∃ xs, SqT _ _ _ xs; exact ⟨_, SqT.of (by (first | assumption | exact upd_same | (rw [upd_ne (by first | assumption | exact Ne.symm (by assumption))]; first | assumption | exact upd_same | (rw [upd_ne (by first | assumption | exact Ne.symm (by assumption))]; first | assumption | exact upd_same))))⟩) | exact DGet.k (k := Sum.inl _) (by (first | assumption | exact upd_same | (rw [upd_ne (by first | assumption | exact Ne.symm (by assumption))]; first | assumption | exact upd_same | (rw [upd_ne (by first | assumption | exact Ne.symm (by assumption))]; first | assumption | exact upd_same)))) | (show V.int _ = kV (Sum.inl _); rfl) | (show ∃ z, V.str _ = V.str z; exact ⟨_, rfl⟩) | exact Or.inl ⟨by (first | decide | omega), by (first | decide | omega)⟩ | exact Or.inr ⟨by (first | decide | omega), by (first | decide | omega)⟩ | exact ⟨by (first | decide | omega), by (first | decide | omega)⟩ | exact ⟨by decide, by decide, by decide⟩ | exact L2.ClsV.ty _ | exact Dt.ty (by assumption) | exact Dt.kint (by assumption) | exact Dt.kbool (by assumption) | exact Dt.ktuple (by assumption) | exact Dt.klist (by assumption) | exact Dt.kstr (by assumption))) | (apply Exists.intro; apply Exists.intro; apply Exists.intro; apply Exists.intro; apply Exists.intro; apply Exists.intro; apply Exists.intro; apply Exists.intro; apply And.intro; focus (first | rfl | assumption | exact upd_same | exact SqL.of (by (first | assumption | exact upd_same | (rw [upd_ne (by first | assumption | exact Ne.symm (by assumption))]; first | assumption | exact upd_same | (rw [upd_ne (by first | assumption | exact Ne.symm (by assumption))]; first | assumption | exact upd_same)))) | exact SqT.of (by (first | assumption | exact upd_same | (rw [upd_ne (by first | assumption | exact Ne.symm (by assumption))]; first | assumption | exact upd_same | (rw [upd_ne (by first | assumption | exact Ne.symm (by assumption))]; first | assumption | exact upd_same)))) | exact Or.inl (SqL.of (by (first | assumption | exact upd_same | (rw [upd_ne (by first | assumption | exact Ne.symm (by assumption))]; first | assumption | exact upd_same | (rw [upd_ne (by first | assumption | exact Ne.symm (by assumption))]; first | assumption | exact upd_same))))) | exact Or.inr (SqT.of (by (first | assumption | exact upd_same | (rw [upd_ne (by first | assumption | exact Ne.symm (by assumption))]; first | assumption | exact upd_same | (rw [upd_ne (by first | assumption | exact Ne.symm (by assumption))]; first | assumption | exact upd_same))))) | exact Or.inl ⟨rfl, _, SqL.of (by (first | assumption | exact upd_same | (rw [upd_ne (by first | assumption | exact Ne.symm (by assumption))]; first | assumption | exact upd_same | (rw [upd_ne (by first | assumption | exact Ne.symm (by assumption))]; first | assumption | exact upd_same))))⟩ | (first | assumption | exact upd_same | (rw [upd_ne (by first | assumption | exact Ne.symm (by assumption))]; first | assumption | exact upd_same | (rw [upd_ne (by first | assumption | exact Ne.symm (by assumption))]; first | assumption | exact upd_same))) | decide | exact Nat.le_of_ble_eq_true rfl | omega | (show ∃ xs, SqL _ _ _ xs; exact ⟨_, SqL.of (by (first | assumption | exact upd_same | (rw [upd_ne (by first | assumption | exact Ne.symm (by assumption))]; first | assumption | exact upd_same | (rw [upd_ne (by first | assumption | exact Ne.symm (by assumption))]; first | assumption | exact upd_same))))⟩) | (show ∃ xs, SqT _ _ _ xs; exact ⟨_, SqT.of (by (first | assumption | exact upd_same | (rw [upd_ne (by first | assumption | exact Ne.symm (by assumption))]; first | assumption | exact upd_same | (rw [upd_ne (by first | assumption | exact Ne.symm (by assumption))]; first | assumption | exact upd_same))))⟩) | exact DGet.k (k := Sum.inl _) (by (first | assumption | exact upd_same | (rw [upd_ne (by first | assumption | exact Ne.symm (by assumption))]; first | assumption | exact upd_same | (rw [upd_ne (by first | assumption | exact Ne.symm (by assumption))]; first | assumption | exact upd_same)))) | (show V.int _ = kV (Sum.inl _); rfl) | (show ∃ z, V.str _ = V.str z; exact ⟨_, rfl⟩) | exact Or.inl ⟨by (first | decide | omega), by (first | decide | omega)⟩ | exact Or.inr ⟨by (first | decide | omega), by (first | decide | omega)⟩ | exact ⟨by (first | decide | omega), by (first | decide | omega)⟩ | exact ⟨by decide, by decide, by decide⟩ | exact L2.ClsV.ty _ | exact Dt.ty (by assumption) | exact Dt.kint (by assumption) | exact Dt.kbool (by assumption) | exact Dt.ktuple (by assumption) | exact Dt.klist (by assumption) | exact Dt.kstr (by assumption))) | (apply Exists.intro; apply Exists.intro; apply Exists.intro; apply Exists.intro; apply Exists.intro; apply Exists.intro; apply Exists.intro; apply Exists.intro; apply Exists.intro; apply And.intro; focus (first | rfl | assumption | exact upd_same | exact SqL.of (by (first | assumption | exact upd_same | (rw [upd_ne (by first | assumption | exact Ne.symm (by assumption))]; first | assumption | exact upd_same | (rw [upd_ne (by first | assumption | exact Ne.symm (by assumption))]; first | assumption | exact upd_same)))) | exact SqT.of (by (first | assumption | exact upd_same | (rw [upd_ne (by first | assumption | exact Ne.symm (by assumption))]; first | assumption | exact upd_same | (rw [upd_ne (by first | assumption | exact Ne.symm (by assumption))]; first | assumption | exact upd_same)))) | exact Or.inl (SqL.of (by (first | assumption | exact upd_same | (rw [upd_ne (by first | assumption | exact Ne.symm (by assumption))]; first | assumption | exact upd_same | (rw [upd_ne (by first | assumption | exact Ne.symm (by assumption))]; first | assumption | exact upd_same))))) | exact Or.inr (SqT.of (by (first | assumption | exact upd_same | (rw [upd_ne (by first | assumption | exact Ne.symm (by assumption))]; first | assumption | exact upd_same | (rw [upd_ne (by first | assumption | exact Ne.symm (by assumption))]; first | assumption | exact upd_same))))) | exact Or.inl ⟨rfl, _, SqL.of (by (first | assumption | exact upd_same | (rw [upd_ne (by first | assumption | exact Ne.symm (by assumption))]; first | assumption | exact upd_same | (rw [upd_ne (by first | assumption | exact Ne.symm (by assumption))]; first | assumption | exact upd_same))))⟩ | (first | assumption | exact upd_same | (rw [upd_ne (by first | assumption | exact Ne.symm (by assumption))]; first | assumption | exact upd_same | (rw [upd_ne (by first | assumption | exact Ne.symm (by assumption))]; first | assumption | exact upd_same))) | decide | exact Nat.le_of_ble_eq_true rfl | omega | (show ∃ xs, SqL _ _ _ xs; exact ⟨_, SqL.of (by (first | assumption | exact upd_same | (rw [upd_ne (by first | assumption | exact Ne.symm (by assumption))]; first | assumption | exact upd_same | (rw [upd_ne (by first | assumption | exact Ne.symm (by assumption))]; first | assumption | exact upd_same))))⟩) | (show ∃ xs, SqT _ _ _ xs; exact ⟨_, SqT.of (by (first | assumption | exact upd_same | (rw [upd_ne (by first | assumption | exact Ne.symm (by assumption))]; first | assumption | exact upd_same | (rw [upd_ne (by first | assumption | exact Ne.symm (by assumption))]; first | assumption | exact upd_same))))⟩) | exact DGet.k (k := Sum.inl _) (by (first | assumption | exact upd_same | (rw [upd_ne (by first | assumption | exact Ne.symm (by assumption))]; first | assumption | exact upd_same | (rw [upd_ne (by first | assumption | exact Ne.symm (by assumption))]; first | assumption | exact upd_same)))) | (show V.int _ = kV (Sum.inl _); rfl) | (show ∃ z, V.str _ = V.str z; exact ⟨_, rfl⟩) | exact Or.inl ⟨by (first | decide | omega), by (first | decide | omega)⟩ | exact Or.inr ⟨by (first | decide | omega), by (first | decide | omega)⟩ | exact ⟨by (first | decide | omega), by (first | decide | omega)⟩ | exact ⟨by decide, by decide, by decide⟩ | exact L2.ClsV.ty _ | exact Dt.ty (by assumption) | exact Dt.kint (by assumption) | exact Dt.kbool (by assumption) | exact Dt.ktuple (by assumption) | exact Dt.klist (by assumption) | exact Dt.kstr (by assumption))) | refine Or.inl ⟨_, rfl, ?_⟩ | refine Or.inr ⟨_, rfl, ?_⟩ | refine Or.inr ⟨SqT.of (by (first | assumption | exact upd_same | (rw [upd_ne (by first | assumption | exact Ne.symm (by assumption))]; first | assumption | exact upd_same | (rw [upd_ne (by first | assumption | exact Ne.symm (by assumption))]; first | assumption | exact upd_same)))), SqT.of (by (first | assumption | exact upd_same | (rw [upd_ne (by first | assumption | exact Ne.symm (by assumption))]; first | assumption | exact upd_same | (rw [upd_ne (by first | assumption | exact Ne.symm (by assumption))]; first | assumption | exact upd_same)))), ?_⟩ | refine Or.inl ⟨SqL.of (by (first | assumption | exact upd_same | (rw [upd_ne (by first | assumption | exact Ne.symm (by assumption))]; first | assumption | exact upd_same | (rw [upd_ne (by first | assumption | exact Ne.symm (by assumption))]; first | assumption | exact upd_same)))), SqL.of (by (first | assumption | exact upd_same | (rw [upd_ne (by first | assumption | exact Ne.symm (by assumption))]; first | assumption | exact upd_same | (rw [upd_ne (by first | assumption | exact Ne.symm (by assumption))]; first | assumption | exact upd_same)))), ?_⟩ | refine Or.inl ⟨SqL.of (by (first | assumption | exact upd_same | (rw [upd_ne (by first | assumption | exact Ne.symm (by assumption))]; first | assumption | exact upd_same | (rw [upd_ne (by first | assumption | exact Ne.symm (by assumption))]; first | assumption | exact upd_same)))), ?_⟩ | refine Or.inr ⟨SqT.of (by (first | assumption | exact upd_same | (rw [upd_ne (by first | assumption | exact Ne.symm (by assumption))]; first | assumption | exact upd_same | (rw [upd_ne (by first | assumption | exact Ne.symm (by assumption))]; first | assumption | exact upd_same)))), ?_⟩ | refine ifT rfl ?_ | refine ifF rfl ?_))
def nestL : Nat → PyData → PyData
  | 0, d => d
  | n + 1, d => .list [nestL n d]
def spDeepL : Sp := fun vs H Q _ => vs = [] ∧ ∀ p H', Same H H' → Rp (fun a => H a ≠ none) H' (.ref p) (nestL 36 .none) → Q (.ref p) H'
def spFlag : Sp := fun vs H Q _ => ∃ a b : Bool, vs = [.bl a, .bl b] ∧ Q (.bl (decide (V.bl a = V.bl b))) H
def spWordP : Sp := fun vs H Q _ => ∃ (N : Addr → Prop) (i : Int) (v : V) (d : PyData), vs = [.int i, v] ∧ Rp N H v d ∧ slim d = true ∧ (isP 20 d = true → fineB d = true ∧ (byD d).length ≤ 1000000) ∧
  ∀ H', Same H H' → Q (.str (if isP 20 d then "let" else "parcel")) H'
/-- isinstance(e, c), e the exception that the suite holds, whatever it is by form -/
def rIsE1 (K : PySem.W.Frag) (a : Addr) (cls : Value) (d : Option Addr) : List V → Hp → VK → Prop := fun xs H Q => ∃ D, cls = .ref D ∧ d = none ∧ ExcC K D ∧ rIsE K D a xs H Q
theorem call_isE1 {X : Cx} {a : Addr} {cls : Value} {d : Option Addr} {oe : Obj} {pn : List (Addr × Obj)} (hz : Zc cls d oe) (hf : ∃ vs, oe.data = .fields vs) : CallR (X.suite a ((a, oe) :: pn)) (.builtin "isinstance") (rIsE1 X.K a cls d) := by
  intro pins s σ H xs us Q I r h
  obtain ⟨D, rfl, rfl, C, q⟩ := h
  exact call_isE C hz hf pins s σ H xs us Q I r q
section
variable {P : Program} {w : World} {K : PySem.W.Frag} {mg : Str → Option Value} {base : Heap} {t1 t2 t3 t4 : Tok} {CB CN CQ : Addr}
theorem d_law_deepL (B : Bi mg) (F : FunAt K mg "_law_deep" s_law_deep) : Has P w K mg base 1 "_law_deep" [] spDeepL := by
  refine mk_has F sc_law_deep (fun _ _ _ _ _ _ us hl => match us, hl with | [], _ => rfl) (fun vs H Q E h => ?_) fun f cdv A outer s H vs Q E hr h => ?_
  · obtain ⟨rfl, _⟩ := h
    rfl
  obtain ⟨rfl, k⟩ := h
  refine ⟨_, (pss_cons (ps_set (i := 0) sc_law_deep.nd rfl (Or.inl rfl) (pe_lst (pa_cons pe_non pa_nil)))
    (pss_cons (ps_for PassesOwn.never rfl (pi_range1 rfl B.range (pa_cons pe_int pa_nil)) (pg_name (i := 1) sc_law_deep.nd rfl (Or.inl rfl))
    (pss_one (ps_set (i := 0) sc_law_deep.nd rfl (Or.inl rfl) (pe_lst (pa_cons (pv 0) pa_nil)))))
    (pss_one (ps_ret (pv 0))))), ?_⟩
  trivial
  intro p np
  trivial
  refine for_it (walk_range (lo := 0) (n := 35)) (fun i σ H' => ∃ (u : Addr) (x : Option V), σ = [some (.ref u), x] ∧ Same H H' ∧ Rp (fun a => H a ≠ none) H' (.ref u) (nestL (i + 1) .none)) ⟨p, none, rfl, same_new0 np, .lst upd_same (fun z => z np) (.cons .non .nil)⟩ (fun _ _ _ _ _ => True.intro) (fun i x σ H4 H5 hi q y => ?_) fun σ H4 q => ?_
  · obtain ⟨u, x', rfl, s4, r⟩ := q
    obtain ⟨rfl, rfl⟩ := y
    trivial
    intro p5 n5
    exact ⟨p5, _, rfl, snew s4 n5, .lst upd_same (fun z => z (s4.free n5)) (.cons (r.to (Kp.new n5)) .nil)⟩
  · obtain ⟨u, x', rfl, s4, r⟩ := q
    trivial
    exact k u H4 s4 r
theorem d_law_flag (B : Bi mg) (F : FunAt K mg "_law_flag" s_law_flag) : Has P w K mg base 1 "_law_flag" ["thing", "due"] spFlag := by
  refine mk_has F sc_law_flag (fun _ _ _ _ _ _ us hl => match us, hl with | [_, _], _ => rfl) (fun vs H Q E h => ?_) fun f cdv A outer s H vs Q E hr h => ?_
  · obtain ⟨a, b, rfl, _⟩ := h
    rfl
  obtain ⟨a, b, rfl, k⟩ := h
  refine ⟨_, (pss_one (ps_ret (pe_and (pe_callB call_isi rfl B.isinstance (by decide +kernel) (pa_cons (pv 0) (pa_cons (pe_bltn (v := .ty "bool") rfl B.bool (by decide +kernel) rfl) pa_nil))) (pe_one (pe_cmpR op_eq (pv 0) (pv 1) (nomark _)))))), ?_⟩
  have d0 : Dt H (.bl a) "bool" := .bl a
  trivial
  exact k
theorem d_law_word (B : Bi mg) (F : FunAt K mg "_law_word" s_law_word) (x_NoParcel : ExcAt K mg "NoParcel" CN) (x_QuietError : ExcAt K mg "QuietError" CQ) (hVE : mg "ValueError" = none) (CE : ExcC K CN) (k1 : PySem.W.exmOne K (.ref CN) (.ref CQ) = some true) (k2 : PySem.W.kitOne K (.ref CN) (.ref CN) = some true) (k3 : PySem.W.kitOne K (.ref CN) (.type "ValueError") = some true)
    (D_row_of : HasX P w K mg base 24 "row_of" ["parcel"] (spRowOf CN)) (D_sealed : HasX P w K mg base 25 "sealed" ["parcel"] (spSealed CN)) : Has P w K mg base 26 "_law_word" ["which", "thing"] spWordP := by
  refine mk_has F sc_law_word (fun _ _ _ _ _ _ us hl => match us, hl with | [_, _], _ => rfl) (fun vs H Q E h => ?_) fun f cdv A outer s H vs Q E hr h => ?_
  · obtain ⟨N, i, v, d, rfl, _⟩ := h
    rfl
  obtain ⟨N, i, v, d, rfl, r, hs, h1, k⟩ := h
  refine ⟨_, (pss_cons (ps_set (i := 2) sc_law_word.nd rfl (Or.inl rfl) pe_str)
    (C8.pss_cut (ps_try_as (i := 3) (tb := fun W => tIfS (tTest (tOp rEq (tVar 0) (tC (.int 0)))) (tDrop (tCallS (spRowOf CN) (WE W) (tCons (tVar 1) tNil))) (tDrop (tCallS (spSealed CN) (WE W) (tCons (tVar 1) tNil))))
      (Wout := fun _ _ _ _ => False) rfl rfl sc_law_word.nd rfl rfl ⟨rfl, by decide, .inl x_QuietError.g⟩ takes0
      (fun W pn xe tk _ => (pss_one (ps_if (pt_cmpR op_eq (pv 0) pe_int (nomark _)) (pss_one (ps_expr (pe_hX tk D_row_of (hr.mono (by decide)) rfl (pa_cons (pv 1) pa_nil)))) (pss_one (ps_expr (pe_hX tk D_sealed (hr.mono (by decide)) rfl (pa_cons (pv 1) pa_nil)))))))
      (fun a oe cls d pn hz hf => (pss_one (ps_set (i := 2) sc_law_word.nd rfl (Or.inl rfl) (pe_ifExp (PW.pt (pw_and (pt_val (pe_callB (call_isE1 hz hf) rfl B.isinstance (by decide +kernel) (pa_cons (pv 3) (pa_cons (pe_glob (v := .ref CN) rfl x_NoParcel.g rfl) pa_nil)))) (pw_and1 (pt_val (pe_callB (call_isE1 hz hf) rfl B.isinstance (by decide +kernel) (pa_cons (pv 3) (pa_cons (pe_bltn (v := .ty "ValueError") rfl hVE (by decide +kernel) rfl) pa_nil))))))) pe_str pe_str)))))
    (pss_one (ps_ret (pv 2))))), ?_⟩
  have e1 : ∀ u, L2.RelV (V.ref CN) u → u = Value.ref CN := fun u h => h
  have e2 : ∀ u, L2.RelV (V.ty "ValueError") u → u = Value.type "ValueError" := fun u h => h
  have hx : ∀ e : isP 20 d = false, (if isP 20 d = true then ("let" : Str) else "parcel") = "parcel" := fun e => by rw [e]; rfl
  have hy : ∀ e : isP 20 d = true, (if isP 20 d = true then ("let" : Str) else "parcel") = "let" := fun e => by rw [e]; rfl
  refine ⟨fun σ H' => ∃ x3, σ = [some (.int i), some v, some (.str (if isP 20 d then "let" else "parcel")), x3] ∧ Same H H', ?_, ?_⟩
  · trivial
    refine ite2 (fun c => ?_) (fun c => ?_)
    · refine ⟨_, rfl, N, v, d, rfl, r, hs, fun e H1 s1 => ?_, fun e => ⟨(h1 e).1, (h1 e).2, fun p H1 s1 ep => ?_⟩⟩
      · refine ⟨true, k1, fun _ a0 n0 => ?_, fun z => nomatch z⟩
        trivial
        rw [hx e]
        exact ⟨none, rfl, s1⟩
      · rw [hy e]
        exact ⟨none, rfl, s1⟩
    · refine ⟨_, rfl, N, v, d, rfl, r, hs, fun e H1 s1 => ?_, fun e => ⟨(h1 e).1, (h1 e).2, fun p H1 s1 ep => ?_⟩⟩
      · refine ⟨true, k1, fun _ a0 n0 => ?_, fun z => nomatch z⟩
        trivial
        rw [hx e]
        exact ⟨none, rfl, s1⟩
      · rw [hy e]
        exact ⟨none, rfl, s1⟩
  · rintro σ H1 ⟨x3, rfl, s1⟩
    trivial
    exact k H1 s1
end
end KQ
set_option Elab.async false
set_option maxRecDepth 100000
set_option maxHeartbeats 4000000
namespace KQ
open PySem PySem.Spec PyProof.Rows L2
mutual
/-- data that may be a parcel: fine, short, without the barred sign -/
def parB : PyData → Bool
  | .none => true
  | .bool _ => true
  | .int i => decide (i.natAbs < 10 ^ 18)
  | .str x => decide (x.length ≤ 20) && x.cps.toList.all fun (c : Nat) => !decide (c = 37)
  | .tuple ds => decide (ds.length ≤ 4) && parAll ds
  | _ => false
def parAll : List PyData → Bool
  | [] => true
  | d :: ds => parB d && parAll ds
end
theorem okAll_iff : ∀ {ds : List PyData}, parAll ds = true ↔ ∀ d ∈ ds, parB d = true
  | [] => by simp [parAll]
  | d :: ds => by rw [parAll, Bool.and_eq_true, okAll_iff]; simp
mutual
theorem okB_fine : ∀ d : PyData, parB d = true → fineB d = true ∧ slim d = true ∧ tidy d = true ∧ no37 d = true
  | .none, _ => ⟨rfl, rfl, rfl, rfl⟩
  | .bool _, _ => ⟨rfl, rfl, rfl, rfl⟩
  | .int i, h => by
    simp only [parB, decide_eq_true_eq] at h
    have : (10 : Nat) ^ 18 < 128 ^ 5999 := by decide +kernel
    exact ⟨by simp only [fineB, decide_eq_true_eq]; omega, rfl, rfl, rfl⟩
  | .str x, h => by
    simp only [parB, Bool.and_eq_true, decide_eq_true_eq] at h
    exact ⟨by simp only [fineB, decide_eq_true_eq]; omega, by simp only [slim, decide_eq_true_eq]; omega, rfl, h.2⟩
  | .tuple ds, h => by
    simp only [parB, Bool.and_eq_true, decide_eq_true_eq] at h
    have q := okAll_fine ds h.2
    exact ⟨by rw [fineB, Bool.and_eq_true, decide_eq_true_eq]; exact ⟨by omega, q.1⟩, by rw [slim, Bool.and_eq_true, decide_eq_true_eq]; exact ⟨by omega, q.2.1⟩, by rw [tidy, Bool.and_eq_true, decide_eq_true_eq]; exact ⟨by omega, q.2.2.1⟩, q.2.2.2⟩
  | .list ds, h => by simp [parB] at h
  | .dict ds, h => by simp [parB] at h
theorem okAll_fine : ∀ ds : List PyData, parAll ds = true → fineAll ds = true ∧ slimAll ds = true ∧ tidyAll ds = true ∧ no37All ds = true
  | [], _ => ⟨rfl, rfl, rfl, rfl⟩
  | d :: ds, h => by
    rw [parAll, Bool.and_eq_true] at h
    obtain ⟨a1, a2, a3, a4⟩ := okB_fine d h.1
    obtain ⟨b1, b2, b3, b4⟩ := okAll_fine ds h.2
    exact ⟨by rw [fineAll, a1, b1]; rfl, by rw [slimAll, a2, b2]; rfl, by rw [tidyAll, a3, b3]; rfl, by rw [no37All, a4, b4]; rfl⟩
end
theorem byAll_le {B : Nat} : ∀ {ds : List PyData}, (∀ d ∈ ds, (byD d).length ≤ B) → (byAll ds).length ≤ ds.length * B
  | [], _ => by simp [byAll]
  | d :: ds, h => by
    have h1 := h d (List.mem_cons_self ..)
    have h2 := byAll_le (B := B) fun x hx => h x (List.mem_cons_of_mem _ hx)
    rw [byAll, List.length_append, List.length_cons, Nat.succ_mul]
    omega
theorem whN_small {n : Nat} (h : n < 128) : (whN n).length = 1 := by rw [whN_lt h]; rfl
theorem whN_18 {n : Nat} (h : n ≤ 10 ^ 18) : (whN n).length ≤ 10 := whN_len 9 n (Nat.lt_of_le_of_lt h (by decide))
theorem ok_flat {d : PyData} (h : flatD d = true) : parB d = true ∧ flatP d = true ∧ (byD d).length ≤ 30 := by
  cases d with
  | none => exact ⟨rfl, rfl, by simp [byD]⟩
  | bool b => exact ⟨rfl, rfl, by simp [byD]⟩
  | int i =>
    simp only [flatD, decide_eq_true_eq] at h
    refine ⟨by simp only [parB, decide_eq_true_eq]; exact h, rfl, ?_⟩
    rw [byD]
    split
    · have := whN_18 (n := i.toNat) (by omega)
      simp
      omega
    · have := whN_18 (n := (-1 - i).toNat) (by omega)
      simp
      omega
  | str x =>
    simp only [flatD, Bool.and_eq_true, decide_eq_true_eq] at h
    obtain ⟨⟨h1, h2⟩, h3⟩ := h
    have hs : ∀ c ∈ x.cps.toList, c ∈ [32, 126, 97, 48, 90, 98, 39] := fun c hc => by simpa using List.all_eq_true.mp h3 c hc
    have h4 : (x.cps.toList.all fun (c : Nat) => sgn (c : Int)) = true := List.all_eq_true.mpr fun c hc => by
      have := hs c hc
      simp only [List.mem_cons, List.not_mem_nil, or_false] at this
      rcases this with rfl | rfl | rfl | rfl | rfl | rfl | rfl <;> decide
    have h5 : (x.cps.toList.all fun (c : Nat) => !decide (c = 37)) = true := List.all_eq_true.mpr fun c hc => by
      have := hs c hc
      simp only [List.mem_cons, List.not_mem_nil, or_false] at this
      rcases this with rfl | rfl | rfl | rfl | rfl | rfl | rfl <;> decide
    have lx : x.cps.toList.length = x.length := by simp [Str.length]
    refine ⟨by rw [parB, decide_eq_true h2, h5]; rfl, by rw [flatP, strP, decide_eq_true h1, decide_eq_true h2, h4]; rfl, ?_⟩
    rw [byD, List.length_cons, List.length_append, whN_small (by omega), strB, List.length_map, lx]
    omega
  | list ds => simp [flatD] at h
  | tuple ds => simp [flatD] at h
  | dict ds => simp [flatD] at h
def szB : Nat → Nat
  | 0 => 30
  | n + 1 => 2 + 4 * szB n
theorem szB_ge : ∀ n, 30 ≤ szB n
  | 0 => Nat.le_refl _
  | n + 1 => by have := szB_ge n; simp only [szB]; omega
theorem drawn_ok : ∀ (n : Nat) (d : PyData), drawn n d = true → parB d = true ∧ isP n d = true ∧ (byD d).length ≤ szB n := by
  intro n
  induction n with
  | zero =>
    intro d h
    have h' : flatD d = true := by cases d <;> exact h
    obtain ⟨a, b, c⟩ := ok_flat h'
    refine ⟨a, ?_, c⟩
    cases d <;> first | exact b | simp [flatD] at h'
  | succ n ih =>
    intro d h
    have g : (∀ ds, d ≠ .tuple ds) → parB d = true ∧ isP (n + 1) d = true ∧ (byD d).length ≤ szB (n + 1) := fun nt => by
      have h' : flatD d = true := by cases d <;> first | exact h | exact absurd rfl (nt _)
      obtain ⟨a, b, c⟩ := ok_flat h'
      exact ⟨a, by rw [isP_flat nt]; exact b, Nat.le_trans c (szB_ge _)⟩
    cases d with
    | tuple ds =>
      have h' : (decide (ds.length ≤ 4) && ds.all (drawn n)) = true := h
      rw [Bool.and_eq_true, decide_eq_true_eq, List.all_eq_true] at h'
      obtain ⟨h1, h2⟩ := h'
      refine ⟨?_, ?_, ?_⟩
      · rw [parB, decide_eq_true h1, okAll_iff.mpr fun d hd => (ih d (h2 d hd)).1]
        rfl
      · show ds.all (isP n) = true
        rw [List.all_eq_true]
        exact fun d hd => (ih d (h2 d hd)).2.1
      · have := byAll_le (B := szB n) fun d hd => (ih d (h2 d hd)).2.2
        have := Nat.mul_le_mul_right (szB n) h1
        rw [byD, List.length_cons, List.length_append, whN_small (by omega)]
        simp only [szB]
        omega
    | _ => exact g (by intro ds z; cases z)
theorem nest_ok : ∀ (m n : Nat) (d : PyData), parB d = true → isP n d = true → parB (nestD m d) = true ∧ isP (n + m) (nestD m d) = true ∧ (byD (nestD m d)).length = (byD d).length + 2 * m
  | 0, n, d, a, b => ⟨a, b, by simp [nestD]⟩
  | m + 1, n, d, a, b => by
    obtain ⟨h1, h2, h3⟩ := nest_ok m n d a b
    refine ⟨by rw [nestD, parB, parAll, parAll, h1]; rfl, ?_, ?_⟩
    · show [nestD m d].all (isP (n + m)) = true
      rw [List.all_cons, h2]
      rfl
    · rw [nestD, byD, byAll, byAll, List.append_nil, List.length_cons, List.length_append, List.length_singleton, whN_small (by decide), h3]
      omega
theorem isP_up : ∀ {n : Nat} {d : PyData}, isP n d = true → isP (n + 1) d = true
  | 0, d, h => by cases d <;> first | exact h | simp [isP, flatP] at h
  | n + 1, .tuple ds, h => by
    have h' : ds.all (isP n) = true := h
    show ds.all (isP (n + 1)) = true
    rw [List.all_eq_true] at h' ⊢
    exact fun d hd => isP_up (h' d hd)
  | n + 1, .none, h => h
  | n + 1, .bool _, h => h
  | n + 1, .int _, h => h
  | n + 1, .str _, h => h
  | n + 1, .list _, h => h
  | n + 1, .dict _, h => h
theorem isP_le {n m : Nat} {d : PyData} (h : n ≤ m) (hp : isP n d = true) : isP m d = true := by
  induction h with
  | refl => exact hp
  | step _ ih => exact isP_up ih
/-- what may be asked of -/
structure FitP (d : PyData) : Prop where
  s : slim d = true
  n : no37 d = true
  f : isP 20 d = true → fineB d = true ∧ (byD d).length ≤ 10000
  dp : d.depth ≤ 60
theorem FitP.ok {d : PyData} (h : parB d = true) (hp : isP 20 d = true) (hl : (byD d).length ≤ 10000) : FitP d := by
  obtain ⟨a1, a2, a3, a4⟩ := okB_fine d h
  exact ⟨a2, a4, fun _ => ⟨a1, hl⟩, Nat.le_trans (isP_depth 20 d hp) (by decide)⟩
theorem FitP.pair {d e : PyData} (h : FitP d) (k : FitP e) (hd : d.depth ≤ 50) (he : e.depth ≤ 50) (hl : isP 20 d = true → (byD d).length ≤ 4000) (kl : isP 20 e = true → (byD e).length ≤ 4000) : FitP (.tuple [d, e]) := by
  refine ⟨by simp [slim, slimAll, h.s, k.s], by simp [no37, no37All, h.n, k.n], fun hp => ?_, by simp only [PyData.depth, PyData.depthAll]; omega⟩
  have hp' : [d, e].all (isP 19) = true := hp
  simp only [List.all_cons, List.all_nil, Bool.and_true, Bool.and_eq_true] at hp'
  have p1 := isP_up hp'.1
  have p2 := isP_up hp'.2
  refine ⟨by simp [fineB, fineAll, (h.f p1).1, (k.f p2).1], ?_⟩
  have l1 := hl p1
  have l2 := kl p2
  rw [byD, byAll, byAll, byAll, List.append_nil, List.length_cons, List.length_append, List.length_append, whN_small (by simp)]
  omega
def aS (n : Nat) : Str := ⟨(List.replicate n (Str.ofString "a").cps).foldl (· ++ ·) #[]⟩
def oddP : List PyData := [.str "", .str (aS 21), .str (aS 20), .str "a\n", .list [], .list [.int 1], .dict [], nestL 36 .none, nestD 21 (.int 0), nestD 20 (.tuple []), nestD 20 (.int 0), .tuple [.int 1, .list []], .tuple [.str "", .int 1]]
structure OddP (d : PyData) : Prop where
  f : FitP d
  dp : d.depth ≤ 50
  l : isP 20 d = true → (byD d).length ≤ 4000
theorem OddP.no {d : PyData} (h1 : slim d = true) (h2 : no37 d = true) (h3 : isP 20 d = false) (h4 : d.depth ≤ 50) : OddP d := ⟨⟨h1, h2, fun z => (by rw [h3] at z; cases z), by omega⟩, h4, fun z => (by rw [h3] at z; cases z)⟩
theorem OddP.yes {d : PyData} (h1 : parB d = true) (h2 : isP 20 d = true) (h3 : (byD d).length ≤ 4000) : OddP d := ⟨FitP.ok h1 h2 (by omega), Nat.le_trans (isP_depth 20 d h2) (by decide), fun _ => h3⟩
theorem oddP_ok : ∀ d ∈ oddP, OddP d := by
  intro d h
  simp only [oddP, List.mem_cons, List.not_mem_nil, or_false] at h
  rcases h with rfl | rfl | rfl | rfl | rfl | rfl | rfl | rfl | rfl | rfl | rfl | rfl | rfl
  · exact .no (by decide +kernel) (by decide +kernel) (by decide +kernel) (by decide +kernel)
  · exact .no (by decide +kernel) (by decide +kernel) (by decide +kernel) (by decide +kernel)
  · refine .yes (by decide +kernel) (by decide +kernel) ?_
    rw [byD, List.length_cons, List.length_append, whN_small (by decide +kernel), strB, List.length_map]
    decide +kernel
  · exact .no (by decide +kernel) (by decide +kernel) (by decide +kernel) (by decide +kernel)
  · exact .no (by decide +kernel) (by decide +kernel) (by decide +kernel) (by decide +kernel)
  · exact .no (by decide +kernel) (by decide +kernel) (by decide +kernel) (by decide +kernel)
  · exact .no (by decide +kernel) (by decide +kernel) (by decide +kernel) (by decide +kernel)
  · exact .no (by decide +kernel) (by decide +kernel) (by decide +kernel) (by decide +kernel)
  · exact .no (by decide +kernel) (by decide +kernel) (by decide +kernel) (by decide +kernel)
  · exact .no (by decide +kernel) (by decide +kernel) (by decide +kernel) (by decide +kernel)
  · obtain ⟨h1, h2, h3⟩ := nest_ok 20 0 (.int 0) rfl rfl
    refine .yes h1 h2 ?_
    rw [h3, byD, if_pos (by decide), List.length_cons, whN_small (by decide)]
    decide
  · exact .no (by decide +kernel) (by decide +kernel) (by decide +kernel) (by decide +kernel)
  · exact .no (by decide +kernel) (by decide +kernel) (by decide +kernel) (by decide +kernel)
theorem oddP_len : oddP.length = 13 := rfl
/-- a drawn parcel, as it is asked of -/
structure GoodP (d : PyData) : Prop where
  p : parB d = true
  i : isP 20 d = true
  l : (byD d).length ≤ 4000
theorem GoodP.odd {d : PyData} (g : GoodP d) : OddP d := .yes g.p g.i g.l
theorem GoodP.of {d : PyData} (h : drawn 3 d = true) : GoodP d := by
  obtain ⟨a, b, c⟩ := drawn_ok 3 d h
  exact ⟨a, isP_le (by decide) b, Nat.le_trans c (by decide)⟩
/-- nested not too deep -/
theorem GoodP.nest {d : PyData} (h : drawn 3 d = true) {m : Nat} (hm : m ≤ 16 ∨ (m ≤ 20 ∧ ∀ ds, d ≠ .tuple ds)) : GoodP (nestD m d) := by
  obtain ⟨a, b, c⟩ := drawn_ok 3 d h
  have c' : (byD d).length ≤ 2000 := Nat.le_trans c (by decide)
  rcases hm with hm | ⟨hm, nt⟩
  · obtain ⟨h1, h2, h3⟩ := nest_ok m 3 d a b
    exact ⟨h1, isP_le (by omega) h2, by omega⟩
  · have b0 : isP 0 d = true := by
      rw [isP_flat nt] at b ⊢
      exact b
    obtain ⟨h1, h2, h3⟩ := nest_ok m 0 d a b0
    exact ⟨h1, isP_le (by omega) h2, by omega⟩
/-- its row is read as it -/
theorem GoodP.told {d : PyData} (g : GoodP d) : toldRow (byD d) = .inr d := by
  have q := rdP_by (row := byD d) 20 d g.i [] [] (by simp)
  simp only [List.length_nil, Nat.zero_add] at q
  unfold toldRow
  rw [q]
  simp
theorem whN_byte : ∀ (n : Nat), ∀ b ∈ whN n, 0 ≤ b ∧ b < 256 := by
  intro n
  induction n using Nat.strongRecOn with
  | ind n ih =>
    intro b hb
    by_cases c : n < 128
    · rw [whN_lt c, List.mem_singleton] at hb
      omega
    · rw [whN_ge c] at hb
      rcases List.mem_cons.mp hb with rfl | hb
      · omega
      · exact ih (n / 128) (by omega) b hb
theorem byAll_byte : ∀ {ds : List PyData}, (∀ d ∈ ds, ∀ b ∈ byD d, 0 ≤ b ∧ b < 256) → ∀ b ∈ byAll ds, 0 ≤ b ∧ b < 256
  | [], _, b, hb => by simp [byAll] at hb
  | d :: ds, h, b, hb => by
    rw [byAll, List.mem_append] at hb
    rcases hb with hb | hb
    · exact h d (List.mem_cons_self ..) b hb
    · exact byAll_byte (fun x hx => h x (List.mem_cons_of_mem _ hx)) b hb
theorem byD_byte : ∀ (n : Nat) (d : PyData), isP n d = true → ∀ b ∈ byD d, 0 ≤ b ∧ b < 256 := by
  have flat : ∀ (d : PyData), flatP d = true → ∀ b ∈ byD d, 0 ≤ b ∧ b < 256 := fun d h b hb => by
    cases d with
    | none => simp [byD] at hb; omega
    | bool c => cases c <;> simp [byD] at hb <;> omega
    | int i =>
      rw [byD] at hb
      split at hb <;> (rcases List.mem_cons.mp hb with rfl | hb; { omega }; exact whN_byte _ b hb)
    | str x =>
      simp only [flatP, strP, Bool.and_eq_true, decide_eq_true_eq] at h
      rw [byD] at hb
      rcases List.mem_cons.mp hb with rfl | hb
      · omega
      rcases List.mem_append.mp hb with hb | hb
      · exact whN_byte _ b hb
      · obtain ⟨c, hc, rfl⟩ := List.mem_map.mp hb
        have := List.all_eq_true.mp h.2 c hc
        simp only [sgn, Bool.and_eq_true, decide_eq_true_eq] at this
        omega
    | list ds => simp [flatP] at h
    | tuple ds => simp [flatP] at h
    | dict ds => simp [flatP] at h
  intro n
  induction n with
  | zero =>
    intro d h
    exact flat d (by cases d <;> exact h)
  | succ n ih =>
    intro d h
    cases d with
    | tuple ds =>
      intro b hb
      have h' : ds.all (isP n) = true := h
      rw [byD] at hb
      rcases List.mem_cons.mp hb with rfl | hb
      · omega
      rcases List.mem_append.mp hb with hb | hb
      · exact whN_byte _ b hb
      · exact byAll_byte (fun d hd => ih d (List.all_eq_true.mp h' d hd)) b hb
    | _ => exact flat _ h
theorem GoodP.row {d : PyData} (g : GoodP d) {H : Hp} {a : Addr} (e : H a = some (.tup ((byD d).map V.int))) : RowOk H a (byD d) := ⟨e, byD_byte 20 d g.i, by have := g.l; omega⟩
end KQ
set_option Elab.async false
set_option maxRecDepth 100000
set_option maxHeartbeats 4000000
namespace KQ
open PySem PySem.Spec PyProof.Rows L2
local macro_rules | `(tactic| trivial) => `(tactic| repeat (first | refine sl_go (by (first | assumption | exact upd_same | (rw [upd_ne (by first | assumption | exact Ne.symm (by assumption))]; first | assumption | exact upd_same | (rw [upd_ne (by first | assumption | exact Ne.symm (by assumption))]; first | assumption | exact upd_same)))) ?_ | (unfold tNoPart; refine sl_go (by (first | assumption | exact upd_same | (rw [upd_ne (by first | assumption | exact Ne.symm (by assumption))]; first | assumption | exact upd_same | (rw [upd_ne (by first | assumption | exact Ne.symm (by assumption))]; first | assumption | exact upd_same)))) ?_) | refine cat_go (by (first | assumption | exact upd_same | (rw [upd_ne (by first | assumption | exact Ne.symm (by assumption))]; first | assumption | exact upd_same | (rw [upd_ne (by first | assumption | exact Ne.symm (by assumption))]; first | assumption | exact upd_same)))) (by (first | assumption | exact upd_same | (rw [upd_ne (by first | assumption | exact Ne.symm (by assumption))]; first | assumption | exact upd_same | (rw [upd_ne (by first | assumption | exact Ne.symm (by assumption))]; first | assumption | exact upd_same)))) ?_ ?_ | (apply And.intro; focus (first | rfl | assumption | exact upd_same | exact SqL.of (by (first | assumption | exact upd_same | (rw [upd_ne (by first | assumption | exact Ne.symm (by assumption))]; first | assumption | exact upd_same | (rw [upd_ne (by first | assumption | exact Ne.symm (by assumption))]; first | assumption | exact upd_same)))) | exact SqT.of (by (first | assumption | exact upd_same | (rw [upd_ne (by first | assumption | exact Ne.symm (by assumption))]; first | assumption | exact upd_same | (rw [upd_ne (by first | assumption | exact Ne.symm (by assumption))]; first | assumption | exact upd_same)))) | exact Or.inl (SqL.of (by (first | assumption | exact upd_same | (rw [upd_ne (by first | assumption | exact Ne.symm (by assumption))]; first | assumption | exact upd_same | (rw [upd_ne (by first | assumption | exact Ne.symm (by assumption))]; first | assumption | exact upd_same))))) | exact Or.inr (SqT.of (by (first | assumption | exact upd_same | (rw [upd_ne (by first | assumption | exact Ne.symm (by assumption))]; first | assumption | exact upd_same | (rw [upd_ne (by first | assumption | exact Ne.symm (by assumption))]; first | assumption | exact upd_same))))) | exact Or.inl ⟨rfl, _, SqL.of (by (first | assumption | exact upd_same | (rw [upd_ne (by first | assumption | exact Ne.symm (by assumption))]; first | assumption | exact upd_same | (rw [upd_ne (by first | assumption | exact Ne.symm (by assumption))]; first | assumption | exact upd_same))))⟩ | (first | assumption | exact upd_same | (rw [upd_ne (by first | assumption | exact Ne.symm (by assumption))]; first | assumption | exact upd_same | (rw [upd_ne (by first | assumption | exact Ne.symm (by assumption))]; first | assumption | exact upd_same))) | decide | exact Nat.le_of_ble_eq_true rfl | omega | (show ∃ xs, SqL _ _ _ xs; exact ⟨_, SqL.of (by (first | assumption | exact upd_same | (rw [upd_ne (by first | assumption | exact Ne.symm (by assumption))]; first | assumption | exact upd_same | (rw [upd_ne (by first | assumption | exact Ne.symm (by assumption))]; first | assumption | exact upd_same))))⟩) | (show ∃ xs, SqT _ _ _ xs; exact ⟨_, SqT.of (by (first | assumption | exact upd_same | (rw [upd_ne (by first | assumption | exact Ne.symm (by assumption))]; first | assumption | exact upd_same | (rw [upd_ne (by first | assumption | exact Ne.symm (by assumption))]; first | assumption | exact upd_same))))⟩) | exact DGet.k (k := Sum.inl _) (by (first | assumption | exact upd_same | (rw [upd_ne (by first | assumption | exact Ne.symm (by assumption))]; first | assumption | exact upd_same | (rw [upd_ne (by first | assumption | exact Ne.symm (by assumption))]; first | assumption | exact upd_same)))) | (show V.int _ = kV (Sum.inl _); rfl) | (show ∃ z, V.str _ = V.str z; exact ⟨_, rfl⟩) | exact Or.inl ⟨by (first | decide | omega), by (first | decide | omega)⟩ | exact Or.inr ⟨by (first | decide | omega), by (first | decide | omega)⟩ | exact ⟨by (first | decide | omega), by (first | decide | omega)⟩ | exact ⟨by decide, by decide, by decide⟩ | exact L2.ClsV.ty _ | exact Dt.ty (by assumption) | exact Dt.kint (by assumption) | exact Dt.kbool (by assumption) | exact Dt.ktuple (by assumption) | exact Dt.klist (by assumption) | exact Dt.kstr (by assumption))) | (apply Exists.intro; apply And.intro; focus (first | rfl | assumption | exact upd_same | exact SqL.of (by (first | assumption | exact upd_same | (rw [upd_ne (by first | assumption | exact Ne.symm (by assumption))]; first | assumption | exact upd_same | (rw [upd_ne (by first | assumption | exact Ne.symm (by assumption))]; first | assumption | exact upd_same)))) | exact SqT.of (by (first | assumption | exact upd_same | (rw [upd_ne (by first | assumption | exact Ne.symm (by assumption))]; first | assumption | exact upd_same | (rw [upd_ne (by first | assumption | exact Ne.symm (by assumption))]; first | assumption | exact upd_same)))) | exact Or.inl (SqL.of (by (first | assumption | exact upd_same | (rw [upd_ne (by first | assumption | exact Ne.symm (by assumption))]; first | assumption | exact upd_same | (rw [upd_ne (by first | assumption | exact Ne.symm (by assumption))]; first | assumption | exact upd_same))))) | exact Or.inr (SqT.of (by (first | assumption | exact upd_same | (rw [upd_ne (by first | assumption | exact Ne.symm (by assumption))]; first | assumption | exact upd_same | (rw [upd_ne (by first | assumption | exact Ne.symm (by assumption))]; first | assumption | exact upd_same))))) | exact Or.inl ⟨rfl, _, SqL.of (by (first | assumption | exact upd_same | (rw [upd_ne (by first | assumption | exact Ne.symm (by assumption))]; first | assumption | exact upd_same | (rw [upd_ne (by first | assumption | exact Ne.symm (by assumption))]; first | assumption | exact upd_same))))⟩ | (first | assumption | exact upd_same | (rw [upd_ne (by first | assumption | exact Ne.symm (by assumption))]; first | assumption | exact upd_same | (rw [upd_ne (by first | assumption | exact Ne.symm (by assumption))]; first | assumption | exact upd_same))) | decide | exact Nat.le_of_ble_eq_true rfl | omega | (show ∃ xs, SqL _ _ _ xs; exact ⟨_, SqL.of (by (first | assumption | exact upd_same | (rw [upd_ne (by first | assumption | exact Ne.symm (by assumption))]; first | assumption | exact upd_same | (rw [upd_ne (by first | assumption | exact Ne.symm (by assumption))]; first | assumption | exact upd_same))))⟩) | (show ∃ xs, SqT _ _ _ xs; exact ⟨_, SqT.of (by (first | assumption | exact upd_same | (rw [upd_ne (by first | assumption | exact Ne.symm (by assumption))]; first | assumption | exact upd_same | (rw [upd_ne (by first | assumption | exact Ne.symm (by assumption))]; first | assumption | exact upd_same))))⟩) | exact DGet.k (k := Sum.inl _) (by (first | assumption | exact upd_same | (rw [upd_ne (by first | assumption | exact Ne.symm (by assumption))]; first | assumption | exact upd_same | (rw [upd_ne (by first | assumption | exact Ne.symm (by assumption))]; first | assumption | exact upd_same)))) | (show V.int _ = kV (Sum.inl _); rfl) | (show ∃ z, V.str _ = V.str z; exact ⟨_, rfl⟩) | exact Or.inl ⟨by (first | decide | omega), by (first | decide | omega)⟩ | exact Or.inr ⟨by (first | decide | omega), by (first | decide | omega)⟩ | exact ⟨by (first | decide | omega), by (first | decide | omega)⟩ | exact ⟨by decide, by decide, by decide⟩ | exact L2.ClsV.ty _ | exact Dt.ty (by assumption) | exact Dt.kint (by assumption) | exact Dt.kbool (by assumption) | exact Dt.ktuple (by assumption) | exact Dt.klist (by assumption) | exact Dt.kstr (by assumption))) | (apply Exists.intro; apply Exists.intro; apply And.intro; focus (first | rfl | assumption | exact upd_same | exact SqL.of (by (first | assumption | exact upd_same | (rw [upd_ne (by first | assumption | exact Ne.symm (by assumption))]; first | assumption | exact upd_same | (rw [upd_ne (by first | assumption | exact Ne.symm (by assumption))]; first | assumption | exact upd_same)))) | exact SqT.of (by (first | assumption | exact upd_same | (rw [upd_ne (by first | assumption | exact Ne.symm (by assumption))]; first | assumption | exact upd_same | (rw [upd_ne (by first | assumption | exact Ne.symm (by assumption))]; first | assumption | exact upd_same)))) | exact Or.inl (SqL.of (by (first | assumption | exact upd_same | (rw [upd_ne (by first | assumption | exact Ne.symm (by assumption))]; first | assumption | exact upd_same | (rw [upd_ne (by first | assumption | exact Ne.symm (by assumption))]; first | assumption | exact upd_same))))) | exact Or.inr (SqT.of (by (first | assumption | exact upd_same | (rw [upd_ne (by first | assumption | exact Ne.symm (by assumption))]; first | assumption | exact upd_same | (rw [upd_ne (by first | assumption | exact Ne.symm (by assumption))]; first | assumption | exact upd_same))))) | exact Or.inl ⟨rfl, _, SqL.of (by (first | assumption | exact upd_same | (rw [upd_ne (by first | assumption | exact Ne.symm (by assumption))]; first | assumption | exact upd_same | (rw [upd_ne (by first | assumption | exact Ne.symm (by assumption))]; first | assumption | exact upd_same))))⟩ | (first | assumption | exact upd_same | (rw [upd_ne (by first | assumption | exact Ne.symm (by assumption))]; first | assumption | exact upd_same | (rw [upd_ne (by first | assumption | exact Ne.symm (by assumption))]; first | assumption | exact upd_same))) | decide | exact Nat.le_of_ble_eq_true rfl | omega | (show ∃ xs, SqL _ _ _ xs; exact ⟨_, SqL.of (by (first | assumption | exact upd_same | (rw [upd_ne (by first | assumption | exact Ne.symm (by assumption))]; first | assumption | exact upd_same | (rw [upd_ne (by first | assumption | exact Ne.symm (by assumption))]; first | assumption | exact upd_same))))⟩) | (show ∃ xs, SqT _ _ _ xs; exact ⟨_, SqT.of (by (first | assumption | exact upd_same | (rw [upd_ne (by first | assumption | exact Ne.symm (by assumption))]; first | assumption | exact upd_same | (rw [upd_ne (by first | assumption | exact Ne.symm (by assumption))]; first | assumption | exact upd_same))))⟩) | exact DGet.k (k := Sum.inl _) (by (first | assumption | exact upd_same | (rw [upd_ne (by first | assumption | exact Ne.symm (by assumption))]; first | assumption | exact upd_same | (rw [upd_ne (by first | assumption | exact Ne.symm (by assumption))]; first | assumption | exact upd_same)))) | (show V.int _ = kV (Sum.inl _); rfl) | (show ∃ z, V.str _ = V.str z; exact ⟨_, rfl⟩) | exact Or.inl ⟨by (first | decide | omega), by (first | decide | omega)⟩ | exact Or.inr ⟨by (first | decide | omega), by (first | decide | omega)⟩ | exact ⟨by (first | decide | omega), by (first | decide | omega)⟩ | exact ⟨by decide, by decide, by decide⟩ | exact L2.ClsV.ty _ | exact Dt.ty (by assumption) | exact Dt.kint (by assumption) | exact Dt.kbool (by assumption) | exact Dt.ktuple (by assumption) | exact Dt.klist (by assumption) | exact Dt.kstr (by assumption))) | (apply Exists.intro; apply Exists.intro; apply Exists.intro; apply And.intro; focus (first | rfl | assumption | exact upd_same | exact SqL.of (by (first | assumption | exact upd_same | (rw [upd_ne (by first | assumption | exact Ne.symm (by assumption))]; first | assumption | exact upd_same | (rw [upd_ne (by first | assumption | exact Ne.symm (by assumption))]; first | assumption | exact upd_same)))) | exact SqT.of (by (first | assumption | exact upd_same | (rw [upd_ne (by first | assumption | exact Ne.symm (by assumption))]; first | assumption | exact upd_same | (rw [upd_ne (by first | assumption | exact Ne.symm (by assumption))]; first | assumption | exact upd_same)))) | exact Or.inl (SqL.of (by (first | assumption | exact upd_same | (rw [upd_ne (by first | assumption | exact Ne.symm (by assumption))]; first | assumption | exact upd_same | (rw [upd_ne (by first | assumption | exact Ne.symm (by assumption))]; first | assumption | exact upd_same))))) | exact Or.inr (SqT.of (by (first | assumption | exact upd_same | (rw [upd_ne (by first | assumption | exact Ne.symm (by assumption))]; first | assumption | exact upd_same | (rw [upd_ne (by first | assumption | exact Ne.symm (by assumption))]; first | assumption | exact upd_same))))) | exact Or.inl ⟨rfl, _, SqL.of (by (first | assumption | exact upd_same | (rw [upd_ne (by first | assumption | exact Ne.symm (by assumption))]; first | assumption | exact upd_same | (rw [upd_ne (by first | assumption | exact Ne.symm (by assumption))]; first | assumption | exact upd_same))))⟩ | (first | assumption | exact upd_same | (rw [upd_ne (by first | assumption | exact Ne.symm (by assumption))]; first | assumption | exact upd_same | (rw [upd_ne (by first | assumption | exact Ne.symm (by assumption))]; first | assumption | exact upd_same))) | decide | exact Nat.le_of_ble_eq_true rfl | omega | (show ∃ xs, SqL _ _ _ xs; exact ⟨_, SqL.of (by (first | assumption | exact upd_same | (rw [upd_ne (by first | assumption | exact Ne.symm (by assumption))]; first | assumption | exact upd_same | (rw [upd_ne (by first | assumption | exact Ne.symm (by assumption))]; first | assumption | exact upd_same))))⟩) | (show ∃ xs, SqT _ _ _ xs; exact ⟨_, SqT.of (by (first | assumption | exact upd_same | (rw [upd_ne (by first | assumption | exact Ne.symm (by assumption))]; first | assumption | exact upd_same | (rw [upd_ne (by first | assumption | exact Ne.symm (by assumption))]; first | assumption | exact upd_same))))⟩) | exact DGet.k (k := Sum.inl _) (by (first | assumption | exact upd_same | (rw [upd_ne (by first | assumption | exact Ne.symm (by assumption))]; first | assumption | exact upd_same | (rw [upd_ne (by first | assumption | exact Ne.symm (by assumption))]; first | assumption | exact upd_same)))) | (show V.int _ = kV (Sum.inl _); rfl) | (show ∃ z, V.str _ = V.str z; exact ⟨_, rfl⟩) | exact Or.inl ⟨by (first | decide | omega), by (first | decide | omega)⟩ | exact Or.inr ⟨by (first | decide | omega), by (first | decide | omega)⟩ | exact ⟨by (first | decide | omega), by (first | decide | omega)⟩ | exact ⟨by decide, by decide, by decide⟩ | exact L2.ClsV.ty _ | exact Dt.ty (by assumption) | exact Dt.kint (by assumption) | exact Dt.kbool (by assumption) | exact Dt.ktuple (by assumption) | exact Dt.klist (by assumption) | exact Dt.kstr (by assumption))) | (apply Exists.intro; apply Exists.intro; apply Exists.intro; apply Exists.intro; apply And.intro; focus (first | rfl | assumption | exact upd_same | exact SqL.of (by (first | assumption | exact upd_same | (rw [upd_ne (by first | assumption | exact Ne.symm (by assumption))]; first | assumption | exact upd_same | (rw [upd_ne (by first | assumption | exact Ne.symm (by assumption))]; first | assumption | exact upd_same)))) | exact SqT.of (by (first | assumption | exact upd_same | (rw [upd_ne (by first | assumption | exact Ne.symm (by assumption))]; first | assumption | exact upd_same | (rw [upd_ne (by first | assumption | exact Ne.symm (by assumption))]; first | assumption | exact upd_same)))) | exact Or.inl (SqL.of (by (first | assumption | exact upd_same | (rw [upd_ne (by first | assumption | exact Ne.symm (by assumption))]; first | assumption | exact upd_same | (rw [upd_ne (by first | assumption | exact Ne.symm (by assumption))]; first | assumption | exact upd_same))))) | exact Or.inr (SqT.of (by (first | assumption | exact upd_same | (rw [upd_ne (by first | assumption | exact Ne.symm (by assumption))]; first | assumption | exact upd_same | (rw [upd_ne (by first | assumption | exact Ne.symm (by assumption))]; first | assumption | exact upd_same))))) | exact Or.inl ⟨rfl, _, SqL.of (by (first | assumption | exact upd_same | (rw [upd_ne (by first | assumption | exact Ne.symm (by assumption))]; first | assumption | exact upd_same | (rw [upd_ne (by first | assumption | exact Ne.symm (by assumption))]; first | assumption | exact upd_same))))⟩ | (first | assumption | exact upd_same | (rw [upd_ne (by first | assumption | exact Ne.symm (by assumption))]; first | assumption | exact upd_same | (rw [upd_ne (by first | assumption | exact Ne.symm (by assumption))]; first | assumption | exact upd_same))) | decide | exact Nat.le_of_ble_eq_true rfl | omega | (show ∃ xs, SqL _ _ _ xs; exact ⟨_, SqL.of (by (first | assumption | exact upd_same | (rw [upd_ne (by first | assumption | exact Ne.symm (by assumption))]; first | assumption | exact upd_same | (rw [upd_ne (by first | assumption | exact Ne.symm (by assumption))]; first | assumption | exact upd_same))))⟩) | (show ∃ xs, SqT _ _ _ xs; exact ⟨_, SqT.of (by (first | assumption | exact upd_same | (rw [upd_ne (by first | assumption | exact Ne.symm (by assumption))]; first | assumption | exact upd_same | (rw [upd_ne (by first | assumption | exact Ne.symm (by assumption))]; first | assumption | exact upd_same))))⟩) | exact DGet.k (k := Sum.inl _) (by (first | assumption | exact upd_same | (rw [upd_ne (by first | assumption | exact Ne.symm (by assumption))]; first | assumption | exact upd_same | (rw [upd_ne (by first | assumption | exact Ne.symm (by assumption))]; first | assumption | exact upd_same)))) | (show V.int _ = kV (Sum.inl _); rfl) | (show ∃ z, V.str _ = V.str z; exact ⟨_, rfl⟩) | exact Or.inl ⟨by (first | decide | omega), by (first | decide | omega)⟩ | exact Or.inr ⟨by (first | decide | omega), by (first | decide | omega)⟩ | exact ⟨by (first | decide | omega), by (first | decide | omega)⟩ | exact ⟨by decide, by decide, by decide⟩ | exact L2.ClsV.ty _ | exact Dt.ty (by assumption) | exact Dt.kint (by assumption) | exact Dt.kbool (by assumption) | exact Dt.ktuple (by assumption) | exact Dt.klist (by assumption) | exact Dt.kstr (by assumption))) | (apply Exists.intro; apply Exists.intro; apply Exists.intro; apply Exists.intro; apply Exists.intro; apply And.intro; focus (first | rfl | assumption | exact upd_same | exact SqL.of (by (first | assumption | exact upd_same | (rw [upd_ne (by first | assumption | exact Ne.symm (by assumption))]; first | assumption | exact upd_same | (rw [upd_ne (by first | assumption | exact Ne.symm (by assumption))]; first | assumption | exact upd_same)))) | exact SqT.of (by (first | assumption | exact upd_same | (rw [upd_ne (by first | assumption | exact Ne.symm (by assumption))]; first | assumption | exact upd_same | (rw [upd_ne (by first | assumption | exact Ne.symm (by assumption))]; first | assumption | exact upd_same)))) | exact Or.inl (SqL.of (by (first | assumption | exact upd_same | (rw [upd_ne (by first | assumption | exact Ne.symm (by assumption))]; first | assumption | exact upd_same | (rw [upd_ne (by first | assumption | exact Ne.symm (by assumption))]; first | assumption | exact upd_same))))) | exact Or.inr (SqT.of (by (first | assumption | exact upd_same | (rw [upd_ne (by first | assumption | exact Ne.symm (by assumption))]; first | assumption | exact upd_same | (rw [upd_ne (by first | assumption | exact Ne.symm (by assumption))]; first | assumption | exact upd_same))))) | exact Or.inl ⟨rfl, _, SqL.of (by (first | assumption | exact upd_same | (rw [upd_ne (by first | assumption | exact Ne.symm (by assumption))]; first | assumption | exact upd_same | (rw [upd_ne (by first | assumption | exact Ne.symm (by assumption))]; first | assumption | exact upd_same))))⟩ | (first | assumption | exact upd_same | (rw [upd_ne (by first | assumption | exact Ne.symm (by assumption))]; first | assumption | exact upd_same | (rw [upd_ne (by first | assumption | exact Ne.symm (by assumption))]; first | assumption | exact upd_same))) | decide | exact Nat.le_of_ble_eq_true rfl | omega | (show ∃ xs, SqL _ _ _ xs; exact ⟨_, SqL.of (by (first | assumption | exact upd_same | (rw [upd_ne (by first | assumption | exact Ne.symm (by assumption))]; first | assumption | exact upd_same | (rw [upd_ne (by first | assumption | exact Ne.symm (by assumption))]; first | assumption | exact upd_same))))⟩) | (show ∃ xs, SqT _ _ _ xs; exact ⟨_, SqT.of (by (first | assumption | exact upd_same | (rw [upd_ne (by first | assumption | exact Ne.symm (by assumption))]; first | assumption | exact upd_same | (rw [upd_ne (by first | assumption | exact Ne.symm (by assumption))]; first | assumption | exact upd_same))))⟩) | exact DGet.k (k := Sum.inl _) (by (first | assumption | exact upd_same | (rw [upd_ne (by first | assumption | exact Ne.symm (by assumption))]; first | assumption | exact upd_same | (rw [upd_ne (by first | assumption | exact Ne.symm (by assumption))]; first | assumption | exact upd_same)))) | (show V.int _ = kV (Sum.inl _); rfl) | (show ∃ z, V.str _ = V.str z; exact ⟨_, rfl⟩) | exact Or.inl ⟨by (first | decide | omega), by (first | decide | omega)⟩ | exact Or.inr ⟨by (first | decide | omega), by (first | decide | omega)⟩ | exact ⟨by (first | decide | omega), by (first | decide | omega)⟩ | exact ⟨by decide, by decide, by decide⟩ | exact L2.ClsV.ty _ | exact Dt.ty (by assumption) | exact Dt.kint (by assumption) | exact Dt.kbool (by assumption) | exact Dt.ktuple (by assumption) | exact Dt.klist (by assumption) | exact Dt.kstr (by assumption))) | (apply Exists.intro; apply Exists.intro; apply Exists.intro; apply Exists.intro; apply Exists.intro; apply Exists.intro; apply And.intro; focus (first | rfl | assumption | exact upd_same | exact SqL.of (by (first | assumption | exact upd_same | (rw [upd_ne (by first | assumption | exact Ne.symm (by assumption))]; first | assumption | exact upd_same | (rw [upd_ne (by first | assumption | exact Ne.symm (by assumption))]; first | assumption | exact upd_same)))) | exact SqT.of (by (first | assumption | exact upd_same | (rw [upd_ne (by first | assumption | exact Ne.symm (by assumption))]; first | assumption | exact upd_same | (rw [upd_ne (by first | assumption | exact Ne.symm (by assumption))]; first | assumption | exact upd_same)))) | exact Or.inl (SqL.of (by (first | assumption | exact upd_same | (rw [upd_ne (by first | assumption | exact Ne.symm (by assumption))]; first | assumption | exact upd_same | (rw [upd_ne (by first | assumption | exact Ne.symm (by assumption))]; first | assumption | exact upd_same))))) | exact Or.inr (SqT.of (by (first | assumption | exact upd_same | (rw [upd_ne (by first | assumption | exact Ne.symm (by assumption))]; first | assumption | exact upd_same | (rw [upd_ne (by first | assumption | exact Ne.symm (by assumption))]; first | assumption | exact upd_same))))) | exact Or.inl ⟨rfl, _, SqL.of (by (first | assumption | exact upd_same | (rw [upd_ne (by first | assumption | exact Ne.symm (by assumption))]; first | assumption | exact upd_same | (rw [upd_ne (by first | assumption | exact Ne.symm (by assumption))]; first | assumption | exact upd_same))))⟩ | (first | assumption | exact upd_same | (rw [upd_ne (by first | assumption | exact Ne.symm (by assumption))]; first | assumption | exact upd_same | (rw [upd_ne (by first | assumption | exact Ne.symm (by assumption))]; first | assumption | exact upd_same))) | decide | exact Nat.le_of_ble_eq_true rfl | omega | (show ∃ xs, SqL _ _ _ xs; exact ⟨_, SqL.of (by (first | assumption | exact upd_same | (rw [upd_ne (by first | assumption | exact Ne.symm (by assumption))]; first | assumption | exact upd_same | (rw [upd_ne (by first | assumption | exact Ne.symm (by assumption))]; first | assumption | exact upd_same))))⟩) | (show ∃ xs, SqT _ _ _ xs; exact ⟨_, SqT.of (by (first | assumption | exact upd_same | (rw [upd_ne (by first | assumption | exact Ne.symm (by assumption))]; first | assumption | exact upd_same | (rw [upd_ne (by first | assumption | exact Ne.symm (by assumption))]; first | assumption | exact upd_same))))⟩) | exact DGet.k (k := Sum.inl _) (by (first | assumption | exact upd_same | (rw [upd_ne (by first | assumption | exact Ne.symm (by assumption))]; first | assumption | exact upd_same | (rw [upd_ne (by first | assumption | exact Ne.symm (by assumption))]; first | assumption | exact upd_same)))) | (show V.int _ = kV (Sum.inl _); rfl) | (show ∃ z, V.str _ = V.str z; exact ⟨_, rfl⟩) | exact Or.inl ⟨by (first | decide | omega), by (first | decide | omega)⟩ | exact Or.inr ⟨by (first | decide | omega), by (first | decide | omega)⟩ | exact ⟨by (first | decide | omega), by (first | decide | omega)⟩ | exact ⟨by decide, by decide, by decide⟩ | exact L2.ClsV.ty _ | exact Dt.ty (by assumption) | exact Dt.kint (by assumption) | exact Dt.kbool (by assumption) | exact Dt.ktuple (by assumption) | exact Dt.klist (by assumption) | exact Dt.kstr (by assumption))) | (apply Exists.intro; apply Exists.intro; apply Exists.intro; apply Exists.intro; apply Exists.intro; apply Exists.intro; apply Exists.intro; apply And.intro; focus (first | rfl | assumption | exact upd_same | exact SqL.of (by (first | assumption | exact upd_same | (rw [upd_ne (by first | assumption | exact Ne.symm (by assumption))]; first | assumption | exact upd_same | (rw [upd_ne (by first | assumption | exact Ne.symm (by assumption))]; first | assumption | exact upd_same)))) | exact SqT.of (by (first | assumption | exact upd_same | (rw [upd_ne (by first | assumption | exact Ne.symm (by assumption))]; first | assumption | exact upd_same | (rw [upd_ne (by first | assumption | exact Ne.symm (by assumption))]; first | assumption | exact upd_same)))) | exact Or.inl (SqL.of (by (first | assumption | exact upd_same | (rw [upd_ne (by first | assumption | exact Ne.symm (by assumption))]; first | assumption | exact upd_same | (rw [upd_ne (by first | assumption | exact Ne.symm (by assumption))]; first | assumption | exact upd_same))))) | exact Or.inr (SqT.of (by (first | assumption | exact upd_same | (rw [upd_ne (by first | assumption | exact Ne.symm (by assumption))]; first | assumption | exact upd_same | (rw [upd_ne (by first | assumption | exact Ne.symm (by assumption))]; first | assumption | exact upd_same))))) | exact Or.inl ⟨rfl, _, SqL.of (by (first | assumption | exact upd_same | (rw [upd_ne (by first | assumption | exact Ne.symm (by assumption))]; first | assumption | exact upd_same | (rw [upd_ne (by first | assumption | exact Ne.symm (by assumption))]; first | assumption | exact upd_same))))⟩ | (first | assumption | exact upd_same | (rw [upd_ne (by first | assumption | exact Ne.symm (by assumption))]; first | assumption | exact upd_same | (rw [upd_ne (by first | assumption | exact Ne.symm (by assumption))]; first | assumption | exact upd_same))) | decide | exact Nat.le_of_ble_eq_true rfl | omega | (show ∃ xs, SqL _ _ _ xs; exact ⟨_, SqL.of (by (first | assumption | exact upd_same | (rw [upd_ne (by first | assumption | exact Ne.symm (by assumption))]; first | assumption | exact upd_same | (rw [upd_ne (by first | assumption | exact Ne.symm (by assumption))]; first | assumption | exact upd_same))))⟩) | (show ∃ xs, SqT _ _ _ xs; exact ⟨_, SqT.of (by (first | assumption | exact upd_same | (rw [upd_ne (by first | assumption | exact Ne.symm (by assumption))]; first | assumption | exact upd_same | (rw [upd_ne (by first | assumption | exact Ne.symm (by assumption))]; first | assumption | exact upd_same))))⟩) | exact DGet.k (k := Sum.inl _) (by (first | assumption | exact upd_same | (rw [upd_ne (by first | assumption | exact Ne.symm (by assumption))]; first | assumption | exact upd_same | (rw [upd_ne (by first | assumption | exact Ne.symm (by assumption))]; first | assumption | exact upd_same)))) | (show V.int _ = kV (Sum.inl _); rfl) | (show ∃ z, V.str _ = V.str z; exact ⟨_, rfl⟩) | exact Or.inl ⟨by (first | decide | omega), by (first | decide | omega)⟩ | exact Or.inr ⟨by (first | decide | omega), by (first | decide | omega)⟩ | exact ⟨by (first | decide | omega), by (first | decide | omega)⟩ | exact ⟨by decide, by decide, by decide⟩ | exact L2.ClsV.ty _ | exact Dt.ty (by assumption) | exact Dt.kint (by assumption) | exact Dt.kbool (by assumption) | exact Dt.ktuple (by assumption) | exact Dt.klist (by assumption) | exact Dt.kstr (by assumption))) | (apply Exists.intro; apply Exists.intro; apply Exists.intro; apply Exists.intro; apply Exists.intro; apply Exists.intro; apply Exists.intro; apply Exists.intro; apply And.intro; focus (first | rfl | assumption | exact upd_same | exact SqL.of (by (first | assumption | exact upd_same | (rw [upd_ne (by first | assumption | exact Ne.symm (by assumption))]; first | assumption | exact upd_same | (rw [upd_ne (by first | assumption | exact Ne.symm (by assumption))]; first | assumption | exact upd_same)))) | exact SqT.of (by (first | assumption | exact upd_same | (rw [upd_ne (by first | assumption | exact Ne.symm (by assumption))]; first | assumption | exact upd_same | (rw [upd_ne (by first | assumption | exact Ne.symm (by assumption))]; first | assumption | exact upd_same)))) | exact Or.inl (SqL.of (by (first | assumption | exact upd_same | (rw [upd_ne (by first | assumption | exact Ne.symm (by assumption))]; first | assumption | exact upd_same | (rw [upd_ne (by first | assumption | exact Ne.symm (by assumption))]; first | assumption | exact upd_same))))) | exact Or.inr (SqT.of (by (first | assumption | exact upd_same | (rw [upd_ne (by first | assumption | exact Ne.symm (by assumption))]; first | assumption | exact upd_same | (rw [upd_ne (by first | assumption | exact Ne.symm (by assumption))]; first | assumption | exact upd_same))))) | exact Or.inl ⟨rfl, _, SqL.of (by (first | assumption | exact upd_same | (rw [upd_ne (by first | assumption | exact Ne.symm (by assumption))]; first | assumption | exact upd_same | (rw [upd_ne (by first | assumption | exact Ne.symm (by assumption))]; first | assumption | exact upd_same))))⟩ | (first | assumption | exact upd_same | (rw [upd_ne (by first | assumption | exact Ne.symm (by assumption))]; first | assumption | exact upd_same | (rw [upd_ne (by first | assumption | exact Ne.symm (by assumption))]; first | assumption | exact upd_same))) | decide | exact Nat.le_of_ble_eq_true rfl | omega | (show ∃ xs, SqL _ _ _ xs; exact ⟨_, SqL.of (by (first | assumption | exact upd_same | (rw [upd_ne (by first | assumption | exact Ne.symm (by assumption))]; first | assumption | exact upd_same | (rw [upd_ne (by first | assumption | exact Ne.symm (by assumption))]; first | assumption | exact upd_same))))⟩) | (show ∃ xs, SqT _ _ _ xs; exact ⟨_, SqT.of (by (first | assumption | exact upd_same | (rw [upd_ne (by first | assumption | exact Ne.symm (by assumption))]; first | assumption | exact upd_same | (rw [upd_ne (by first | assumption | exact Ne.symm (by assumption))]; first | assumption | exact upd_same))))⟩) | exact DGet.k (k := Sum.inl _) (by (first | assumption | exact upd_same | (rw [upd_ne (by first | assumption | exact Ne.symm (by assumption))]; first | assumption | exact upd_same | (rw [upd_ne (by first | assumption | exact Ne.symm (by assumption))]; first | assumption | exact upd_same)))) | (show V.int _ = kV (Sum.inl _); rfl) | (show ∃ z, V.str _ = V.str z; exact ⟨_, rfl⟩) | exact Or.inl ⟨by (first | decide | omega), by (first | decide | omega)⟩ | exact Or.inr ⟨by (first | decide | omega), by (first | decide | omega)⟩ | exact ⟨by (first | decide | omega), by (first | decide | omega)⟩ | exact ⟨by decide, by decide, by decide⟩ | exact L2.ClsV.ty _ | exact Dt.ty (by assumption) | exact Dt.kint (by assumption) | exact Dt.kbool (by assumption) | exact Dt.ktuple (by assumption) | exact Dt.klist (by assumption) | exact Dt.kstr (by assumption))) | (apply Exists.intro; apply Exists.intro; apply Exists.intro; apply Exists.intro; apply Exists.intro; apply Exists.intro; apply Exists.intro; apply Exists.intro; apply Exists.intro; apply And.intro; focus (first | rfl | assumption | exact upd_same | exact SqL.of (by (first | assumption | exact upd_same | (rw [upd_ne (by first | assumption | exact Ne.symm (by assumption))]; first | assumption | exact upd_same | (rw [upd_ne (by first | assumption | exact Ne.symm (by assumption))]; first | assumption | exact upd_same)))) | exact SqT.of (by (first | assumption | exact upd_same | (rw [upd_ne (by first | assumption | exact Ne.symm (by assumption))]; first | assumption | exact upd_same | (rw [upd_ne (by first | assumption | exact Ne.symm (by assumption))]; first | assumption | exact upd_same)))) | exact Or.inl (SqL.of (by (first | assumption | exact upd_same | (rw [upd_ne (by first | assumption | exact Ne.symm (by assumption))]; first | assumption | exact upd_same | (rw [upd_ne (by first | assumption | exact Ne.symm (by assumption))]; first | assumption | exact upd_same))))) | exact Or.inr (SqT.of (by (first | assumption | exact upd_same | (rw [upd_ne (by first | assumption | exact Ne.symm (by assumption))]; first | assumption | exact upd_same | (rw [upd_ne (by first | assumption | exact Ne.symm (by assumption))]; first | assumption | exact upd_same))))) | exact Or.inl ⟨rfl, _, SqL.of (by (first | assumption | exact upd_same | (rw [upd_ne (by first | assumption | exact Ne.symm (by assumption))]; first | assumption | exact upd_same | (rw [upd_ne (by first | assumption | exact Ne.symm (by assumption))]; first | assumption | exact upd_same))))⟩ | (first | assumption | exact upd_same | (rw [upd_ne (by first | assumption | exact Ne.symm (by assumption))]; first | assumption | exact upd_same | (rw [upd_ne (by first | assumption | exact Ne.symm (by assumption))]; first | assumption | exact upd_same))) | decide | exact Nat.le_of_ble_eq_true rfl | omega | (show ∃ xs, SqL _ _ _ xs; exact ⟨_, SqL.of (by (first | assumption | exact upd_same | (rw [upd_ne (by first | assumption | exact Ne.symm (by assumption))]; first | assumption | exact upd_same | (rw [upd_ne (by first | assumption | exact Ne.symm (by assumption))]; first | assumption | exact upd_same))))⟩) | (show ∃ xs, SqT _ _ _ xs; exact ⟨_, SqT.of (by (first | assumption | exact upd_same | (rw [upd_ne (by first | assumption | exact Ne.symm (by assumption))]; first | assumption | exact upd_same | (rw [upd_ne (by first | assumption | exact Ne.symm (by assumption))]; first | assumption | exact upd_same))))⟩) | exact DGet.k (k := Sum.inl _) (by (first | assumption | exact upd_same | (rw [upd_ne (by first | assumption | exact Ne.symm (by assumption))]; first | assumption | exact upd_same | (rw [upd_ne (by first | assumption | exact Ne.symm (by assumption))]; first | assumption | exact upd_same)))) | (show V.int _ = kV (Sum.inl _); rfl) | (show ∃ z, V.str _ = V.str z; exact ⟨_, rfl⟩) | exact Or.inl ⟨by (first | decide | omega), by (first | decide | omega)⟩ | exact Or.inr ⟨by (first | decide | omega), by (first | decide | omega)⟩ | exact ⟨by (first | decide | omega), by (first | decide | omega)⟩ | exact ⟨by decide, by decide, by decide⟩ | exact L2.ClsV.ty _ | exact Dt.ty (by assumption) | exact Dt.kint (by assumption) | exact Dt.kbool (by assumption) | exact Dt.ktuple (by assumption) | exact Dt.klist (by assumption) | exact Dt.kstr (by assumption))) | refine Or.inl ⟨_, rfl, ?_⟩ | refine Or.inr ⟨_, rfl, ?_⟩ | refine Or.inr ⟨SqT.of (by (first | assumption | exact upd_same | (rw [upd_ne (by first | assumption | exact Ne.symm (by assumption))]; first | assumption | exact upd_same | (rw [upd_ne (by first | assumption | exact Ne.symm (by assumption))]; first | assumption | exact upd_same)))), SqT.of (by (first | assumption | exact upd_same | (rw [upd_ne (by first | assumption | exact Ne.symm (by assumption))]; first | assumption | exact upd_same | (rw [upd_ne (by first | assumption | exact Ne.symm (by assumption))]; first | assumption | exact upd_same)))), ?_⟩ | refine Or.inl ⟨SqL.of (by (first | assumption | exact upd_same | (rw [upd_ne (by first | assumption | exact Ne.symm (by assumption))]; first | assumption | exact upd_same | (rw [upd_ne (by first | assumption | exact Ne.symm (by assumption))]; first | assumption | exact upd_same)))), SqL.of (by (first | assumption | exact upd_same | (rw [upd_ne (by first | assumption | exact Ne.symm (by assumption))]; first | assumption | exact upd_same | (rw [upd_ne (by first | assumption | exact Ne.symm (by assumption))]; first | assumption | exact upd_same)))), ?_⟩ | refine Or.inl ⟨SqL.of (by (first | assumption | exact upd_same | (rw [upd_ne (by first | assumption | exact Ne.symm (by assumption))]; first | assumption | exact upd_same | (rw [upd_ne (by first | assumption | exact Ne.symm (by assumption))]; first | assumption | exact upd_same)))), ?_⟩ | refine Or.inr ⟨SqT.of (by (first | assumption | exact upd_same | (rw [upd_ne (by first | assumption | exact Ne.symm (by assumption))]; first | assumption | exact upd_same | (rw [upd_ne (by first | assumption | exact Ne.symm (by assumption))]; first | assumption | exact upd_same)))), ?_⟩ | refine ifT rfl ?_ | refine ifF rfl ?_))
mutual
theorem Rp.dpQ {K : PySem.W.Frag} {N : Addr → Prop} {H : Hp} : ∀ {v : V} {d : PyData}, Rp N H v d → d.canLay0 = true → Dp K H v d
  | _, _, .non, _ => .non
  | _, _, .bl b, _ => .bl b
  | _, _, .int i, _ => .int i
  | _, _, .str x, _ => .str x
  | _, _, .lst e _ r, c => .lst (SqL.of e) (r.dpQ (by simpa [PyData.canLay0] using c))
  | _, _, .tup e _ r, c => .tup (SqT.of e) (r.dpQ (by simpa [PyData.canLay0] using c))
  | _, _, .emp _ _, c => by simp [PyData.canLay0] at c
theorem RpAll.dpQ {K : PySem.W.Frag} {N : Addr → Prop} {H : Hp} : ∀ {vs : List V} {ds : List PyData}, RpAll N H vs ds → PyData.canLayAll0 ds = true → DpAll K H vs ds
  | _, _, .nil, _ => .nil
  | _, _, .cons r t, c => by
    unfold PyData.canLayAll0 at c
    rw [Bool.and_eq_true] at c
    exact .cons (r.dpQ c.1) (t.dpQ c.2)
end
/-- two data that are one: a != b is False -/
theorem ne_sameQ {K : PySem.W.Frag} {N N' : Addr → Prop} {H : Hp} {x y : V} {d : PyData} {Q : VK} (a : Rp N H x d) (b : Rp N' H y d) (hs : SeqAt.shaped d = true) (q : Q (.bl false) H) : rNeD K x y H Q :=
  ⟨d, d, a.dpQ (SeqAt.canLay_of_shaped hs), b.dpQ (SeqAt.canLay_of_shaped hs), hs, hs, by rw [SeqAt.eqv_refl d (SeqAt.canLay_of_shaped hs)]; exact q⟩
theorem ints_shaped (ns : List Int) : SeqAt.shaped (.tuple (ns.map PyData.int)) = true := by
  have h : ∀ ns : List Int, PyData.depthAll (ns.map PyData.int) = 0 ∧ PyData.canLayAll0 (ns.map PyData.int) = true := fun ns => by
    induction ns with
    | nil => exact ⟨rfl, rfl⟩
    | cons n ns ih => exact ⟨by simp only [List.map_cons, PyData.depthAll, PyData.depth, ih.1]; omega, by simp only [List.map_cons, PyData.canLayAll0, PyData.canLay0, ih.2, Bool.and_true]⟩
  obtain ⟨h1, h2⟩ := h ns
  unfold SeqAt.shaped
  rw [Bool.and_eq_true, decide_eq_true_eq]
  exact ⟨by simp only [PyData.canLay0, h2], by simp only [PyData.depth, h1]; omega⟩
theorem new_lst {N : Addr → Prop} {H : Hp} {p : Addr} {xs : List V} {ds : List PyData} (n : H p = none) (np : ¬ N p) (r : RpAll N H xs ds) : Rp N (upd H p (.lst xs)) (.ref p) (.list ds) := .lst upd_same np (r.to (Kp.new n))
theorem new_tup {N : Addr → Prop} {H : Hp} {p : Addr} {xs : List V} {ds : List PyData} (n : H p = none) (np : ¬ N p) (r : RpAll N H xs ds) : Rp N (upd H p (.tup xs)) (.ref p) (.tuple ds) := .tup upd_same np (r.to (Kp.new n))
def spLawP (K : PySem.W.Frag) : Sp := fun vs H Q _ => ∃ (a : Addr) (ns : List Int), vs = [.ref a] ∧ SqL K H a (ns.map V.int) ∧ ns.length ≤ 1000 ∧ ∀ H', Q (.bl true) H'
section
variable {P : Program} {w : World} {K : PySem.W.Frag} {mg : Str → Option Value} {base : Heap} {CB CN : Addr}
theorem d_law {f0 : Addr} {fd0 : FuncData} (B : Bi mg) (F : Fun K "law" "law" s_law f0 fd0) (D_law_pool : Has P w K mg base 1 "_law_pool" ["script"] (spPool K)) (D_law_draw : Has P w K mg base 1 "_law_draw" ["pool", "many"] spDraw) (D_law_parcel : Has P w K mg base 6 "_law_parcel" ["pool", "deep"] (spParc 3)) (D_law_nested : Has P w K mg base 1 "_law_nested" ["many", "inner"] spNested)
    (D_row_of : HasX P w K mg base 24 "row_of" ["parcel"] (spRowOf CN)) (D_law_bytes : Has P w K mg base 22 "_law_bytes" ["parcel"] (spBytes 20)) (D_law_same : Has P w K mg base 22 "_law_same" ["one", "other"] (spSameD 20)) (D_parcel_of : HasX P w K mg base 46 "parcel_of" ["row"] (spReadRow CB)) (D_law_deep : Has P w K mg base 1 "_law_deep" [] spDeepL)
    (D_law_is_parcel : Has P w K mg base 22 "_law_is_parcel" ["thing", "left"] (spLIsP 20)) (D_is_parcel : Has P w K mg base 23 "is_parcel" ["thing"] spIsParcel) (D_law_flag : Has P w K mg base 1 "_law_flag" ["thing", "due"] spFlag) (D_law_word : Has P w K mg base 26 "_law_word" ["which", "thing"] spWordP) : FnOk P w K mg base CX0 47 f0 fd0 ["script"] (spLawP K) := by
  refine F.ok sc_law (fun vs H Q E h => ?_) (fun cdv A outer s H vs Q E hr h => ?_)
  · obtain ⟨a, ns, rfl, _⟩ := h
    rfl
  obtain ⟨a, ns, rfl, hS, hl, k⟩ := h
  refine ⟨_, (pss_cons (ps_set (i := 1) sc_law.nd rfl (Or.inl rfl) (pe_h D_law_pool (hr.mono (by decide)) rfl (pa_cons (pv 0) pa_nil)))
    (pss_cons (ps_for PassesOwn.never rfl (pi_range1 rfl B.range (pa_cons pe_int pa_nil)) (pg_name (i := 2) sc_law.nd rfl (Or.inl rfl))
    (pss_cons (ps_set (i := 3) sc_law.nd rfl (Or.inl rfl) (pe_h D_law_parcel (hr.mono (by decide)) rfl (pa_cons (pv 1) (pa_cons pe_int pa_nil))))
    (C8.pss_cut (ps_if (pt_cmpR op_eq (pe_h D_law_draw (hr.mono (by decide)) rfl (pa_cons (pv 1) (pa_cons pe_int pa_nil))) pe_int (nomark _))
    (pss_one (ps_set (i := 3) sc_law.nd rfl (Or.inl rfl) (pe_h D_law_nested (hr.mono (by decide)) rfl (pa_cons (pe_op op_sub (pe_ix ix_list (pe_lst (pa_cons pe_int (pa_cons pe_int (pa_cons pe_int pa_nil)))) (pe_h D_law_draw (hr.mono (by decide)) rfl (pa_cons (pv 1) (pa_cons pe_int pa_nil))) (fun _ _ => rfl)) (pe_op op_mul (pe_callTy call_int1 rfl B.int (by decide +kernel) (pa_cons (pe_callB call_isi rfl B.isinstance (by decide +kernel) (pa_cons (pv 3) (pa_cons (pe_bltn (v := .ty "tuple") rfl B.tuple (by decide +kernel) rfl) pa_nil))) pa_nil)) pe_int)) (pa_cons (pv 3) pa_nil)))))
    pss_nil)
    (pss_cons (ps_set (i := 4) sc_law.nd rfl (Or.inl rfl) (pe_hX0 D_row_of (hr.mono (by decide)) rfl (pa_cons (pv 3) pa_nil)))
    (pss_cons (ps_if (PW.pt (pw_or (pt_cmpR (op_neD hr.units) (pv 4) (pe_callTy call_tuple_of rfl B.tuple (by decide +kernel) (pa_cons (pe_h D_law_bytes (hr.mono (by decide)) rfl (pa_cons (pv 3) pa_nil)) pa_nil)) (nomark _)) (pw_or (pt_not (pt_val (pe_callB call_isi rfl B.isinstance (by decide +kernel) (pa_cons (pv 4) (pa_cons (pe_bltn (v := .ty "tuple") rfl B.tuple (by decide +kernel) rfl) pa_nil))))) (pw_or1 (pt_not (pt_val (pe_h D_law_same (hr.mono (by decide)) rfl (pa_cons (pe_hX0 D_parcel_of (hr.mono (by decide)) rfl (pa_cons (pv 4) pa_nil)) (pa_cons (pv 3) pa_nil)))))))))
    (pss_one (ps_ret pe_bl))
    pss_nil)
    (pss_cons (ps_set (i := 5) sc_law.nd rfl (Or.inl rfl) (pe_lst (pa_cons pe_str (pa_cons (pe_op op_repS pe_str pe_int) (pa_cons (pe_op op_repS pe_str pe_int) (pa_cons pe_str (pa_cons (pe_lst pa_nil) (pa_cons (pe_lst (pa_cons pe_int pa_nil)) (pa_cons pe_dnewK (pa_cons (pe_h0 D_law_deep (hr.mono (by decide)) rfl ) (pa_cons (pe_h D_law_nested (hr.mono (by decide)) rfl (pa_cons pe_int (pa_cons pe_int pa_nil))) (pa_cons (pe_h D_law_nested (hr.mono (by decide)) rfl (pa_cons pe_int (pa_cons (pe_tup pa_nil) pa_nil))) (pa_cons (pe_h D_law_nested (hr.mono (by decide)) rfl (pa_cons pe_int (pa_cons pe_int pa_nil))) pa_nil)))))))))))))
    (pss_cons (ps_set (i := 5) sc_law.nd rfl (Or.inl rfl) (pe_op op_cat (pv 5) (pe_lst (pa_cons (pe_tup (pa_cons pe_int (pa_cons (pe_lst pa_nil) pa_nil))) (pa_cons (pe_tup (pa_cons pe_str (pa_cons pe_int pa_nil))) pa_nil)))))
    (pss_cons (ps_set (i := 6) sc_law.nd rfl (Or.inl rfl) (pe_ix ix_list (pv 5) (pe_h D_law_draw (hr.mono (by decide)) rfl (pa_cons (pv 1) (pa_cons pe_int pa_nil))) (fun _ _ => rfl)))
    (pss_one (ps_for PassesOwn.never rfl (pi_list (pe_lst (pa_cons (pv 3) (pa_cons (pv 6) (pa_cons (pe_tup (pa_cons (pv 6) (pa_cons (pv 3) pa_nil))) pa_nil))))) (pg_name (i := 7) sc_law.nd rfl (Or.inr rfl))
    (pss_cons (ps_set (i := 8) sc_law.nd rfl (Or.inl rfl) (pe_h D_law_is_parcel (hr.mono (by decide)) rfl (pa_cons (pv 7) (pa_cons pe_int pa_nil))))
    (pss_one (ps_if (PW.pt (pw_or (pt_not (pt_val (pe_h D_law_flag (hr.mono (by decide)) rfl (pa_cons (pe_h D_is_parcel (hr.mono (by decide)) rfl (pa_cons (pv 7) pa_nil)) (pa_cons (pv 8) pa_nil))))) (pw_or1 (pt_cmpR (op_neD hr.units) (pe_lc (own := [("which", 9)]) (g := gName 9) (tt := tYes) (te := (tCall spWordP [] E0 (tCons (tVar 9) (tCons (tVar 7) tNil)))) rfl sc_law.nd (pi_range1 rfl B.range (pa_cons pe_int pa_nil)) (blkOk_by (own := [("which", 9)]) (N := ["script", "pool", "turn", "parcel", "row", "odd", "thing", "one", "due", "which"]) (sc := defScope s_law) (by decide +kernel)) (fun _ _ _ _ _ => (pg_name (i := 9) sc_law.nd rfl (Or.inl rfl))) (fun _ _ _ _ _ => pts_nil) (fun _ _ _ _ _ => (pe_h D_law_word (hr.mono (by decide)) rfl (pa_cons (pv 9) (pa_cons (pv 7) pa_nil))))) (pe_op op_rep (pe_lst (pa_cons (pe_ix ix_list (pe_lst (pa_cons pe_str (pa_cons pe_str pa_nil))) (pe_callTy call_int1 rfl B.int (by decide +kernel) (pa_cons (pv 8) pa_nil)) (fun _ _ => rfl)) pa_nil)) pe_int) (nomark _)))))
    (pss_one (ps_ret pe_bl))
    pss_nil)))))))))))))
    (pss_one (ps_ret pe_bl)))), ?_⟩
  refine ⟨_, rfl, a, ns, rfl, hS, hl, fun h l H1 nh nl s1 ho1 => ?_⟩
  trivial
  refine for_it (walk_range (lo := 0) (n := 4)) (fun i σ H' => ∃ v2 v3 v4 v5 v6 v7 v8 v9, σ = [some (.ref a), some (.ref h), v2, v3, v4, v5, v6, v7, v8, v9] ∧ PoolOk H' h l) ?_ (fun _ _ _ _ _ => True.intro) (fun i x σ H2 H3 hi q y => ?_) fun σ H2 q => ?_
  · exact ⟨none, none, none, none, none, none, none, none, rfl, ho1⟩
  · obtain ⟨v2, v3, v4, v5, v6, v7, v8, v9, rfl, ho2⟩ := q
    obtain ⟨rfl, rfl⟩ := y
    refine ⟨_, rfl, h, l, 3, rfl, Nat.le_refl _, ho2, fun v d H4 r4 hd4 ho4 k4 => ?_⟩
    have r4' : Rp (Np h l) H4 v d := r4.kp Kp.refl fun a o _ n z => n (ho2.al z)
    refine ⟨fun σ H' => ∃ v2 v d, σ = [some (.ref a), some (.ref h), v2, some v, v4, v5, v6, v7, v8, v9] ∧ Rp (Np h l) H' v d ∧ GoodP d ∧ PoolOk H' h l, ?_, ?_⟩
    · trivial
      intro r5 H5 r50 r51 ho5 hk5
      have r5' := r4'.to (Kp.pool hk5)
      trivial
      refine ite2 (fun c => ?_) (fun c => ?_)
      · trivial
        intro p np
        have ho5' := ho5.new (o := .lst [.int 20, .int 19, .int 5]) np
        have r5'' := r5'.to (Kp.new (o := .lst [.int 20, .int 19, .int 5]) np)
        have npp := ho5.np np
        trivial
        intro r6 H6 r60 r61 ho6 hk6
        have k6 := Kp.pool hk6
        have ep : H6 p = some (.lst [.int 20, .int 19, .int 5]) := k6 p _ upd_same npp
        have r6' := r5''.to k6
        have dt := r6'.dt
        obtain ⟨m, hm, m0⟩ : ∃ m : Nat, atI [V.int 20, .int 19, .int 5] r6 = some (.int (m : Int)) ∧ (m = 20 ∨ m = 19 ∨ m = 5) := by
          rcases (show r6 = 0 ∨ r6 = 1 ∨ r6 = 2 by omega) with rfl | rfl | rfl
          · exact ⟨20, rfl, .inl rfl⟩
          · exact ⟨19, rfl, .inr (.inl rfl)⟩
          · exact ⟨5, rfl, .inr (.inr rfl)⟩
        trivial
        cases e8 : isTy "tuple" (tyN d) with
        | true =>
          refine ⟨Np h l, m - 4, v, d, ?_, by omega, r6', fun p H' s n => (ho6.same s).np n, fun v' H7 s7 r7 => ?_⟩
          · show [V.int ((m : Int) - 1 * 4), v] = _
            rw [show (m : Int) - 1 * 4 = ((m - 4 : Nat) : Int) by omega]
          · exact ⟨_, v', nestD (m - 4) d, rfl, r7, GoodP.nest hd4 (.inl (by omega)), ho6.same s7⟩
        | false =>
          refine ⟨Np h l, m, v, d, ?_, by omega, r6', fun p H' s n => (ho6.same s).np n, fun v' H7 s7 r7 => ?_⟩
          · show [V.int ((m : Int) - 0 * 4), v] = _
            rw [show (m : Int) - 0 * 4 = (m : Int) by omega]
          · exact ⟨_, v', nestD m d, rfl, r7, GoodP.nest hd4 (.inr ⟨by omega, fun ds z => by rw [z] at e8; cases e8⟩), ho6.same s7⟩
      · trivial
        exact ⟨GoodP.of hd4, ho5⟩
    · rintro σ H5 ⟨v2, v, d, rfl, r5, g5, ho5⟩
      have g5i := g5.i
      refine ⟨_, rfl, Np h l, v, d, rfl, r5, g5.odd.f.s, (fun z => by rw [g5i] at z; cases z), fun _ => ⟨(g5.odd.f.f g5i).1, by have := g5.l; omega, fun p H6 s6 ep => ?_⟩⟩
      have r6 := r5.to (kp_same (N := Np h l) s6)
      have dp := isP_depth 20 d g5i
      obtain ⟨fb, _⟩ := g5.odd.f.f g5i
      have lb : (byD d).length ≤ 1000000 := by have := g5.l; omega
      have d0 : Dt H6 (.ref p) "tuple" := .tup ep
      trivial
      intro p7 H7 s7 n7 ep7
      trivial
      intro p8 n8
      have s8 := snew (o := .tup ((byD d).map V.int)) s7 n8
      have e8 : upd H7 p8 (.tup ((byD d).map V.int)) p8 = some (.tup ((byD d).map V.int)) := upd_same
      have d0' := d0.same s8
      trivial
      refine ne_sameQ (row_data (N := fun _ => False) (s8 _ _ ep) (fun z => z)) (row_data (N := fun _ => False) e8 (fun z => z)) (ints_shaped _) ?_
      have ro8 := g5.row (s8 _ _ ep)
      trivial
      rw [g5.told]
      intro u9 H9 s9 rv9
      have s09 := (s6.trans s8).trans s9
      have r9 := r5.to (kp_same (N := Np h l) s09)
      obtain ⟨_, _, td5, _⟩ := okB_fine d g5.p
      refine ⟨_, rfl, _, Np h l, u9, v, d, rfl, rv9, r9, dp, td5, fun H10 s10 => ?_⟩
      have s010 := s09.trans s10
      trivial
      intro q1 nq1
      have sa1 := snew (o := .lst []) s010 nq1
      have ra1 : Rp (Np h l) (upd H10 q1 (.lst [])) (.ref q1) (.list []) := .lst upd_same ((ho5.same s010).np nq1) .nil
      trivial
      intro q2 nq2
      have s12 := same_new0 (o := .lst [.int 1]) nq2
      have sa2 := sa1.trans s12
      have ra2 : Rp (Np h l) (upd (upd H10 q1 (.lst [])) q2 (.lst [.int 1])) (.ref q2) (.list [.int 1]) := .lst upd_same ((ho5.same sa1).np nq2) (.cons (.int 1) .nil)
      have ra1' := ra1.to (kp_same (N := Np h l) s12)
      generalize (upd (upd H10 q1 (.lst [])) q2 (.lst [.int 1])) = G2 at *
      refine fun q3 nq3 => ?_
      have s23 := same_new0 (o := .dK []) nq3
      have sa3 := sa2.trans s23
      have rb3 : Rp (Np h l) (upd G2 q3 (.dK [])) (.ref q3) (.dict []) := .emp upd_same ((ho5.same sa2).np nq3)
      have rb1 := ra1'.to (kp_same (N := Np h l) s23)
      have rb2 := ra2.to (kp_same (N := Np h l) s23)
      generalize (upd G2 q3 (.dK [])) = G3 at *
      refine ⟨rfl, fun q4 G4 s34 r4 => ?_⟩
      have sa4 := sa3.trans s34
      have hN3 : ∀ a, Np h l a → G3 a ≠ none := fun a z => (ho5.same sa3).al z
      have rc4 : Rp (Np h l) G4 (.ref q4) (nestL 36 .none) := r4.kp Kp.refl fun a o _ n z => n (hN3 a z)
      refine ⟨Np h l, 21, .int 0, .int 0, rfl, by decide, .int 0, fun p H' s n => ((ho5.same sa4).same s).np n, fun w5 G5 s45 rd5 => ?_⟩
      have sa5 := sa4.trans s45
      refine ⟨by rw [sizeLine_eq]; decide, fun q6 nq6 => ?_⟩
      have s56 := same_new0 (o := .tup []) nq6
      have sa6 := sa5.trans s56
      have re6 : Rp (Np h l) (upd G5 q6 (.tup [])) (.ref q6) (.tuple []) := .tup upd_same ((ho5.same sa5).np nq6) .nil
      generalize (upd G5 q6 (.tup [])) = G6 at *
      refine ⟨Np h l, 20, .ref q6, .tuple [], rfl, by decide, re6, fun p H' s n => ((ho5.same sa6).same s).np n, fun w7 G7 s67 rf7 => ?_⟩
      have sa7 := sa6.trans s67
      refine ⟨Np h l, 20, .int 0, .int 0, rfl, by decide, .int 0, fun p H' s n => ((ho5.same sa7).same s).np n, fun w8 G8 s78 rg8 => ?_⟩
      have sa8 := sa7.trans s78
      have s38 := ((s34.trans s45).trans (s56.trans s67)).trans s78
      have tA : Rp (Np h l) G8 (.ref q1) (.list []) := rb1.to (kp_same s38)
      have tB : Rp (Np h l) G8 (.ref q2) (.list [.int 1]) := rb2.to (kp_same s38)
      have tC' : Rp (Np h l) G8 (.ref q3) (.dict []) := rb3.to (kp_same s38)
      have tD : Rp (Np h l) G8 (.ref q4) (nestL 36 .none) := rc4.to (kp_same ((s45.trans (s56.trans s67)).trans s78))
      have tE : Rp (Np h l) G8 w5 (nestD 21 (.int 0)) := rd5.to (kp_same ((s56.trans s67).trans s78))
      have tF : Rp (Np h l) G8 w7 (nestD 20 (.tuple [])) := rf7.to (kp_same s78)
      trivial
      intro q9 nq9
      have s89 := same_new0 (o := .lst [.str "", .str (aS 21), .str (aS 20), .str "a\n", .ref q1, .ref q2, .ref q3, .ref q4, w5, w7, w8]) nq9
      have sa9 := sa8.trans s89
      have e9 : upd G8 q9 (.lst [.str "", .str (aS 21), .str (aS 20), .str "a\n", .ref q1, .ref q2, .ref q3, .ref q4, w5, w7, w8]) q9 = some (.lst [.str "", .str (aS 21), .str (aS 20), .str "a\n", .ref q1, .ref q2, .ref q3, .ref q4, w5, w7, w8]) := upd_same
      trivial
      intro q10 n10
      have s910 := same_new0 (o := .lst []) n10
      have sa10 := sa9.trans s910
      have e10 := new_lst (xs := []) (ds := []) n10 ((ho5.same sa9).np n10) .nil
      trivial
      intro q11 n11
      have s1011 := same_new0 (o := .tup [.int 1, .ref q10]) n11
      have sa11 := sa10.trans s1011
      have e11 := new_tup (xs := [.int 1, .ref q10]) (ds := [.int 1, .list []]) n11 ((ho5.same sa10).np n11) (.cons (.int 1) (.cons e10 .nil))
      trivial
      intro q12 n12
      have s1112 := same_new0 (o := .tup [.str "", .int 1]) n12
      have sa12 := sa11.trans s1112
      have e12 := new_tup (xs := [.str "", .int 1]) (ds := [.str "", .int 1]) n12 ((ho5.same sa11).np n12) (.cons (.str "") (.cons (.int 1) .nil))
      trivial
      intro q13 n13
      have s1213 := same_new0 (o := .lst [.ref q11, .ref q12]) n13
      have sa13 := sa12.trans s1213
      have s913 := ((s910.trans s1011).trans s1112).trans s1213
      refine cat_l (s913 _ _ e9) upd_same (by show 11 + 2 ≤ 16777216; decide) fun q14 H14 s1314 n14 e14 => ?_
      have sa14 := sa13.trans s1314
      have s814 := (s89.trans s913).trans s1314
      have tods : RpAll (Np h l) H14 ([.str "", .str (aS 21), .str (aS 20), .str "a\n", .ref q1, .ref q2, .ref q3, .ref q4, w5, w7, w8] ++ [.ref q11, .ref q12]) oddP :=
        .cons (.str _) (.cons (.str _) (.cons (.str _) (.cons (.str _) (.cons (tA.to (kp_same s814)) (.cons (tB.to (kp_same s814)) (.cons (tC'.to (kp_same s814)) (.cons (tD.to (kp_same s814)) (.cons (tE.to (kp_same s814)) (.cons (tF.to (kp_same s814)) (.cons (rg8.to (kp_same s814))
          (.cons (e11.to (kp_same ((s1112.trans s1213).trans s1314))) (.cons (e12.to (kp_same (s1213.trans s1314))) .nil))))))))))))
      have ho14 := ho5.same sa14
      have r14 := r5.to (kp_same (N := Np h l) sa14)
      have n14' : ¬ Np h l q14 := (ho5.same sa13).np n14
      generalize e15 : ([V.str "", .str (aS 21), .str (aS 20), .str "a\n", .ref q1, .ref q2, .ref q3, .ref q4, w5, w7, w8] ++ [.ref q11, .ref q12]) = ods at *
      have lods : ods.length = 13 := by rw [← e15]; rfl
      trivial
      intro r15 H15 r150 r151 ho15 hk15
      have k15 := Kp.pool hk15
      have e15' := k15 _ _ e14 n14'
      obtain ⟨j15, rfl⟩ : ∃ j : Nat, r15 = (j : Int) := ⟨r15.toNat, by omega⟩
      obtain ⟨u, hu⟩ : ∃ u, ods[j15]? = some u := ⟨_, List.getElem?_eq_getElem (by omega)⟩
      obtain ⟨du, mu, _, ru⟩ := tods.at_ hu
      have ou := oddP_ok du mu
      have au : atI ods (j15 : Int) = some u := atI_nat hu
      have ru15 := ru.to k15
      have r15' := r14.to k15
      trivial
      intro q16 n16
      have e16 := new_tup (xs := [u, v]) (ds := [du, d]) n16 (ho15.np n16) (.cons ru15 (.cons r15' .nil))
      have s16 := same_new0 (o := .tup [u, v]) n16
      have ho16 := ho15.same s16
      trivial
      intro q17 n17
      have s17 := same_new0 (o := .lst [v, u, .ref q16]) n17
      have f17 : ∀ (i : Nat) (x : V), [v, u, V.ref q16][i]? = some x → ∃ dx, FitP dx ∧ Rp (Np h l) (upd (upd H15 q16 (.tup [u, v])) q17 (.lst [v, u, .ref q16])) x dx := fun i x hx => by
        match i, hx with
        | 0, hx => simp at hx; subst hx; exact ⟨d, g5.odd.f, (r15'.to (kp_same s16)).to (kp_same s17)⟩
        | 1, hx => simp at hx; subst hx; exact ⟨du, ou.f, (ru15.to (kp_same s16)).to (kp_same s17)⟩
        | 2, hx => simp at hx; subst hx; exact ⟨.tuple [du, d], ou.f.pair g5.odd.f ou.dp g5.odd.dp ou.l g5.odd.l, e16.to (kp_same s17)⟩
        | i + 3, hx => simp at hx
      have ho17 := ho16.same s17
      trivial
      refine for_it (walk_list (xs := [v, u, .ref q16])) (fun i σ H' => ∃ w7 w8 w9, σ = [some (.ref a), some (.ref h), v2, some v, some (.ref p), some (.ref q14), some u, w7, w8, w9] ∧ Same (upd (upd H15 q16 (.tup [u, v])) q17 (.lst [v, u, .ref q16])) H') ⟨v7, v8, v9, rfl, Same.refl _⟩ (fun i σ H' _ q => ?_) (fun i x σ H18 H19 hi q y => ?_) fun σ H18 q => ?_
      · obtain ⟨_, _, _, _, s⟩ := q
        exact SqL.of (s _ _ upd_same)
      · obtain ⟨x7, x8, x9, rfl, s18⟩ := q
        obtain ⟨rfl, gx⟩ := y
        obtain ⟨dx, fx, rx⟩ := f17 i x gx
        have rx18 := rx.to (kp_same (N := Np h l) s18)
        trivial
        refine ⟨fx.s, fx.n, fun H20 s20 => ?_⟩
        have rx20 := rx18.to (kp_same (N := Np h l) s20)
        have fs := fx.s
        have hw : isP 20 dx = true → fineB dx = true ∧ (byD dx).length ≤ 1000000 := fun z => ⟨(fx.f z).1, by have := (fx.f z).2; omega⟩
        trivial
        intro H21 s21
        have dP : decide (V.bl (isP 20 dx) = V.bl (isP 20 dx)) = true := decide_eq_true rfl
        trivial
        rw [dP]
        refine ifF rfl ?_
        trivial
        intro D nD
        have rx21 := rx20.to (kp_same (N := Np h l) s21)
        refine lc_map walk_range (List.replicate 2 (V.str (if isP 20 dx then "let" else "parcel"))) rfl nD (by decide) (fun _ _ _ _ => True.intro) (fun i y H22 H23 Pn hi s22 yy fin => ?_) fun H22 s22 eL => ?_
        · obtain ⟨rfl, rfl⟩ := yy
          refine ⟨rfl, ?_⟩
          refine ⟨_, rfl, _, rfl, Np h l, 0 + (i : Nat), x, dx, rfl, rx21.to (kp_same s22), fx.s, hw, fun H24 s24 => ?_⟩
          exact fin _ _ (by rw [List.getElem?_replicate, if_pos (show i < 2 from hi)]) s24
        · trivial
          intro m1 nm1
          have aE : atI [V.str "parcel", .str "let"] (if isP 20 dx = true then 1 else 0) = some (V.str (if isP 20 dx then "let" else "parcel")) := by cases isP 20 dx <;> rfl
          trivial
          intro m2 nm2
          trivial
          intro m3 nm3
          generalize hz : (if isP 20 dx = true then ("let" : Str) else "parcel") = z at *
          have hzk : PyData.strOk z = true := by rw [← hz]; cases isP 20 dx <;> decide +kernel
          have sA := same_new0 (o := .lst [.str "parcel", .str "let"]) nm1
          have sB := same_new0 (o := .lst [.str z]) nm2
          have sC := same_new0 (o := .lst [.str z, .str z]) nm3
          have sABC := (sA.trans sB).trans sC
          have rD : Rp (fun _ => False) (upd (upd (upd H22 m1 (.lst [.str "parcel", .str "let"])) m2 (.lst [.str z])) m3 (.lst [.str z, .str z])) (.ref D) (.list [.str z, .str z]) := .lst (sABC _ _ eL) (fun y => y) (.cons (.str _) (.cons (.str _) .nil))
          have rM : Rp (fun _ => False) (upd (upd (upd H22 m1 (.lst [.str "parcel", .str "let"])) m2 (.lst [.str z])) m3 (.lst [.str z, .str z])) (.ref m3) (.list [.str z, .str z]) := .lst upd_same (fun y => y) (.cons (.str _) (.cons (.str _) .nil))
          refine ne_sameQ rD rM (by simp [SeqAt.shaped, PyData.canLay0, PyData.canLayAll0, PyData.depth, PyData.depthAll, hzk]) ?_
          refine ⟨false, rfl, ifF rfl ?_⟩
          exact ⟨_, _, _, rfl, (((s18.trans s20).trans s21).trans s22).trans sABC⟩
      · obtain ⟨x7, x8, x9, rfl, s18⟩ := q
        exact ⟨_, _, _, _, _, _, _, _, rfl, ho17.same s18⟩
  · obtain ⟨v2, v3, v4, v5, v6, v7, v8, v9, rfl, ho2⟩ := q
    trivial
    exact k _
end
end KQ
set_option Elab.async false
set_option maxRecDepth 100000
set_option maxHeartbeats 4000000
namespace KQ
open PySem PySem.Spec PyProof.Rows L2
theorem oex_of {K : PySem.W.Frag} {C : Addr} {o : Obj} (l : K.lookup C = some o) (e : ∃ nm q N bs bm sn sub ab col dd k0 k1 k2 k3 k5, o = excClassObj nm q C N bs bm true sn sub ab col dd k0 k1 k2 k3 k5 "ValueError.__new__" ∧ PySem.HandSPX.refsVE bm = true) (sa : PySem.W.findIn K (.ref C) "__setattr__" = some (some (.builtin "object.__setattr__")))
    (exC : PySem.W.subIn K (.ref C) (.type "BaseException") = some true) (tyC : PySem.W.typeIn K (.ref C) = some (.type "type")) (kC : PySem.W.keepIn K (.ref C) = true) : OexC K C := by
  obtain ⟨nm, q, N, bs, bm, sn, sub, ab, col, dd, k0, k1, k2, k3, k5, e, r⟩ := e
  exact ⟨⟨nm, q, N, bs, bm, sn, sub, ab, col, dd, k0, k1, k2, k3, k5, by rw [l, e], r⟩, sa, exC, tyC, kC⟩
theorem exm_b {K : PySem.W.Frag} {mg : Str → Option Value} {x : Str} {A B : Addr} {b : Bool} (TA : ExcAt K mg x A) (n : PySem.W.subIn K (.ref B) (.ref A) = some b) : PySem.W.exmOne K (.ref B) (.ref A) = some b := by
  unfold PySem.W.exmOne
  have e1 : (PySem.W.clsIn K A).isSome = true := TA.isC
  simp [TA.sub, PySem.W.kitCls, n, TA.ty, e1]
theorem kit_b {K : PySem.W.Frag} {mg : Str → Option Value} {x : Str} {A : Addr} {t : Value} {b : Bool} (TA : ExcAt K mg x A) (h : (t == .ref A) = false) (n : PySem.W.subIn K t (.ref A) = some b) : PySem.W.kitOne K t (.ref A) = some b := by
  unfold PySem.W.kitOne PySem.W.kitCls
  have e1 : (PySem.W.clsIn K A).isSome = true := TA.isC
  simp [h, e1, TA.ty, n]
theorem kit_self {K : PySem.W.Frag} {A : Addr} : PySem.W.kitOne K (.ref A) (.ref A) = some true := by simp [PySem.W.kitOne]
theorem kit_ve {K : PySem.W.Frag} {A : Addr} {b : Bool} (n : PySem.W.subIn K (.ref A) (.type "ValueError") = some b) : PySem.W.kitOne K (.ref A) (.type "ValueError") = some b := by
  unfold PySem.W.kitOne PySem.W.kitCls
  simp [show PySem.W.kitMeta "ValueError" = true by decide +kernel, n]
theorem tup_at {K : PySem.W.Frag} {a : Addr} {od : Option Addr} {its : Array Value} {n : Nat} {sl : Array (Option Value)} {xs : List V} (l : K.lookup a = some ⟨.type "tuple", od, .seq its n, sl⟩) (hz : its.size ≤ sizeLine) (r : Vals xs its.toList) : ∀ H, SqT K H a xs := fun _ => .inr ⟨_, its, n, l, rfl, rfl, hz, r⟩
theorem err_init_BadRow {P : Program} {w : World} {K : PySem.W.Frag} {mg : Str → Option Value} {base : Heap} {C f : Addr} {fd : FuncData} (F : Fun K "__init__" "BadRow.__init__" s_BadRow___init__ f fd) (T : OexC K C) (no : PySem.W.findIn K (.ref C) "place" = some none) :
    FnOk P w K mg base CX0 1 f fd ["self", "place"] (spErrInit C "place") := by
  refine F.ok sc_BadRow___init__ (fun vs H Q E h => ?_) fun cdv A outer s H vs Q E hr h => ?_
  · obtain ⟨a, v, rfl, _⟩ := h
    rfl
  obtain ⟨a, v, rfl, ha, k⟩ := h
  refine ⟨_, (pss_one (ps_ost (pv 0) (pv 1))), ?_⟩
  exact ⟨_, rfl, _, rfl, a, C, rfl, T, no, .inl ⟨ha, fun dx hd ne => k dx hd ne⟩⟩
theorem err_at_BadRow {P : Program} {w : World} {K : PySem.W.Frag} {mg : Str → Option Value} {base h : Heap} {C f : Addr} {oc : Value} {od an : Option Addr} {kV doc pm cdv ct : Value} {sl : Array (Option Value)} (X : K.In h) (G : h.Ns mainGlobals mg)
    (a : PySem.W.nsIn K mainGlobals "BadRow" = some (some (.ref C))) (T : OexC K C) (U : XfC K C) (no : PySem.W.findIn K (.ref C) "place" = some none) (own : PySem.W.subIn K (.ref C) (.ref C) = some true) (isC : PySem.W.isClsIn K C = true)
    (iC : PySem.W.findIn K (.ref C) "__init__" = some (some (.ref f))) (tI : PySem.W.typeIn K (.ref f) = some (.type "function"))
    (l : K.lookup f = some ⟨oc, od, .func (PySem.W.fnOf "__init__" "BadRow.__init__" (defArgs s_BadRow___init__) (defBody s_BadRow___init__) (defScope s_BadRow___init__) .none kV doc pm an cdv ct), sl⟩)
    (c : PySem.W.codeIn K cdv "BadRow.__init__" = true) (k : PySem.W.keepIn K (.ref f) = true) : ErrAt P w K mg base "BadRow" C "place" := by
  have F := fun_mk l c k
  refine ⟨PySem.W.mg_of X G a, T, U, no, ?_, f, _, iC, tI, err_init_BadRow F T no, F.binds fun _ _ _ _ _ _ us hl => match us, hl with | [_, _], _ => rfl⟩
  unfold PySem.W.exmOne
  have e1 : (PySem.W.clsIn K C).isSome = true := isC
  simp [T.exC, PySem.W.kitCls, own, T.tyC, e1]
theorem fin {P : Program} {w : World} {K : PySem.W.Frag} {mg : Str → Option Value} {h : Heap} {fa : Addr} {CB CN CQ CR PL : Addr} {t_g3 t_g4 t_g5 t_g6 t_gD t_gL t_gB t_gF t_gZ t_gX t_gLo t_gHi t_gFa : Tok} (X : K.In h) (G : h.Ns mainGlobals mg) (hfa : mg "law" = some (.ref fa)) (B : Bi mg)
    (xN : ExcAt K mg "NoParcel" CN)
    (xR : ExcAt K mg "NoRow" CR)
    (xQ : ExcAt K mg "QuietError" CQ)
    (xB : ∀ base : Heap, ErrAt P w K mg base "BadRow" CB "place")
    (vE : mg "ValueError" = none)
    (cE : ExcC K CN)
    (nq : PySem.W.subIn K (.ref CN) (.ref CQ) = some true)
    (nv : PySem.W.subIn K (.ref CN) (.type "ValueError") = some true)
    (F1 : FunAt K mg "is_number" s_is_number)
    (F2 : FunAt K mg "is_below" s_is_below)
    (F3 : FunAt K mg "is_parcel" s_is_parcel)
    (F4 : FunAt K mg "is_parcel_within" s_is_parcel_within)
    (F5 : FunAt K mg "is_sign_number" s_is_sign_number)
    (F6 : FunAt K mg "is_row" s_is_row)
    (F7 : FunAt K mg "check_row" s_check_row)
    (F8 : FunAt K mg "row_of" s_row_of)
    (F9 : FunAt K mg "bytes_of" s_bytes_of)
    (F10 : FunAt K mg "plain_sort" s_plain_sort)
    (F11 : FunAt K mg "whole_of" s_whole_of)
    (F12 : FunAt K mg "parcel_of" s_parcel_of)
    (F13 : FunAt K mg "read_row" s_read_row)
    (F14 : FunAt K mg "read_parcel" s_read_parcel)
    (F15 : FunAt K mg "read_whole" s_read_whole)
    (F16 : FunAt K mg "read_signs" s_read_signs)
    (F17 : FunAt K mg "sign_of" s_sign_of)
    (F18 : FunAt K mg "read_items" s_read_items)
    (F19 : FunAt K mg "mark_of" s_mark_of)
    (F20 : FunAt K mg "sealed" s_sealed)
    (F21 : FunAt K mg "seal_of" s_seal_of)
    (gPL : PySem.W.nsIn K mainGlobals "PLAIN" = some (some (.ref PL))) (gPLT : ∀ H, SqT K H PL [.non, .bl false, .bl true])
    (g3 : PySem.W.nsIn K mainGlobals "FROM_ZERO" = some (some (.int (3) t_g3)))
    (g4 : PySem.W.nsIn K mainGlobals "BELOW_ZERO" = some (some (.int (4) t_g4)))
    (g5 : PySem.W.nsIn K mainGlobals "STRING" = some (some (.int (5) t_g5)))
    (g6 : PySem.W.nsIn K mainGlobals "TUPLE" = some (some (.int (6) t_g6)))
    (gD : PySem.W.nsIn K mainGlobals "DEEPEST" = some (some (.int (20) t_gD)))
    (gL : PySem.W.nsIn K mainGlobals "LONGEST" = some (some (.int (20) t_gL)))
    (gB : PySem.W.nsIn K mainGlobals "BASE" = some (some (.int (128) t_gB)))
    (gF : PySem.W.nsIn K mainGlobals "FIRST_SIGN" = some (some (.int (32) t_gF)))
    (gZ : PySem.W.nsIn K mainGlobals "LAST_SIGN" = some (some (.int (126) t_gZ)))
    (gX : PySem.W.nsIn K mainGlobals "BARRED_SIGN" = some (some (.int (37) t_gX)))
    (gLo : PySem.W.nsIn K mainGlobals "LOW_SIGNS" = some (some (.str (Str.ofString " !\"#$") t_gLo)))
    (gHi : PySem.W.nsIn K mainGlobals "HIGH_SIGNS" = some (some (.str (Str.ofString "&'()*+,-./0123456789:;<=>?@ABCDEFGHIJKLMNOPQRSTUVWXYZ[\\]^_`abcdefghijklmnopqrstuvwxyz{|}~") t_gHi)))
    (gFa : PySem.W.nsIn K mainGlobals "FACTOR" = some (some (.int (1000003) t_gFa)))
    (gPr : ∃ t, mg "PRIME" = some (.int (2305843009213693951) t))
    (gSe : ∃ t, mg "SEALS" = some (.int (4294967296) t))
    (L1 : FunAt K mg "_law_pool" s_law_pool)
    (L2 : FunAt K mg "_law_draw" s_law_draw)
    (L3 : FunAt K mg "_law_deep" s_law_deep)
    (L4 : FunAt K mg "_law_flag" s_law_flag)
    (L5 : FunAt K mg "_law_whole" s_law_whole)
    (L6 : FunAt K mg "_law_bytes" s_law_bytes)
    (L7 : FunAt K mg "_law_number" s_law_number)
    (L8 : FunAt K mg "_law_parcel" s_law_parcel)
    (L9 : FunAt K mg "_law_nested" s_law_nested)
    (L10 : FunAt K mg "_law_same" s_law_same)
    (L11 : FunAt K mg "_law_is_parcel" s_law_is_parcel)
    (L12 : FunAt K mg "_law_word" s_law_word)
    (L0 : FunAt K mg "law" s_law) :
    ∃ fd : FuncData, (∀ (s : Shared) (u : Value), BindsTo s fd ⟨[u], []⟩ [("script", u)]) ∧ ∀ base : Heap, FnOk P w K mg base CX0 47 fa fd ["script"] (spLawP K) := by
  obtain ⟨f0, fd0, F0, m0⟩ := L0
  rw [hfa] at m0
  cases m0
  have gPL' := PySem.W.mg_of X G gPL
  have g3' := PySem.W.mg_of X G g3
  have g4' := PySem.W.mg_of X G g4
  have g5' := PySem.W.mg_of X G g5
  have g6' := PySem.W.mg_of X G g6
  have gD' := PySem.W.mg_of X G gD
  have gL' := PySem.W.mg_of X G gL
  have gB' := PySem.W.mg_of X G gB
  have gF' := PySem.W.mg_of X G gF
  have gZ' := PySem.W.mg_of X G gZ
  have gX' := PySem.W.mg_of X G gX
  have gLo' := PySem.W.mg_of X G gLo
  have gHi' := PySem.W.mg_of X G gHi
  have gFa' := PySem.W.mg_of X G gFa
  obtain ⟨t_gPr, gPr'⟩ := gPr
  obtain ⟨t_gSe, gSe'⟩ := gSe
  refine ⟨fd0, fun s u => ?_, fun base => ?_⟩
  · obtain ⟨oc, od, kV, doc, pm, an, cdv, ct, osl, rfl, _, _⟩ := F0.ex
    exact .of_eq rfl
  have E5 := d_is_sign_number (P := P) (w := w) (mg := mg) (base := base) F5 gF' gZ' gX'
  have E4 := d_is_parcel_within (P := P) (w := w) (mg := mg) (base := base) B F4 gL' E5 20
  have E3 := d_is_parcel (P := P) (w := w) (mg := mg) (base := base) F3 gD' E4
  have E11 := d_whole_of (P := P) (w := w) (mg := mg) (base := base) F11 gB'
  have E10 := d_plain_sort (P := P) (w := w) (mg := mg) (base := base) F10
  have E9 := d_bytes_of (P := P) (w := w) (mg := mg) (base := base) B F9 g3' g4' g5' g6' E11 E10 20
  have E8 := d_row_of (P := P) (w := w) (mg := mg) (base := base) B xN F8 E3 E9
  have E19 := d_mark_of (P := P) (w := w) (mg := mg) (base := base) F19 gFa' gPr'
  have E21 := d_seal_of (P := P) (w := w) (mg := mg) (base := base) B F21 gSe' E19
  have E20 := d_sealed (P := P) (w := w) (mg := mg) (base := base) F20 E8 E21
  have E1 := d_is_number (P := P) (w := w) (mg := mg) (base := base) B F1
  have E2 := d_is_below (P := P) (w := w) (mg := mg) (base := base) F2 E1
  have E6 := d_is_row (P := P) (w := w) (mg := mg) (base := base) B F6 E2
  have E7 := d_check_row (P := P) (w := w) (mg := mg) (base := base) xR F7 E6
  have E17 := d_sign_of (P := P) (w := w) (mg := mg) (base := base) F17 gF' gX' gLo' gHi'
  have E15 := d_read_whole (P := P) (w := w) (mg := mg) (base := base) B (xB base) F15 gB'
  have E16 := d_read_signs (P := P) (w := w) (mg := mg) (base := base) B (xB base) F16 E5 E17
  have E14 := d_read_parcel (P := P) (w := w) (mg := mg) (base := base) B (xB base) F14 F18 gPL' gPLT g3' g4' g6' gL' E15 E16 20
  have E13 := d_read_row (P := P) (w := w) (mg := mg) (base := base) B (xB base) F13 gD' E14
  have E12 := d_parcel_of (P := P) (w := w) (mg := mg) (base := base) F12 E7 E13
  have D1 := d_law_pool (P := P) (w := w) (mg := mg) (base := base) B L1
  have D2 := d_pool_draw (P := P) (w := w) (mg := mg) (base := base) B L2
  have D3 := d_law_deepL (P := P) (w := w) (mg := mg) (base := base) B L3
  have D4 := d_law_flag (P := P) (w := w) (mg := mg) (base := base) B L4
  have D5 := d_law_whole (P := P) (w := w) (mg := mg) (base := base) L5
  have D6 := d_law_bytes (P := P) (w := w) (mg := mg) (base := base) B L6 D5 20
  have D7 := d_pnum (P := P) (w := w) (mg := mg) (base := base) B L7 D2
  have D8 := d_parcel (P := P) (w := w) (mg := mg) (base := base) B L8 D2 D7 3
  have D9 := d_nested (P := P) (w := w) (mg := mg) (base := base) B L9
  have D10 := d_lsame (P := P) (w := w) (mg := mg) (base := base) B L10 20
  have D11 := d_lisp (P := P) (w := w) (mg := mg) (base := base) B L11 20
  have D12 := d_law_word (P := P) (w := w) (mg := mg) (base := base) B L12 xN xQ vE cE (exm_b xQ nq) kit_self (kit_ve nv) E8 E20
  exact d_law (P := P) (w := w) (mg := mg) (base := base) B F0 D1 D2 D8 D9 E8 D6 D10 E12 D3 D11 E3 D4 D12
end KQ
local macro_rules | `(tactic| walk_at "kq fun") => `(tactic| (refine' KQ.funAt_of (by assumption) (by assumption) ?a ?l ?c ?k; (case a => k_is); (case l => k_is); (case c => k_is); (case k => k_is)))
local macro_rules | `(tactic| walk_at "kq meth") => `(tactic| (refine' KQ.methAt_of ?a ?i ?l ?c ?k; (case a => k_is); (case i => k_is); (case l => k_is); (case c => k_is); (case k => k_is)))
local macro_rules | `(tactic| walk_at "kq init") => `(tactic| (refine' KQ.initAt_of (by assumption) (by assumption) ?aC ?mk ?kC ?a ?i ?l ?c ?k; (case aC => k_is); (case mk => k_is); (case kC => k_is); (case a => k_is); (case i => k_is); (case l => k_is); (case c => k_is); (case k => k_is)))
local macro_rules | `(tactic| walk_at "kq free") => `(tactic| (refine' KQ.free_of (by assumption) (by assumption) ?e; (case e => k_is)))
local macro_rules | `(tactic| walk_at "kq cls") => `(tactic| (refine' ⟨?a, ?b, ?c, ?d⟩; (case a => k_is); (case b => k_is); (case c => k_is); (case d => k_is)))
local macro_rules | `(tactic| walk_at "kq exc") => `(tactic| (refine' KQ.excAt_of (by assumption) (by assumption) ?a ?kp ?ex ?sub ?ty ?own ?isC; (case a => k_is); (case kp => k_is); (case ex => k_exc); (case sub => k_is); (case ty => k_is); (case own => first | rfl | k_is); (case isC => k_is)))
local macro_rules | `(tactic| walk_at "kq err BadRow") => `(tactic| (intro base; refine' KQ.err_at_BadRow (by assumption) (by assumption) ?a ?T ?U ?no ?own ?isC ?iC ?tI ?l ?c ?k; (case a => k_is); (case T => (refine' KQ.oex_of ?x ?y ?sa ?exC ?tyC ?kC; (case x => k_is); (case y => exact ⟨_, _, _, _, _, _, _, _, _, _, _, _, _, _, _, rfl, by decide +kernel⟩); (case sa => k_is); (case exC => k_is); (case tyC => k_is); (case kC => k_is))); (case U => (refine' ⟨?ga, ?gg, ?exC, ?hdC⟩; (case ga => k_is); (case gg => k_is); (case exC => k_is); (case hdC => k_is))); (case no => k_is); (case own => first | rfl | k_is); (case isC => k_is); (case iC => k_is); (case tI => k_is); (case l => k_is); (case c => k_is); (case k => k_is)))
open PySem PySem.W PyProof.Rows
set_option maxRecDepth 100000 in
set_option maxHeartbeats 0 in
theorem PySem.Challenge.cw_knownquiet_k42_whole_rows_of_parcels_holds : PySem.Challenge.rw_knownquiet_k42_whole_rows_of_parcels.Holds := by
  w_on; o_law; k_head; (case hw => w_witness2)
  k_fill
  refine KQ.walkX (l := PySem.Challenge.rw_knownquiet_k42_whole_rows_of_parcels) (k := 47) (sp := fun K => KQ.spLawP K) rfl rfl ⟨rfl, by decide, by decide⟩ (fun w h Y => PySem.W.kIn_of Y) ?F fun K H a ns hl hS => ⟨a, ns, rfl, hS, Nat.le_trans hl (by decide), fun _ => rfl⟩
  case F =>
    intro w mg fa h KX G hX hmg
    refine' KQ.fin KX G hmg ?B ?xN ?xR ?xQ ?xB ?vE ?cE ?nq ?nv ?F1 ?F2 ?F3 ?F4 ?F5 ?F6 ?F7 ?F8 ?F9 ?F10 ?F11 ?F12 ?F13 ?F14 ?F15 ?F16 ?F17 ?F18 ?F19 ?F20 ?F21 ?gPL ?gPLT ?g3 ?g4 ?g5 ?g6 ?gD ?gL ?gB ?gF ?gZ ?gX ?gLo ?gHi ?gFa ?gPr ?gSe ?L1 ?L2 ?L3 ?L4 ?L5 ?L6 ?L7 ?L8 ?L9 ?L10 ?L11 ?L12 ?L0
    case B => constructor <;> walk_at "kq free"
    case xN => walk_at "kq exc"
    case xR => walk_at "kq exc"
    case xQ => walk_at "kq exc"
    case xB => walk_at "kq err BadRow"
    case vE => walk_at "kq free"
    case cE => (constructor <;> k_is)
    case nq => first | rfl | k_is
    case nv => k_is
    case F1 => walk_at "kq fun"
    case F2 => walk_at "kq fun"
    case F3 => walk_at "kq fun"
    case F4 => walk_at "kq fun"
    case F5 => walk_at "kq fun"
    case F6 => walk_at "kq fun"
    case F7 => walk_at "kq fun"
    case F8 => walk_at "kq fun"
    case F9 => walk_at "kq fun"
    case F10 => walk_at "kq fun"
    case F11 => walk_at "kq fun"
    case F12 => walk_at "kq fun"
    case F13 => walk_at "kq fun"
    case F14 => walk_at "kq fun"
    case F15 => walk_at "kq fun"
    case F16 => walk_at "kq fun"
    case F17 => walk_at "kq fun"
    case F18 => walk_at "kq fun"
    case F19 => walk_at "kq fun"
    case F20 => walk_at "kq fun"
    case F21 => walk_at "kq fun"
    case gPL => k_is
    case gPLT => (refine' KQ.tup_at (its := #[.none, .bool false, .bool true]) ?l (by decide) (.cons rfl (.cons rfl (.cons rfl .nil))); (case l => k_is))
    case g3 => k_is
    case g4 => k_is
    case g5 => k_is
    case g6 => k_is
    case gD => k_is
    case gL => k_is
    case gB => k_is
    case gF => k_is
    case gZ => k_is
    case gX => k_is
    case gLo => k_is
    case gHi => k_is
    case gFa => k_is
    case gPr => (obtain ⟨v, e, r⟩ := hX.2.val (PySem.Str.ofString "PRIME", WData.int (2305843009213693951)) (by simp); cases r; exact ⟨_, e⟩)
    case gSe => (obtain ⟨v, e, r⟩ := hX.2.val (PySem.Str.ofString "SEALS", WData.int (4294967296)) (by simp); cases r; exact ⟨_, e⟩)
    case L1 => walk_at "kq fun"
    case L2 => walk_at "kq fun"
    case L3 => walk_at "kq fun"
    case L4 => walk_at "kq fun"
    case L5 => walk_at "kq fun"
    case L6 => walk_at "kq fun"
    case L7 => walk_at "kq fun"
    case L8 => walk_at "kq fun"
    case L9 => walk_at "kq fun"
    case L10 => walk_at "kq fun"
    case L11 => walk_at "kq fun"
    case L12 => walk_at "kq fun"
    case L0 => walk_at "kq fun"
#print axioms PySem.Challenge.cw_knownquiet_k42_whole_rows_of_parcels_holds
