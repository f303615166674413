import PyProof.Rows.All
import Wide.All
import OpenK.AllK
import Wide.FinOn
import HandS.ForMost
import HandS.ForExc
import HandS.IsInst
import HandS.Style
import HandS.Small
import HandS.Zip
import HandS.TryMany
import HandS.Codes
import HandS.More
import KE.GoesEnumKw
import HandS.ExcInit
import HandS.ExcField
import HandS.OwnEq
import HandS.TupAny
import HandS.TupMul
import KE.KMinKey
import HandS.SortKw
import HandS.Walk
import PyProof.StrOps2
import HandS.ExcIs
import KE.GoesZip
import KE.GoesMore
import HandS.SortInts
import HandS.Wide
import HandS.Conv
import HandS.TupLen
import HandS.DictComp
import HandS.DictTup
import HandS.Flow
import HandS.TupLe
import KE.KItemsList
import HandS.ListItems
import PySem.Challenge.RW_knownquiet_k07_whole_links_take_each_thi
set_option Elab.async false
set_option maxRecDepth 100000
set_option maxHeartbeats 4000000
namespace KQ
open PySem PySem.Spec PyProof.Rows L2
def FunAt (K : PySem.W.Frag) (mg : Str → Option Value) (x : Str) (st : Stmt) : Prop := ∃ f fd, Fun K x x st f fd ∧ mg x = some (.ref f)
def Has (P : Program) (w : World) (K : PySem.W.Frag) (mg : Str → Option Value) (base : Heap) (k : Nat) (x : Str) (ps : List Str) (sp : Sp) : Prop :=
  ∃ f fd, FnOk P w K mg base CX0 k f fd ps sp ∧ mg x = some (.ref f) ∧ PySem.W.keepIn K (.ref f) = true ∧ Binds K fd ps []
/-- .. one that may raise -/
def HasX (P : Program) (w : World) (K : PySem.W.Frag) (mg : Str → Option Value) (base : Heap) (k : Nat) (x : Str) (ps : List Str) (sp : Sp) : Prop :=
  ∃ f fd, FnOk P w K mg base (L2.CX P w) k f fd ps sp ∧ mg x = some (.ref f) ∧ PySem.W.keepIn K (.ref f) = true ∧ Binds K fd ps []
abbrev BindsTo? (st : Stmt) (x : Str) (ps : List Str) : Prop :=
  ∀ (kV doc pm : Value) (an : Option Addr) (cdv ct : Value) (us : List Value), us.length = ps.length → bindArgs (PySem.W.fnOf x x (defArgs st) (defBody st) (defScope st) .none kV doc pm an cdv ct) ⟨us, []⟩ = pure (ps.zip us)
section
variable {P : Program} {w : World} {K : PySem.W.Frag} {mg : Str → Option Value} {base : Heap}
theorem mk_hasX {x : Str} {st : Stmt} {N ps : List Str} {k : Nat} {sp : Sp} (F : FunAt K mg x st) (S : FnScope N ps (defScope st)) (hb : BindsTo? st x ps) (len : ∀ vs H Q E, sp vs H Q E → vs.length = ps.length)
    (body : ∀ (f : Addr) (cdv : Value) (A : Around) (outer : List Env) (s : Shared) (H : Hp) (vs : List V) (Q : VK) (E : XK), Room k (A.deeper (envOfC x (defScope st) s.heap.objs.size f cdv)) → sp vs H Q E →
      ∃ t, PSs (cxOf (L2.CX P w) P w K mg base N x (defScope st) f cdv A outer s H E) (defBody st) t ∧ t { nx := fun _ H' => Q .non H', rt := Q } (start N vs) H) : HasX P w K mg base (k + 1) x ps sp := by
  obtain ⟨f, fd, F, m⟩ := F
  exact ⟨f, fd, F.okX S len (fun cdv A outer s H vs Q E => body f cdv A outer s H vs Q E), m, F.kp, F.binds hb⟩
theorem Has.mono {x : Str} {ps : List Str} {j k : Nat} {sp : Sp} (D : Has P w K mg base j x ps sp) (h : j ≤ k) : Has P w K mg base k x ps sp := by
  obtain ⟨f, fd, G, r⟩ := D
  exact ⟨f, fd, G.mono h, r⟩
theorem Has.imp {x : Str} {ps : List Str} {k : Nat} {sp sp' : Sp} (D : Has P w K mg base k x ps sp) (h : ∀ vs H Q E, sp' vs H Q E → sp vs H Q E) : Has P w K mg base k x ps sp' := by
  obtain ⟨f, fd, G, r⟩ := D
  exact ⟨f, fd, G.imp h, r⟩
end
section
variable {X : Cx} {k : Nat} {x : Str} {ps : List Str} {sp : Sp} {e : Expr} {es : List Expr} {p pos : Pos} {t : TA}
/-- .. one that may raise, in a try's body -/
theorem pe_hX {W : WX} (tk : Takes X W) (D : HasX X.prog X.w X.K X.mg X.base k x ps sp) (hr : Room k X.A) (hg : Gl X x) (ha : PA X (e :: es) t) (hdb : (x == ("__debug__" : Str)) = false := by decide)
    (he : starEach (e :: es) X.env = (false, eval e X.env) :: starEach es X.env := by rfl) (hpl : (backTo pos (starEach es X.env)).any (·.1) = false := by rfl) :
    PE X (.Call (.Name x p) (e :: es) [] pos) (tCallS sp (WE W) t) := by
  obtain ⟨f, fd, G, m, kp, b⟩ := D
  exact pe_callS G hr hg m kp b (passAt tk) ha hdb he hpl
end
def rIsAny : R2 := fun x y H Q => ∃ b : Bool, y = .bl b ∧ Q (.bl (decide (x = .bl b))) H
theorem op_isB {X : Cx} : OpR X (compareOp .Is) rIsAny := by
  intro pins s σ H x y v u Q I rx ry h
  obtain ⟨b, rfl, q⟩ := h
  cases (show u = Value.bool b from ry)
  have fin : ∀ c : Bool, decide (x = V.bl b) = c → EP X pins σ Q (Value.bool c) s := fun c e => ⟨.bl c, H, I, rfl, by rw [← e]; exact q⟩
  cases x with
  | bl a =>
    cases (show v = Value.bool a from rx)
    by_cases e : a = b
    · subst e
      exact wpAny_is_self rfl (fin true (by simp))
    · exact wpAny_is_other rfl (fun z => e (Value.bool.inj z)) (fin false (by simp [e]))
  | non => cases (show v = Value.none from rx); exact wpAny_is_other rfl (by intro z; cases z) (fin false (by simp))
  | int i => obtain ⟨t, rfl⟩ := (show ∃ t, v = Value.int i t from rx); exact wpAny_is_other rfl (by intro z; cases z) (fin false (by simp))
  | str i => obtain ⟨t, rfl⟩ := (show ∃ t, v = Value.str i t from rx); exact wpAny_is_other rfl (by intro z; cases z) (fin false (by simp))
  | byt i => obtain ⟨t, rfl⟩ := (show ∃ t, v = Value.bytes i t from rx); exact wpAny_is_other rfl (by intro z; cases z) (fin false (by simp))
  | flt i => obtain ⟨t, rfl⟩ := (show ∃ t, v = Value.float i t from rx); exact wpAny_is_other rfl (by intro z; cases z) (fin false (by simp))
  | ref a => cases (show v = Value.ref a from rx); exact wpAny_is_other rfl (by intro z; cases z) (fin false (by simp))
  | ty n => cases (show v = Value.type n from rx); exact wpAny_is_other rfl (by intro z; cases z) (fin false (by simp))
end KQ
set_option Elab.async false
set_option maxRecDepth 100000
set_option maxHeartbeats 4000000
namespace KQ
open PySem PySem.Spec PyProof.Rows L2
mutual
inductive Rp (N : Addr → Prop) (H : Hp) : V → PyData → Prop
  | non : Rp N H .non .none
  | bl (b : Bool) : Rp N H (.bl b) (.bool b)
  | int (i : Int) : Rp N H (.int i) (.int i)
  | str (x : Str) : Rp N H (.str x) (.str x)
  | lst {a : Addr} {xs : List V} {ds : List PyData} : H a = some (.lst xs) → ¬ N a → RpAll N H xs ds → Rp N H (.ref a) (.list ds)
  | tup {a : Addr} {xs : List V} {ds : List PyData} : H a = some (.tup xs) → ¬ N a → RpAll N H xs ds → Rp N H (.ref a) (.tuple ds)
  | emp {a : Addr} : H a = some (.dK []) → ¬ N a → Rp N H (.ref a) (.dict [])
inductive RpAll (N : Addr → Prop) (H : Hp) : List V → List PyData → Prop
  | nil : RpAll N H [] []
  | cons {v : V} {vs : List V} {d : PyData} {ds : List PyData} : Rp N H v d → RpAll N H vs ds → RpAll N H (v :: vs) (d :: ds)
end
/-- all but what stands at N is kept -/
def Kp (N : Addr → Prop) (H H' : Hp) : Prop := ∀ a o, H a = some o → ¬ N a → H' a = some o
theorem Kp.refl {N : Addr → Prop} {H : Hp} : Kp N H H := fun _ _ e _ => e
theorem Kp.trans {N : Addr → Prop} {H H1 H2 : Hp} (a : Kp N H H1) (b : Kp N H1 H2) : Kp N H H2 := fun c o e n => b c o (a c o e n) n
theorem Kp.new {N : Addr → Prop} {H : Hp} {p : Addr} {o : HO} (h : H p = none) : Kp N H (upd H p o) := fun a u e _ => by rw [upd_ne (ne_of_none e h)]; exact e
theorem Kp.put {N : Addr → Prop} {H : Hp} {p : Addr} {o : HO} (h : N p) : Kp N H (upd H p o) := fun a u e n => by rw [upd_ne (fun z => n (by rw [z]; exact h))]; exact e
/-- what is free behind was free ahead, if what is at N stays in being -/
theorem Kp.free {N : Addr → Prop} {H H' : Hp} (k : Kp N H H') (hn : ∀ a, N a → H' a ≠ none) {p : Addr} (h : H' p = none) : H p = none := by
  cases e : H p with
  | none => rfl
  | some o =>
    by_cases n : N p
    · exact absurd h (hn p n)
    · rw [k p o e n] at h; cases h
mutual
theorem Rp.kp {N N' : Addr → Prop} {H H' : Hp} (k : Kp N H H') (hN : ∀ a o, H a = some o → ¬ N a → ¬ N' a) : ∀ {v : V} {d : PyData}, Rp N H v d → Rp N' H' v d
  | _, _, .non => .non
  | _, _, .bl b => .bl b
  | _, _, .int i => .int i
  | _, _, .str x => .str x
  | _, _, .lst e n r => .lst (k _ _ e n) (hN _ _ e n) (r.kp k hN)
  | _, _, .tup e n r => .tup (k _ _ e n) (hN _ _ e n) (r.kp k hN)
  | _, _, .emp e n => .emp (k _ _ e n) (hN _ _ e n)
theorem RpAll.kp {N N' : Addr → Prop} {H H' : Hp} (k : Kp N H H') (hN : ∀ a o, H a = some o → ¬ N a → ¬ N' a) : ∀ {vs : List V} {ds : List PyData}, RpAll N H vs ds → RpAll N' H' vs ds
  | _, _, .nil => .nil
  | _, _, .cons r t => .cons (r.kp k hN) (t.kp k hN)
end
theorem Rp.to {N : Addr → Prop} {H H' : Hp} {v : V} {d : PyData} (r : Rp N H v d) (k : Kp N H H') : Rp N H' v d := r.kp k fun _ _ _ n => n
theorem RpAll.to {N : Addr → Prop} {H H' : Hp} {v : List V} {d : List PyData} (r : RpAll N H v d) (k : Kp N H H') : RpAll N H' v d := r.kp k fun _ _ _ n => n
/-- further places to be written, all new -/
theorem Rp.more {N N' : Addr → Prop} {H : Hp} {v : V} {d : PyData} (r : Rp N H v d) (h : ∀ a, N' a → N a ∨ H a = none) : Rp N' H v d :=
  r.kp Kp.refl fun a o e n z => (h a z).elim n fun q => by rw [q] at e; cases e
theorem RpAll.length {N : Addr → Prop} {H : Hp} : ∀ {vs : List V} {ds : List PyData}, RpAll N H vs ds → vs.length = ds.length
  | _, _, .nil => rfl
  | _, _, .cons _ t => congrArg (· + 1) t.length
theorem RpAll.get {N : Addr → Prop} {H : Hp} : ∀ {vs : List V} {ds : List PyData} {i : Nat} {v : V}, RpAll N H vs ds → vs[i]? = some v → ∃ d, ds[i]? = some d ∧ Rp N H v d
  | _, _, _, _, .nil, e => by simp at e
  | _, _, 0, _, .cons r _, e => by simp at e; subst e; exact ⟨_, rfl, r⟩
  | _, _, i + 1, _, .cons _ t, e => by simpa using t.get (i := i) (by simpa using e)
theorem RpAll.app {N : Addr → Prop} {H : Hp} : ∀ {vs ws : List V} {ds es : List PyData}, RpAll N H vs ds → RpAll N H ws es → RpAll N H (vs ++ ws) (ds ++ es)
  | _, _, _, _, .nil, s => s
  | _, _, _, _, .cons r t, s => .cons r (t.app s)
theorem RpAll.drop {N : Addr → Prop} {H : Hp} : ∀ {vs : List V} {ds : List PyData} (n : Nat), RpAll N H vs ds → RpAll N H (vs.drop n) (ds.drop n)
  | _, _, 0, r => r
  | _, _, _ + 1, .nil => .nil
  | _, _, n + 1, .cons _ t => RpAll.drop n t
theorem RpAll.take {N : Addr → Prop} {H : Hp} : ∀ {vs : List V} {ds : List PyData} (n : Nat), RpAll N H vs ds → RpAll N H (vs.take n) (ds.take n)
  | _, _, 0, _ => .nil
  | _, _, _ + 1, .nil => .nil
  | _, _, n + 1, .cons r t => .cons r (RpAll.take n t)
/-- the name of its type -/
def tyN : PyData → String
  | .none => "NoneType" | .bool _ => "bool" | .int _ => "int" | .str _ => "str" | .list _ => "list" | .tuple _ => "tuple" | .dict _ => "dict"
theorem Rp.ty {K : PySem.W.Frag} {N : Addr → Prop} {H : Hp} {v : V} {d : PyData} (r : Rp N H v d) : TyX K H v (.type (tyN d)) := by
  cases r with
  | non => exact .base .non
  | bl b => exact .base (.bl b)
  | int i => exact .base (.int i)
  | str x => exact .base (.str x)
  | lst e _ _ => exact .base (.lst e)
  | tup e _ _ => exact .base (.tup e)
  | emp e _ => exact .base (.dK e)
/-- is it of this kind (a flag is an int too) -/
def isT (T : String) (d : PyData) : Bool := tyN d == T || (T == "int" && tyN d == "bool")
/-- isinstance(x, T) of a datum -/
theorem isi {K : PySem.W.Frag} {N : Addr → Prop} {H : Hp} {v : V} {d : PyData} {T : String} {Q : VK} (r : Rp N H v d) (k : PySem.W.kitOne K (.type (tyN d)) (.type T) = some (isT T d)) (q : Q (.bl (isT T d)) H) : rIsi K [v, .ty T] H Q :=
  ⟨v, .ty T, _, .type T, _, rfl, .ty T, r.ty, k, q⟩
end KQ
set_option Elab.async false
set_option maxRecDepth 100000
set_option maxHeartbeats 4000000
namespace KQ
open PySem PySem.Spec PyProof.Rows L2
section
variable {X : Cx} {C : Addr} {bmB : List Value} {B newId initId : String}
theorem pmk_bare {x : Str} {p pos : Pos} (F : ExcBaseFacts B newId initId bmB) (q : PySem.W.excIn X.K C bmB newId = true) (gC : X.mg x = some (.ref C)) (kC : PySem.W.keepIn X.K (.ref C) = true) (r : Raises X (.ref C)) (hg : Gl X x)
    (hdb : (x == ("__debug__" : Str)) = false := by decide) : PMk X (.Call (.Name x p) [] [] pos) (fun _ H Q => Q (.ref C) none H) := by
  intro pins s σ H Q I h
  refine wpAny_Call_Name_kw (ld_glob I hg gC ?_ hdb)
  refine PySem.W.callWith_K0 I.kIn kC ?_
  obtain ⟨bm, N, nm, qn, bs, hdct, sn, sub, ab, col, dd, k0, k1, k2, k3, k5, mN, hC, hN, hni, T⟩ := exc_obj I.kIn q
  obtain ⟨hp, g, d, t, os⟩ := s
  exact wpAny_call_exc_subT F T hC hN hni (rest := []) (fun h' e hm => mk_of I hm r h (I.hok.gone hm.new)) (Nat.zero_le _)
end
/-- what the written part says of such a class -/
structure ExcAt (K : PySem.W.Frag) (mg : Str → Option Value) (x : Str) (C : Addr) : Prop where
  g : mg x = some (.ref C)
  kp : PySem.W.keepIn K (.ref C) = true
  ex : PySem.W.excIn K C [.type "ValueError", .type "Exception", .type "BaseException", .type "object"] "ValueError.__new__" = true
  sub : PySem.W.subIn K (.ref C) (.type "BaseException") = some true
  ty : PySem.W.typeIn K (.ref C) = some (.type "type")
  own : PySem.W.subIn K (.ref C) (.ref C) = some true
  isC : PySem.W.isClsIn K C = true
theorem ExcAt.raises {X : Cx} {x : Str} {C : Addr} (T : ExcAt X.K X.mg x C) : Raises X (.ref C) := raises_own T.sub T.ty
theorem pmk_x {X : Cx} {x : Str} {C : Addr} {p pos : Pos} (T : ExcAt X.K X.mg x C) (hg : Gl X x) (hdb : (x == ("__debug__" : Str)) = false := by decide) : PMk X (.Call (.Name x p) [] [] pos) (fun _ H Q => Q (.ref C) none H) :=
  pmk_bare PySem.F.excBase_ValueError T.ex T.g T.kp T.raises hg hdb
theorem ps_rz {X : Cx} {x : Str} {C : Addr} {W : WX} {p pos pos2 : Pos} (hc : X.calm = true) (tk : Takes X W) (T : ExcAt X.K X.mg x C) (hg : Gl X x) (hdb : (x == ("__debug__" : Str)) = false := by decide) :
    PS X (.Raise (some (.Call (.Name x p) [] [] pos)) none pos2) (fun _ σ H => W (.ref C) none σ H) := ps_raise hc tk (pmk_x T hg hdb)
end KQ
set_option Elab.async false
set_option maxRecDepth 100000
set_option maxHeartbeats 4000000
namespace KQ
open PySem PySem.Spec PyProof.Rows L2
/-- a method of the class at C as the top has left it -/
def MethAt (K : PySem.W.Frag) (C : Addr) (m qual : Str) (st : Stmt) : Prop := ∃ f fd, Fun K m qual st f fd ∧ Meth K C m f
def HasMX (P : Program) (w : World) (K : PySem.W.Frag) (mg : Str → Option Value) (base : Heap) (k : Nat) (C : Addr) (m : Str) (ps : List Str) (sp : Sp) : Prop :=
  ∃ f fd, FnOk P w K mg base (L2.CX P w) k f fd ps sp ∧ Meth K C m f ∧ Binds K fd ps []
def HasCX (P : Program) (w : World) (K : PySem.W.Frag) (mg : Str → Option Value) (base : Heap) (k : Nat) (x : Str) (C : Addr) (ps : List Str) (sp : Sp) : Prop :=
  ∃ f fd, FnOk P w K mg base (L2.CX P w) k f fd ps sp ∧ Mk K C f ∧ mg x = some (.ref C) ∧ Binds K fd ps []
abbrev BindsQ (st : Stmt) (x qual : Str) (ps : List Str) : Prop :=
  ∀ (kV doc pm : Value) (an : Option Addr) (cdv ct : Value) (us : List Value), us.length = ps.length → bindArgs (PySem.W.fnOf x qual (defArgs st) (defBody st) (defScope st) .none kV doc pm an cdv ct) ⟨us, []⟩ = pure (ps.zip us)
section
variable {P : Program} {w : World} {K : PySem.W.Frag} {mg : Str → Option Value} {base : Heap}
theorem mk_hasMX {C : Addr} {x qual : Str} {st : Stmt} {N ps : List Str} {k : Nat} {sp : Sp} (F : MethAt K C x qual st) (S : FnScope N ps (defScope st)) (hb : BindsQ st x qual ps) (len : ∀ vs H Q E, sp vs H Q E → vs.length = ps.length)
    (body : ∀ (f : Addr) (cdv : Value) (A : Around) (outer : List Env) (s : Shared) (H : Hp) (vs : List V) (Q : VK) (E : XK), Room k (A.deeper (envOfC qual (defScope st) s.heap.objs.size f cdv)) → sp vs H Q E →
      ∃ t, PSs (cxOf (L2.CX P w) P w K mg base N qual (defScope st) f cdv A outer s H E) (defBody st) t ∧ t { nx := fun _ H' => Q .non H', rt := Q } (start N vs) H) : HasMX P w K mg base (k + 1) C x ps sp := by
  obtain ⟨f, fd, F, m⟩ := F
  exact ⟨f, fd, F.okX S len (fun cdv A outer s H vs Q E => body f cdv A outer s H vs Q E), m, F.binds hb⟩
/-- a class's __init__ -/
def InitAt (K : PySem.W.Frag) (mg : Str → Option Value) (x : Str) (C : Addr) (qual : Str) (st : Stmt) : Prop := ∃ f fd, Fun K "__init__" qual st f fd ∧ Mk K C f ∧ mg x = some (.ref C)
theorem mk_hasCX {C : Addr} {x qual : Str} {st : Stmt} {N ps : List Str} {k : Nat} {sp : Sp} (F : InitAt K mg x C qual st) (S : FnScope N ps (defScope st)) (hb : BindsQ st "__init__" qual ps) (len : ∀ vs H Q E, sp vs H Q E → vs.length = ps.length)
    (body : ∀ (f : Addr) (cdv : Value) (A : Around) (outer : List Env) (s : Shared) (H : Hp) (vs : List V) (Q : VK) (E : XK), Room k (A.deeper (envOfC qual (defScope st) s.heap.objs.size f cdv)) → sp vs H Q E →
      ∃ t, PSs (cxOf (L2.CX P w) P w K mg base N qual (defScope st) f cdv A outer s H E) (defBody st) t ∧ t { nx := fun _ H' => Q .non H', rt := Q } (start N vs) H) : HasCX P w K mg base (k + 1) x C ps sp := by
  obtain ⟨f, fd, F, m, g⟩ := F
  exact ⟨f, fd, F.okX S len (fun cdv A outer s H vs Q E => body f cdv A outer s H vs Q E), m, g, F.binds hb⟩
end
section
variable {X : Cx} {k : Nat} {C : Addr} {x m : Str} {ps : List Str} {sp : Sp} {e o : Expr} {es : List Expr} {p pos apos : Pos} {ta : TE} {t : TA} {pl : Sem Bool}
/-- a method that may raise, called where that is wished for (W) -/
def tMethW (C : Addr) (m : Str) (sp : Sp) (W : WX) (ta : TE) (t : TA) : TE := fun σ H Q => ta σ H fun x H1 => ∃ a dx fs, x = .ref a ∧ H1 a = some (.ins C dx fs) ∧ fs.lookup m = none ∧ t σ H1 fun vs H2 => sp (x :: vs) H2 Q (WE W σ)
theorem pe_mX {W : WX} (tk : Takes X W) (D : HasMX X.prog X.w X.K X.mg X.base k C m ps sp) (c : Cls X.K C) (hr : Room k X.A) (ho : PE X o ta) (ha : PA X (e :: es) t)
    (hst : starEach (e :: es) X.env = (false, eval e X.env) :: starEach es X.env := by rfl) (hpl : (backTo pos (starEach es X.env)).any (·.1) = false := by rfl)
    (ht : eval (.Call (.Attribute o m apos) (e :: es) [] pos) X.env = (do
      let ov ← eval o X.env
      standAt apos.atName
      let (f, first) ← holding [ov] (getMethod ov m pl)
      callWith pos f first (backTo pos (starEach (e :: es) X.env)) (backToKw pos (keywordEach [] X.env))) := by rfl) :
    PE X (.Call (.Attribute o m apos) (e :: es) [] pos) (tMethW C m sp W ta t) := by
  obtain ⟨f, fd, G, M, b⟩ := D
  constructor
  intro pins s σ H Q I h
  refine PySem.W.methodCall_KW (pl := pl) (thn (ho.run pins s σ H _ I h) ?_) ht
  rintro u s1 ⟨x, H1, I1, rx, a, dx, fs, rfl, ea, l, q⟩
  obtain rfl : u = Value.ref a := rx
  refine getmeth_ok I1 ea c M l (PySem.W.callWith_K (first := [.ref a]) (h₀ := X.base) I.ok.mod.kin M.kp (thn (ha.run pos pins s1 σ H1 _ I1 q) ?_) hst hpl)
  rintro us s2 ⟨vs, H2, I2, r, q2⟩
  exact ⟨I2.kIn, run_fnS (us := .ref a :: us) (vs := .ref a :: vs) G hr b (passAt tk σ) I2 (.cons rfl r) q2⟩
end
end KQ
set_option Elab.async false
set_option maxRecDepth 100000
set_option maxHeartbeats 4000000
namespace KQ
open PySem PySem.Spec PyProof.Rows L2
section
variable {K : PySem.W.Frag} {h : Heap} {mg : Str → Option Value} {x m qual : Str} {st : Stmt} {f C : Addr} {oc : Value} {od an : Option Addr} {kV doc pm cdv ct : Value} {sl : Array (Option Value)}
theorem funAt_of (X : K.In h) (G : h.Ns mainGlobals mg) (a : PySem.W.nsIn K mainGlobals x = some (some (.ref f))) (l : K.lookup f = some ⟨oc, od, .func (PySem.W.fnOf x x (defArgs st) (defBody st) (defScope st) .none kV doc pm an cdv ct), sl⟩)
    (c : PySem.W.codeIn K cdv x = true) (k : PySem.W.keepIn K (.ref f) = true) : FunAt K mg x st := ⟨f, _, fun_mk l c k, PySem.W.mg_of X G a⟩
theorem methAt_of (a : PySem.W.findIn K (.ref C) m = some (some (.ref f))) (i : PySem.W.isFn K (.ref f) = true) (l : K.lookup f = some ⟨oc, od, .func (PySem.W.fnOf m qual (defArgs st) (defBody st) (defScope st) .none kV doc pm an cdv ct), sl⟩)
    (c : PySem.W.codeIn K cdv qual = true) (k : PySem.W.keepIn K (.ref f) = true) : MethAt K C m qual st := ⟨f, _, fun_mk l c k, ⟨a, i, k⟩⟩
theorem initAt_of (X : K.In h) (G : h.Ns mainGlobals mg) (aC : PySem.W.nsIn K mainGlobals x = some (some (.ref C))) (mk : PySem.W.makesIn K C = true) (kC : PySem.W.keepIn K (.ref C) = true)
    (a : PySem.W.findIn K (.ref C) "__init__" = some (some (.ref f))) (i : PySem.W.isFn K (.ref f) = true) (l : K.lookup f = some ⟨oc, od, .func (PySem.W.fnOf "__init__" qual (defArgs st) (defBody st) (defScope st) .none kV doc pm an cdv ct), sl⟩)
    (c : PySem.W.codeIn K cdv qual = true) (k : PySem.W.keepIn K (.ref f) = true) : InitAt K mg x C qual st := ⟨f, _, fun_mk l c k, ⟨mk, a, i, kC⟩, PySem.W.mg_of X G aC⟩
/-- a built-in name that the text leaves alone -/
theorem free_of (X : K.In h) (G : h.Ns mainGlobals mg) (e : PySem.W.nsIn K mainGlobals x = some none) : mg x = none := PySem.W.mg_none_of X G e
theorem excAt_of (X : K.In h) (G : h.Ns mainGlobals mg) (a : PySem.W.nsIn K mainGlobals x = some (some (.ref C))) (kp : PySem.W.keepIn K (.ref C) = true)
    (ex : PySem.W.excIn K C [.type "ValueError", .type "Exception", .type "BaseException", .type "object"] "ValueError.__new__" = true) (sub : PySem.W.subIn K (.ref C) (.type "BaseException") = some true)
    (ty : PySem.W.typeIn K (.ref C) = some (.type "type")) (own : PySem.W.subIn K (.ref C) (.ref C) = some true) (isC : PySem.W.isClsIn K C = true) : ExcAt K mg x C := ⟨PySem.W.mg_of X G a, kp, ex, sub, ty, own, isC⟩
end
end KQ
set_option Elab.async false
set_option maxRecDepth 100000
set_option maxHeartbeats 4000000
namespace KQ
open PySem PySem.Spec PyProof.Rows L2
end KQ
set_option Elab.async false
set_option maxRecDepth 100000
set_option maxHeartbeats 4000000
namespace KQ
open PySem PySem.Spec PyProof.Rows L2
section
variable {X : Cx} {k : Nat} {x : Str} {C : Addr} {ps : List Str} {sp : Sp} {e : Expr} {es : List Expr} {p pos : Pos} {t : TA}
def tMakeW (C : Addr) (sp : Sp) (W : WX) (t : TA) : TE := fun σ H Q => t σ H fun vs H1 => ∀ x dx, H1 x = none → H1 dx = none → dx ≠ x → sp (.ref x :: vs) (upd (upd H1 dx (.own x)) x (.ins C dx [])) (fun v H2 => v = .non ∧ Q (.ref x) H2) (WE W σ)
end
end KQ
set_option Elab.async false
set_option maxRecDepth 100000
set_option maxHeartbeats 4000000
namespace KQ
open PySem PySem.Spec PyProof.Rows L2
end KQ
set_option Elab.async false
set_option maxRecDepth 100000
set_option maxHeartbeats 4000000
namespace KQ
open PySem PySem.Spec PyProof.Rows L2
theorem mul_one (l : Addr) (items : Array Value) (n : Nat) (dd : Option Addr) (sl : Array (Option Value)) (x : Int) (u : Tok) (c0 : (decide (x < -(2 ^ 63)) || decide (x ≥ 2 ^ 63)) = false) (c1 : (items.isEmpty || x == 1) = true) :
    Meets (Builtin.«tuple.__mul__» ⟨[.ref l, .int x u], []⟩) (fun _ R s => s.heap.get? l = some { cls := .type "tuple", dict := dd, data := .seq items n, slots := sl } ∧ R (.ok (.ret (Value.ref l))) { s with heap := s.heap, toks := s.toks }) :=
  .of_wp fun prog w A R s h => by
    obtain ⟨hp, g, d, tk, os⟩ := s
    obtain ⟨hl, h⟩ := h
    have f1 := AutoSeq1.idx_int
    wp_walk using wpAny_loadPart' hl
    repeat (first
      | (refine wpAny_ite_false (decide_eq_false (by rw [c0]; exact Bool.false_ne_true)) ?_; wp_walk using wpAny_loadPart' hl)
      | (refine wpAny_ite_true (decide_eq_true c1) ?_; wp_walk using wpAny_loadPart' hl))
    exact ⟨_, rfl, h⟩
theorem mul_none (l : Addr) (items : Array Value) (n : Nat) (dd : Option Addr) (sl : Array (Option Value)) (x : Int) (u : Tok) (c0 : (decide (x < -(2 ^ 63)) || decide (x ≥ 2 ^ 63)) = false) (c1 : (items.isEmpty || x == 1) = false) (c2 : (decide (x ≤ 0) || items.isEmpty) = true) :
    Meets (Builtin.«tuple.__mul__» ⟨[.ref l, .int x u], []⟩) (fun _ R s => s.heap.get? l = some { cls := .type "tuple", dict := dd, data := .seq items n, slots := sl } ∧
      R (.ok (.ret (Value.ref s.heap.objs.size))) { s with heap := s.heap.push { cls := Value.type "tuple", data := Data.seq #[] }, toks := s.toks }) :=
  .of_wp fun prog w A R s h => by
    obtain ⟨hp, g, d, tk, os⟩ := s
    obtain ⟨hl, h⟩ := h
    have f1 := AutoSeq1.idx_int
    wp_walk using wpAny_loadPart' hl
    repeat (first
      | (refine wpAny_ite_false (decide_eq_false (by rw [c0]; exact Bool.false_ne_true)) ?_; wp_walk using wpAny_loadPart' hl)
      | (refine wpAny_ite_false (decide_eq_false (by rw [c1]; exact Bool.false_ne_true)) ?_; wp_walk using wpAny_loadPart' hl)
      | (refine wpAny_ite_true (decide_eq_true c2) ?_; wp_walk using wpAny_loadPart' hl))
    exact ⟨_, rfl, h⟩
def rRepA (K : PySem.W.Frag) : R2 := fun x y H Q => ∃ l k xs, x = .ref l ∧ y = .int k ∧ SqT K H l xs ∧ xs ≠ [] ∧ 0 ≤ k ∧ k ≤ 1000 ∧ xs.length ≤ 1000 ∧ (k = 1 → Q (.ref l) H) ∧ (k ≠ 1 → ∀ p, H p = none → Q (.ref p) (upd H p (.tup (List.replicate k.toNat xs).flatten)))
theorem op_repA {X : Cx} : OpR X (binaryOp .Mult) (rRepA X.K) := by
  intro pins s σ H x y v u Q I rx ry h
  obtain ⟨l, k, xs, rfl, rfl, hT, hne, h1, h2, hz, q1, q2⟩ := h
  by_cases h3 : 2 ≤ k
  · exact op_repT pins s σ H _ _ v u Q I rx ry ⟨l, k, xs, rfl, rfl, hT, hne, h3, h2, hz, q2 (by omega)⟩
  cases rx
  obtain ⟨t, rfl⟩ := ry
  obtain ⟨its, r, ⟨⟨cls, dd, data, sl⟩, ho, hc, n, hd⟩, hs⟩ := I.tuple hT
  simp only at hc hd
  subst hc hd
  have hle : its.length = xs.length := r.length.symm
  have hi : its.toArray.isEmpty = false := by
    cases its with
    | nil => exact absurd (List.eq_nil_of_length_eq_zero hle.symm) hne
    | cons a b => rfl
  have c0 : (decide (k < -(2 ^ 63)) || decide (k ≥ 2 ^ 63)) = false := by
    rw [decide_eq_false (by omega), decide_eq_false (by omega)] <;> rfl
  by_cases k1 : k = 1
  · exact wpAny_binaryOp_repeat_ref (T := "tuple") (U := "int") (by decide) ⟨_, ho, rfl⟩ (fun s' => typeIs_int s' k t) noFill_tuple_mul F.fills_int_mul F.slot_int_rmul repeat_tuple F.slot_int_index.lookup
      (call_meets F.slot_int_rmul (typeIs_int s k t) F.entry_int_rmul (F.args_int_rmul_2 _ _) (int_rmul_tuple k t l its.toArray n dd sl)
        ⟨ho, rfl, ⟨_, ho, rfl⟩, call_meets F.slot_tuple_mul ⟨_, ho, rfl⟩ F.entry_tuple_mul (F.args_tuple_mul_2 _ _) (mul_one l its.toArray n dd sl k t c0 (by rw [hi, Bool.false_or]; exact beq_iff_eq.mpr k1)) ⟨ho, ⟨.ref l, H, I, rfl, q1 k1⟩⟩⟩)
  · have k0 : k = 0 := by omega
    subst k0
    refine wpAny_binaryOp_repeat_ref (T := "tuple") (U := "int") (by decide) ⟨_, ho, rfl⟩ (fun s' => typeIs_int s' 0 t) noFill_tuple_mul F.fills_int_mul F.slot_int_rmul repeat_tuple F.slot_int_index.lookup
      (call_meets F.slot_int_rmul (typeIs_int s 0 t) F.entry_int_rmul (F.args_int_rmul_2 _ _) (int_rmul_tuple 0 t l its.toArray n dd sl)
        ⟨ho, rfl, ⟨_, ho, rfl⟩, call_meets F.slot_tuple_mul ⟨_, ho, rfl⟩ F.entry_tuple_mul (F.args_tuple_mul_2 _ _) (mul_none l its.toArray n dd sl 0 t c0 (by rw [hi]; rfl) (by rfl)) ⟨ho, ?_⟩⟩)
    refine ⟨.ref s.heap.objs.size, _, I.laid (t' := s.toks) (o := .tup []) (fun b ob q => Heap.get?_push_of_some _ q) (Nat.le_refl _) ?_, rfl, q2 k1 _ (I.hok.fresh (Nat.le_refl _))⟩
    exact ⟨Nat.zero_le _, _, .nil, IsTup.new _ _⟩
end KQ
set_option Elab.async false
set_option maxRecDepth 100000
set_option maxHeartbeats 4000000
namespace KQ
open PySem
open PySem.Spec PyProof.Rows L2
end KQ
set_option Elab.async false
set_option maxRecDepth 100000
set_option maxHeartbeats 4000000
namespace KQ
open PySem PySem.Spec PyProof.Rows L2
theorem ext_tup (l b : Addr) (mine its : Array Value) (n n2 : Nat) (dd : Option Addr) (sl : Array (Option Value)) (c0 : ¬(!mine.isEmpty && Builtin.List.listTooLong (mine.size + its.size)) = true) (c1 : mine.size ≤ sizeLine) (c2 : (mine ++ its).size ≤ sizeLine + 1) :
    Meets (Builtin.«list.extend» ⟨[.ref l, .ref b], []⟩)
      (fun _ R s => s.heap.get? l = some { cls := .type "list", dict := none, data := .seq mine n, slots := #[] } ∧ s.heap.get? b = some { cls := .type "tuple", dict := dd, data := .seq its n2, slots := sl } ∧
        R (.ok (.ret Value.none)) { s with heap := s.heap.update l (Obj.mapSeq fun x => x ++ its), toks := s.toks }) := by
  refine .of_wp fun prog w A R s h => ?_
  obtain ⟨hp, g, d, tk, os⟩ := s
  obtain ⟨hl, hb, h⟩ := h
  have z1 := AutoSeq1.idx_int
  have z2 := AutoSeq1.sub_tuple_tuple
  have z3 := AutoSeq1.sub_list_list
  have z4 := AutoSeq1.sub_tuple_list
  have z5 := AutoSeq1.sub_list_tuple
  wp_walk using (wpAny_updateSeq hl rfl (hz := c1) (_hz' := c2)), wpAny_loadPart' hl, wpAny_loadPart' hb
  exact ⟨_, rfl, h⟩
section
variable {X : Cx}
def rExtendT (K : PySem.W.Frag) : V → List V → Hp → VK → Prop := fun x vs H Q => ∃ l b xs zs, x = .ref l ∧ vs = [.ref b] ∧ H l = some (.lst xs) ∧ SqT K H b zs ∧ xs.length + zs.length ≤ sizeLine ∧ Q .non (upd H l (.lst (xs ++ zs)))
theorem mt_extendT : MtM X "list.extend" (rExtendT X.K) := by
  intro pins s σ H x vs v us Q I rx rv h
  obtain ⟨l, b, xs, zs, rfl, rfl, hH, hB, hz, q⟩ := h
  cases rx
  obtain ⟨u, rfl, ru⟩ := rv.one
  cases ru
  obtain ⟨z, its, n, r, hl, e⟩ := I.lstM hH
  obtain ⟨its2, r2, ⟨⟨cls, dd, data, sl⟩, e2, hc, n2, hd⟩, hl2⟩ := I.tuple hB
  simp only at hc hd
  subst hc hd
  have l2 := r2.length
  have hsz : its.toArray.size + its2.toArray.size ≤ sizeLine := by rw [List.size_toArray, List.size_toArray]; omega
  have hlong : ¬ (!its.toArray.isEmpty && Builtin.List.listTooLong (its.toArray.size + its2.toArray.size)) = true := by
    rw [notLongL hsz, Bool.and_false]
    exact Bool.false_ne_true
  refine call_meets F.slot_list_extend ⟨_, e, rfl⟩ F.entry_list_extend (F.args_list_extend_2 _ _)
    (ext_tup l b its.toArray its2.toArray n n2 dd sl hlong (by rw [List.size_toArray]; omega) (by rw [Array.size_append]; omega)) ⟨e, e2, ?_⟩
  refine ⟨.non, _, I.lset (its' := its ++ its2) hH e (by simp) (r.append r2) ?_, rfl, q⟩
  rw [List.length_append]
  omega
end
end KQ
set_option Elab.async false
set_option maxRecDepth 100000
set_option maxHeartbeats 4000000
namespace KQ
open PySem PySem.Spec PyProof.Rows L2
/-- a thing and the name of its type -/
inductive Dt (H : Hp) : V → String → Prop
  | non : Dt H .non "NoneType"
  | bl (b : Bool) : Dt H (.bl b) "bool"
  | int (i : Int) : Dt H (.int i) "int"
  | str (x : Str) : Dt H (.str x) "str"
  | lst {a : Addr} {xs : List V} (e : H a = some (.lst xs)) : Dt H (.ref a) "list"
  | tup {a : Addr} {xs : List V} (e : H a = some (.tup xs)) : Dt H (.ref a) "tuple"
  | dK {a : Addr} {kvs : List (Key × V)} (e : H a = some (.dK kvs)) : Dt H (.ref a) "dict"
theorem Dt.ty {K : PySem.W.Frag} {H : Hp} {v : V} {t : String} (d : Dt H v t) : TyX K H v (.type t) := by
  cases d with
  | non => exact .base .non
  | bl b => exact .base (.bl b)
  | int i => exact .base (.int i)
  | str x => exact .base (.str x)
  | lst e => exact .base (.lst e)
  | tup e => exact .base (.tup e)
  | dK e => exact .base (.dK e)
theorem Dt.kp {H H' : Hp} {v : V} {t : String} (d : Dt H v t) (k : ∀ a o, v = .ref a → H a = some o → H' a = some o) : Dt H' v t := by
  cases d with
  | non => exact .non
  | bl b => exact .bl b
  | int i => exact .int i
  | str x => exact .str x
  | lst e => exact .lst (k _ _ rfl e)
  | tup e => exact .tup (k _ _ rfl e)
  | dK e => exact .dK (k _ _ rfl e)
theorem Dt.same {H H' : Hp} {v : V} {t : String} (d : Dt H v t) (s : Same H H') : Dt H' v t := d.kp fun a o _ e => s a o e
abbrev isTy (T t : String) : Bool := t == T || (T == "int" && t == "bool")
end KQ
namespace KQ
open PySem PySem.Spec PyProof.Rows L2
theorem sIx_none (n d : Nat) : HT.sIx n d none = d := rfl
end KQ
set_option Elab.async false
set_option maxRecDepth 100000
set_option maxHeartbeats 4000000
namespace KQ
open PySem PySem.Spec PyProof.Rows L2
/-- the places of a set below n as a number, place -1 first -/
def Vs (S : Int → Bool) : Nat → Nat
  | 0 => (S (-1)).toNat
  | j + 1 => 2 * Vs S j + (S (j : Int)).toNat
def put (S : Int → Bool) (p : Int) (b : Bool) : Int → Bool := fun q => if q = p then b else S q
theorem Vs_neg {S : Int → Bool} (h : S (-1) = true) : ∀ n : Nat, 2 ^ n ≤ Vs S n
  | 0 => by simp [Vs, h]
  | j + 1 => by
    have := Vs_neg h j
    simp only [Vs, Nat.pow_succ]
    omega
theorem Vs_zero {S : Int → Bool} (h : S 0 = true) : ∀ j : Nat, 2 ^ j ≤ Vs S (j + 1)
  | 0 => by simp [Vs, h]
  | j + 1 => by
    have := Vs_zero h j
    rw [Vs, Nat.pow_succ]
    omega
theorem Vs_more {S : Int → Bool} (h : S 0 = true) {p : Int} (hp : 1 ≤ p) (hS : S p = true) : ∀ j : Nat, p < j + 1 → 2 ^ j < Vs S (j + 1)
  | 0, b => by omega
  | j + 1, b => by
    rw [Vs, Nat.pow_succ]
    by_cases c : p = j + 1
    · have q := Vs_zero h j
      have : (S ((j + 1 : Nat) : Int)).toNat = 1 := by rw [show ((j + 1 : Nat) : Int) = p by omega, hS]; rfl
      omega
    · have := Vs_more h hp hS j (by omega)
      omega
theorem Vs_lt {S : Int → Bool} (h : S (-1) = false) (h0 : S 0 = false) : ∀ j : Nat, Vs S (j + 1) + 1 ≤ 2 ^ j
  | 0 => by
    simp only [Vs, h]
    rw [show ((0 : Nat) : Int) = 0 from rfl, h0]
    decide
  | j + 1 => by
    have := Vs_lt h h0 j
    have : (S ((j + 1 : Nat) : Int)).toNat ≤ 1 := by cases S ((j + 1 : Nat) : Int) <;> simp
    rw [Vs, Nat.pow_succ]
    omega
theorem asc_ext : ∀ {l m : List Int}, l.Pairwise (· < ·) → m.Pairwise (· < ·) → (∀ q, q ∈ l ↔ q ∈ m) → l = m
  | [], [], _, _, _ => rfl
  | [], y :: m, _, _, h => absurd ((h y).mpr (List.mem_cons_self ..)) (List.not_mem_nil)
  | x :: l, [], _, _, h => absurd ((h x).mp (List.mem_cons_self ..)) (List.not_mem_nil)
  | x :: l, y :: m, hl, hm, h => by
    obtain ⟨a, hl'⟩ := List.pairwise_cons.mp hl
    obtain ⟨b, hm'⟩ := List.pairwise_cons.mp hm
    have e : x = y := by
      rcases List.mem_cons.mp ((h x).mp (List.mem_cons_self ..)) with e | e
      · exact e
      · rcases List.mem_cons.mp ((h y).mpr (List.mem_cons_self ..)) with e2 | e2
        · exact e2.symm
        · have := b x e
          have := a y e2
          omega
    subst e
    refine congrArg (x :: ·) (asc_ext hl' hm' fun q => ?_)
    constructor
    · intro hq
      rcases List.mem_cons.mp ((h q).mp (List.mem_cons_of_mem _ hq)) with e | e
      · have := a q hq; omega
      · exact e
    · intro hq
      rcases List.mem_cons.mp ((h q).mpr (List.mem_cons_of_mem _ hq)) with e | e
      · have := b q hq; omega
      · exact e
abbrev mS (ns : List Int) : Int → Bool := fun q => decide (q ∈ ns)
/-- a share's numbers -/
structure Sh (ns : List Int) : Prop where
  nn : ∀ q ∈ ns, 0 ≤ q
  asc : ns.Pairwise (· < ·)
  zero : 0 ∈ ns → ns = [0]
theorem Sh.le {ns : List Int} (h : Sh ns) {n : Nat} (hb : ∀ q ∈ ns, q < ((n + 1 : Nat) : Int)) : Vs (mS ns) (n + 1) ≤ 2 ^ n := by
  have h1 : mS ns (-1) = false := decide_eq_false fun z => by have := h.nn _ z; omega
  by_cases c : (0 : Int) ∈ ns
  · rw [h.zero c]
    have : ∀ j : Nat, Vs (mS [0]) (j + 1) = 2 ^ j := fun j => by
      induction j with
      | zero => rfl
      | succ j ih =>
        rw [Vs, ih, Nat.pow_succ, show mS [0] ((j + 1 : Nat) : Int) = false from decide_eq_false (by simp; omega)]
        show 2 * 2 ^ j + 0 = _
        omega
    rw [this]
    exact Nat.le_refl _
  · have := Vs_lt h1 (decide_eq_false c) n
    omega
/-- what is ascending within, and worth no more than the whole, is a share -/
theorem Sh.of {ns : List Int} {n : Nat} (h : ns.Pairwise (· < ·)) (hb : ∀ q ∈ ns, -1 ≤ q ∧ q < ((n + 1 : Nat) : Int)) (hv : Vs (mS ns) (n + 1) ≤ 2 ^ n) : Sh ns := by
  have p2 : 0 < 2 ^ n := Nat.pow_pos (by decide)
  have h1 : (-1 : Int) ∉ ns := fun z => by
    have := Vs_neg (S := mS ns) (decide_eq_true z) (n + 1)
    rw [Nat.pow_succ] at this
    omega
  refine ⟨fun q hq => ?_, h, fun z => asc_ext h (by simp) fun q => ⟨fun hq => ?_, fun e => ?_⟩⟩
  · have := (hb q hq).1
    by_cases e : q = -1
    · rw [e] at hq; exact absurd hq h1
    · omega
  · have b := hb q hq
    by_cases e : q = 0
    · simp [e]
    · by_cases e2 : q = -1
      · rw [e2] at hq; exact absurd hq h1
      · have := Vs_more (S := mS ns) (decide_eq_true z) (p := q) (by omega) (decide_eq_true hq) n (by omega)
        omega
  · simp only [List.mem_singleton] at e
    rw [e]; exact z
end KQ
set_option Elab.async false
set_option maxRecDepth 100000
set_option maxHeartbeats 4000000
namespace KQ
open PySem PySem.Spec PyProof.Rows L2
end KQ
set_option Elab.async false
set_option maxRecDepth 100000
set_option maxHeartbeats 4000000
namespace KQ
open PySem PySem.Spec PyProof.Rows L2
end KQ
set_option Elab.async false
set_option maxRecDepth 100000
set_option maxHeartbeats 4000000
namespace KQ
open PySem PySem.Spec PyProof.Rows L2
end KQ
set_option Elab.async false
set_option maxRecDepth 100000
set_option maxHeartbeats 4000000
namespace KQ
open PySem PySem.Spec PyProof.Rows L2
abbrev zlt1 (h : Heap) (a : Addr) : Heap := h.push { cls := .type "list_iterator", data := .fields #[.ref a, .int 0 0] }
abbrev zlt2 (h : Heap) (a b : Addr) : Heap := (zlt1 h a).push { cls := .type "tuple_iterator", data := .fields #[.ref b, .int 0 0] }
abbrev zlt3 (h : Heap) (a b : Addr) : Heap := (zlt2 h a b).push { cls := .type "tuple", data := .seq #[.ref h.objs.size, .ref (zlt1 h a).objs.size] }
abbrev zlt4 (h : Heap) (a b : Addr) : Heap := (zlt3 h a b).push { cls := .type "tuple", data := .seq #[.none, .none] }
abbrev zlt5 (h : Heap) (a b : Addr) : Heap := (zlt4 h a b).push { cls := .type "zip", data := .fields #[.none, .bool false, .bool false, .ref (zlt2 h a b).objs.size, .ref (zlt3 h a b).objs.size] }
theorem meets_zlt (a b : Addr) (xs ys : Array Value) :
    Meets (Builtin.«zip.__new__» ⟨[.type "zip", .ref a, .ref b], []⟩) (fun _ R s => s.heap.IsList a xs ∧ s.heap.IsTuple b ys ∧
      R (.ok (.ret (.ref (zlt4 s.heap a b).objs.size))) { s with heap := zlt5 s.heap a b }) :=
  .of_wp fun prog w A R s h => by
    obtain ⟨hp, g, d, tk, os⟩ := s; obtain ⟨ha, hb, h⟩ := h
    have hsub := sub_zip
    have hA : Heap.IsList (Shared.heap ⟨hp, g, d, tk, os⟩) a xs := ha
    have hB : Heap.IsTuple (Shared.heap ⟨hp.push { cls := .type "list_iterator", data := .fields #[.ref a, .int 0 0] }, g, d, tk, os⟩) b ys := Heap.IsTuple.push hb _
    wp_walk using wpAny_pyIter_list hA, wpAny_pyIter_tuple hB
    exact ⟨_, rfl, h⟩
section
variable {prog : Program} {w : World} {A : Around} {E : Value → Shared → Prop} {s : Shared}
theorem call_zlt {a b : Addr} {xs ys : Array Value} {Q : Value → Shared → Prop} (ha : s.heap.IsList a xs) (hb : s.heap.IsTuple b ys)
    (h : ∀ h', IsZip h' (s.heap.objs.size + 4) (s.heap.objs.size + 2) (s.heap.objs.size + 3) .none → IsPair h' (s.heap.objs.size + 2) (.ref s.heap.objs.size) (.ref (s.heap.objs.size + 1)) →
      IsPair h' (s.heap.objs.size + 3) .none .none → h'.IsListIter s.heap.objs.size a 0 → h'.IsTupleIter (s.heap.objs.size + 1) b 0 →
      (∀ c o, s.heap.get? c = some o → h'.get? c = some o) → Q (.ref (s.heap.objs.size + 4)) { s with heap := h' }) :
    wpAny (model prog w) A (call (.type "zip") [.ref a, .ref b]) Q E s := by
  refine callType_new F.called_zip (by decide) (F.typeCall_zip_2 _ _) (F.newCall_zip_2 _ _) (fun obj => F.args_object_init_3 obj _ _) F.entry_zip_new (meets_zlt a b xs ys) ⟨ha, hb, ?_⟩
  have n1 : (zlt1 s.heap a).objs.size = s.heap.objs.size + 1 := Heap.size_push ..
  have n2 : (zlt2 s.heap a b).objs.size = s.heap.objs.size + 2 := by rw [Heap.size_push, n1]
  have n3 : (zlt3 s.heap a b).objs.size = s.heap.objs.size + 3 := by rw [Heap.size_push, n2]
  have n4 : (zlt4 s.heap a b).objs.size = s.heap.objs.size + 4 := by rw [Heap.size_push, n3]
  have up4 : ∀ c o, (zlt4 s.heap a b).get? c = some o → (zlt5 s.heap a b).get? c = some o := fun c o e => Heap.get?_push_of_some _ e
  have up3 : ∀ c o, (zlt3 s.heap a b).get? c = some o → (zlt5 s.heap a b).get? c = some o := fun c o e => up4 c o (Heap.get?_push_of_some _ e)
  have up2 : ∀ c o, (zlt2 s.heap a b).get? c = some o → (zlt5 s.heap a b).get? c = some o := fun c o e => up3 c o (Heap.get?_push_of_some _ e)
  have up1 : ∀ c o, (zlt1 s.heap a).get? c = some o → (zlt5 s.heap a b).get? c = some o := fun c o e => up2 c o (Heap.get?_push_of_some _ e)
  have g5 : (zlt5 s.heap a b).get? (zlt4 s.heap a b).objs.size = some _ := Heap.get?_push_size _ rfl
  have g4 : (zlt5 s.heap a b).get? (zlt3 s.heap a b).objs.size = some _ := up4 _ _ (Heap.get?_push_size _ rfl)
  have g3 : (zlt5 s.heap a b).get? (zlt2 s.heap a b).objs.size = some _ := up3 _ _ (Heap.get?_push_size _ rfl)
  have g2 : (zlt5 s.heap a b).get? (zlt1 s.heap a).objs.size = some _ := up2 _ _ (Heap.get?_push_size _ rfl)
  have g1 : (zlt5 s.heap a b).get? s.heap.objs.size = some _ := up1 _ _ (Heap.get?_push_size _ rfl)
  show _ ∧ _
  rw [n2, n3, n4] at g5
  rw [n1, n2] at g3
  rw [n3] at g4
  rw [n1] at g2
  rw [n4]
  exact ⟨⟨_, g5, rfl⟩, h _ g5 g3 g4 ⟨_, g1, rfl, rfl⟩ ⟨_, g2, rfl, rfl⟩ fun c o e => up1 c o (Heap.get?_push_of_some _ e)⟩
end
/-- the list at a and the tuple at b as they stand at each turn, the items in new pairs -/
def ItzM (K : PySem.W.Frag) (a b : Addr) : It :=
  ⟨fun i H => ∃ (xs ys : List V) (x y : V), SqL K H a xs ∧ SqT K H b ys ∧ xs[i]? = some x ∧ ys[i]? = some y,
    fun i H v H' => ∃ T x y, v = .ref T ∧ H T = none ∧ H' = upd H T (.tup [x, y]) ∧ (∀ xs, SqL K H a xs → xs[i]? = some x) ∧ ∀ ys, SqT K H b ys → ys[i]? = some y,
    fun i H => ∃ xs ys : List V, SqL K H a xs ∧ SqT K H b ys ∧ i ≤ xs.length ∧ i ≤ ys.length ∧ (i = xs.length ∨ i = ys.length)⟩
theorem sep_of {z TI TO i1 i2 a b : Addr} (D : ZipApart z TI TO i1 i2 a b) : ZipSep2 z TI TO i1 i2 [i1, a] [i2, b] where
  TIz := D.TIz
  TOz := D.TOz
  TITO := D.TITO
  TIi1 := D.TIi1
  mem1 := by simp
  zf1 := by have := D.i1z; have := D.l1z; simp only [List.mem_cons, List.not_mem_nil, or_false, not_or]; exact ⟨D.i1z.symm, D.l1z.symm⟩
  Tf1 := by simp only [List.mem_cons, List.not_mem_nil, or_false, not_or]; exact ⟨D.TOi1, D.l1TO.symm⟩
  TIi2 := D.TIi2
  mem2 := by simp
  zf2 := by simp only [List.mem_cons, List.not_mem_nil, or_false, not_or]; exact ⟨D.i2z.symm, D.l2z.symm⟩
  Tf2 := by simp only [List.mem_cons, List.not_mem_nil, or_false, not_or]; exact ⟨D.TOi2, D.l2TO.symm⟩
  sep1_2 := by simp only [List.mem_cons, List.not_mem_nil, or_false, not_or]; exact ⟨D.i12, D.l2i1.symm⟩
  sep2_1 := by simp only [List.mem_cons, List.not_mem_nil, or_false, not_or]; exact ⟨D.i12.symm, D.l1i2.symm⟩
theorem turn_zlt {P : Program} {w : World} {K : PySem.W.Frag} {elts : List Expr} {kk : Nat} {tpos : Pos} {a b z TI TO i1 i2 : Addr} (D : ZipApart z TI TO i1 i2 a b) :
    Turn P w K (.Tuple elts kk tpos) (ItzM K a b) [z, TI, TO, i1, i2] z (fun i h => IsZip h z TI TO .none ∧ IsPair h TI (.ref i1) (.ref i2) ∧ (∃ x y, IsPair h TO x y) ∧ h.IsListIter i1 a i ∧ h.IsTupleIter i2 b i) where
  mem := by simp
  obj := fun i h st c hc => by
    obtain ⟨hz, hTI, ⟨x, y, hTO⟩, ⟨o1, e1, _, d1⟩, ⟨o2, e2, _, d2⟩⟩ := st
    simp only [List.mem_cons, List.not_mem_nil, or_false] at hc
    rcases hc with rfl | rfl | rfl | rfl | rfl
    · exact ⟨_, hz, fun v q => nomatch q⟩
    · exact ⟨_, hTI, fun v q => nomatch q⟩
    · exact ⟨_, hTO, fun v q => nomatch q⟩
    · exact ⟨o1, e1, fun v q => by rw [d1] at q; cases q⟩
    · exact ⟨o2, e2, fun v q => by rw [d2] at q; cases q⟩
  keep := fun i h h' st k => by
    obtain ⟨hz, hTI, ⟨x, y, hTO⟩, h1, h2⟩ := st
    exact ⟨k z (by simp) _ hz, k TI (by simp) _ hTI, ⟨x, y, k TO (by simp) _ hTO⟩, h1.at fun o q => k i1 (by simp) o q, h2.at fun o q => k i2 (by simp) o q⟩
  item := by
    intro X hP hw hK hc i pins s σ H E I hf st hg
    subst hP hw hK
    obtain ⟨hz, hTI, ⟨x0, y0, hTO⟩, h1, h2⟩ := st
    obtain ⟨xs, ys, x, y, hqx, hqy, hx, hy⟩ := hg
    obtain ⟨its, rv, p, _⟩ := I.list hqx
    obtain ⟨its2, rv2, p2, _⟩ := I.tuple hqy
    obtain ⟨u, hu, ru⟩ := rv.get hx
    obtain ⟨u2, hu2, ru2⟩ := rv2.get hy
    have hzl : z < s.heap.objs.size := Heap.lt_size hz
    have ha : X.A.in1.handled = none := I.ok.hd hc
    have lx : i < its.toArray.size := by have := (List.getElem?_eq_some_iff.mp hu).1; simpa using this
    have ly : i < its2.toArray.size := by have := (List.getElem?_eq_some_iff.mp hu2).1; simpa using this
    refine wpAny_pyNext_zipD2_item (sep_of D) (Draws.list ha i1 a D.l1i1 its.toArray) (Draws.tuple ha i2 b D.l2i2 its2.toArray) hz hTI hTO ⟨h1, p.isList⟩ ⟨h2, p2⟩ lx ly fun w1 w2 h' tk e1 e2 z' TO' st1 st2 hT hsz hk => ?_
    obtain rfl : u = w1 := by rw [List.getElem?_toArray] at e1; exact Option.some.inj (hu.symm.trans e1)
    obtain rfl : u2 = w2 := by rw [List.getElem?_toArray] at e2; exact Option.some.inj (hu2.symm.trans e2)
    refine ⟨_, rfl, wpAny_letOwnedTupleGo_zip (s := { s with heap := h', toks := tk }) z' fun h'' z'' sb => ?_⟩
    have hT2 : h''.get? s.heap.objs.size = some { cls := .type "tuple", data := .seq #[u, u2] } := (sb.2 _ (Nat.ne_of_gt hzl)).trans hT
    have new : ObjOk X.prog X.w (upd H s.heap.objs.size (.tup [x, y])) h'' s.heap.objs.size (.tup [x, y]) := ⟨by show 2 ≤ sizeLine; decide, [u, u2], .cons ru (.cons ru2 .nil), ⟨_, hT2, rfl, _, rfl⟩⟩
    have I1 : Inv X pins σ (upd H s.heap.objs.size (.tup [x, y])) { s with heap := h'', toks := tk } :=
      I.turnedNew (t' := tk) (ch := [z, TI, TO, i1, i2]) (fun c o hb q => by
        simp only [List.mem_cons, List.not_mem_nil, or_false, not_or] at hb
        exact (sb.2 c hb.1).trans (hk c o hb.1 hb.2.2.1 hb.2.2.2.1 hb.2.2.2.2 q)) hf (Nat.le_refl _) new
    refine ⟨.ref s.heap.objs.size, _, I1, rfl, ⟨_, x, y, rfl, I.hok.fresh (Nat.le_refl _), rfl, fun l hl => by rw [I.list_inj hl hqx]; exact hx, fun l hl => by rw [I.tuple_inj hl hqy]; exact hy⟩, ⟨z'', ?_, ⟨u, u2, ?_⟩, ?_, ?_⟩, fun c hcm => ?_⟩
    · exact (sb.2 _ D.TIz).trans (hk _ _ D.TIz D.TITO D.TIi1 D.TIi2 hTI)
    · exact (sb.2 _ D.TOz).trans TO'
    · exact st1.1.at fun o q => (sb.2 _ D.i1z).trans q
    · exact st2.1.at fun o q => (sb.2 _ D.i2z).trans q
    · have hlt : c < s.heap.objs.size := by
        obtain ⟨o1, f1, _⟩ := h1
        obtain ⟨o2, f2, _⟩ := h2
        simp only [List.mem_cons, List.not_mem_nil, or_false] at hcm
        rcases hcm with rfl | rfl | rfl | rfl | rfl
        · exact hzl
        · exact Heap.lt_size hTI
        · exact Heap.lt_size hTO
        · exact Heap.lt_size f1
        · exact Heap.lt_size f2
      rw [upd_ne (Nat.ne_of_lt hlt)]
      exact (hf c hcm).1
  done := by
    intro X hP hw hK hc i pins s σ H E I hf st hg
    subst hP hw hK
    obtain ⟨hz, hTI, ⟨x0, y0, hTO⟩, h1, h2⟩ := st
    obtain ⟨xs, ys, hqx, hqy, le1, le2, hend⟩ := hg
    obtain ⟨its, rv, p, _⟩ := I.list hqx
    obtain ⟨its2, rv2, p2, _⟩ := I.tuple hqy
    have l1 := rv.length
    have l2 := rv2.length
    have ha : X.A.in1.handled = none := I.ok.hd hc
    refine wpAny_pyNext_zipD2_end (sep_of D) (Draws.list ha i1 a D.l1i1 its.toArray) (Draws.tuple ha i2 b D.l2i2 its2.toArray) hz hTI hTO ⟨h1, p.isList⟩ ⟨h2, p2⟩ (by rw [List.size_toArray]; omega) (by rw [List.size_toArray]; omega) (by rw [List.size_toArray, List.size_toArray]; omega) fun h' tk hk => ⟨rfl, ?_⟩
    exact I.turnedL (t' := tk) (ch := [z, TI, TO, i1, i2]) (fun c o hb q => by
      simp only [List.mem_cons, List.not_mem_nil, or_false, not_or] at hb
      exact hk c o hb.1 hb.2.2.1 hb.2.2.2.1 hb.2.2.2.2 q) hf
  self := fun A i s Q E st h => wpAny_pyIter_zip st.1 h
def iZipM (K : PySem.W.Frag) (ta : TA) : TI := fun σ H R => ta σ H fun vs H1 => ∃ a b xs ys, vs = [.ref a, .ref b] ∧ SqL K H1 a xs ∧ SqT K H1 b ys ∧ R (ItzM K a b) H1
theorem pi_zipM {X : Cx} {e e2 : Expr} {ta : TA} {p pos tpos : Pos} {elts : List Expr} {kk : Nat} (hg : Gl X "zip") (hm : X.mg "zip" = none) (ha : PA X [e, e2] ta)
    (hs : starEach [e, e2] X.env = (false, eval e X.env) :: starEach [e2] X.env := by rfl) (hpl : (backTo pos (starEach [e2] X.env)).any (·.1) = false := by rfl) :
    PI X (.Tuple elts kk tpos) (.Call (.Name "zip" p) [e, e2] [] pos) (iZipM X.K ta) := by
  refine ⟨fun pins s σ H R I h => ?_⟩
  refine Call_ (ld_blt I hg hm PyProof.Rows.boot_zip (PyProof.Rows.callWith_type1 (thn (ha.run pos pins s σ H _ I h) fun us s1 ⟨vs, H1, I1, r1, q1⟩ => ?_) hs hpl))
  obtain ⟨a, b, xs, ys, rfl, hqx, hqy, q⟩ := q1
  cases r1 with
  | cons r rr =>
    cases rr with
    | cons r' rr =>
      cases rr
      cases r
      cases r'
      obtain ⟨its, rv, p1, _⟩ := I1.list hqx
      obtain ⟨its2, rv2, p2, _⟩ := I1.tuple hqy
      obtain ⟨o2, ho2, _⟩ := id p2
      refine call_zlt p1.isList (show s1.heap.IsTuple b its2.toArray from p2) fun h' hz hTI hTO h1 h2 hk => wpAny_pyIter_zip hz ?_
      have I2 : Inv X pins σ H1 { s1 with heap := h' } := I1.kept (t' := s1.toks) hk
      refine ⟨s1.heap.objs.size + 4, [s1.heap.objs.size + 4, s1.heap.objs.size + 2, s1.heap.objs.size + 3, s1.heap.objs.size, s1.heap.objs.size + 1], _, _, H1, rfl, I2, turn_zlt (PySem.W.ktu_apart s1.heap.objs.size a b p1.lt (Heap.lt_size ho2)), ⟨hz, hTI, ⟨_, _, hTO⟩, h1, h2⟩, fun c hcm => ?_, q⟩
      have hle : s1.heap.objs.size ≤ c := by
        simp only [List.mem_cons, List.not_mem_nil, or_false] at hcm
        rcases hcm with rfl | rfl | rfl | rfl | rfl
        all_goals first | exact Nat.le_refl _ | exact Nat.le_add_right _ _
      exact I1.fpOk hle (I1.hok.fresh hle)
end KQ
set_option Elab.async false
set_option maxRecDepth 100000
set_option maxHeartbeats 4000000
namespace KQ
open PySem PySem.Spec PyProof.Rows L2
section
variable {X : Cx}
theorem call_sortedDA (hcalm : X.calm = true) : CallR X (.builtin "sorted") (fun xs H Q => ∃ (a : Addr) (kvs : List (Key × V)) (ks : List Int), xs = [.ref a] ∧ Rd H a (.dK kvs) ∧ kvs.map (·.1) = ks.map Sum.inl ∧ ks.length ≤ 16777216 ∧
    ∀ (ys : List Int) (p : Addr), ys.Perm ks → ys.Pairwise (· ≤ ·) → H p = none → Q (.ref p) (upd H p (.lst (ys.map V.int)))) := by
  intro pins s σ H xs us Q I r q
  obtain ⟨a, kvs, ks, rfl, hd, hks, hz, q⟩ := q
  obtain ⟨u, rfl, rx⟩ := vals1 r
  cases rx
  obtain ⟨z, lo, vs, rel, dd⟩ := dk_rd I.hok hd
  obtain ⟨ep, hat⟩ := dd.dictAt
  have hkeys : vs.map (·.1) = ks.map Sum.inl := rel.keys.symm.trans hks
  have hl : vs.length = ks.length := by simpa using congrArg List.length hkeys
  refine Calls.call_function_entry PyProof.Rows.kind_sorted PyProof.Rows.plain_sorted PyProof.Rows.entry_sorted (PyProof.Rows.args_sorted1 _) ?_
  unfold Builtin.«sorted»
  refine wpAny_bind (m := checkCount "sorted" 1 1 _) (wpAny_pure ?_)
  refine wpAny_bind (PySem.W.kdu_collect (A := X.A.in1) (PySem.W.kdl_dict (knd := mixKind X.prog X.w) (kvs := vs) (ep := ep) lo) (I.ok.hd hcalm) hat (by rw [hl, sizeLine_eq]; exact hz) fun h' tk acc hk hacc => ?_)
  have hal : acc.toList.length = ks.length := by rw [Array.length_toList, hacc.1, hl]
  have hS : IntsAre acc.toList ks := ints_each hal fun j v e => by
    obtain ⟨k, x, e1, e2⟩ := hacc.2 j v (by rw [← Array.getElem?_toList]; exact e)
    have e3 : (vs.map (·.1))[j]? = some k := by rw [List.getElem?_map, e1]; rfl
    rw [hkeys, List.getElem?_map] at e3
    obtain ⟨y, e4, rfl⟩ := Option.map_eq_some_iff.mp e3
    rcases keyIs_shape (show keyIs (Sum.inl y) v = true from e2) with ⟨i, t, ek, ev⟩ | ⟨z, t, ek, ev⟩
    · cases ek
      exact ⟨y, t, e4, ev⟩
    · cases ek
  have I1 : Inv X pins σ H { s with heap := h', toks := tk } := I.kept hk
  refine wpAny_bind (wpAny_newList ?_ (by rw [hal, sizeLine_eq]; exact hz))
  have hoL : (h'.push (seqObj "list" acc.toList.toArray 0)).get? h'.objs.size = some (seqObj "list" acc.toList.toArray 0) := Heap.get?_push_size _ rfl
  show wpAny _ _ _ _ _ { s with heap := h'.push (seqObj "list" acc.toList.toArray 0), toks := tk }
  refine wpAny_bind (wpAny_holding (wpAny_call_entry PyProof.Rows.slot_list_sort ⟨_, hoL, rfl⟩ PyProof.Rows.entry_list_sort
    (SrtO.list_sort_ord (s := { s with heap := h'.push (seqObj "list" acc.toList.toArray 0), toks := tk }) SrtO.swo_int hoL (by rw [hal, sizeLine_eq]; exact hz) (fun h2 => SrtO.ints_sortable hS h2) fun out h1 h2 => ⟨_, rfl, ?_⟩) (PyProof.Rows.args_list_sort _)))
  obtain ⟨k1, k2, k3⟩ := SrtO.ints_out hS h1 h2
  obtain ⟨e', he'⟩ := PyProof.Rows.sortedHeap_at (vs := acc.toList) (out := out.toArray) hoL
  have hlen : ((out.map SrtO.iv).map V.int).length ≤ sizeLine := by rw [List.length_map, k2.length_eq, sizeLine_eq]; exact hz
  refine wpAny_pure ⟨_, rfl, .ref h'.objs.size, upd H h'.objs.size (.lst ((out.map SrtO.iv).map V.int)), I1.laid (t' := tk) (fun b u e => ?_) (Nat.le_refl _)
    (show ObjOk X.prog X.w _ _ _ (.lst ((out.map SrtO.iv).map V.int)) from ⟨hlen, out, e', vals_of_ints k1, he'⟩), rfl, q _ _ k2 k3 (I1.hok.fresh (Nat.le_refl _))⟩
  have hb : b < h'.objs.size := Heap.lt_size e
  rw [PyProof.Rows.sortedHeap_old (Nat.ne_of_lt hb) (by rw [size_push']; exact Nat.lt_succ_of_lt hb)]
  exact Heap.get?_push_of_some _ e
end
end KQ
set_option Elab.async false
set_option maxRecDepth 100000
set_option maxHeartbeats 4000000
namespace KF
open PySem
/-- data: what never changes, and places of the store -/
inductive D where
  | non | bl (b : Bool) | int (i : Int) | str (x : Str) | byt (b : Array UInt8) | ty (n : String) | cls (n : Str) | ref (i : Nat) | tup (l : List D) | scr (l : List D)
/-- a dict's key: an int, a text; a tuple of ints -/
abbrev DK := Sum L2.Key (List L2.Key)
def keyD : L2.Key → D
  | .inl i => .int i
  | .inr x => .str x
def DK.toD : DK → D
  | .inl k => keyD k
  | .inr ks => .tup (ks.map keyD)
def intD : D → Bool
  | .int _ => true
  | _ => false
/-- such tuples are keys -/
def keyish (l : List D) : Bool := decide (2 ≤ l.length) && l.all intD
def keyOf : D → L2.Key
  | .int i => .inl i
  | .str x => .inr x
  | _ => .inl 0
def dkOf : D → Option DK
  | .int i => some (.inl (.inl i))
  | .str x => some (.inl (.inr x))
  | .tup l => if keyish l = true then some (.inr (l.map keyOf)) else none
  | _ => none
/-- what stands in the store -/
inductive GO where
  | lst (xs : List D) | dic (t : Bool) (kvs : List (DK × D)) | ins (C : Str) (fs : List (Str × D))
abbrev Sto := List GO
abbrev Env := List (Option D)
/-- how an evaluation ends: with a value; with an error of the class n, its fields; or it is not told here -/
inductive R (α : Type) where
  | ok (a : α) (S : Sto) | ex (n : Str) (fs : List (Str × D)) (S : Sto) | no
inductive RS where
  | nx (δ : Env) (S : Sto) | rt (d : D) (S : Sto) | bk (δ : Env) (S : Sto) | ct (δ : Env) (S : Sto) | ex (δ : Env) (n : Str) (fs : List (Str × D)) (S : Sto) | no
def R.bind {α β : Type} (r : R α) (f : α → Sto → R β) : R β := match r with
  | .ok a S => f a S
  | .ex n fs S => .ex n fs S
  | .no => .no
def R.to {α : Type} (δ : Env) (r : R α) (f : α → Sto → RS) : RS := match r with
  | .ok a S => f a S
  | .ex n fs S => .ex δ n fs S
  | .no => .no
section
variable {α β γ : Type}
@[simp] theorem bind_ok (a : α) (S : Sto) (f : α → Sto → R β) : (R.ok a S).bind f = f a S := rfl
@[simp] theorem bind_ex (n : Str) (fs : List (Str × D)) (S : Sto) (f : α → Sto → R β) : (R.ex n fs S).bind f = .ex n fs S := rfl
@[simp] theorem bind_no (f : α → Sto → R β) : (R.no : R α).bind f = .no := rfl
@[simp] theorem to_ok (δ : Env) (a : α) (S : Sto) (f : α → Sto → RS) : R.to δ (R.ok a S) f = f a S := rfl
@[simp] theorem to_ex (δ : Env) (n : Str) (fs : List (Str × D)) (S : Sto) (f : α → Sto → RS) : R.to δ (R.ex n fs S) f = .ex δ n fs S := rfl
@[simp] theorem to_no (δ : Env) (f : α → Sto → RS) : R.to δ (R.no : R α) f = .no := rfl
theorem bind_bind (r : R α) (f : α → Sto → R β) (g : β → Sto → R γ) : (r.bind f).bind g = r.bind fun a S => (f a S).bind g := by cases r <;> rfl
end
abbrev FE := Env → Sto → R D
abbrev FA := Env → Sto → R (List D)
abbrev FT := Env → Sto → R Bool
abbrev FS := Env → Sto → RS
abbrev FO := Env → Sto → R (Option Int)
abbrev Fn := List D → Sto → R D
abbrev line : Nat := 16777216
def eVar (i : Nat) : FE := fun δ S => match δ[i]? with
  | some (some d) => .ok d S
  | _ => .no
def eC (d : D) : FE := fun _ S => .ok d S
def aNil : FA := fun _ S => .ok [] S
def aCons (a : FE) (t : FA) : FA := fun δ S => (a δ S).bind fun x S => (t δ S).bind fun xs S => .ok (x :: xs) S
def eOp (r : D → D → Sto → R D) (a b : FE) : FE := fun δ S => (a δ S).bind fun x S => (b δ S).bind fun y S => r x y S
def eUn (r : D → Sto → R D) (a : FE) : FE := fun δ S => (a δ S).bind fun x S => r x S
def eTup (t : FA) : FE := fun δ S => (t δ S).bind fun ds S => if ds.length ≤ line then .ok (.tup ds) S else .no
def alloc (o : GO) (S : Sto) : R D := .ok (.ref S.length) (S ++ [o])
def eLst (t : FA) : FE := fun δ S => (t δ S).bind fun ds S => if ds.length ≤ line then alloc (.lst ds) S else .no
/-- an empty dict; t: its keys are tuples -/
def eDic0 (t : Bool) : FE := fun _ S => alloc (.dic t []) S
def eB (r : List D → Sto → R D) (t : FA) : FE := fun δ S => (t δ S).bind r
def eIf (c : FT) (a b : FE) : FE := fun δ S => (c δ S).bind fun k S => if k = true then a δ S else b δ S
def eAnd (a b : FE) : FE := fun δ S => (a δ S).bind fun x S => match x with
  | .bl true => b δ S
  | .bl false => .ok (.bl false) S
  | _ => .no
def eOr (a b : FE) : FE := fun δ S => (a δ S).bind fun x S => match x with
  | .bl true => .ok (.bl true) S
  | .bl false => b δ S
  | _ => .no
def eNot (a : FE) : FE := fun δ S => (a δ S).bind fun x S => match x with
  | .bl k => .ok (.bl (!k)) S
  | _ => .no
def asB (x : D) (S : Sto) : R Bool := match x with
  | .bl k => .ok k S
  | _ => .no
/-- an expression as a test (of bools) -/
def tB (a : FE) : FT := fun δ S => (a δ S).bind asB
def tAnd (t u : FT) : FT := fun δ S => (t δ S).bind fun c S => if c = true then u δ S else .ok false S
def tOr (t u : FT) : FT := fun δ S => (t δ S).bind fun c S => if c = true then .ok true S else u δ S
def tNot (t : FT) : FT := fun δ S => (t δ S).bind fun c S => .ok (!c) S
/-- a test of no conditions -/
def tYes : FT := fun _ S => .ok true S
def eChain (r r' : D → D → Sto → R D) (a b c : FE) : FE := fun δ S => (a δ S).bind fun x S => (b δ S).bind fun y S => (r x y S).bind fun z S => (asB z S).bind fun k S => if k = true then (c δ S).bind fun u S => r' y u S else .ok (.bl false) S
def opAdd (x y : D) (S : Sto) : R D := match x, y with
  | .int i, .int j => .ok (.int (i + j)) S
  | .tup a, .tup b => if a.length + b.length ≤ line then .ok (.tup (a ++ b)) S else .no
  | .ref i, .ref j => match S[i]?, S[j]? with
    | some (.lst a), some (.lst b) => if a.length + b.length ≤ line then alloc (.lst (a ++ b)) S else .no
    | _, _ => .no
  | _, _ => .no
def opSub (x y : D) (S : Sto) : R D := match x, y with
  | .int i, .int j => .ok (.int (i - j)) S
  | _, _ => .no
open Classical in
noncomputable def opMul (x y : D) (S : Sto) : R D := match x, y with
  | .int i, .int j => if L2.CMul i j ∨ L2.CMulW i j then .ok (.int (i * j)) S else .no
  | .tup a, .int k => if a ≠ [] ∧ 0 ≤ k ∧ k ≤ 1000 ∧ a.length ≤ 1000 then .ok (.tup (List.replicate k.toNat a).flatten) S else .no
  | .ref i, .int k => match S[i]? with
    | some (.lst a) => if -(2 ^ 63) ≤ k ∧ k < 2 ^ 63 ∧ a.length * k.toNat ≤ line then alloc (.lst (List.replicate k.toNat a).flatten) S else .no
    | _ => .no
  | _, _ => .no
def opMod (x y : D) (S : Sto) : R D := match x, y with
  | .int i, .int j => if j ≠ 0 then .ok (.int (i.fmod j)) S else .no
  | _, _ => .no
def opDiv (x y : D) (S : Sto) : R D := match x, y with
  | .int i, .int j => if j ≠ 0 ∧ j.natAbs < 1073741824 then .ok (.int (i.fdiv j)) S else .no
  | _, _ => .no
def opPow (x y : D) (S : Sto) : R D := match x, y with
  | .int i, .int j => if 0 ≤ j ∧ j ≤ 1000000 ∧ i.natAbs < 2 ^ 64 then .ok (.int (i ^ j.toNat)) S else .no
  | _, _ => .no
def opNeg (x : D) (S : Sto) : R D := match x with
  | .int i => .ok (.int (-i)) S
  | _ => .no
def cmpI (p : Int → Int → Bool) (x y : D) (S : Sto) : R D := match x, y with
  | .int i, .int j => .ok (.bl (p i j)) S
  | _, _ => .no
def intsOf : List D → Option (List Int)
  | [] => some []
  | .int i :: l => (intsOf l).map (i :: ·)
  | _ => none
/-- <= of tuples of ints -/
def lexLe (ns ms : List Int) : Bool := Ob.lexAt (fun j => decide (ns.getD j 0 = ms.getD j 0)) (fun j => decide (ns.getD j 0 ≤ ms.getD j 0)) (decide (ns.length ≤ ms.length)) 0 (min ns.length ms.length)
def opLt (x y : D) (S : Sto) : R D := match x, y with
  | .int i, .int j => .ok (.bl (decide (i < j))) S
  | .tup a, .tup b => match intsOf a, intsOf b with
    | some ns, some ms => .ok (.bl (HT.lexLt ns ms)) S
    | _, _ => .no
  | _, _ => .no
def opLe (x y : D) (S : Sto) : R D := match x, y with
  | .int i, .int j => .ok (.bl (decide (i ≤ j))) S
  | .tup a, .tup b => match intsOf a, intsOf b with
    | some ns, some ms => .ok (.bl (lexLe ns ms)) S
    | _, _ => .no
  | _, _ => .no
def opGt := cmpI fun i j => decide (j < i)
def opGe := cmpI fun i j => decide (j ≤ i)
def isNone : D → Bool
  | .non => true
  | _ => false
def opIsN (x : D) (S : Sto) : R D := .ok (.bl (isNone x)) S
def opNotN (x : D) (S : Sto) : R D := .ok (.bl (!isNone x)) S
def isBl (b : Bool) : D → Bool
  | .bl a => a == b
  | _ => false
def opIsB (x y : D) (S : Sto) : R D := match y with
  | .bl b => .ok (.bl (isBl b x)) S
  | _ => .no
mutual
def D.under (n : Nat) : D → Bool
  | .ref i => decide (i < n)
  | .tup l => D.unders n l
  | .scr l => D.unders n l
  | _ => true
def D.unders (n : Nat) : List D → Bool
  | [] => true
  | d :: l => d.under n && D.unders n l
end
def fsUnder (n : Nat) (fs : List (Str × D)) : Bool := D.unders n (fs.map (·.2))
def GO.under (n : Nat) : GO → Bool
  | .lst xs => D.unders n xs
  | .dic _ kvs => D.unders n (kvs.map (·.2))
  | .ins _ fs => fsUnder n fs
/-- behind a call: what the caller had is as it was, or leans on nothing new -/
def clean (S S' : Sto) : Prop := S.length ≤ S'.length ∧ ∀ i o, i < S.length → S'[i]? = some o → S[i]? = some o ∨ o.under S.length = true
open Classical in
noncomputable def gcR (S : Sto) : RS → R D
  | .rt d S' => if clean S S' ∧ d.under S.length = true then .ok d (S'.take S.length) else .ok d S'
  | .nx _ S' => if clean S S' then .ok .non (S'.take S.length) else .ok .non S'
  | .ex _ n fs S' => if clean S S' ∧ fsUnder S.length fs = true then .ex n fs (S'.take S.length) else .ex n fs S'
  | _ => .no
/-- a def of m parameters and n slots, its body -/
noncomputable def fnOf (m n : Nat) (b : FS) : Fn := fun ds S => if ds.length = m then gcR S (b (ds.map some ++ List.replicate (n - ds.length) none) S) else .no
def sSeq (a b : FS) : FS := fun δ S => match a δ S with
  | .nx δ S => b δ S
  | r => r
def sNil : FS := fun δ S => .nx δ S
def sSet (i : Nat) (a : FE) : FS := fun δ S => R.to δ (a δ S) fun d S => .nx (δ.set i (some d)) S
def sE (a : FE) : FS := fun δ S => R.to δ (a δ S) fun _ S => .nx δ S
def sRet (a : FE) : FS := fun δ S => R.to δ (a δ S) fun d S => .rt d S
def sRetN : FS := fun _ S => .rt .non S
def sIf (c : FT) (a b : FS) : FS := fun δ S => R.to δ (c δ S) fun k S => if k = true then a δ S else b δ S
def sBreak : FS := fun δ S => .bk δ S
end KF
namespace KF
open PySem
def fldOf (cs : List Str) (f : Str) (x : D) (S : Sto) : R D := match x with
  | .ref i => match S[i]? with
    | some (.ins C fs) => if C ∈ cs then match fs.lookup f with
      | some d => .ok d S
      | none => .no
      else .no
    | _ => .no
  | _ => .no
def eFld (cs : List Str) (f : Str) (a : FE) : FE := fun δ S => (a δ S).bind fun x S => fldOf cs f x S
def putFD (f : Str) (d : D) : List (Str × D) → List (Str × D)
  | [] => [(f, d)]
  | (g, e) :: fs => if g = f then (g, d) :: fs else (g, e) :: putFD f d fs
def sFld (cs : List Str) (f : Str) (a v : FE) : FS := fun δ S => R.to δ (v δ S) fun d S => R.to δ (a δ S) fun x S => match x with
  | .ref i => match S[i]? with
    | some (.ins C fs) => if C ∈ cs ∧ fs.length < 1000 then .nx δ (S.set i (.ins C (putFD f d fs))) else .no
    | _ => .no
  | _ => .no
/-- o.m(..) of an own class -/
def eMeth (C m : Str) (fn : Fn) (a : FE) (t : FA) : FE := fun δ S => (a δ S).bind fun x S => match x with
  | .ref i => match S[i]? with
    | some (.ins C' fs) => if C' = C ∧ fs.lookup m = none then (t δ S).bind fun ds S => fn (x :: ds) S else .no
    | _ => .no
  | _ => .no
/-- C(..) -/
def eMake (C : Str) (fn : Fn) (t : FA) : FE := fun δ S => (t δ S).bind fun ds S1 => (fn (.ref S1.length :: ds) (S1 ++ [.ins C []])).bind fun v S2 => match v with
  | .non => .ok (.ref S1.length) S2
  | _ => .no
def sRz (n : Str) : FS := fun δ S => .ex δ n [] S
def sRx (n f : Str) (a : FE) : FS := fun δ S => R.to δ (a δ S) fun d S => .ex δ n [(f, d)] S
/-- a suite lets no error out -/
def noEx : RS → RS
  | .ex _ _ _ _ => .no
  | r => r
/-- the clauses, one after the other -/
def sHand : List (Str × FS) → FS → Str → FS
  | [], r, _ => r
  | (c, h) :: l, r, n => if n = c then fun δ S => noEx (h δ S) else sHand l r n
end KF
namespace KF
open PySem
def cutD (xs : List D) (lo hi : Option Int) : List D := (xs.drop (HT.sIx xs.length 0 lo)).take (HT.sIx xs.length xs.length hi - HT.sIx xs.length 0 lo)
section
variable (kvs : List (DK × D)) (k : DK) (d : D)
def dgetD : Option D := (kvs.find? fun kv => decide (kv.1 = k)).map (·.2)
def dputD : List (DK × D) := if (kvs.any fun kv => decide (kv.1 = k)) = true then kvs.map (fun kv => if kv.1 = k then (kv.1, d) else kv) else kvs ++ [(k, d)]
def ddropD : List (DK × D) := kvs.filter fun kv => decide (kv.1 ≠ k)
end
def DK.isT : DK → Bool
  | .inl _ => false
  | .inr _ => true
/-- the key k in a dict of the kind t -/
def keyIn (t : Bool) (d : D) : Option DK := (dkOf d).bind fun k => if k.isT = t then some k else none
/-- x[i] -/
def opIx (x y : D) (S : Sto) : R D := match x with
  | .tup l => match y with
    | .int i => match L2.atI l i with
      | some d => .ok d S
      | none => .no
    | _ => .no
  | .str z => match y with
    | .int i => if z.length ≤ line then match L2.atI z.cps.toList i with
        | some c => .ok (.str ⟨#[c]⟩) S
        | none => .no
      else .no
    | _ => .no
  | .ref a => match S[a]? with
    | some (.lst l) => match y with
      | .int i => match L2.atI l i with
        | some d => .ok d S
        | none => .no
      | _ => .no
    | some (.dic t kvs) => match (keyIn t y).bind (dgetD kvs) with
      | some d => .ok d S
      | none => .no
    | _ => .no
  | _ => .no
/-- x[lo:hi] -/
def opSl (x : D) (lo hi : Option Int) (S : Sto) : R D := match x with
  | .tup l => .ok (.tup (cutD l lo hi)) S
  | .ref a => match S[a]? with
    | some (.lst l) => alloc (.lst (cutD l lo hi)) S
    | _ => .no
  | .str z => if z.length ≤ line then .ok (.str (L2.cutS z lo hi)) S else .no
  | _ => .no
def oNo : FO := fun _ S => .ok none S
def oAt (a : FE) : FO := fun δ S => (a δ S).bind fun x S => match x with
  | .int i => .ok (some i) S
  | _ => .no
def eSl (a : FE) (l h : FO) : FE := fun δ S => (a δ S).bind fun x S => (l δ S).bind fun lo S => (h δ S).bind fun hi S => opSl x lo hi S
/-- x in d -/
def opInD (neg : Bool) (y x : D) (S : Sto) : R D := match x with
  | .ref a => match S[a]? with
    | some (.dic t kvs) => match keyIn t y with
      | some k => .ok (.bl (if neg = true then !(dgetD kvs k).isSome else (dgetD kvs k).isSome)) S
      | none => .no
    | _ => .no
  | _ => .no
/-- o.append(x) .. on a list; o.get(k, d), o.pop(k) .. on a dict -/
def mAppend (x : D) (ys : List D) (S : Sto) : R D := match x, ys with
  | .ref a, [y] => match S[a]? with
    | some (.lst l) => if l.length < line then .ok .non (S.set a (.lst (l ++ [y]))) else .no
    | _ => .no
  | _, _ => .no
def mExtend (x : D) (ys : List D) (S : Sto) : R D := match x, ys with
  | .ref a, [.ref b] => match S[a]?, S[b]? with
    | some (.lst l), some (.lst m) => if l.length + m.length ≤ line then .ok .non (S.set a (.lst (l ++ m))) else .no
    | _, _ => .no
  | .ref a, [.tup m] => match S[a]? with
    | some (.lst l) => if l.length + m.length ≤ line then .ok .non (S.set a (.lst (l ++ m))) else .no
    | _ => .no
  | _, _ => .no
def mPop1 (x : D) (ys : List D) (S : Sto) : R D := match x, ys with
  | .ref a, [.int i] => match S[a]? with
    | some (.lst l) => if -(2 ^ 63) ≤ i ∧ i < 2 ^ 63 then match seqIndex? i l.length with
      | some k => match l[k]? with
        | some d => .ok d (S.set a (.lst (l.eraseIdx k)))
        | none => .no
      | none => .no
      else .no
    | _ => .no
  | _, _ => .no
def mDPop (x : D) (ys : List D) (S : Sto) : R D := match x, ys with
  | .ref a, [y] => match S[a]? with
    | some (.dic false kvs) => match keyIn false y with
      | some k => match dgetD kvs k with
        | some d => .ok d (S.set a (.dic false (ddropD kvs k)))
        | none => .no
      | none => .no
    | _ => .no
  | _, _ => .no
def bLen (ds : List D) (S : Sto) : R D := match ds with
  | [.tup l] => .ok (.int l.length) S
  | [.str z] => if z.length ≤ line then .ok (.int z.length) S else .no
  | [.ref a] => match S[a]? with
    | some (.lst l) => .ok (.int l.length) S
    | some (.dic false kvs) => .ok (.int kvs.length) S
    | _ => .no
  | _ => .no
/-- what a list or a tuple holds -/
def seqOf (S : Sto) : D → Option (List D)
  | .tup l => some l
  | .ref a => match S[a]? with
    | some (.lst l) => some l
    | _ => none
  | _ => none
def bMax2 (ds : List D) (S : Sto) : R D := match ds with
  | [.int i, .int j] => .ok (.int (if j > i then j else i)) S
  | _ => .no
def bTuple (ds : List D) (S : Sto) : R D := match ds with
  | [x] => match seqOf S x with
    | some l => .ok (.tup l) S
    | none => .no
  | _ => .no
def bList (ds : List D) (S : Sto) : R D := match ds with
  | [.scr l] => alloc (.lst l) S
  | [.ref a] => match S[a]? with
    | some (.lst l) => alloc (.lst l) S
    | some (.dic false kvs) => alloc (.lst (kvs.map fun kv => kv.1.toD)) S
    | _ => .no
  | [.tup l] => alloc (.lst l) S
  | _ => .no
def bInt (ds : List D) (S : Sto) : R D := match ds with
  | [.int i] => .ok (.int i) S
  | [.bl k] => .ok (.int (if k then 1 else 0)) S
  | _ => .no
def bDict (ds : List D) (S : Sto) : R D := match ds with
  | [.ref a] => match S[a]? with
    | some (.dic false kvs) => alloc (.dic false kvs) S
    | _ => .no
  | _ => .no
/-- the name of a thing's type; of own classes: their own -/
inductive TyD where
  | b (n : String) | c (n : Str)
  deriving DecidableEq
def tyD (S : Sto) : D → Option TyD
  | .non => some (.b "NoneType") | .bl _ => some (.b "bool") | .int _ => some (.b "int") | .str _ => some (.b "str") | .byt _ => some (.b "bytes") | .tup _ => some (.b "tuple")
  | .ref a => match S[a]? with
    | some (.lst _) => some (.b "list")
    | some (.dic _ _) => some (.b "dict")
    | some (.ins C _) => some (.c C)
    | none => none
  | _ => none
/-- isinstance of built-in types -/
def isTy (T : String) : TyD → Bool
  | .b t => t == T || (T == "int" && t == "bool")
  | .c _ => false
/-- isinstance(x, C): cs: the own classes that are told apart -/
def bIsi (cs : List Str) (ds : List D) (S : Sto) : R D := match ds with
  | [x, .ty T] => if T ∈ ["int", "bool", "str", "tuple", "list", "dict", "bytes"] then match tyD S x with
      | some (.c C) => if C ∈ cs then .ok (.bl false) S else .no
      | some t => .ok (.bl (isTy T t)) S
      | none => .no
    else .no
  | [x, .cls C] => match tyD S x with
    | some (.c C') => if C' ∈ cs ∧ C ∈ cs then .ok (.bl (C' == C)) S else .no
    | some _ => if C ∈ cs then .ok (.bl false) S else .no
    | none => .no
  | _ => .no
mutual
/-- data without places as the model's data -/
def D.py (S : Sto) : Nat → D → Option PyData
  | 0, _ => none
  | _ + 1, .non => some .none
  | _ + 1, .bl b => some (.bool b)
  | _ + 1, .int i => some (.int i)
  | _ + 1, .str x => some (.str x)
  | n + 1, .tup l => (D.pys S n l).map .tuple
  | n + 1, .ref a => match S[a]? with
    | some (.lst l) => (D.pys S n l).map .list
    | _ => none
  | _ + 1, _ => none
def D.pys (S : Sto) : Nat → List D → Option (List PyData)
  | _, [] => some []
  | n, d :: l => match D.py S n d, D.pys S n l with
    | some x, some xs => some (x :: xs)
    | _, _ => none
end
def opEqN (neg : Bool) (x y : D) (S : Sto) : R D := match x, y with
  | .byt a, .byt b => .ok (.bl (if neg = true then !decide (a = b) else decide (a = b))) S
  | x, y => match D.py S 65 x, D.py S 65 y with
    | some a, some b => if (SeqAt.shaped a && SeqAt.shaped b) = true then .ok (.bl (if neg = true then !PyData.eqv a b else PyData.eqv a b)) S else .no
    | _, _ => .no
def opEq := opEqN false
def opNe := opEqN true
/-- o[i] = v -/
def putIx (o i v : D) (S : Sto) : R Unit := match o with
  | .ref a => match S[a]? with
    | some (.lst l) => match i with
      | .int k => match L2.ixN l.length k with
        | some j => .ok () (S.set a (.lst (l.set j v)))
        | none => .no
      | _ => .no
    | some (.dic t kvs) => match keyIn t i with
      | some k => if kvs.length < line then .ok () (S.set a (.dic t (dputD kvs k v))) else .no
      | none => .no
    | _ => .no
  | _ => .no
/-- what an item is given to: names by slots, tuples of such -/
inductive TgS where
  | name (i : Nat) | tup (l : List TgS)
mutual
def TgS.asg : TgS → D → Env → Option Env
  | .name i, d, δ => some (δ.set i (some d))
  | .tup l, .tup ds, δ => TgS.asgs l ds δ
  | .tup _, _, _ => none
def TgS.asgs : List TgS → List D → Env → Option Env
  | [], [], δ => some δ
  | t :: l, d :: ds, δ => match TgS.asg t d δ with
    | some δ => TgS.asgs l ds δ
    | none => none
  | _, _, _ => none
end
mutual
def TgS.names : TgS → List Nat
  | .name i => [i]
  | .tup l => TgS.namesL l
def TgS.namesL : List TgS → List Nat
  | [] => []
  | t :: l => t.names ++ TgS.namesL l
end
/-- target = value: names, tuples of names -/
def sAsg (a : FE) (t : TgS) : FS := fun δ S => R.to δ (a δ S) fun d S => match t.asg d δ with
  | some δ => .nx δ S
  | none => .no
/-- o[i] = v, the value first -/
def sPut (o i v : FE) : FS := fun δ S => R.to δ (v δ S) fun d S => R.to δ (o δ S) fun x S => R.to δ (i δ S) fun y S => R.to δ (putIx x y d S) fun _ S => .nx δ S
/-- o.f op= e -/
def sAugFld (cs : List Str) (f : Str) (r : D → D → Sto → R D) (o e : FE) : FS := fun δ S => R.to δ (o δ S) fun x S => match x with
  | .ref i => match S[i]? with
    | some (.ins C fs) => if C ∈ cs then match fs.lookup f with
        | some z => R.to δ (e δ S) fun u S => R.to δ (r z u S) fun w S => match S[i]? with
          | some (.ins C' fs') => if C' = C ∧ fs'.length < 1000 then .nx δ (S.set i (.ins C' (putFD f w fs'))) else .no
          | _ => .no
        | none => .no
      else .no
    | _ => .no
  | _ => .no
/-- what is walked: its items, what must stay of the store meanwhile -/
structure Its where
  ds : List D
  live : List (Nat × List D) := []
abbrev FI := Env → Sto → R Its
def liveOk (l : List (Nat × List D)) (S : Sto) : Prop := ∀ p ∈ l, S[p.1]? = some (.lst p.2)
/-- a list or a tuple itself -/
def itsOf (S : Sto) : D → Option Its
  | .tup l => some ⟨l, []⟩
  | .ref a => match S[a]? with
    | some (.lst l) => some ⟨l, [(a, l)]⟩
    | _ => none
  | _ => none
def iRng1 (t : FA) : FI := fun δ S => (t δ S).bind fun ds S => match ds with
  | [.int j] => if -(2 ^ 62) ≤ j ∧ j < 2 ^ 62 then .ok ⟨(List.range j.toNat).map fun (k : Nat) => .int (k : Int), []⟩ S else .no
  | _ => .no
def pairD (x y : D) : D := .tup [x, y]
def iZip (t : FA) : FI := fun δ S => (t δ S).bind fun ds S => match ds with
  | [.tup _, .ref _] => .no
  | [x, y] => match itsOf S x, itsOf S y with
    | some u, some v => .ok ⟨(u.ds.zip v.ds).map fun p => pairD p.1 p.2, u.live ++ v.live⟩ S
    | _, _ => .no
  | _ => .no
open Classical in
/-- the turns of a for -/
noncomputable def loopF (lv : List (Nat × List D)) (t : TgS) (b : FS) : List D → Env → Sto → RS
  | [], δ, S => if liveOk lv S then .nx δ S else .no
  | x :: xs, δ, S => if liveOk lv S then match t.asg x δ with
      | some δ => match b δ S with
        | .nx δ S => loopF lv t b xs δ S
        | .ct δ S => loopF lv t b xs δ S
        | .bk δ S => .nx δ S
        | r => r
      | none => .no
    else .no
noncomputable def sFor (it : FI) (t : TgS) (b : FS) : FS := fun δ S => R.to δ (it δ S) fun u S => loopF u.live t b u.ds δ S
/-- while, n turns at most -/
def whileN (c : FT) (b : FS) : Nat → Env → Sto → RS
  | 0, _, _ => .no
  | n + 1, δ, S => R.to δ (c δ S) fun k S => if k = true then match b δ S with
      | .nx δ S => whileN c b n δ S
      | .ct δ S => whileN c b n δ S
      | .bk δ S => .nx δ S
      | r => r
    else .nx δ S
open Classical in
noncomputable def sWhile (c : FT) (b : FS) : FS := fun δ S => if h : ∃ n, whileN c b n δ S ≠ .no then whileN c b h.choose δ S else .no
def wipeD (δ : Env) : List Nat → Env
  | [] => δ
  | v :: vs => (wipeD δ vs).set v none
/-- no error leaves a comprehension -/
def calmR {α : Type} : R α → R α
  | .ex _ _ _ => .no
  | r => r
open Classical in
/-- the turns of a comprehension -/
noncomputable def compF (lv : List (Nat × List D)) (vs : List Nat) (tg : TgS) (t : FT) (e : FE) (δ : Env) : List D → Sto → R (List D)
  | [], S => if liveOk lv S then .ok [] S else .no
  | x :: xs, S => if liveOk lv S then match tg.asg x (wipeD δ vs) with
      | some δ1 => (t δ1 S).bind fun k S => if k = true then (e δ1 S).bind fun y S => (compF lv vs tg t e δ xs S).bind fun ys S => .ok (y :: ys) S else compF lv vs tg t e δ xs S
      | none => .no
    else .no
noncomputable def eComp (it : FI) (vs : List Nat) (tg : TgS) (t : FT) (e : FE) : FE := fun δ S => (it δ S).bind fun u S => if u.ds.length ≤ line then (calmR (compF u.live vs tg t e δ u.ds S)).bind fun ys S => alloc (.lst ys) S else .no
end KF
namespace KF
open PySem
def augAdd (x y : D) (S : Sto) : R D := match x, y with
  | .int i, .int j => .ok (.int (i + j)) S
  | _, _ => .no
/-- one function, the other where it tells nothing -/
noncomputable def eAlt (a b : FE) : FE := fun δ S => match a δ S with
  | .no => b δ S
  | r => r
/-- in order -/
def sortI (l : List Int) : List Int := l.mergeSort fun a b => decide (a ≤ b)
def leP (a b : Int × Int) : Bool := decide (a.1 < b.1) || (decide (a.1 = b.1) && decide (a.2 ≤ b.2))
def sortP (l : List (Int × Int)) : List (Int × Int) := l.mergeSort leP
def pairOf : D → Option (Int × Int)
  | .tup [.int i, .int j] => some (i, j)
  | _ => none
def pairsOf : List D → Option (List (Int × Int))
  | [] => some []
  | d :: l => match pairOf d, pairsOf l with
    | some p, some ps => some (p :: ps)
    | _, _ => none
def pD (p : Int × Int) : D := .tup [.int p.1, .int p.2]
def bSorted (ds : List D) (S : Sto) : R D := match ds with
  | [.ref a] => match S[a]? with
    | some (.lst l) => if l.length ≤ line then match intsOf l, pairsOf l with
        | some is, _ => alloc (.lst ((sortI is).map D.int)) S
        | none, some ps => alloc (.lst ((sortP ps).map pD)) S
        | none, none => .no
      else .no
    | some (.dic false kvs) => if kvs.length ≤ line then match intsOf (kvs.map fun kv => kv.1.toD) with
        | some is => alloc (.lst ((sortI is).map D.int)) S
        | none => .no
      else .no
    | some (.dic true kvs) => if kvs.length ≤ line then match pairsOf (kvs.map fun kv => kv.1.toD) with
        | some ps => alloc (.lst ((sortP ps).map pD)) S
        | none => .no
      else .no
    | _ => .no
  | _ => .no
/-- a display {k: v, ..} of ints and texts -/
abbrev FK := Env → Sto → R (List (D × D))
def kNil : FK := fun _ S => .ok [] S
def kCons (k v : FE) (r : FK) : FK := fun δ S => (k δ S).bind fun x S => (v δ S).bind fun y S => (r δ S).bind fun ps S => .ok ((x, y) :: ps) S
def keysOf : List (D × D) → Option (List (DK × D))
  | [] => some []
  | (k, v) :: r => match keyIn false k, keysOf r with
    | some k, some l => some ((k, v) :: l)
    | _, _ => none
end KF
set_option Elab.async false
set_option maxRecDepth 100000
set_option maxHeartbeats 4000000
namespace KF
open PySem PySem.Spec PyProof.Rows L2 KQ
abbrev noH : Hp := fun _ => none
/-- the script: a list that nobody writes -/
def SqF (K : PySem.W.Frag) (H : Hp) (a : Addr) (xs : List V) : Prop :=
  (∃ o, H a = some (.frz o (.lst xs))) ∨
    ∃ (o : Obj) (its : Array Value) (n : Nat), K.lookup a = some o ∧ o.cls = .type "list" ∧ o.dict = none ∧ o.data = .seq its n ∧ its.size ≤ sizeLine ∧ Vals xs its.toList
theorem SqF.l {K : PySem.W.Frag} {H : Hp} {a : Addr} {xs : List V} (h : SqF K H a xs) : SqL K H a xs := h.elim (fun h => .inl (.inr h)) .inr
mutual
inductive VR (K : PySem.W.Frag) (mg : Str → Option Value) (ρ : List Addr) (H : Hp) : D → V → Prop
  | non : VR K mg ρ H .non .non
  | bl (b : Bool) : VR K mg ρ H (.bl b) (.bl b)
  | int (i : Int) : VR K mg ρ H (.int i) (.int i)
  | str (x : Str) : VR K mg ρ H (.str x) (.str x)
  | byt (b : Array UInt8) : VR K mg ρ H (.byt b) (.byt b)
  | ty (n : String) : VR K mg ρ H (.ty n) (.ty n)
  | cls {n : Str} {a : Addr} : mg n = some (.ref a) → VR K mg ρ H (.cls n) (.ref a)
  | ref {i : Nat} {a : Addr} : ρ[i]? = some a → VR K mg ρ H (.ref i) (.ref a)
  | tup {a : Addr} {vs : List V} {ds : List D} : SqT K H a vs → (a ∈ ρ → SqT K noH a vs) → (keyish ds = true → H a = some (.tup vs) ∧ a ∉ ρ) → VRs K mg ρ H ds vs → VR K mg ρ H (.tup ds) (.ref a)
  | scr {a : Addr} {vs : List V} {ds : List D} : SqF K H a vs → (a ∈ ρ → SqF K noH a vs) → VRs K mg ρ H ds vs → VR K mg ρ H (.scr ds) (.ref a)
inductive VRs (K : PySem.W.Frag) (mg : Str → Option Value) (ρ : List Addr) (H : Hp) : List D → List V → Prop
  | nil : VRs K mg ρ H [] []
  | cons {d : D} {v : V} {ds : List D} {vs : List V} : VR K mg ρ H d v → VRs K mg ρ H ds vs → VRs K mg ρ H (d :: ds) (v :: vs)
end
/-- what comes behind: more places, all else as it was -/
structure Le (ρ : List Addr) (H : Hp) (ρ' : List Addr) (H' : Hp) : Prop where
  ext : ∃ new, ρ' = ρ ++ new ∧ ∀ a ∈ new, H a = none
  kept : ∀ a o, a ∉ ρ → H a = some o → H' a = some o
  live : ∀ a, H' a = none → H a = none
theorem Le.refl {ρ : List Addr} {H : Hp} : Le ρ H ρ H := ⟨⟨[], by simp, fun _ h => by simp at h⟩, fun _ _ _ e => e, fun _ e => e⟩
theorem Le.trans {ρ ρ1 ρ2 : List Addr} {H H1 H2 : Hp} (a : Le ρ H ρ1 H1) (b : Le ρ1 H1 ρ2 H2) : Le ρ H ρ2 H2 := by
  obtain ⟨n1, rfl, h1⟩ := a.ext
  obtain ⟨n2, rfl, h2⟩ := b.ext
  refine ⟨⟨n1 ++ n2, by simp, fun x hx => ?_⟩, fun x o hx e => ?_, fun x e => a.live x (b.live x e)⟩
  · rcases List.mem_append.mp hx with h | h
    · exact h1 x h
    · exact a.live x (h2 x h)
  · refine b.kept x o (fun hm => ?_) (a.kept x o hx e)
    rcases List.mem_append.mp hm with h | h
    · exact hx h
    · rw [h1 x h] at e; cases e
theorem Le.new {ρ : List Addr} {H : Hp} {p : Addr} {o : HO} (h : H p = none) : Le ρ H ρ (upd H p o) :=
  ⟨⟨[], by simp, fun _ h => by simp at h⟩, fun a u _ e => by rw [upd_ne (ne_of_none e h)]; exact e, fun a e => by
    by_cases q : a = p
    · rw [q]; exact h
    · rw [upd_ne q] at e; exact e⟩
theorem Le.more {ρ : List Addr} {H : Hp} {p : Addr} {o : HO} (h : H p = none) : Le ρ H (ρ ++ [p]) (upd H p o) :=
  ⟨⟨[p], rfl, fun a q => by rw [List.mem_singleton.mp q]; exact h⟩, (Le.new (ρ := ρ) h).kept, (Le.new (ρ := ρ) (o := o) h).live⟩
theorem Le.put {ρ : List Addr} {H : Hp} {p : Addr} {o : HO} (h : p ∈ ρ) : Le ρ H ρ (upd H p o) :=
  ⟨⟨[], by simp, fun _ h => by simp at h⟩, fun a u n e => by rw [upd_ne (fun z => n (by rw [z]; exact h))]; exact e, fun a e => by
    by_cases q : a = p
    · rw [q, upd_same] at e; cases e
    · rw [upd_ne q] at e; exact e⟩
theorem Le.same {ρ : List Addr} {H H' : Hp} (s : Same H H') (l : ∀ a, H' a = none → H a = none) : Le ρ H ρ H' := ⟨⟨[], by simp, fun _ h => by simp at h⟩, fun a o _ e => s a o e, l⟩
section
variable {K : PySem.W.Frag} {mg : Str → Option Value} {ρ ρ' : List Addr} {H H' : Hp}
theorem rd_le {a : Addr} {o : HO} (L : Le ρ H ρ' H') (n : a ∉ ρ) (r : Rd H a o) : Rd H' a o := r.elim (fun e => .inl (L.kept a _ n e)) fun ⟨u, e⟩ => .inr ⟨u, L.kept a _ n e⟩
theorem rd_none {a : Addr} {o : HO} : ¬ Rd noH a o := fun r => r.elim (fun e => by cases e) fun ⟨_, e⟩ => by cases e
theorem rd_there {a : Addr} {o : HO} (r : Rd H a o) : H a ≠ none := r.elim (fun e => by rw [e]; simp) fun ⟨_, e⟩ => by rw [e]; simp
theorem sqt_no {a : Addr} {vs : List V} (h : SqT K noH a vs) : SqT K H a vs := h.elim (fun r => absurd r rd_none) .inr
theorem sqf_no {a : Addr} {vs : List V} (h : SqF K noH a vs) : SqF K H a vs := h.elim (fun ⟨_, e⟩ => by cases e) .inr
theorem tup_le {a : Addr} {vs : List V} (L : Le ρ H ρ' H') (h : SqT K H a vs) (n : a ∈ ρ → SqT K noH a vs) : SqT K H' a vs ∧ (a ∈ ρ' → SqT K noH a vs) := by
  rcases h with r | r
  · by_cases q : a ∈ ρ
    · exact ⟨sqt_no (n q), fun _ => n q⟩
    · refine ⟨.inl (rd_le L q r), fun m => ?_⟩
      obtain ⟨new, rfl, hn⟩ := L.ext
      rcases List.mem_append.mp m with m | m
      · exact absurd m q
      · exact absurd (hn a m) (rd_there r)
  · exact ⟨.inr r, fun _ => .inr r⟩
theorem key_le {a : Addr} {u : HO} (L : Le ρ H ρ' H') (h : H a = some u ∧ a ∉ ρ) : H' a = some u ∧ a ∉ ρ' := by
  refine ⟨L.kept a u h.2 h.1, fun m => ?_⟩
  obtain ⟨new, rfl, hn⟩ := L.ext
  rcases List.mem_append.mp m with m | m
  · exact h.2 m
  · rw [hn a m] at h; cases h.1
theorem scr_le {a : Addr} {vs : List V} (L : Le ρ H ρ' H') (h : SqF K H a vs) (n : a ∈ ρ → SqF K noH a vs) : SqF K H' a vs ∧ (a ∈ ρ' → SqF K noH a vs) := by
  rcases h with ⟨o, r⟩ | r
  · by_cases q : a ∈ ρ
    · exact ⟨sqf_no (n q), fun _ => n q⟩
    · refine ⟨.inl ⟨o, L.kept a _ q r⟩, fun m => ?_⟩
      obtain ⟨new, rfl, hn⟩ := L.ext
      rcases List.mem_append.mp m with m | m
      · exact absurd m q
      · rw [hn a m] at r; cases r
  · exact ⟨.inr r, fun _ => .inr r⟩
theorem Le.get {i : Nat} {a : Addr} (L : Le ρ H ρ' H') (e : ρ[i]? = some a) : ρ'[i]? = some a := by
  obtain ⟨new, rfl, _⟩ := L.ext
  rw [List.getElem?_append_left (by obtain ⟨h, _⟩ := List.getElem?_eq_some_iff.mp e; exact h)]
  exact e
mutual
theorem VR.le (L : Le ρ H ρ' H') : ∀ {d : D} {v : V}, VR K mg ρ H d v → VR K mg ρ' H' d v
  | _, _, .non => .non
  | _, _, .bl b => .bl b
  | _, _, .int i => .int i
  | _, _, .str x => .str x
  | _, _, .byt x => .byt x
  | _, _, .ty x => .ty x
  | _, _, .cls e => .cls e
  | _, _, .ref e => .ref (L.get e)
  | _, _, .tup h n k r => .tup (tup_le L h n).1 (tup_le L h n).2 (fun q => key_le L (k q)) (r.le L)
  | _, _, .scr h n r => .scr (scr_le L h n).1 (scr_le L h n).2 (r.le L)
theorem VRs.le (L : Le ρ H ρ' H') : ∀ {d : List D} {v : List V}, VRs K mg ρ H d v → VRs K mg ρ' H' d v
  | _, _, .nil => .nil
  | _, _, .cons r t => .cons (r.le L) (t.le L)
end
/-- a list that is none of the store's grows -/
theorem rd_upl {p a : Addr} {xs ys : List V} {o : HO} (h : H p = some (.lst xs)) (e : H a = some o) (n : ∀ zs, o ≠ .lst zs) : upd H p (.lst ys) a = some o := by
  rw [upd_ne (fun z => by rw [z, h] at e; cases e; exact n xs rfl)]; exact e
mutual
theorem VR.upl {p : Addr} {xs ys : List V} (h : H p = some (.lst xs)) : ∀ {d : D} {v : V}, VR K mg ρ H d v → VR K mg ρ (upd H p (.lst ys)) d v
  | _, _, .non => .non
  | _, _, .bl b => .bl b
  | _, _, .int i => .int i
  | _, _, .str x => .str x
  | _, _, .byt x => .byt x
  | _, _, .ty x => .ty x
  | _, _, .cls e => .cls e
  | _, _, .ref e => .ref e
  | _, _, .tup q n k r => .tup (q.elim (fun z => .inl (z.elim (fun e => .inl (rd_upl h e fun _ z => by cases z)) fun ⟨o, e⟩ => .inr ⟨o, rd_upl h e fun _ z => by cases z⟩)) .inr) n (fun z => ⟨rd_upl h (k z).1 (fun _ z => by cases z), (k z).2⟩) (VRs.upl h r)
  | _, _, .scr q n r => .scr (q.elim (fun ⟨o, e⟩ => .inl ⟨o, rd_upl h e fun _ z => by cases z⟩) .inr) n (VRs.upl h r)
theorem VRs.upl {p : Addr} {xs ys : List V} (h : H p = some (.lst xs)) : ∀ {d : List D} {v : List V}, VRs K mg ρ H d v → VRs K mg ρ (upd H p (.lst ys)) d v
  | _, _, .nil => .nil
  | _, _, .cons r t => .cons (VR.upl h r) (VRs.upl h t)
end
theorem sqt_at {p : Addr} {xs vs : List V} (h : H p = some (.lst xs)) (q : SqT K H p vs) : SqT K noH p vs := q.elim (fun r => r.elim (fun e => by rw [h] at e; cases e) fun ⟨_, e⟩ => by rw [h] at e; cases e) .inr
theorem sqf_at {p : Addr} {xs vs : List V} (h : H p = some (.lst xs)) (q : SqF K H p vs) : SqF K noH p vs := q.elim (fun ⟨_, e⟩ => by rw [h] at e; cases e) .inr
mutual
theorem VR.join {p : Addr} {xs : List V} (h : H p = some (.lst xs)) : ∀ {d : D} {v : V}, VR K mg ρ H d v → VR K mg (ρ ++ [p]) H d v
  | _, _, .non => .non
  | _, _, .bl b => .bl b
  | _, _, .int i => .int i
  | _, _, .str x => .str x
  | _, _, .byt x => .byt x
  | _, _, .ty x => .ty x
  | _, _, .cls e => .cls e
  | _, _, .ref e => .ref (by rw [List.getElem?_append_left (by obtain ⟨h, _⟩ := List.getElem?_eq_some_iff.mp e; exact h)]; exact e)
  | _, _, .tup q n k r => .tup q (fun m => (List.mem_append.mp m).elim n fun z => by rw [List.mem_singleton.mp z] at q ⊢; exact sqt_at h q) (fun z => ⟨(k z).1, fun m => (List.mem_append.mp m).elim (k z).2 fun w => by
      have e := (k z).1
      rw [List.mem_singleton.mp w, h] at e
      cases e⟩) (VRs.join h r)
  | _, _, .scr q n r => .scr q (fun m => (List.mem_append.mp m).elim n fun z => by rw [List.mem_singleton.mp z] at q ⊢; exact sqf_at h q) (VRs.join h r)
theorem VRs.join {p : Addr} {xs : List V} (h : H p = some (.lst xs)) : ∀ {d : List D} {v : List V}, VRs K mg ρ H d v → VRs K mg (ρ ++ [p]) H d v
  | _, _, .nil => .nil
  | _, _, .cons r t => .cons (VR.join h r) (VRs.join h t)
end
theorem VRs.length : ∀ {ds : List D} {vs : List V}, VRs K mg ρ H ds vs → ds.length = vs.length
  | _, _, .nil => rfl
  | _, _, .cons _ t => congrArg (· + 1) t.length
theorem VRs.get : ∀ {ds : List D} {vs : List V} {i : Nat} {d : D}, VRs K mg ρ H ds vs → ds[i]? = some d → ∃ v, vs[i]? = some v ∧ VR K mg ρ H d v
  | _, _, _, _, .nil, e => by simp at e
  | _, _, 0, _, .cons r _, e => by simp at e; subst e; exact ⟨_, rfl, r⟩
  | _, _, i + 1, _, .cons _ t, e => by simpa using t.get (i := i) (by simpa using e)
theorem VRs.getV : ∀ {ds : List D} {vs : List V} {i : Nat} {v : V}, VRs K mg ρ H ds vs → vs[i]? = some v → ∃ d, ds[i]? = some d ∧ VR K mg ρ H d v
  | _, _, _, _, .nil, e => by simp at e
  | _, _, 0, _, .cons r _, e => by simp at e; subst e; exact ⟨_, rfl, r⟩
  | _, _, i + 1, _, .cons _ t, e => by simpa using t.getV (i := i) (by simpa using e)
theorem VRs.app : ∀ {ds es : List D} {vs ws : List V}, VRs K mg ρ H ds vs → VRs K mg ρ H es ws → VRs K mg ρ H (ds ++ es) (vs ++ ws)
  | _, _, _, _, .nil, s => s
  | _, _, _, _, .cons r t, s => .cons r (t.app s)
theorem VRs.take : ∀ {ds : List D} {vs : List V} (n : Nat), VRs K mg ρ H ds vs → VRs K mg ρ H (ds.take n) (vs.take n)
  | _, _, 0, _ => .nil
  | _, _, _ + 1, .nil => .nil
  | _, _, n + 1, .cons r t => .cons r (VRs.take n t)
theorem VRs.drop : ∀ {ds : List D} {vs : List V} (n : Nat), VRs K mg ρ H ds vs → VRs K mg ρ H (ds.drop n) (vs.drop n)
  | _, _, 0, r => r
  | _, _, _ + 1, .nil => .nil
  | _, _, n + 1, .cons _ t => VRs.drop n t
theorem VRs.set : ∀ {ds : List D} {vs : List V} {d : D} {v : V} (i : Nat), VR K mg ρ H d v → VRs K mg ρ H ds vs → VRs K mg ρ H (ds.set i d) (vs.set i v)
  | _, _, _, _, _, _, .nil => .nil
  | _, _, _, _, 0, x, .cons _ t => .cons x t
  | _, _, _, _, n + 1, x, .cons r t => .cons r (VRs.set n x t)
theorem VRs.erase : ∀ {ds : List D} {vs : List V} (i : Nat), VRs K mg ρ H ds vs → VRs K mg ρ H (ds.eraseIdx i) (vs.eraseIdx i)
  | _, _, _, .nil => .nil
  | _, _, 0, .cons _ t => t
  | _, _, n + 1, .cons r t => .cons r (VRs.erase n t)
theorem VRs.ints : ∀ {is : List Int}, VRs K mg ρ H (is.map D.int) (is.map V.int)
  | [] => .nil
  | i :: _ => .cons (.int i) VRs.ints
end
/-- fields -/
inductive FR (K : PySem.W.Frag) (mg : Str → Option Value) (ρ : List Addr) (H : Hp) : List (Str × D) → List (Str × V) → Prop
  | nil : FR K mg ρ H [] []
  | cons {x : Str} {d : D} {v : V} {fs : List (Str × D)} {gs : List (Str × V)} : VR K mg ρ H d v → FR K mg ρ H fs gs → FR K mg ρ H ((x, d) :: fs) ((x, v) :: gs)
inductive KR (K : PySem.W.Frag) (mg : Str → Option Value) (ρ : List Addr) (H : Hp) : List (DK × D) → List (Key × V) → Prop
  | nil : KR K mg ρ H [] []
  | cons {k : Key} {d : D} {v : V} {fs : List (DK × D)} {gs : List (Key × V)} : VR K mg ρ H d v → KR K mg ρ H fs gs → KR K mg ρ H ((.inl k, d) :: fs) ((k, v) :: gs)
inductive TR (K : PySem.W.Frag) (mg : Str → Option Value) (ρ : List Addr) (H : Hp) : List (DK × D) → List (List Key × V) → Prop
  | nil : TR K mg ρ H [] []
  | cons {k : List Key} {d : D} {v : V} {fs : List (DK × D)} {gs : List (List Key × V)} : VR K mg ρ H d v → TR K mg ρ H fs gs → TR K mg ρ H ((.inr k, d) :: fs) ((k, v) :: gs)
inductive OR (K : PySem.W.Frag) (mg : Str → Option Value) (ρ : List Addr) (H : Hp) : GO → Addr → Prop
  | lst {a : Addr} {ds : List D} {vs : List V} : H a = some (.lst vs) → VRs K mg ρ H ds vs → OR K mg ρ H (.lst ds) a
  | dK {a : Addr} {es : List (DK × D)} {kvs : List (Key × V)} : H a = some (.dK kvs) → KR K mg ρ H es kvs → OR K mg ρ H (.dic false es) a
  | dT {a : Addr} {es : List (DK × D)} {kvs : List (List Key × V)} : H a = some (.dT kvs) → TR K mg ρ H es kvs → OR K mg ρ H (.dic true es) a
  | ins {a : Addr} {C : Str} {Ca dx : Addr} {fs : List (Str × D)} {gs : List (Str × V)} : mg C = some (.ref Ca) → H a = some (.ins Ca dx gs) → FR K mg ρ H fs gs → OR K mg ρ H (.ins C fs) a
structure Sim (K : PySem.W.Frag) (mg : Str → Option Value) (ρ : List Addr) (S : Sto) (H : Hp) : Prop where
  len : ρ.length = S.length
  nd : ρ.Nodup
  ob : ∀ (i : Nat) o a, S[i]? = some o → ρ[i]? = some a → OR K mg ρ H o a
section
variable {K : PySem.W.Frag} {mg : Str → Option Value} {ρ ρ' : List Addr} {H H' : Hp} {S S' : Sto}
theorem FR.le (L : Le ρ H ρ' H') : ∀ {fs : List (Str × D)} {gs : List (Str × V)}, FR K mg ρ H fs gs → FR K mg ρ' H' fs gs
  | _, _, .nil => .nil
  | _, _, .cons r t => .cons (r.le L) (t.le L)
theorem KR.le (L : Le ρ H ρ' H') : ∀ {fs : List (DK × D)} {gs : List (Key × V)}, KR K mg ρ H fs gs → KR K mg ρ' H' fs gs
  | _, _, .nil => .nil
  | _, _, .cons r t => .cons (r.le L) (t.le L)
theorem TR.le (L : Le ρ H ρ' H') : ∀ {fs : List (DK × D)} {gs : List (List Key × V)}, TR K mg ρ H fs gs → TR K mg ρ' H' fs gs
  | _, _, .nil => .nil
  | _, _, .cons r t => .cons (r.le L) (t.le L)
/-- the object itself untouched -/
theorem OR.le (L : Le ρ H ρ' H') {o : GO} {a : Addr} (x : OR K mg ρ H o a) (e : H' a = H a) : OR K mg ρ' H' o a := by
  cases x with
  | lst h r => exact .lst (e.trans h) (r.le L)
  | dK h r => exact .dK (e.trans h) (r.le L)
  | dT h r => exact .dT (e.trans h) (r.le L)
  | ins g h r => exact .ins g (e.trans h) (r.le L)
theorem OR.there {o : GO} {a : Addr} (x : OR K mg ρ H o a) : H a ≠ none := by
  cases x with
  | lst h r => rw [h]; simp
  | dK h r => rw [h]; simp
  | dT h r => rw [h]; simp
  | ins g h r => rw [h]; simp
theorem Sim.at_ (s : Sim K mg ρ S H) {i : Nat} {a : Addr} (e : ρ[i]? = some a) : ∃ o, S[i]? = some o ∧ OR K mg ρ H o a := by
  obtain ⟨h, _⟩ := List.getElem?_eq_some_iff.mp e
  have h' : i < S.length := by rw [← s.len]; exact h
  exact ⟨S[i], List.getElem?_eq_getElem h', s.ob i _ a (List.getElem?_eq_getElem h') e⟩
theorem Sim.of (s : Sim K mg ρ S H) {i : Nat} {o : GO} (e : S[i]? = some o) : ∃ a, ρ[i]? = some a ∧ OR K mg ρ H o a := by
  obtain ⟨h, _⟩ := List.getElem?_eq_some_iff.mp e
  have h' : i < ρ.length := by rw [s.len]; exact h
  exact ⟨ρ[i], List.getElem?_eq_getElem h', s.ob i _ _ e (List.getElem?_eq_getElem h')⟩
theorem Sim.there (s : Sim K mg ρ S H) {a : Addr} (m : a ∈ ρ) : H a ≠ none := by
  obtain ⟨i, h⟩ := List.mem_iff_getElem?.mp m
  obtain ⟨o, _, r⟩ := s.at_ h
  exact r.there
theorem Sim.notin (s : Sim K mg ρ S H) {a : Addr} (e : H a = none) : a ∉ ρ := fun m => s.there m e
theorem Sim.inj (s : Sim K mg ρ S H) {i j : Nat} {a : Addr} (e : ρ[i]? = some a) (e' : ρ[j]? = some a) : i = j := by
  obtain ⟨h1, q1⟩ := List.getElem?_eq_some_iff.mp e
  obtain ⟨h2, q2⟩ := List.getElem?_eq_some_iff.mp e'
  exact (List.getElem_inj s.nd).mp (q1.trans q2.symm)
/-- all that is told is kept -/
theorem Sim.keep (s : Sim K mg ρ S H) (L : Le ρ H ρ H') (k : ∀ a ∈ ρ, H' a = H a) : Sim K mg ρ S H' := ⟨s.len, s.nd, fun i o a e1 e2 => (s.ob i o a e1 e2).le L (k a (List.mem_of_getElem? e2))⟩
/-- something new that is not told -/
theorem Sim.new (s : Sim K mg ρ S H) {p : Addr} {o : HO} (h : H p = none) : Sim K mg ρ S (upd H p o) := s.keep (Le.new h) fun a m => upd_ne fun z => s.there m (z ▸ h)
/-- a new object of the store -/
theorem Sim.more (s : Sim K mg ρ S H) {p : Addr} {o : GO} {u : HO} (h : H p = none) (x : OR K mg (ρ ++ [p]) (upd H p u) o p) : Sim K mg (ρ ++ [p]) (S ++ [o]) (upd H p u) := by
  refine ⟨by simp [s.len], List.nodup_append.mpr ⟨s.nd, by simp, fun a ha b hb z => ?_⟩, fun i o' a e1 e2 => ?_⟩
  · rw [List.mem_singleton.mp hb] at z
    exact s.notin h (z ▸ ha)
  · by_cases hi : i < S.length
    · rw [List.getElem?_append_left hi] at e1
      rw [List.getElem?_append_left (by rw [s.len]; exact hi)] at e2
      exact (s.ob i o' a e1 e2).le (Le.more h) (upd_ne fun z => s.there (List.mem_of_getElem? e2) (z ▸ h))
    · have e : i = S.length := by
        have := (List.getElem?_eq_some_iff.mp e1).1
        rw [List.length_append] at this
        simp at this
        omega
      subst e
      rw [List.getElem?_append_right (Nat.le_refl _), Nat.sub_self] at e1
      rw [← s.len, List.getElem?_append_right (Nat.le_refl _), Nat.sub_self] at e2
      simp at e1 e2
      subst e1; subst e2
      exact x
/-- an object of the store changed -/
theorem Sim.put (s : Sim K mg ρ S H) {p : Addr} {i : Nat} {o : GO} {u : HO} (h : ρ[i]? = some p) (x : OR K mg ρ (upd H p u) o p) : Sim K mg ρ (S.set i o) (upd H p u) := by
  refine ⟨by simp [s.len], s.nd, fun j o' a e1 e2 => ?_⟩
  by_cases hj : j = i
  · subst hj
    rw [h] at e2
    cases e2
    have hl : j < S.length := by rw [← s.len]; exact (List.getElem?_eq_some_iff.mp h).1
    rw [List.getElem?_set_self hl] at e1
    cases e1
    exact x
  · rw [List.getElem?_set_ne (Ne.symm hj)] at e1
    exact (s.ob j o' a e1 e2).le (Le.put (List.mem_of_getElem? h)) (upd_ne fun z => hj (s.inj (z ▸ e2) h))
theorem Sim.lst (s : Sim K mg ρ S H) {i : Nat} {ds : List D} {v : V} (r : VR K mg ρ H (.ref i) v) (e : S[i]? = some (.lst ds)) : ∃ a vs, v = .ref a ∧ ρ[i]? = some a ∧ H a = some (.lst vs) ∧ VRs K mg ρ H ds vs := by
  cases r with
  | ref h =>
    cases s.ob _ _ _ e h with
    | lst q r => exact ⟨_, _, rfl, h, q, r⟩
theorem Sim.insA (s : Sim K mg ρ S H) {i : Nat} {C : Str} {fs : List (Str × D)} {v : V} (r : VR K mg ρ H (.ref i) v) (e : S[i]? = some (.ins C fs)) : ∃ a Ca dx gs, v = .ref a ∧ ρ[i]? = some a ∧ mg C = some (.ref Ca) ∧ H a = some (.ins Ca dx gs) ∧ FR K mg ρ H fs gs := by
  cases r with
  | ref h =>
    cases s.ob _ _ _ e h with
    | ins g q r => exact ⟨_, _, _, _, rfl, h, g, q, r⟩
end
section
variable {K : PySem.W.Frag} {mg : Str → Option Value} {ρ : List Addr} {H : Hp} {S : Sto} {p : Addr} {xs ys : List V}
theorem FR.upl (h : H p = some (.lst xs)) : ∀ {fs : List (Str × D)} {gs : List (Str × V)}, FR K mg ρ H fs gs → FR K mg ρ (upd H p (.lst ys)) fs gs
  | _, _, .nil => .nil
  | _, _, .cons r t => .cons (r.upl h) (FR.upl h t)
theorem KR.upl (h : H p = some (.lst xs)) : ∀ {fs : List (DK × D)} {gs : List (Key × V)}, KR K mg ρ H fs gs → KR K mg ρ (upd H p (.lst ys)) fs gs
  | _, _, .nil => .nil
  | _, _, .cons r t => .cons (r.upl h) (KR.upl h t)
theorem TR.upl (h : H p = some (.lst xs)) : ∀ {fs : List (DK × D)} {gs : List (List Key × V)}, TR K mg ρ H fs gs → TR K mg ρ (upd H p (.lst ys)) fs gs
  | _, _, .nil => .nil
  | _, _, .cons r t => .cons (r.upl h) (TR.upl h t)
theorem Sim.upl (s : Sim K mg ρ S H) (h : H p = some (.lst xs)) (n : p ∉ ρ) : Sim K mg ρ S (upd H p (.lst ys)) := by
  refine ⟨s.len, s.nd, fun i o a e1 e2 => ?_⟩
  have ne : upd H p (.lst ys) a = H a := upd_ne fun z => n (z ▸ List.mem_of_getElem? e2)
  cases s.ob i o a e1 e2 with
  | lst q r => exact .lst (ne.trans q) (r.upl h)
  | dK q r => exact .dK (ne.trans q) (r.upl h)
  | dT q r => exact .dT (ne.trans q) (r.upl h)
  | ins g q r => exact .ins g (ne.trans q) (r.upl h)
theorem FR.join (h : H p = some (.lst xs)) : ∀ {fs : List (Str × D)} {gs : List (Str × V)}, FR K mg ρ H fs gs → FR K mg (ρ ++ [p]) H fs gs
  | _, _, .nil => .nil
  | _, _, .cons r t => .cons (r.join h) (FR.join h t)
theorem KR.join (h : H p = some (.lst xs)) : ∀ {fs : List (DK × D)} {gs : List (Key × V)}, KR K mg ρ H fs gs → KR K mg (ρ ++ [p]) H fs gs
  | _, _, .nil => .nil
  | _, _, .cons r t => .cons (r.join h) (KR.join h t)
theorem TR.join (h : H p = some (.lst xs)) : ∀ {fs : List (DK × D)} {gs : List (List Key × V)}, TR K mg ρ H fs gs → TR K mg (ρ ++ [p]) H fs gs
  | _, _, .nil => .nil
  | _, _, .cons r t => .cons (r.join h) (TR.join h t)
/-- a list of ours joins the store -/
theorem Sim.join (s : Sim K mg ρ S H) {ds : List D} (h : H p = some (.lst xs)) (n : p ∉ ρ) (r : VRs K mg ρ H ds xs) : Sim K mg (ρ ++ [p]) (S ++ [.lst ds]) H := by
  refine ⟨by simp [s.len], List.nodup_append.mpr ⟨s.nd, by simp, fun a ha b hb z => n (by rw [List.mem_singleton.mp hb] at z; exact z ▸ ha)⟩, fun i o a e1 e2 => ?_⟩
  by_cases hi : i < S.length
  · rw [List.getElem?_append_left hi] at e1
    rw [List.getElem?_append_left (by rw [s.len]; exact hi)] at e2
    cases s.ob i o a e1 e2 with
    | lst q r => exact .lst q (r.join h)
    | dK q r => exact .dK q (r.join h)
    | dT q r => exact .dT q (r.join h)
    | ins g q r => exact .ins g q (r.join h)
  · have e : i = S.length := by
      have := (List.getElem?_eq_some_iff.mp e1).1
      rw [List.length_append] at this
      simp at this
      omega
    subst e
    rw [List.getElem?_append_right (Nat.le_refl _), Nat.sub_self] at e1
    rw [← s.len, List.getElem?_append_right (Nat.le_refl _), Nat.sub_self] at e2
    simp at e1 e2
    subst e1; subst e2
    exact .lst h (r.join h)
end
/-- the own dict of an error with fields -/
def XR (K : PySem.W.Frag) (mg : Str → Option Value) (ρ : List Addr) (H : Hp) (fs : List (Str × D)) (od : Option Addr) : Prop :=
  (fs = [] ∧ od = none) ∨ ∃ d gs, fs ≠ [] ∧ od = some d ∧ d ∉ ρ ∧ H d = some (.xd gs) ∧ FR K mg ρ H fs gs
/-- slots -/
structure ER (K : PySem.W.Frag) (mg : Str → Option Value) (ρ : List Addr) (H : Hp) (δ : Env) (σ : L2.St) : Prop where
  len : δ.length = σ.length
  at_ : ∀ (i : Nat) d, δ[i]? = some (some d) → ∃ v, σ[i]? = some (some v) ∧ VR K mg ρ H d v
section
variable {K : PySem.W.Frag} {mg : Str → Option Value} {ρ ρ' : List Addr} {H H' : Hp} {S S' : Sto} {δ : Env} {σ : L2.St}
theorem ER.le (r : ER K mg ρ H δ σ) (L : Le ρ H ρ' H') : ER K mg ρ' H' δ σ := ⟨r.len, fun i d e => let ⟨v, h, q⟩ := r.at_ i d e; ⟨v, h, q.le L⟩⟩
theorem ER.set (r : ER K mg ρ H δ σ) (i : Nat) {d : D} {v : V} (x : VR K mg ρ H d v) : ER K mg ρ H (δ.set i (some d)) (σ.set i (some v)) := by
  refine ⟨by simp [r.len], fun j e h => ?_⟩
  by_cases hj : j = i
  · subst hj
    have hl : j < δ.length := by simpa using (List.getElem?_eq_some_iff.mp h).1
    rw [List.getElem?_set_self hl] at h
    cases h
    exact ⟨v, List.getElem?_set_self (by rw [← r.len]; exact hl), x⟩
  · rw [List.getElem?_set_ne (Ne.symm hj)] at h
    obtain ⟨v', q1, q2⟩ := r.at_ j e h
    exact ⟨v', by rw [List.getElem?_set_ne (Ne.symm hj)]; exact q1, q2⟩
end
/-- what is due of an end -/
def G {α β : Type} (K : PySem.W.Frag) (mg : Str → Option Value) (rel : List Addr → Hp → α → β → Prop) (r : R α) (ρ : List Addr) (H : Hp) (Q : β → Hp → Prop) (E : XK) : Prop :=
  match r with
  | .ok a S => ∀ ρ' H' b, Le ρ H ρ' H' → Sim K mg ρ' S H' → rel ρ' H' a b → Q b H'
  | .ex n fs S => ∀ ρ' H' c od, Le ρ H ρ' H' → Sim K mg ρ' S H' → mg n = some (.ref c) → XR K mg ρ' H' fs od → E (.ref c) od H'
  | .no => False
def GS (K : PySem.W.Frag) (mg : Str → Option Value) (r : RS) (ρ : List Addr) (H : Hp) (D : Ends) (W : WX) : Prop :=
  match r with
  | .nx δ S => ∀ ρ' H' σ, Le ρ H ρ' H' → Sim K mg ρ' S H' → ER K mg ρ' H' δ σ → D.nx σ H'
  | .bk δ S => ∀ ρ' H' σ, Le ρ H ρ' H' → Sim K mg ρ' S H' → ER K mg ρ' H' δ σ → D.bk σ H'
  | .ct δ S => ∀ ρ' H' σ, Le ρ H ρ' H' → Sim K mg ρ' S H' → ER K mg ρ' H' δ σ → D.ct σ H'
  | .rt d S => ∀ ρ' H' v, Le ρ H ρ' H' → Sim K mg ρ' S H' → VR K mg ρ' H' d v → D.rt v H'
  | .ex δ n fs S => ∀ ρ' H' σ c od, Le ρ H ρ' H' → Sim K mg ρ' S H' → ER K mg ρ' H' δ σ → mg n = some (.ref c) → XR K mg ρ' H' fs od → W (.ref c) od σ H'
  | .no => False
end KF
set_option Elab.async false
set_option linter.all false
set_option maxRecDepth 100000
set_option maxHeartbeats 4000000
namespace KF
open PySem PySem.Spec PyProof.Rows L2 KQ
section
variable {α β γ : Type} {K : PySem.W.Frag} {mg : Str → Option Value} {rel : List Addr → Hp → α → β → Prop} {r : R α} {ρ ρ' : List Addr} {H H' : Hp} {Q Q' : β → Hp → Prop} {E E' : XK} {S : Sto}
theorem G.imp (g : G K mg rel r ρ H Q E) (h : ∀ b H', Q b H' → Q' b H') : G K mg rel r ρ H Q' E := by
  cases r with
  | ok a S => exact fun ρ' H' b L s x => h b H' (g ρ' H' b L s x)
  | ex n fs S => exact g
  | no => exact g
theorem G.le (g : G K mg rel r ρ H Q E) (L : Le ρ H ρ' H') : G K mg rel r ρ' H' Q E := by
  cases r with
  | ok a S => exact fun ρ2 H2 b L2 s x => g ρ2 H2 b (L.trans L2) s x
  | ex n fs S => exact fun ρ2 H2 c od L2 s m x => g ρ2 H2 c od (L.trans L2) s m x
  | no => exact g
theorem G.bind {δ : Type} {rel2 : List Addr → Hp → γ → δ → Prop} {Q : δ → Hp → Prop} {k : α → Sto → R γ} (g : G K mg rel2 (r.bind k) ρ H Q E) :
    G K mg rel r ρ H (fun b H1 => ∃ ρ1 S1 a, Le ρ H ρ1 H1 ∧ Sim K mg ρ1 S1 H1 ∧ rel ρ1 H1 a b ∧ G K mg rel2 (k a S1) ρ1 H1 Q E) E := by
  cases r with
  | ok a S => exact fun ρ' H' b L s x => ⟨ρ', S, a, L, s, x, G.le g L⟩
  | ex n fs S => exact g
  | no => exact g
theorem G.ret {a : α} {b : β} (g : G K mg rel (.ok a S) ρ H Q E) (L : Le ρ H ρ' H') (s : Sim K mg ρ' S H') (x : rel ρ' H' a b) : Q b H' := g ρ' H' b L s x
end
section
variable (K : PySem.W.Frag) (mg : Str → Option Value) (W : WX)
def relT : List Addr → Hp → Bool → Bool → Prop := fun _ _ a b => a = b
def relO : List Addr → Hp → Option Int → Option Int → Prop := fun _ _ a b => a = b
def cE (f : FE) : TE := fun σ H Q => ∃ ρ S δ, Sim K mg ρ S H ∧ ER K mg ρ H δ σ ∧ G K mg (VR K mg) (f δ S) ρ H Q (WE W σ)
def cA (f : FA) : TA := fun σ H Q => ∃ ρ S δ, Sim K mg ρ S H ∧ ER K mg ρ H δ σ ∧ G K mg (VRs K mg) (f δ S) ρ H Q (WE W σ)
def cT (f : FT) : TT := fun σ H Q => ∃ ρ S δ, Sim K mg ρ S H ∧ ER K mg ρ H δ σ ∧ G K mg relT (f δ S) ρ H Q (WE W σ)
def cO (f : FO) : TO := fun σ H Q => ∃ ρ S δ, Sim K mg ρ S H ∧ ER K mg ρ H δ σ ∧ G K mg relO (f δ S) ρ H Q (WE W σ)
def cS (f : FS) : TS := fun D σ H => ∃ ρ S δ, Sim K mg ρ S H ∧ ER K mg ρ H δ σ ∧ GS K mg (f δ S) ρ H D W
end
section
variable {X : Cx} {e : Expr}
theorem PE.of {t t' : TE} (h : PE X e t) (i : ∀ σ H Q, t' σ H Q → t σ H Q) : PE X e t' := ⟨fun pins s σ H Q I q => h.run pins s σ H Q I (i σ H Q q)⟩
theorem PT.of {t t' : TT} (h : PT X e t) (i : ∀ σ H Q, t' σ H Q → t σ H Q) : PT X e t' := ⟨fun pins s σ H Q I q => h.run pins s σ H Q I (i σ H Q q)⟩
theorem PW.of {t t' : TT} (h : PW X e t) (i : ∀ σ H Q, t' σ H Q → t σ H Q) : PW X e t' := ⟨fun wh pins s σ H Q I q => h.run wh pins s σ H Q I (i σ H Q q)⟩
theorem PA.of {es : List Expr} {t t' : TA} (h : PA X es t) (i : ∀ σ H Q, t' σ H Q → t σ H Q) : PA X es t' := ⟨fun p pins s σ H Q I q => h.run p pins s σ H Q I (i σ H Q q)⟩
theorem PO.of {oe : Option Expr} {t t' : TO} (h : PO X oe t) (i : ∀ σ H Q, t' σ H Q → t σ H Q) : PO X oe t' := ⟨fun pins s σ H Q I q => h.run pins s σ H Q I (i σ H Q q)⟩
theorem PS.of {st : Stmt} {t t' : TS} (h : PS X st t) (i : ∀ D σ H, t' D σ H → t D σ H) : PS X st t' := ⟨fun pins s σ H D I q => h.run pins s σ H D I (i D σ H q)⟩
theorem PSs.of {st : List Stmt} {t t' : TS} (h : PSs X st t) (i : ∀ D σ H, t' D σ H → t D σ H) : PSs X st t' := ⟨fun pins s σ H D I q => h.run pins s σ H D I (i D σ H q)⟩
theorem PG.of {t t' : TG} (h : PG X e t) (i : ∀ v σ H Q, t' v σ H Q → t v σ H Q) : PG X e t' := ⟨fun pins s σ H v u Q I r q => h.run pins s σ H v u Q I r (i v σ H Q q)⟩
theorem PE.or {t t' : TE} (h : PE X e t) (h' : PE X e t') : PE X e (fun σ H Q => t σ H Q ∨ t' σ H Q) := ⟨fun pins s σ H Q I q => q.elim (h.run pins s σ H Q I) (h'.run pins s σ H Q I)⟩
theorem OpR.or {f : Value → Value → Sem Value} {r r' : R2} (h : OpR X f r) (h' : OpR X f r') : OpR X f (fun x y H Q => r x y H Q ∨ r' x y H Q) := fun pins s σ H x y v u Q I rx ry q => q.elim (h pins s σ H x y v u Q I rx ry) (h' pins s σ H x y v u Q I rx ry)
end
/-- an operator's function is followed by its rule -/
def OpL (K : PySem.W.Frag) (mg : Str → Option Value) (f : D → D → Sto → R D) (r : R2) : Prop :=
  ∀ ρ S H x y u v Q E, Sim K mg ρ S H → VR K mg ρ H x u → VR K mg ρ H y v → G K mg (VR K mg) (f x y S) ρ H Q E → r u v H Q
section
variable {X : Cx} {W : WX} {e a b c : Expr} {fa fb fc : FE} {f : D → D → Sto → R D} {r : R2} {pos : Pos}
local macro_rules | `(tactic| trivial) => `(tactic| (rintro σ H Q ⟨ρ, S, δ, s, x, g⟩))
theorem fe_var (i : Nat) (h : PE X e (tVar i)) : PE X e (cE X.K X.mg W (eVar i)) := by
  refine PE.of h ?_
  rintro σ H Q ⟨ρ, S, δ, s, x, g⟩
  unfold eVar at g
  split at g
  · rename_i d hd
    obtain ⟨v, h1, h2⟩ := x.at_ i d hd
    exact ⟨v, h1, g.ret Le.refl s h2⟩
  · exact g.elim
theorem fe_c {d : D} {v : V} (h : PE X e (tC v)) (x : ∀ ρ H, VR X.K X.mg ρ H d v) : PE X e (cE X.K X.mg W (eC d)) := by
  refine PE.of h ?_
  rintro σ H Q ⟨ρ, S, δ, s, _, g⟩
  exact G.ret g Le.refl s (x ρ H)
theorem fe_op {op : Operator} (o : OpR X (binaryOp op) r) (l : OpL X.K X.mg f r) (ha : PE X a (cE X.K X.mg W fa)) (hb : PE X b (cE X.K X.mg W fb)) : PE X (.BinOp a op b pos) (cE X.K X.mg W (eOp f fa fb)) := by
  refine PE.of (pe_op o ha hb) ?_
  rintro σ H Q ⟨ρ, S, δ, s, x, g⟩
  refine ⟨ρ, S, δ, s, x, (G.bind g).imp ?_⟩
  rintro u H1 ⟨ρ1, S1, d1, L1, s1, r1, g1⟩
  refine ⟨ρ1, S1, δ, s1, x.le L1, (G.bind g1).imp ?_⟩
  rintro v H2 ⟨ρ2, S2, d2, L2, s2, r2, g2⟩
  exact l ρ2 S2 H2 d1 d2 u v Q _ s2 (r1.le L2) r2 g2
theorem fe_cmp {op : CmpOp} (o : OpR X (compareOp op) r) (l : OpL X.K X.mg f r) (ha : PE X a (cE X.K X.mg W fa)) (hb : PE X b (cE X.K X.mg W fb)) (hm : behindInMarks op b = false) : PE X (.Compare a [op] [b] pos) (cE X.K X.mg W (eOp f fa fb)) := by
  refine PE.of (pe_cmpR o ha hb hm) ?_
  rintro σ H Q ⟨ρ, S, δ, s, x, g⟩
  refine ⟨ρ, S, δ, s, x, (G.bind g).imp ?_⟩
  rintro u H1 ⟨ρ1, S1, d1, L1, s1, r1, g1⟩
  refine ⟨ρ1, S1, δ, s1, x.le L1, (G.bind g1).imp ?_⟩
  rintro v H2 ⟨ρ2, S2, d2, L2, s2, r2, g2⟩
  exact l ρ2 S2 H2 d1 d2 u v Q _ s2 (r1.le L2) r2 g2
theorem ft_cmp {op : CmpOp} (o : OpR X (compareOp op) r) (l : OpL X.K X.mg f r) (ha : PE X a (cE X.K X.mg W fa)) (hb : PE X b (cE X.K X.mg W fb)) (hm : behindInMarks op b = false) : PT X (.Compare a [op] [b] pos) (cT X.K X.mg W (tB (eOp f fa fb))) := by
  refine PT.of (pt_cmpR o ha hb hm) ?_
  rintro σ H Q ⟨ρ, S, δ, s, x, g⟩
  unfold tB eOp at g
  rw [bind_bind] at g
  refine ⟨ρ, S, δ, s, x, (G.bind g).imp ?_⟩
  rintro u H1 ⟨ρ1, S1, d1, L1, s1, r1, g1⟩
  rw [bind_bind] at g1
  refine ⟨ρ1, S1, δ, s1, x.le L1, (G.bind g1).imp ?_⟩
  rintro v H2 ⟨ρ2, S2, d2, L2, s2, r2, g2⟩
  refine l ρ2 S2 H2 d1 d2 u v _ (WE W σ) s2 (r1.le L2) r2 ((G.bind g2).imp ?_)
  rintro z H3 ⟨ρ3, S3, d3, L3, s3, r3, g3⟩
  unfold asB at g3
  split at g3
  · cases r3
    exact ⟨_, rfl, g3.ret Le.refl s3 rfl⟩
  · exact g3.elim
theorem ft_val (ha : PE X a (cE X.K X.mg W fa)) (he : ∀ whole, isTrue a X.env whole = (do let v ← whole; standAt a.pos; holding [v] (truthy v)) := by intro _; rfl) : PT X a (cT X.K X.mg W (tB fa)) := by
  refine PT.of (pt_val ha he) ?_
  rintro σ H Q ⟨ρ, S, δ, s, x, g⟩
  refine ⟨ρ, S, δ, s, x, (G.bind g).imp ?_⟩
  rintro u H1 ⟨ρ1, S1, d1, L1, s1, r1, g1⟩
  unfold asB at g1
  split at g1
  · cases r1
    exact ⟨_, rfl, g1.ret Le.refl s1 rfl⟩
  · exact g1.elim
/-- is None -/
theorem fc_isN {j pos'} (ha : PE X a (cE X.K X.mg W fa)) : PC X .Is a (.Constant .none j pos') (cE X.K X.mg W (eUn opIsN fa)) := by
  have h := pc_isN (X := X) (j := j) (pos' := pos') ha
  refine ⟨fun pins s σ H Q I q => h.run pins s σ H Q I ?_⟩
  obtain ⟨ρ, S, δ, s, x, g⟩ := q
  refine ⟨ρ, S, δ, s, x, (G.bind g).imp ?_⟩
  rintro u H1 ⟨ρ1, S1, d1, L1, s1, r1, g1⟩
  have e : isNone d1 = decide (u = .non) := by cases r1 <;> rfl
  refine G.ret (b := .bl (decide (u = .non))) g1 Le.refl s1 ?_
  rw [← e]; exact .bl _
theorem fc_notN {j pos'} (ha : PE X a (cE X.K X.mg W fa)) : PC X .IsNot a (.Constant .none j pos') (cE X.K X.mg W (eUn opNotN fa)) := by
  have h := pc_notN (X := X) (j := j) (pos' := pos') ha
  refine ⟨fun pins s σ H Q I q => h.run pins s σ H Q I ?_⟩
  obtain ⟨ρ, S, δ, s, x, g⟩ := q
  refine ⟨ρ, S, δ, s, x, (G.bind g).imp ?_⟩
  rintro u H1 ⟨ρ1, S1, d1, L1, s1, r1, g1⟩
  have e : isNone d1 = decide (u = .non) := by cases r1 <;> rfl
  refine G.ret (b := .bl (!decide (u = .non))) g1 Le.refl s1 ?_
  rw [← e]; exact .bl _
theorem ft_cmpC {op : CmpOp} (h : PC X op a b (cE X.K X.mg W fa)) (h1 : behindInMarks op b = false := by first | exact nobehind _ (by decide) (by decide) | rfl) : PT X (.Compare a [op] [b] pos) (cT X.K X.mg W (tB fa)) := by
  refine PT.of (pt_cmp h h1) ?_
  rintro σ H Q ⟨ρ, S, δ, s, x, g⟩
  refine ⟨ρ, S, δ, s, x, (G.bind g).imp ?_⟩
  rintro u H1 ⟨ρ1, S1, d1, L1, s1, r1, g1⟩
  unfold asB at g1
  split at g1
  · cases r1
    exact ⟨_, rfl, g1.ret Le.refl s1 rfl⟩
  · exact g1.elim
theorem fe_un {op : UnaryOp} {r : V → Hp → VK → Prop} {f : D → Sto → R D} (o : UnR X (unaryOp op) r) (l : ∀ ρ S H x u Q E, Sim X.K X.mg ρ S H → VR X.K X.mg ρ H x u → G X.K X.mg (VR X.K X.mg) (f x S) ρ H Q E → r u H Q) (ha : PE X a (cE X.K X.mg W fa)) : PE X (.UnaryOp op a pos) (cE X.K X.mg W (eUn f fa)) := by
  refine PE.of (pe_un o ha) ?_
  rintro σ H Q ⟨ρ, S, δ, s, x, g⟩
  refine ⟨ρ, S, δ, s, x, (G.bind g).imp ?_⟩
  rintro u H1 ⟨ρ1, S1, d1, L1, s1, r1, g1⟩
  exact l _ _ _ _ _ _ _ s1 r1 g1
theorem fe_neg (ha : PE X a (cE X.K X.mg W fa)) : PE X (.UnaryOp .USub a pos) (cE X.K X.mg W (eUn opNeg fa)) :=
  fe_un un_neg (fun ρ S H x u Q E s r g => by
    unfold opNeg at g
    split at g
    · cases r; exact ⟨_, rfl, G.ret g Le.refl s (.int _)⟩
    · exact g.elim) ha
end
section
variable {X : Cx} {W : WX} {a b c : Expr} {rest : List Expr} {t u : FT} {fa fb : FE} {pos : Pos}
theorem fw_and1 (ha : PT X a (cT X.K X.mg W t)) : PW X (.BoolOp .And [a] pos) (cT X.K X.mg W t) := pw_and1 ha
theorem fw_or1 (ha : PT X a (cT X.K X.mg W t)) : PW X (.BoolOp .Or [a] pos) (cT X.K X.mg W t) := pw_or1 ha
theorem fw_and (ha : PT X a (cT X.K X.mg W t)) (hb : PW X (.BoolOp .And (b :: rest) pos) (cT X.K X.mg W u)) : PW X (.BoolOp .And (a :: b :: rest) pos) (cT X.K X.mg W (tAnd t u)) := by
  refine PW.of (pw_and ha hb) ?_
  rintro σ H Q ⟨ρ, S, δ, s, x, g⟩
  refine ⟨ρ, S, δ, s, x, (G.bind g).imp ?_⟩
  rintro k H1 ⟨ρ1, S1, d1, L1, s1, rfl, g1⟩
  cases d1 with
  | true => exact ⟨ρ1, S1, δ, s1, x.le L1, g1⟩
  | false => exact G.ret g1 Le.refl s1 rfl
theorem fw_or (ha : PT X a (cT X.K X.mg W t)) (hb : PW X (.BoolOp .Or (b :: rest) pos) (cT X.K X.mg W u)) : PW X (.BoolOp .Or (a :: b :: rest) pos) (cT X.K X.mg W (tOr t u)) := by
  refine PW.of (pw_or ha hb) ?_
  rintro σ H Q ⟨ρ, S, δ, s, x, g⟩
  refine ⟨ρ, S, δ, s, x, (G.bind g).imp ?_⟩
  rintro k H1 ⟨ρ1, S1, d1, L1, s1, rfl, g1⟩
  cases d1 with
  | true => exact G.ret g1 Le.refl s1 rfl
  | false => exact ⟨ρ1, S1, δ, s1, x.le L1, g1⟩
theorem ft_not (ha : PT X a (cT X.K X.mg W t)) : PT X (.UnaryOp .Not a pos) (cT X.K X.mg W (tNot t)) := by
  refine PT.of (pt_not ha) ?_
  rintro σ H Q ⟨ρ, S, δ, s, x, g⟩
  refine ⟨ρ, S, δ, s, x, (G.bind g).imp ?_⟩
  rintro k H1 ⟨ρ1, S1, d1, L1, s1, rfl, g1⟩
  exact G.ret g1 Le.refl s1 rfl
theorem fe_one {op} (h : PE X a (cE X.K X.mg W fa)) : PE X (.BoolOp op [a] pos) (cE X.K X.mg W fa) := pe_one h
theorem fe_and (ha : PE X a (cE X.K X.mg W fa)) (hb : PE X (.BoolOp .And (b :: rest) pos) (cE X.K X.mg W fb)) : PE X (.BoolOp .And (a :: b :: rest) pos) (cE X.K X.mg W (eAnd fa fb)) := by
  refine PE.of (pe_and ha hb) ?_
  rintro σ H Q ⟨ρ, S, δ, s, x, g⟩
  refine ⟨ρ, S, δ, s, x, (G.bind g).imp ?_⟩
  rintro k H1 ⟨ρ1, S1, d1, L1, s1, r1, g1⟩
  split at g1
  · cases r1; exact ⟨_, rfl, by rw [if_pos rfl]; exact ⟨ρ1, S1, δ, s1, x.le L1, g1⟩⟩
  · cases r1; exact ⟨_, rfl, by rw [if_neg Bool.false_ne_true]; exact G.ret g1 Le.refl s1 (.bl _)⟩
  · exact g1.elim
theorem fe_not (ha : PE X a (cE X.K X.mg W fa)) : PE X (.UnaryOp .Not a pos) (cE X.K X.mg W (eNot fa)) := by
  refine PE.of (pe_not ha) ?_
  rintro σ H Q ⟨ρ, S, δ, s, x, g⟩
  refine ⟨ρ, S, δ, s, x, (G.bind g).imp ?_⟩
  rintro k H1 ⟨ρ1, S1, d1, L1, s1, r1, g1⟩
  split at g1
  · cases r1; exact ⟨_, rfl, G.ret g1 Le.refl s1 (.bl _)⟩
  · exact g1.elim
theorem fts_nil : PTs X [] (cT X.K X.mg W tYes) := ⟨fun pins s σ H Q I q => pts_nil.run pins s σ H Q I (by
  obtain ⟨ρ, S, δ, s, x, g⟩ := q
  exact G.ret g Le.refl s rfl)⟩
end
section
variable {X : Cx} {W : WX} {e : Expr} {es : List Expr} {fe : FE} {t : FA} {pos : Pos}
theorem fa_nil : PA X [] (cA X.K X.mg W aNil) := by
  refine PA.of pa_nil ?_
  rintro σ H Q ⟨ρ, S, δ, s, x, g⟩
  exact G.ret g Le.refl s .nil
theorem fa_cons (ha : PE X e (cE X.K X.mg W fe)) (hr : PA X es (cA X.K X.mg W t)) (hs : starEach (e :: es) X.env = (false, eval e X.env) :: starEach es X.env := by rfl) : PA X (e :: es) (cA X.K X.mg W (aCons fe t)) := by
  refine PA.of (pa_cons ha hr hs) ?_
  rintro σ H Q ⟨ρ, S, δ, s, x, g⟩
  refine ⟨ρ, S, δ, s, x, (G.bind g).imp ?_⟩
  rintro u H1 ⟨ρ1, S1, d1, L1, s1, r1, g1⟩
  refine ⟨ρ1, S1, δ, s1, x.le L1, (G.bind g1).imp ?_⟩
  rintro v H2 ⟨ρ2, S2, d2, L2, s2, r2, g2⟩
  exact G.ret g2 Le.refl s2 (.cons (r1.le L2) r2)
theorem tupAt {K : PySem.W.Frag} {mg : Str → Option Value} {ρ : List Addr} {S : Sto} {H : Hp} {p : Addr} {ds : List D} {vs : List V} (s : Sim K mg ρ S H) (h : H p = none) (r : VRs K mg ρ H ds vs) : VR K mg ρ (upd H p (.tup vs)) (.tup ds) (.ref p) :=
  .tup (.of upd_same) (fun m => absurd m (s.notin h)) (fun _ => ⟨upd_same, s.notin h⟩) (r.le (Le.new h))
theorem fe_tup {x1} (h : PA X es (cA X.K X.mg W t)) : PE X (.Tuple es x1 pos) (cE X.K X.mg W (eTup t)) := by
  refine PE.of (pe_tup h) ?_
  rintro σ H Q ⟨ρ, S, δ, s, x, g⟩
  refine ⟨ρ, S, δ, s, x, (G.bind g).imp ?_⟩
  rintro u H1 ⟨ρ1, S1, d1, L1, s1, r1, g1⟩
  split at g1
  · rename_i hl
    rw [r1.length] at hl
    exact ⟨hl, fun p np => G.ret g1 (Le.new np) (s1.new np) (tupAt s1 np r1)⟩
  · exact g1.elim
theorem allocd {K : PySem.W.Frag} {mg : Str → Option Value} {ρ : List Addr} {S : Sto} {H : Hp} {p : Addr} {o : GO} {u : HO} {Q : VK} {E : XK} (s : Sim K mg ρ S H) (np : H p = none) (x : OR K mg (ρ ++ [p]) (upd H p u) o p) (g : G K mg (VR K mg) (alloc o S) ρ H Q E) : Q (.ref p) (upd H p u) := by
  refine G.ret (b := .ref p) g (Le.more np) (s.more np x) (.ref ?_)
  rw [← s.len, List.getElem?_append_right (Nat.le_refl _), Nat.sub_self]
  rfl
theorem newlst {K : PySem.W.Frag} {mg : Str → Option Value} {ρ : List Addr} {S : Sto} {H : Hp} {p : Addr} {ds : List D} {vs : List V} {Q : VK} {E : XK} (s : Sim K mg ρ S H) (np : H p = none) (r : VRs K mg ρ H ds vs) (g : G K mg (VR K mg) (alloc (.lst ds) S) ρ H Q E) : Q (.ref p) (upd H p (.lst vs)) :=
  allocd s np (.lst upd_same (r.le (Le.more np))) g
theorem fe_lst (h : PA X es (cA X.K X.mg W t)) : PE X (.List es pos) (cE X.K X.mg W (eLst t)) := by
  refine PE.of (pe_lst h) ?_
  rintro σ H Q ⟨ρ, S, δ, s, x, g⟩
  refine ⟨ρ, S, δ, s, x, (G.bind g).imp ?_⟩
  rintro u H1 ⟨ρ1, S1, d1, L1, s1, r1, g1⟩
  split at g1
  · rename_i hl
    rw [r1.length] at hl
    exact ⟨hl, fun p np => newlst s1 np r1 g1⟩
  · exact g1.elim
end
section
variable {X : Cx} {W : WX} {st : Stmt} {ss : List Stmt} {fs ft : FS} {fe : FE} {e : Expr} {pos : Pos}
variable {K : PySem.W.Frag} {mg : Str → Option Value} {ρ ρ' : List Addr} {H H' : Hp} {S : Sto} {D : Ends} {δ : Env} {σ : L2.St}
theorem GS.le {r : RS} (g : GS K mg r ρ H D W) (L : Le ρ H ρ' H') : GS K mg r ρ' H' D W := by
  cases r with
  | nx δ S => exact fun ρ2 H2 σ L2 s x => g ρ2 H2 σ (L.trans L2) s x
  | bk δ S => exact fun ρ2 H2 σ L2 s x => g ρ2 H2 σ (L.trans L2) s x
  | ct δ S => exact fun ρ2 H2 σ L2 s x => g ρ2 H2 σ (L.trans L2) s x
  | rt d S => exact fun ρ2 H2 v L2 s x => g ρ2 H2 v (L.trans L2) s x
  | ex δ n fs S => exact fun ρ2 H2 σ c od L2 s x m y => g ρ2 H2 σ c od (L.trans L2) s x m y
  | no => exact g
theorem GS.imp {r : RS} {D' : Ends} (g : GS K mg r ρ H D W) (h1 : ∀ σ H, D.nx σ H → D'.nx σ H) (h2 : ∀ σ H, D.bk σ H → D'.bk σ H) (h3 : ∀ σ H, D.ct σ H → D'.ct σ H) (h4 : ∀ v H, D.rt v H → D'.rt v H) : GS K mg r ρ H D' W := by
  cases r with
  | nx δ S => exact fun ρ2 H2 σ L2 s x => h1 _ _ (g ρ2 H2 σ L2 s x)
  | bk δ S => exact fun ρ2 H2 σ L2 s x => h2 _ _ (g ρ2 H2 σ L2 s x)
  | ct δ S => exact fun ρ2 H2 σ L2 s x => h3 _ _ (g ρ2 H2 σ L2 s x)
  | rt d S => exact fun ρ2 H2 v L2 s x => h4 _ _ (g ρ2 H2 v L2 s x)
  | ex δ n fs S => exact g
  | no => exact g
/-- an expression within a statement -/
theorem GS.bind {α β : Type} {rel : List Addr → Hp → α → β → Prop} {r : R α} {k : α → Sto → RS} (g : GS K mg (R.to δ r k) ρ H D W) (x : ER K mg ρ H δ σ) :
    G K mg rel r ρ H (fun b H1 => ∃ ρ1 S1 a, Le ρ H ρ1 H1 ∧ Sim K mg ρ1 S1 H1 ∧ rel ρ1 H1 a b ∧ GS K mg (k a S1) ρ1 H1 D W) (WE W σ) := by
  cases r with
  | ok a S => exact fun ρ' H' b L s y => ⟨ρ', S, a, L, s, y, GS.le g L⟩
  | ex n fs S => exact fun ρ' H' c od L s m y => g ρ' H' σ c od L s (x.le L) m y
  | no => exact g
theorem fss_nil : PSs X [] (cS X.K X.mg W sNil) := by
  refine PSs.of pss_nil ?_
  rintro D σ H ⟨ρ, S, δ, s, x, g⟩
  exact g ρ H σ Le.refl s x
theorem fss_cons (h : PS X st (cS X.K X.mg W fs)) (hr : PSs X ss (cS X.K X.mg W ft)) : PSs X (st :: ss) (cS X.K X.mg W (sSeq fs ft)) := by
  refine PSs.of (pss_cons h hr) ?_
  rintro D σ H ⟨ρ, S, δ, s, x, g⟩
  refine ⟨ρ, S, δ, s, x, ?_⟩
  unfold sSeq at g
  cases q : fs δ S with
  | nx δ' S' => rw [q] at g; exact fun ρ' H' σ' L s' x' => ⟨ρ', S', δ', s', x', GS.le g L⟩
  | bk δ' S' => rw [q] at g; exact g
  | ct δ' S' => rw [q] at g; exact g
  | rt d S' => rw [q] at g; exact g
  | ex δ' n fs S' => rw [q] at g; exact g
  | no => rw [q] at g; exact g
theorem fss_one (h : PS X st (cS X.K X.mg W fs)) : PSs X [st] (cS X.K X.mg W fs) := pss_one h
theorem fs_set {i : Nat} {x : Str} {pos' : Pos} (hN : X.N.Nodup) (hi : X.N[i]? = some x) (hx : Loc X.env.scope x) (he : PE X e (cE X.K X.mg W fe)) (hs : swapsWith e (some (.Name x pos')) pos.line X.env = pure false := by rfl) (hf : X.fn x = true ∨ X.env.scope.names.lookup x = some .local := by first | exact .inl rfl | exact .inr rfl | assumption) :
    PS X (.Assign [.Name x pos'] e pos) (cS X.K X.mg W (sSet i fe)) := by
  refine PS.of (ps_set hN hi hx he hs hf) ?_
  rintro D σ H ⟨ρ, S, δ, s, x, g⟩
  refine ⟨ρ, S, δ, s, x, (GS.bind g x).imp ?_⟩
  rintro u H1 ⟨ρ1, S1, d1, L1, s1, r1, g1⟩
  exact g1 ρ1 H1 _ Le.refl s1 ((x.le L1).set i r1)
theorem fs_expr (he : PE X e (cE X.K X.mg W fe)) (hs : swapsWith e none pos.line X.env = pure false := by rfl) : PS X (.Expr e pos) (cS X.K X.mg W (sE fe)) := by
  refine PS.of (ps_expr he hs) ?_
  rintro D σ H ⟨ρ, S, δ, s, x, g⟩
  refine ⟨ρ, S, δ, s, x, (GS.bind g x).imp ?_⟩
  rintro u H1 ⟨ρ1, S1, d1, L1, s1, r1, g1⟩
  exact g1 ρ1 H1 _ Le.refl s1 (x.le L1)
theorem fs_ret (he : PE X e (cE X.K X.mg W fe)) : PS X (.Return (some e) pos) (cS X.K X.mg W (sRet fe)) := by
  refine PS.of (ps_ret he) ?_
  rintro D σ H ⟨ρ, S, δ, s, x, g⟩
  refine ⟨ρ, S, δ, s, x, (GS.bind g x).imp ?_⟩
  rintro u H1 ⟨ρ1, S1, d1, L1, s1, r1, g1⟩
  exact g1 ρ1 H1 _ Le.refl s1 r1
theorem fs_if {c : Expr} {b1 b2 : List Stmt} {t : FT} (hc : PT X c (cT X.K X.mg W t)) (h1 : PSs X b1 (cS X.K X.mg W fs)) (h2 : PSs X b2 (cS X.K X.mg W ft)) : PS X (.If c b1 b2 pos) (cS X.K X.mg W (sIf t fs ft)) := by
  refine PS.of (ps_if hc h1 h2) ?_
  rintro D σ H ⟨ρ, S, δ, s, x, g⟩
  refine ⟨ρ, S, δ, s, x, (GS.bind g x).imp ?_⟩
  rintro k H1 ⟨ρ1, S1, d1, L1, s1, rfl, g1⟩
  cases d1 with
  | true => exact ⟨ρ1, S1, δ, s1, x.le L1, g1⟩
  | false => exact ⟨ρ1, S1, δ, s1, x.le L1, g1⟩
theorem fs_break : PS X (.Break pos) (cS X.K X.mg W sBreak) := by
  refine PS.of ps_break ?_
  rintro D σ H ⟨ρ, S, δ, s, x, g⟩
  exact g ρ H σ Le.refl s x
end
end KF
set_option Elab.async false
set_option linter.all false
set_option maxRecDepth 100000
set_option maxHeartbeats 4000000
namespace KF
open PySem PySem.Spec PyProof.Rows L2 KQ
section
variable {K : PySem.W.Frag} {mg : Str → Option Value} {ρ ρ' : List Addr} {H H' : Hp} {S S' : Sto}
mutual
theorem VR.under : ∀ {d : D} {v : V}, VR K mg ρ H d v → d.under ρ.length = true
  | _, _, .non => rfl
  | _, _, .bl b => rfl
  | _, _, .int i => rfl
  | _, _, .str x => rfl
  | _, _, .byt x => rfl
  | _, _, .ty x => rfl
  | _, _, .cls e => rfl
  | _, _, .ref e => by
    rw [D.under]
    exact decide_eq_true (List.getElem?_eq_some_iff.mp e).1
  | _, _, .tup h n _ r => by rw [D.under]; exact VRs.under r
  | _, _, .scr h n r => by rw [D.under]; exact VRs.under r
theorem VRs.under : ∀ {d : List D} {v : List V}, VRs K mg ρ H d v → D.unders ρ.length d = true
  | _, _, .nil => rfl
  | _, _, .cons r t => by rw [D.unders, VR.under r, VRs.under t]; rfl
end
theorem FR.under : ∀ {fs : List (Str × D)} {gs : List (Str × V)}, FR K mg ρ H fs gs → fsUnder ρ.length fs = true
  | _, _, .nil => rfl
  | _, _, .cons r t => by
    have h := FR.under t
    unfold fsUnder at h ⊢
    rw [List.map_cons, D.unders, r.under, h]; rfl
theorem KR.under : ∀ {fs : List (DK × D)} {gs : List (Key × V)}, KR K mg ρ H fs gs → D.unders ρ.length (fs.map (·.2)) = true
  | _, _, .nil => rfl
  | _, _, .cons r t => by rw [List.map_cons, D.unders, r.under, KR.under t]; rfl
theorem TR.under : ∀ {fs : List (DK × D)} {gs : List (List Key × V)}, TR K mg ρ H fs gs → D.unders ρ.length (fs.map (·.2)) = true
  | _, _, .nil => rfl
  | _, _, .cons r t => by rw [List.map_cons, D.unders, r.under, TR.under t]; rfl
theorem OR.under {o : GO} {a : Addr} (x : OR K mg ρ H o a) : o.under ρ.length = true := by
  cases x with
  | lst h r => exact r.under
  | dK h r => exact r.under
  | dT h r => exact r.under
  | ins g h r => exact r.under
theorem and_l {a b : Bool} (h : (a && b) = true) : a = true := (Bool.and_eq_true_iff.mp h).1
theorem and_r {a b : Bool} (h : (a && b) = true) : b = true := (Bool.and_eq_true_iff.mp h).2
mutual
theorem VR.less {new : List Addr} : ∀ {d : D} {v : V}, VR K mg (ρ ++ new) H d v → d.under ρ.length = true → VR K mg ρ H d v
  | _, _, .non, _ => .non
  | _, _, .bl b, _ => .bl b
  | _, _, .int i, _ => .int i
  | _, _, .str x, _ => .str x
  | _, _, .byt x, _ => .byt x
  | _, _, .ty x, _ => .ty x
  | _, _, .cls e, _ => .cls e
  | _, _, .ref e, h => by
    rw [D.under] at h
    rw [List.getElem?_append_left (of_decide_eq_true h)] at e
    exact .ref e
  | _, _, .tup s n k r, h => by
    rw [D.under] at h
    exact .tup s (fun m => n (List.mem_append_left _ m)) (fun q => ⟨(k q).1, fun m => (k q).2 (List.mem_append_left _ m)⟩) (VRs.less r h)
  | _, _, .scr s n r, h => by
    rw [D.under] at h
    exact .scr s (fun m => n (List.mem_append_left _ m)) (VRs.less r h)
theorem VRs.less {new : List Addr} : ∀ {d : List D} {v : List V}, VRs K mg (ρ ++ new) H d v → D.unders ρ.length d = true → VRs K mg ρ H d v
  | _, _, .nil, _ => .nil
  | _, _, .cons r t, h => by
    rw [D.unders] at h
    exact .cons (VR.less r (and_l h)) (VRs.less t (and_r h))
end
theorem FR.less {new : List Addr} : ∀ {fs : List (Str × D)} {gs : List (Str × V)}, FR K mg (ρ ++ new) H fs gs → fsUnder ρ.length fs = true → FR K mg ρ H fs gs
  | _, _, .nil, _ => .nil
  | _, _, .cons r t, h => by
    unfold fsUnder at h
    rw [List.map_cons, D.unders] at h
    exact .cons (r.less (and_l h)) (FR.less t (and_r h))
theorem KR.less {new : List Addr} : ∀ {fs : List (DK × D)} {gs : List (Key × V)}, KR K mg (ρ ++ new) H fs gs → D.unders ρ.length (fs.map (·.2)) = true → KR K mg ρ H fs gs
  | _, _, .nil, _ => .nil
  | _, _, .cons r t, h => by
    rw [List.map_cons, D.unders] at h
    exact .cons (r.less (and_l h)) (KR.less t (and_r h))
theorem TR.less {new : List Addr} : ∀ {fs : List (DK × D)} {gs : List (List Key × V)}, TR K mg (ρ ++ new) H fs gs → D.unders ρ.length (fs.map (·.2)) = true → TR K mg ρ H fs gs
  | _, _, .nil, _ => .nil
  | _, _, .cons r t, h => by
    rw [List.map_cons, D.unders] at h
    exact .cons (r.less (and_l h)) (TR.less t (and_r h))
theorem OR.less {new : List Addr} {o : GO} {a : Addr} (x : OR K mg (ρ ++ new) H o a) (h : o.under ρ.length = true) : OR K mg ρ H o a := by
  cases x with
  | lst e r => exact .lst e (r.less h)
  | dK e r => exact .dK e (r.less h)
  | dT e r => exact .dT e (r.less h)
  | ins g e r => exact .ins g e (r.less h)
theorem forget (s : Sim K mg ρ S H) (L : Le ρ H ρ' H') (s' : Sim K mg ρ' S' H') (c : clean S S') : Le ρ H ρ H' ∧ Sim K mg ρ (S'.take S.length) H' := by
  obtain ⟨new, rfl, hn⟩ := L.ext
  refine ⟨⟨⟨[], by simp, fun _ z => by simp at z⟩, L.kept, L.live⟩, by rw [List.length_take, Nat.min_eq_left c.1, s.len], s.nd, fun i o a e1 e2 => ?_⟩
  have hi : i < S.length := by rw [← s.len]; exact (List.getElem?_eq_some_iff.mp e2).1
  rw [List.getElem?_take_of_lt hi] at e1
  have e2' : (ρ ++ new)[i]? = some a := by rw [List.getElem?_append_left (by rw [s.len]; exact hi)]; exact e2
  have x := s'.ob i o a e1 e2'
  refine x.less ?_
  rcases c.2 i o hi e1 with q | q
  · exact (s.ob i o a q e2).under
  · rw [s.len]; exact q
end
section
variable {P : Program} {w : World} {K : PySem.W.Frag} {mg : Str → Option Value} {base : Heap} {ρ : List Addr} {H : Hp} {S : Sto}
def spF (K : PySem.W.Frag) (mg : Str → Option Value) (fn : Fn) : Sp := fun vs H Q E => ∃ ρ S ds, Sim K mg ρ S H ∧ VRs K mg ρ H ds vs ∧ G K mg (VR K mg) (fn ds S) ρ H Q E
abbrev HasF (P : Program) (w : World) (K : PySem.W.Frag) (mg : Str → Option Value) (base : Heap) (k : Nat) (x : Str) (ps : List Str) (fn : Fn) : Prop := HasX P w K mg base k x ps (spF K mg fn)
abbrev HasMF (P : Program) (w : World) (K : PySem.W.Frag) (mg : Str → Option Value) (base : Heap) (k : Nat) (C : Addr) (m : Str) (ps : List Str) (fn : Fn) : Prop := HasMX P w K mg base k C m ps (spF K mg fn)
abbrev HasCF (P : Program) (w : World) (K : PySem.W.Frag) (mg : Str → Option Value) (base : Heap) (k : Nat) (x : Str) (C : Addr) (ps : List Str) (fn : Fn) : Prop := HasCX P w K mg base k x C ps (spF K mg fn)
theorem gc_ok {r : RS} {Q : VK} {E : XK} (g : G K mg (VR K mg) (gcR S r) ρ H Q E) (s : Sim K mg ρ S H) : GS K mg r ρ H { nx := fun _ H' => Q .non H', rt := Q } (fun cls d _ H => E cls d H) := by
  cases r with
  | rt d S' =>
    intro ρ' H' v L s' x
    dsimp only [gcR] at g
    split at g
    · rename_i c
      obtain ⟨h1, h2⟩ := forget s L s' c.1
      obtain ⟨new, rfl, _⟩ := L.ext
      exact G.ret g h1 h2 (x.less (by rw [s.len]; exact c.2))
    · exact G.ret g L s' x
  | nx δ S' =>
    intro ρ' H' v L s' x
    dsimp only [gcR] at g
    split at g
    · rename_i c
      obtain ⟨h1, h2⟩ := forget s L s' c
      exact G.ret (b := V.non) g h1 h2 VR.non
    · exact G.ret (b := V.non) g L s' VR.non
  | ex δ n fs S' =>
    intro ρ' H' σ c od L s' _ m x
    dsimp only [gcR] at g
    split at g
    · rename_i k
      obtain ⟨h1, h2⟩ := forget s L s' k.1
      obtain ⟨new, rfl, _⟩ := L.ext
      refine g _ _ _ _ h1 h2 m ?_
      rcases x with x | ⟨d, gs, x1, x2, x3, x4, x5⟩
      · exact .inl x
      · exact .inr ⟨d, gs, x1, x2, fun z => x3 (List.mem_append_left _ z), x4, x5.less (by rw [s.len]; exact k.2)⟩
    · exact g _ _ _ _ L s' m x
  | bk _ _ => exact g.elim
  | ct _ _ => exact g.elim
  | no => exact g.elim
theorem er_start {ds : List D} {vs : List V} {N : List Str} (r : VRs K mg ρ H ds vs) : ER K mg ρ H (ds.map some ++ List.replicate (N.length - ds.length) none) (L2.start N vs) := by
  have hl := r.length
  refine ⟨by unfold L2.start; simp [hl], fun i d e => ?_⟩
  unfold L2.start
  by_cases hi : i < ds.length
  · rw [List.getElem?_append_left (by simpa using hi), List.getElem?_map] at e
    cases q : ds[i]? with
    | none => rw [q] at e; simp at e
    | some d' =>
      rw [q] at e
      simp at e
      subst e
      obtain ⟨v, h1, h2⟩ := r.get q
      exact ⟨v, by rw [List.getElem?_append_left (by simp; omega), List.getElem?_map, h1]; rfl, h2⟩
  · rw [List.getElem?_append_right (by simpa using hi), List.getElem?_replicate] at e
    split at e <;> cases e
theorem spF_len {m n : Nat} {b : FS} {vs : List V} {Q : VK} {E : XK} (q : spF K mg (fnOf m n b) vs H Q E) : vs.length = m := by
  obtain ⟨ρ, S, ds, s, r, g⟩ := q
  unfold fnOf at g
  split at g
  · rename_i h
    rw [← r.length, h]
  · exact g.elim
theorem body_ok {X : Cx} {ss : List Stmt} {b : FS} {N : List Str} {m : Nat} {vs : List V} {Q : VK} {E : XK} (hK : X.K = K) (hm : X.mg = mg) (h : PSs X ss (cS X.K X.mg (fun cls d _ H => E cls d H) b)) (q : spF K mg (fnOf m N.length b) vs H Q E) :
    ∃ t, PSs X ss t ∧ t { nx := fun _ H' => Q .non H', rt := Q } (L2.start N vs) H := by
  subst hK; subst hm
  obtain ⟨ρ, S, ds, s, r, g⟩ := q
  unfold fnOf at g
  split at g
  case isFalse => exact g.elim
  exact ⟨_, h, ρ, S, _, s, er_start r, gc_ok g s⟩
theorem mk_hasF {x : Str} {st : Stmt} {N ps : List Str} {k : Nat} {b : FS} (F : FunAt K mg x st) (S : FnScope N ps (defScope st)) (hb : BindsTo? st x ps)
    (body : ∀ (f : Addr) (cdv : Value) (A : Around) (outer : List PySem.Env) (s : Shared) (H : Hp) (E : XK), Room k (A.deeper (envOfC x (defScope st) s.heap.objs.size f cdv)) →
      PSs (cxOf (L2.CX P w) P w K mg base N x (defScope st) f cdv A outer s H E) (defBody st) (cS K mg (fun cls d _ H => E cls d H) b)) : HasF P w K mg base (k + 1) x ps (fnOf ps.length N.length b) :=
  mk_hasX F S hb (fun _ _ _ _ h => spF_len h) fun f cdv A outer s H vs Q E hr h => body_ok rfl rfl (body f cdv A outer s H E hr) h
theorem mk_hasMF {C : Addr} {x qual : Str} {st : Stmt} {N ps : List Str} {k : Nat} {b : FS} (F : MethAt K C x qual st) (S : FnScope N ps (defScope st)) (hb : BindsQ st x qual ps)
    (body : ∀ (f : Addr) (cdv : Value) (A : Around) (outer : List PySem.Env) (s : Shared) (H : Hp) (E : XK), Room k (A.deeper (envOfC qual (defScope st) s.heap.objs.size f cdv)) →
      PSs (cxOf (L2.CX P w) P w K mg base N qual (defScope st) f cdv A outer s H E) (defBody st) (cS K mg (fun cls d _ H => E cls d H) b)) : HasMF P w K mg base (k + 1) C x ps (fnOf ps.length N.length b) :=
  mk_hasMX F S hb (fun _ _ _ _ h => spF_len h) fun f cdv A outer s H vs Q E hr h => body_ok rfl rfl (body f cdv A outer s H E hr) h
theorem mk_hasCF {C : Addr} {x qual : Str} {st : Stmt} {N ps : List Str} {k : Nat} {b : FS} (F : InitAt K mg x C qual st) (S : FnScope N ps (defScope st)) (hb : BindsQ st "__init__" qual ps)
    (body : ∀ (f : Addr) (cdv : Value) (A : Around) (outer : List PySem.Env) (s : Shared) (H : Hp) (E : XK), Room k (A.deeper (envOfC qual (defScope st) s.heap.objs.size f cdv)) →
      PSs (cxOf (L2.CX P w) P w K mg base N qual (defScope st) f cdv A outer s H E) (defBody st) (cS K mg (fun cls d _ H => E cls d H) b)) : HasCF P w K mg base (k + 1) x C ps (fnOf ps.length N.length b) :=
  mk_hasCX F S hb (fun _ _ _ _ h => spF_len h) fun f cdv A outer s H vs Q E hr h => body_ok rfl rfl (body f cdv A outer s H E hr) h
end
section
variable {X : Cx} {W : WX} {k : Nat} {x m : Str} {C : Addr} {ps : List Str} {fn : Fn} {e o : Expr} {es : List Expr} {p pos apos : Pos} {t : FA} {fo : FE} {pl : Sem Bool}
theorem fe_call (tk : Takes X W) (D : HasF X.prog X.w X.K X.mg X.base k x ps fn) (hr : Room k X.A) (hg : Gl X x) (ha : PA X (e :: es) (cA X.K X.mg W t)) (hdb : (x == ("__debug__" : Str)) = false := by decide)
    (he : starEach (e :: es) X.env = (false, eval e X.env) :: starEach es X.env := by rfl) (hpl : (backTo pos (starEach es X.env)).any (·.1) = false := by rfl) :
    PE X (.Call (.Name x p) (e :: es) [] pos) (cE X.K X.mg W (eB fn t)) := by
  refine PE.of (pe_hX tk D hr hg ha hdb he hpl) ?_
  rintro σ H Q ⟨ρ, S, δ, s, x, g⟩
  refine ⟨ρ, S, δ, s, x, (G.bind g).imp ?_⟩
  rintro u H1 ⟨ρ1, S1, d1, L1, s1, r1, g1⟩
  exact ⟨ρ1, S1, d1, s1, r1, g1⟩
theorem fld_no {K : PySem.W.Frag} {mg : Str → Option Value} {ρ : List Addr} {H : Hp} {fs : List (Str × D)} {gs : List (Str × V)} (hf : FR K mg ρ H fs gs) : (fs.lookup m = none → gs.lookup m = none) ∧ ∀ d, fs.lookup m = some d → ∃ v, gs.lookup m = some v ∧ VR K mg ρ H d v := by
  induction hf with
  | nil => exact ⟨fun _ => rfl, fun _ h => by simp at h⟩
  | @cons y d v fs gs r _ ih =>
    rw [List.lookup_cons, List.lookup_cons]
    cases q : m == y with
    | true => exact ⟨fun h => by simp at h, fun d' h => by simp at h; subst h; exact ⟨v, rfl, r⟩⟩
    | false => exact ih
theorem fe_meth {cn : Str} (tk : Takes X W) (D : HasMF X.prog X.w X.K X.mg X.base k C m ps fn) (gC : X.mg cn = some (.ref C)) (c : Cls X.K C) (hr : Room k X.A) (ho : PE X o (cE X.K X.mg W fo)) (ha : PA X (e :: es) (cA X.K X.mg W t))
    (hst : starEach (e :: es) X.env = (false, eval e X.env) :: starEach es X.env := by rfl) (hpl : (backTo pos (starEach es X.env)).any (·.1) = false := by rfl)
    (ht : eval (.Call (.Attribute o m apos) (e :: es) [] pos) X.env = (do
      let ov ← eval o X.env
      standAt apos.atName
      let (f, first) ← holding [ov] (getMethod ov m pl)
      callWith pos f first (backTo pos (starEach (e :: es) X.env)) (backToKw pos (keywordEach [] X.env))) := by rfl) :
    PE X (.Call (.Attribute o m apos) (e :: es) [] pos) (cE X.K X.mg W (eMeth cn m fn fo t)) := by
  refine PE.of (pe_mX tk D c hr ho ha hst hpl ht) ?_
  rintro σ H Q ⟨ρ, S, δ, s, x, g⟩
  refine ⟨ρ, S, δ, s, x, (G.bind g).imp ?_⟩
  rintro u H1 ⟨ρ1, S1, d1, L1, s1, r1, g1⟩
  split at g1
  · rename_i i
    split at g1
    · rename_i C' fs hS
      split at g1
      · rename_i hc
        obtain ⟨rfl, hl⟩ := hc
        obtain ⟨a, Ca, dx, gs, rfl, hra, hg, ha, hf⟩ := s1.insA r1 hS
        rw [gC] at hg
        cases hg
        refine ⟨a, dx, gs, rfl, ha, (fld_no hf).1 hl, ρ1, S1, δ, s1, x.le L1, (G.bind g1).imp ?_⟩
        rintro us H2 ⟨ρ2, S2, d2, L2, s2, r2, g2⟩
        exact ⟨ρ2, S2, _, s2, .cons (r1.le L2) r2, g2⟩
      · exact g1.elim
    · exact g1.elim
  · exact g1.elim
theorem pe_mX0' {sp : Sp} (tk : Takes X W) (D : HasMX X.prog X.w X.K X.mg X.base k C m ps sp) (c : Cls X.K C) (hr : Room k X.A) {ta : TE} (ho : PE X o ta)
    (ht : eval (.Call (.Attribute o m apos) [] [] pos) X.env = (do
      let ov ← eval o X.env
      standAt apos.atName
      let (f, first) ← holding [ov] (getMethod ov m pl)
      callWith pos f first (backTo pos (starEach [] X.env)) (backToKw pos (keywordEach [] X.env))) := by rfl) :
    PE X (.Call (.Attribute o m apos) [] [] pos) (tMethW C m sp W ta tNil) := by
  obtain ⟨f, fd, G, M, b⟩ := D
  constructor
  intro pins s σ H Q I h
  refine PySem.W.methodCall_KW (pl := pl) (thn (ho.run pins s σ H _ I h) ?_) ht
  rintro u s1 ⟨x, H1, I1, rx, a, dx, fs, rfl, ea, l, q⟩
  obtain rfl : u = Value.ref a := rx
  refine getmeth_ok I1 ea c M l (PySem.W.callWith_K0 (first := [.ref a]) I1.kIn M.kp ?_)
  exact run_fnS (us := [.ref a]) (vs := [.ref a]) G hr b (passAt tk σ) I1 (.cons rfl .nil) q
theorem fe_meth0 {cn : Str} (tk : Takes X W) (D : HasMF X.prog X.w X.K X.mg X.base k C m ps fn) (gC : X.mg cn = some (.ref C)) (c : Cls X.K C) (hr : Room k X.A) (ho : PE X o (cE X.K X.mg W fo))
    (ht : eval (.Call (.Attribute o m apos) [] [] pos) X.env = (do
      let ov ← eval o X.env
      standAt apos.atName
      let (f, first) ← holding [ov] (getMethod ov m pl)
      callWith pos f first (backTo pos (starEach [] X.env)) (backToKw pos (keywordEach [] X.env))) := by rfl) :
    PE X (.Call (.Attribute o m apos) [] [] pos) (cE X.K X.mg W (eMeth cn m fn fo aNil)) := by
  refine PE.of (pe_mX0' tk D c hr ho ht) ?_
  rintro σ H Q ⟨ρ, S, δ, s, x, g⟩
  refine ⟨ρ, S, δ, s, x, (G.bind g).imp ?_⟩
  rintro u H1 ⟨ρ1, S1, d1, L1, s1, r1, g1⟩
  split at g1
  · rename_i i
    split at g1
    · rename_i C' fs hS
      split at g1
      · rename_i hc
        obtain ⟨rfl, hl⟩ := hc
        obtain ⟨a, Ca, dx, gs, rfl, hra, hg, ha, hf⟩ := s1.insA r1 hS
        rw [gC] at hg
        cases hg
        unfold aNil at g1
        rw [bind_ok] at g1
        exact ⟨a, dx, gs, rfl, ha, (fld_no hf).1 hl, ρ1, S1, [.ref i], s1, .cons r1 .nil, g1⟩
      · exact g1.elim
    · exact g1.elim
  · exact g1.elim
/-- o.f -/
def FldC (K : PySem.W.Frag) (mg : Str → Option Value) (cs : List Str) (f : Str) : Prop := ∀ n ∈ cs, ∀ a, mg n = some (.ref a) → Cls K a ∧ NoAttr K a f
theorem fe_fld {cs : List Str} {f : Str} (cl : FldC X.K X.mg cs f) (he : PE X e (cE X.K X.mg W fo)) (hb : attributeBase e f X.env (eval e X.env) = eval e X.env := by rfl) : PE X (.Attribute e f pos) (cE X.K X.mg W (eFld cs f fo)) := by
  refine PE.of (pe_fld he hb) ?_
  rintro σ H Q ⟨ρ, S, δ, s, x, g⟩
  refine ⟨ρ, S, δ, s, x, (G.bind g).imp ?_⟩
  rintro u H1 ⟨ρ1, S1, d1, L1, s1, r1, g1⟩
  unfold fldOf at g1
  split at g1
  · rename_i i
    split at g1
    · rename_i C' fs hS
      split at g1
      · rename_i hC
        split at g1
        · rename_i d hl
          obtain ⟨a, Ca, dx, gs, rfl, hra, hg, ha, hf⟩ := s1.insA r1 hS
          obtain ⟨v, hv, rv⟩ := (fld_no hf).2 d hl
          obtain ⟨c1, c2⟩ := cl C' hC Ca hg
          exact ⟨a, Ca, dx, gs, v, rfl, ha, c1, c2, hv, g1.ret Le.refl s1 rv⟩
        · exact g1.elim
      · exact g1.elim
    · exact g1.elim
  · exact g1.elim
theorem FR.put {K : PySem.W.Frag} {mg : Str → Option Value} {ρ : List Addr} {H : Hp} {f : Str} {d : D} {v : V} (r : VR K mg ρ H d v) : ∀ {fs : List (Str × D)} {gs : List (Str × V)}, FR K mg ρ H fs gs → FR K mg ρ H (putFD f d fs) (putF f v gs)
  | _, _, .nil => .cons r .nil
  | (y, _) :: _, _, .cons q t => by
    unfold putFD putF
    by_cases h : y = f
    · rw [if_pos h, if_pos h]; exact .cons r t
    · rw [if_neg h, if_neg h]; exact .cons q (FR.put r t)
theorem FR.length {K : PySem.W.Frag} {mg : Str → Option Value} {ρ : List Addr} {H : Hp} : ∀ {fs : List (Str × D)} {gs : List (Str × V)}, FR K mg ρ H fs gs → fs.length = gs.length
  | _, _, .nil => rfl
  | _, _, .cons _ t => congrArg (· + 1) t.length
theorem Sim.ref {K : PySem.W.Frag} {mg : Str → Option Value} {ρ : List Addr} {H : Hp} {i : Nat} {a : Addr} (r : VR K mg ρ H (.ref i) (.ref a)) : ρ[i]? = some a := by cases r; assumption
/-- o.f = e -/
theorem fs_fld {cs : List Str} {f : Str} {value : Expr} {fv : FE} {pos' : Pos} (cl : FldC X.K X.mg cs f) (he : PE X e (cE X.K X.mg W fo)) (hv : PE X value (cE X.K X.mg W fv)) (hs : swapsWith value (some (.Attribute e f pos)) pos'.line X.env = pure false := by rfl) : PS X (.Assign [.Attribute e f pos] value pos') (cS X.K X.mg W (sFld cs f fo fv)) := by
  refine PS.of (ps_fld he hv hs) ?_
  rintro D σ H ⟨ρ, S, δ, s, x, g⟩
  refine ⟨ρ, S, δ, s, x, (GS.bind g x).imp ?_⟩
  rintro u H1 ⟨ρ1, S1, d1, L1, s1, r1, g1⟩
  refine ⟨ρ1, S1, δ, s1, x.le L1, (GS.bind g1 (x.le L1)).imp ?_⟩
  rintro w H2 ⟨ρ2, S2, d2, L2, s2, r2, g2⟩
  split at g2
  · rename_i i
    split at g2
    · rename_i C' fs hS
      split at g2
      · rename_i hC
        obtain ⟨a, Ca, dx, gs, rfl, hra, hg, ha, hf⟩ := s2.insA r2 hS
        obtain ⟨c1, c2⟩ := cl C' hC.1 Ca hg
        have L3 : Le ρ2 H2 ρ2 (upd H2 a (.ins Ca dx (putF f u gs))) := Le.put (List.mem_of_getElem? hra)
        refine ⟨a, Ca, dx, gs, rfl, ha, c1, c2, by rw [← hf.length]; exact hC.2, g2 ρ2 _ σ L3 (s2.put hra (.ins hg upd_same (FR.put ((r1.le L2).le L3) (hf.le L3)))) (((x.le L1).le L2).le L3)⟩
      · exact g2.elim
    · exact g2.elim
  · exact g2.elim
theorem fs_rz {nm : Str} {pos2 : Pos} (hc : X.calm = true) (tk : Takes X W) (T : ExcAt X.K X.mg nm C) (hg : Gl X nm) (hdb : (nm == ("__debug__" : Str)) = false := by decide) :
    PS X (.Raise (some (.Call (.Name nm p) [] [] pos)) none pos2) (cS X.K X.mg W (sRz nm)) := by
  refine PS.of (ps_rz hc tk T hg hdb) ?_
  rintro D σ H ⟨ρ, S, δ, s, x, g⟩
  exact g ρ H σ C none Le.refl s x T.g (.inl ⟨rfl, rfl⟩)
/-- which errors are caught by which -/
def ExmF (K : PySem.W.Frag) (mg : Str → Option Value) (errs cs : List Str) : Prop := ∀ n ∈ errs, ∀ c ∈ cs, ∀ a b, mg n = some (.ref a) → mg c = some (.ref b) → PySem.W.exmOne K (.ref a) (.ref b) = some (n == c)
theorem takesN {X : Cx} : Takes X (fun _ _ _ _ => False) := takes0
theorem GS.calm {K : PySem.W.Frag} {mg : Str → Option Value} {r : RS} {ρ : List Addr} {H : Hp} {D : Ends} {W W' : WX} (g : GS K mg (noEx r) ρ H D W) : GS K mg r ρ H D W' := by
  cases r with
  | ex _ _ _ _ => exact False.elim g
  | nx _ _ => exact g
  | bk _ _ => exact g
  | ct _ _ => exact g
  | rt _ _ => exact g
  | no => exact g
abbrev SU (X : Cx) (fh : FS) (ss : List Stmt) : Prop := ∀ (a : Addr) (oe : Obj) (cls : Value) (d : Option Addr) (pn : List (Addr × Obj)), Zc cls d oe → (∃ vs, oe.data = .fields vs) → PSs (X.suite a ((a, oe) :: pn)) ss (cS X.K X.mg (fun _ _ _ _ => False) fh)
/-- the clauses of a try -/
inductive HdF (X : Cx) (errs : List Str) : List ExceptHandler → List (Str × FS) → Prop
  | nil : HdF X errs [] []
  | cons {nm : Str} {C : Addr} {b₀ : Stmt} {suite : List Stmt} {np pos' : Pos} {hds : List ExceptHandler} {l : List (Str × FS)} {fh : FS} (T : X.mg nm = some (.ref C)) (hg : Gl X nm) (hdb : (nm == ("__debug__" : Str)) = false) (em : ExmF X.K X.mg errs [nm])
      (hsu : SU X fh (b₀ :: suite)) (r : HdF X errs hds l) : HdF X errs (.ExceptHandler (some (.Name nm np)) none (b₀ :: suite) pos' :: hds) ((nm, fh) :: l)
theorem HdF.ok {errs : List Str} {hds : List ExceptHandler} {l : List (Str × FS)} (h : HdF X errs hds l) : ∃ L, HdsOk X hds L ∧ ∀ (n : Str) (fs : List (Str × D)) (δ : Env) (S : Sto) (ρ : List Addr) (H : Hp) (Dn : Ends) (W : WX), n ∈ errs →
    GS X.K X.mg (sHand l (fun δ S => .ex δ n fs S) n δ S) ρ H Dn W → ∀ ρ' H' σ c od, Le ρ H ρ' H' → Sim X.K X.mg ρ' S H' → ER X.K X.mg ρ' H' δ σ → X.mg n = some (.ref c) → XR X.K X.mg ρ' H' fs od → wMany X.K W Dn L (.ref c) od σ H' := by
  induction h with
  | nil => exact ⟨[], .nil, fun n fs δ S ρ H Dn W hn g ρ' H' σ c od L s x m y => g ρ' H' σ c od L s x m y⟩
  | @cons nm C b₀ suite np pos' hds l fh T hg hdb em hsu r ih =>
    obtain ⟨L0, h0, h1⟩ := ih
    refine ⟨(.ref C, fun _ _ _ => cS X.K X.mg (fun _ _ _ _ => False) fh) :: L0, .cons ⟨hg, hdb, .inl T⟩ hsu h0, fun n fs δ S ρ H Dn W hn g ρ' H' σ c od L s x m y => ?_⟩
    refine ⟨_, em n hn nm (List.mem_singleton.mpr rfl) c C m T, fun e a na => ?_, fun e => ?_⟩
    · have e' : n = nm := by simpa using e
      unfold sHand at g
      rw [if_pos e'] at g
      exact ⟨ρ', S, δ, s, x, GS.calm (GS.le g L)⟩
    · have e' : n ≠ nm := by simpa using e
      unfold sHand at g
      rw [if_neg e'] at g
      exact h1 n fs δ S ρ H Dn W hn g ρ' H' σ c od L s x m y
end
end KF
set_option Elab.async false
set_option linter.all false
set_option maxRecDepth 100000
set_option maxHeartbeats 4000000
namespace KF
open PySem PySem.Spec PyProof.Rows L2 KQ
section
variable {K : PySem.W.Frag} {mg : Str → Option Value} {ρ ρ' : List Addr} {H H' : Hp} {S S' : Sto} {Q : VK} {E : XK}
/-- a value told, nothing changed -/
theorem G.val {d : D} {v : V} (g : G K mg (VR K mg) (.ok d S) ρ H Q E) (s : Sim K mg ρ S H) (x : VR K mg ρ H d v) : Q v H := G.ret g Le.refl s x
theorem line_eq : sizeLine = line := by decide
theorem newtup {ds : List D} {vs : List V} (s : Sim K mg ρ S H) (r : VRs K mg ρ H ds vs) (g : G K mg (VR K mg) (.ok (.tup ds) S) ρ H Q E) : ∀ p, H p = none → Q (.ref p) (upd H p (.tup vs)) :=
  fun p np => G.ret g (Le.new np) (s.new np) (tupAt s np r)
theorem opl_add : OpL K mg opAdd (fun x y H Q => (rI0 (fun i j => .int (i + j)) x y H Q ∨ rCatA K x y H Q) ∨ rCat x y H Q) := by
  intro ρ S H x y u v Q E s rx ry g
  unfold opAdd at g
  split at g
  · cases rx; cases ry
    exact .inl (.inl ⟨_, _, rfl, rfl, g.val s (.int _)⟩)
  · split at g
    · rename_i hl
      cases rx with
      | @tup a vs _ h1 n1 k1 r1 =>
      cases ry with
      | @tup b ws _ h2 n2 k2 r2 =>
      have e1 := r1.length
      have e2 := r2.length
      refine .inl (.inr ⟨_, _, _, _, rfl, rfl, h1, h2, by rw [line_eq]; omega, fun e => ?_, fun _ e => ?_, fun _ _ => newtup s (r1.app r2) g⟩)
      · have : (_ : List D) = [] := List.length_eq_zero_iff.mp (by rw [e1, e]; rfl)
        subst this
        exact g.val s (.tup h2 n2 k2 r2)
      · have : (_ : List D) = [] := List.length_eq_zero_iff.mp (by rw [e2, e]; rfl)
        subst this
        rw [List.append_nil] at g
        exact g.val s (.tup h1 n1 k1 r1)
    · exact g.elim
  · split at g
    · rename_i h1 h2
      split at g
      · rename_i hl
        obtain ⟨a, vs, rfl, ha, q1, r1⟩ := s.lst rx h1
        obtain ⟨b, ws, rfl, hb, q2, r2⟩ := s.lst ry h2
        have e1 := r1.length
        have e2 := r2.length
        exact .inr ⟨a, b, vs, ws, rfl, rfl, q1, q2, by rw [line_eq]; omega, fun p np => newlst s np (r1.app r2) g⟩
      · exact g.elim
    · exact g.elim
  · exact g.elim
theorem opl_i0 {f : D → D → Sto → R D} {h : Int → Int → Int} (e : ∀ x y S, f x y S ≠ .no → ∃ i j, x = .int i ∧ y = .int j ∧ f x y S = .ok (.int (h i j)) S) : OpL K mg f (rI0 fun i j => .int (h i j)) := by
  intro ρ S H x y u v Q E s rx ry g
  obtain ⟨i, j, rfl, rfl, q⟩ := e x y S (fun z => by rw [z] at g; exact g)
  cases rx; cases ry
  rw [q] at g
  exact ⟨i, j, rfl, rfl, g.val s (.int _)⟩
theorem opl_sub : OpL K mg opSub (rI0 fun i j => .int (i - j)) := opl_i0 fun x y S h => by
  unfold opSub at h ⊢
  split at h
  · exact ⟨_, _, rfl, rfl, rfl⟩
  · exact absurd rfl h
theorem opl_cmp {p : Int → Int → Bool} : OpL K mg (cmpI p) (rI0 fun i j => .bl (p i j)) := by
  intro ρ S H x y u v Q E s rx ry g
  unfold cmpI at g
  split at g
  · cases rx; cases ry
    exact ⟨_, _, rfl, rfl, g.val s (.bl _)⟩
  · exact g.elim
theorem VRs.rep {ds : List D} {vs : List V} (r : VRs K mg ρ H ds vs) : ∀ n : Nat, VRs K mg ρ H (List.replicate n ds).flatten (List.replicate n vs).flatten
  | 0 => .nil
  | n + 1 => by
    rw [List.replicate_succ, List.replicate_succ, List.flatten_cons, List.flatten_cons]
    exact r.app (VRs.rep r n)
theorem opl_mul : OpL K mg opMul (fun x y H Q => ((rI L2.CMul (fun i j => .int (i * j)) x y H Q ∨ rI CMulW (fun i j => .int (i * j)) x y H Q) ∨ rRepA K x y H Q) ∨ rRep x y H Q) := by
  intro ρ S H x y u v Q E s rx ry g
  unfold opMul at g
  split at g
  · split at g
    · rename_i h
      cases rx; cases ry
      rcases h with h | h
      · exact .inl (.inl (.inl ⟨_, _, rfl, rfl, h, g.val s (.int _)⟩))
      · exact .inl (.inl (.inr ⟨_, _, rfl, rfl, h, g.val s (.int _)⟩))
    · exact g.elim
  · split at g
    · rename_i a k h
      cases ry
      cases rx with
      | @tup b vs _ h1 n1 k1 r1 =>
      have e1 := r1.length
      refine .inl (.inr ⟨b, k, vs, rfl, rfl, h1, ?_, h.2.1, h.2.2.1, by omega, fun e => ?_, fun _ => newtup s (r1.rep _) g⟩)
      · intro e
        exact h.1 (List.length_eq_zero_iff.mp (by rw [e1, e]; rfl))
      · subst e
        have : (List.replicate (1 : Int).toNat a).flatten = a := by simp
        rw [this] at g
        exact g.val s (.tup h1 n1 k1 r1)
    · exact g.elim
  · split at g
    · rename_i hS
      split at g
      · rename_i h
        cases ry
        obtain ⟨a, vs, rfl, ha, q1, r1⟩ := s.lst rx hS
        have e1 := r1.length
        exact .inr ⟨a, _, vs, rfl, rfl, q1, h.1, h.2.1, by rw [line_eq, ← e1]; exact h.2.2, fun p np => newlst s np (r1.rep _) g⟩
      · exact g.elim
    · exact g.elim
  · exact g.elim
theorem opl_mod : OpL K mg opMod (rI (fun _ j => j ≠ 0) fun i j => .int (i.fmod j)) := by
  intro ρ S H x y u v Q E s rx ry g
  unfold opMod at g
  split at g
  · split at g
    · rename_i h
      cases rx; cases ry
      exact ⟨_, _, rfl, rfl, h, g.val s (.int _)⟩
    · exact g.elim
  · exact g.elim
theorem opl_div : OpL K mg opDiv (rI L2.CDivN fun i j => .int (i.fdiv j)) := by
  intro ρ S H x y u v Q E s rx ry g
  unfold opDiv at g
  split at g
  · split at g
    · rename_i h
      cases rx; cases ry
      exact ⟨_, _, rfl, rfl, h, g.val s (.int _)⟩
    · exact g.elim
  · exact g.elim
theorem opl_pow : OpL K mg opPow (rI L2.CPow fun i j => .int (i ^ j.toNat)) := by
  intro ρ S H x y u v Q E s rx ry g
  unfold opPow at g
  split at g
  · split at g
    · rename_i h
      cases rx; cases ry
      exact ⟨_, _, rfl, rfl, h, g.val s (.int _)⟩
    · exact g.elim
  · exact g.elim
theorem opl_isB : OpL K mg opIsB rIsAny := by
  intro ρ S H x y u v Q E s rx ry g
  unfold opIsB at g
  split at g
  · rename_i b
    cases ry
    refine ⟨b, rfl, ?_⟩
    have e : isBl b x = decide (u = .bl b) := by
      cases rx with
      | bl a =>
        show (a == b) = decide (V.bl a = V.bl b)
        by_cases q : a = b
        · subst q; simp
        · rw [decide_eq_false (fun z => q (V.bl.inj z))]; simp [q]
      | _ => rfl
    rw [← e]
    exact g.val s (.bl _)
  · exact g.elim
end
section
variable {K : PySem.W.Frag} {mg : Str → Option Value} {ρ : List Addr} {H : Hp} {S : Sto}
mutual
theorem py_dp (s : Sim K mg ρ S H) : ∀ (n : Nat) (d : D) (v : V) (p : PyData), VR K mg ρ H d v → D.py S n d = some p → Dp K H v p
  | 0, _, _, _, _, e => by simp [D.py] at e
  | n + 1, d, v, p, r, e => by
    cases r with
    | non => simp [D.py] at e; subst e; exact .non
    | bl b => simp [D.py] at e; subst e; exact .bl b
    | int i => simp [D.py] at e; subst e; exact .int i
    | str x => simp [D.py] at e; subst e; exact .str x
    | byt x => simp [D.py] at e
    | ty x => simp [D.py] at e
    | cls h => simp [D.py] at e
    | scr h _ _ => simp [D.py] at e
    | tup h _ _ r =>
      rw [D.py] at e
      obtain ⟨ps, q, rfl⟩ := Option.map_eq_some_iff.mp e
      exact .tup h (py_dps s n _ _ ps r q)
    | @ref i a h =>
      rw [D.py] at e
      cases q : S[i]? with
      | none => rw [q] at e; simp at e
      | some o =>
        rw [q] at e
        cases o with
        | lst l =>
          obtain ⟨ps, q2, rfl⟩ := Option.map_eq_some_iff.mp e
          cases s.ob i _ a q h with
          | lst h2 r2 => exact .lst (SqL.of h2) (py_dps s n _ _ ps r2 q2)
        | dic t kvs => simp at e
        | ins C fs => simp at e
theorem py_dps (s : Sim K mg ρ S H) : ∀ (n : Nat) (ds : List D) (vs : List V) (ps : List PyData), VRs K mg ρ H ds vs → D.pys S n ds = some ps → DpAll K H vs ps
  | n, [], _, ps, r, e => by
    cases r
    simp [D.pys] at e
    subst e
    exact .nil
  | n, d :: l, _, ps, r, e => by
    cases r with
    | cons r t =>
      rw [D.pys] at e
      cases q1 : D.py S n d with
      | none => rw [q1] at e; simp at e
      | some x =>
        cases q2 : D.pys S n l with
        | none => rw [q1, q2] at e; simp at e
        | some xs =>
          rw [q1, q2] at e
          simp at e
          subst e
          exact .cons (py_dp s n d _ x r q1) (py_dps s n l _ xs t q2)
end
theorem opl_eq : OpL K mg opEq (fun x y H Q => rEqD K x y H Q ∨ rEq x y H Q) := by
  intro ρ S H x y u v Q E s rx ry g
  unfold opEq opEqN at g
  split at g
  · cases rx; cases ry
    rw [if_neg Bool.false_ne_true] at g
    refine .inr ⟨rfl, ?_⟩
    refine G.val g s ?_
    rename_i a b
    have : decide (V.byt a = V.byt b) = decide (a = b) := by
      by_cases q : a = b
      · subst q; simp
      · rw [decide_eq_false q, decide_eq_false (fun z => q (V.byt.inj z))]
    rw [this]
    exact .bl _
  · split at g
    · rename_i p q h1 h2
      split at g
      · rename_i h
        rw [Bool.and_eq_true] at h
        rw [if_neg Bool.false_ne_true] at g
        exact .inl ⟨p, q, py_dp s _ _ _ _ rx h1, py_dp s _ _ _ _ ry h2, h.1, h.2, g.val s (.bl _)⟩
      · exact g.elim
    · exact g.elim
theorem opl_ne : OpL K mg opNe (fun x y H Q => rNeD K x y H Q ∨ rNe x y H Q) := by
  intro ρ S H x y u v Q E s rx ry g
  unfold opNe opEqN at g
  split at g
  · cases rx; cases ry
    rw [if_pos rfl] at g
    refine .inr ⟨rfl, ?_⟩
    refine G.val g s ?_
    rename_i a b
    have : decide (V.byt a = V.byt b) = decide (a = b) := by
      by_cases q : a = b
      · subst q; simp
      · rw [decide_eq_false q, decide_eq_false (fun z => q (V.byt.inj z))]
    rw [this]
    exact .bl _
  · split at g
    · rename_i p q h1 h2
      split at g
      · rename_i h
        rw [Bool.and_eq_true] at h
        rw [if_pos rfl] at g
        exact .inl ⟨p, q, py_dp s _ _ _ _ rx h1, py_dp s _ _ _ _ ry h2, h.1, h.2, g.val s (.bl _)⟩
      · exact g.elim
    · exact g.elim
end
end KF
set_option Elab.async false
set_option linter.all false
set_option maxRecDepth 100000
set_option maxHeartbeats 4000000
namespace KF
open PySem PySem.Spec PyProof.Rows L2 KQ
section
variable {K : PySem.W.Frag} {mg : Str → Option Value} {ρ ρ' : List Addr} {H H' : Hp} {S S' : Sto} {Q : VK} {E : XK}
theorem KR.length : ∀ {es : List (DK × D)} {kvs : List (Key × V)}, KR K mg ρ H es kvs → es.length = kvs.length
  | _, _, .nil => rfl
  | _, _, .cons _ t => congrArg (· + 1) t.length
theorem TR.length : ∀ {es : List (DK × D)} {kvs : List (List Key × V)}, TR K mg ρ H es kvs → es.length = kvs.length
  | _, _, .nil => rfl
  | _, _, .cons _ t => congrArg (· + 1) t.length
theorem KR.get : ∀ {es : List (DK × D)} {kvs : List (Key × V)} (k : Key), KR K mg ρ H es kvs → (dgetD es (.inl k) = none ∧ valV kvs k = none) ∨ ∃ d v, dgetD es (.inl k) = some d ∧ valV kvs k = some v ∧ VR K mg ρ H d v
  | _, _, _, .nil => .inl ⟨rfl, rfl⟩
  | _, _, k, @KR.cons _ _ _ _ k' d v es kvs r t => by
    by_cases e : k' = k
    · subst e
      exact .inr ⟨d, v, by simp [dgetD], by simp [valV], r⟩
    · have h1 : dgetD ((.inl k', d) :: es) (.inl k) = dgetD es (.inl k) := by simp [dgetD, e]
      have h2 : valV ((k', v) :: kvs) k = valV kvs k := by simp [valV, e]
      rw [h1, h2]
      exact KR.get k t
theorem TR.get : ∀ {es : List (DK × D)} {kvs : List (List Key × V)} (k : List Key), TR K mg ρ H es kvs → (dgetD es (.inr k) = none ∧ valV kvs k = none) ∨ ∃ d v, dgetD es (.inr k) = some d ∧ valV kvs k = some v ∧ VR K mg ρ H d v
  | _, _, _, .nil => .inl ⟨rfl, rfl⟩
  | _, _, k, @TR.cons _ _ _ _ k' d v es kvs r t => by
    by_cases e : k' = k
    · subst e
      exact .inr ⟨d, v, by simp [dgetD], by simp [valV], r⟩
    · have h1 : dgetD ((.inr k', d) :: es) (.inr k) = dgetD es (.inr k) := by simp [dgetD, e]
      have h2 : valV ((k', v) :: kvs) k = valV kvs k := by simp [valV, e]
      rw [h1, h2]
      exact TR.get k t
theorem KR.app : ∀ {es fs : List (DK × D)} {kvs gs : List (Key × V)}, KR K mg ρ H es kvs → KR K mg ρ H fs gs → KR K mg ρ H (es ++ fs) (kvs ++ gs)
  | _, _, _, _, .nil, s => s
  | _, _, _, _, .cons r t, s => .cons r (t.app s)
theorem TR.app : ∀ {es fs : List (DK × D)} {kvs gs : List (List Key × V)}, TR K mg ρ H es kvs → TR K mg ρ H fs gs → TR K mg ρ H (es ++ fs) (kvs ++ gs)
  | _, _, _, _, .nil, s => s
  | _, _, _, _, .cons r t, s => .cons r (t.app s)
theorem KR.any : ∀ {es : List (DK × D)} {kvs : List (Key × V)} (k : Key), KR K mg ρ H es kvs → (es.any fun kv => decide (kv.1 = .inl k)) = kvs.any fun kv => decide (kv.1 = k)
  | _, _, _, .nil => rfl
  | _, _, k, @KR.cons _ _ _ _ k' d v es kvs r t => by
    rw [List.any_cons, List.any_cons, KR.any k t]
    simp
theorem TR.any : ∀ {es : List (DK × D)} {kvs : List (List Key × V)} (k : List Key), TR K mg ρ H es kvs → (es.any fun kv => decide (kv.1 = .inr k)) = kvs.any fun kv => decide (kv.1 = k)
  | _, _, _, .nil => rfl
  | _, _, k, @TR.cons _ _ _ _ k' d v es kvs r t => by
    rw [List.any_cons, List.any_cons, TR.any k t]
    simp
theorem KR.map {k : Key} {d : D} {v : V} (x : VR K mg ρ H d v) : ∀ {es : List (DK × D)} {kvs : List (Key × V)}, KR K mg ρ H es kvs → KR K mg ρ H (es.map fun kv => if kv.1 = .inl k then (kv.1, d) else kv) (kvs.map fun kv => if kv.1 = k then (kv.1, v) else kv)
  | _, _, .nil => .nil
  | _, _, @KR.cons _ _ _ _ k' d' v' es kvs r t => by
    rw [List.map_cons, List.map_cons]
    by_cases e : k' = k
    · subst e
      rw [if_pos rfl, if_pos rfl]
      exact .cons x (KR.map x t)
    · rw [if_neg (by simpa using e), if_neg e]
      exact .cons r (KR.map x t)
theorem TR.map {k : List Key} {d : D} {v : V} (x : VR K mg ρ H d v) : ∀ {es : List (DK × D)} {kvs : List (List Key × V)}, TR K mg ρ H es kvs → TR K mg ρ H (es.map fun kv => if kv.1 = .inr k then (kv.1, d) else kv) (kvs.map fun kv => if kv.1 = k then (kv.1, v) else kv)
  | _, _, .nil => .nil
  | _, _, @TR.cons _ _ _ _ k' d' v' es kvs r t => by
    rw [List.map_cons, List.map_cons]
    by_cases e : k' = k
    · subst e
      rw [if_pos rfl, if_pos rfl]
      exact .cons x (TR.map x t)
    · rw [if_neg (by simpa using e), if_neg e]
      exact .cons r (TR.map x t)
theorem KR.put {k : Key} {d : D} {v : V} (x : VR K mg ρ H d v) {es : List (DK × D)} {kvs : List (Key × V)} (r : KR K mg ρ H es kvs) : KR K mg ρ H (dputD es (.inl k) d) (putK kvs k v) := by
  unfold dputD putK
  rw [r.any k]
  split
  · exact r.map x
  · exact r.app (.cons x .nil)
theorem TR.put {k : List Key} {d : D} {v : V} (x : VR K mg ρ H d v) {es : List (DK × D)} {kvs : List (List Key × V)} (r : TR K mg ρ H es kvs) : TR K mg ρ H (dputD es (.inr k) d) (putK kvs k v) := by
  unfold dputD putK
  rw [r.any k]
  split
  · exact r.map x
  · exact r.app (.cons x .nil)
theorem KR.drop (k : Key) : ∀ {es : List (DK × D)} {kvs : List (Key × V)}, KR K mg ρ H es kvs → KR K mg ρ H (ddropD es (.inl k)) (dropK kvs k)
  | _, _, .nil => .nil
  | _, _, @KR.cons _ _ _ _ k' d v es kvs r t => by
    have ih := KR.drop k t
    unfold ddropD dropK at ih ⊢
    by_cases e : k' = k
    · subst e
      simpa using ih
    · rw [List.filter_cons_of_pos (by simpa using e), List.filter_cons_of_pos (by simpa using e)]
      exact .cons r ih
theorem KR.keys : ∀ {es : List (DK × D)} {kvs : List (Key × V)}, KR K mg ρ H es kvs → VRs K mg ρ H (es.map fun kv => kv.1.toD) (kvs.map fun kv => kV kv.1)
  | _, _, .nil => .nil
  | _, _, @KR.cons _ _ _ _ k d v es kvs r t => by
    refine .cons ?_ (KR.keys t)
    cases k with
    | inl i => exact .int i
    | inr x => exact .str x
theorem Sim.dicK (s : Sim K mg ρ S H) {i : Nat} {es : List (DK × D)} {v : V} (r : VR K mg ρ H (.ref i) v) (e : S[i]? = some (.dic false es)) : ∃ a kvs, v = .ref a ∧ ρ[i]? = some a ∧ H a = some (.dK kvs) ∧ KR K mg ρ H es kvs := by
  cases r with
  | ref h =>
    cases s.ob _ _ _ e h with
    | dK q r => exact ⟨_, _, rfl, h, q, r⟩
theorem Sim.dicT (s : Sim K mg ρ S H) {i : Nat} {es : List (DK × D)} {v : V} (r : VR K mg ρ H (.ref i) v) (e : S[i]? = some (.dic true es)) : ∃ a kvs, v = .ref a ∧ ρ[i]? = some a ∧ H a = some (.dT kvs) ∧ TR K mg ρ H es kvs := by
  cases r with
  | ref h =>
    cases s.ob _ _ _ e h with
    | dT q r => exact ⟨_, _, rfl, h, q, r⟩
theorem ints_kV : ∀ {l : List D} {vs : List V}, VRs K mg ρ H l vs → l.all intD = true → (l.map keyOf).map kV = vs
  | _, _, .nil, _ => rfl
  | _, _, .cons (d := d) r t, h => by
    rw [List.all_cons, Bool.and_eq_true] at h
    rw [List.map_cons, List.map_cons, ints_kV t h.2]
    cases d with
    | int i => cases r; rfl
    | _ => exact absurd h.1 (by simp [intD])
theorem key_K {d : D} {v : V} {k : DK} (r : VR K mg ρ H d v) (e : keyIn false d = some k) : ∃ k', k = .inl k' ∧ v = kV k' := by
  unfold keyIn dkOf at e
  split at e
  · cases r; simp [DK.isT] at e; subst e; exact ⟨_, rfl, rfl⟩
  · cases r; simp [DK.isT] at e; subst e; exact ⟨_, rfl, rfl⟩
  · split at e
    · simp [DK.isT] at e
    · simp at e
  · simp at e
theorem key_T {d : D} {v : V} {k : DK} (r : VR K mg ρ H d v) (e : keyIn true d = some k) : ∃ k' b, k = .inr k' ∧ v = .ref b ∧ H b = some (.tup (k'.map kV)) := by
  unfold keyIn dkOf at e
  split at e
  · simp [DK.isT] at e
  · simp [DK.isT] at e
  · split at e
    · rename_i l hk
      simp [DK.isT] at e
      subst e
      cases r with
      | tup h n k r =>
        refine ⟨_, _, rfl, rfl, ?_⟩
        have ha : l.all intD = true := by
          unfold keyish at hk
          rw [Bool.and_eq_true] at hk
          exact hk.2
        rw [ints_kV r ha]
        exact (k hk).1
    · simp at e
  · simp at e
/-- what a dict tells -/
theorem dget_ok (s : Sim K mg ρ S H) {i : Nat} {t : Bool} {es : List (DK × D)} {x y : D} {u w : V} {k : DK} (e : S[i]? = some (.dic t es)) (rx : VR K mg ρ H (.ref i) u) (ry : VR K mg ρ H y w) (hk : keyIn t y = some k) :
    ∃ a o, u = .ref a ∧ DGet H a w o ∧ ((dgetD es k = none ∧ o = none) ∨ ∃ d v, dgetD es k = some d ∧ o = some v ∧ VR K mg ρ H d v) := by
  cases t with
  | false =>
    obtain ⟨a, kvs, rfl, _, q, r⟩ := s.dicK rx e
    obtain ⟨k', rfl, rfl⟩ := key_K ry hk
    refine ⟨a, _, rfl, DGet.k q, ?_⟩
    rcases r.get k' with ⟨h1, h2⟩ | ⟨d, v, h1, h2, h3⟩
    · exact .inl ⟨h1, h2⟩
    · exact .inr ⟨d, v, h1, h2, h3⟩
  | true =>
    obtain ⟨a, kvs, rfl, _, q, r⟩ := s.dicT rx e
    obtain ⟨k', b, rfl, rfl, hb⟩ := key_T ry hk
    refine ⟨a, _, rfl, DGet.t q hb, ?_⟩
    rcases r.get k' with ⟨h1, h2⟩ | ⟨d, v, h1, h2, h3⟩
    · exact .inl ⟨h1, h2⟩
    · exact .inr ⟨d, v, h1, h2, h3⟩
theorem dput_ok (s : Sim K mg ρ S H) {i : Nat} {t : Bool} {es : List (DK × D)} {y d : D} {u w v : V} {k : DK} (e : S[i]? = some (.dic t es)) (rx : VR K mg ρ H (.ref i) u) (ry : VR K mg ρ H y w) (rd : VR K mg ρ H d v) (hk : keyIn t y = some k) (hl : es.length < line) :
    ∃ a H', u = .ref a ∧ DPut H a w v H' ∧ Le ρ H ρ H' ∧ Sim K mg ρ (S.set i (.dic t (dputD es k d))) H' := by
  cases t with
  | false =>
    obtain ⟨a, kvs, rfl, ha, q, r⟩ := s.dicK rx e
    obtain ⟨k', rfl, rfl⟩ := key_K ry hk
    have L : Le ρ H ρ (upd H a (.dK (putK kvs k' v))) := Le.put (List.mem_of_getElem? ha)
    exact ⟨a, _, rfl, DPut.k q (by rw [← r.length]; exact hl), L, s.put ha (.dK upd_same (KR.put (rd.le L) (r.le L)))⟩
  | true =>
    obtain ⟨a, kvs, rfl, ha, q, r⟩ := s.dicT rx e
    obtain ⟨k', b, rfl, rfl, hb⟩ := key_T ry hk
    have L : Le ρ H ρ (upd H a (.dT (putK kvs k' v))) := Le.put (List.mem_of_getElem? ha)
    exact ⟨a, _, rfl, DPut.t q hb (by rw [← r.length]; exact hl), L, s.put ha (.dT upd_same (TR.put (rd.le L) (r.le L)))⟩
theorem VRs.atI {ds : List D} {vs : List V} {i : Int} {d : D} (r : VRs K mg ρ H ds vs) (e : L2.atI ds i = some d) : ∃ v, L2.atI vs i = some v ∧ VR K mg ρ H d v := by
  unfold L2.atI at e ⊢
  rw [r.length] at e
  cases q : ixN vs.length i with
  | none => rw [q] at e; simp at e
  | some j =>
    rw [q] at e
    obtain ⟨v, h1, h2⟩ := r.get (i := j) (d := d) (by simpa using e)
    exact ⟨v, by simpa using h1, h2⟩
theorem VRs.cut {ds : List D} {vs : List V} (r : VRs K mg ρ H ds vs) (lo hi : Option Int) : VRs K mg ρ H (cutD ds lo hi) (cutV vs lo hi) := by
  unfold cutD cutV
  rw [r.length]
  exact (r.drop _).take _
end
section
variable {X : Cx} {W : WX} {a b e o : Expr} {es : List Expr} {fa fb fo : FE} {t : FA} {pos p : Pos}
theorem IxR.or {r r' : R2} (h : IxR X r) (h' : IxR X r') : IxR X (fun x y H Q => r x y H Q ∨ r' x y H Q) := by
  intro value slice pins s σ H x y v u Q I rx ry q z
  rcases q with q | q
  · exact h value slice pins s σ H x y v u Q I rx ry q z
  · exact h' value slice pins s σ H x y v u Q I rx ry q z
/-- x[i], not of a dict -/
def opIxS (x y : D) (S : Sto) : R D := match x with
  | .ref a => match S[a]? with
    | some (.lst _) => opIx x y S
    | _ => .no
  | _ => opIx x y S
def opIxD (x y : D) (S : Sto) : R D := match x with
  | .ref a => match S[a]? with
    | some (.dic _ _) => opIx x y S
    | _ => .no
  | _ => .no
theorem fe_ixS (ha : PE X a (cE X.K X.mg W fa)) (hb : PE X b (cE X.K X.mg W fb)) (hs : PlainIx b := by intro _ _; rfl) : PE X (.Subscript a b pos) (cE X.K X.mg W (eOp opIxS fa fb)) := by
  refine PE.of (pe_ix ((ix_list.or ix_tup).or ix_str) ha hb hs) ?_
  rintro σ H Q ⟨ρ, S, δ, s, x, g⟩
  refine ⟨ρ, S, δ, s, x, (G.bind g).imp ?_⟩
  rintro u H1 ⟨ρ1, S1, d1, L1, s1, r1, g1⟩
  refine ⟨ρ1, S1, δ, s1, x.le L1, (G.bind g1).imp ?_⟩
  rintro v H2 ⟨ρ2, S2, d2, L2, s2, r2, g2⟩
  replace r1 := r1.le L2
  unfold opIxS at g2
  split at g2
  · rename_i i
    split at g2
    · rename_i l hS
      obtain ⟨p, vs, rfl, hp, q, r⟩ := s2.lst r1 hS
      unfold opIx at g2
      dsimp only at g2
      rw [hS] at g2
      dsimp only at g2
      split at g2
      · split at g2
        · rename_i d hd
          cases r2
          obtain ⟨w, h1, h2⟩ := r.atI hd
          exact .inl (.inl ⟨p, vs, _, w, rfl, rfl, SqL.of q, h1, g2.val s2 h2⟩)
        · exact g2.elim
      · exact g2.elim
    · exact g2.elim
  · rename_i hn
    unfold opIx at g2
    split at g2
    · split at g2
      · split at g2
        · rename_i d hd
          cases r2
          cases r1 with
          | tup h _ _ r =>
            obtain ⟨w, h1, h2⟩ := r.atI hd
            exact .inl (.inr ⟨_, _, _, w, rfl, rfl, h, h1, g2.val s2 h2⟩)
        · exact g2.elim
      · exact g2.elim
    · split at g2
      · split at g2
        · rename_i hz
          split at g2
          · rename_i c hc
            cases r2
            cases r1
            exact .inr ⟨_, _, c, rfl, rfl, hz, hc, g2.val s2 (.str _)⟩
          · exact g2.elim
        · exact g2.elim
      · exact g2.elim
    · rename_i i
      exact absurd rfl (hn i)
    · exact g2.elim
theorem fe_ixD (hu : X.A.units + 1 < cLine) (ha : PE X a (cE X.K X.mg W fa)) (hb : PE X b (cE X.K X.mg W fb)) (hs : NoSl b := by intro _ _; rfl) : PE X (.Subscript a b pos) (cE X.K X.mg W (eOp opIxD fa fb)) := by
  refine PE.of (pe_dget hu ha hb hs) ?_
  rintro σ H Q ⟨ρ, S, δ, s, x, g⟩
  refine ⟨ρ, S, δ, s, x, (G.bind g).imp ?_⟩
  rintro u H1 ⟨ρ1, S1, d1, L1, s1, r1, g1⟩
  refine ⟨ρ1, S1, δ, s1, x.le L1, (G.bind g1).imp ?_⟩
  rintro v H2 ⟨ρ2, S2, d2, L2, s2, r2, g2⟩
  replace r1 := r1.le L2
  unfold opIxD at g2
  split at g2
  · rename_i i
    split at g2
    · rename_i t kvs hS
      unfold opIx at g2
      dsimp only at g2
      rw [hS] at g2
      dsimp only at g2
      cases hk : keyIn t d2 with
      | none => rw [hk] at g2; exact g2.elim
      | some k =>
        rw [hk] at g2
        obtain ⟨a, o, rfl, hg, hh⟩ := dget_ok (x := .ref i) s2 hS r1 r2 hk
        rcases hh with ⟨h1, h2⟩ | ⟨d, v, h1, rfl, h3⟩
        · rw [Option.bind_some, h1] at g2; exact g2.elim
        · rw [Option.bind_some, h1] at g2
          exact ⟨a, v, rfl, hg, g2.val s2 h3⟩
    · exact g2.elim
  · exact g2.elim
/-- one function or the other -/
theorem fe_alt {f1 f2 f : FE} (h1 : PE X e (cE X.K X.mg W f1)) (h2 : PE X e (cE X.K X.mg W f2)) (h : ∀ δ S, f δ S = f1 δ S ∨ f δ S = f2 δ S ∨ f δ S = .no) : PE X e (cE X.K X.mg W f) := by
  refine PE.of (PE.or h1 h2) ?_
  rintro σ H Q ⟨ρ, S, δ, s, x, g⟩
  rcases h δ S with q | q | q
  · rw [q] at g; exact .inl ⟨ρ, S, δ, s, x, g⟩
  · rw [q] at g; exact .inr ⟨ρ, S, δ, s, x, g⟩
  · rw [q] at g; exact g.elim
theorem eOp_or {r1 r2 r : D → D → Sto → R D} (h : ∀ x y S, r x y S = r1 x y S ∨ r x y S = r2 x y S ∨ r x y S = .no) (δ : Env) (S : Sto) : eOp r fa fb δ S = eOp r1 fa fb δ S ∨ eOp r fa fb δ S = eOp r2 fa fb δ S ∨ eOp r fa fb δ S = .no := by
  unfold eOp
  cases fa δ S with
  | ok x S1 =>
    simp only [bind_ok]
    cases fb δ S1 with
    | ok y S2 => simp only [bind_ok]; exact h x y S2
    | ex n fs S2 => exact .inl rfl
    | no => exact .inl rfl
  | ex n fs S1 => exact .inl rfl
  | no => exact .inl rfl
theorem fe_ix (hu : X.A.units + 1 < cLine) (ha : PE X a (cE X.K X.mg W fa)) (hb : PE X b (cE X.K X.mg W fb)) (hs : PlainIx b := by intro _ _; rfl) (hs' : NoSl b := by intro _ _; rfl) : PE X (.Subscript a b pos) (cE X.K X.mg W (eOp opIx fa fb)) := by
  refine fe_alt (fe_ixS ha hb hs) (fe_ixD hu ha hb hs') (eOp_or fun x y S => ?_)
  unfold opIxS opIxD
  cases x with
  | ref i =>
    dsimp only
    cases q : S[i]? with
    | none => exact .inr (.inr (by unfold opIx; dsimp only; rw [q]))
    | some o =>
      cases o with
      | lst l => exact .inl rfl
      | dic t kvs => exact .inr (.inl rfl)
      | ins C fs => exact .inr (.inr (by unfold opIx; dsimp only; rw [q]))
  | _ => exact .inl rfl
theorem fo_none : PO X none (cO X.K X.mg W oNo) := by
  refine PO.of po_none ?_
  rintro σ H Q ⟨ρ, S, δ, s, x, g⟩
  exact G.ret (b := none) g Le.refl s rfl
theorem fo_some (h : PE X e (cE X.K X.mg W fo)) : PO X (some e) (cO X.K X.mg W (oAt fo)) := by
  refine PO.of (po_some h) ?_
  rintro σ H Q ⟨ρ, S, δ, s, x, g⟩
  refine ⟨ρ, S, δ, s, x, (G.bind g).imp ?_⟩
  rintro u H1 ⟨ρ1, S1, d1, L1, s1, r1, g1⟩
  split at g1
  · cases r1
    exact ⟨_, rfl, G.ret (b := some _) g1 Le.refl s1 rfl⟩
  · exact g1.elim
theorem SlR.or {r r' : V → Option Int → Option Int → Hp → VK → Prop} (h : SlR X r) (h' : SlR X r') : SlR X (fun x l u H Q => r x l u H Q ∨ r' x l u H Q) := by
  intro pins s σ H x v vl vu lo hi sl Q I rx hs pl pu q
  exact q.elim (h pins s σ H x v vl vu lo hi sl Q I rx hs pl pu) (h' pins s σ H x v vl vu lo hi sl Q I rx hs pl pu)
theorem cutD_whole {ds : List D} {lo hi : Option Int} (h : HT.sIx ds.length 0 lo = 0 ∧ HT.sIx ds.length ds.length hi = ds.length) : cutD ds lo hi = ds := by
  rw [cutD, h.1, h.2, List.drop_zero, Nat.sub_zero, List.take_length]
theorem fe_sl {lo hi : Option Expr} {fl fh : FO} {p2 : Pos} (ha : PE X a (cE X.K X.mg W fa)) (hl : PO X lo (cO X.K X.mg W fl)) (hh : PO X hi (cO X.K X.mg W fh)) : PE X (.Subscript a (.Slice lo hi none p2) pos) (cE X.K X.mg W (eSl fa fl fh)) := by
  refine PE.of (pe_slice ((sl_list.or sl_tupA).or sl_str) ha hl hh) ?_
  rintro σ H Q ⟨ρ, S, δ, s, x, g⟩
  refine ⟨ρ, S, δ, s, x, (G.bind g).imp ?_⟩
  rintro u H1 ⟨ρ1, S1, d1, L1, s1, r1, g1⟩
  refine ⟨ρ1, S1, δ, s1, x.le L1, (G.bind g1).imp ?_⟩
  rintro l H2 ⟨ρ2, S2, l', L2, s2, rfl, g2⟩
  refine ⟨ρ2, S2, δ, s2, (x.le L1).le L2, (G.bind g2).imp ?_⟩
  rintro h H3 ⟨ρ3, S3, h', L3, s3, rfl, g3⟩
  replace r1 := (r1.le L2).le L3
  unfold opSl at g3
  split at g3
  · cases r1 with
    | @tup p vs ds hq n k r =>
      refine .inl (.inr ⟨p, vs, rfl, hq, fun w => ?_, fun _ => newtup s3 (r.cut _ _) g3⟩)
      rw [← r.length] at w
      rw [cutD_whole w] at g3
      exact g3.val s3 (.tup hq n k r)
  · split at g3
    · rename_i hS
      obtain ⟨p, vs, rfl, hp, q, r⟩ := s3.lst r1 hS
      exact .inl (.inl ⟨p, vs, rfl, SqL.of q, fun p np => newlst s3 np (r.cut _ _) g3⟩)
    · exact g3.elim
  · split at g3
    · rename_i hz
      cases r1
      exact .inr ⟨_, rfl, hz, g3.val s3 (.str _)⟩
    · exact g3.elim
  · exact g3.elim
theorem fc_in (hu : X.A.units + 1 < cLine) (ha : PE X a (cE X.K X.mg W fa)) (hb : PE X b (cE X.K X.mg W fb)) : PC X .In a b (cE X.K X.mg W (eOp (opInD false) fa fb)) := by
  have h := pc_din hu ha hb
  refine ⟨fun pins s σ H Q I q => h.run pins s σ H Q I ?_⟩
  obtain ⟨ρ, S, δ, s, x, g⟩ := q
  refine ⟨ρ, S, δ, s, x, (G.bind g).imp ?_⟩
  rintro u H1 ⟨ρ1, S1, d1, L1, s1, r1, g1⟩
  refine ⟨ρ1, S1, δ, s1, x.le L1, (G.bind g1).imp ?_⟩
  rintro v H2 ⟨ρ2, S2, d2, L2, s2, r2, g2⟩
  unfold opInD at g2
  split at g2
  · split at g2
    · rename_i t kvs hS
      split at g2
      · rename_i k hk
        obtain ⟨a, o, rfl, hg, hh⟩ := dget_ok (x := .non) s2 hS r2 (r1.le L2) hk
        refine ⟨a, o, rfl, hg, ?_⟩
        rw [if_neg Bool.false_ne_true] at g2
        have : (dgetD kvs k).isSome = o.isSome := by rcases hh with ⟨h1, h2⟩ | ⟨d, v, h1, h2, h3⟩ <;> rw [h1, h2] <;> rfl
        rw [this] at g2
        exact g2.val s2 (.bl _)
      · exact g2.elim
    · exact g2.elim
  · exact g2.elim
theorem fc_notin (hu : X.A.units + 1 < cLine) (ha : PE X a (cE X.K X.mg W fa)) (hb : PE X b (cE X.K X.mg W fb)) : PC X .NotIn a b (cE X.K X.mg W (eOp (opInD true) fa fb)) := by
  have h := pc_dnotin hu ha hb
  refine ⟨fun pins s σ H Q I q => h.run pins s σ H Q I ?_⟩
  obtain ⟨ρ, S, δ, s, x, g⟩ := q
  refine ⟨ρ, S, δ, s, x, (G.bind g).imp ?_⟩
  rintro u H1 ⟨ρ1, S1, d1, L1, s1, r1, g1⟩
  refine ⟨ρ1, S1, δ, s1, x.le L1, (G.bind g1).imp ?_⟩
  rintro v H2 ⟨ρ2, S2, d2, L2, s2, r2, g2⟩
  unfold opInD at g2
  split at g2
  · split at g2
    · rename_i t kvs hS
      split at g2
      · rename_i k hk
        obtain ⟨a, o, rfl, hg, hh⟩ := dget_ok (x := .non) s2 hS r2 (r1.le L2) hk
        refine ⟨a, o, rfl, hg, ?_⟩
        rw [if_pos rfl] at g2
        have : (dgetD kvs k).isSome = o.isSome := by rcases hh with ⟨h1, h2⟩ | ⟨d, v, h1, h2, h3⟩ <;> rw [h1, h2] <;> rfl
        rw [this] at g2
        exact g2.val s2 (.bl _)
      · exact g2.elim
    · exact g2.elim
  · exact g2.elim
/-- {} -/
theorem fe_dic0 : PE X (.Dict [] [] pos) (cE X.K X.mg W (eDic0 false)) := by
  refine PE.of pe_dnewK ?_
  rintro σ H Q ⟨ρ, S, δ, s, x, g⟩ p np
  exact allocd s np (.dK upd_same .nil) g
end
end KF
set_option Elab.async false
set_option linter.all false
set_option maxRecDepth 100000
set_option maxHeartbeats 4000000
namespace KF
open PySem PySem.Spec PyProof.Rows L2 KQ
/-- a built-in function's values are followed -/
def BL (K : PySem.W.Frag) (mg : Str → Option Value) (f : List D → Sto → R D) (r : List V → Hp → VK → Prop) : Prop :=
  ∀ ρ S H ds vs Q E, Sim K mg ρ S H → VRs K mg ρ H ds vs → G K mg (VR K mg) (f ds S) ρ H Q E → r vs H Q
section
variable {X : Cx} {W : WX} {a b e o : Expr} {es : List Expr} {fa fb fo : FE} {t : FA} {pos p apos cpos : Pos} {x name : Str} {id T : String} {r r' : List V → Hp → VK → Prop} {f : List D → Sto → R D}
theorem CallR.or {f : Value} (h : CallR X f r) (h' : CallR X f r') : CallR X f (fun xs H Q => r xs H Q ∨ r' xs H Q) := by
  intro pins s σ H vs us Q I rr q
  rcases q with q | q
  · exact h pins s σ H vs us Q I rr q
  · exact h' pins s σ H vs us Q I rr q
theorem fe_b (hc : CallR X (.builtin id) r) (l : BL X.K X.mg f r) (hg : Gl X x) (hm : X.mg x = none) (hv : bootBuiltins x = some (.builtin id)) (ha : PA X (e :: es) (cA X.K X.mg W t)) (hn : x ≠ "__name__" := by decide) (hdb : (x == ("__debug__" : Str)) = false := by decide)
    (he : starEach (e :: es) X.env = (false, eval e X.env) :: starEach es X.env := by rfl) (hpl : (backTo pos (starEach es X.env)).any (·.1) = false := by rfl) : PE X (.Call (.Name x p) (e :: es) [] pos) (cE X.K X.mg W (eB f t)) := by
  refine PE.of (pe_callB hc hg hm hv ha hn hdb he hpl) ?_
  rintro σ H Q ⟨ρ, S, δ, s, x, g⟩
  refine ⟨ρ, S, δ, s, x, (G.bind g).imp ?_⟩
  rintro u H1 ⟨ρ1, S1, d1, L1, s1, r1, g1⟩
  exact l _ _ _ _ _ _ _ s1 r1 g1
theorem fe_bT (hc : CallR X (.type T) r) (l : BL X.K X.mg f r) (hg : Gl X x) (hm : X.mg x = none) (hv : bootBuiltins x = some (.type T)) (ha : PA X (e :: es) (cA X.K X.mg W t)) (hn : x ≠ "__name__" := by decide) (hdb : (x == ("__debug__" : Str)) = false := by decide)
    (he : starEach (e :: es) X.env = (false, eval e X.env) :: starEach es X.env := by rfl) (hpl : (backTo pos (starEach es X.env)).any (·.1) = false := by rfl) : PE X (.Call (.Name x p) (e :: es) [] pos) (cE X.K X.mg W (eB f t)) := by
  refine PE.of (pe_callTy hc hg hm hv ha hn hdb he hpl) ?_
  rintro σ H Q ⟨ρ, S, δ, s, x, g⟩
  refine ⟨ρ, S, δ, s, x, (G.bind g).imp ?_⟩
  rintro u H1 ⟨ρ1, S1, d1, L1, s1, r1, g1⟩
  exact l _ _ _ _ _ _ _ s1 r1 g1
end
section
variable {K : PySem.W.Frag} {mg : Str → Option Value} {ρ : List Addr} {H : Hp} {S : Sto}
theorem VRs.one {d : D} {vs : List V} (r : VRs K mg ρ H [d] vs) : ∃ v, vs = [v] ∧ VR K mg ρ H d v := by
  cases r with
  | cons r t => cases t; exact ⟨_, rfl, r⟩
theorem VRs.two {d e : D} {vs : List V} (r : VRs K mg ρ H [d, e] vs) : ∃ v w, vs = [v, w] ∧ VR K mg ρ H d v ∧ VR K mg ρ H e w := by
  cases r with
  | cons r t =>
    obtain ⟨w, e, r2⟩ := t.one
    subst e
    exact ⟨_, w, rfl, r, r2⟩
theorem intsOf_eq : ∀ {ds : List D} {is : List Int}, intsOf ds = some is → ds = is.map D.int
  | [], is, e => by simp [intsOf] at e; subst e; rfl
  | d :: l, is, e => by
    cases d with
    | int i =>
      rw [intsOf] at e
      obtain ⟨js, h, rfl⟩ := Option.map_eq_some_iff.mp e
      rw [intsOf_eq h]; rfl
    | _ => simp [intsOf] at e
theorem intsV : ∀ {is : List Int} {vs : List V}, VRs K mg ρ H (is.map D.int) vs → vs = is.map V.int
  | [], _, r => by cases r; rfl
  | i :: l, _, r => by
    cases r with
    | cons r t => cases r; rw [intsV t]; rfl
/-- what a sequence holds, by values -/
theorem seq_ok (s : Sim K mg ρ S H) {d : D} {v : V} {l : List D} (r : VR K mg ρ H d v) (e : seqOf S d = some l) : ∃ a vs, v = .ref a ∧ VRs K mg ρ H l vs ∧ ((H a = some (.lst vs) ∧ ∃ i, d = .ref i ∧ S[i]? = some (.lst l)) ∨ (SqT K H a vs ∧ d = .tup l)) := by
  unfold seqOf at e
  split at e
  · simp at e; subst e
    cases r with
    | tup h n k r => exact ⟨_, _, rfl, r, .inr ⟨h, rfl⟩⟩
  · split at e
    · rename_i hS
      simp at e; subst e
      obtain ⟨a, vs, rfl, _, q, r⟩ := s.lst r hS
      exact ⟨a, vs, rfl, r, .inl ⟨q, _, rfl, hS⟩⟩
    · simp at e
  · simp at e
theorem bl_len : BL K mg bLen (fun xs H Q => ((∃ p ys, xs = [.ref p] ∧ (SqL K H p ys ∨ SqT K H p ys) ∧ Q (.int ys.length) H) ∨ (∃ z : Str, xs = [.str z] ∧ z.length ≤ sizeLine ∧ Q (.int z.length) H)) ∨ ∃ a kvs, xs = [V.ref a] ∧ H a = some (.dK kvs) ∧ Q (.int kvs.length) H) := by
  intro ρ S H ds vs Q E s r g
  unfold bLen at g
  split at g
  · obtain ⟨v, rfl, r1⟩ := r.one; clear r; have r := r1; clear r1
    cases r with
    | tup h n k r =>
      rw [r.length] at g
      exact .inl (.inl ⟨_, _, rfl, .inr h, g.val s (.int _)⟩)
  · obtain ⟨v, rfl, r1⟩ := r.one; clear r; have r := r1; clear r1
    cases r
    split at g
    · rename_i hz
      exact .inl (.inr ⟨_, rfl, hz, g.val s (.int _)⟩)
    · exact g.elim
  · obtain ⟨v, rfl, r1⟩ := r.one; clear r; have r := r1; clear r1
    split at g
    · rename_i hS
      obtain ⟨a, vs, rfl, _, q, r⟩ := s.lst r hS
      rw [r.length] at g
      exact .inl (.inl ⟨_, _, rfl, .inl (SqL.of q), g.val s (.int _)⟩)
    · rename_i hS
      obtain ⟨a, kvs, rfl, _, q, r⟩ := s.dicK r hS
      rw [r.length] at g
      exact .inr ⟨_, _, rfl, q, g.val s (.int _)⟩
    · exact g.elim
  · exact g.elim
theorem bl_max2 : BL K mg bMax2 (fun xs H Q => ∃ i j, xs = [.int i, .int j] ∧ Q (.int (if j > i then j else i)) H) := by
  intro ρ S H ds vs Q E s r g
  unfold bMax2 at g
  split at g
  · obtain ⟨v, w, rfl, r1, r2⟩ := r.two
    cases r1; cases r2
    exact ⟨_, _, rfl, g.val s (.int _)⟩
  · exact g.elim
theorem bl_tuple : BL K mg bTuple (fun xs H Q => ∃ p ys, xs = [.ref p] ∧ ((SqL K H p ys ∧ ∀ l, H l = none → Q (.ref l) (upd H l (.tup ys))) ∨ (SqT K H p ys ∧ Q (.ref p) H))) := by
  intro ρ S H ds vs Q E s r g
  unfold bTuple at g
  split at g
  · obtain ⟨v, rfl, r1⟩ := r.one; clear r; have r := r1; clear r1
    split at g
    · rename_i l h
      obtain ⟨a, vs, rfl, rl, q⟩ := seq_ok s r h
      rcases q with ⟨q, _⟩ | ⟨q, e⟩
      · exact ⟨a, vs, rfl, .inl ⟨SqL.of q, newtup s rl g⟩⟩
      · subst e
        exact ⟨a, vs, rfl, .inr ⟨q, g.val s r⟩⟩
    · exact g.elim
  · exact g.elim
theorem bl_list : BL K mg bList (fun xs H Q => (∃ p ys, xs = [.ref p] ∧ (SqL K H p ys ∨ SqT K H p ys) ∧ ∀ l, H l = none → Q (.ref l) (upd H l (.lst ys))) ∨ ∃ (a : Addr) (kvs : List (Key × V)), xs = [V.ref a] ∧ Rd H a (.dK kvs) ∧ ∀ p, H p = none → Q (.ref p) (upd H p (.lst (kvs.map fun kv => kV kv.1)))) := by
  intro ρ S H ds vs Q E s r g
  unfold bList at g
  split at g
  · obtain ⟨v, rfl, r1⟩ := r.one; clear r; have r := r1; clear r1
    cases r with
    | scr h n r => exact .inl ⟨_, _, rfl, .inl h.l, fun p np => newlst s np r g⟩
  · obtain ⟨v, rfl, r1⟩ := r.one; clear r; have r := r1; clear r1
    split at g
    · rename_i hS
      obtain ⟨a, vs, rfl, _, q, r⟩ := s.lst r hS
      exact .inl ⟨_, _, rfl, .inl (SqL.of q), fun p np => newlst s np r g⟩
    · rename_i hS
      obtain ⟨a, kvs, rfl, _, q, r⟩ := s.dicK r hS
      exact .inr ⟨_, _, rfl, .inl q, fun p np => newlst s np r.keys g⟩
    · exact g.elim
  · obtain ⟨v, rfl, r1⟩ := r.one; clear r; have r := r1; clear r1
    cases r with
    | tup h n k r => exact .inl ⟨_, _, rfl, .inr h, fun p np => newlst s np r g⟩
  · exact g.elim
theorem bl_int : BL K mg bInt (fun xs H Q => (∃ i, xs = [.int i] ∧ Q (.int i) H) ∨ ∃ k, xs = [.bl k] ∧ Q (.int (if k then 1 else 0)) H) := by
  intro ρ S H ds vs Q E s r g
  unfold bInt at g
  split at g
  · obtain ⟨v, rfl, r1⟩ := r.one; clear r; have r := r1; clear r1
    cases r
    exact .inl ⟨_, rfl, g.val s (.int _)⟩
  · obtain ⟨v, rfl, r1⟩ := r.one; clear r; have r := r1; clear r1
    cases r
    exact .inr ⟨_, rfl, g.val s (.int _)⟩
  · exact g.elim
theorem bl_dict : BL K mg bDict (fun xs H Q => ∃ (a : Addr) (kvs : List (Key × V)), xs = [.ref a] ∧ Rd H a (.dK kvs) ∧ ∀ p, H p = none → Q (.ref p) (upd H p (.dK kvs))) := by
  intro ρ S H ds vs Q E s r g
  unfold bDict at g
  split at g
  · obtain ⟨v, rfl, r1⟩ := r.one; clear r; have r := r1; clear r1
    split at g
    · rename_i hS
      obtain ⟨a, kvs, rfl, _, q, r⟩ := s.dicK r hS
      exact ⟨_, _, rfl, .inl q, fun p np => allocd s np (.dK upd_same (r.le (Le.more np))) g⟩
    · exact g.elim
  · exact g.elim
/-- an own class, as isinstance wants it -/
structure ClsI (K : PySem.W.Frag) (C : Addr) : Prop where
  cl : Cls K C
  ha : PySem.W.findIn K (.ref C) "__class__" = some (some (.builtin "object.__class__"))
  hn : PySem.W.specialIn K (.builtin "object.__class__") "__get__" = some (some (.builtin "getset_descriptor.__get__"))
  htk : PySem.W.takesIn K (.builtin "object.__class__") = some true
  hm : PySem.W.mroIn K C (.type "object") = some true
  isC : PySem.W.isClsIn K C = true
  tyC : PySem.W.typeIn K (.ref C) = some (.type "type")
/-- what is known of the own classes cs -/
structure IsiF (K : PySem.W.Frag) (mg : Str → Option Value) (cs : List Str) : Prop where
  cls : ∀ C ∈ cs, ∀ a, mg C = some (.ref a) → ClsI K a
  kit : ∀ C ∈ cs, ∀ a, mg C = some (.ref a) → ∀ T ∈ ["NoneType", "bool", "int", "str", "list", "tuple", "dict", "bytes"], PySem.W.kitOne K (.type T) (.ref a) = some false ∧ PySem.W.kitOne K (.ref a) (.type T) = some false
  own : ∀ C ∈ cs, ∀ a, mg C = some (.ref a) → ∀ C' ∈ cs, ∀ a', mg C' = some (.ref a') → PySem.W.kitOne K (.ref a) (.ref a') = some (C == C')
def tyVal (T : TyD) (mg : Str → Option Value) (t : Value) : Prop := match T with
  | .b n => t = .type n ∧ n ∈ ["NoneType", "bool", "int", "str", "list", "tuple", "dict", "bytes"]
  | .c C => ∃ a, mg C = some (.ref a) ∧ t = .ref a
theorem ty_ok (s : Sim K mg ρ S H) {d : D} {v : V} {T : TyD} (r : VR K mg ρ H d v) (e : tyD S d = some T) (hk : ∀ C a, T = .c C → mg C = some (.ref a) → ClsI K a) : ∃ t, TyX K H v t ∧ tyVal T mg t := by
  cases r with
  | non => simp [tyD] at e; subst e; exact ⟨_, .base .non, rfl, by simp⟩
  | bl b => simp [tyD] at e; subst e; exact ⟨_, .base (.bl b), rfl, by simp⟩
  | int i => simp [tyD] at e; subst e; exact ⟨_, .base (.int i), rfl, by simp⟩
  | str x => simp [tyD] at e; subst e; exact ⟨_, .base (.str x), rfl, by simp⟩
  | byt x => simp [tyD] at e; subst e; exact ⟨_, .byt x, rfl, by simp⟩
  | ty x => simp [tyD] at e
  | cls x => simp [tyD] at e
  | scr _ _ _ => simp [tyD] at e
  | tup h n k r =>
    simp [tyD] at e; subst e
    refine ⟨.type "tuple", ?_, rfl, by simp⟩
    rcases h with (h | ⟨o, h⟩) | ⟨o, its, n, h1, h2, _⟩
    · exact .base (.tup h)
    · exact .fTuple h
    · exact .kTuple h1 h2
  | @ref i a h =>
    unfold tyD at e
    dsimp only at e
    obtain ⟨o, h1, h2⟩ := s.at_ h
    rw [h1] at e
    cases h2 with
    | lst q r => simp at e; subst e; exact ⟨_, .base (.lst q), rfl, by simp⟩
    | dK q r => simp at e; subst e; exact ⟨_, .base (.dK q), rfl, by simp⟩
    | dT q r => simp at e; subst e; exact ⟨_, .base (.dT q), rfl, by simp⟩
    | ins g q r =>
      simp at e; subst e
      have c := hk _ _ rfl g
      exact ⟨_, .base (.ins q c.cl c.ha c.hn c.htk c.hm), _, g, rfl⟩
theorem bl_isi {cs : List Str} (F : IsiF K mg cs) : BL K mg (bIsi cs) (rIsi K) := by
  intro ρ S H ds vs Q E s r g
  unfold bIsi at g
  split at g
  · rename_i x T
    obtain ⟨v, w, rfl, r1, r2⟩ := r.two
    cases r2
    split at g
    · rename_i hT
      split at g
      · rename_i C hC
        split at g
        · rename_i hc
          obtain ⟨t, h1, a, h2, h3⟩ := ty_ok s r1 hC fun C' a e m => by cases e; exact F.cls _ hc a m
          subst h3
          have hT' : T ∈ ["NoneType", "bool", "int", "str", "list", "tuple", "dict", "bytes"] := by
            simp only [List.mem_cons, List.not_mem_nil, or_false] at hT ⊢
            rcases hT with h | h | h | h | h | h | h <;> simp [h]
          exact ⟨v, .ty T, _, _, _, rfl, .ty T, h1, (F.kit C hc a h2 T hT').2, g.val s (.bl _)⟩
        · exact g.elim
      · rename_i t hn hC
        cases t with
        | c C => exact absurd rfl (hn C)
        | b n =>
          obtain ⟨t, h1, h2, h3⟩ := ty_ok s r1 hC fun C' a e m => by cases e
          subst h2
          refine ⟨v, .ty T, _, .type T, isTy T (.b n), rfl, .ty T, h1, kit_ty ?_, g.val s (.bl _)⟩
          simp only [List.mem_cons, List.not_mem_nil, or_false] at hT h3
          rcases hT with rfl | rfl | rfl | rfl | rfl | rfl | rfl <;> rcases h3 with rfl | rfl | rfl | rfl | rfl | rfl | rfl | rfl <;> decide +kernel
      · exact g.elim
    · exact g.elim
  · rename_i x C
    obtain ⟨v, w, rfl, r1, r2⟩ := r.two
    cases r2 with
    | cls m2 =>
    split at g
    · rename_i C' hC
      split at g
      · rename_i hc
        obtain ⟨t, h1, a, h2, h3⟩ := ty_ok s r1 hC fun C' a e m => by cases e; exact F.cls _ hc.1 a m
        subst h3
        exact ⟨v, .ref _, _, _, _, rfl, .own _, h1, F.own C' hc.1 a h2 C hc.2 _ m2, g.val s (.bl _)⟩
      · exact g.elim
    · rename_i t hn hC
      split at g
      · rename_i hc
        cases t with
        | c C => exact absurd rfl (hn C)
        | b n =>
          obtain ⟨t, h1, h2, h3⟩ := ty_ok s r1 hC fun C' a e m => by cases e
          subst h2
          exact ⟨v, .ref _, _, _, _, rfl, .own _, h1, (F.kit C hc _ m2 n h3).1, g.val s (.bl _)⟩
      · exact g.elim
    · exact g.elim
  · exact g.elim
end
end KF
set_option Elab.async false
set_option linter.all false
set_option maxRecDepth 100000
set_option maxHeartbeats 4000000
namespace KF
open PySem PySem.Spec PyProof.Rows L2 KQ
/-- a built-in type's method is followed -/
def ML (K : PySem.W.Frag) (mg : Str → Option Value) (T : String) (f : D → List D → Sto → R D) (r : V → List V → Hp → VK → Prop) : Prop :=
  ∀ ρ S H d ds v vs Q E, Sim K mg ρ S H → VR K mg ρ H d v → VRs K mg ρ H ds vs → G K mg (VR K mg) (f d ds S) ρ H Q E → r v vs H Q
/-- of which type the receiver is -/
def isT (T : String) (S : Sto) (x : D) : Prop := match x with
  | .str _ => T = "str"
  | .ref a => match S[a]? with
    | some (.lst _) => T = "list"
    | some (.dic _ _) => T = "dict"
    | _ => False
  | _ => False
open Classical in
noncomputable def eBMT (T : String) (r : D → List D → Sto → R D) (a : FE) (t : FA) : FE := fun δ S => (a δ S).bind fun x S => if isT T S x then (t δ S).bind fun ys S => r x ys S else .no
section
variable {K : PySem.W.Frag} {mg : Str → Option Value} {ρ : List Addr} {H : Hp} {S : Sto} {T : String}
theorem isT_ok (s : Sim K mg ρ S H) {d : D} {v : V} (r : VR K mg ρ H d v) (h : isT T S d) : tyV K T v H := by
  unfold isT at h
  split at h
  · cases r; exact h
  · split at h
    · rename_i hS
      obtain ⟨a, vs, rfl, _, q, _⟩ := s.lst r hS
      exact .inl ⟨h, vs, SqL.of q⟩
    · rename_i t kvs hS
      cases t with
      | false =>
        obtain ⟨a, kvs, rfl, _, q, _⟩ := s.dicK r hS
        exact .inr (.inr (.inl ⟨h, .inl ⟨_, q⟩⟩))
      | true =>
        obtain ⟨a, kvs, rfl, _, q, _⟩ := s.dicT r hS
        exact .inr (.inr (.inl ⟨h, .inr ⟨_, q⟩⟩))
    · exact h.elim
  · exact h.elim
theorem ml_append : ML K mg T mAppend rAppend := by
  intro ρ S H d ds v vs Q E s r rs g
  unfold mAppend at g
  split at g
  · split at g
    · rename_i hS
      split at g
      · rename_i hl
        obtain ⟨a, us, rfl, ha, q, r⟩ := s.lst r hS
        obtain ⟨w, rfl, ry⟩ := rs.one
        have L : Le ρ H ρ (upd H a (.lst (us ++ [w]))) := Le.put (List.mem_of_getElem? ha)
        exact ⟨a, us, w, rfl, rfl, q, by rw [← r.length]; exact hl, G.ret (b := V.non) g L (s.put ha (.lst upd_same ((r.app (.cons ry .nil)).le L))) VR.non⟩
      · exact g.elim
    · exact g.elim
  · exact g.elim
theorem ml_extend : ML K mg T mExtend (fun x vs H Q => rExtend x vs H Q ∨ rExtendT K x vs H Q) := by
  intro ρ S H d ds v vs Q E s r rs g
  unfold mExtend at g
  split at g
  · split at g
    · rename_i h1 h2
      split at g
      · rename_i hl
        obtain ⟨a, us, rfl, ha, q, r⟩ := s.lst r h1
        obtain ⟨w, rfl, ry⟩ := rs.one
        obtain ⟨b, ws, rfl, hb, q2, r2⟩ := s.lst ry h2
        have L : Le ρ H ρ (upd H a (.lst (us ++ ws))) := Le.put (List.mem_of_getElem? ha)
        exact .inl ⟨a, b, us, ws, rfl, rfl, q, q2, by rw [← r.length, ← r2.length]; exact hl, G.ret (b := V.non) g L (s.put ha (.lst upd_same ((r.app r2).le L))) VR.non⟩
      · exact g.elim
    · exact g.elim
  · split at g
    · rename_i h1
      split at g
      · rename_i hl
        obtain ⟨a, us, rfl, ha, q, r⟩ := s.lst r h1
        obtain ⟨w, rfl, ry⟩ := rs.one
        cases ry with
        | @tup b ws _ h n k r2 =>
        have L : Le ρ H ρ (upd H a (.lst (us ++ ws))) := Le.put (List.mem_of_getElem? ha)
        exact .inr ⟨a, _, us, _, rfl, rfl, q, h, by rw [← r.length, ← r2.length]; exact hl, G.ret (b := V.non) g L (s.put ha (.lst upd_same ((r.app r2).le L))) VR.non⟩
      · exact g.elim
    · exact g.elim
  · exact g.elim
theorem ml_pop1 : ML K mg T mPop1 rPopAt := by
  intro ρ S H d ds v vs Q E s r rs g
  unfold mPop1 at g
  split at g
  · split at g
    · rename_i hS
      split at g
      · rename_i hb
        split at g
        · rename_i k hk
          split at g
          · rename_i d hd
            obtain ⟨a, us, rfl, ha, q, r⟩ := s.lst r hS
            obtain ⟨w', rfl, ri⟩ := rs.one
            cases ri
            obtain ⟨w, h1, h2⟩ := r.get hd
            rw [r.length] at hk
            have L : Le ρ H ρ (upd H a (.lst (us.eraseIdx k))) := Le.put (List.mem_of_getElem? ha)
            exact ⟨a, us, _, k, w, rfl, rfl, q, hb.1, hb.2, hk, h1, G.ret g L (s.put ha (.lst upd_same ((r.erase k).le L))) (h2.le L)⟩
          · exact g.elim
        · exact g.elim
      · exact g.elim
    · exact g.elim
  · exact g.elim
end
section
variable {X : Cx} {W : WX} {a b c e f o : Expr} {es : List Expr} {fa fb fc fo fe : FE} {t : FA} {pos p apos cpos : Pos} {x name : Str} {id T : String} {r r' : V → List V → Hp → VK → Prop} {m : D → List D → Sto → R D}
theorem MtR.or (h : MtR X id r) (h' : MtR X id r') : MtR X id (fun x xs H Q => r x xs H Q ∨ r' x xs H Q) := by
  intro pins s σ H x xs v us Q I rx rr q
  rcases q with q | q
  · exact h pins s σ H x xs v us Q I rx rr q
  · exact h' pins s σ H x xs v us Q I rx rr q
theorem fe_bm (pa : PlainAttrs T) (slot : Slot T name id) (hty : typeOf (.builtin id) = pure (.type "method_descriptor")) (hm : MtR X id r) (l : ML X.K X.mg T m r) (ho : PE X o (cE X.K X.mg W fo)) (ha : PA X (e :: es) (cA X.K X.mg W t))
    (hbase : attributeBase o name X.env (eval o X.env) = eval o X.env := by rfl)
    (hfew : ((backTo cpos (starEach (e :: es) X.env)).all (fun x => !x.1) && (backToKw cpos (keywordEach [] X.env)).all (fun x => x.1.isSome)
      && decide ((e :: es).length + ([] : List Keyword).length + (if ([] : List Keyword).isEmpty then 0 else 1) < 30)) = true := by rfl)
    (hline : (apos.endLine == cpos.line) = true := by rfl) (hs : starEach (e :: es) X.env = (false, eval e X.env) :: starEach es X.env := by rfl) (hplain : (backTo cpos (starEach es X.env)).any (·.1) = false := by rfl) :
    PE X (.Call (.Attribute o name apos) (e :: es) [] cpos) (cE X.K X.mg W (eBMT T m fo t)) := by
  refine PE.of (pe_bm pa slot hty hm ho ha hbase hfew hline hs hplain) ?_
  rintro σ H Q ⟨ρ, S, δ, s, x, g⟩
  refine ⟨ρ, S, δ, s, x, (G.bind g).imp ?_⟩
  rintro u H1 ⟨ρ1, S1, d1, L1, s1, r1, g1⟩
  split at g1
  · rename_i hT
    refine ⟨isT_ok s1 r1 hT, ρ1, S1, δ, s1, x.le L1, (G.bind g1).imp ?_⟩
    rintro us H2 ⟨ρ2, S2, d2, L2, s2, r2, g2⟩
    exact l _ _ _ _ _ _ _ _ _ s2 (r1.le L2) r2 g2
  · exact g1.elim
theorem isD_ok {K : PySem.W.Frag} {mg : Str → Option Value} {ρ : List Addr} {S : Sto} {H : Hp} (s : Sim K mg ρ S H) {i : Nat} {t : Bool} {kvs : List (DK × D)} {v : V} (r : VR K mg ρ H (.ref i) v) (hS : S[i]? = some (.dic t kvs)) : ∃ a, v = .ref a ∧ IsD H a := by
  cases t with
  | false =>
    obtain ⟨a, kvs, rfl, _, q, _⟩ := s.dicK r hS
    exact ⟨a, rfl, .inl ⟨_, .inl q⟩⟩
  | true =>
    obtain ⟨a, kvs, rfl, _, q, _⟩ := s.dicT r hS
    exact ⟨a, rfl, .inr ⟨_, .inl q⟩⟩
/-- d.pop(k) -/
def eDPop (o a : FE) : FE := fun δ S => (o δ S).bind fun x S => match x with
  | .ref i => match S[i]? with
    | some (.dic _ _) => (a δ S).bind fun y S => mDPop x [y] S
    | _ => .no
  | _ => .no
theorem fe_dpop (ho : PE X o (cE X.K X.mg W fo)) (ha : PE X a (cE X.K X.mg W fa)) (m : M1 X o "pop" apos a cpos) : PE X (.Call (.Attribute o "pop" apos) [a] [] cpos) (cE X.K X.mg W (eDPop fo fa)) := by
  refine PE.of (pe_dpop1 ho ha m) ?_
  rintro σ H Q ⟨ρ, S, δ, s, x, g⟩
  refine ⟨ρ, S, δ, s, x, (G.bind g).imp ?_⟩
  rintro u H1 ⟨ρ1, S1, d1, L1, s1, r1, g1⟩
  split at g1
  · rename_i i
    split at g1
    · rename_i t kvs hS
      obtain ⟨a, rfl, ia⟩ := isD_ok s1 r1 hS
      refine ⟨a, rfl, ia, ρ1, S1, δ, s1, x.le L1, (G.bind g1).imp ?_⟩
      rintro v H2 ⟨ρ2, S2, d2, L2, s2, r2, g2⟩
      unfold mDPop at g2
      dsimp only at g2
      split at g2
      · rename_i kvs hS
        split at g2
        · rename_i k hk
          split at g2
          · rename_i d hd
            obtain ⟨a', kvs', e, ha, q, r⟩ := s2.dicK (r1.le L2) hS
            cases e
            obtain ⟨k', rfl, rfl⟩ := key_K r2 hk
            rcases r.get k' with ⟨h1, h2⟩ | ⟨d', v, h1, h2, h3⟩
            · rw [h1] at hd; cases hd
            · rw [h1] at hd
              cases hd
              have L : Le ρ2 H2 ρ2 (upd H2 a (.dK (dropK kvs' k'))) := Le.put (List.mem_of_getElem? ha)
              exact ⟨kvs', k', v, q, rfl, h2, G.ret g2 L (s2.put ha (.dK upd_same ((r.drop k').le L))) (h3.le L)⟩
          · exact g2.elim
        · exact g2.elim
      · exact g2.elim
    · exact g1.elim
  · exact g1.elim
/-- o.pop(k) of a list or a dict -/
noncomputable def ePop1 (o a : FE) : FE := fun δ S => (o δ S).bind fun x S => match x with
  | .ref i => match S[i]? with
    | some (.dic _ _) => (a δ S).bind fun y S => mDPop x [y] S
    | some (.lst _) => (a δ S).bind fun y S => mPop1 x [y] S
    | _ => .no
  | _ => .no
theorem fe_pop1 (ho : PE X o (cE X.K X.mg W fo)) (ha : PE X a (cE X.K X.mg W fa)) (m : M1 X o "pop" apos a cpos)
    (h2 : PE X (.Call (.Attribute o "pop" apos) [a] [] cpos) (cE X.K X.mg W (eBMT "list" mPop1 fo (aCons fa aNil)))) : PE X (.Call (.Attribute o "pop" apos) [a] [] cpos) (cE X.K X.mg W (ePop1 fo fa)) := by
  refine fe_alt (fe_dpop ho ha m) h2 fun δ S => ?_
  unfold ePop1 eDPop eBMT
  cases fo δ S with
  | ok x S1 =>
    simp only [bind_ok]
    cases x with
    | ref i =>
      dsimp only
      cases q : S1[i]? with
      | none => exact .inl rfl
      | some u =>
        cases u with
        | lst l =>
          refine .inr (.inl ?_)
          have : isT "list" S1 (.ref i) := by unfold isT; dsimp only; rw [q]
          rw [if_pos this]
          unfold aCons aNil
          dsimp only
          cases fa δ S1 <;> rfl
        | dic t kvs => exact .inl rfl
        | ins C fs => exact .inl rfl
    | _ => exact .inl rfl
  | ex n fs S1 => exact .inl rfl
  | no => exact .inl rfl
end
section
variable {X : Cx} {W : WX} {a b c e o i value : Expr} {fa fb fo fi fv : FE} {pos pos' tpos : Pos}
/-- o[i] = v, the value first: a list's place -/
theorem fs_putL (ho : PE X o (cE X.K X.mg W fo)) (hi : PE X i (cE X.K X.mg W fi)) (hv : PE X value (cE X.K X.mg W fv)) (hs : swapsWithSole [.Subscript o i pos'] value pos.line X.env = pure false := by rfl) (hw : swappedStores [.Subscript o i pos'] value X.env = pure none := by rfl)
    (h1 : (assignEach [.Subscript o i pos'] X.env).map (·.2) = [assign (.Subscript o i pos') X.env] := by rfl)
    (hA : ∀ v, assign (.Subscript o i pos') X.env v = (do
      let ov ← holding [v] (eval o X.env)
      let iv ← holding [v, ov] (eval i X.env)
      standAt pos'
      holding [v, ov, iv] (setItem ov iv v)
      release [v, ov, iv] []) := by intro _; rfl) :
    PS X (.Assign [.Subscript o i pos'] value pos) (cS X.K X.mg W (fun δ S => R.to δ (fv δ S) fun d S => R.to δ (fo δ S) fun x S => R.to δ (fi δ S) fun y S => match x with
      | .ref a => match S[a]? with
        | some (.lst _) => R.to δ (putIx x y d S) fun _ S => .nx δ S
        | _ => .no
      | _ => .no)) := by
  refine PS.of (ps_asg hv (pg_sub ho hi set_list hA) hs hw h1) ?_
  rintro D σ H ⟨ρ, S, δ, s, x, g⟩
  refine ⟨ρ, S, δ, s, x, (GS.bind g x).imp ?_⟩
  rintro u H1 ⟨ρ1, S1, d1, L1, s1, r1, g1⟩
  refine ⟨ρ1, S1, δ, s1, x.le L1, (GS.bind g1 (x.le L1)).imp ?_⟩
  rintro v H2 ⟨ρ2, S2, d2, L2, s2, r2, g2⟩
  refine ⟨ρ2, S2, δ, s2, (x.le L1).le L2, (GS.bind g2 ((x.le L1).le L2)).imp ?_⟩
  rintro w H3 ⟨ρ3, S3, d3, L3, s3, r3, g3⟩
  replace r2 := r2.le L3
  replace r1 := (r1.le L2).le L3
  replace x := ((x.le L1).le L2).le L3
  split at g3
  · split at g3
    · rename_i l hS
      unfold putIx at g3
      dsimp only at g3
      rw [hS] at g3
      dsimp only at g3
      split at g3
      · split at g3
        · rename_i j hj
          cases r3
          obtain ⟨a, us, rfl, ha, q, r⟩ := s3.lst r2 hS
          have L : Le ρ3 H3 ρ3 (upd H3 a (.lst (us.set j u))) := Le.put (List.mem_of_getElem? ha)
          rw [r.length] at hj
          exact ⟨a, us, _, j, rfl, rfl, q, hj, g3 ρ3 _ σ L (s3.put ha (.lst upd_same ((r.set j r1).le L))) (x.le L)⟩
        · exact g3.elim
      · exact g3.elim
    · exact g3.elim
  · exact g3.elim
theorem fs_putD (hu : X.A.units + 1 < cLine) (ho : PE X o (cE X.K X.mg W fo)) (hi : PE X i (cE X.K X.mg W fi)) (hv : PE X value (cE X.K X.mg W fv)) (hs : swapsWith value (some (.Subscript o i pos')) pos.line X.env = pure false := by rfl) :
    PS X (.Assign [.Subscript o i pos'] value pos) (cS X.K X.mg W (fun δ S => R.to δ (fv δ S) fun d S => R.to δ (fo δ S) fun x S => R.to δ (fi δ S) fun y S => match x with
      | .ref a => match S[a]? with
        | some (.dic _ _) => R.to δ (putIx x y d S) fun _ S => .nx δ S
        | _ => .no
      | _ => .no)) := by
  refine PS.of (ps_dput hu ho hi hv hs) ?_
  rintro D σ H ⟨ρ, S, δ, s, x, g⟩
  refine ⟨ρ, S, δ, s, x, (GS.bind g x).imp ?_⟩
  rintro u H1 ⟨ρ1, S1, d1, L1, s1, r1, g1⟩
  refine ⟨ρ1, S1, δ, s1, x.le L1, (GS.bind g1 (x.le L1)).imp ?_⟩
  rintro v H2 ⟨ρ2, S2, d2, L2, s2, r2, g2⟩
  refine ⟨ρ2, S2, δ, s2, (x.le L1).le L2, (GS.bind g2 ((x.le L1).le L2)).imp ?_⟩
  rintro w H3 ⟨ρ3, S3, d3, L3, s3, r3, g3⟩
  replace r2 := r2.le L3
  replace r1 := (r1.le L2).le L3
  replace x := ((x.le L1).le L2).le L3
  split at g3
  · split at g3
    · rename_i t kvs hS
      unfold putIx at g3
      dsimp only at g3
      rw [hS] at g3
      dsimp only at g3
      split at g3
      · rename_i k hk
        split at g3
        · rename_i hl
          obtain ⟨a, H4, rfl, hp, L, s4⟩ := dput_ok s3 hS r2 r3 r1 hk hl
          exact ⟨a, H4, rfl, hp, g3 ρ3 _ σ L s4 (x.le L)⟩
        · exact g3.elim
      · exact g3.elim
    · exact g3.elim
  · exact g3.elim
theorem PS.or {st : Stmt} {t t' : TS} (h : PS X st t) (h' : PS X st t') : PS X st (fun D σ H => t D σ H ∨ t' D σ H) := ⟨fun pins s σ H D I q => q.elim (h.run pins s σ H D I) (h'.run pins s σ H D I)⟩
theorem fs_alt {st : Stmt} {f1 f2 f : FS} (h1 : PS X st (cS X.K X.mg W f1)) (h2 : PS X st (cS X.K X.mg W f2)) (h : ∀ δ S, f δ S = f1 δ S ∨ f δ S = f2 δ S ∨ f δ S = .no) : PS X st (cS X.K X.mg W f) := by
  refine PS.of (PS.or h1 h2) ?_
  rintro D σ H ⟨ρ, S, δ, s, x, g⟩
  rcases h δ S with q | q | q
  · rw [q] at g; exact .inl ⟨ρ, S, δ, s, x, g⟩
  · rw [q] at g; exact .inr ⟨ρ, S, δ, s, x, g⟩
  · rw [q] at g; exact g.elim
theorem fs_put (hu : X.A.units + 1 < cLine) (ho : PE X o (cE X.K X.mg W fo)) (hi : PE X i (cE X.K X.mg W fi)) (hv : PE X value (cE X.K X.mg W fv)) (hs : swapsWithSole [.Subscript o i pos'] value pos.line X.env = pure false := by rfl) (hw : swappedStores [.Subscript o i pos'] value X.env = pure none := by rfl)
    (h1 : (assignEach [.Subscript o i pos'] X.env).map (·.2) = [assign (.Subscript o i pos') X.env] := by rfl)
    (hA : ∀ v, assign (.Subscript o i pos') X.env v = (do
      let ov ← holding [v] (eval o X.env)
      let iv ← holding [v, ov] (eval i X.env)
      standAt pos'
      holding [v, ov, iv] (setItem ov iv v)
      release [v, ov, iv] []) := by intro _; rfl) (hs' : swapsWith value (some (.Subscript o i pos')) pos.line X.env = pure false := by rfl) : PS X (.Assign [.Subscript o i pos'] value pos) (cS X.K X.mg W (sPut fo fi fv)) := by
  refine fs_alt (fs_putL ho hi hv hs hw h1 hA) (fs_putD hu ho hi hv hs') fun δ S => ?_
  unfold sPut
  cases fv δ S with
  | ex n fs S1 => exact .inl rfl
  | no => exact .inl rfl
  | ok d S1 =>
  simp only [to_ok]
  cases fo δ S1 with
  | ex n fs S1 => exact .inl rfl
  | no => exact .inl rfl
  | ok x S2 =>
  simp only [to_ok]
  cases fi δ S2 with
  | ex n fs S1 => exact .inl rfl
  | no => exact .inl rfl
  | ok y S3 =>
  simp only [to_ok]
  cases x with
  | ref a =>
    dsimp only
    cases q : S3[a]? with
    | none => exact .inr (.inr (by unfold putIx; dsimp only; rw [q]; rfl))
    | some u =>
      cases u with
      | lst l => exact .inl rfl
      | dic t kvs => exact .inr (.inl rfl)
      | ins C fs => exact .inr (.inr (by unfold putIx; dsimp only; rw [q]; rfl))
  | _ => exact .inr (.inr rfl)
end
end KF
set_option Elab.async false
set_option linter.all false
set_option maxRecDepth 100000
set_option maxHeartbeats 4000000
namespace KF
open PySem PySem.Spec PyProof.Rows L2 KQ
section
variable (K : PySem.W.Frag) (mg : Str → Option Value)
/-- what comes behind (ρ, H), the walked lists being as they were -/
structure Aft (ρ : List Addr) (H : Hp) (lv : List (Nat × List D)) (ρ' : List Addr) (S' : Sto) (H' : Hp) : Prop where
  le : Le ρ H ρ' H'
  sim : Sim K mg ρ' S' H'
  live : liveOk lv S'
/-- the iterator J gives the items -/
def IR : List Addr → Hp → Its → It → Prop := fun ρ H u J => ∃ (Gh : Hp → Prop) (Y : Nat → Hp → V → Hp → Prop), Walk J u.ds.length Gh Y ∧ (∀ ρ' S' H', Aft K mg ρ H u.live ρ' S' H' → Gh H') ∧
  ∀ ρ' S' H' i x H'', Aft K mg ρ H u.live ρ' S' H' → Y i H' x H'' → ∃ d, u.ds[i]? = some d ∧ VR K mg ρ' H'' d x ∧ Le ρ' H' ρ' H'' ∧ Sim K mg ρ' S' H''
/-- a sequence that is walked: what it holds (P) -/
def SV (ρ : List Addr) (H : Hp) (u : Its) (P : Hp → List V → Prop) : Prop := ∀ ρ' S' H', Aft K mg ρ H u.live ρ' S' H' → ∃ xs, P H' xs ∧ VRs K mg ρ' H' u.ds xs
def cI (W : WX) (f : FI) : TI := fun σ H R => ∃ ρ S δ, Sim K mg ρ S H ∧ ER K mg ρ H δ σ ∧ G K mg (IR K mg) (f δ S) ρ H R (WE W σ)
end
section
variable {K : PySem.W.Frag} {mg : Str → Option Value} {ρ : List Addr} {H : Hp} {S : Sto}
theorem pairAt {T : Addr} {x y : D} {v w : V} (s : Sim K mg ρ S H) (n : H T = none) (r1 : VR K mg ρ H x v) (r2 : VR K mg ρ H y w) : VR K mg ρ (upd H T (.tup [v, w])) (pairD x y) (.ref T) ∧ Le ρ H ρ (upd H T (.tup [v, w])) ∧ Sim K mg ρ S (upd H T (.tup [v, w])) :=
  ⟨tupAt s n (.cons r1 (.cons r2 .nil)), Le.new n, s.new n⟩
theorem ir_zip {u w : Its} {J : It} {P Q : Hp → List V → Prop} (v : SV K mg ρ H u P) (v' : SV K mg ρ H w Q) (h1 : ∀ i H, (∃ xs ys x y, P H xs ∧ Q H ys ∧ xs[i]? = some x ∧ ys[i]? = some y) → J.go i H)
    (h2 : ∀ i H z H', J.yld i H z H' → ∃ T x y, z = .ref T ∧ H T = none ∧ H' = upd H T (.tup [x, y]) ∧ (∀ xs, P H xs → xs[i]? = some x) ∧ ∀ ys, Q H ys → ys[i]? = some y) (h3 : ∀ i H, (∃ xs ys, P H xs ∧ Q H ys ∧ i = min xs.length ys.length) → J.stop i H) :
    IR K mg ρ H ⟨(u.ds.zip w.ds).map fun p => pairD p.1 p.2, u.live ++ w.live⟩ J := by
  have lv : ∀ {ρ' S' H'}, Aft K mg ρ H (u.live ++ w.live) ρ' S' H' → Aft K mg ρ H u.live ρ' S' H' ∧ Aft K mg ρ H w.live ρ' S' H' := fun z => ⟨⟨z.le, z.sim, fun p hp => z.live p (List.mem_append_left _ hp)⟩, ⟨z.le, z.sim, fun p hp => z.live p (List.mem_append_right _ hp)⟩⟩
  refine ⟨fun H => ∃ xs ys, P H xs ∧ Q H ys ∧ xs.length = u.ds.length ∧ ys.length = w.ds.length, fun i H z H' => ∃ T x y, z = .ref T ∧ H T = none ∧ H' = upd H T (.tup [x, y]) ∧ (∀ xs, P H xs → xs[i]? = some x) ∧ ∀ ys, Q H ys → ys[i]? = some y, ⟨fun i H hi q => ?_, fun H q => ?_, fun i H x H' _ _ y => h2 i H x H' y⟩, fun ρ' S' H' z => ?_, fun ρ' S' H' i x H'' z y => ?_⟩
  · obtain ⟨xs, ys, p, q, e1, e2⟩ := q
    have hi' : i < min u.ds.length w.ds.length := by simpa using hi
    exact h1 i H ⟨xs, ys, xs[i]'(by omega), ys[i]'(by omega), p, q, by simp, by simp⟩
  · obtain ⟨xs, ys, p, q, e1, e2⟩ := q
    exact h3 _ _ ⟨xs, ys, p, q, by simp [e1, e2]⟩
  · obtain ⟨xs, p, r⟩ := v ρ' S' H' (lv z).1
    obtain ⟨ys, q, r2⟩ := v' ρ' S' H' (lv z).2
    exact ⟨xs, ys, p, q, r.length.symm, r2.length.symm⟩
  · obtain ⟨T, x', y', rfl, hT, rfl, y1, y2⟩ := y
    obtain ⟨xs, p, r⟩ := v ρ' S' _ (lv z).1
    obtain ⟨ys, q, r2⟩ := v' ρ' S' _ (lv z).2
    obtain ⟨d, e, rd⟩ := r.getV (y1 xs p)
    obtain ⟨d', e', rd'⟩ := r2.getV (y2 ys q)
    obtain ⟨q1, q2, q3⟩ := pairAt z.sim hT rd rd'
    exact ⟨_, by rw [List.getElem?_map, List.getElem?_zip_eq_some (z := (d, d')) |>.mpr ⟨e, e'⟩]; rfl, q1, q2, q3⟩
end
section
variable {X : Cx} {W : WX} {tg e e2 : Expr} {fe : FE} {t : FA} {p pos : Pos}
theorem PI.of {tg it : Expr} {t t' : TI} (h : PI X tg it t) (i : ∀ σ H R, t' σ H R → t σ H R) : PI X tg it t' := ⟨fun pins s σ H Q I q => h.run pins s σ H Q I (i σ H Q q)⟩
theorem PI.or {tg it : Expr} {t t' : TI} (h : PI X tg it t) (h' : PI X tg it t') : PI X tg it (fun σ H R => t σ H R ∨ t' σ H R) := ⟨fun pins s σ H Q I q => q.elim (h.run pins s σ H Q I) (h'.run pins s σ H Q I)⟩
/-- a walk of which only the start is told -/
theorem G.walk {K : PySem.W.Frag} {mg : Str → Option Value} {ρ : List Addr} {H : Hp} {S : Sto} {u : Its} {R : It → Hp → Prop} {E : XK} {J : It} (g : G K mg (IR K mg) (.ok u S) ρ H R E) (s : Sim K mg ρ S H) (i : IR K mg ρ H u J) : R J H := g ρ H J Le.refl s i
theorem its_tup {S : Sto} {l : List D} {u : Its} (e : itsOf S (.tup l) = some u) : u = ⟨l, []⟩ := by simp [itsOf] at e; exact e.symm
theorem sv_tup {K : PySem.W.Frag} {mg : Str → Option Value} {ρ : List Addr} {H : Hp} {S : Sto} {l : List D} {v : V} {u : Its} (r : VR K mg ρ H (.tup l) v) (e : itsOf S (.tup l) = some u) : ∃ a vs, v = .ref a ∧ SqT K H a vs ∧ SV K mg ρ H u (fun H xs => SqT K H a xs) := by
  rw [its_tup e]
  cases r with
  | @tup a vs _ h n k r => exact ⟨a, vs, rfl, h, fun ρ' S' H' z => ⟨_, (tup_le z.le h n).1, r.le z.le⟩⟩
theorem sv_ref {K : PySem.W.Frag} {mg : Str → Option Value} {ρ : List Addr} {H : Hp} {S : Sto} {i : Nat} {v : V} {u : Its} (s : Sim K mg ρ S H) (r : VR K mg ρ H (.ref i) v) (e : itsOf S (.ref i) = some u) : ∃ a vs, v = .ref a ∧ SqL K H a vs ∧ SV K mg ρ H u (fun H xs => SqL K H a xs) := by
  unfold itsOf at e
  dsimp only at e
  split at e
  · rename_i l hS
    simp at e; subst e
    obtain ⟨p, vs, rfl, hp, q, r⟩ := s.lst r hS
    refine ⟨p, vs, rfl, SqL.of q, fun ρ' S' H' z => ?_⟩
    have h2 := z.live (i, l) (List.mem_singleton.mpr rfl)
    cases z.sim.ob i _ p h2 (z.le.get hp) with
    | lst q2 r2 => exact ⟨_, SqL.of q2, r2⟩
  · simp at e
theorem its_cases {S : Sto} {d : D} {u : Its} (e : itsOf S d = some u) : (∃ l, d = .tup l) ∨ ∃ i, d = .ref i := by
  unfold itsOf at e
  split at e
  · exact .inl ⟨_, rfl⟩
  · exact .inr ⟨_, rfl⟩
  · simp at e
theorem ir_range {K : PySem.W.Frag} {mg : Str → Option Value} {ρ : List Addr} {H : Hp} (lo : Int) (n : Nat) : IR K mg ρ H ⟨(List.range n).map fun (k : Nat) => .int (lo + (k : Int)), []⟩ (Itr lo n) := by
  refine ⟨fun _ => True, fun i H x H' => H' = H ∧ x = .int (lo + i) ∧ i < n, ⟨fun i H hi _ => by show i < n; simpa using hi, fun H _ => by show n ≤ _; simp, fun i H x H' hi _ y => ⟨y.1, y.2, by simpa using hi⟩⟩, fun _ _ _ _ => trivial, fun ρ' S' H' i x H'' z y => ?_⟩
  obtain ⟨rfl, rfl, hi⟩ := y
  exact ⟨_, by rw [List.getElem?_map, List.getElem?_range hi]; rfl, .int _, Le.refl, z.sim⟩
theorem fi_rng1 {a : Expr} (hg : Gl X "range") (hm : X.mg "range" = none) (ha : PA X [a] (cA X.K X.mg W t)) (hs : starEach [a] X.env = [(false, eval a X.env)] := by rfl) : PI X tg (.Call (.Name "range" p) [a] [] pos) (cI X.K X.mg W (iRng1 t)) := by
  refine PI.of (pi_range1 hg hm ha hs) ?_
  rintro σ H R ⟨ρ, S, δ, s, x, g⟩
  refine ⟨ρ, S, δ, s, x, (G.bind g).imp ?_⟩
  rintro u H1 ⟨ρ1, S1, d1, L1, s1, r1, g1⟩
  split at g1
  · split at g1
    · rename_i j h
      obtain ⟨v, rfl, rj⟩ := r1.one
      cases rj
      have := ir_range (K := X.K) (mg := X.mg) (ρ := ρ1) (H := H1) 0 j.toNat
      simp only [Int.zero_add] at this
      exact ⟨j, rfl, h.1, h.2, G.walk g1 s1 this⟩
    · exact g1.elim
  · exact g1.elim
theorem fi_zip {a b : Expr} {tpos : Pos} {elts : List Expr} {kk : Nat} (h1 : PI X (.Tuple elts kk tpos) (.Call (.Name "zip" p) [a, b] [] pos) (RZ.iZipA X.K (cA X.K X.mg W t))) (h2 : PI X (.Tuple elts kk tpos) (.Call (.Name "zip" p) [a, b] [] pos) (iZipM X.K (cA X.K X.mg W t))) :
    PI X (.Tuple elts kk tpos) (.Call (.Name "zip" p) [a, b] [] pos) (cI X.K X.mg W (iZip t)) := by
  refine PI.of (PI.or h1 h2) ?_
  rintro σ H R ⟨ρ, S, δ, s, x, g⟩
  cases q : t δ S with
  | no => unfold iZip at g; rw [q] at g; exact g.elim
  | ex n fs S1 =>
    refine .inl ⟨ρ, S, δ, s, x, ?_⟩
    unfold iZip at g
    rw [q] at g ⊢
    exact g
  | ok ds S1 =>
    have g1 := g
    unfold iZip at g1
    rw [q, bind_ok] at g1
    split at g1
    · exact g1.elim
    · rename_i d d' hnot
      split at g1
      · rename_i u u' hu hu'
        rcases its_cases hu with ⟨l, rfl⟩ | ⟨i, rfl⟩
        · rcases its_cases hu' with ⟨l', rfl⟩ | ⟨i', rfl⟩
          · refine .inl ⟨ρ, S, δ, s, x, ?_⟩
            rw [q]
            intro ρ1 H1 v L1 s1 r1
            obtain ⟨w, w', rfl, r1', r2⟩ := VRs.two r1; clear r1; have r1 := r1'; clear r1'
            obtain ⟨a, vs, rfl, hq, sv⟩ := sv_tup r1 hu
            obtain ⟨a', vs', rfl, hq', sv'⟩ := sv_tup r2 hu'
            exact ⟨a, a', vs, vs', rfl, .inr ⟨hq, hq', G.walk (G.le g1 L1) s1 (ir_zip sv sv' (fun i H q => q) (fun i H y H' z => z) (fun i H ⟨xs, ys, h1, h2, h3⟩ => ⟨xs, ys, h1, h2, by omega⟩))⟩⟩
          · exact absurd rfl (hnot _ _ rfl)
        · rcases its_cases hu' with ⟨l', rfl⟩ | ⟨i', rfl⟩
          · refine .inr ⟨ρ, S, δ, s, x, ?_⟩
            rw [q]
            intro ρ1 H1 v L1 s1 r1
            obtain ⟨w, w', rfl, r1', r2⟩ := VRs.two r1; clear r1; have r1 := r1'; clear r1'
            obtain ⟨a, vs, rfl, hq, sv⟩ := sv_ref s1 r1 hu
            obtain ⟨a', vs', rfl, hq', sv'⟩ := sv_tup r2 hu'
            exact ⟨a, a', vs, vs', rfl, hq, hq', G.walk (G.le g1 L1) s1 (ir_zip sv sv' (fun i H q => q) (fun i H y H' z => z) (fun i H ⟨xs, ys, h1, h2, h3⟩ => ⟨xs, ys, h1, h2, by omega, by omega, by omega⟩))⟩
          · refine .inl ⟨ρ, S, δ, s, x, ?_⟩
            rw [q]
            intro ρ1 H1 v L1 s1 r1
            obtain ⟨w, w', rfl, r1', r2⟩ := VRs.two r1; clear r1; have r1 := r1'; clear r1'
            obtain ⟨a, vs, rfl, hq, sv⟩ := sv_ref s1 r1 hu
            obtain ⟨a', vs', rfl, hq', sv'⟩ := sv_ref s1 r2 hu'
            exact ⟨a, a', vs, vs', rfl, .inl ⟨hq, hq', G.walk (G.le g1 L1) s1 (ir_zip sv sv' (fun i H q => q) (fun i H y H' z => z) (fun i H ⟨xs, ys, h1, h2, h3⟩ => ⟨xs, ys, h1, h2, by omega⟩))⟩⟩
      · exact g1.elim
    · exact g1.elim
end
end KF
set_option Elab.async false
set_option linter.all false
set_option maxRecDepth 100000
set_option maxHeartbeats 4000000
namespace KF
open PySem PySem.Spec PyProof.Rows L2 KQ
mutual
def TgS.g (K : PySem.W.Frag) : TgS → TG
  | .name i => L2.gName i
  | .tup l => L2.gTup K l.length (TgS.gs K l)
def TgS.gs (K : PySem.W.Frag) : List TgS → TGs
  | [] => L2.gNil
  | t :: l => L2.gCons (TgS.g K t) (TgS.gs K l)
end
theorem asgs_len : ∀ {l : List TgS} {ds : List D} {δ δ' : Env}, TgS.asgs l ds δ = some δ' → ds.length = l.length
  | [], [], _, _, _ => rfl
  | [], _ :: _, _, _, h => by simp [TgS.asgs] at h
  | _ :: _, [], _, _, h => by simp [TgS.asgs] at h
  | t :: l, d :: ds, δ, δ', h => by
    rw [TgS.asgs] at h
    split at h
    · rw [List.length_cons, List.length_cons, asgs_len h]
    · simp at h
section
variable {K : PySem.W.Frag} {mg : Str → Option Value} {ρ : List Addr} {H : Hp}
mutual
/-- what a target does to the slots -/
theorem TgS.ok : ∀ (t : TgS) {d : D} {v : V} {δ δ' : Env} {σ : L2.St} {Q : L2.St → Hp → Prop}, t.asg d δ = some δ' → VR K mg ρ H d v → ER K mg ρ H δ σ →
    (∀ σ', ER K mg ρ H δ' σ' → (∀ vs, (∀ i ∈ t.names, i ∈ vs) → wipe σ' vs = wipe σ vs) → Q σ' H) → t.g K v σ H Q
  | .name i, d, v, δ, δ', σ, Q, e, r, x, q => by
    rw [TgS.asg] at e
    cases e
    refine q _ (x.set i r) fun vs hv => ?_
    have hi : i ∈ vs := hv i (by rw [TgS.names]; simp)
    clear q hv
    induction vs with
    | nil => simp at hi
    | cons v' vs ih =>
      show (wipe _ vs).set v' none = (wipe σ vs).set v' none
      by_cases h : i ∈ vs
      · rw [ih h]
      · have h' : v' = i := by
          rcases List.mem_cons.mp hi with z | z
          · exact z.symm
          · exact absurd z h
        subst h'
        refine List.ext_getElem? fun j => ?_
        by_cases hj : v' = j
        · subst hj
          rw [List.getElem?_set_self', List.getElem?_set_self']
          by_cases hl : v' < σ.length
          · rw [List.getElem?_eq_getElem (by rw [wipe_length]; simpa using hl), List.getElem?_eq_getElem (by rw [wipe_length]; exact hl)]; rfl
          · rw [List.getElem?_eq_none (by rw [wipe_length]; simpa using hl), List.getElem?_eq_none (by rw [wipe_length]; omega)]
        · rw [List.getElem?_set_ne hj, List.getElem?_set_ne hj]
          have : ∀ (τ τ' : L2.St), τ[j]? = τ'[j]? → τ.length = τ'.length → ∀ ws : List Nat, (wipe τ ws)[j]? = (wipe τ' ws)[j]? := by
            intro τ τ' e el ws
            induction ws with
            | nil => exact e
            | cons w ws ih2 =>
              show ((wipe τ ws).set w none)[j]? = ((wipe τ' ws).set w none)[j]?
              by_cases hw : w = j
              · subst hw
                rw [List.getElem?_set_self', List.getElem?_set_self', ih2]
              · rw [List.getElem?_set_ne hw, List.getElem?_set_ne hw, ih2]
          exact this _ _ (List.getElem?_set_ne hj) (by simp) vs
  | .tup l, d, v, δ, δ', σ, Q, e, r, x, q => by
    cases d with
    | tup ds =>
      rw [TgS.asg] at e
      cases r with
      | @tup a vs _ h n k r =>
        refine ⟨a, vs, rfl, h, by rw [← r.length, asgs_len e], ?_⟩
        refine TgS.oks l e r x fun σ' x' w => q σ' x' fun ws hw => w ws (by rw [TgS.names] at hw; exact hw)
    | _ => simp [TgS.asg] at e
theorem TgS.oks : ∀ (l : List TgS) {ds : List D} {vs : List V} {δ δ' : Env} {σ : L2.St} {Q : L2.St → Hp → Prop}, TgS.asgs l ds δ = some δ' → VRs K mg ρ H ds vs → ER K mg ρ H δ σ →
    (∀ σ', ER K mg ρ H δ' σ' → (∀ ws, (∀ i ∈ TgS.namesL l, i ∈ ws) → wipe σ' ws = wipe σ ws) → Q σ' H) → TgS.gs K l vs σ H Q
  | [], ds, vs, δ, δ', σ, Q, e, r, x, q => by
    cases r with
    | nil =>
      rw [TgS.asgs] at e
      cases e
      exact ⟨rfl, q σ x fun _ _ => rfl⟩
    | cons r t => simp [TgS.asgs] at e
  | t :: l, ds, vs, δ, δ', σ, Q, e, r, x, q => by
    cases r with
    | nil => simp [TgS.asgs] at e
    | @cons d v ds vs r rt =>
      rw [TgS.asgs] at e
      split at e
      · rename_i δ1 e1
        refine ⟨v, vs, rfl, TgS.ok t e1 r x fun σ1 x1 w1 => TgS.oks l e rt x1 fun σ2 x2 w2 => q σ2 x2 fun ws hw => ?_⟩
        rw [TgS.namesL] at hw
        rw [w2 ws fun i hi => hw i (List.mem_append_right _ hi), w1 ws fun i hi => hw i (List.mem_append_left _ hi)]
      · simp at e
end
theorem ER.wipe {δ : Env} {σ : L2.St} (x : ER K mg ρ H δ σ) : ∀ vs : List Nat, ER K mg ρ H (wipeD δ vs) (L2.wipe σ vs)
  | [] => x
  | v :: vs => by
    have y := ER.wipe x vs
    refine ⟨by show ((wipeD δ vs).set v none).length = ((L2.wipe σ vs).set v none).length; simp [y.len], fun j d h => ?_⟩
    have h' : ((wipeD δ vs).set v none)[j]? = some (some d) := h
    show ∃ w, ((L2.wipe σ vs).set v none)[j]? = some (some w) ∧ _
    by_cases hj : v = j
    · subst hj
      rw [List.getElem?_set_self'] at h'
      cases q : (wipeD δ vs)[v]? with
      | none => rw [q] at h'; simp at h'
      | some z => rw [q] at h'; simp at h'
    · rw [List.getElem?_set_ne hj] at h' ⊢
      exact y.at_ j d h'
end
section
variable {X : Cx} {W : WX} {tg e : Expr} {fe : FE} {fi : FI} {pos : Pos} {t : TgS} {body : List Stmt} {fb : FS}
theorem fs_asg (he : PE X e (cE X.K X.mg W fe)) (hg : PG X tg (t.g X.K)) (hs : swapsWithSole [tg] e pos.line X.env = pure false := by rfl) (hw : swappedStores [tg] e X.env = pure none := by rfl)
    (h1 : (assignEach [tg] X.env).map (·.2) = [assign tg X.env] := by rfl) : PS X (.Assign [tg] e pos) (cS X.K X.mg W (sAsg fe t)) := by
  refine PS.of (ps_asg he hg hs hw h1) ?_
  rintro D σ H ⟨ρ, S, δ, s, x, g⟩
  refine ⟨ρ, S, δ, s, x, (GS.bind g x).imp ?_⟩
  rintro u H1 ⟨ρ1, S1, d1, L1, s1, r1, g1⟩
  split at g1
  · rename_i δ' e'
    exact TgS.ok t e' r1 (x.le L1) fun σ' x' _ => g1 ρ1 H1 σ' Le.refl s1 x'
  · exact g1.elim
theorem fs_for {iter : Expr} (hp : PassesOwn (model X.prog X.w) X.A X.env X.xe) (hc : X.calm = true) (hi : PI X tg iter (cI X.K X.mg W fi)) (hg : PG X tg (t.g X.K)) (hb : PSs X body (cS X.K X.mg W fb))
    (hs : ∀ x, foldedSetIterable iter X.env x = pure x := by intro _; rfl) : PS X (.For tg iter body [] pos) (cS X.K X.mg W (sFor fi t fb)) := by
  refine PS.of (ps_for hp hc hi hg hb hs) ?_
  rintro Dn σ H ⟨ρ, S, δ, s, x, g⟩
  refine ⟨ρ, S, δ, s, x, (GS.bind g x).imp ?_⟩
  rintro J H1 ⟨ρ1, S1, u, L1, s1, ⟨Gh, Y, wk, ir1, ir2⟩, g1⟩
  refine for_it wk (fun i σ H => ∃ ρ' S' δ', Le ρ1 H1 ρ' H ∧ Sim X.K X.mg ρ' S' H ∧ ER X.K X.mg ρ' H δ' σ ∧ GS X.K X.mg (loopF u.live t fb (u.ds.drop i) δ' S') ρ' H Dn W)
    ⟨ρ1, S1, δ, Le.refl, s1, x.le L1, g1⟩ (fun i σ2 H2 hi q => ?_) (fun i y σ2 H2 H3 hi q hy => ?_) fun σ2 H2 q => ?_
  · obtain ⟨ρ', S', δ', L', s', x', g'⟩ := q
    have lv : liveOk u.live S' := by
      apply Classical.byContradiction
      intro hn
      cases hd : u.ds.drop i with
      | nil => rw [hd] at g'; unfold loopF at g'; rw [if_neg hn] at g'; exact g'
      | cons z zs => rw [hd] at g'; unfold loopF at g'; rw [if_neg hn] at g'; exact g'
    exact ir1 ρ' S' H2 ⟨L', s', lv⟩
  · obtain ⟨ρ', S', δ', L', s', x', g'⟩ := q
    have hd : u.ds.drop i = u.ds[i] :: u.ds.drop (i + 1) := List.drop_eq_getElem_cons hi
    rw [hd] at g'
    unfold loopF at g'
    split at g'
    · rename_i lv
      obtain ⟨d, e1, rd, L2, s2⟩ := ir2 ρ' S' H2 i y H3 ⟨L', s', lv⟩ hy
      rw [List.getElem?_eq_getElem hi] at e1
      cases e1
      split at g'
      · rename_i δ1 ea
        refine TgS.ok t ea rd (x'.le L2) fun σ3 x3 _ => ⟨ρ', S', δ1, s2, x3, ?_⟩
        have g2 := GS.le g' L2
        cases q : fb δ1 S' with
        | nx δ2 S2 =>
          rw [q] at g2
          exact fun ρ4 H4 σ4 L4 s4 x4 => ⟨ρ4, S2, δ2, (L'.trans L2).trans L4, s4, x4, GS.le g2 L4⟩
        | ct δ2 S2 =>
          rw [q] at g2
          exact fun ρ4 H4 σ4 L4 s4 x4 => ⟨ρ4, S2, δ2, (L'.trans L2).trans L4, s4, x4, GS.le g2 L4⟩
        | bk δ2 S2 => rw [q] at g2; exact g2
        | rt d2 S2 => rw [q] at g2; exact g2
        | ex δ2 n fs S2 => rw [q] at g2; exact g2
        | no => rw [q] at g2; exact g2.elim
      · exact g'.elim
    · exact g'.elim
  · obtain ⟨ρ', S', δ', L', s', x', g'⟩ := q
    rw [List.drop_length] at g'
    unfold loopF at g'
    split at g'
    · exact g' ρ' H2 σ2 Le.refl s' x'
    · exact g'.elim
theorem whileN_up {c : FT} {b : FS} : ∀ {n : Nat} {δ : Env} {S : Sto}, whileN c b n δ S ≠ .no → whileN c b (n + 1) δ S = whileN c b n δ S
  | 0, _, _, h => absurd rfl h
  | n + 1, δ, S, h => by
    have e : ∀ m, whileN c b (m + 1) δ S = R.to δ (c δ S) fun k S => if k = true then match b δ S with
      | .nx δ S => whileN c b m δ S
      | .ct δ S => whileN c b m δ S
      | .bk δ S => .nx δ S
      | r => r
      else .nx δ S := fun m => rfl
    rw [e] at h
    rw [e (n + 1), e n]
    cases q : c δ S with
    | ex m fs S1 => rfl
    | no => rfl
    | ok k S1 =>
      rw [q] at h
      simp only [to_ok] at h ⊢
      split
      · rename_i hk
        rw [if_pos hk] at h
        cases q2 : b δ S1 with
        | nx δ2 S2 => rw [q2] at h; exact whileN_up h
        | ct δ2 S2 => rw [q2] at h; exact whileN_up h
        | _ => rfl
      · rfl
theorem whileN_le {c : FT} {b : FS} {n : Nat} {δ : Env} {S : Sto} (h : whileN c b n δ S ≠ .no) : ∀ m, n ≤ m → whileN c b m δ S = whileN c b n δ S := by
  intro m hm
  induction hm with
  | refl => rfl
  | step hm ih => rw [whileN_up (by rw [ih]; exact h), ih]
theorem sWhile_of {c : FT} {b : FS} {n : Nat} {δ : Env} {S : Sto} (h : whileN c b n δ S ≠ .no) : sWhile c b δ S = whileN c b n δ S := by
  unfold sWhile
  have hx : ∃ n, whileN c b n δ S ≠ .no := ⟨n, h⟩
  rw [dif_pos hx]
  rcases Nat.le_total n hx.choose with q | q
  · exact whileN_le h _ q
  · exact (whileN_le hx.choose_spec _ q).symm
theorem fs_while {c : Expr} {fc : FT} (hp : PassesOwn (model X.prog X.w) X.A X.env X.xe) (hc : PT X c (cT X.K X.mg W fc)) (hb : PSs X body (cS X.K X.mg W fb)) : PS X (.While c body [] pos) (cS X.K X.mg W (sWhile fc fb)) := by
  refine PS.of (ps_while hp hc hb) ?_
  rintro Dn σ H ⟨ρ, S, δ, s, x, g⟩
  unfold sWhile at g
  split at g
  · rename_i hx
    refine ⟨fun n σ H => ∃ ρ S δ, Sim X.K X.mg ρ S H ∧ ER X.K X.mg ρ H δ σ ∧ GS X.K X.mg (whileN fc fb n δ S) ρ H Dn W, ⟨hx.choose, ρ, S, δ, s, x, g⟩, ?_⟩
    rintro n σ1 H1 ⟨ρ1, S1, δ1, s1, x1, g1⟩
    cases n with
    | zero => exact g1.elim
    | succ n =>
      refine ⟨ρ1, S1, δ1, s1, x1, (GS.bind g1 x1).imp ?_⟩
      rintro k H2 ⟨ρ2, S2, k', L2, s2, rfl, g2⟩
      cases k' with
      | false => exact g2 ρ2 H2 σ1 Le.refl s2 (x1.le L2)
      | true =>
        rw [if_pos rfl] at g2
        rw [if_pos rfl]
        refine ⟨fun σ' H' => ∃ ρ S δ, Sim X.K X.mg ρ S H' ∧ ER X.K X.mg ρ H' δ σ' ∧ GS X.K X.mg (whileN fc fb n δ S) ρ H' Dn W, fun σ' H' q => ⟨n, Nat.lt_succ_self n, q⟩, ρ2, S2, δ1, s2, x1.le L2, ?_⟩
        cases q : fb δ1 S2 with
        | nx δ3 S3 => rw [q] at g2; exact fun ρ4 H4 σ4 L4 s4 x4 => ⟨ρ4, S3, δ3, s4, x4, GS.le g2 L4⟩
        | ct δ3 S3 => rw [q] at g2; exact fun ρ4 H4 σ4 L4 s4 x4 => ⟨ρ4, S3, δ3, s4, x4, GS.le g2 L4⟩
        | bk δ3 S3 => rw [q] at g2; exact g2
        | rt d3 S3 => rw [q] at g2; exact g2
        | ex δ3 m fs S3 => rw [q] at g2; exact g2
        | no => rw [q] at g2; exact g2.elim
  · exact g.elim
theorem G.bind2 {α β γ δ' : Type} {K : PySem.W.Frag} {mg : Str → Option Value} {rel : List Addr → Hp → α → β → Prop} {r : R α} {ρ ρ' : List Addr} {H H' : Hp} {E : XK} {rel2 : List Addr → Hp → γ → δ' → Prop} {Q : δ' → Hp → Prop} {k : α → Sto → R γ} (g : G K mg rel2 (r.bind k) ρ H Q E) (L : Le ρ H ρ' H') :
    G K mg rel r ρ' H' (fun b H1 => ∃ ρ1 S1 a, Le ρ' H' ρ1 H1 ∧ Sim K mg ρ1 S1 H1 ∧ rel ρ1 H1 a b ∧ G K mg rel2 (k a S1) ρ H Q E) E := by
  cases r with
  | ok a S => exact fun ρ2 H2 b L2 s x => ⟨ρ2, S, a, L2, s, x, g⟩
  | ex n fs S => exact fun ρ2 H2 c od L2 s m x => g ρ2 H2 c od (L.trans L2) s m x
  | no => exact g
/-- behind the walk's start: the turns -/
theorem comp_ok {vs : List Nat} {ft : FT} {σ : L2.St} {δ : Env} {ρ1 : List Addr} {S1 : Sto} {H1 : Hp} {u : Its} {J : It} {Q : VK} (hv : ∀ i ∈ t.names, i ∈ vs) (s1 : Sim X.K X.mg ρ1 S1 H1) (x1 : ER X.K X.mg ρ1 H1 δ σ) (ir : IR X.K X.mg ρ1 H1 u J)
    (g1 : G X.K X.mg (VR X.K X.mg) (if u.ds.length ≤ line then (compF u.live vs t ft fe δ u.ds S1).bind fun ys S => alloc (.lst ys) S else .no) ρ1 H1 Q (fun _ _ _ => False)) :
    ∀ Dd, H1 Dd = none → ∃ W : Nat → Nat → Hp → Prop, (∃ m, W 0 m (upd H1 Dd (.lst []))) ∧ ∀ i m H, W i m H →
      (J.stop i H ∧ Q (.ref Dd) H) ∨ (J.go i H ∧ ∃ Nx : Hp → Prop, (∀ H', Nx H' → ∃ m', m' < m ∧ W (i + 1) m' H') ∧ ∀ x H', J.yld i H x H' → t.g X.K x (wipe σ vs) H' fun σ2 H2 => wipe σ2 vs = wipe σ vs ∧ cT X.K X.mg (fun _ _ _ _ => False) ft σ2 H2 fun b H3 =>
        if b = true then cE X.K X.mg (fun _ _ _ _ => False) fe σ2 H3 fun y H4 => ∃ acc, H4 Dd = some (.lst acc) ∧ acc.length < sizeLine ∧ Nx (upd H4 Dd (.lst (acc ++ [y]))) else Nx H3) := by
  intro Dd nD
  obtain ⟨Gh, Y, wk, ir1, ir2⟩ := ir
  split at g1
  case isFalse => exact g1.elim
  rename_i hsz
  have notin : ∀ {ρ' H'}, Le ρ1 H1 ρ' H' → True := fun _ => trivial
  refine lc_it wk (fun i H => ∃ ρ' S' aD aV, Le ρ1 H1 ρ' H ∧ Sim X.K X.mg ρ' S' H ∧ Dd ∉ ρ' ∧ H Dd = some (.lst aV) ∧ VRs X.K X.mg ρ' H aD aV ∧ aD.length ≤ i ∧
    G X.K X.mg (VR X.K X.mg) ((compF u.live vs t ft fe δ (u.ds.drop i) S').bind fun ys S => alloc (.lst (aD ++ ys)) S) ρ1 H1 Q (fun _ _ _ => False))
    ⟨ρ1, S1, [], [], Le.new nD, s1.new nD, s1.notin nD, upd_same, .nil, Nat.le_refl _, g1⟩ (fun i H2 hi q => ?_) (fun i y H2 H3 hi q hy => ?_) fun H2 q => ?_
  · obtain ⟨ρ', S', aD, aV, L', s', nd, ed, rd, hl, g'⟩ := q
    have lv : liveOk u.live S' := by
      apply Classical.byContradiction
      intro hn
      cases hd : u.ds.drop i with
      | nil => rw [hd] at g'; unfold compF at g'; rw [if_neg hn] at g'; exact g'
      | cons z zs => rw [hd] at g'; unfold compF at g'; rw [if_neg hn] at g'; exact g'
    exact ir1 ρ' S' H2 ⟨L', s', lv⟩
  · obtain ⟨ρ', S', aD, aV, L', s', nd, ed, rd, hl, g'⟩ := q
    have hd : u.ds.drop i = u.ds[i] :: u.ds.drop (i + 1) := List.drop_eq_getElem_cons hi
    rw [hd] at g'
    unfold compF at g'
    split at g'
    case isFalse => exact g'.elim
    rename_i lv
    obtain ⟨d, e1, ry, L2, s2⟩ := ir2 ρ' S' H2 i y H3 ⟨L', s', lv⟩ hy
    rw [List.getElem?_eq_getElem hi] at e1
    cases e1
    split at g'
    case h_2 => exact g'.elim
    rename_i δ1 ea
    have x3 : ER X.K X.mg ρ' H3 (wipeD δ vs) (wipe σ vs) := ((x1.le L').le L2).wipe vs
    refine TgS.ok t ea ry x3 fun σ3 x3 hw => ⟨?_, ?_⟩
    · rw [hw vs hv]
      have ww : ∀ ws : List Nat, (∀ i ∈ ws, i ∈ vs) → wipe (wipe σ vs) ws = wipe σ vs := by
        intro ws
        induction ws with
        | nil => intro _; rfl
        | cons w ws ih =>
          intro hh
          show (wipe (wipe σ vs) ws).set w none = wipe σ vs
          rw [ih fun i hi => hh i (List.mem_cons_of_mem _ hi)]
          have hw' : w ∈ vs := hh w (List.mem_cons_self ..)
          clear hh ih
          refine List.ext_getElem? fun j => ?_
          by_cases hj : w = j
          · subst hj
            rw [List.getElem?_set_self']
            cases q : (wipe σ vs)[w]? with
            | none => rfl
            | some z =>
              cases z with
              | none => rfl
              | some z => exact absurd hw' (wipe_some q).2
          · rw [List.getElem?_set_ne hj]
      exact ww vs fun _ h => h
    rw [bind_bind] at g'
    have edH : H3 Dd = some (.lst aV) := L2.kept Dd _ nd ed
    refine ⟨ρ', S', δ1, s2, x3, (G.bind2 g' (L'.trans L2)).imp ?_⟩
    rintro b H4 ⟨ρ4, S4, b', L4, s4, rfl, g4⟩
    have ed4 : H4 Dd = some (.lst aV) := L4.kept Dd _ nd edH
    have nd4 : Dd ∉ ρ4 := fun m => by
      obtain ⟨new, rfl, hn⟩ := L4.ext
      rcases List.mem_append.mp m with z | z
      · exact nd z
      · rw [hn Dd z] at edH; cases edH
    have L04 := (L'.trans L2).trans L4
    cases b' with
    | false =>
      rw [if_neg Bool.false_ne_true] at g4 ⊢
      exact ⟨ρ4, S4, aD, aV, L04, s4, nd4, ed4, (rd.le L2).le L4, by omega, g4⟩
    | true =>
      rw [if_pos rfl] at g4 ⊢
      rw [bind_bind] at g4
      refine ⟨ρ4, S4, δ1, s4, x3.le L4, (G.bind2 g4 L04).imp ?_⟩
      rintro z H5 ⟨ρ5, S5, z', L5, s5, rz, g5⟩
      have ed5 : H5 Dd = some (.lst aV) := L5.kept Dd _ nd4 ed4
      have nd5 : Dd ∉ ρ5 := fun m => by
        obtain ⟨new, rfl, hn⟩ := L5.ext
        rcases List.mem_append.mp m with q | q
        · exact nd4 q
        · rw [hn Dd q] at ed4; cases ed4
      have rd5 := ((rd.le L2).le L4).le L5
      have hn5 : H1 Dd = none := nD
      refine ⟨aV, ed5, ?_, ρ5, S5, aD ++ [z'], aV ++ [z], ?_, s5.upl ed5 nd5, nd5, upd_same, (rd5.app (.cons rz .nil)).upl ed5, by rw [List.length_append]; simp; omega, ?_⟩
      · rw [line_eq, ← rd5.length]
        have : i < u.ds.length := hi
        omega
      · have L := (L04.trans L5)
        refine ⟨L.ext, fun a o na e => ?_, fun a e => ?_⟩
        · rw [upd_ne (fun q => by rw [q, hn5] at e; cases e)]
          exact L.kept a o na e
        · by_cases q : a = Dd
          · rw [q]; exact hn5
          · rw [upd_ne q] at e; exact L.live a e
      · rw [bind_bind] at g5
        have e : (fun ys S => alloc (.lst (aD ++ [z'] ++ ys)) S) = fun (ys : List D) (S : Sto) => (R.ok (z' :: ys) S : R (List D)).bind fun ys S => alloc (.lst (aD ++ ys)) S := by
          funext ys S
          simp
        rw [e]
        exact g5
  · obtain ⟨ρ', S', aD, aV, L', s', nd, ed, rd, hl, g'⟩ := q
    rw [List.drop_length] at g'
    unfold compF at g'
    split at g'
    case isFalse => exact g'.elim
    rename_i lv
    rw [bind_ok, List.append_nil] at g'
    refine g' (ρ' ++ [Dd]) H2 (.ref Dd) ?_ (s'.join ed nd rd) (.ref ?_)
    · obtain ⟨new, rfl, hn⟩ := L'.ext
      refine ⟨⟨new ++ [Dd], by simp, fun a m => ?_⟩, L'.kept, L'.live⟩
      rcases List.mem_append.mp m with q | q
      · exact hn a q
      · rw [List.mem_singleton.mp q]; exact nD
    · rw [← s'.len, List.getElem?_append_right (Nat.le_refl _), Nat.sub_self]; rfl
theorem comp_calm {K : PySem.W.Frag} {mg : Str → Option Value} {r : R (List D)} {ρ : List Addr} {H : Hp} {Q : VK} {E E' : XK} {c : Prop} [Decidable c] (g : G K mg (VR K mg) (if c then (calmR r).bind fun ys S => alloc (.lst ys) S else .no) ρ H Q E) : G K mg (VR K mg) (if c then r.bind fun ys S => alloc (.lst ys) S else .no) ρ H Q E' := by
  split at g
  · rename_i h
    rw [if_pos h]
    cases r with
    | ok a S => exact g
    | ex n fs S => exact False.elim g
    | no => exact g
  · exact g.elim
/-- [e for t in it if ..] -/
theorem fe_comp {elt iter : Expr} {ifs : List Expr} {scope : Scope} {own : List (Str × Nat)} {ft : FT} (hc : X.calm = true) (hN : X.N.Nodup) (hi : PI X tg iter (cI X.K X.mg W fi)) (ok : BlkOk X.N X.env.scope scope own) (hv : ∀ i ∈ t.names, i ∈ own.map (·.2))
    (hg : ∀ (s : Shared) (H : Hp) (C : Addr) (cl : List (Str × Addr)) (fp : List Addr), PG (X.blk s H scope (compEnvC scope cl C X.env) fp) tg (t.g X.K)) (ht : ∀ (s : Shared) (H : Hp) (C : Addr) (cl : List (Str × Addr)) (fp : List Addr), PTs (X.blk s H scope (compEnvC scope cl C X.env) fp) ifs (cT X.K X.mg (fun _ _ _ _ => False) ft))
    (he : ∀ (s : Shared) (H : Hp) (C : Addr) (cl : List (Str × Addr)) (fp : List Addr), PE (X.blk s H scope (compEnvC scope cl C X.env) fp) elt (cE X.K X.mg (fun _ _ _ _ => False) fe)) (hs : ∀ x, foldedSetIterable iter X.env x = pure x := by intro _; rfl) :
    PE X (.ListComp elt [⟨tg, iter, ifs, 0⟩] scope pos) (cE X.K X.mg W (eComp fi (own.map (·.2)) t ft fe)) := by
  refine PE.of (pe_lc hc hN hi ok hg ht he hs) ?_
  rintro σ H Q ⟨ρ, S, δ, s, x, g⟩
  refine ⟨ρ, S, δ, s, x, (G.bind g).imp ?_⟩
  rintro J H1 ⟨ρ1, S1, u, L1, s1, ir, g1⟩
  exact comp_ok hv s1 (x.le L1) ir (comp_calm g1)
/-- name = [..] on one line, the name a local -/
theorem fs_setComp {i : Nat} {y : Str} {py : Pos} {elt iter : Expr} {ifs : List Expr} {scope : Scope} {own : List (Str × Nat)} {spos : Pos} {ft : FT} (hc : X.calm = true) (hN : X.N.Nodup) (hy : X.N[i]? = some y) (hyl : X.env.scope.names.lookup y = some .local)
    (hsw : swapsWith (.ListComp elt [⟨tg, iter, ifs, 0⟩] scope pos) (some (.Name y py)) spos.line X.env = pure true) (hi : PI X tg iter (cI X.K X.mg W fi)) (ok : BlkOk X.N X.env.scope scope own) (hv : ∀ i ∈ t.names, i ∈ own.map (·.2))
    (hg : ∀ (s : Shared) (H : Hp) (C : Addr) (cl : List (Str × Addr)) (fp : List Addr), PG (X.blk s H scope (compEnvC scope cl C X.env) fp) tg (t.g X.K)) (ht : ∀ (s : Shared) (H : Hp) (C : Addr) (cl : List (Str × Addr)) (fp : List Addr), PTs (X.blk s H scope (compEnvC scope cl C X.env) fp) ifs (cT X.K X.mg (fun _ _ _ _ => False) ft))
    (he : ∀ (s : Shared) (H : Hp) (C : Addr) (cl : List (Str × Addr)) (fp : List Addr), PE (X.blk s H scope (compEnvC scope cl C X.env) fp) elt (cE X.K X.mg (fun _ _ _ _ => False) fe)) (hs : ∀ x, foldedSetIterable iter X.env x = pure x := by intro _; rfl) :
    PS X (.Assign [.Name y py] (.ListComp elt [⟨tg, iter, ifs, 0⟩] scope pos) spos) (cS X.K X.mg W (sSet i (eComp fi (own.map (·.2)) t ft fe))) := by
  refine PS.of (ps_setLc hc hN hy hyl hsw hi ok hg ht he hs) ?_
  rintro D σ H ⟨ρ, S, δ, s, x, g⟩
  have g0 := GS.bind g x (rel := VR X.K X.mg)
  refine ⟨ρ, S, δ, s, x, (G.bind g0).imp ?_⟩
  rintro J H1 ⟨ρ1, S1, u, L1, s1, ir, g1⟩
  refine comp_ok (Q := fun x H1 => L2.gName i x σ H1 D.nx) hv s1 (x.le L1) ir (G.imp (comp_calm g1) ?_)
  rintro v H2 ⟨ρ2, S2, d2, L2, s2, r2, g2⟩
  exact g2 ρ2 H2 _ Le.refl s2 ((x.le L2).set i r2)
end
end KF
set_option Elab.async false
set_option linter.all false
set_option maxRecDepth 100000
set_option maxHeartbeats 4000000
namespace KF
open PySem PySem.Spec PyProof.Rows L2 KQ
section
variable (P : Program) (w : World) (K : PySem.W.Frag) (mg : Str → Option Value) (base : Heap)
def XA (x : Str) : Prop := ∃ C, ExcAt K mg x C
def MA (cn m qual : Str) (st : Stmt) : Prop := ∃ C, mg cn = some (.ref C) ∧ Cls K C ∧ MethAt K C m qual st
def IA (cn qual : Str) (st : Stmt) : Prop := ∃ C, InitAt K mg cn C qual st
def HM (k : Nat) (cn m : Str) (ps : List Str) (fn : Fn) : Prop := ∃ C, mg cn = some (.ref C) ∧ Cls K C ∧ HasMF P w K mg base k C m ps fn
def HC (k : Nat) (cn : Str) (ps : List Str) (fn : Fn) : Prop := ∃ C, HasCF P w K mg base k cn C ps fn
/-- a constant of the module -/
def GI (x : Str) (i : Int) : Prop := ∃ t, mg x = some (.int i t)
def GC (x : Str) : Prop := ∃ a, mg x = some (.ref a)
end
section
variable {P : Program} {w : World} {K : PySem.W.Frag} {mg : Str → Option Value} {base : Heap}
theorem mk_HM {cn x qual : Str} {st : Stmt} {N ps : List Str} {k : Nat} {b : FS} (F : MA K mg cn x qual st) (S : FnScope N ps (defScope st)) (hb : BindsQ st x qual ps)
    (body : ∀ (f : Addr) (cdv : Value) (A : Around) (outer : List PySem.Env) (s : Shared) (H : Hp) (E : XK), Room k (A.deeper (envOfC qual (defScope st) s.heap.objs.size f cdv)) →
      PSs (cxOf (L2.CX P w) P w K mg base N qual (defScope st) f cdv A outer s H E) (defBody st) (cS K mg (fun cls d _ H => E cls d H) b)) : HM P w K mg base (k + 1) cn x ps (fnOf ps.length N.length b) := by
  obtain ⟨C, g, c, F⟩ := F
  exact ⟨C, g, c, mk_hasMF F S hb body⟩
theorem mk_HC {cn qual : Str} {st : Stmt} {N ps : List Str} {k : Nat} {b : FS} (F : IA K mg cn qual st) (S : FnScope N ps (defScope st)) (hb : BindsQ st "__init__" qual ps)
    (body : ∀ (f : Addr) (cdv : Value) (A : Around) (outer : List PySem.Env) (s : Shared) (H : Hp) (E : XK), Room k (A.deeper (envOfC qual (defScope st) s.heap.objs.size f cdv)) →
      PSs (cxOf (L2.CX P w) P w K mg base N qual (defScope st) f cdv A outer s H E) (defBody st) (cS K mg (fun cls d _ H => E cls d H) b)) : HC P w K mg base (k + 1) cn ps (fnOf ps.length N.length b) := by
  obtain ⟨C, F⟩ := F
  exact ⟨C, mk_hasCF F S hb body⟩
end
section
variable {X : Cx} {W : WX} {k : Nat} {x cn m : Str} {ps : List Str} {fn : Fn} {a b e o i : Expr} {es : List Expr} {p pos apos tpos : Pos} {t : FA} {fa fb fo fe fi : FE} {pl : Sem Bool}
theorem fe_methA (tk : Takes X W) (D : HM X.prog X.w X.K X.mg X.base k cn m ps fn) (hr : Room k X.A) (ho : PE X o (cE X.K X.mg W fo)) (ha : PA X (e :: es) (cA X.K X.mg W t))
    (hst : starEach (e :: es) X.env = (false, eval e X.env) :: starEach es X.env := by rfl) (hpl : (backTo pos (starEach es X.env)).any (·.1) = false := by rfl)
    (ht : eval (.Call (.Attribute o m apos) (e :: es) [] pos) X.env = (do
      let ov ← eval o X.env
      standAt apos.atName
      let (f, first) ← holding [ov] (getMethod ov m pl)
      callWith pos f first (backTo pos (starEach (e :: es) X.env)) (backToKw pos (keywordEach [] X.env))) := by rfl) :
    PE X (.Call (.Attribute o m apos) (e :: es) [] pos) (cE X.K X.mg W (eMeth cn m fn fo t)) := by
  obtain ⟨C, g, c, D⟩ := D
  exact fe_meth tk D g c hr ho ha hst hpl ht
theorem fe_methA0 (tk : Takes X W) (D : HM X.prog X.w X.K X.mg X.base k cn m ps fn) (hr : Room k X.A) (ho : PE X o (cE X.K X.mg W fo))
    (ht : eval (.Call (.Attribute o m apos) [] [] pos) X.env = (do
      let ov ← eval o X.env
      standAt apos.atName
      let (f, first) ← holding [ov] (getMethod ov m pl)
      callWith pos f first (backTo pos (starEach [] X.env)) (backToKw pos (keywordEach [] X.env))) := by rfl) :
    PE X (.Call (.Attribute o m apos) [] [] pos) (cE X.K X.mg W (eMeth cn m fn fo aNil)) := by
  obtain ⟨C, g, c, D⟩ := D
  exact fe_meth0 tk D g c hr ho ht
theorem fe_altM {f1 f2 : FE} (h1 : PE X e (cE X.K X.mg W f1)) (h2 : PE X e (cE X.K X.mg W f2)) : PE X e (cE X.K X.mg W (eAlt f1 f2)) := by
  refine fe_alt h1 h2 fun δ S => ?_
  unfold eAlt
  cases f1 δ S with
  | no => exact .inr (.inl rfl)
  | ok _ _ => exact .inl rfl
  | ex _ _ _ => exact .inl rfl
theorem pe_cX00 {C : Addr} {sp : Sp} (tk : Takes X W) (D : HasCX X.prog X.w X.K X.mg X.base k x C ps sp) (hr : Room (k + 1) X.A) (hg : Gl X x) (hdb : (x == ("__debug__" : Str)) = false := by decide) :
    PE X (.Call (.Name x p) [] [] pos) (tMakeW C sp W tNil) := by
  obtain ⟨f, fd, F, M, hm, hb⟩ := D
  constructor
  intro pins s0 σ H0 Q I0 h0
  refine wpAny_Call_Name_kw (ld_glob I0 hg hm (PySem.W.callWith_K0 I0.kIn M.kp ?_) hdb)
  have hq := h0 (s0.heap.objs.size + 1) s0.heap.objs.size (I0.hok.fresh (Nat.le_succ _)) (I0.hok.fresh (Nat.le_refl _)) (Nat.ne_of_lt (Nat.lt_succ_self _))
  have J := Inv.made (C := C) I0
  have r2 : Vals [V.ref (s0.heap.objs.size + 1)] [Value.ref (s0.heap.objs.size + 1)] := .cons rfl .nil
  have b := hb _ [Value.ref (s0.heap.objs.size + 1)] J.kIn (by
    rw [List.append_nil, ← r2.length]
    exact F.len _ _ _ _ hq)
  rw [List.append_nil] at b
  refine wpAny_call (make_map (f := f) I0.kIn M.makes M.init (beq_iff_eq.mp M.fn) (codeAny_mono (F.run _ X.stack _ _ ⟨[Value.ref (s0.heap.objs.size + 1)], []⟩ [Value.ref (s0.heap.objs.size + 1)] _ _ (WE W σ) (hr.make C [] [])
    (J.env0.make C [] []) b r2 hq) ?_))
  intro z s' hz
  match z, hz with
  | .error e, hz => exact passAt tk σ pins _ _ e s' J hz
  | .ok (.ret u), hz =>
    obtain ⟨v, H', I3, rv, rfl, q3⟩ := J.after hz
    exact ⟨rv, V.ref (s0.heap.objs.size + 1), H', I3, rfl, q3⟩
  | .ok .next, hz => exact False.elim hz
  | .ok .brk, hz => exact False.elim hz
  | .ok .cont, hz => exact False.elim hz
theorem fe_makeA0 (tk : Takes X W) (D : HC X.prog X.w X.K X.mg X.base k cn ps fn) (hr : Room (k + 1) X.A) (hg : Gl X cn) (hdb : (cn == ("__debug__" : Str)) = false := by decide) :
    PE X (.Call (.Name cn p) [] [] pos) (cE X.K X.mg W (eMake cn fn aNil)) := by
  obtain ⟨C, D⟩ := D
  have hC : X.mg cn = some (.ref C) := by obtain ⟨f, fd, F, M, hm, hb⟩ := D; exact hm
  refine PE.of (pe_cX00 tk D hr hg hdb) ?_
  rintro σ H Q ⟨ρ1, S1, δ, s1, x, g1⟩ y dy ny ndy ne
  unfold eMake aNil at g1
  rw [bind_ok] at g1
  have nx : upd H dy (.own y) y = none := by rw [upd_ne (Ne.symm ne)]; exact ny
  have s2 : Sim X.K X.mg ρ1 S1 (upd H dy (.own y)) := s1.new ndy
  have L2 : Le ρ1 H ρ1 (upd H dy (.own y)) := Le.new ndy
  have L3 : Le ρ1 (upd H dy (.own y)) (ρ1 ++ [y]) (upd (upd H dy (.own y)) y (.ins C dy [])) := Le.more nx
  have s3 : Sim X.K X.mg (ρ1 ++ [y]) (S1 ++ [.ins cn []]) (upd (upd H dy (.own y)) y (.ins C dy [])) := s2.more nx (.ins hC upd_same .nil)
  have hy : (ρ1 ++ [y])[S1.length]? = some y := by rw [← s1.len, List.getElem?_append_right (Nat.le_refl _), Nat.sub_self]; rfl
  have L4 := L2.trans L3
  have g2 := G.bind (G.le g1 L4) (rel := VR X.K X.mg)
  refine ⟨ρ1 ++ [y], _, _, s3, .cons (.ref hy) .nil, g2.imp ?_⟩
  rintro v H3 ⟨ρ3, S3, d3, L5, s5, r5, g5⟩
  split at g5
  · cases r5
    exact ⟨rfl, g5.ret Le.refl s5 (.ref (L5.get hy))⟩
  · exact g5.elim
theorem fs_rzA {nm : Str} {pos2 : Pos} (hc : X.calm = true) (tk : Takes X W) (T : XA X.K X.mg nm) (hg : Gl X nm) (hdb : (nm == ("__debug__" : Str)) = false := by decide) :
    PS X (.Raise (some (.Call (.Name nm p) [] [] pos)) none pos2) (cS X.K X.mg W (sRz nm)) := by
  obtain ⟨C, T⟩ := T
  exact fs_rz hc tk T hg hdb
theorem ExmF.one {K : PySem.W.Frag} {mg : Str → Option Value} {errs cs : List Str} (h : ExmF K mg errs cs) (c : Str) (hc : c ∈ cs) : ExmF K mg errs [c] := fun n hn c' hc' => h n hn c' (by rw [List.mem_singleton.mp hc']; exact hc)
theorem fe_gInt {j : Int} (h : GI X.mg x j) (hg : Gl X x) (hd : (x == ("__debug__" : Str)) = false := by decide) : PE X (.Name x pos) (cE X.K X.mg W (eC (.int j))) := by
  obtain ⟨t, h⟩ := h
  exact fe_c (pe_glob (v := .int j) hg h ⟨_, rfl⟩ hd) fun _ _ => .int _
theorem augl_add {K : PySem.W.Frag} {mg : Str → Option Value} : ∀ ρ S H d d' u v Q E, Sim K mg ρ S H → VR K mg ρ H d u → VR K mg ρ H d' v → G K mg (VR K mg) (augAdd d d' S) ρ H Q E → ipI (fun i j => i + j) u v H Q := by
  intro ρ S H d d' u v Q E s r1 r2 g
  unfold augAdd at g
  split at g
  · cases r1; cases r2; exact ⟨_, _, rfl, rfl, g.val s (.int _)⟩
  · exact g.elim
end
end KF
namespace KF
open PySem PySem.Spec PyProof.Rows L2 KQ
section
variable {X : Cx} {W : WX} {k : Nat} {x : Str} {a b e o i : Expr} {es : List Expr} {p pos apos tpos : Pos} {t : FA} {fa fb fo fe fi : FE}
/-- o.f op= e -/
theorem fs_augF {cs : List Str} {f : Str} {op : Operator} {rd : V → V → Hp → VK → Prop} {r : D → D → Sto → R D} (cl : FldC X.K X.mg cs f) (ho : PE X o (cE X.K X.mg W fo)) (he : PE X e (cE X.K X.mg W fe)) (hop : InOp X op rd)
    (l : ∀ ρ S H d d' u v Q E, Sim X.K X.mg ρ S H → VR X.K X.mg ρ H d u → VR X.K X.mg ρ H d' v → G X.K X.mg (VR X.K X.mg) (r d d' S) ρ H Q E → rd u v H Q) : PS X (.AugAssign (.Attribute o f tpos) op e pos) (cS X.K X.mg W (sAugFld cs f r fo fe)) := by
  refine PS.of (ps_fldaug ho he hop) ?_
  rintro D σ H ⟨ρ, S, δ, s, x, g⟩
  refine ⟨ρ, S, δ, s, x, (GS.bind g x).imp ?_⟩
  rintro u H1 ⟨ρ1, S1, d1, L1, s1, r1, g1⟩
  split at g1
  · rename_i i
    split at g1
    · rename_i C' fs hS
      split at g1
      · rename_i hC
        split at g1
        · rename_i d hl
          obtain ⟨a, Ca, dx, gs, rfl, hra, hg, ha, hf⟩ := s1.insA r1 hS
          obtain ⟨v, hv, rv⟩ := (fld_no hf).2 d hl
          obtain ⟨c1, c2⟩ := cl C' hC Ca hg
          refine ⟨a, Ca, dx, gs, v, rfl, ha, c1, c2, hv, ρ1, S1, δ, s1, x.le L1, (GS.bind g1 (x.le L1)).imp ?_⟩
          rintro w H2 ⟨ρ2, S3, d2, L2, s2, r2, g2⟩
          refine l ρ2 S3 H2 d d2 v w _ (WE W σ) s2 (rv.le L2) r2 ((GS.bind g2 ((x.le L1).le L2)).imp ?_)
          rintro y H3 ⟨ρ3, S4, d3, L3, s3, r3, g3⟩
          split at g3
          · rename_i C3 fs3 hS3
            split at g3
            · rename_i hC3
              obtain ⟨rfl, hl3⟩ := hC3
              obtain ⟨a', Ca', dx', gs', e', hra', hg', ha', hf'⟩ := s3.insA ((r1.le L2).le L3) hS3
              cases e'
              rw [hg] at hg'
              cases hg'
              have L4 : Le ρ3 H3 ρ3 (upd H3 a (.ins Ca dx' (putF f y gs'))) := Le.put (List.mem_of_getElem? hra')
              exact ⟨dx', gs', ha', by rw [← hf'.length]; exact hl3, g3 ρ3 _ σ L4 (s3.put hra' (.ins hg upd_same (FR.put (r3.le L4) (hf'.le L4)))) ((((x.le L1).le L2).le L3).le L4)⟩
            · exact g3.elim
          · exact g3.elim
        · exact g1.elim
      · exact g1.elim
    · exact g1.elim
  · exact g1.elim
theorem addl {K : PySem.W.Frag} {mg : Str → Option Value} : ∀ ρ S H d d' u v Q E, Sim K mg ρ S H → VR K mg ρ H d u → VR K mg ρ H d' v → G K mg (VR K mg) (augAdd d d' S) ρ H Q E → rAdd u v H Q := augl_add
theorem fs_augFAdd {cs : List Str} {f : Str} (cl : FldC X.K X.mg cs f) (ho : PE X o (cE X.K X.mg W fo)) (he : PE X e (cE X.K X.mg W fe)) : PS X (.AugAssign (.Attribute o f tpos) .Add e pos) (cS X.K X.mg W (sAugFld cs f augAdd fo fe)) := fs_augF cl ho he in_add addl
end
end KF
set_option Elab.async false
set_option linter.all false
set_option maxRecDepth 100000
set_option maxHeartbeats 4000000
namespace KF
open PySem PySem.Spec PyProof.Rows L2 KQ
theorem perm_uniq {α : Type} {le : α → α → Prop} (anti : ∀ a b, le a b → le b a → a = b) : ∀ {l m : List α}, l.Perm m → l.Pairwise le → m.Pairwise le → l = m
  | [], m, h, _, _ => (List.Perm.nil_eq h)
  | x :: l, [], h, _, _ => absurd h.symm.nil_eq (by simp)
  | x :: l, y :: m, h, hl, hm => by
    rw [List.pairwise_cons] at hl hm
    have e : x = y := by
      have hx : x ∈ y :: m := h.mem_iff.mp (List.mem_cons_self ..)
      have hy : y ∈ x :: l := h.mem_iff.mpr (List.mem_cons_self ..)
      rcases List.mem_cons.mp hx with q | q
      · exact q
      · rcases List.mem_cons.mp hy with r | r
        · exact r.symm
        · exact anti x y (hl.1 y r) (hm.1 x q)
    subst e
    rw [perm_uniq anti h.cons_inv hl.2 hm.2]
theorem sortI_perm (l : List Int) : (sortI l).Perm l := List.mergeSort_perm l _
theorem sortI_le (l : List Int) : (sortI l).Pairwise (· ≤ ·) := by
  have h := List.pairwise_mergeSort (le := fun a b : Int => decide (a ≤ b)) (fun a b c h1 h2 => by simp at h1 h2 ⊢; omega) (fun a b => by simp; omega) l
  exact h.imp fun h => of_decide_eq_true h
theorem sortI_of {l m : List Int} (h : m.Perm l) (s : m.Pairwise (· ≤ ·)) : m = sortI l := perm_uniq (fun a b h1 h2 => by omega) (h.trans (sortI_perm l).symm) s (sortI_le l)
theorem leP_iff {a b : Int × Int} : leP a b = true ↔ a.1 < b.1 ∨ (a.1 = b.1 ∧ a.2 ≤ b.2) := by
  unfold leP
  simp
theorem sortP_perm (l : List (Int × Int)) : (sortP l).Perm l := List.mergeSort_perm l _
theorem sortP_le (l : List (Int × Int)) : (sortP l).Pairwise (fun a b => leP a b = true) := by
  refine List.pairwise_mergeSort (le := leP) (fun a b c h1 h2 => ?_) (fun a b => ?_) l
  · rw [leP_iff] at h1 h2 ⊢; omega
  · rw [Bool.or_eq_true, leP_iff, leP_iff]; omega
theorem sortP_of {l m : List (Int × Int)} (h : m.Perm l) (s : m.Pairwise (fun a b => leP a b = true)) : m = sortP l :=
  perm_uniq (fun a b h1 h2 => by
    rw [leP_iff] at h1 h2
    have h3 : a.1 = b.1 := by omega
    have h4 : a.2 = b.2 := by omega
    exact Prod.ext h3 h4) (h.trans (sortP_perm l).symm) s (sortP_le l)
def pK (p : Int × Int) : List Key := [.inl p.1, .inl p.2]
def rSortedDP : List V → Hp → VK → Prop := fun xs H Q => ∃ (a : Addr) (kvs : List (List Key × V)) (ks : List (Int × Int)), xs = [.ref a] ∧ Rd H a (.dT kvs) ∧ kvs.map (·.1) = ks.map pK ∧ ks.length ≤ line ∧
  ∀ (p : Addr) (zs : List V), Paired (fun (q : Int × Int) (z : V) => ∃ b, z = .ref b ∧ H b = some (.tup [.int q.1, .int q.2])) (sortP ks) zs → H p = none → Q (.ref p) (upd H p (.lst zs))
theorem paired_map {α β : Type} {R : α → β → Prop} {f : β → α} : ∀ {l : List β}, (∀ b ∈ l, R (f b) b) → Paired R (l.map f) l
  | [], _ => .nil
  | b :: l, h => .cons (h b (List.mem_cons_self ..)) (paired_map fun c hc => h c (List.mem_cons_of_mem _ hc))
/-- what a value tells as a pair -/
def pairV (H : Hp) (v : Value) : Int × Int := match v with
  | .ref b => match H b with
    | some (.tup [.int i, .int j]) => (i, j)
    | _ => (0, 0)
  | _ => (0, 0)
theorem call_sortedDP {X : Cx} (hcalm : X.calm = true) : CallR X (.builtin "sorted") rSortedDP := by
  intro pins s σ H xs us Q I r q
  obtain ⟨a, kvs, ks, rfl, hd, hks, hz, q⟩ := q
  obtain ⟨u, rfl, rx⟩ := vals1 r
  cases rx
  obtain ⟨z, hs, xks, pr, o, es, ep, ho, hx, hdt, he, hn⟩ := (show ObjOk X.prog X.w H s.heap a (.dT kvs) from hd.ok I.hok)
  have l1 : es.size = xks.length := size_of_entries he
  have l2 : kvs.length = xks.length := Paired.length pr
  have l3 : kvs.length = ks.length := by simpa using congrArg List.length hks
  refine Calls.call_function_entry PyProof.Rows.kind_sorted PyProof.Rows.plain_sorted PyProof.Rows.entry_sorted (PyProof.Rows.args_sorted1 _) ?_
  unfold Builtin.«sorted»
  refine wpAny_bind (m := checkCount "sorted" 1 1 _) (wpAny_pure ?_)
  refine wpAny_bind (PySem.W.kdu_collect (A := X.A.in1) (kdl_raw hs hx hdt) (I.ok.hd hcalm) ho (by omega) fun h' tk acc hk it => ?_)
  have ea : acc.toList = xks.map fun x => Value.ref x.2.1 := by
    have hl : acc.toList.length = xks.length := by rw [Array.length_toList, it.1]; exact l1
    apply List.ext_getElem?
    intro j
    rw [List.getElem?_map]
    cases hj : acc.toList[j]? with
    | none =>
      have h1 := List.getElem?_eq_none_iff.mp hj
      rw [List.getElem?_eq_none (by omega)]
      all_goals rfl
    | some v =>
      obtain ⟨en, hen, hv⟩ := it.2 j v (by rw [← Array.getElem?_toList]; exact hj)
      have qe := entry_at he j
      rw [hen] at qe
      cases hb : xks[j]? with
      | none =>
        rw [hb] at qe
        exact nomatch (show some en = none from qe)
      | some b =>
        rw [hb] at qe
        have e2 : en = entryOfKey (tupleKind (mixKind X.prog X.w)) b := Option.some.inj qe
        rw [hv, e2]
        all_goals rfl
  -- each item is a pair of ours
  have hm : ∀ x ∈ xks, ∃ p : Int × Int, x.1 = pK p ∧ H x.2.1 = some (.tup [.int p.1, .int p.2]) := by
    clear ea it hk acc q l1 l2 l3 hz he hn hd z
    induction pr generalizing ks with
    | nil => intro x hx; cases hx
    | @cons p x ps xs' h t ih =>
      cases ks with
      | nil => simp at hks
      | cons k ks =>
        rw [List.map_cons, List.map_cons] at hks
        injection hks with e1 e2
        intro y hy
        rcases List.mem_cons.mp hy with rfl | hy
        · refine ⟨k, by rw [← h.1, e1], ?_⟩
          rw [h.2.1, e1]
          rfl
        · exact ih ks e2 y hy
  have hkk : xks.map (fun x => pairV H (.ref x.2.1)) = ks := by
    clear ea it hk acc q l1 l2 l3 hz he hn hm hd z
    induction pr generalizing ks with
    | nil => cases ks with
      | nil => rfl
      | cons k ks => simp at hks
    | @cons p x ps xs' h t ih =>
      cases ks with
      | nil => simp at hks
      | cons k ks =>
        rw [List.map_cons, List.map_cons] at hks
        injection hks with e1 e2
        rw [List.map_cons, ih ks e2]
        have : pairV H (.ref x.2.1) = k := by
          unfold pairV
          dsimp only
          rw [h.2.1, e1]
          rfl
        rw [this]
  have hv : ∀ v ∈ acc.toList, ∃ b p, v = Value.ref b ∧ H b = some (.tup [.int (pairV H v).1, .int (pairV H v).2]) ∧ p = pairV H v := fun v m => by
    rw [ea] at m
    obtain ⟨x, mx, rfl⟩ := List.mem_map.mp m
    obtain ⟨p, h1, h2⟩ := hm x mx
    refine ⟨x.2.1, _, rfl, ?_, rfl⟩
    unfold pairV
    dsimp only
    rw [h2]
  have hal : acc.toList.length = ks.length := by rw [ea, List.length_map]; omega
  have I1 : Inv X pins σ H { s with heap := h', toks := tk } := I.kept hk
  have hl16 : acc.toList.length ≤ sizeLine := by rw [hal, line_eq]; exact hz
  refine wpAny_bind (wpAny_newList ?_ hl16)
  have hoL : (h'.push (seqObj "list" acc.toList.toArray 0)).get? h'.objs.size = some (seqObj "list" acc.toList.toArray 0) := Heap.get?_push_size _ rfl
  show wpAny _ _ _ _ _ { s with heap := h'.push (seqObj "list" acc.toList.toArray 0), toks := tk }
  have isP : ∀ v ∈ acc.toList, Srt.IsPair (h'.push (seqObj "list" acc.toList.toArray 0)) v (pairV H v).1 (pairV H v).2 := fun v m => by
    obtain ⟨b, _, rfl, hb, _⟩ := hv v m
    obtain ⟨_, its2, r2, o2, ho2, hc2, n2, hd2⟩ := I1.hok _ _ hb
    obtain ⟨u1, u2, rfl, ri, rj⟩ := vals2 r2
    obtain ⟨t1, rfl⟩ := ri
    obtain ⟨t2, rfl⟩ := rj
    exact ⟨b, o2, t1, t2, n2, rfl, Heap.get?_push_of_some _ ho2, hc2, hd2⟩
  refine wpAny_bind (wpAny_holding (wpAny_call_entry PyProof.Rows.slot_list_sort ⟨_, hoL, rfl⟩ PyProof.Rows.entry_list_sort
    (SrtO.list_sort_ord (s := { s with heap := h'.push (seqObj "list" acc.toList.toArray 0), toks := tk }) (SrtO.swo_lex (pairV H)) hoL hl16 (fun h2 => SrtO.pairs_sortableO (s := { s with heap := h'.push (seqObj "list" acc.toList.toArray 0), toks := tk }) (by omega) isP fun o e => by
      have e' : some o = some (seqObj "list" acc.toList.toArray 0) := e.symm.trans hoL
      cases e'
      intro c
      exact absurd (Value.type.inj c) (by decide)) fun out h1 h2 => ⟨_, rfl, ?_⟩) (PyProof.Rows.args_list_sort _)))
  obtain ⟨e', he'⟩ := PyProof.Rows.sortedHeap_at (vs := acc.toList) (out := out.toArray) hoL
  have hout : ∀ v ∈ out, ∃ b, v = Value.ref b ∧ H b = some (.tup [.int (pairV H v).1, .int (pairV H v).2]) := fun v m => by
    obtain ⟨b, _, e, hb, _⟩ := hv v (h2.perm.mem_iff.mp m)
    exact ⟨b, e, hb⟩
  have hol : out.length = acc.toList.length := h2.perm.length_eq
  let vof : Value → V := fun v => match v with | .ref b => .ref b | _ => .non
  have rv : Vals (out.map vof) out := paired_map fun v m => by
    obtain ⟨b, rfl, _⟩ := hout v m
    exact rfl
  have hlen : (out.map vof).length ≤ sizeLine := by rw [List.length_map, hol]; exact hl16
  refine wpAny_pure ⟨_, rfl, .ref h'.objs.size, upd H h'.objs.size (.lst (out.map vof)), I1.laid (t' := tk) (fun b u e => ?_) (Nat.le_refl _)
    (show ObjOk X.prog X.w _ _ _ (.lst (out.map vof)) from ⟨hlen, out, e', rv, he'⟩), rfl, q _ _ ?_ (I1.hok.fresh (Nat.le_refl _))⟩
  · have hb : b < h'.objs.size := Heap.lt_size e
    rw [PyProof.Rows.sortedHeap_old (Nat.ne_of_lt hb) (by rw [size_push']; exact Nat.lt_succ_of_lt hb)]
    exact Heap.get?_push_of_some _ e
  · have es : out.map (pairV H) = sortP ks := by
      refine sortP_of ?_ ?_
      · rw [← hkk]
        have := h2.perm.map (pairV H)
        rw [ea, List.map_map] at this
        exact this
      · refine List.pairwise_map.mpr ?_
        have h1' : List.Pairwise (fun v u => SrtO.lexB (pairV H u) (pairV H v) = false) out := h1
        refine h1'.imp fun {v u} h => ?_
        rw [leP_iff]
        have := SrtO.lexB_no.mp h
        omega
    rw [← es]
    clear es h1 h2 rv hlen hol he'
    induction out with
    | nil => exact .nil
    | cons v out ih =>
      obtain ⟨b, e, hb⟩ := hout v (List.mem_cons_self ..)
      refine .cons ⟨b, by rw [e], ?_⟩ (ih fun v m => hout v (List.mem_cons_of_mem _ m))
      exact hb
end KF
namespace KF
open PySem PySem.Spec PyProof.Rows L2 KQ
section
variable {K : PySem.W.Frag} {mg : Str → Option Value} {ρ : List Addr} {H : Hp} {S : Sto}
theorem pairsOf_eq : ∀ {ds : List D} {ps : List (Int × Int)}, pairsOf ds = some ps → ds = ps.map pD
  | [], ps, e => by simp [pairsOf] at e; subst e; rfl
  | d :: l, ps, e => by
    rw [pairsOf] at e
    split at e
    · rename_i p qs h1 h2
      simp at e
      subst e
      rw [List.map_cons, ← pairsOf_eq h2]
      have : d = pD p := by
        unfold pairOf at h1
        split at h1
        · simp at h1; subst h1; rfl
        · simp at h1
      rw [this]
    · simp at e
/-- pairs in a list, by values -/
theorem pairsV : ∀ {ps : List (Int × Int)} {vs : List V}, VRs K mg ρ H (ps.map pD) vs → Paired (fun (q : Int × Int) (z : V) => ∃ b, z = .ref b ∧ H b = some (.tup [.int q.1, .int q.2])) ps vs
  | [], _, r => by cases r; exact .nil
  | p :: ps, _, r => by
    cases r with
    | cons r t =>
      refine .cons ?_ (pairsV t)
      cases r with
      | @tup b us _ h n k r =>
        obtain ⟨e, _⟩ := k (by rfl)
        refine ⟨b, rfl, ?_⟩
        rw [e]
        cases r with
        | cons r1 t =>
          cases t with
          | cons r2 t =>
            cases t
            cases r1
            cases r2
            rfl
theorem pairVR (s : Sim K mg ρ S H) {q : Int × Int} {b : Addr} (h : H b = some (.tup [.int q.1, .int q.2])) : VR K mg ρ H (pD q) (.ref b) := by
  have n : b ∉ ρ := fun m => by
    obtain ⟨i, hi⟩ := List.mem_iff_getElem?.mp m
    obtain ⟨o, _, r⟩ := s.at_ hi
    cases r with
    | lst e _ => rw [h] at e; cases e
    | dK e _ => rw [h] at e; cases e
    | dT e _ => rw [h] at e; cases e
    | ins _ e _ => rw [h] at e; cases e
  exact .tup (.of h) (fun m => absurd m n) (fun _ => ⟨h, n⟩) (.cons (.int _) (.cons (.int _) .nil))
theorem pairsVR (s : Sim K mg ρ S H) : ∀ {qs : List (Int × Int)} {zs : List V}, Paired (fun (q : Int × Int) (z : V) => ∃ b, z = .ref b ∧ H b = some (.tup [.int q.1, .int q.2])) qs zs → VRs K mg ρ H (qs.map pD) zs
  | _, _, .nil => .nil
  | _, _, .cons ⟨b, e, h⟩ t => by subst e; exact .cons (pairVR s h) (pairsVR s t)
/-- the pair that a value tells -/
def pairW (H : Hp) (v : V) : Int × Int := match v with
  | .ref b => match H b with
    | some (.tup [.int i, .int j]) => (i, j)
    | _ => (0, 0)
  | _ => (0, 0)
theorem pairW_of {q : Int × Int} {b : Addr} (h : H b = some (.tup [.int q.1, .int q.2])) : pairW H (.ref b) = q := by
  unfold pairW
  dsimp only
  rw [h]
theorem pairedW : ∀ {ps : List (Int × Int)} {vs : List V}, Paired (fun (q : Int × Int) (z : V) => ∃ b, z = .ref b ∧ H b = some (.tup [.int q.1, .int q.2])) ps vs → vs.map (pairW H) = ps ∧ ∀ x ∈ vs, ∃ t, x = V.ref t ∧ H t = some (.tup [.int (pairW H x).1, .int (pairW H x).2])
  | _, _, .nil => ⟨rfl, fun x h => by cases h⟩
  | _, _, .cons (a := q) ⟨b, e, h⟩ t => by
    subst e
    obtain ⟨h1, h2⟩ := pairedW t
    refine ⟨by rw [List.map_cons, pairW_of h, h1], fun x m => ?_⟩
    rcases List.mem_cons.mp m with rfl | m
    · exact ⟨b, rfl, by rw [pairW_of h]; exact h⟩
    · exact h2 x m
theorem wPaired : ∀ {vs : List V}, (∀ x ∈ vs, ∃ t, x = V.ref t ∧ H t = some (.tup [.int (pairW H x).1, .int (pairW H x).2])) → Paired (fun (q : Int × Int) (z : V) => ∃ b, z = .ref b ∧ H b = some (.tup [.int q.1, .int q.2])) (vs.map (pairW H)) vs
  | [], _ => .nil
  | v :: vs, h => .cons (h v (List.mem_cons_self ..)) (wPaired fun x m => h x (List.mem_cons_of_mem _ m))
theorem toD_ints {es : List (DK × D)} {kvs : List (Key × V)} {is : List Int} (r : KR K mg ρ H es kvs) (e : intsOf (es.map fun kv => kv.1.toD) = some is) : kvs.map (·.1) = is.map Sum.inl := by
  have h := intsOf_eq e
  clear e
  induction r generalizing is with
  | nil => cases is with
    | nil => rfl
    | cons i is => simp at h
  | @cons k d v fs gs r t ih =>
    cases is with
    | nil => simp at h
    | cons i is =>
      rw [List.map_cons, List.map_cons] at h
      injection h with h1 h2
      rw [List.map_cons, List.map_cons, ih h2]
      cases k with
      | inl j => cases h1; rfl
      | inr x => cases h1
theorem toD_pairs {es : List (DK × D)} {kvs : List (List Key × V)} {ps : List (Int × Int)} (r : TR K mg ρ H es kvs) (e : pairsOf (es.map fun kv => kv.1.toD) = some ps) : kvs.map (·.1) = ps.map pK := by
  have h := pairsOf_eq e
  clear e
  induction r generalizing ps with
  | nil => cases ps with
    | nil => rfl
    | cons i is => simp at h
  | @cons k d v fs gs r t ih =>
    cases ps with
    | nil => simp at h
    | cons p ps =>
      rw [List.map_cons, List.map_cons] at h
      injection h with h1 h2
      rw [List.map_cons, List.map_cons, ih h2]
      have : k = pK p := by
        have h3 : k.map keyD = [D.int p.1, D.int p.2] := by injection h1
        match k, h3 with
        | [.inl i, .inl j], h3 =>
          injection h3 with a b
          injection b with b c
          cases a; cases b
          rfl
        | [.inl i, .inr j], h3 => injection h3 with a b; injection b with b c; cases b
        | [.inr i, _], h3 => injection h3 with a b; cases a
        | [], h3 => exact absurd (congrArg List.length h3) (by simp)
        | [_], h3 => exact absurd (congrArg List.length h3) (by simp)
        | _ :: _ :: _ :: _, h3 => exact absurd (congrArg List.length h3) (by simp)
      rw [this]
theorem bl_sorted : BL K mg bSorted (fun xs H Q => ((rSortedI K xs H Q ∨ rSortedPO K xs H Q) ∨ (∃ (a : Addr) (kvs : List (Key × V)) (ks : List Int), xs = [.ref a] ∧ Rd H a (.dK kvs) ∧ kvs.map (·.1) = ks.map Sum.inl ∧ ks.length ≤ 16777216 ∧
    ∀ (ys : List Int) (p : Addr), ys.Perm ks → ys.Pairwise (· ≤ ·) → H p = none → Q (.ref p) (upd H p (.lst (ys.map V.int))))) ∨ rSortedDP xs H Q) := by
  intro ρ S H ds vs Q E s r g
  unfold bSorted at g
  split at g
  · obtain ⟨v, rfl, r1⟩ := r.one; clear r; have r := r1; clear r1
    split at g
    · rename_i l hS
      split at g
      · obtain ⟨a, vs, rfl, ha, q, rl⟩ := s.lst r hS
        split at g
        · rename_i is hi
          rw [intsOf_eq hi] at rl
          rw [intsV rl] at q
          refine .inl (.inl (.inl ⟨a, is, rfl, SqL.of q, fun ys p h1 h2 np => ?_⟩))
          rw [sortI_of h1 h2]
          exact newlst s np VRs.ints g
        · rename_i ps hi hp
          rw [pairsOf_eq hp] at rl
          have pv := pairsV rl
          obtain ⟨h1, h2⟩ := pairedW pv
          refine .inl (.inl (.inr ⟨a, vs, pairW H, rfl, SqL.of q, h2, fun ys p h3 h4 np => ?_⟩))
          have hm : ∀ x ∈ ys, ∃ t, x = V.ref t ∧ H t = some (.tup [.int (pairW H x).1, .int (pairW H x).2]) := fun x m => h2 x (h4.perm.mem_iff.mp m)
          have e : ys.map (pairW H) = sortP ps := by
            refine sortP_of ?_ ?_
            · have := h4.perm.map (pairW H)
              rw [h1] at this
              exact this
            · refine List.pairwise_map.mpr ?_
              have h3' : List.Pairwise (fun v u => SrtO.lexB (pairW H u) (pairW H v) = false) ys := h3
              refine h3'.imp fun {v u} h => ?_
              rw [leP_iff]
              have := SrtO.lexB_no.mp h
              omega
          have rv := pairsVR s (wPaired hm)
          rw [e] at rv
          exact newlst s np rv g
        · exact g.elim
      · exact g.elim
    · rename_i kvs hS
      split at g
      · rename_i hz
        split at g
        · rename_i is hi
          obtain ⟨a, kvs', rfl, ha, q, rl⟩ := s.dicK r hS
          have e := toD_ints rl hi
          refine .inl (.inr ⟨a, kvs', is, rfl, .inl q, e, ?_, fun ys p h1 h2 np => ?_⟩)
          · have := congrArg List.length e
            simp at this
            rw [← this, ← rl.length]
            exact hz
          · rw [sortI_of h1 h2]
            exact newlst s np VRs.ints g
        · exact g.elim
      · exact g.elim
    · rename_i kvs hS
      split at g
      · rename_i hz
        split at g
        · rename_i ps hi
          obtain ⟨a, kvs', rfl, ha, q, rl⟩ := s.dicT r hS
          have e := toD_pairs rl hi
          refine .inr ⟨a, kvs', ps, rfl, .inl q, e, ?_, fun p zs h1 np => newlst s np (pairsVR s h1) g⟩
          have := congrArg List.length e
          simp at this
          rw [← this, ← rl.length]
          exact hz
        · exact g.elim
      · exact g.elim
    · exact g.elim
  · exact g.elim
end
end KF
set_option Elab.async false
set_option linter.all false
set_option maxRecDepth 100000
set_option maxHeartbeats 4000000
namespace KF
open PySem PySem.Spec PyProof.Rows L2 KQ
section
variable {P : Program} {w : World} {K : PySem.W.Frag} {mg : Str → Option Value} {base : Heap}
theorem hasF_no {x : Str} {st : Stmt} {N ps : List Str} {k : Nat} (F : FunAt K mg x st) (S : FnScope N ps (defScope st)) (hb : BindsTo? st x ps) : HasF P w K mg base k x ps (fun _ _ => .no) := by
  obtain ⟨f, fd, F, m⟩ := F
  exact ⟨f, fd, ⟨fun vs H Q E h => by
    obtain ⟨ρ, S, ds, _, _, g⟩ := h
    exact g.elim, fun A outer s H args us vs Q E hr he hb hv h => by
    obtain ⟨ρ, S, ds, _, _, g⟩ := h
    exact g.elim⟩, m, F.kp, F.binds hb⟩
end
section
variable {X : Cx} {W : WX} {a b c : Expr} {fa fb fc : FE} {pos : Pos}
theorem ft_chain {op op' : CmpOp} {r r' : R2} {f f' : D → D → Sto → R D} (ho : OpR X (compareOp op) r) (l : OpL X.K X.mg f r) (ho' : OpR X (compareOp op') r') (l' : OpL X.K X.mg f' r') (ha : PE X a (cE X.K X.mg W fa)) (hb : PE X b (cE X.K X.mg W fb)) (hc : PE X c (cE X.K X.mg W fc))
    (hm : lastMarks [op, op'] [b, c] = false := by with_unfolding_all rfl) : PT X (.Compare a [op, op'] [b, c] pos) (cT X.K X.mg W (tB (eChain f f' fa fb fc))) := by
  refine PT.of (pt_chain ho ho' ha hb hc hm) ?_
  rintro σ H Q ⟨ρ, S, δ, s, x, g⟩
  unfold tB eChain at g
  rw [bind_bind] at g
  refine ⟨ρ, S, δ, s, x, (G.bind g).imp ?_⟩
  rintro u H1 ⟨ρ1, S1, d1, L1, s1, r1, g1⟩
  rw [bind_bind] at g1
  refine ⟨ρ1, S1, δ, s1, x.le L1, (G.bind g1).imp ?_⟩
  rintro v H2 ⟨ρ2, S2, d2, L2, s2, r2, g2⟩
  rw [bind_bind] at g2
  refine l ρ2 S2 H2 d1 d2 u v _ (WE W σ) s2 (r1.le L2) r2 ((G.bind g2).imp ?_)
  rintro z H3 ⟨ρ3, S3, d3, L3, s3, r3, g3⟩
  rw [bind_bind] at g3
  unfold asB at g3
  split at g3
  · cases r3
    refine ⟨_, rfl, ?_⟩
    rw [bind_ok] at g3
    split at g3
    · rename_i hk
      rw [if_pos hk]
      rw [bind_bind] at g3
      refine ⟨ρ3, S3, δ, s3, ((x.le L1).le L2).le L3, (G.bind g3).imp ?_⟩
      rintro w H4 ⟨ρ4, S4, d4, L4, s4, r4, g4⟩
      refine l' ρ4 S4 H4 d2 d4 v w _ (WE W σ) s4 ((r2.le L3).le L4) r4 ((G.bind g4).imp ?_)
      rintro z2 H5 ⟨ρ5, S5, d5, L5, s5, r5, g5⟩
      split at g5
      · cases r5
        exact ⟨_, rfl, g5.ret Le.refl s5 rfl⟩
      · exact g5.elim
    · rename_i hk
      rw [if_neg hk]
      exact ⟨_, rfl, g3.ret Le.refl s3 rfl⟩
  · exact g3.elim
end
end KF
namespace KF
open PySem PySem.Spec PyProof.Rows L2 KQ
section
variable {P : Program} {w : World} {K : PySem.W.Frag} {mg : Str → Option Value} {base : Heap}
theorem mk_okF {x : Str} {st : Stmt} {f : Addr} {fd : FuncData} {N ps : List Str} {k : Nat} {b : FS} (F : Fun K x x st f fd) (S : FnScope N ps (defScope st))
    (body : ∀ (f : Addr) (cdv : Value) (A : Around) (outer : List PySem.Env) (s : Shared) (H : Hp) (E : XK), Room k (A.deeper (envOfC x (defScope st) s.heap.objs.size f cdv)) →
      PSs (cxOf (L2.CX P w) P w K mg base N x (defScope st) f cdv A outer s H E) (defBody st) (cS K mg (fun cls d _ H => E cls d H) b)) : FnOk P w K mg base (L2.CX P w) (k + 1) f fd ps (spF K mg (fnOf ps.length N.length b)) :=
  F.okX S (fun _ _ _ _ h => spF_len h) fun cdv A outer s H vs Q E hr h => body_ok rfl rfl (body f cdv A outer s H E hr) h
def spLaw (K : PySem.W.Frag) : Sp := fun vs H Q _ => ∃ (a : Addr) (ns : List Int), vs = [.ref a] ∧ Only H ∧ SqF K H a (ns.map V.int) ∧ ns.length ≤ 63 ∧ ∀ H', Q (.bl true) H'
theorem law_ok {k : Nat} {f : Addr} {fd : FuncData} {F : Fn} (G0 : FnOk P w K mg base (L2.CX P w) k f fd ["script"] (spF K mg F)) (h : ∀ ns : List Int, ns.length ≤ 63 → ∃ S, F [.scr (ns.map D.int)] [] = .ok (.bl true) S) : FnOk P w K mg base CX0 k f fd ["script"] (spLaw K) := by
  refine ⟨fun vs H Q E q => ?_, fun A outer s H args us vs Q E hr he hb hv q => ?_⟩
  · obtain ⟨a, ns, rfl, _⟩ := q
    rfl
  · obtain ⟨a, ns, rfl, ho, hs, hl, k⟩ := q
    refine codeAny_mono (G0.run A outer s H args us [.ref a] Q (fun _ _ _ => False) hr he hb hv ?_) fun r s' hr => ?_
    · obtain ⟨S, e⟩ := h ns hl
      refine ⟨[], [], [.scr (ns.map D.int)], ⟨rfl, List.nodup_nil, fun i o a e => by simp at e⟩, .cons (.scr hs (fun m => by simp at m) VRs.ints) .nil, ?_⟩
      rw [e]
      intro ρ' H' v L s' r
      cases r
      exact k H'
    · cases r with
      | ok fl => cases fl <;> exact hr
      | error e =>
        obtain ⟨a, B, H', cls, d, _, _, _, _, _, _, _, hE⟩ := hr
        exact hE.elim
end
theorem sqf_of {K : PySem.W.Frag} {H : Hp} {a : Addr} {xs : List V} (o : Only H) (h : SqL K H a xs) : SqF K H a xs := by
  rcases h with (h | h) | h
  · rcases o a with z | ⟨o, ys, z⟩
    · rw [h] at z; cases z
    · rw [h] at z; cases z
  · exact .inl h
  · exact .inr h
theorem walkF {l : PySem.W.OpenLaw} {k : Nat} {q : Program} {loose : List Str} {XP : (Str → Option Value) → Heap → Prop} {YP : World → Heap → Prop} {d : DefRec} {K : Params → PySem.W.Frag} (hn : l.most = some 63) (hdf : d.params.defaults = []) (hr : Room k callerA)
    (hY : ∀ (w : World) (h : Heap), YP w h → (K w.params).In h)
    (F : ∀ (w : World) (mg : Str → Option Value) (fa : Addr) (h : Heap), (K w.params).In h → h.Ns mainGlobals mg → XP mg h → mg d.name = some (.ref fa) →
      ∃ fd : FuncData, (∀ (s : Shared) (u : Value), BindsTo s fd ⟨[u], []⟩ [("script", u)]) ∧ ∀ base : Heap, FnOk l.prog w (K w.params) mg base CX0 k fa fd ["script"] (spLaw (K w.params))) :
    PySem.W.WalkO q loose XP YP l.row.toRowW d [] (fun f vs => PySem.call f vs) :=
  Att.attach_call hn hdf fun w _ s₁ mg _ fa _ _ _ _ a _ ns G Y _ _ _ hmg hobj hints hlen hg =>
    let ⟨_, hb, hF⟩ := F w mg fa _ (hY w _ Y) G.T.g G.X hmg
    law_call (CX := CX0) (hY w _ Y) G.T.g G.T.b G.T.builtins G.T.nolimit hg hobj hints (Nat.le_trans hlen (by decide)) hr (fun base _ _ => hF base) hb (fun _ ho hS => ⟨a, ns, rfl, ho, sqf_of ho hS, hlen, fun _ => rfl⟩) fun _ _ _ z => z
section
variable {K : PySem.W.Frag} {mg : Str → Option Value} {A B : Addr} {b : Bool}
/-- one class's part of a table of facts by names -/
theorem all_cons {p : Str → Prop} {x : Str} {l : List Str} (h : p x) (t : ∀ n ∈ l, p n) : ∀ n ∈ x :: l, p n := fun n hn => (List.mem_cons.mp hn).elim (fun e => e ▸ h) (t n)
theorem all_nil {p : Str → Prop} : ∀ n ∈ ([] : List Str), p n := fun _ h => by cases h
end
end KF
namespace KF
open PySem PySem.Spec PyProof.Rows L2 KQ
section
variable {K : PySem.W.Frag} {h : Heap} {mg : Str → Option Value} {x : Str} {a : Addr} {od : Option Addr} {n : Nat} {sl : Array (Option Value)}
theorem gi_of {i : Int} {t : Tok} (X : K.In h) (G : h.Ns mainGlobals mg) (l : PySem.W.nsIn K mainGlobals x = some (some (.int i t))) : GI mg x i := ⟨t, PySem.W.mg_of X G l⟩
end
end KF
set_option Elab.async false
set_option linter.all false
set_option maxRecDepth 100000
set_option maxHeartbeats 4000000
namespace KF
open PySem PySem.Spec PyProof.Rows L2 KQ
end KF
set_option Elab.async false
set_option linter.all false
set_option maxRecDepth 100000
set_option maxHeartbeats 4000000
namespace KF
open PySem PySem.Spec PyProof.Rows L2 KQ
end KF
set_option Elab.async false
set_option linter.all false
set_option maxRecDepth 100000
set_option maxHeartbeats 4000000
namespace KF
open PySem PySem.Spec PyProof.Rows L2 KQ
section
variable {X : Cx} {W : WX} {o : Expr} {fo : FE} {p apos cpos pos : Pos}
/-- list(d.keys()) of a dict with keys ints or texts -/
theorem pe_lkeys {td : TE} (calm : X.calm = true) (hg : Gl X "list") (hm : X.mg "list" = none) (he : PE X o td) (hb : attributeBase o "keys" X.env (eval o X.env) = eval o X.env := by rfl) (hl : (apos.endLine == cpos.line) = true := by rfl)
    (na : starEach [.Call (.Attribute o "keys" apos) [] [] cpos] X.env = (false, eval (.Call (.Attribute o "keys" apos) [] [] cpos) X.env) :: starEach [] X.env := by rfl) :
    PE X (.Call (.Name "list" p) [.Call (.Attribute o "keys" apos) [] [] cpos] [] pos) (fun σ H Q => td σ H fun x H1 => ∃ d kvs, x = .ref d ∧ H1 d = some (.dK kvs) ∧ ∀ q, H1 q = none → Q (.ref q) (upd H1 q (.lst (kvs.map fun kv => kV kv.1)))) := by
  refine ⟨fun pins s σ H Q I h => ?_⟩
  refine Call_ (ld_blt I hg hm boot_list (PyProof.Rows.callWith_type1 (args_cons (wpAny_Call_method (T := "dict") (id := "dict.keys") hb rfl hl F.plainAttrs_dict F.slot_dict_keys F.type_dict_keys
    (thn (he.run pins s σ H _ I h) fun u s1 ⟨x, H1, I1, rx, d, kvs, ex, hd, q⟩ => ?_)) na) na))
  subst ex
  obtain rfl : u = Value.ref d := rx
  obtain ⟨z, low, vs, rk, at_⟩ := (show ObjOk X.prog X.w H1 s1.heap d (.dK kvs) from I1.hok d _ hd)
  have hlen : kvs.length = vs.length := Paired.length rk
  obtain ⟨ep, dat⟩ := at_.dictAt
  refine ⟨at_.typeIs, at_.mapOf.noDict, ?_⟩
  show wpAny _ _ (callWith cpos (.builtin "dict.keys") [.ref d] [] []) _ X.xe s1
  refine method_meetsIn F.slot_dict_keys F.entry_dict_keys rfl (PySem.evalArgs_none ⟨rfl, at_.typeIs, F.args_dict_keys_1 _, _, PySem.W.kdl_meets_keys (mixKind X.prog X.w) d low, ⟨vs, at_⟩, ?_⟩)
  refine args_nil ?_
  have view : PySem.W.KdlKeysView (s1.heap.push { cls := .type "dict_keys", data := .fields #[.ref d] }) s1.heap.objs.size d := ⟨_, Heap.get?_push_size _ rfl, rfl, rfl⟩
  have I2 : Inv X pins σ H1 { s1 with heap := s1.heap.push { cls := .type "dict_keys", data := .fields #[.ref d] } } := I1.kept (t' := s1.toks) fun b ob e => Heap.get?_push_of_some _ e
  refine PySem.W.kdl_call (PySem.W.kdl_keys (knd := mixKind X.prog X.w) (kvs := vs) (ep := ep)) (I2.ok.hd calm) ⟨view, dat.push _⟩ (by rw [← hlen]; exact z) fun h' tk acc c stay here items => ?_
  have fresh : H1 (s1.heap.push { cls := .type "dict_keys", data := .fields #[.ref d] }).objs.size = none := I2.hok.fresh (Nat.le_refl _)
  refine ⟨.ref (s1.heap.push { cls := .type "dict_keys", data := .fields #[.ref d] }).objs.size, _, I2.laid stay (Nat.le_refl _) (show ObjOk X.prog X.w _ _ _ (.lst (kvs.map fun kv => kV kv.1)) from ⟨?_, acc.toList, c, ?_, ?_⟩), rfl, q _ fresh⟩
  · rw [List.length_map]; exact z
  · refine vals_of_at (by simp [items.1, hlen]) fun j x w h1 h2 => ?_
    obtain ⟨k, y, at1, is⟩ := items.2 j w (by rw [← Array.getElem?_toList]; exact h2)
    have at2 : (kvs.map (·.1))[j]? = some k := by
      have := KV.keys rk
      rw [this, List.getElem?_map, at1]; rfl
    rw [show (kvs.map fun kv => kV kv.1) = (kvs.map (·.1)).map kV from by rw [List.map_map]; rfl, List.getElem?_map, at2] at h1
    cases h1
    exact keyIs_rel is
  · rw [Array.toArray_toList]; exact here
/-- of one kind of keys -/
def eKeysK (o : FE) : FE := fun δ S => (o δ S).bind fun x S => match x with
  | .ref a => match S[a]? with
    | some (.dic false kvs) => alloc (.lst (kvs.map fun kv => kv.1.toD)) S
    | _ => .no
  | _ => .no
theorem fe_keys (calm : X.calm = true) (hg : Gl X "list") (hm : X.mg "list" = none) (he : PE X o (cE X.K X.mg W fo)) (hb : attributeBase o "keys" X.env (eval o X.env) = eval o X.env := by rfl) (hl : (apos.endLine == cpos.line) = true := by rfl)
    (na : starEach [.Call (.Attribute o "keys" apos) [] [] cpos] X.env = (false, eval (.Call (.Attribute o "keys" apos) [] [] cpos) X.env) :: starEach [] X.env := by rfl) :
    PE X (.Call (.Name "list" p) [.Call (.Attribute o "keys" apos) [] [] cpos] [] pos) (cE X.K X.mg W (eKeysK fo)) := by
  refine PE.of (pe_lkeys calm hg hm he hb hl na) ?_
  rintro σ H Q ⟨ρ, S, δ, s, x, g⟩
  refine ⟨ρ, S, δ, s, x, (G.bind g).imp ?_⟩
  rintro v H1 ⟨ρ1, S1, d, L1, s1, r1, g1⟩
  split at g1
  · split at g1
    · rename_i hS
      obtain ⟨a, kvs, rfl, _, q, r⟩ := s1.dicK r1 hS
      exact ⟨_, _, rfl, q, fun p np => newlst s1 np r.keys g1⟩
    · exact g1.elim
  · exact g1.elim
end
/-- {k: v, ..}: the dict is made first -/
def eDispA (f : FK) : FE := fun δ S => (f δ (S ++ [.dic false []])).bind fun ps S' => if ps.length ≤ 15 then match keysOf ps, S'[S.length]? with
    | some l, some (.dic false []) => .ok (.ref S.length) (S'.set S.length (.dic false (l.foldl (fun acc kv => dputD acc kv.1 kv.2) [])))
    | _, _ => .no
  else .no
inductive PRs (K : PySem.W.Frag) (mg : Str → Option Value) (ρ : List Addr) (H : Hp) : List (D × D) → List (V × V) → Prop
  | nil : PRs K mg ρ H [] []
  | cons {x y : D} {u v : V} {ps : List (D × D)} {qs : List (V × V)} : VR K mg ρ H x u → VR K mg ρ H y v → PRs K mg ρ H ps qs → PRs K mg ρ H ((x, y) :: ps) ((u, v) :: qs)
theorem PRs.length {K : PySem.W.Frag} {mg : Str → Option Value} {ρ : List Addr} {H : Hp} : ∀ {ps : List (D × D)} {qs : List (V × V)}, PRs K mg ρ H ps qs → ps.length = qs.length
  | _, _, .nil => rfl
  | _, _, .cons _ _ r => congrArg (· + 1) r.length
theorem PRs.keys {K : PySem.W.Frag} {mg : Str → Option Value} {ρ : List Addr} {H : Hp} : ∀ {ps : List (D × D)} {qs : List (V × V)} {l : List (DK × D)}, PRs K mg ρ H ps qs → keysOf ps = some l → ∃ kvs : List (Key × V), qs = kvs.map (fun kv => (kV kv.1, kv.2)) ∧ KR K mg ρ H l kvs
  | _, _, _, .nil, e => by cases e; exact ⟨[], rfl, .nil⟩
  | _, _, _, .cons (x := x) (ps := ps) r1 r2 r, e => by
    unfold keysOf at e
    split at e
    · rename_i k l0 hk hl
      obtain ⟨kvs, rfl, kr⟩ := r.keys hl
      obtain ⟨k', rfl, rfl⟩ := key_K r1 hk
      cases e
      exact ⟨(k', _) :: kvs, rfl, .cons r2 kr⟩
    · cases e
theorem KR.merge {K : PySem.W.Frag} {mg : Str → Option Value} {ρ : List Addr} {H : Hp} {l : List (DK × D)} {more : List (Key × V)} (r : KR K mg ρ H l more) : ∀ {es : List (DK × D)} {kvs : List (Key × V)}, KR K mg ρ H es kvs → KR K mg ρ H (l.foldl (fun acc kv => dputD acc kv.1 kv.2) es) (mergeK kvs more) := by
  induction r with
  | nil => intro es kvs q; exact q
  | cons r t ih => intro es kvs q; exact ih (KR.put r q)
/-- a display's pairs -/
structure FKs (X : Cx) (W : WX) (pos : Pos) (ks : List (Option Expr)) (vs : List Expr) (f : FK) : Prop where
  run : ∃ trs, PPs X pos ks vs trs ∧ ∀ σ H Q ρ S δ, Sim X.K X.mg ρ S H → ER X.K X.mg ρ H δ σ → G X.K X.mg (PRs X.K X.mg) (f δ S) ρ H Q (WE W σ) → tPairs trs σ H Q
section
variable {X : Cx} {W : WX} {pos : Pos}
theorem fk_nil : FKs X W pos [] [] kNil := ⟨[], pps_nil, fun σ H Q ρ S δ s x g => g ρ H [] Le.refl s .nil⟩
theorem fk_cons {k v : Expr} {ks : List (Option Expr)} {vs : List Expr} {fk fv : FE} {f : FK} (hk : PE X k (cE X.K X.mg W fk)) (hv : PE X v (cE X.K X.mg W fv)) (hr : FKs X W pos ks vs f) : FKs X W pos (some k :: ks) (v :: vs) (kCons fk fv f) := by
  obtain ⟨trs, h1, h2⟩ := hr.run
  refine ⟨_, pps_cons hk hv h1, fun σ H Q ρ S δ s x g => ?_⟩
  unfold kCons at g
  refine ⟨ρ, S, δ, s, x, (G.bind g).imp ?_⟩
  rintro u H1 ⟨ρ1, S1, d1, L1, s1, r1, g1⟩
  refine ⟨ρ1, S1, δ, s1, x.le L1, (G.bind g1).imp ?_⟩
  rintro v H2 ⟨ρ2, S2, d2, L2, s2, r2, g2⟩
  refine h2 σ H2 _ ρ2 S2 δ s2 ((x.le L1).le L2) ((G.bind g2).imp ?_)
  rintro qs H3 ⟨ρ3, S3, ps, L3, s3, r3, g3⟩
  exact g3 ρ3 H3 _ Le.refl s3 (.cons ((r1.le L2).le L3) (r2.le L3) r3)
theorem fe_disp {ks : List (Option Expr)} {vs : List Expr} {f : FK} (h : FKs X W pos ks vs f) (hall : ks.all (·.isSome) = true) (hl : ks.length = vs.length) (h0 : ks ≠ []) (h15 : ks.length ≤ 15) : PE X (.Dict ks vs pos) (cE X.K X.mg W (eDispA f)) := by
  obtain ⟨trs, h1, h2⟩ := h.run
  refine PE.of (pe_disp h1 hall hl h0 h15) ?_
  rintro σ H Q ⟨ρ, S, δ, s, x, g⟩ p np
  have s0 : Sim X.K X.mg (ρ ++ [p]) (S ++ [.dic false []]) (upd H p (.dK [])) := s.more np (.dK upd_same .nil)
  have L0 : Le ρ H (ρ ++ [p]) (upd H p (.dK [])) := Le.more np
  have e0 : (ρ ++ [p])[S.length]? = some p := by rw [← s.len, List.getElem?_append_right (Nat.le_refl _), Nat.sub_self]; rfl
  refine h2 σ _ _ (ρ ++ [p]) _ δ s0 (x.le L0) ((G.bind2 g L0).imp ?_)
  rintro qs H2 ⟨ρ2, S2, ps, L2, s2, r2, g2⟩
  have e2 := L2.get e0
  split at g2
  · rename_i h15'
    split at g2
    · rename_i l hk hS
      obtain ⟨kvs, rfl, kr⟩ := r2.keys hk
      obtain ⟨a, gs, ea, _, hp, k0⟩ := s2.dicK (.ref e2) hS
      cases ea
      cases k0
      refine ⟨hp, kvs, rfl, ?_, ?_⟩
      · have := r2.length; rw [List.length_map] at this; omega
      · have Lp : Le ρ2 H2 ρ2 (upd H2 p (.dK (mergeK [] kvs))) := Le.put (List.mem_of_getElem? e2)
        exact g2 ρ2 _ (.ref p) ((L0.trans L2).trans Lp) (s2.put e2 (.dK upd_same ((KR.merge kr .nil).le Lp))) (.ref e2)
    · exact g2.elim
  · exact g2.elim
end
end KF
set_option Elab.async false
set_option linter.all false
set_option maxRecDepth 100000
set_option maxHeartbeats 4000000
namespace KF
open PySem PySem.Spec PyProof.Rows L2 KQ
end KF
set_option Elab.async false
set_option linter.all false
set_option maxRecDepth 100000
set_option maxHeartbeats 4000000
namespace KF
open PySem PySem.Spec PyProof.Rows L2 KQ
end KF
set_option Elab.async false
set_option linter.all false
set_option maxRecDepth 100000
set_option maxHeartbeats 4000000
namespace KF
open PySem PySem.Spec PyProof.Rows L2 KQ
section
variable {K : PySem.W.Frag} {mg : Str → Option Value}
theorem opl_lt : OpL K mg opLt (fun x y H Q => rI0 (fun i j => .bl (decide (i < j))) x y H Q ∨ rLtT K x y H Q) := by
  intro ρ S H x y u v Q E s rx ry g
  unfold opLt at g
  split at g
  · cases rx; cases ry
    exact .inl ⟨_, _, rfl, rfl, g.val s (.bl _)⟩
  · split at g
    · rename_i a b _ _ ns ms h1 h2
      cases rx with
      | tup p1 n1 k1 r1 =>
      cases ry with
      | tup p2 n2 k2 r2 =>
      rw [intsOf_eq h1] at r1
      rw [intsOf_eq h2] at r2
      have e1 := intsV r1
      have e2 := intsV r2
      subst e1 e2
      exact .inr ⟨_, _, _, _, rfl, rfl, p1, p2, g.val s (.bl _)⟩
    · exact g.elim
  · exact g.elim
theorem opl_le : OpL K mg opLe (fun x y H Q => rI0 (fun i j => .bl (decide (i ≤ j))) x y H Q ∨ rLeT K x y H Q) := by
  intro ρ S H x y u v Q E s rx ry g
  unfold opLe at g
  split at g
  · cases rx; cases ry
    exact .inl ⟨_, _, rfl, rfl, g.val s (.bl _)⟩
  · split at g
    · rename_i a b _ _ ns ms h1 h2
      cases rx with
      | tup p1 n1 k1 r1 =>
      cases ry with
      | tup p2 n2 k2 r2 =>
      rw [intsOf_eq h1] at r1
      rw [intsOf_eq h2] at r2
      have e1 := intsV r1
      have e2 := intsV r2
      subst e1 e2
      exact .inr ⟨_, _, _, _, rfl, rfl, p1, p2, g.val s (.bl _)⟩
    · exact g.elim
  · exact g.elim
end
end KF
set_option Elab.async false
set_option linter.all false
set_option maxRecDepth 100000
set_option maxHeartbeats 4000000
namespace KF
open PySem PySem.Spec PyProof.Rows L2 KQ PySem.W
end KF
set_option Elab.async false
set_option linter.all false
set_option maxRecDepth 100000
set_option maxHeartbeats 4000000
namespace KQ
open PySem PySem.Spec PyProof.Rows L2
abbrev EnHeld (h : Heap) (e it : Addr) (c : Int) (x : Value) (a : Addr) (f : Bool) : Prop :=
  h.get? e = some { cls := .type "enumerate", dict := none, data := .fields #[rawInt a, .bool f, .ref it, rawInt c, .none, x], slots := #[] }
section
variable {prog : Program} {w : World} {A : Around} {E : Value → Shared → Prop} {s : Shared}
/-- the next pair while the last one is held -/
theorem en_next {e it a : Addr} {f : Bool} {oa : Obj} {fp : List Addr} {n i : Nat} {c : Int} {P : Nat → Value → Prop} {St : Nat → Heap → Prop} {old : Value} {Q : Option Value → Shared → Prop}
    (D : Draws prog w A.in1 it fp n P St) (he : EnHeld s.heap e it c old a f) (ha : s.heap.get? a = some oa) (hae : a ≠ e) (hai : a ≠ it) (hst : St i s.heap) (hlt : i < n) (hne : e ≠ it) (hef : e ∉ fp)
    (hQ : ∀ x h' tk, P i x → EnHeld h' e it (c + 1) old a true → St (i + 1) h' →
      h'.get? s.heap.objs.size = some { cls := .type "tuple", data := .seq #[.int c tk, x] } → h'.objs.size = s.heap.objs.size + 1 →
      (∀ b o, b ≠ e → b ≠ it → s.heap.get? b = some o → h'.get? b = some o) → Q (some (.ref s.heap.objs.size)) { s with heap := h', toks := tk + 1 }) :
    wpAny (model prog w) A (pyNext (.ref e)) Q E s := by
  have hT : s.TypeIs (.ref e) "enumerate" := ⟨_, he, rfl⟩
  unfold pyNext
  refine wpAny_bind (wpAny_attempt (wpAny_callSpecial?_slot (name := Str.ofString "__next__") hT F.slot_enumerate_next
    (wpAny_call_entry F.slot_enumerate_next hT F.entry_enumerate_next ?_ (F.args_enumerate_next_1 _))))
  obtain ⟨hp, g, d, tk₀, os⟩ := s
  show wpAny _ _ (field (.ref e) 2 >>= _) _ _ _
  refine wpAny_bind (wpAny_field he rfl (x := .ref it) rfl ?_)
  refine wpAny_bind (D.item i _ _ _ hlt hst fun x h₁ tk hPx hit₁ hs₁ => ?_)
  replace hs₁ : Heap.SameBut it hp h₁ := hs₁
  have he₁ : EnHeld h₁ e it c old a f := (hs₁.2 e hne).trans he
  show wpAny _ _ (field (.ref e) 3 >>= _) _ _ ⟨h₁, g, d, tk, os⟩
  refine wpAny_bind (wpAny_field he₁ rfl (x := rawInt c) rfl ?_)
  show wpAny _ _ (field (.ref e) 4 >>= _) _ _ ⟨h₁, g, d, tk, os⟩
  refine wpAny_bind (wpAny_field he₁ rfl (x := .none) rfl ?_)
  show wpAny _ _ (mkInt c >>= _) _ _ ⟨h₁, g, d, tk, os⟩
  refine wpAny_bind (wpAny_mkInt ?_)
  show wpAny _ _ (setField (.ref e) 3 (rawInt (c + 1)) >>= _) _ _ ⟨h₁, g, d, tk + 1, os⟩
  refine wpAny_bind (wpAny_setField_rec he₁ (by simp) fun h₂ he₂ hs₂ => ?_)
  replace hs₂ : Heap.SameBut e h₁ h₂ := hs₂
  replace he₂ : EnHeld h₂ e it (c + 1) old a f := he₂
  show wpAny _ _ (setField (.ref e) 4 .none >>= _) _ _ ⟨h₂, g, d, tk + 1, os⟩
  refine wpAny_bind (wpAny_setField_rec he₂ (by simp) fun h₃ he₃ hs₃ => ?_)
  replace hs₃ : Heap.SameBut e h₂ h₃ := hs₃
  replace he₃ : EnHeld h₃ e it (c + 1) old a f := he₃
  show wpAny _ _ (newTuple [.int c tk, x] >>= _) _ _ ⟨h₃, g, d, tk + 1, os⟩
  refine wpAny_bind (wpAny_newTuple ?_)
  have he₄ : EnHeld (h₃.push { cls := .type "tuple", data := .seq #[.int c tk, x] }) e it (c + 1) old a f := Heap.get?_push_of_some _ he₃
  generalize hh₄ : h₃.push { cls := .type "tuple", data := .seq #[.int c tk, x] } = h₄ at he₄
  have hsz : h₃.objs.size = hp.objs.size := by rw [hs₃.1, hs₂.1, hs₁.1]
  have hel : e < hp.objs.size := Heap.lt_size he
  have ht₄ : h₄.get? hp.objs.size = some { cls := .type "tuple", data := .seq #[.int c tk, x] } := by rw [← hh₄, ← hsz]; exact Heap.get?_push_size _ rfl
  have hz₄ : h₄.objs.size = hp.objs.size + 1 := by rw [← hh₄, Heap.size_push, hsz]
  have hk₄ : ∀ b o, b ≠ e → b ≠ it → hp.get? b = some o → h₄.get? b = some o := fun b o hbe hbi hb => by
    rw [← hh₄]; exact Heap.get?_push_of_some _ (hs₃.extBut b o hbe (hs₂.extBut b o hbe (hs₁.extBut b o hbi hb)))
  have hit₄ : St (i + 1) h₄ := D.frame _ _ _ hit₁ fun b hb o y => by
    have hbe : b ≠ e := fun q => hef (q ▸ hb)
    rw [← hh₄]; exact Heap.get?_push_of_some _ (hs₃.extBut b o hbe (hs₂.extBut b o hbe y))
  show wpAny _ _ (Builtin.SmallTypes.ownedTupleIsFree (.ref e) >>= _) _ _ ⟨h₄, g, d, tk + 1, os⟩
  rw [hsz]
  clear hh₄ he₃ hs₃ he₂ hs₂ he₁ hs₁ hit₁ hsz h₃ h₂ h₁
  have ha₄ : h₄.get? a = some oa := hk₄ a oa hae hai ha
  refine wpAny_bind ?_
  unfold Builtin.SmallTypes.ownedTupleIsFree
  refine wpAny_bind (wpAny_field he₄ rfl (x := rawInt a) rfl ?_)
  show wpAny _ _ (loadIfAlive ((a : Int).toNat) >>= _) _ _ _
  rw [Int.toNat_natCast]
  refine wpAny_bind (PySem.W.kdx_alive ha₄ ?_)
  simp only [Option.isNone_some, Bool.false_eq_true, if_false]
  refine wpAny_bind (wpAny_field he₄ rfl (x := .bool f) rfl ?_)
  have fin : ∀ h₅ : Heap, EnHeld h₅ e it (c + 1) old a true → Heap.SameBut e h₄ h₅ → Q (some (.ref hp.objs.size)) ⟨h₅, g, d, tk + 1, os⟩ := fun h₅ he₅ hs₅ =>
    hQ x h₅ tk hPx he₅ (D.frame _ _ _ hit₄ fun b hb o y => hs₅.extBut b o (fun q => hef (q ▸ hb)) y) (hs₅.extBut _ _ (Nat.ne_of_gt hel) ht₄) (by show h₅.objs.size = hp.objs.size + 1; rw [hs₅.1, hz₄]) fun b o hbe hbi hb => hs₅.extBut b o hbe (hk₄ b o hbe hbi hb)
  cases f with
  | true =>
    rw [if_neg (show ¬ ((Value.bool true != Value.bool true) = true) from Bool.false_ne_true)]
    refine wpAny_pure ?_
    simp only [Bool.false_eq_true, if_false]
    exact wpAny_pure ⟨_, rfl, wpAny_pure (fin h₄ he₄ (Heap.SameBut.refl _ _))⟩
  | false =>
    rw [if_pos (show (Value.bool false != Value.bool true) = true from rfl)]
    refine wpAny_bind (wpAny_setField_rec he₄ (by simp) fun h₅ he₅ hs₅ => ?_)
    replace hs₅ : Heap.SameBut e h₄ h₅ := hs₅
    replace he₅ : EnHeld h₅ e it (c + 1) old a true := he₅
    refine wpAny_pure ?_
    simp only [Bool.false_eq_true, if_false]
    exact wpAny_pure ⟨_, rfl, wpAny_pure (fin h₅ he₅ hs₅)⟩
theorem en_end {e it a : Addr} {f : Bool} {fp : List Addr} {n : Nat} {P : Nat → Value → Prop} {St : Nat → Heap → Prop} {c : Int} {old : Value} {Q : Option Value → Shared → Prop}
    (D : Draws prog w A.in1 it fp n P St) (he : EnHeld s.heap e it c old a f) (hst : St n s.heap)
    (hQ : ∀ h', Heap.ExtBut it s.heap h' → Q none { s with heap := h' }) : wpAny (model prog w) A (pyNext (.ref e)) Q E s := by
  have hT : s.TypeIs (.ref e) "enumerate" := ⟨_, he, rfl⟩
  unfold pyNext
  refine wpAny_bind (wpAny_attempt (wpAny_callSpecial?_slot (name := Str.ofString "__next__") hT F.slot_enumerate_next
    (wpAny_call_entry F.slot_enumerate_next hT F.entry_enumerate_next ?_ (F.args_enumerate_next_1 _))))
  show wpAny _ _ (field (.ref e) 2 >>= _) _ _ _
  refine wpAny_bind (wpAny_field he rfl (x := .ref it) rfl ?_)
  refine wpAny_bind (D.done _ _ _ hst fun h' x he' hx' => ?_)
  obtain ⟨o, ho, hc⟩ := hx'
  refine wpAny_bind (wpAny_isInstance (T := "StopIteration") (b := true) ⟨o, ho, hc⟩ isSubtype_stop ?_)
  exact wpAny_pure (hQ _ he')
def EnSt (h : Heap) (e it S : Addr) (c : Int) : Prop :=
  (∃ old, IsEnum h e it c old) ∨ ∃ x a f oa, EnHeld h e it c x a f ∧ h.get? a = some oa ∧ a ≠ e ∧ a ≠ it ∧ a ≠ S
theorem EnSt.keep {h h' : Heap} {e it S : Addr} {c : Int} (x : EnSt h e it S c) (hk : ∀ b o, b ≠ S → h.get? b = some o → h'.get? b = some o) (he : e ≠ S) : EnSt h' e it S c := by
  rcases x with ⟨old, z⟩ | ⟨x, a, f, oa, z, ha, h1, h2, h3⟩
  · exact .inl ⟨old, hk _ _ he z⟩
  · exact .inr ⟨x, a, f, oa, hk _ _ he z, hk _ _ h3 ha, h1, h2, h3⟩
theorem en_item {e it S : Addr} {fp : List Addr} {n i : Nat} {c : Int} {P : Nat → Value → Prop} {St : Nat → Heap → Prop} {Q : Option Value → Shared → Prop}
    (D : Draws prog w A.in1 it fp n P St) (hz : EnSt s.heap e it S c) (hS : S < s.heap.objs.size) (hst : St i s.heap) (hlt : i < n) (hne : e ≠ it) (hef : e ∉ fp)
    (hQ : ∀ x h' tk, P i x → EnSt h' e it S (c + 1) → St (i + 1) h' →
      h'.get? s.heap.objs.size = some { cls := .type "tuple", data := .seq #[.int c tk, x] } → h'.objs.size = s.heap.objs.size + 1 →
      (∀ b o, b ≠ e → b ≠ it → s.heap.get? b = some o → h'.get? b = some o) → Q (some (.ref s.heap.objs.size)) { s with heap := h', toks := tk + 1 }) :
    wpAny (model prog w) A (pyNext (.ref e)) Q E s := by
  rcases hz with ⟨old, he⟩ | ⟨x, a, f, oa, he, ha, h1, h2, h3⟩
  · refine wpAny_pyNext_enum_itemC D he hst hlt hne hef fun y h' tk hP ho hs hT hz hk => hQ y h' tk hP (.inr ⟨y, s.heap.objs.size, false, _, ho, hT, Nat.ne_of_gt (Heap.lt_size he), ?_, Nat.ne_of_gt hS⟩) hs hT hz hk
    obtain ⟨_, q⟩ := D.live _ _ hst
    exact Nat.ne_of_gt (Heap.lt_size q)
  · exact en_next D he ha h1 h2 hst hlt hne hef fun y h' tk hP ho hs hT hz hk => hQ y h' tk hP (.inr ⟨x, a, true, oa, ho, hk a oa h1 h2 ha, h1, h2, h3⟩) hs hT hz hk
theorem en_done {e it S : Addr} {fp : List Addr} {n : Nat} {P : Nat → Value → Prop} {St : Nat → Heap → Prop} {c : Int} {Q : Option Value → Shared → Prop}
    (D : Draws prog w A.in1 it fp n P St) (hz : EnSt s.heap e it S c) (hst : St n s.heap)
    (hQ : ∀ h', Heap.ExtBut it s.heap h' → Q none { s with heap := h' }) : wpAny (model prog w) A (pyNext (.ref e)) Q E s := by
  rcases hz with ⟨old, he⟩ | ⟨x, a, f, oa, he, _, _, _, _⟩
  · exact wpAny_pyNext_enum_endD D he hst hQ
  · exact en_end D he hst hQ
structure EnG (k0 : Int) (P : Nat → Value → Prop) (lo : Addr) (h : Heap) (as : List Addr) : Prop where
  rise : as.Pairwise (· < ·)
  above : ∀ a ∈ as, lo < a
  pairs : ∀ (j : Nat) (a : Addr), as[j]? = some a → ∃ t x, P j x ∧ h.get? a = some { cls := .type "tuple", data := .seq #[.int (k0 + (j : Int)) t, x] }
theorem EnG.there {k0 : Int} {P : Nat → Value → Prop} {lo : Addr} {h : Heap} {as : List Addr} (g : EnG k0 P lo h as) {a : Addr} (ha : a ∈ as) : a < h.objs.size := by
  obtain ⟨j, hj⟩ := List.mem_iff_getElem?.mp ha
  obtain ⟨_, _, _, q⟩ := g.pairs j a hj
  exact Heap.lt_size q
end
section
variable {prog : Program} {w : World} {A : Around} {s : Shared} {R : Result → Shared → Prop} {fp : List Addr} {n : Nat} {P : Nat → Value → Prop} {St : Nat → Heap → Prop}
theorem en_loop {S e it : Addr} (k0 : Int) (D : Draws prog w A.in1.in1 it fp n P St) (hie : it ≠ e) (heS : e < S) (hiS : it < S) (hef : e ∉ fp) (hSf : S ∉ fp) (hn : n ≤ sizeLine) (res : Value) {h₁ : Heap}
    (hR : ∀ h' tk acc c as, (∀ b o, b ≠ S → b ≠ e → b ≠ it → h₁.get? b = some o → h'.get? b = some o) → h'.get? S = some { cls := .type "list", dict := none, data := .seq acc c, slots := #[] } → as.length = n → EnG k0 P S h' as →
      acc.toList = as.map Value.ref → R (.ok (.ret res)) { s with heap := h', toks := tk }) :
    ∀ (k i : Nat) (h : Heap) (tk c : Nat) (acc : Array Value) (as : List Addr), n - i = k → i ≤ n → EnSt h e it S (k0 + (i : Int)) → St i h → (∀ b o, b ≠ S → b ≠ e → b ≠ it → h₁.get? b = some o → h.get? b = some o) →
      h.get? S = some { cls := .type "list", dict := none, data := .seq acc c, slots := #[] } → acc.toList = as.map Value.ref → as.length = i → EnG k0 P S h as →
      codeAny (model prog w) A (.builtin "list.extend.loop" ⟨[.ref S, .ref e, res], []⟩) R { s with heap := h, toks := tk } := by
  have hSe : S ≠ e := Nat.ne_of_gt heS
  have hSi : S ≠ it := Nat.ne_of_gt hiS
  intro k
  induction k with
  | zero =>
    intro i h tk c acc as hk hi hst hD hkeep hS hacc hal hG
    have hin : i = n := by omega
    subst hin
    refine codeAny_builtin PySem.F.entry_extend_loop ?_
    rw [Around.under_plainId PySem.F.plain_extend_loop _]
    show wpAny _ A.in1 (pyNext (.ref e) >>= _) _ _ _
    refine wpAny_bind (en_done (s := { s with heap := h, toks := tk }) (A := A.in1) D hst hD fun h' he => ?_)
    refine wpAny_pure (hR h' tk acc c as (fun b o h1 h2 h3 q => he b o h3 (hkeep b o h1 h2 h3 q)) (he S _ hSi hS) hal ⟨hG.rise, hG.above, fun j a hj => ?_⟩ hacc)
    obtain ⟨t, x, e1, e2⟩ := hG.pairs j a hj
    exact ⟨t, x, e1, he a _ (Nat.ne_of_gt (Nat.lt_trans hiS (hG.above a (List.mem_of_getElem? hj)))) e2⟩
  | succ k ih =>
    intro i h tk c acc as hk hi hst hD hkeep hS hacc hal hG
    have hlt : i < n := by omega
    have hsz : acc.size = i := by rw [← Array.length_toList, hacc, List.length_map, hal]
    refine codeAny_builtin PySem.F.entry_extend_loop ?_
    rw [Around.under_plainId PySem.F.plain_extend_loop _]
    show wpAny _ A.in1 (pyNext (.ref e) >>= _) _ _ _
    have hSl : S < h.objs.size := Heap.lt_size hS
    refine wpAny_bind (en_item (s := { s with heap := h, toks := tk }) (A := A.in1) (S := S) D hst hSl hD hlt (Ne.symm hie) hef fun x h' tk' hP hst' hD' ht hz hkp => ?_)
    dsimp only at ht hz hkp ⊢
    have hS' := hkp S _ hSe hSi hS
    have up : ∀ b o, b ≠ S → h'.get? b = some o → (h'.update S (Obj.mapSeq (·.push (Value.ref h.objs.size)))).get? b = some o := fun b o hb q => (Heap.get?_update_other _ _ (Ne.symm hb)).trans q
    show wpAny _ A.in1 (updateSeq S (·.push (Value.ref h.objs.size)) >>= _) _ _ _
    refine wpAny_bind ?_
    refine wpAny_updateSeq hS' rfl (wpAny_pure ⟨plainId_quiet PySem.F.plain_extend_loop _, ih (i + 1) _ (tk' + 1) _ (acc.push (Value.ref h.objs.size)) (as ++ [h.objs.size]) (by omega) hlt ?_ (D.frame _ _ _ hD' fun b hb o q => up b o (fun z => hSf (z ▸ hb)) q)
      (fun b o h1 h2 h3 q => up b o h1 (hkp b o h2 h3 (hkeep b o h1 h2 h3 q))) (Heap.get?_update_self _ hS' rfl) (by rw [Array.toList_push, hacc, List.map_append]; rfl) (by rw [List.length_append, hal]; rfl) ⟨?_, ?_, ?_⟩⟩) (by rw [hsz]; omega) (by show (acc.push (Value.ref h.objs.size)).size ≤ sizeLine + 1; rw [Array.size_push, hsz]; omega)
    · have e1 : k0 + ((i + 1 : Nat) : Int) = k0 + (i : Int) + 1 := by omega
      rw [e1]
      exact hst'.keep up (Ne.symm hSe)
    · refine List.pairwise_append.mpr ⟨hG.rise, List.pairwise_singleton _ _, fun a ha b hb => ?_⟩
      rw [List.mem_singleton.mp hb]
      exact hG.there ha
    · intro a ha
      rcases List.mem_append.mp ha with ha | ha
      · exact hG.above a ha
      · rw [List.mem_singleton.mp ha]; exact hSl
    · intro j b hj
      rcases Nat.lt_trichotomy j as.length with h1 | h1 | h1
      · rw [List.getElem?_append_left h1] at hj
        obtain ⟨t, x', e1, e3⟩ := hG.pairs j b hj
        have hb := hG.above b (List.mem_of_getElem? hj)
        exact ⟨t, x', e1, up b _ (Nat.ne_of_gt hb) (hkp b _ (Nat.ne_of_gt (Nat.lt_trans heS hb)) (Nat.ne_of_gt (Nat.lt_trans hiS hb)) e3)⟩
      · subst h1
        have hb : h.objs.size = b := by simpa using hj
        subst hb
        rw [hal]
        exact ⟨tk', x, hP, up _ _ (Nat.ne_of_gt hSl) ht⟩
      · have hnone : (as ++ [h.objs.size])[j]? = none := List.getElem?_eq_none (by rw [List.length_append, List.length_singleton]; omega)
        rw [hnone] at hj; cases hj
end
theorem enum_no_len : typeLookup (.type "enumerate") "__len__" = pure none := by rw [typeLookup_type, builtinLookup_eq_fast]; kernel_rfl
theorem enum_no_hint : typeLookup (.type "enumerate") "__length_hint__" = pure none := by rw [typeLookup_type, builtinLookup_eq_fast]; kernel_rfl
section
variable {prog : Program} {w : World} {A : Around} {E : Value → Shared → Prop} {s : Shared} {fp : List Addr} {n : Nat} {P : Nat → Value → Prop} {St : Nat → Heap → Prop} {e it : Addr} {k0 : Int} {old : Value}
theorem en_extend {R : Result → Shared → Prop} (D : Draws prog w A.in1.in1 it fp n P St) (he : IsEnum s.heap e it k0 old) (hst : St 0 s.heap) (S : Addr) (hie : it ≠ e) (heS : e < S) (hiS : it < S) (hef : e ∉ fp) (hSf : S ∉ fp) (res : Value) (c₀ : Nat) (hS : s.heap.get? S = some { cls := .type "list", data := .seq #[] c₀ })
    (hR : ∀ h' tk acc c as, (∀ b o, b ≠ S → b ≠ e → b ≠ it → s.heap.get? b = some o → h'.get? b = some o) → h'.get? S = some { cls := .type "list", dict := none, data := .seq acc c, slots := #[] } → as.length = n → EnG k0 P S h' as →
      acc.toList = as.map Value.ref → R (.ok (.ret res)) { s with heap := h', toks := tk }) (hn : n ≤ sizeLine) :
    wpAny (model prog w) A.in1 (Builtin.List.listExtendWith (.ref S) (.ref e) res)
      (fun fin s' => match fin with | .done f => R (.ok f) s' | .again c' => c'.quiet = true ∧ codeAny (model prog w) A c' R s') (fun e s' => R (.error e) s') s := by
  have hT : s.TypeIs (.ref e) "enumerate" := ⟨_, he, rfl⟩
  unfold Builtin.List.listExtendWith
  refine wpAny_bind (wpAny_typeOf (T := "enumerate") hT ?_)
  have h1 : Builtin.List.listSameRef (.ref S) (.ref e) = false := by simp [Builtin.List.listSameRef, Nat.ne_of_gt heS]
  have h2 : (Value.type "enumerate" == Value.type "list") = false := by decide
  have h3 : (Value.type "enumerate" == Value.type "tuple") = false := by decide
  simp only [h1, h2, h3, Bool.or_false, Bool.false_eq_true, if_false]
  refine wpAny_bind (wpAny_pyIter_enum he ?_)
  refine wpAny_bind (wpAny_holding ?_)
  unfold Builtin.List.listLengthHint
  refine wpAny_bind (wpAny_specialOf hT enum_no_len ?_)
  show wpAny _ A.in1 (specialOf (Value.ref e) (Str.ofString "__length_hint__") >>= _) _ _ _
  refine wpAny_bind (wpAny_specialOf hT enum_no_hint ?_)
  refine wpAny_pure ?_
  show wpAny _ A.in1 (rule "list.extend.makes-room" >>= fun _ => Builtin.List.listTouch (.ref S) >>= fun _ => again (.builtin "list.extend.loop" ⟨[.ref S, .ref e, res], []⟩)) _ _ _
  refine wpAny_bind (wpAny_rule ?_)
  refine wpAny_bind ?_
  show wpAny _ _ (updateSeq S (·.push .none) >>= fun _ => updateSeq S (·.pop)) _ _ _
  refine wpAny_bind (wpAny_updateSeq hS rfl ?_)
  have hS₂ := Heap.get?_update_self (Obj.mapSeq (·.push Value.none)) hS rfl
  refine wpAny_updateSeq (hz := by seq_fits) hS₂ rfl ?_
  have hS₃ := Heap.get?_update_self (Obj.mapSeq (·.pop)) hS₂ rfl
  have oth : ∀ b o, b ≠ S → s.heap.get? b = some o → ((s.heap.update S (Obj.mapSeq (·.push Value.none))).update S (Obj.mapSeq (·.pop))).get? b = some o := fun b o hb q => (Heap.get?_update_other _ _ (Ne.symm hb)).trans ((Heap.get?_update_other _ _ (Ne.symm hb)).trans q)
  refine wpAny_pure ⟨plainId_quiet PySem.F.plain_extend_loop _, ?_⟩
  refine en_loop (s := s) (h₁ := s.heap) k0 D hie heS hiS hef hSf hn res hR n 0 _ s.toks _ _ [] (Nat.sub_zero _) (Nat.zero_le _) (.inl ⟨old, ?_⟩) (D.frame _ _ _ hst fun b hb o q => oth b o (fun z => hSf (z ▸ hb)) q) (fun b o hb _ _ q => oth b o hb q) hS₃ rfl rfl
    ⟨List.Pairwise.nil, (fun _ ha => nomatch ha), (fun j a hj => by simp at hj)⟩
  rw [show k0 + ((0 : Nat) : Int) = k0 by omega]
  exact oth e _ (Nat.ne_of_lt heS) he
theorem en_call {Q : Value → Shared → Prop} (D : Draws prog w A.in1.in1.in1 it fp n P St) (he : IsEnum s.heap e it k0 old) (hst : St 0 s.heap) (hie : it ≠ e) (hef : e ∉ fp) (hfp : ∀ b ∈ fp, b < s.heap.objs.size) (hn : n ≤ sizeLine)
    (hQ : ∀ h' tk acc c as, (∀ b o, b ≠ e → b ≠ it → s.heap.get? b = some o → h'.get? b = some o) → h'.get? s.heap.objs.size = some { cls := .type "list", dict := none, data := .seq acc c, slots := #[] } → as.length = n → EnG k0 P s.heap.objs.size h' as →
      acc.toList = as.map Value.ref → Q (.ref s.heap.objs.size) { s with heap := h', toks := tk }) :
    wpAny (model prog w) A (call (.type "list") [.ref e]) Q E s := by
  refine callType_codes (Q₁ := fun obj s₁ => obj = .ref s.heap.objs.size ∧ s₁ = { s with heap := s.heap.push { cls := .type "list", data := .seq #[] } }) PySem.F.called_list (PySem.F.typeCall_list_1 _) PySem.F.entry_list_init
    (code_list_new _ ⟨rfl, rfl⟩) fun obj s₁ h₁ => ?_
  obtain ⟨rfl, rfl⟩ := h₁
  have hS : (s.heap.push { cls := .type "list", data := .seq #[] }).get? s.heap.objs.size = some { cls := .type "list", data := .seq #[] } := Heap.get?_push_size _ rfl
  have hel : e < s.heap.objs.size := Heap.lt_size he
  have hil : it < s.heap.objs.size := by obtain ⟨_, q⟩ := D.live _ _ hst; exact Heap.lt_size q
  have hSf : s.heap.objs.size ∉ fp := fun z => Nat.lt_irrefl _ (hfp _ z)
  refine ⟨⟨_, hS, rfl⟩, PySem.F.args_list_init_2 _ _, ?_⟩
  show wpAny _ _ (do let old ← Builtin.List.listItems (.ref s.heap.objs.size); Builtin.List.listUpdate (.ref s.heap.objs.size) (fun _ => #[]); letGo old.toList.reverse; Builtin.List.listExtendWith (.ref s.heap.objs.size) (.ref e) .none) _ _ _
  refine wpAny_bind ?_
  unfold Builtin.List.listItems
  refine wpAny_bind (wpAny_seqItems hS rfl (wpAny_pure ?_))
  show wpAny _ _ (updateSeq s.heap.objs.size (fun _ => #[]) >>= fun _ => letGo (#[] : Array Value).toList.reverse >>= fun _ => Builtin.List.listExtendWith (.ref s.heap.objs.size) (.ref e) .none) _ _ _
  refine wpAny_bind (wpAny_updateSeq hS rfl ?_)
  have hS₂ := Heap.get?_update_self (Obj.mapSeq (fun _ => (#[] : Array Value))) hS rfl
  have oth : ∀ b o, b ≠ s.heap.objs.size → s.heap.get? b = some o → ((s.heap.push { cls := .type "list", data := .seq #[] }).update s.heap.objs.size (Obj.mapSeq (fun _ => (#[] : Array Value)))).get? b = some o :=
    fun b o hb q => (Heap.get?_update_other _ _ (Ne.symm hb)).trans (Heap.get?_push_of_some _ q)
  refine wpAny_bind (wpAny_letGo ?_)
  refine en_extend (A := A.in1) D (oth e _ (Nat.ne_of_lt hel) he) (D.frame _ _ _ hst fun b hb o q => oth b o (Nat.ne_of_lt (hfp b hb)) q) _ hie hel hil hef hSf .none _ hS₂ (fun h' tk acc c as hk hS' hl hG hacc => ?_) hn
  exact ⟨rfl, hQ h' tk acc c as (fun b o h1 h2 q => hk b o (Nat.ne_of_lt (Heap.lt_size q)) h1 h2 (oth b o (Nat.ne_of_lt (Heap.lt_size q)) q)) hS' hl hG hacc⟩
end
end KQ
set_option Elab.async false
set_option linter.all false
set_option maxRecDepth 100000
set_option maxHeartbeats 4000000
namespace KQ
open PySem PySem.Spec PyProof.Rows L2
theorem callWith_typeKw {M : Model} {A : Around} {E : Value → Shared → Prop} {s : Shared} {env : Env} {pos : Pos} {T : String} {e : Expr} {rest : List Expr} {kws : List Keyword} {Q : Value → Shared → Prop}
    (h : wpAny M A (spliced (backTo pos (starEach (e :: rest) env))) (fun vs s₁ => wpAny M A (evalAll ((backToKw pos (keywordEach kws env)).map (·.2)))
      (fun kvs s₂ => wpAny M A (call (.type T) vs (((backToKw pos (keywordEach kws env)).filterMap (·.1)).zip kvs)) Q E s₂) E s₁) E s)
    (he : backTo pos (starEach (e :: rest) env) = (false, eval e env) :: backTo pos (starEach rest env) := by rfl)
    (hplain : (backTo pos (starEach (e :: rest) env)).any (·.1) = false := by rfl)
    (hall : (backToKw pos (keywordEach kws env)).all (·.1.isSome) = true := by rfl)
    (hkw : (backToKw pos (keywordEach kws env)).any (·.1.isNone) = false := by rfl) :
    wpAny M A (callWith pos (.type T) [] (backTo pos (starEach (e :: rest) env)) (backToKw pos (keywordEach kws env))) Q E s := by
  rw [he] at h ⊢
  have h2 := PyProof.Rows.evalArgs_kwB (f := .type T) (Q := fun a s₁ => wpAny M A (call (.type T) ([] ++ a.pos) a.kw) Q E s₁) hall h
  unfold callWith
  refine wpAny_bind (wpAny_holding (wpAny_mono h2 (fun a s₁ h₁ => wpAny_bind (wpAny_standAt ?_)) fun _ _ x => x))
  rw [he] at hplain
  simp only [hplain, hkw, Bool.or_false]
  refine wpAny_bind (wpAny_pure ?_)
  exact wpAny_bind (wpAny_mono h₁ (fun r s₂ hr => wpAny_bind (wpAny_holding (wpAny_point (wpAny_pure hr)))) fun _ _ x => x)
def enK (n : Int) : List V → List (Key × V)
  | [] => []
  | x :: r => (.inl n, x) :: enK (n + 1) r
theorem enK_len : ∀ (n : Int) (xs : List V), (enK n xs).length = xs.length
  | _, [] => rfl
  | n, _ :: r => congrArg (· + 1) (enK_len (n + 1) r)
theorem enK_get : ∀ {n : Int} {xs : List V} {j : Nat} {p : Key × V}, (enK n xs)[j]? = some p → p.1 = .inl (n + (j : Int)) ∧ xs[j]? = some p.2
  | _, [], _, _, h => by cases h
  | n, x :: r, 0, p, h => by cases h; exact ⟨by show Sum.inl n = _; congr 1; omega, rfl⟩
  | n, x :: r, j + 1, p, h => by
    obtain ⟨e1, e2⟩ := enK_get (show (enK (n + 1) r)[j]? = some p from h)
    exact ⟨by rw [e1]; congr 1; omega, e2⟩
def rLEn : List V → List V → Hp → VK → Prop := fun vs zs H Q => ∃ (l : Addr) (xs : List V) (n : Int), vs = [.ref l] ∧ zs = [.int n] ∧ 0 ≤ n ∧ n < 2 ^ 62 ∧ H l = some (.lst xs) ∧
  ∀ (p : Addr) (ts : List Addr), H p = none → (∀ t ∈ ts, H t = none) → ts.Nodup → p ∉ ts → ts.length = xs.length → Q (.ref p) (upd (LiI.putT H ts (enK n xs)) p (.lst (ts.map V.ref)))
section
variable {X : Cx}
theorem en_laid {pins : List (Addr × Obj)} {σ : L2.St} {H : Hp} {s : Shared} {h' : Heap} {tk : Nat} {xs : List V} {its : List Value} {n : Int} {acc : Array Value} {c : Nat} {as : List Addr} (I : Inv X pins σ H s) (hz : xs.length ≤ sizeLine) (rv : Vals xs its) {S : Addr} (hS0 : s.heap.objs.size ≤ S)
    (hk : ∀ b o, s.heap.get? b = some o → h'.get? b = some o) (hS : h'.get? S = some { cls := .type "list", dict := none, data := .seq acc c, slots := #[] }) (hl : as.length = xs.length) (hG : EnG n (fun i v => its.toArray[i]? = some v) S h' as) (hacc : acc.toList = as.map Value.ref) :
    H S = none ∧ (∀ t ∈ as, H t = none) ∧ as.Nodup ∧ S ∉ as ∧ Inv X pins σ (upd (LiI.putT H as (enK n xs)) S (.lst (as.map V.ref))) { s with heap := h', toks := tk } := by
  have hSn : S ∉ as := fun z => Nat.lt_irrefl _ (hG.above _ z)
  have nd : as.Nodup := List.Pairwise.imp (fun {a b} (h : a < b) => Nat.ne_of_lt h) hG.rise
  have new : ∀ t ∈ as, H t = none := fun t ht => I.hok.fresh (Nat.le_trans hS0 (Nat.le_of_lt (hG.above t ht)))
  have newS : H S = none := I.hok.fresh hS0
  have hlen : as.length = (enK n xs).length := by rw [enK_len]; exact hl
  have atP := LiI.putT_at as (enK n xs) H hlen nd
  have off : ∀ b, b ∉ as → b ≠ S → upd (LiI.putT H as (enK n xs)) S (.lst (as.map V.ref)) b = H b := fun b h1 h2 => by rw [upd_ne h2, LiI.putT_off as _ _ h1]
  have low : ∀ b o, s.heap.get? b = some o → b ∉ as ∧ b ≠ S := fun b o e => ⟨fun z => absurd (Heap.lt_size e) (Nat.not_lt.mpr (Nat.le_trans hS0 (Nat.le_of_lt (hG.above b z)))), fun z => absurd (Heap.lt_size e) (Nat.not_lt.mpr (by rw [z]; exact hS0))⟩
  have kp : ∀ b u, H b = some u → upd (LiI.putT H as (enK n xs)) S (.lst (as.map V.ref)) b = some u := fun b u e => by
    rw [off b (fun z => by rw [new b z] at e; cases e) (fun z => by rw [z, newS] at e; cases e)]
    exact e
  refine ⟨newS, new, nd, hSn, ?_⟩
  refine I.call' (ch := []) rfl ⟨fun b o q _ _ _ => hk b o q, fun b o q _ _ _ => ⟨o.slots, hk b o q⟩, fun b o q n _ => ?_, fun b o q _ => ⟨o, hk b o q⟩, fun b xs q => kp b _ q, fun b o u q => kp b _ q, fun b ps q => ⟨#[], by rw [kp b _ q]; simp⟩⟩ (fun b u q => ?_) I.bare fun b z => by simp at z
  · obtain ⟨z1, z2⟩ := low b o q
    rw [off b z1 z2]
    exact n
  · by_cases hb : b = S
    · rw [hb] at q ⊢
      rw [upd_same] at q
      cases q
      refine ⟨by rw [List.length_map]; omega, acc.toList, c, by rw [hacc]; exact LiI.vals_refs as, ?_⟩
      rw [Array.toArray_toList]
      exact hS
    · by_cases hb2 : b ∈ as
      · obtain ⟨j, pk, e1, e2, e3⟩ := LiI.paired_ix atP hb2
        rw [upd_ne hb, e3] at q
        cases q
        obtain ⟨t, x, f1, f2⟩ := hG.pairs j b e1
        obtain ⟨g1, g2⟩ := enK_get e2
        obtain ⟨u, hu, ru⟩ := rv.get g2
        have ex : x = u := by
          rw [List.getElem?_toArray, hu] at f1
          exact (Option.some.inj f1).symm
        rw [g1]
        exact ⟨by show 2 ≤ sizeLine; decide, [.int (n + (j : Int)) t, x], .cons ⟨_, rfl⟩ (.cons (ex ▸ ru) .nil), ⟨_, f2, rfl, _, rfl⟩⟩
      · rw [off b hb2 hb] at q
        exact (I.hok b u q).stay (fun d v _ y => hk d v y) (fun d y => kp d _ y) fun d xs y => kp d _ y
variable {e d : Expr} {t tk : TA} {p p2 pos cpos kpos : Pos} {nm : Option Str}
theorem pe_lenum (hc : X.calm = true) (hgl : Gl X "list") (hml : X.mg "list" = none) (hge : Gl X "enumerate") (hme : X.mg "enumerate" = none) (ha : PA X [e] t) (hk : PK X [⟨nm, d, kpos⟩] tk)
    (he : backTo cpos (starEach [e] X.env) = (false, eval e X.env) :: backTo cpos (starEach [] X.env) := by rfl) (hpl : (backTo cpos (starEach [e] X.env)).any (·.1) = false := by rfl)
    (hall : (backToKw cpos (keywordEach [⟨nm, d, kpos⟩] X.env)).all (·.1.isSome) = true := by rfl) (hnone : (backToKw cpos (keywordEach [⟨nm, d, kpos⟩] X.env)).any (·.1.isNone) = false := by rfl) (hks : (backToKw cpos (keywordEach [⟨nm, d, kpos⟩] X.env)).filterMap (·.1) = [Str.ofString "start"] := by rfl)
    (hs : starEach [.Call (.Name "enumerate" p2) [e] [⟨nm, d, kpos⟩] cpos] X.env = (false, eval (.Call (.Name "enumerate" p2) [e] [⟨nm, d, kpos⟩] cpos) X.env) :: starEach [] X.env := by rfl) :
    PE X (.Call (.Name "list" p) [.Call (.Name "enumerate" p2) [e] [⟨nm, d, kpos⟩] cpos] [] pos) (tCKw rLEn t tk) := by
  refine ⟨fun pins s σ H Q I h => ?_⟩
  refine wpAny_Call_Name_kw (ld_blt I hgl hml boot_list ?_)
  refine PyProof.Rows.callWith_type1 ?_ hs rfl
  rw [hs]
  show wpAny _ _ (spliced ((false, eval (.Call (.Name "enumerate" p2) [e] [⟨nm, d, kpos⟩] cpos) X.env) :: backTo pos (starEach [] X.env))) _ _ s
  refine Calls.spliced_cons ?_
  refine wpAny_Call_Name_kw (ld_blt I hge hme boot_enumerate ?_)
  refine callWith_typeKw (thn (ha.run cpos pins s σ H _ I h) fun us s1 ⟨vs, H1, I1, r1, q1⟩ => thn (hk.run cpos pins s1 σ H1 _ I1 q1) fun ws s2 ⟨zs, H2, I2, r2, q2⟩ => ?_) he hpl hall hnone
  rw [hks]
  obtain ⟨l, xs, n, rfl, rfl, h0, h1, hl, q⟩ := q2
  obtain ⟨u, rfl, ru⟩ := r1.one
  obtain ⟨z, rfl, rz⟩ := r2.one
  cases ru
  obtain ⟨tz, rfl⟩ := rz
  obtain ⟨hz, its, nl, rv, hol⟩ := (show ObjOk X.prog X.w H2 s2.heap l (.lst xs) from I2.hok l _ hl)
  have hL : s2.heap.IsList l its.toArray := ⟨_, hol, rfl, nl, rfl⟩
  have hll : l < s2.heap.objs.size := Heap.lt_size hol
  refine enum_begins_start (begins_list l its.toArray) hL (by omega) (by omega) fun h' hen hit hsz hkp => ?_
  refine Calls.spliced_nil ?_
  have hlen := rv.length
  have I3 : Inv X pins σ H2 { s2 with heap := h' } := I2.kept (t' := s2.toks) hkp
  refine en_call (s := { s2 with heap := h' }) (A := X.A) (Draws.list (A := X.A.in1.in1.in1) (I2.ok.hd hc) s2.heap.objs.size l (Nat.ne_of_lt hll) its.toArray) hen ⟨⟨_, hit, rfl, rfl⟩, hL.at fun o x => hkp l o x⟩ (Nat.ne_of_lt (Nat.lt_succ_self _)) ?_ (fun b hb => ?_) (by simpa [hlen] using hz) fun h2 tk2 acc c as hk2 hS2 hl2 hG hacc => ?_
  · intro hm
    rcases List.mem_cons.mp hm with z | hm
    · exact Nat.succ_ne_self _ z
    · have z := List.mem_singleton.mp hm
      rw [← z] at hll
      exact absurd hll (Nat.not_lt.mpr (Nat.le_succ _))
  · show b < h'.objs.size
    rcases List.mem_cons.mp hb with z | hb
    · rw [z, hsz]; exact Nat.lt_add_of_pos_right (by decide)
    · rw [List.mem_singleton.mp hb, hsz]; exact Nat.lt_trans hll (Nat.lt_add_of_pos_right (by decide))
  · have hS0 : s2.heap.objs.size ≤ h'.objs.size := by rw [hsz]; omega
    obtain ⟨k1, k2, k3, k4, J⟩ := en_laid (tk := tk2) (X := X) (s := s2) I2 hz rv (S := h'.objs.size) hS0 (fun b o x => hk2 b o (Nat.ne_of_lt (Nat.lt_succ_of_lt (Heap.lt_size x))) (Nat.ne_of_lt (Heap.lt_size x)) (hkp b o x)) hS2 (by simpa [hlen] using hl2) hG hacc
    exact ⟨.ref _, _, J, rfl, q _ as k1 k2 k3 k4 (by simpa [hlen] using hl2)⟩
end
end KQ
set_option Elab.async false
set_option linter.all false
set_option maxRecDepth 100000
set_option maxHeartbeats 4000000
namespace KF
open PySem PySem.Spec PyProof.Rows L2 KQ
def enD (n : Int) : List D → List D
  | [] => []
  | x :: r => .tup [.int n, x] :: enD (n + 1) r
def eLEnum (t : FA) (b : FE) : FE := fun δ S => (t δ S).bind fun ds S => (b δ S).bind fun z S => match ds, z with
  | [.ref a], .int n => match S[a]? with
    | some (.lst xs) => if 0 ≤ n ∧ n < 2 ^ 62 then alloc (.lst (enD n xs)) S else .no
    | _ => .no
  | _, _ => .no
theorem put_en {K : PySem.W.Frag} {mg : Str → Option Value} {ρ : List Addr} {S : Sto} : ∀ {ts : List Addr} {vs : List V} {ds : List D} {n : Int} {H : Hp}, Sim K mg ρ S H → VRs K mg ρ H ds vs → ts.length = vs.length → ts.Nodup → (∀ t ∈ ts, H t = none) →
    Le ρ H ρ (LiI.putT H ts (enK n vs)) ∧ Sim K mg ρ S (LiI.putT H ts (enK n vs)) ∧ VRs K mg ρ (LiI.putT H ts (enK n vs)) (enD n ds) (ts.map V.ref)
  | [], [], _, _, _, s, .nil, _, _, _ => ⟨Le.refl, s, .nil⟩
  | _ :: _, [], _, _, _, _, _, h, _, _ => by cases h
  | [], _ :: _, _, _, _, _, _, h, _, _ => by cases h
  | t :: ts, v :: vs, _, n, H, s, .cons (d := d) (ds := ds) r rr, hl, hn, hf => by
    have ht : H t = none := hf t List.mem_cons_self
    have L : Le ρ H ρ (upd H t (.tup [.int n, v])) := Le.new ht
    obtain ⟨hn1, hn2⟩ := List.nodup_cons.mp hn
    obtain ⟨L2, s2, r2⟩ := put_en (n := n + 1) (ts := ts) (s.new (o := .tup [.int n, v]) ht) (rr.le L) (Nat.succ.inj hl) hn2 fun u hu => by
      rw [upd_ne (fun z => hn1 (by rw [← z]; exact hu))]
      exact hf u (List.mem_cons_of_mem _ hu)
    exact ⟨L.trans L2, s2, .cons ((tupAt s ht (.cons (.int n) (.cons r .nil))).le L2) r2⟩
section
variable {X : Cx} {W : WX} {e d : Expr} {t : FA} {fd : FE} {p p2 pos cpos kpos : Pos} {nm : Option Str}
theorem fe_lenum (hml : X.mg "list" = none) (hme : X.mg "enumerate" = none) (ha : PA X [e] (cA X.K X.mg W t)) (hd : PE X d (cE X.K X.mg W fd)) (hc : X.calm = true := by rfl) (hgl : Gl X "list" := by rfl) (hge : Gl X "enumerate" := by rfl)
    (he : backTo cpos (starEach [e] X.env) = (false, eval e X.env) :: backTo cpos (starEach [] X.env) := by rfl) (hpl : (backTo cpos (starEach [e] X.env)).any (·.1) = false := by rfl)
    (hall : (backToKw cpos (keywordEach [⟨nm, d, kpos⟩] X.env)).all (·.1.isSome) = true := by rfl) (hnone : (backToKw cpos (keywordEach [⟨nm, d, kpos⟩] X.env)).any (·.1.isNone) = false := by rfl) (hks : (backToKw cpos (keywordEach [⟨nm, d, kpos⟩] X.env)).filterMap (·.1) = [Str.ofString "start"] := by rfl)
    (hs : starEach [.Call (.Name "enumerate" p2) [e] [⟨nm, d, kpos⟩] cpos] X.env = (false, eval (.Call (.Name "enumerate" p2) [e] [⟨nm, d, kpos⟩] cpos) X.env) :: starEach [] X.env := by rfl) :
    PE X (.Call (.Name "list" p) [.Call (.Name "enumerate" p2) [e] [⟨nm, d, kpos⟩] cpos] [] pos) (cE X.K X.mg W (eLEnum t fd)) := by
  refine PE.of (pe_lenum hc hgl hml hge hme ha (pk_cons hd pk_nil) he hpl hall hnone hks hs) ?_
  rintro σ H Q ⟨ρ, S, δ, s, x, g⟩
  refine ⟨ρ, S, δ, s, x, (G.bind g).imp ?_⟩
  rintro vs H1 ⟨ρ1, S1, ds, L1, s1, r1, g1⟩
  refine ⟨ρ1, S1, δ, s1, x.le L1, (G.bind g1).imp ?_⟩
  rintro z H2 ⟨ρ2, S2, d2, L2, s2, r2, g2⟩
  show rLEn vs [z] H2 Q
  replace r1 := r1.le L2
  split at g2
  · rename_i a n
    cases r2
    obtain ⟨v, rfl, r3⟩ := r1.one
    split at g2
    · rename_i xs h
      split at g2
      · rename_i hn
        obtain ⟨l, ws, rfl, e1, e2, e3⟩ := s2.lst r3 h
        refine ⟨l, ws, n, rfl, rfl, hn.1, hn.2, e2, fun q ts q1 q2 q3 q4 q5 => ?_⟩
        obtain ⟨L3, s3, r4⟩ := put_en (n := n) s2 e3 q5 q3 q2
        have np : LiI.putT H2 ts (enK n ws) q = none := by rw [LiI.putT_off ts _ _ q4]; exact q1
        exact newlst s3 np r4 (g2.le L3)
      · exact g2.elim
    · exact g2.elim
  · exact g2.elim
end
end KF
set_option Elab.async false
set_option linter.all false
set_option maxRecDepth 100000
set_option maxHeartbeats 4000000
namespace KF
open PySem
section
variable {α β : Type} (δ : Env) (a : α) (S : Sto) (n : Str) (fs : List (Str × D)) (f : α → Sto → R β) (g : α → Sto → RS)
theorem bindOk : (R.ok a S).bind f = f a S := id rfl
theorem bindEx : (R.ex n fs S : R α).bind f = .ex n fs S := id rfl
theorem bindNo : (R.no : R α).bind f = .no := id rfl
theorem toOk : R.to δ (R.ok a S) g = g a S := id rfl
theorem toEx : R.to δ (R.ex n fs S : R α) g = .ex δ n fs S := id rfl
theorem toNo : R.to δ (R.no : R α) g = .no := id rfl
end
/-- a suite's rest, behind its first -/
def RS.seq (r : RS) (b : FS) : RS := match r with
  | .nx δ S => b δ S
  | r => r
section
variable (δ : Env) (S : Sto) (b : FS)
@[simp] theorem seq_nx : (RS.nx δ S).seq b = b δ S := id rfl
@[simp] theorem seq_rt (d : D) : (RS.rt d S).seq b = .rt d S := id rfl
@[simp] theorem seq_bk : (RS.bk δ S).seq b = .bk δ S := id rfl
@[simp] theorem seq_ct : (RS.ct δ S).seq b = .ct δ S := id rfl
@[simp] theorem seq_ex (n : Str) (fs : List (Str × D)) : (RS.ex δ n fs S).seq b = .ex δ n fs S := id rfl
@[simp] theorem seq_no : RS.no.seq b = .no := id rfl
theorem sSeq_ev (a : FS) : sSeq a b δ S = (a δ S).seq b := by unfold sSeq RS.seq; rfl
/-- an argument's rest behind its first -/
def consK2 (x : D) (xs : List D) (S : Sto) : R (List D) := .ok (x :: xs) S
def consK (t : FA) (δ : Env) (x : D) (S : Sto) : R (List D) := (t δ S).bind (consK2 x)
theorem aCons_ev (a : FE) (t : FA) : aCons a t δ S = (a δ S).bind (consK t δ) := id rfl
theorem consK_ev (t : FA) (x : D) : consK t δ x S = (t δ S).bind (consK2 x) := id rfl
theorem consK2_ev (x : D) (xs : List D) : consK2 x xs S = .ok (x :: xs) S := id rfl
theorem eC_ev (d : D) : eC d δ S = .ok d S := id rfl
theorem aNil_ev : aNil δ S = .ok [] S := id rfl
def opK (r : D → D → Sto → R D) (y : FE) (δ : Env) (x : D) (S : Sto) : R D := (y δ S).bind (r x)
theorem eOp_ev (r : D → D → Sto → R D) (x y : FE) : eOp r x y δ S = (x δ S).bind (opK r y δ) := id rfl
theorem opK_ev (r : D → D → Sto → R D) (y : FE) (x : D) : opK r y δ x S = (y δ S).bind (r x) := id rfl
theorem eUn_ev (r : D → Sto → R D) (x : FE) : eUn r x δ S = (x δ S).bind r := id rfl
def tupK (ds : List D) (S : Sto) : R D := if ds.length ≤ line then .ok (.tup ds) S else .no
def lstK (ds : List D) (S : Sto) : R D := if ds.length ≤ line then alloc (.lst ds) S else .no
theorem eTup_ev (t : FA) : eTup t δ S = (t δ S).bind tupK := id rfl
theorem eLst_ev (t : FA) : eLst t δ S = (t δ S).bind lstK := id rfl
theorem tupK_ev {ds : List D} (h : ds.length ≤ line) : tupK ds S = .ok (.tup ds) S := if_pos h
theorem lstK_ev {ds : List D} (h : ds.length ≤ line) : lstK ds S = .ok (.ref S.length) (S ++ [.lst ds]) := if_pos h
theorem eB_ev (r : List D → Sto → R D) (t : FA) : eB r t δ S = (t δ S).bind r := id rfl
def iteK (x y : FE) (δ : Env) (k : Bool) (S : Sto) : R D := if k = true then x δ S else y δ S
theorem eIf_ev (c : FT) (x y : FE) : eIf c x y δ S = (c δ S).bind (iteK x y δ) := id rfl
theorem iteK_ev (x y : FE) (k : Bool) : iteK x y δ k S = if k = true then x δ S else y δ S := id rfl
def andR (y : FE) (δ : Env) (x : D) (S : Sto) : R D := match x with
  | .bl true => y δ S
  | .bl false => .ok (.bl false) S
  | _ => .no
def orR (y : FE) (δ : Env) (x : D) (S : Sto) : R D := match x with
  | .bl true => .ok (.bl true) S
  | .bl false => y δ S
  | _ => .no
theorem eAnd_ev (x y : FE) : eAnd x y δ S = (x δ S).bind (andR y δ) := id rfl
theorem eOr_ev (x y : FE) : eOr x y δ S = (x δ S).bind (orR y δ) := id rfl
theorem andR_bl (y : FE) (k : Bool) : andR y δ (.bl k) S = if k = true then y δ S else .ok (.bl false) S := by cases k <;> rfl
theorem orR_bl (y : FE) (k : Bool) : orR y δ (.bl k) S = if k = true then .ok (.bl true) S else y δ S := by cases k <;> rfl
def notR (x : D) (S : Sto) : R D := match x with
  | .bl k => .ok (.bl (!k)) S
  | _ => .no
theorem eNot_ev (x : FE) : eNot x δ S = (x δ S).bind notR := id rfl
@[simp] theorem notR_bl (k : Bool) : notR (.bl k) S = .ok (.bl (!k)) S := id rfl
@[simp] theorem asB_bl (k : Bool) : asB (.bl k) S = .ok k S := id rfl
theorem tB_ev (a : FE) : tB a δ S = (a δ S).bind asB := id rfl
def tAndK (u : FT) (δ : Env) (c : Bool) (S : Sto) : R Bool := if c = true then u δ S else .ok false S
def tOrK (u : FT) (δ : Env) (c : Bool) (S : Sto) : R Bool := if c = true then .ok true S else u δ S
def tNotK (c : Bool) (S : Sto) : R Bool := .ok (!c) S
theorem tAnd_ev (t u : FT) : tAnd t u δ S = (t δ S).bind (tAndK u δ) := id rfl
theorem tAndK_ev (u : FT) (c : Bool) : tAndK u δ c S = if c = true then u δ S else .ok false S := id rfl
theorem tOr_ev (t u : FT) : tOr t u δ S = (t δ S).bind (tOrK u δ) := id rfl
theorem tOrK_ev (u : FT) (c : Bool) : tOrK u δ c S = if c = true then .ok true S else u δ S := id rfl
theorem tNot_ev (t : FT) : tNot t δ S = (t δ S).bind tNotK := id rfl
theorem tNotK_ev (c : Bool) : tNotK c S = .ok (!c) S := id rfl
theorem tYes_ev : tYes δ S = .ok true S := id rfl
def chainK3 (r' : D → D → Sto → R D) (z : FE) (δ : Env) (y : D) (k : Bool) (S : Sto) : R D := if k = true then (z δ S).bind (r' y) else .ok (.bl false) S
def chainK2 (r' : D → D → Sto → R D) (z : FE) (δ : Env) (y w : D) (S : Sto) : R D := (asB w S).bind (chainK3 r' z δ y)
def chainK1 (r r' : D → D → Sto → R D) (z : FE) (δ : Env) (x y : D) (S : Sto) : R D := (r x y S).bind (chainK2 r' z δ y)
def chainK (r r' : D → D → Sto → R D) (y z : FE) (δ : Env) (x : D) (S : Sto) : R D := (y δ S).bind (chainK1 r r' z δ x)
theorem eChain_ev (r r' : D → D → Sto → R D) (x y z : FE) : eChain r r' x y z δ S = (x δ S).bind (chainK r r' y z δ) := id rfl
theorem chainK_ev (r r' : D → D → Sto → R D) (y z : FE) (x : D) : chainK r r' y z δ x S = (y δ S).bind (chainK1 r r' z δ x) := id rfl
theorem chainK1_ev (r r' : D → D → Sto → R D) (z : FE) (x y : D) : chainK1 r r' z δ x y S = (r x y S).bind (chainK2 r' z δ y) := id rfl
theorem chainK2_ev (r' : D → D → Sto → R D) (z : FE) (y w : D) : chainK2 r' z δ y w S = (asB w S).bind (chainK3 r' z δ y) := id rfl
theorem chainK3_ev (r' : D → D → Sto → R D) (z : FE) (y : D) (k : Bool) : chainK3 r' z δ y k S = if k = true then (z δ S).bind (r' y) else .ok (.bl false) S := id rfl
theorem eFld_ev (cs : List Str) (f : Str) (x : FE) : eFld cs f x δ S = (x δ S).bind (fldOf cs f) := id rfl
def slK1 (h : FO) (δ : Env) (x : D) (lo : Option Int) (S : Sto) : R D := (h δ S).bind (opSl x lo)
def slK (l h : FO) (δ : Env) (x : D) (S : Sto) : R D := (l δ S).bind (slK1 h δ x)
theorem eSl_ev (x : FE) (l h : FO) : eSl x l h δ S = (x δ S).bind (slK l h δ) := id rfl
theorem slK_ev (l h : FO) (x : D) : slK l h δ x S = (l δ S).bind (slK1 h δ x) := id rfl
theorem slK1_ev (h : FO) (x : D) (lo : Option Int) : slK1 h δ x lo S = (h δ S).bind (opSl x lo) := id rfl
theorem oNo_ev : oNo δ S = .ok none S := id rfl
def atR (x : D) (S : Sto) : R (Option Int) := match x with
  | .int i => .ok (some i) S
  | _ => .no
theorem oAt_ev (x : FE) : oAt x δ S = (x δ S).bind atR := id rfl
@[simp] theorem atR_int (i : Int) : atR (.int i) S = .ok (some i) S := id rfl
theorem sNil_ev : sNil δ S = .nx δ S := id rfl
def setK (i : Nat) (δ : Env) (d : D) (S : Sto) : RS := .nx (δ.set i (some d)) S
def dropK (δ : Env) (_ : D) (S : Sto) : RS := .nx δ S
def retK (d : D) (S : Sto) : RS := .rt d S
theorem sSet_ev (i : Nat) (x : FE) : sSet i x δ S = R.to δ (x δ S) (setK i δ) := id rfl
theorem setK_ev (i : Nat) (d : D) : setK i δ d S = .nx (δ.set i (some d)) S := id rfl
theorem sE_ev (x : FE) : sE x δ S = R.to δ (x δ S) (dropK δ) := id rfl
theorem dropK_ev (d : D) : dropK δ d S = .nx δ S := id rfl
theorem sRet_ev (x : FE) : sRet x δ S = R.to δ (x δ S) retK := id rfl
theorem retK_ev (d : D) : retK d S = .rt d S := id rfl
theorem sRetN_ev : sRetN δ S = .rt .non S := id rfl
def sIfK (x y : FS) (δ : Env) (k : Bool) (S : Sto) : RS := if k = true then x δ S else y δ S
theorem sIf_ev (c : FT) (x y : FS) : sIf c x y δ S = R.to δ (c δ S) (sIfK x y δ) := id rfl
theorem sIfK_ev (x y : FS) (k : Bool) : sIfK x y δ k S = if k = true then x δ S else y δ S := id rfl
theorem sRz_ev (n : Str) : sRz n δ S = .ex δ n [] S := id rfl
def rxK (n f : Str) (δ : Env) (d : D) (S : Sto) : RS := .ex δ n [(f, d)] S
theorem sRx_ev (n f : Str) (a : FE) : sRx n f a δ S = R.to δ (a δ S) (rxK n f δ) := id rfl
theorem rxK_ev (n f : Str) (d : D) : rxK n f δ d S = .ex δ n [(f, d)] S := id rfl
def putK3 (δ : Env) (_ : Unit) (S : Sto) : RS := .nx δ S
def putK2 (δ : Env) (d x y : D) (S : Sto) : RS := R.to δ (putIx x y d S) (putK3 δ)
def putK1 (i : FE) (δ : Env) (d x : D) (S : Sto) : RS := R.to δ (i δ S) (putK2 δ d x)
def putK0 (o i : FE) (δ : Env) (d : D) (S : Sto) : RS := R.to δ (o δ S) (putK1 i δ d)
theorem sPut_ev (o i v : FE) : sPut o i v δ S = R.to δ (v δ S) (putK0 o i δ) := id rfl
theorem putK0_ev (o i : FE) (d : D) : putK0 o i δ d S = R.to δ (o δ S) (putK1 i δ d) := id rfl
theorem putK1_ev (i : FE) (d x : D) : putK1 i δ d x S = R.to δ (i δ S) (putK2 δ d x) := id rfl
theorem putK2_ev (d x y : D) : putK2 δ d x y S = R.to δ (putIx x y d S) (putK3 δ) := id rfl
theorem putK3_ev (u : Unit) : putK3 δ u S = .nx δ S := id rfl
def asgR (t : TgS) (δ : Env) (d : D) (S : Sto) : RS := match t.asg d δ with
  | some δ => .nx δ S
  | none => .no
theorem sAsg_ev (a : FE) (t : TgS) : sAsg a t δ S = R.to δ (a δ S) (asgR t δ) := id rfl
end
end KF
namespace KF
open PySem
theorem clean_app (S T : Sto) : clean S (S ++ T) := ⟨by simp, fun i o h e => .inl (by rw [List.getElem?_append_left h] at e; exact e)⟩
open Classical in
theorem gcR_rt (S S' : Sto) (d : D) : gcR S (.rt d S') = if clean S S' ∧ d.under S.length = true then .ok d (S'.take S.length) else .ok d S' := rfl
open Classical in
theorem gcR_nx (S S' : Sto) (δ : Env) : gcR S (.nx δ S') = if clean S S' then .ok .non (S'.take S.length) else .ok .non S' := rfl
open Classical in
theorem gcR_ex (S S' : Sto) (δ : Env) (n : Str) (fs : List (Str × D)) : gcR S (.ex δ n fs S') = if clean S S' ∧ fsUnder S.length fs = true then .ex n fs (S'.take S.length) else .ex n fs S' := rfl
theorem gc_rt_len {S S' : Sto} {d : D} (h : S'.length = S.length) : gcR S (.rt d S') = .ok d S' := by
  rw [gcR_rt]
  split
  · rw [← h, List.take_length]
  · rfl
theorem gc_nx_len {S S' : Sto} {δ : Env} (h : S'.length = S.length) : gcR S (.nx δ S') = .ok .non S' := by
  rw [gcR_nx]
  split
  · rw [← h, List.take_length]
  · rfl
theorem gc_ex_len {S S' : Sto} {δ : Env} {n : Str} {fs : List (Str × D)} (h : S'.length = S.length) : gcR S (.ex δ n fs S') = .ex n fs S' := by
  rw [gcR_ex]
  split
  · rw [← h, List.take_length]
  · rfl
theorem gc_rt_same (S : Sto) (d : D) : gcR S (.rt d S) = .ok d S := gc_rt_len rfl
theorem gc_nx_same (S : Sto) (δ : Env) : gcR S (.nx δ S) = .ok .non S := gc_nx_len rfl
theorem gc_ex_same (S : Sto) (δ : Env) (n : Str) (fs : List (Str × D)) : gcR S (.ex δ n fs S) = .ex n fs S := gc_ex_len rfl
theorem gc_rt_app {S T : Sto} {d : D} (h : d.under S.length = true) : gcR S (.rt d (S ++ T)) = .ok d S := by
  rw [gcR_rt, if_pos ⟨clean_app S T, h⟩, List.take_left' rfl]
/-- a new thing is told: all stays -/
theorem gc_rt_new {S S' : Sto} {d : D} (h : d.under S.length = false) : gcR S (.rt d S') = .ok d S' := by
  rw [gcR_rt, if_neg (by rw [h]; simp)]
theorem set_at {S : Sto} {a : Nat} {o o' : GO} (h : S[a]? = some o') : (S.set a o)[a]? = some o := by
  obtain ⟨h, _⟩ := List.getElem?_eq_some_iff.mp h
  simp [h]
theorem app_at {S T : Sto} {a : Nat} {o : GO} (h : S[a]? = some o) : (S ++ T)[a]? = some o := by
  obtain ⟨q, e⟩ := List.getElem?_eq_some_iff.mp h
  rw [List.getElem?_append_left q, h]
theorem compF_map {lv : List (Nat × List D)} {vs : List Nat} {tg : TgS} {t : FT} {e : FE} {δ : Env} {S : Sto} (hl : liveOk lv S) (f : D → D) : ∀ (xs : List D), (∀ x ∈ xs, ∃ δ1, tg.asg x (wipeD δ vs) = some δ1 ∧ t δ1 S = .ok true S ∧ e δ1 S = .ok (f x) S) → compF lv vs tg t e δ xs S = .ok (xs.map f) S
  | [], _ => by unfold compF; rw [if_pos hl]; rfl
  | x :: xs, h => by
    obtain ⟨δ1, h1, h2, h3⟩ := h x (List.mem_cons_self ..)
    unfold compF
    rw [if_pos hl, h1]
    simp only [h2, h3, bind_ok, if_pos]
    rw [compF_map hl f xs fun y hy => h y (List.mem_cons_of_mem _ hy)]
    rfl
end KF
set_option Elab.async false
set_option linter.all false
set_option maxRecDepth 100000
set_option maxHeartbeats 4000000
namespace KF
open PySem
section
variable {δ : Env} {S : Sto} {x : Option D} {d e : D} {i j : Int} {a b : Nat} {l m : List D}
theorem eVar_z : eVar 0 (some d :: δ) S = .ok d S := id rfl
theorem eVar_s {i : Nat} : eVar (i + 1) (x :: δ) S = eVar i δ S := by unfold eVar; rw [List.getElem?_cons_succ]
theorem fnOf_ev {m n : Nat} {b : FS} {ds : List D} (h : ds.length = m) : fnOf m n b ds S = gcR S (b (ds.map some ++ List.replicate (n - m) none) S) := by unfold fnOf; rw [if_pos h, h]
theorem add_int : opAdd (.int i) (.int j) S = .ok (.int (i + j)) S := id rfl
theorem sub_int : opSub (.int i) (.int j) S = .ok (.int (i - j)) S := id rfl
theorem mod_int (h : j ≠ 0) : opMod (.int i) (.int j) S = .ok (.int (i.fmod j)) S := by simp [opMod, h]
theorem neg_int : opNeg (.int i) S = .ok (.int (-i)) S := id rfl
theorem lt_int : opLt (.int i) (.int j) S = .ok (.bl (decide (i < j))) S := id rfl
theorem le_int : opLe (.int i) (.int j) S = .ok (.bl (decide (i ≤ j))) S := id rfl
theorem gt_int : opGt (.int i) (.int j) S = .ok (.bl (decide (j < i))) S := id rfl
theorem ge_int : opGe (.int i) (.int j) S = .ok (.bl (decide (j ≤ i))) S := id rfl
theorem isN_ev : opIsN d S = .ok (.bl (isNone d)) S := id rfl
theorem notN_ev : opNotN d S = .ok (.bl (!isNone d)) S := id rfl
theorem shaped_int (i : Int) : SeqAt.shaped (.int i) = true := id rfl
theorem eq_int : opEq (.int i) (.int j) S = .ok (.bl (decide (i = j))) S := by
  have e : PyData.eqv (.int i) (.int j) = decide (i = j) := by
    unfold PyData.eqv; first | rfl | simp
  simp [opEq, opEqN, D.py, shaped_int, e]
theorem ne_int : opNe (.int i) (.int j) S = .ok (.bl (!decide (i = j))) S := by
  have e : PyData.eqv (.int i) (.int j) = decide (i = j) := by
    unfold PyData.eqv; first | rfl | simp
  simp [opNe, opEqN, D.py, shaped_int, e]
theorem ix_tup {i : Int} (h : L2.atI l i = some d) : opIx (.tup l) (.int i) S = .ok d S := by simp [opIx, h]
theorem ix_lst {i : Int} (hS : S[a]? = some (.lst l)) (h : L2.atI l i = some d) : opIx (.ref a) (.int i) S = .ok d S := by simp [opIx, hS, h]
theorem len_tup : bLen [.tup l] S = .ok (.int l.length) S := id rfl
theorem int_int : bInt [.int i] S = .ok (.int i) S := id rfl
theorem int_bl {k : Bool} : bInt [.bl k] S = .ok (.int (if k then 1 else 0)) S := id rfl
theorem max2_ev : bMax2 [.int i, .int j] S = .ok (.int (if j > i then j else i)) S := id rfl
theorem fld_at {cs : List Str} {f C : Str} {fs : List (Str × D)} (hS : S[a]? = some (.ins C fs)) (hc : C ∈ cs) (h : fs.lookup f = some d) : fldOf cs f (.ref a) S = .ok d S := by simp [fldOf, hS, hc, h]
end
theorem line_small {n : Nat} : (n ≤ line) = (n ≤ 16777216) := id rfl
/-- the type of a thing is known -/
def Kn (cs : List Str) (S : Sto) (d : D) : Prop := ∃ t, tyD S d = some t ∧ ∀ C, t = .c C → C ∈ cs
def isNum : D → Bool
  | .int i => decide (0 ≤ i)
  | _ => false
def isIntD : D → Bool
  | .int _ => true
  | _ => false
def isBlD : D → Bool
  | .bl _ => true
  | _ => false
def isTupD : D → Bool
  | .tup _ => true
  | _ => false
def isStrD : D → Bool
  | .str _ => true
  | _ => false
theorem isi_int {cs : List Str} {S : Sto} {d : D} (h : Kn cs S d) : bIsi cs [d, .ty "int"] S = .ok (.bl (isIntD d || isBlD d)) S := by
  obtain ⟨t, h1, h2⟩ := h
  unfold bIsi
  dsimp only
  rw [if_pos (by decide)]
  cases d with
  | ref a =>
    unfold tyD at h1 ⊢
    dsimp only at h1 ⊢
    split at h1 <;> (rename_i q; simp only [q]; cases h1)
    · rfl
    · rfl
    · simp [h2 _ rfl, isIntD, isBlD, isTupD, isStrD]
  | _ => first | (cases h1; rfl) | (simp [tyD] at h1)
theorem isi_bool {cs : List Str} {S : Sto} {d : D} (h : Kn cs S d) : bIsi cs [d, .ty "bool"] S = .ok (.bl (isBlD d)) S := by
  obtain ⟨t, h1, h2⟩ := h
  unfold bIsi
  dsimp only
  rw [if_pos (by decide)]
  cases d with
  | ref a =>
    unfold tyD at h1 ⊢
    dsimp only at h1 ⊢
    split at h1 <;> (rename_i q; simp only [q]; cases h1)
    · rfl
    · rfl
    · simp [h2 _ rfl, isIntD, isBlD, isTupD, isStrD]
  | _ => first | (cases h1; rfl) | (simp [tyD] at h1)
theorem isi_tuple {cs : List Str} {S : Sto} {d : D} (h : Kn cs S d) : bIsi cs [d, .ty "tuple"] S = .ok (.bl (isTupD d)) S := by
  obtain ⟨t, h1, h2⟩ := h
  unfold bIsi
  dsimp only
  rw [if_pos (by decide)]
  cases d with
  | ref a =>
    unfold tyD at h1 ⊢
    dsimp only at h1 ⊢
    split at h1 <;> (rename_i q; simp only [q]; cases h1)
    · rfl
    · rfl
    · simp [h2 _ rfl, isIntD, isBlD, isTupD, isStrD]
  | _ => first | (cases h1; rfl) | (simp [tyD] at h1)
theorem isi_str {cs : List Str} {S : Sto} {d : D} (h : Kn cs S d) : bIsi cs [d, .ty "str"] S = .ok (.bl (isStrD d)) S := by
  obtain ⟨t, h1, h2⟩ := h
  unfold bIsi
  dsimp only
  rw [if_pos (by decide)]
  cases d with
  | ref a =>
    unfold tyD at h1 ⊢
    dsimp only at h1 ⊢
    split at h1 <;> (rename_i q; simp only [q]; cases h1)
    · rfl
    · rfl
    · simp [h2 _ rfl, isIntD, isBlD, isTupD, isStrD]
  | _ => first | (cases h1; rfl) | (simp [tyD] at h1)
theorem kn_int {cs : List Str} {S : Sto} {i : Int} : Kn cs S (.int i) := ⟨_, rfl, fun _ e => by cases e⟩
theorem kn_str {cs : List Str} {S : Sto} {x : Str} : Kn cs S (.str x) := ⟨_, rfl, fun _ e => by cases e⟩
theorem kn_tup {cs : List Str} {S : Sto} {l : List D} : Kn cs S (.tup l) := ⟨_, rfl, fun _ e => by cases e⟩
theorem kn_lst {cs : List Str} {S : Sto} {a : Nat} {l : List D} (h : S[a]? = some (.lst l)) : Kn cs S (.ref a) := ⟨.b "list", by simp only [tyD, h], fun _ e => by cases e⟩
end KF
set_option Elab.async false
set_option linter.all false
set_option maxRecDepth 100000
set_option maxHeartbeats 4000000
namespace KF
open PySem
section
variable {δ : Env} {S : Sto} {vs : List Nat} {tg : TgS} {t : FT} {e f : FE} {l : List D}
/-- [f x for x in it], the turns change nothing -/
theorem comp_its {it : FI} {u : Its} {S1 : Sto} (hi : it δ S = .ok u S1) (lv : liveOk u.live S1) (hl : u.ds.length ≤ line) (g : D → D) (h : ∀ x ∈ u.ds, ∃ δ1, tg.asg x (wipeD δ vs) = some δ1 ∧ t δ1 S1 = .ok true S1 ∧ f δ1 S1 = .ok (g x) S1) :
    eComp it vs tg t f δ S = .ok (.ref S1.length) (S1 ++ [.lst (u.ds.map g)]) := by
  unfold eComp
  rw [hi, bind_ok, if_pos hl, compF_map lv g u.ds h]
  rfl
theorem zip_lst {t : FA} {S1 : Sto} {a b : Nat} {xs ys : List D} (h : t δ S = .ok [.ref a, .ref b] S1) (ha : S1[a]? = some (.lst xs)) (hb : S1[b]? = some (.lst ys)) : iZip t δ S = .ok ⟨(xs.zip ys).map fun p => pairD p.1 p.2, [(a, xs), (b, ys)]⟩ S1 := by
  unfold iZip
  rw [h, bind_ok]
  simp only [itsOf, ha, hb]
  rfl
theorem rng1 {t : FA} {S1 : Sto} {n : Nat} (h : t δ S = .ok [.int n] S1) (hn : n < 1000000) : iRng1 t δ S = .ok ⟨(List.range n).map fun (k : Nat) => .int (k : Int), []⟩ S1 := by
  unfold iRng1
  rw [h, bind_ok]
  dsimp only
  rw [if_pos (by omega)]
  simp
theorem live_nil : liveOk [] S := fun _ h => by cases h
theorem last_at {o : GO} : (S ++ [o])[S.length]? = some o := by simp
theorem asg_name {i : Nat} {d : D} : (TgS.name i).asg d δ = some (δ.set i (some d)) := by unfold TgS.asg; rfl
theorem asg_two {i j : Nat} {a b : D} : (TgS.tup [.name i, .name j]).asg (.tup [a, b]) δ = some ((δ.set i (some a)).set j (some b)) := by
  simp [TgS.asg, TgS.asgs]
theorem wipe_nil : wipeD δ [] = δ := id rfl
theorem wipe_cons {v : Nat} {ws : List Nat} : wipeD δ (v :: ws) = (wipeD δ ws).set v none := id rfl
end
mutual
def plain : D → Bool
  | .non => true
  | .bl _ => true
  | .int _ => true
  | .str _ => true
  | .tup l => decide (l.length ≤ 100000) && plains l
  | _ => false
def plains : List D → Bool
  | [] => true
  | d :: l => plain d && plains l
end
theorem plains_of {l : List D} (h : ∀ d ∈ l, plain d = true) : plains l = true := by
  induction l with
  | nil => rfl
  | cons x l ih => unfold plains; simp [h x (List.mem_cons_self ..), ih fun d m => h d (List.mem_cons_of_mem _ m)]
mutual
theorem plain_under (n : Nat) : ∀ (d : D), plain d = true → d.under n = true
  | .non, _ => by unfold D.under; rfl
  | .bl _, _ => by unfold D.under; rfl
  | .int _, _ => by unfold D.under; rfl
  | .str _, _ => by unfold D.under; rfl
  | .tup l, h => by unfold D.under; unfold plain at h; exact plains_under n l (by simp at h; exact h.2)
  | .ref _, h => by unfold plain at h; cases h
  | .byt _, h => by unfold plain at h; cases h
  | .ty _, h => by unfold plain at h; cases h
  | .cls _, h => by unfold plain at h; cases h
  | .scr _, h => by unfold plain at h; cases h
theorem plains_under (n : Nat) : ∀ (l : List D), plains l = true → D.unders n l = true
  | [], _ => by unfold D.unders; rfl
  | d :: l, h => by
    unfold plains at h
    simp at h
    unfold D.unders
    simp [plain_under n d h.1, plains_under n l h.2]
end
end KF
set_option Elab.async false
set_option linter.all false
set_option maxRecDepth 100000
set_option maxHeartbeats 4000000
namespace KF
open PySem
/-- x[i], o[i] = v by what stands at a place -/
def ixO (o : Option GO) (i : Int) (S : Sto) : R D := match o with
  | some (.lst l) => match L2.atI l i with
    | some d => .ok d S
    | none => .no
  | some (.dic t kvs) => match (keyIn t (.int i)).bind (dgetD kvs) with
    | some d => .ok d S
    | none => .no
  | _ => .no
def putO (o : Option GO) (a : Nat) (k : Int) (d : D) (S : Sto) : R Unit := match o with
  | some (.lst l) => match L2.ixN l.length k with
    | some j => .ok () (S.set a (.lst (l.set j d)))
    | none => .no
  | some (.dic t kvs) => match keyIn t (.int k) with
    | some q => if kvs.length < line then .ok () (S.set a (.dic t (dputD kvs q d))) else .no
    | none => .no
  | _ => .no
def lenO (o : Option GO) (S : Sto) : R D := match o with
  | some (.lst l) => .ok (.int l.length) S
  | some (.dic false kvs) => .ok (.int kvs.length) S
  | _ => .no
section
variable {S : Sto} {a : Nat} {i k : Int} {d : D} {l : List D} {x y z u v w : D}
theorem ix_ref : opIx (.ref a) (.int i) S = ixO S[a]? i S := by
  unfold opIx ixO
  try dsimp only
  all_goals
    cases S[a]? with
    | none => rfl
    | some o => cases o <;> rfl
theorem put_ref : putIx (.ref a) (.int k) d S = putO S[a]? a k d S := by
  unfold putIx putO
  try dsimp only
  all_goals
    cases S[a]? with
    | none => rfl
    | some o => cases o <;> rfl
theorem len_ref : bLen [.ref a] S = lenO S[a]? S := id rfl
theorem ixO_at (h : L2.atI l i = some d) : ixO (some (.lst l)) i S = .ok d S := by simp [ixO, h]
theorem lenO_lst : lenO (some (.lst l)) S = .ok (.int l.length) S := id rfl
theorem atI_nat' {α : Type} {l : List α} {k : Nat} (h : k < l.length) : L2.atI l (k : Int) = some l[k] := by
  unfold L2.atI L2.ixN
  rw [if_pos (Int.natCast_nonneg k), if_pos (by omega)]
  simp [h]
theorem atI_of {α : Type} {l : List α} {i : Int} (h0 : 0 ≤ i) (h1 : i < l.length) : ∃ x, L2.atI l i = some x ∧ x ∈ l := by
  obtain ⟨k, rfl⟩ := Int.eq_ofNat_of_zero_le h0
  have hk : k < l.length := by omega
  exact ⟨_, atI_nat' hk, List.getElem_mem hk⟩
theorem mul_ok {i j : Int} (h : L2.CMul i j) : opMul (.int i) (.int j) S = .ok (.int (i * j)) S := by simp [opMul, h]
theorem div_ok {i j : Int} (h : j ≠ 0 ∧ j.natAbs < 1073741824) : opDiv (.int i) (.int j) S = .ok (.int (i.fdiv j)) S := by simp [opDiv, h]
theorem pow_ok {i j : Int} (h : 0 ≤ j ∧ j ≤ 1000000 ∧ i.natAbs < 2 ^ 64) : opPow (.int i) (.int j) S = .ok (.int (i ^ j.toNat)) S := by simp only [opPow, h, and_self, if_true]
theorem fmod_in {i m : Int} (h : 0 < m) : 0 ≤ i.fmod m ∧ i.fmod m < m := ⟨Int.fmod_nonneg_of_pos i h, Int.fmod_lt_of_pos i h⟩
end
noncomputable def takeF : Fn := fnOf 2 5 (sSeq (sPut (eVar 0) (eC (.int 4)) (eOp opAdd (eOp opIx (eVar 0) (eC (.int 4))) (eC (.int 1))))
    (sSeq (sIf (tAnd (tB (eOp opEq (eOp opIx (eVar 0) (eC (.int 2))) (eC (.int 0)))) (tB (eOp opLt (eOp opIx (eVar 0) (eC (.int 1))) (eB bLen (aCons (eOp opIx (eVar 0) (eC (.int 0))) aNil)))))
    (sSeq (sSet 2 (eB bInt (aCons (eOp opIx (eOp opIx (eVar 0) (eC (.int 0))) (eOp opIx (eVar 0) (eC (.int 1)))) aNil)))
    (sSeq (sPut (eVar 0) (eC (.int 1)) (eOp opAdd (eOp opIx (eVar 0) (eC (.int 1))) (eC (.int 1))))
    (sIf (tB (eOp opGe (eVar 2) (eOp opPow (eC (.int 10)) (eC (.int 18)))))
    (sPut (eVar 0) (eC (.int 2)) (eVar 2))
    (sPut (eVar 0) (eC (.int 3)) (eOp opMod (eB bInt (aCons (eOp opAdd (eOp opAdd (eOp opMul (eOp opIx (eVar 0) (eC (.int 3))) (eC (.int 48271))) (eOp opMod (eB bInt (aCons (eVar 2) aNil)) (eC (.int 2147483647)))) (eC (.int 1))) aNil)) (eC (.int 2147483647)))))))
    sNil)
    (sSeq (sIf (tB (eOp opGt (eOp opIx (eVar 0) (eC (.int 2))) (eC (.int 0))))
    (sSeq (sSet 3 (eOp opMod (eB bInt (aCons (eOp opIx (eVar 0) (eC (.int 2))) aNil)) (eVar 1)))
    (sSeq (sPut (eVar 0) (eC (.int 2)) (eOp opDiv (eB bInt (aCons (eOp opIx (eVar 0) (eC (.int 2))) aNil)) (eVar 1)))
    (sRet (eVar 3))))
    sNil)
    (sSeq (sPut (eVar 0) (eC (.int 3)) (eOp opMod (eB bInt (aCons (eOp opAdd (eOp opMul (eOp opIx (eVar 0) (eC (.int 3))) (eC (.int 69621))) (eOp opMul (eC (.int 7919)) (eOp opIx (eVar 0) (eC (.int 4))))) aNil)) (eC (.int 2147483647))))
    (sSeq (sSet 4 (eOp opMod (eB bInt (aCons (eOp opMul (eOp opIx (eVar 0) (eC (.int 3))) (eOp opAdd (eOp opDiv (eOp opIx (eVar 0) (eC (.int 3))) (eC (.int 1009))) (eC (.int 69621)))) aNil)) (eC (.int 2147483647))))
    (sSeq (sSet 4 (eOp opMod (eB bInt (aCons (eOp opMul (eVar 4) (eOp opAdd (eOp opDiv (eVar 4) (eC (.int 2003))) (eC (.int 40692)))) aNil)) (eC (.int 2147483399))))
    (sRet (eOp opMod (eB bInt (aCons (eOp opDiv (eVar 4) (eC (.int 16))) aNil)) (eVar 1)))))))))
/-- the hand at h -/
def HandO (c : Nat) (o : GO) : Prop := ∃ p q s n : Int, 0 ≤ p ∧ o = .lst [.ref c, .int p, .int q, .int s, .int n]
structure Hand (S : Sto) (h c : Nat) : Prop where
  ne : h ≠ c
  at_ : ∃ o, S[h]? = some o ∧ HandO c o
  cells : ∃ is : List Int, S[c]? = some (.lst (is.map D.int))
theorem Hand.set {S : Sto} {h c : Nat} {o : GO} (H : Hand S h c) (q : HandO c o) : Hand (S.set h o) h c := by
  obtain ⟨ne, ⟨o', e, _⟩, is, ec⟩ := H
  exact ⟨ne, ⟨o, set_at e, q⟩, is, by rw [List.getElem?_set_ne ne]; exact ec⟩
theorem small_mul {i j : Int} (h : -(2 ^ 64) < j ∧ j < 2 ^ 64) : L2.CMul i j := .inr h
theorem small_mul' {i j : Int} (h : -(2 ^ 64) < i ∧ i < 2 ^ 64) : L2.CMul i j := .inl h
theorem take_ok {S : Sto} {h c : Nat} {m : Int} (H : Hand S h c) (m0 : 0 < m) (m1 : m < 1073741824) : ∃ r o, 0 ≤ r ∧ r < m ∧ takeF [.ref h, .int m] S = .ok (.int r) (S.set h o) ∧ HandO c o := by
  obtain ⟨ne, ⟨_, e, p, q, s, n, hp, rfl⟩, is, ec⟩ := H
  have hlt : h < S.length := (List.getElem?_eq_some_iff.mp e).1
  have hh : ∀ o, (S.set h o)[h]? = some o := fun o => by simp [hlt]
  have hc : ∀ o, (S.set h o)[c]? = some (.lst (is.map D.int)) := fun o => by rw [List.getElem?_set_ne ne]; exact ec
  have i0 : ∀ (a b c d e : D) (S : Sto), ixO (some (.lst [a, b, c, d, e])) 0 S = .ok a S := fun _ _ _ _ _ _ => rfl
  have i1 : ∀ (a b c d e : D) (S : Sto), ixO (some (.lst [a, b, c, d, e])) 1 S = .ok b S := fun _ _ _ _ _ _ => rfl
  have i2 : ∀ (a b c d e : D) (S : Sto), ixO (some (.lst [a, b, c, d, e])) 2 S = .ok c S := fun _ _ _ _ _ _ => rfl
  have i3 : ∀ (a b c d e : D) (S : Sto), ixO (some (.lst [a, b, c, d, e])) 3 S = .ok d S := fun _ _ _ _ _ _ => rfl
  have i4 : ∀ (a b c d e : D) (S : Sto), ixO (some (.lst [a, b, c, d, e])) 4 S = .ok e S := fun _ _ _ _ _ _ => rfl
  have p1 : ∀ (a b c d e x : D) (S : Sto), putO (some (.lst [a, b, c, d, e])) h 1 x S = .ok () (S.set h (.lst [a, x, c, d, e])) := fun _ _ _ _ _ _ _ => rfl
  have p2 : ∀ (a b c d e x : D) (S : Sto), putO (some (.lst [a, b, c, d, e])) h 2 x S = .ok () (S.set h (.lst [a, b, x, d, e])) := fun _ _ _ _ _ _ _ => rfl
  have p3 : ∀ (a b c d e x : D) (S : Sto), putO (some (.lst [a, b, c, d, e])) h 3 x S = .ok () (S.set h (.lst [a, b, c, x, e])) := fun _ _ _ _ _ _ _ => rfl
  have p4 : ∀ (a b c d e x : D) (S : Sto), putO (some (.lst [a, b, c, d, e])) h 4 x S = .ok () (S.set h (.lst [a, b, c, d, x])) := fun _ _ _ _ _ _ _ => rfl
  have gl : ∀ d o, gcR S (.rt d (S.set h o)) = .ok d (S.set h o) := fun d o => gc_rt_len (by simp)
  have d1 : ∀ (i : Int) (S : Sto), opDiv (.int i) (.int 1009) S = .ok (.int (i.fdiv 1009)) S := fun i S => div_ok (by decide)
  have d2 : ∀ (i : Int) (S : Sto), opDiv (.int i) (.int 2003) S = .ok (.int (i.fdiv 2003)) S := fun i S => div_ok (by decide)
  have d3 : ∀ (i : Int) (S : Sto), opDiv (.int i) (.int 16) S = .ok (.int (i.fdiv 16)) S := fun i S => div_ok (by decide)
  have dm : ∀ (i : Int) (S : Sto), opDiv (.int i) (.int m) S = .ok (.int (i.fdiv m)) S := fun i S => div_ok ⟨by omega, by omega⟩
  have mm : ∀ (i : Int) (S : Sto), opMod (.int i) (.int m) S = .ok (.int (i.fmod m)) S := fun i S => mod_int (by omega)
  have ma : ∀ (i : Int) (S : Sto), opMod (.int i) (.int 2147483647) S = .ok (.int (i.fmod 2147483647)) S := fun i S => mod_int (by decide)
  have mb : ∀ (i : Int) (S : Sto), opMod (.int i) (.int 2147483399) S = .ok (.int (i.fmod 2147483399)) S := fun i S => mod_int (by decide)
  have t1 : ∀ (i : Int) (S : Sto), opMul (.int i) (.int 48271) S = .ok (.int (i * 48271)) S := fun i S => mul_ok (small_mul (by decide))
  have t2 : ∀ (i : Int) (S : Sto), opMul (.int i) (.int 69621) S = .ok (.int (i * 69621)) S := fun i S => mul_ok (small_mul (by decide))
  have t3 : ∀ (i : Int) (S : Sto), opMul (.int 7919) (.int i) S = .ok (.int (7919 * i)) S := fun i S => mul_ok (small_mul' (by decide))
  have t4 : ∀ (i j : Int) (S : Sto), opMul (.int (i.fmod 2147483647)) (.int j) S = .ok (.int (i.fmod 2147483647 * j)) S := fun i j S => mul_ok (small_mul' (by have := fmod_in (i := i) (m := 2147483647) (by decide); omega))
  have pw : ∀ S : Sto, opPow (.int 10) (.int 18) S = .ok (.int 1000000000000000000) S := fun S => by rw [pow_ok (by decide)]; rfl
  have fin : ∀ (i : Int) (o : GO), HandO c o → ∃ r o', 0 ≤ r ∧ r < m ∧ (R.ok (.int (i.fmod m)) (S.set h o) : R D) = .ok (.int r) (S.set h o') ∧ HandO c o' := fun i o ho => ⟨_, o, (fmod_in m0).1, (fmod_in m0).2, rfl, ho⟩
  unfold takeF
  simp only [fnOf_ev, List.length_cons, List.length_nil, Nat.zero_add, Nat.reduceAdd, Nat.reduceSub, List.map_cons, List.map_nil, List.cons_append, List.nil_append, List.append_nil, List.replicate_zero, List.replicate_succ, sSeq_ev, seq_nx, seq_rt, seq_bk, seq_ct, seq_ex, seq_no, eVar_z, eVar_s, eC_ev, aNil_ev, aCons_ev, consK_ev, consK2_ev, eOp_ev, opK_ev, eUn_ev, eTup_ev, eLst_ev, tupK_ev, lstK_ev, eB_ev, eIf_ev, iteK_ev, eAnd_ev, eOr_ev, andR_bl, orR_bl, eNot_ev, notR_bl, asB_bl, tB_ev, tAnd_ev, tAndK_ev, tOr_ev, tOrK_ev, tNot_ev, tNotK_ev, tYes_ev, eChain_ev, chainK_ev, chainK1_ev, chainK2_ev, chainK3_ev, eFld_ev, eSl_ev, slK_ev, slK1_ev, oNo_ev, oAt_ev, atR_int, sNil_ev, sSet_ev, setK_ev, sE_ev, dropK_ev, sRet_ev, retK_ev, sRetN_ev, sIf_ev, sIfK_ev, sRz_ev, sRx_ev, rxK_ev, sPut_ev, putK0_ev, putK1_ev, putK2_ev, putK3_ev, sAsg_ev, List.set_cons_zero, List.set_cons_succ, bindOk, bindEx, bindNo, toOk, toEx, toNo, if_true, if_false, ite_true, ite_false, Bool.false_eq_true, Bool.true_eq_false, eq_self, decide_true, decide_false, Bool.not_true, Bool.not_false, reduceIte, reduceCtorEq, add_int, sub_int, neg_int, lt_int, le_int, gt_int, ge_int, eq_int, ne_int, isN_ev, notN_ev, len_tup, int_int, int_bl, max2_ev, Nat.le_refl, gc_rt_same, gc_nx_same, gc_ex_same, line_small, Nat.reduceLeDiff, Nat.zero_le, ix_ref, put_ref, len_ref, lenO_lst, e, hh, hc, i0, i1, i2, i3, i4, p1, p2, p3, p4, d1, d2, d3, dm, mm, ma, mb, t1, t2, t3, t4, pw, List.set_set, gl, decide_eq_true_eq]
  by_cases hq : q = 0
  · by_cases hl : p < ((is.map D.int).length : Int)
    · obtain ⟨x, hx, mx⟩ := atI_of hp hl
      obtain ⟨v, _, rfl⟩ := List.mem_map.mp mx
      have ip : ∀ S : Sto, ixO (some (.lst (is.map D.int))) p S = .ok (.int v) S := fun S => ixO_at hx
      by_cases hv : (1000000000000000000 : Int) ≤ v
      · have hv0 : (0 : Int) < v := by omega
        simp only [fnOf_ev, List.length_cons, List.length_nil, Nat.zero_add, Nat.reduceAdd, Nat.reduceSub, List.map_cons, List.map_nil, List.cons_append, List.nil_append, List.append_nil, List.replicate_zero, List.replicate_succ, sSeq_ev, seq_nx, seq_rt, seq_bk, seq_ct, seq_ex, seq_no, eVar_z, eVar_s, eC_ev, aNil_ev, aCons_ev, consK_ev, consK2_ev, eOp_ev, opK_ev, eUn_ev, eTup_ev, eLst_ev, tupK_ev, lstK_ev, eB_ev, eIf_ev, iteK_ev, eAnd_ev, eOr_ev, andR_bl, orR_bl, eNot_ev, notR_bl, asB_bl, tB_ev, tAnd_ev, tAndK_ev, tOr_ev, tOrK_ev, tNot_ev, tNotK_ev, tYes_ev, eChain_ev, chainK_ev, chainK1_ev, chainK2_ev, chainK3_ev, eFld_ev, eSl_ev, slK_ev, slK1_ev, oNo_ev, oAt_ev, atR_int, sNil_ev, sSet_ev, setK_ev, sE_ev, dropK_ev, sRet_ev, retK_ev, sRetN_ev, sIf_ev, sIfK_ev, sRz_ev, sRx_ev, rxK_ev, sPut_ev, putK0_ev, putK1_ev, putK2_ev, putK3_ev, sAsg_ev, List.set_cons_zero, List.set_cons_succ, bindOk, bindEx, bindNo, toOk, toEx, toNo, if_true, if_false, ite_true, ite_false, Bool.false_eq_true, Bool.true_eq_false, eq_self, decide_true, decide_false, Bool.not_true, Bool.not_false, reduceIte, reduceCtorEq, add_int, sub_int, neg_int, lt_int, le_int, gt_int, ge_int, eq_int, ne_int, isN_ev, notN_ev, len_tup, int_int, int_bl, max2_ev, Nat.le_refl, gc_rt_same, gc_nx_same, gc_ex_same, line_small, Nat.reduceLeDiff, Nat.zero_le, ix_ref, put_ref, len_ref, lenO_lst, e, hh, hc, i0, i1, i2, i3, i4, p1, p2, p3, p4, d1, d2, d3, dm, mm, ma, mb, t1, t2, t3, t4, pw, List.set_set, gl, decide_eq_true_eq, hq, hl, ip, hv, hv0]
        exact fin _ _ ⟨_, _, _, _, by omega, rfl⟩
      · have h00 : ¬ (0 : Int) < 0 := by omega
        simp only [fnOf_ev, List.length_cons, List.length_nil, Nat.zero_add, Nat.reduceAdd, Nat.reduceSub, List.map_cons, List.map_nil, List.cons_append, List.nil_append, List.append_nil, List.replicate_zero, List.replicate_succ, sSeq_ev, seq_nx, seq_rt, seq_bk, seq_ct, seq_ex, seq_no, eVar_z, eVar_s, eC_ev, aNil_ev, aCons_ev, consK_ev, consK2_ev, eOp_ev, opK_ev, eUn_ev, eTup_ev, eLst_ev, tupK_ev, lstK_ev, eB_ev, eIf_ev, iteK_ev, eAnd_ev, eOr_ev, andR_bl, orR_bl, eNot_ev, notR_bl, asB_bl, tB_ev, tAnd_ev, tAndK_ev, tOr_ev, tOrK_ev, tNot_ev, tNotK_ev, tYes_ev, eChain_ev, chainK_ev, chainK1_ev, chainK2_ev, chainK3_ev, eFld_ev, eSl_ev, slK_ev, slK1_ev, oNo_ev, oAt_ev, atR_int, sNil_ev, sSet_ev, setK_ev, sE_ev, dropK_ev, sRet_ev, retK_ev, sRetN_ev, sIf_ev, sIfK_ev, sRz_ev, sRx_ev, rxK_ev, sPut_ev, putK0_ev, putK1_ev, putK2_ev, putK3_ev, sAsg_ev, List.set_cons_zero, List.set_cons_succ, bindOk, bindEx, bindNo, toOk, toEx, toNo, if_true, if_false, ite_true, ite_false, Bool.false_eq_true, Bool.true_eq_false, eq_self, decide_true, decide_false, Bool.not_true, Bool.not_false, reduceIte, reduceCtorEq, add_int, sub_int, neg_int, lt_int, le_int, gt_int, ge_int, eq_int, ne_int, isN_ev, notN_ev, len_tup, int_int, int_bl, max2_ev, Nat.le_refl, gc_rt_same, gc_nx_same, gc_ex_same, line_small, Nat.reduceLeDiff, Nat.zero_le, ix_ref, put_ref, len_ref, lenO_lst, e, hh, hc, i0, i1, i2, i3, i4, p1, p2, p3, p4, d1, d2, d3, dm, mm, ma, mb, t1, t2, t3, t4, pw, List.set_set, gl, decide_eq_true_eq, hq, hl, ip, hv, h00]
        exact fin _ _ ⟨_, _, _, _, by omega, rfl⟩
    · have h00 : ¬ (0 : Int) < 0 := by omega
      simp only [fnOf_ev, List.length_cons, List.length_nil, Nat.zero_add, Nat.reduceAdd, Nat.reduceSub, List.map_cons, List.map_nil, List.cons_append, List.nil_append, List.append_nil, List.replicate_zero, List.replicate_succ, sSeq_ev, seq_nx, seq_rt, seq_bk, seq_ct, seq_ex, seq_no, eVar_z, eVar_s, eC_ev, aNil_ev, aCons_ev, consK_ev, consK2_ev, eOp_ev, opK_ev, eUn_ev, eTup_ev, eLst_ev, tupK_ev, lstK_ev, eB_ev, eIf_ev, iteK_ev, eAnd_ev, eOr_ev, andR_bl, orR_bl, eNot_ev, notR_bl, asB_bl, tB_ev, tAnd_ev, tAndK_ev, tOr_ev, tOrK_ev, tNot_ev, tNotK_ev, tYes_ev, eChain_ev, chainK_ev, chainK1_ev, chainK2_ev, chainK3_ev, eFld_ev, eSl_ev, slK_ev, slK1_ev, oNo_ev, oAt_ev, atR_int, sNil_ev, sSet_ev, setK_ev, sE_ev, dropK_ev, sRet_ev, retK_ev, sRetN_ev, sIf_ev, sIfK_ev, sRz_ev, sRx_ev, rxK_ev, sPut_ev, putK0_ev, putK1_ev, putK2_ev, putK3_ev, sAsg_ev, List.set_cons_zero, List.set_cons_succ, bindOk, bindEx, bindNo, toOk, toEx, toNo, if_true, if_false, ite_true, ite_false, Bool.false_eq_true, Bool.true_eq_false, eq_self, decide_true, decide_false, Bool.not_true, Bool.not_false, reduceIte, reduceCtorEq, add_int, sub_int, neg_int, lt_int, le_int, gt_int, ge_int, eq_int, ne_int, isN_ev, notN_ev, len_tup, int_int, int_bl, max2_ev, Nat.le_refl, gc_rt_same, gc_nx_same, gc_ex_same, line_small, Nat.reduceLeDiff, Nat.zero_le, ix_ref, put_ref, len_ref, lenO_lst, e, hh, hc, i0, i1, i2, i3, i4, p1, p2, p3, p4, d1, d2, d3, dm, mm, ma, mb, t1, t2, t3, t4, pw, List.set_set, gl, decide_eq_true_eq, hq, hl, h00]
      exact fin _ _ ⟨_, _, _, _, hp, rfl⟩
  · by_cases hv0 : (0 : Int) < q
    · simp only [fnOf_ev, List.length_cons, List.length_nil, Nat.zero_add, Nat.reduceAdd, Nat.reduceSub, List.map_cons, List.map_nil, List.cons_append, List.nil_append, List.append_nil, List.replicate_zero, List.replicate_succ, sSeq_ev, seq_nx, seq_rt, seq_bk, seq_ct, seq_ex, seq_no, eVar_z, eVar_s, eC_ev, aNil_ev, aCons_ev, consK_ev, consK2_ev, eOp_ev, opK_ev, eUn_ev, eTup_ev, eLst_ev, tupK_ev, lstK_ev, eB_ev, eIf_ev, iteK_ev, eAnd_ev, eOr_ev, andR_bl, orR_bl, eNot_ev, notR_bl, asB_bl, tB_ev, tAnd_ev, tAndK_ev, tOr_ev, tOrK_ev, tNot_ev, tNotK_ev, tYes_ev, eChain_ev, chainK_ev, chainK1_ev, chainK2_ev, chainK3_ev, eFld_ev, eSl_ev, slK_ev, slK1_ev, oNo_ev, oAt_ev, atR_int, sNil_ev, sSet_ev, setK_ev, sE_ev, dropK_ev, sRet_ev, retK_ev, sRetN_ev, sIf_ev, sIfK_ev, sRz_ev, sRx_ev, rxK_ev, sPut_ev, putK0_ev, putK1_ev, putK2_ev, putK3_ev, sAsg_ev, List.set_cons_zero, List.set_cons_succ, bindOk, bindEx, bindNo, toOk, toEx, toNo, if_true, if_false, ite_true, ite_false, Bool.false_eq_true, Bool.true_eq_false, eq_self, decide_true, decide_false, Bool.not_true, Bool.not_false, reduceIte, reduceCtorEq, add_int, sub_int, neg_int, lt_int, le_int, gt_int, ge_int, eq_int, ne_int, isN_ev, notN_ev, len_tup, int_int, int_bl, max2_ev, Nat.le_refl, gc_rt_same, gc_nx_same, gc_ex_same, line_small, Nat.reduceLeDiff, Nat.zero_le, ix_ref, put_ref, len_ref, lenO_lst, e, hh, hc, i0, i1, i2, i3, i4, p1, p2, p3, p4, d1, d2, d3, dm, mm, ma, mb, t1, t2, t3, t4, pw, List.set_set, gl, decide_eq_true_eq, hq, hv0]
      exact fin _ _ ⟨_, _, _, _, hp, rfl⟩
    · simp only [fnOf_ev, List.length_cons, List.length_nil, Nat.zero_add, Nat.reduceAdd, Nat.reduceSub, List.map_cons, List.map_nil, List.cons_append, List.nil_append, List.append_nil, List.replicate_zero, List.replicate_succ, sSeq_ev, seq_nx, seq_rt, seq_bk, seq_ct, seq_ex, seq_no, eVar_z, eVar_s, eC_ev, aNil_ev, aCons_ev, consK_ev, consK2_ev, eOp_ev, opK_ev, eUn_ev, eTup_ev, eLst_ev, tupK_ev, lstK_ev, eB_ev, eIf_ev, iteK_ev, eAnd_ev, eOr_ev, andR_bl, orR_bl, eNot_ev, notR_bl, asB_bl, tB_ev, tAnd_ev, tAndK_ev, tOr_ev, tOrK_ev, tNot_ev, tNotK_ev, tYes_ev, eChain_ev, chainK_ev, chainK1_ev, chainK2_ev, chainK3_ev, eFld_ev, eSl_ev, slK_ev, slK1_ev, oNo_ev, oAt_ev, atR_int, sNil_ev, sSet_ev, setK_ev, sE_ev, dropK_ev, sRet_ev, retK_ev, sRetN_ev, sIf_ev, sIfK_ev, sRz_ev, sRx_ev, rxK_ev, sPut_ev, putK0_ev, putK1_ev, putK2_ev, putK3_ev, sAsg_ev, List.set_cons_zero, List.set_cons_succ, bindOk, bindEx, bindNo, toOk, toEx, toNo, if_true, if_false, ite_true, ite_false, Bool.false_eq_true, Bool.true_eq_false, eq_self, decide_true, decide_false, Bool.not_true, Bool.not_false, reduceIte, reduceCtorEq, add_int, sub_int, neg_int, lt_int, le_int, gt_int, ge_int, eq_int, ne_int, isN_ev, notN_ev, len_tup, int_int, int_bl, max2_ev, Nat.le_refl, gc_rt_same, gc_nx_same, gc_ex_same, line_small, Nat.reduceLeDiff, Nat.zero_le, ix_ref, put_ref, len_ref, lenO_lst, e, hh, hc, i0, i1, i2, i3, i4, p1, p2, p3, p4, d1, d2, d3, dm, mm, ma, mb, t1, t2, t3, t4, pw, List.set_set, gl, decide_eq_true_eq, hq, hv0]
      exact fin _ _ ⟨_, _, _, _, hp, rfl⟩
end KF
set_option Elab.async false
set_option linter.all false
set_option maxRecDepth 100000
set_option maxHeartbeats 4000000
namespace KF
open PySem
/-- a for: whatever it ends with -/
theorem loop_post {lv : List (Nat × List D)} {t : TgS} {b : FS} {P : RS → Prop} (Inv : List D → Env → Sto → Prop)
    (step : ∀ x xs δ S, Inv (x :: xs) δ S → liveOk lv S ∧ ∃ δ1, t.asg x δ = some δ1 ∧ ((∃ δ' S', (b δ1 S = .nx δ' S' ∨ b δ1 S = .ct δ' S') ∧ Inv xs δ' S') ∨ (∃ δ' S', b δ1 S = .bk δ' S' ∧ P (.nx δ' S')) ∨ (∃ d S', b δ1 S = .rt d S' ∧ P (.rt d S')) ∨ ∃ δ' n fs S', b δ1 S = .ex δ' n fs S' ∧ P (.ex δ' n fs S')))
    (done : ∀ δ S, Inv [] δ S → liveOk lv S ∧ P (.nx δ S)) : ∀ xs δ S, Inv xs δ S → P (loopF lv t b xs δ S)
  | [], δ, S, h => by
    obtain ⟨l, p⟩ := done δ S h
    unfold loopF
    rw [if_pos l]
    exact p
  | x :: xs, δ, S, h => by
    obtain ⟨l, δ1, e, q⟩ := step x xs δ S h
    unfold loopF
    rw [if_pos l, e]
    dsimp only
    rcases q with ⟨δ', S', q | q, i⟩ | ⟨δ', S', q, p⟩ | ⟨d, S', q, p⟩ | ⟨δ', n, fs, S', q, p⟩
    · rw [q]; exact loop_post Inv step done xs δ' S' i
    · rw [q]; exact loop_post Inv step done xs δ' S' i
    · rw [q]; exact p
    · rw [q]; exact p
    · rw [q]; exact p
/-- a for that goes to its end -/
theorem loop_inv {lv : List (Nat × List D)} {t : TgS} {b : FS} (Inv : List D → Env → Sto → Prop) {xs : List D} {δ : Env} {S : Sto} (h : Inv xs δ S)
    (step : ∀ x xs δ S, Inv (x :: xs) δ S → liveOk lv S ∧ ∃ δ1, t.asg x δ = some δ1 ∧ ∃ δ' S', b δ1 S = .nx δ' S' ∧ Inv xs δ' S')
    (done : ∀ δ S, Inv [] δ S → liveOk lv S) : ∃ δ' S', loopF lv t b xs δ S = .nx δ' S' ∧ Inv [] δ' S' :=
  loop_post (P := fun r => ∃ δ' S', r = .nx δ' S' ∧ Inv [] δ' S') Inv (fun x xs δ S h => let ⟨l, δ1, e, δ', S', q, i⟩ := step x xs δ S h; ⟨l, δ1, e, .inl ⟨δ', S', .inl q, i⟩⟩) (fun δ S h => ⟨done δ S h, δ, S, rfl, h⟩) xs δ S h
noncomputable def forK (t : TgS) (b : FS) (δ : Env) (u : Its) (S : Sto) : RS := loopF u.live t b u.ds δ S
theorem sFor_ev (it : FI) (t : TgS) (b : FS) (δ : Env) (S : Sto) : sFor it t b δ S = R.to δ (it δ S) (forK t b δ) := id rfl
theorem forK_ev (t : TgS) (b : FS) (δ : Env) (u : Its) (S : Sto) : forK t b δ u S = loopF u.live t b u.ds δ S := id rfl
/-- all but what stands at h is as it was -/
structure Kp (h : Nat) (S S' : Sto) : Prop where
  len : S.length ≤ S'.length
  at_ : ∀ i o, i ≠ h → S[i]? = some o → S'[i]? = some o
section
variable {h c : Nat} {S S1 S2 : Sto} {o : GO}
theorem Kp.refl : Kp h S S := ⟨Nat.le_refl _, fun _ _ _ e => e⟩
theorem Kp.trans (a : Kp h S S1) (b : Kp h S1 S2) : Kp h S S2 := ⟨Nat.le_trans a.len b.len, fun i o n e => b.at_ i o n (a.at_ i o n e)⟩
theorem Kp.set : Kp h S (S.set h o) := ⟨by simp, fun i o' n e => by rw [List.getElem?_set_ne (Ne.symm n)]; exact e⟩
theorem Kp.app {T : Sto} : Kp h S (S ++ T) := ⟨by simp, fun i o' n e => app_at e⟩
theorem take_at {i n : Nat} {o : GO} (hi : i < n) (e : S[i]? = some o) : (S.take n)[i]? = some o := by
  rw [List.getElem?_take_of_lt hi]; exact e
theorem Kp.take (a : Kp h S S1) : Kp h S (S1.take S.length) := ⟨by have := a.len; simp; omega, fun i o n e => take_at (List.getElem?_eq_some_iff.mp e).1 (a.at_ i o n e)⟩
theorem Hand.lt (H : Hand S h c) : h < S.length ∧ c < S.length := by
  obtain ⟨_, ⟨_, e, _⟩, _, e'⟩ := H
  exact ⟨(List.getElem?_eq_some_iff.mp e).1, (List.getElem?_eq_some_iff.mp e').1⟩
theorem Hand.take {n : Nat} (H : Hand S h c) (h1 : h < n) (h2 : c < n) : Hand (S.take n) h c := by
  obtain ⟨ne, ⟨o, e, q⟩, is, e'⟩ := H
  exact ⟨ne, ⟨o, take_at h1 e, q⟩, is, take_at h2 e'⟩
theorem Hand.app {T : Sto} (H : Hand S h c) : Hand (S ++ T) h c := by
  obtain ⟨ne, ⟨o, e, q⟩, is, e'⟩ := H
  exact ⟨ne, ⟨o, app_at e, q⟩, is, app_at e'⟩
/-- drawn on: from S to S' -/
structure Dr (h c : Nat) (S S' : Sto) : Prop where
  kp : Kp h S S'
  hd : Hand S' h c
theorem Dr.refl (H : Hand S h c) : Dr h c S S := ⟨.refl, H⟩
theorem Dr.trans (a : Dr h c S S1) (b : Dr h c S1 S2) : Dr h c S S2 := ⟨a.kp.trans b.kp, b.hd⟩
theorem Dr.set (H : Hand S h c) (q : HandO c o) : Dr h c S (S.set h o) := ⟨.set, H.set q⟩
theorem Dr.app {T : Sto} (a : Dr h c S S1) : Dr h c S (S1 ++ T) := ⟨a.kp.trans .app, a.hd.app⟩
theorem Dr.take (a : Dr h c S S1) (H : Hand S h c) : Dr h c S (S1.take S.length) := ⟨a.kp.take, a.hd.take H.lt.1 H.lt.2⟩
/-- a drawing def tells something plain -/
theorem gc_draw {d : D} (H : Hand S h c) (a : Dr h c S S1) : ∃ S2, gcR S (.rt d S1) = .ok d S2 ∧ Dr h c S S2 := by
  rw [gcR_rt]
  split
  · exact ⟨_, rfl, a.take H⟩
  · exact ⟨_, rfl, a⟩
theorem take_dr {m : Int} (H : Hand S h c) (m0 : 0 < m) (m1 : m < 1073741824) : ∃ r S', 0 ≤ r ∧ r < m ∧ takeF [.ref h, .int m] S = .ok (.int r) S' ∧ Dr h c S S' ∧ S'.length = S.length := by
  obtain ⟨r, o, r0, r1, e, q⟩ := take_ok H m0 m1
  exact ⟨r, _, r0, r1, e, Dr.set H q, by simp⟩
end
noncomputable def pickF : Fn := fnOf 2 2 (sRet (eOp opIx (eVar 1) (eB takeF (aCons (eVar 0) (aCons (eB bLen (aCons (eVar 1) aNil)) aNil)))))
theorem pick_dr {S : Sto} {h c a : Nat} {l : List D} (H : Hand S h c) (ha : S[a]? = some (.lst l)) (n : a ≠ h) (l0 : 0 < l.length) (l1 : l.length < 1073741824) : ∃ d S', d ∈ l ∧ pickF [.ref h, .ref a] S = .ok d S' ∧ Dr h c S S' ∧ S'.length = S.length := by
  obtain ⟨r, S', r0, r1, e, dr, len⟩ := take_dr (m := l.length) H (by omega) (by omega)
  obtain ⟨d, hd, md⟩ := atI_of r0 r1
  refine ⟨d, S', md, ?_, dr, len⟩
  unfold pickF
  simp only [fnOf_ev, List.length_cons, List.length_nil, Nat.zero_add, Nat.reduceAdd, Nat.reduceSub, List.map_cons, List.map_nil, List.cons_append, List.nil_append, List.append_nil, List.replicate_zero, List.replicate_succ, sSeq_ev, seq_nx, seq_rt, seq_bk, seq_ct, seq_ex, seq_no, eVar_z, eVar_s, eC_ev, aNil_ev, aCons_ev, consK_ev, consK2_ev, eOp_ev, opK_ev, eUn_ev, eTup_ev, eLst_ev, tupK_ev, lstK_ev, eB_ev, eIf_ev, iteK_ev, eAnd_ev, eOr_ev, andR_bl, orR_bl, eNot_ev, notR_bl, asB_bl, tB_ev, tAnd_ev, tAndK_ev, tOr_ev, tOrK_ev, tNot_ev, tNotK_ev, tYes_ev, eChain_ev, chainK_ev, chainK1_ev, chainK2_ev, chainK3_ev, eFld_ev, eSl_ev, slK_ev, slK1_ev, oNo_ev, oAt_ev, atR_int, sNil_ev, sSet_ev, setK_ev, sE_ev, dropK_ev, sRet_ev, retK_ev, sRetN_ev, sIf_ev, sIfK_ev, sRz_ev, sRx_ev, rxK_ev, sPut_ev, putK0_ev, putK1_ev, putK2_ev, putK3_ev, sAsg_ev, List.set_cons_zero, List.set_cons_succ, bindOk, bindEx, bindNo, toOk, toEx, toNo, if_true, if_false, ite_true, ite_false, Bool.false_eq_true, Bool.true_eq_false, eq_self, decide_true, decide_false, Bool.not_true, Bool.not_false, reduceIte, reduceCtorEq, add_int, sub_int, neg_int, lt_int, le_int, gt_int, ge_int, eq_int, ne_int, isN_ev, notN_ev, len_tup, int_int, int_bl, max2_ev, Nat.le_refl, gc_rt_same, gc_nx_same, gc_ex_same, line_small, Nat.reduceLeDiff, Nat.zero_le, len_ref, ha, lenO_lst, e, ix_lst (dr.kp.at_ _ _ n ha) hd]
  exact gc_rt_len len
end KF
set_option Elab.async false
set_option linter.all false
set_option maxRecDepth 100000
set_option maxHeartbeats 4000000
namespace KF
open PySem
theorem compF_inv {lv : List (Nat × List D)} {vs : List Nat} {tg : TgS} {t : FT} {e : FE} {δ : Env} (Inv : Sto → Prop) (P : D → Prop) (hl : ∀ S, Inv S → liveOk lv S) : ∀ (xs : List D) (S : Sto), Inv S →
    (∀ x ∈ xs, ∀ S, Inv S → ∃ δ1, tg.asg x (wipeD δ vs) = some δ1 ∧ t δ1 S = .ok true S ∧ ∃ y S', e δ1 S = .ok y S' ∧ Inv S' ∧ P y) → ∃ ys S', compF lv vs tg t e δ xs S = .ok ys S' ∧ Inv S' ∧ ys.length = xs.length ∧ ∀ y ∈ ys, P y
  | [], S, h, _ => ⟨[], S, by unfold compF; rw [if_pos (hl S h)], h, rfl, fun _ q => by cases q⟩
  | x :: xs, S, h, st => by
    obtain ⟨δ1, h1, h2, y, S1, h3, h4, h5⟩ := st x (List.mem_cons_self ..) S h
    obtain ⟨ys, S2, e2, i2, l2, p2⟩ := compF_inv Inv P hl xs S1 h4 fun x hx => st x (List.mem_cons_of_mem _ hx)
    refine ⟨y :: ys, S2, ?_, i2, by simp [l2], fun z hz => ?_⟩
    · unfold compF
      rw [if_pos (hl S h), h1]
      simp only [h2, h3, e2, bind_ok, if_pos]
    · rcases List.mem_cons.mp hz with q | q
      · exact q ▸ h5
      · exact p2 z q
theorem comp_inv {it : FI} {vs : List Nat} {tg : TgS} {t : FT} {f : FE} {δ : Env} {S S1 : Sto} {u : Its} (hi : it δ S = .ok u S1) (hl : u.ds.length ≤ line) (Inv : Sto → Prop) (P : D → Prop) (h0 : Inv S1) (lv : ∀ S, Inv S → liveOk u.live S)
    (st : ∀ x ∈ u.ds, ∀ S, Inv S → ∃ δ1, tg.asg x (wipeD δ vs) = some δ1 ∧ t δ1 S = .ok true S ∧ ∃ y S', f δ1 S = .ok y S' ∧ Inv S' ∧ P y) : ∃ ys S2, eComp it vs tg t f δ S = .ok (.ref S2.length) (S2 ++ [.lst ys]) ∧ Inv S2 ∧ ys.length = u.ds.length ∧ ∀ y ∈ ys, P y := by
  obtain ⟨ys, S2, e, i, l, p⟩ := compF_inv (vs := vs) (tg := tg) (t := t) (e := f) (δ := δ) Inv P lv u.ds S1 h0 st
  refine ⟨ys, S2, ?_, i, l, p⟩
  unfold eComp
  rw [hi, bind_ok, if_pos hl, e]
  rfl
/-- what stands at a place that is new may change -/
theorem Dr.new {S S' : Sto} {h c a : Nat} {o : GO} (H : Hand S h c) (k : Dr h c S S') (n : S.length ≤ a) : Dr h c S (S'.set a o) := by
  obtain ⟨l1, l2⟩ := H.lt
  refine ⟨⟨by simp; exact k.kp.len, fun i o' ni e => ?_⟩, ?_⟩
  · have := (List.getElem?_eq_some_iff.mp e).1
    rw [List.getElem?_set_ne (by omega)]
    exact k.kp.at_ i o' ni e
  · obtain ⟨ne, ⟨o1, e, q⟩, is, e'⟩ := k.hd
    exact ⟨ne, ⟨o1, by rw [List.getElem?_set_ne (by omega)]; exact e, q⟩, is, by rw [List.getElem?_set_ne (by omega)]; exact e'⟩
def lstGo (o : Option GO) (z : R D) : R D := match o with
  | some (.lst _) => z
  | _ => .no
noncomputable def bmtK (T : String) (r : D → List D → Sto → R D) (t : FA) (δ : Env) (x : D) (S : Sto) : R D := by classical exact if isT T S x then (t δ S).bind fun ys S => r x ys S else .no
theorem eBMT_ev (T : String) (r : D → List D → Sto → R D) (a : FE) (t : FA) (δ : Env) (S : Sto) : eBMT T r a t δ S = (a δ S).bind (bmtK T r t δ) := by
  unfold eBMT bmtK
  rfl
theorem bmtK_lst {r : D → List D → Sto → R D} {t : FA} {δ : Env} {i : Nat} {S : Sto} : bmtK "list" r t δ (.ref i) S = lstGo S[i]? ((t δ S).bind (r (.ref i))) := by
  unfold bmtK lstGo isT
  dsimp only
  split
  · split at * <;> simp_all
  · split at * <;> simp_all
theorem lstGo_lst {l : List D} {z : R D} : lstGo (some (.lst l)) z = z := id rfl
def apO (o : Option GO) (a : Nat) (y : D) (S : Sto) : R D := match o with
  | some (.lst l) => if l.length < line then .ok .non (S.set a (.lst (l ++ [y]))) else .no
  | _ => .no
theorem append_ref {a : Nat} {y : D} {S : Sto} : mAppend (.ref a) [y] S = apO S[a]? a y S := by
  unfold mAppend apO
  rfl
theorem apO_lst {a : Nat} {y : D} {S : Sto} {l : List D} (h : (l.length < line) = True) : apO (some (.lst l)) a y S = .ok .non (S.set a (.lst (l ++ [y]))) := if_pos (of_eq_true h)
end KF
set_option Elab.async false
set_option linter.all false
set_option maxRecDepth 100000
set_option maxHeartbeats 4000000
namespace KF
open PySem
end KF
set_option Elab.async false
set_option linter.all false
set_option maxRecDepth 100000
set_option maxHeartbeats 4000000
namespace KF
open PySem
theorem lst_last {S : Sto} {o o' : GO} : (S ++ [o]).set S.length o' = S ++ [o'] := by
  rw [List.set_append_right _ _ (Nat.le_refl _), Nat.sub_self]; rfl
theorem dput_new {kvs : List (DK × D)} {k : DK} {d : D} (h : k ∉ kvs.map (·.1)) : dputD kvs k d = kvs ++ [(k, d)] := by
  unfold dputD
  rw [if_neg]
  simp only [List.any_eq_true, decide_eq_true_eq]
  rintro ⟨p, hp, rfl⟩
  exact h (List.mem_map_of_mem hp)
theorem dput_old {kvs : List (DK × D)} {k : DK} {d : D} (h : k ∈ kvs.map (·.1)) : dputD kvs k d = kvs.map fun kv => if kv.1 = k then (kv.1, d) else kv := by
  unfold dputD
  rw [if_pos]
  simp only [List.any_eq_true, decide_eq_true_eq]
  obtain ⟨p, hp, e⟩ := List.mem_map.mp h
  exact ⟨p, hp, e⟩
theorem dput_keys_old {kvs : List (DK × D)} {k : DK} {d : D} (h : k ∈ kvs.map (·.1)) : (dputD kvs k d).map (·.1) = kvs.map (·.1) := by
  rw [dput_old h, List.map_map]
  refine List.map_congr_left fun p _ => ?_
  show (if p.1 = k then (p.1, d) else p).1 = p.1
  split <;> rfl
theorem dput_keys_new {kvs : List (DK × D)} {k : DK} {d : D} (h : k ∉ kvs.map (·.1)) : (dputD kvs k d).map (·.1) = kvs.map (·.1) ++ [k] := by
  rw [dput_new h]; simp
theorem dput_nodup {kvs : List (DK × D)} {k : DK} {d : D} (nd : (kvs.map (·.1)).Nodup) : ((dputD kvs k d).map (·.1)).Nodup := by
  by_cases h : k ∈ kvs.map (·.1)
  · rw [dput_keys_old h]; exact nd
  · rw [dput_keys_new h]
    refine List.nodup_append.mpr ⟨nd, by simp, fun a ha b hb e => h ?_⟩
    rw [List.mem_singleton.mp hb] at e
    exact e ▸ ha
theorem dget_mem {kvs : List (DK × D)} {k : DK} {d : D} (h : dgetD kvs k = some d) : (k, d) ∈ kvs := by
  unfold dgetD at h
  obtain ⟨p, hp, rfl⟩ := Option.map_eq_some_iff.mp h
  have h1 := List.mem_of_find?_eq_some hp
  have h2 := List.find?_some hp
  simp only [decide_eq_true_eq] at h2
  rw [← h2]
  exact h1
theorem dget_none {kvs : List (DK × D)} {k : DK} : dgetD kvs k = none ↔ k ∉ kvs.map (·.1) := by
  unfold dgetD
  rw [Option.map_eq_none_iff, List.find?_eq_none]
  simp only [decide_eq_true_eq, List.mem_map, not_exists, not_and]
theorem dget_of {kvs : List (DK × D)} {k : DK} {d : D} (nd : (kvs.map (·.1)).Nodup) (h : (k, d) ∈ kvs) : dgetD kvs k = some d := by
  cases q : dgetD kvs k with
  | none => exact absurd (List.mem_map_of_mem (f := (·.1)) h) (dget_none.mp q)
  | some e =>
    have m := dget_mem q
    have : ∀ (l : List (DK × D)), (l.map (·.1)).Nodup → (k, d) ∈ l → (k, e) ∈ l → d = e := by
      intro l
      induction l with
      | nil => intro _ h _; cases h
      | cons p l ih =>
        intro nd h1 h2
        rw [List.map_cons, List.nodup_cons] at nd
        rcases List.mem_cons.mp h1 with r1 | r1 <;> rcases List.mem_cons.mp h2 with r2 | r2
        · rw [← r1] at r2; cases r2; rfl
        · exact absurd (by rw [← r1]; exact List.mem_map_of_mem (f := (·.1)) r2) nd.1
        · exact absurd (by rw [← r2]; exact List.mem_map_of_mem (f := (·.1)) r1) nd.1
        · exact ih nd.2 r1 r2
    rw [this kvs nd h m]
theorem mem_dput {kvs : List (DK × D)} {k : DK} {d : D} {p : DK × D} (h : p ∈ dputD kvs k d) : p = (k, d) ∨ (p ∈ kvs ∧ p.1 ≠ k) := by
  by_cases q : k ∈ kvs.map (·.1)
  · rw [dput_old q] at h
    obtain ⟨r, hr, rfl⟩ := List.mem_map.mp h
    by_cases e : r.1 = k
    · rw [if_pos e, e]; exact .inl rfl
    · rw [if_neg e]; exact .inr ⟨hr, e⟩
  · rw [dput_new q] at h
    rcases List.mem_append.mp h with m | m
    · exact .inr ⟨m, fun e => q (e ▸ List.mem_map_of_mem (f := (·.1)) m)⟩
    · exact .inl (List.mem_singleton.mp m)
theorem dput_len {kvs : List (DK × D)} {k : DK} {d : D} : (dputD kvs k d).length ≤ kvs.length + 1 := by
  by_cases q : k ∈ kvs.map (·.1)
  · rw [dput_old q]; simp
  · rw [dput_new q]; simp
theorem dput_mem {kvs : List (DK × D)} {k : DK} {d : D} : (k, d) ∈ dputD kvs k d := by
  by_cases q : k ∈ kvs.map (·.1)
  · rw [dput_old q]
    obtain ⟨p, hp, e⟩ := List.mem_map.mp q
    exact List.mem_map.mpr ⟨p, hp, by rw [if_pos e, e]⟩
  · rw [dput_new q]; simp
theorem dput_keep {kvs : List (DK × D)} {k : DK} {d : D} {p : DK × D} (h : p ∈ kvs) (n : p.1 ≠ k) : p ∈ dputD kvs k d := by
  by_cases q : k ∈ kvs.map (·.1)
  · rw [dput_old q]
    exact List.mem_map.mpr ⟨p, h, by rw [if_neg n]⟩
  · rw [dput_new q]; exact List.mem_append_left _ h
theorem dput_key {kvs : List (DK × D)} {k j : DK} {d : D} : j ∈ (dputD kvs k d).map (·.1) ↔ j = k ∨ j ∈ kvs.map (·.1) := by
  by_cases q : k ∈ kvs.map (·.1)
  · rw [dput_keys_old q]
    exact ⟨.inr, fun h => h.elim (fun e => e ▸ q) id⟩
  · rw [dput_keys_new q]
    simp only [List.mem_append, List.mem_singleton]
    exact ⟨fun h => h.elim .inr .inl, fun h => h.elim .inr .inl⟩
theorem dget_put {kvs : List (DK × D)} {k j : DK} {d : D} (nd : (kvs.map (·.1)).Nodup) : dgetD (dputD kvs k d) j = if j = k then some d else dgetD kvs j := by
  by_cases e : j = k
  · rw [if_pos e, e]
    exact dget_of (dput_nodup nd) dput_mem
  · rw [if_neg e]
    cases q : dgetD kvs j with
    | some x => exact dget_of (dput_nodup nd) (dput_keep (dget_mem q) e)
    | none =>
      rw [dget_none] at q ⊢
      rw [dput_key]
      exact fun h => h.elim e q
theorem cut_to {l : List D} {i : Nat} : cutD l none (some (i : Int)) = l.take i := by
  unfold cutD
  rw [HT.sIx_none, HT.sIx_nat, List.drop_zero, Nat.sub_zero]
  rcases Nat.le_total i l.length with h | h
  · rw [Nat.min_eq_left h]
  · rw [Nat.min_eq_right h, List.take_of_length_le (Nat.le_refl _), List.take_of_length_le h]
theorem cut_from {l : List D} {i : Nat} : cutD l (some (i : Int)) none = l.drop i := by
  unfold cutD
  rw [HT.sIx_none, HT.sIx_nat]
  rcases Nat.le_total i l.length with h | h
  · rw [Nat.min_eq_left h, List.take_of_length_le (by simp)]
  · rw [Nat.min_eq_right h, Nat.sub_self, List.take_zero, List.drop_of_length_le h]
end KF
set_option Elab.async false
set_option linter.all false
set_option maxRecDepth 100000
set_option maxHeartbeats 4000000
namespace KF
open PySem
end KF
set_option Elab.async false
set_option linter.all false
set_option maxRecDepth 100000
set_option maxHeartbeats 4000000
namespace KF
open PySem
/-- data that may be held against data -/
def okPy (d : PyData) : Prop := d.canLay0 = true ∧ d.depth ≤ 64
theorem okPy.sh {d : PyData} (h : okPy d) : SeqAt.shaped d = true := by
  unfold SeqAt.shaped
  rw [h.1, Bool.true_and, decide_eq_true_eq]
  exact h.2
theorem okPy.eq {d : PyData} (h : okPy d) : PyData.eqv d d = true := SeqAt.eqv_refl d h.1
theorem ne_same {S : Sto} {x y : D} {d : PyData} (hx : D.py S 65 x = some d) (hy : D.py S 65 y = some d) (h : okPy d) (nb : ∀ b, x ≠ .byt b) : opNe x y S = .ok (.bl false) S := by
  have e : opEqN true x y S = (match D.py S 65 x, D.py S 65 y with
    | some a, some b => if (SeqAt.shaped a && SeqAt.shaped b) = true then .ok (.bl (if true = true then !PyData.eqv a b else PyData.eqv a b)) S else .no
    | _, _ => .no) := by
    cases x <;> first | rfl | exact absurd rfl (nb _)
  unfold opNe
  rw [e, hx, hy]
  simp [h.sh, h.eq]
theorem okAll {xs : List PyData} {n : Nat} (h : ∀ x ∈ xs, x.canLay0 = true ∧ x.depth ≤ n) : PyData.canLayAll0 xs = true ∧ PyData.depthAll xs ≤ n := by
  induction xs with
  | nil => exact ⟨rfl, Nat.zero_le _⟩
  | cons x xs ih =>
    obtain ⟨a, b⟩ := h x (List.mem_cons_self ..)
    obtain ⟨c, d⟩ := ih fun y hy => h y (List.mem_cons_of_mem _ hy)
    refine ⟨?_, ?_⟩
    · rw [PyData.canLayAll0, a, c]; rfl
    · rw [PyData.depthAll]; omega
theorem okList {xs : List PyData} {n : Nat} (h : ∀ x ∈ xs, x.canLay0 = true ∧ x.depth ≤ n) : (PyData.list xs).canLay0 = true ∧ (PyData.list xs).depth ≤ n + 1 := by
  obtain ⟨a, b⟩ := okAll h
  exact ⟨by rw [PyData.canLay0]; exact a, by rw [PyData.depth]; omega⟩
theorem okTup {xs : List PyData} {n : Nat} (h : ∀ x ∈ xs, x.canLay0 = true ∧ x.depth ≤ n) : (PyData.tuple xs).canLay0 = true ∧ (PyData.tuple xs).depth ≤ n + 1 := by
  obtain ⟨a, b⟩ := okAll h
  exact ⟨by rw [PyData.canLay0]; exact a, by rw [PyData.depth]; omega⟩
theorem py_lst {S : Sto} {n a : Nat} {l : List D} {xs : List PyData} (h : S[a]? = some (GO.lst l)) (e : D.pys S n l = some xs) : D.py S (n + 1) (.ref a) = some (.list xs) := by
  simp [D.py, h, e]
theorem py_tup {S : Sto} {n : Nat} {l : List D} {xs : List PyData} (e : D.pys S n l = some xs) : D.py S (n + 1) (.tup l) = some (.tuple xs) := by
  simp [D.py, e]
end KF
set_option Elab.async false
set_option linter.all false
set_option maxRecDepth 100000
set_option maxHeartbeats 4000000
namespace KF
open PySem
abbrev CLS : List Str := []
noncomputable def F_is_number : Fn := fnOf 1 1 (sRet (eAnd (eB (bIsi CLS) (aCons (eVar 0) (aCons (eC (.ty "int")) aNil))) (eAnd (eNot (eB (bIsi CLS) (aCons (eVar 0) (aCons (eC (.ty "bool")) aNil)))) (eOp opGe (eVar 0) (eC (.int 0))))))
noncomputable def F_is_below : Fn := fnOf 2 2 (sRet (eAnd (eB F_is_number (aCons (eVar 1) aNil)) (eOp opLt (eVar 1) (eVar 0))))
noncomputable def F_Outgoing___init__ : Fn := fnOf 1 1 (sSeq (sFld ["Outgoing"] "let_go" (eVar 0) (eC (.int 0)))
    (sFld ["Outgoing"] "things" (eVar 0) (eLst aNil)))
noncomputable def F_Outgoing_many_put : Fn := fnOf 1 1 (sRet (eOp opAdd (eFld ["Outgoing"] "let_go" (eVar 0)) (eB bLen (aCons (eFld ["Outgoing"] "things" (eVar 0)) aNil))))
noncomputable def F_Outgoing_put : Fn := fnOf 2 2 (sSeq (sE (eBMT "list" mAppend (eFld ["Outgoing"] "things" (eVar 0)) (aCons (eVar 1) aNil)))
    (sRet (eOp opSub (eMeth "Outgoing" "many_put" F_Outgoing_many_put (eVar 0) aNil) (eC (.int 1)))))
noncomputable def F_Outgoing_known : Fn := fnOf 2 3 (sSeq (sIf (tNot (tB (eB F_is_below (aCons (eOp opAdd (eMeth "Outgoing" "many_put" F_Outgoing_many_put (eVar 0) aNil) (eC (.int 1))) (aCons (eVar 1) aNil)))))
    (sRz "NoNumber")
    sNil)
    (sSeq (sSet 2 (eB bMax2 (aCons (eC (.int 0)) (aCons (eOp opSub (eVar 1) (eFld ["Outgoing"] "let_go" (eVar 0))) aNil))))
    (sSeq (sFld ["Outgoing"] "things" (eVar 0) (eSl (eFld ["Outgoing"] "things" (eVar 0)) (oAt (eVar 2)) oNo))
    (sSeq (sAugFld ["Outgoing"] "let_go" augAdd (eVar 0) (eVar 2))
    (sRet (eVar 2))))))
noncomputable def F_Outgoing_waiting : Fn := fnOf 1 1 (sRet (eLEnum (aCons (eFld ["Outgoing"] "things" (eVar 0)) aNil) (eFld ["Outgoing"] "let_go" (eVar 0))))
noncomputable def F_outgoing_with : Fn := fnOf 2 3 (sSeq (sSet 2 (eMake "Outgoing" F_Outgoing___init__ aNil))
    (sSeq (sFld ["Outgoing"] "let_go" (eVar 2) (eVar 0))
    (sSeq (sFld ["Outgoing"] "things" (eVar 2) (eB bList (aCons (eVar 1) aNil)))
    (sRet (eVar 2)))))
noncomputable def F_Outgoing_copy : Fn := fnOf 1 1 (sRet (eB F_outgoing_with (aCons (eFld ["Outgoing"] "let_go" (eVar 0)) (aCons (eFld ["Outgoing"] "things" (eVar 0)) aNil))))
noncomputable def F_Incoming___init__ : Fn := fnOf 1 1 (sSeq (sFld ["Incoming"] "due" (eVar 0) (eC (.int 0)))
    (sFld ["Incoming"] "early" (eVar 0) (eDic0 false)))
noncomputable def F_Incoming_take : Fn := fnOf 3 4 (sSeq (sIf (tNot (tB (eB F_is_below (aCons (eC (.int 4294967296)) (aCons (eVar 1) aNil)))))
    (sRz "NoNumber")
    sNil)
    (sSeq (sIf (tAnd (tB (eChain opLe opLt (eFld ["Incoming"] "due" (eVar 0)) (eVar 1) (eOp opAdd (eFld ["Incoming"] "due" (eVar 0)) (eC (.int 1000))))) (tB (eOp (opInD true) (eVar 1) (eFld ["Incoming"] "early" (eVar 0)))))
    (sPut (eFld ["Incoming"] "early" (eVar 0)) (eVar 1) (eVar 2))
    sNil)
    (sSeq (sSet 3 (eLst aNil))
    (sSeq (sWhile (tB (eOp (opInD false) (eFld ["Incoming"] "due" (eVar 0)) (eFld ["Incoming"] "early" (eVar 0))))
    (sSeq (sE (eBMT "list" mAppend (eVar 3) (aCons (ePop1 (eFld ["Incoming"] "early" (eVar 0)) (eFld ["Incoming"] "due" (eVar 0))) aNil)))
    (sAugFld ["Incoming"] "due" augAdd (eVar 0) (eC (.int 1)))))
    (sRet (eVar 3))))))
noncomputable def F_Incoming_taken : Fn := fnOf 1 1 (sRet (eFld ["Incoming"] "due" (eVar 0)))
noncomputable def F_Incoming_held : Fn := fnOf 1 1 (sRet (eB bTuple (aCons (eB bSorted (aCons (eFld ["Incoming"] "early" (eVar 0)) aNil)) aNil)))
noncomputable def F_incoming_with : Fn := fnOf 2 3 (sSeq (sSet 2 (eMake "Incoming" F_Incoming___init__ aNil))
    (sSeq (sFld ["Incoming"] "due" (eVar 2) (eVar 0))
    (sSeq (sFld ["Incoming"] "early" (eVar 2) (eB bDict (aCons (eVar 1) aNil)))
    (sRet (eVar 2)))))
noncomputable def F_Incoming_copy : Fn := fnOf 1 1 (sRet (eB F_incoming_with (aCons (eFld ["Incoming"] "due" (eVar 0)) (aCons (eFld ["Incoming"] "early" (eVar 0)) aNil))))
noncomputable def F_law_hand : Fn := fnOf 1 1 (sRet (eLst (aCons (eB bList (aCons (eVar 0) aNil)) (aCons (eC (.int 0)) (aCons (eC (.int 0)) (aCons (eC (.int 1)) (aCons (eC (.int 0)) aNil)))))))
noncomputable def F_law_take : Fn := fnOf 2 5 (sSeq (sPut (eVar 0) (eC (.int 4)) (eOp opAdd (eOp opIx (eVar 0) (eC (.int 4))) (eC (.int 1))))
    (sSeq (sIf (tAnd (tB (eOp opEq (eOp opIx (eVar 0) (eC (.int 2))) (eC (.int 0)))) (tB (eOp opLt (eOp opIx (eVar 0) (eC (.int 1))) (eB bLen (aCons (eOp opIx (eVar 0) (eC (.int 0))) aNil)))))
    (sSeq (sSet 2 (eB bInt (aCons (eOp opIx (eOp opIx (eVar 0) (eC (.int 0))) (eOp opIx (eVar 0) (eC (.int 1)))) aNil)))
    (sSeq (sPut (eVar 0) (eC (.int 1)) (eOp opAdd (eOp opIx (eVar 0) (eC (.int 1))) (eC (.int 1))))
    (sIf (tB (eOp opGe (eVar 2) (eOp opPow (eC (.int 10)) (eC (.int 18)))))
    (sPut (eVar 0) (eC (.int 2)) (eVar 2))
    (sPut (eVar 0) (eC (.int 3)) (eOp opMod (eB bInt (aCons (eOp opAdd (eOp opAdd (eOp opMul (eOp opIx (eVar 0) (eC (.int 3))) (eC (.int 48271))) (eOp opMod (eB bInt (aCons (eVar 2) aNil)) (eC (.int 2147483647)))) (eC (.int 1))) aNil)) (eC (.int 2147483647)))))))
    sNil)
    (sSeq (sIf (tB (eOp opGt (eOp opIx (eVar 0) (eC (.int 2))) (eC (.int 0))))
    (sSeq (sSet 3 (eOp opMod (eB bInt (aCons (eOp opIx (eVar 0) (eC (.int 2))) aNil)) (eVar 1)))
    (sSeq (sPut (eVar 0) (eC (.int 2)) (eOp opDiv (eB bInt (aCons (eOp opIx (eVar 0) (eC (.int 2))) aNil)) (eVar 1)))
    (sRet (eVar 3))))
    sNil)
    (sSeq (sPut (eVar 0) (eC (.int 3)) (eOp opMod (eB bInt (aCons (eOp opAdd (eOp opMul (eOp opIx (eVar 0) (eC (.int 3))) (eC (.int 69621))) (eOp opMul (eC (.int 7919)) (eOp opIx (eVar 0) (eC (.int 4))))) aNil)) (eC (.int 2147483647))))
    (sSeq (sSet 4 (eOp opMod (eB bInt (aCons (eOp opMul (eOp opIx (eVar 0) (eC (.int 3))) (eOp opAdd (eOp opDiv (eOp opIx (eVar 0) (eC (.int 3))) (eC (.int 1009))) (eC (.int 69621)))) aNil)) (eC (.int 2147483647))))
    (sSeq (sSet 4 (eOp opMod (eB bInt (aCons (eOp opMul (eVar 4) (eOp opAdd (eOp opDiv (eVar 4) (eC (.int 2003))) (eC (.int 40692)))) aNil)) (eC (.int 2147483399))))
    (sRet (eOp opMod (eB bInt (aCons (eOp opDiv (eVar 4) (eC (.int 16))) aNil)) (eVar 1)))))))))
noncomputable def F_law_pick : Fn := fnOf 2 2 (sRet (eOp opIx (eVar 1) (eB F_law_take (aCons (eVar 0) (aCons (eB bLen (aCons (eVar 1) aNil)) aNil)))))
noncomputable def F_law_is_integer : Fn := fnOf 1 1 (sRet (eAnd (eB (bIsi CLS) (aCons (eVar 0) (aCons (eC (.ty "int")) aNil))) (eNot (eB (bIsi CLS) (aCons (eVar 0) (aCons (eC (.ty "bool")) aNil))))))
noncomputable def F_law_same : Nat → Fn
  | 0 => fun _ _ => .no
  | k + 1 => fnOf 2 4 (sSeq (sIf (tB (eUn opIsN (eVar 1)))
    (sRet (eUn opIsN (eVar 0)))
    sNil)
    (sSeq (sIf (tB (eOp opIsB (eVar 1) (eC (.bl true))))
    (sRet (eOp opIsB (eVar 0) (eC (.bl true))))
    sNil)
    (sSeq (sIf (tB (eOp opIsB (eVar 1) (eC (.bl false))))
    (sRet (eOp opIsB (eVar 0) (eC (.bl false))))
    sNil)
    (sSeq (sIf (tB (eB (bIsi CLS) (aCons (eVar 1) (aCons (eC (.ty "int")) aNil))))
    (sRet (eAnd (eB F_law_is_integer (aCons (eVar 0) aNil)) (eOp opEq (eVar 0) (eVar 1))))
    sNil)
    (sSeq (sIf (tB (eB (bIsi CLS) (aCons (eVar 1) (aCons (eC (.ty "str")) aNil))))
    (sRet (eAnd (eB (bIsi CLS) (aCons (eVar 0) (aCons (eC (.ty "str")) aNil))) (eOp opEq (eVar 0) (eVar 1))))
    sNil)
    (sSeq (sIf (tOr (tB (eOp opNe (eB (bIsi CLS) (aCons (eVar 1) (aCons (eC (.ty "tuple")) aNil))) (eB (bIsi CLS) (aCons (eVar 0) (aCons (eC (.ty "tuple")) aNil))))) (tB (eOp opNe (eB (bIsi CLS) (aCons (eVar 1) (aCons (eC (.ty "list")) aNil))) (eB (bIsi CLS) (aCons (eVar 0) (aCons (eC (.ty "list")) aNil))))))
    (sRet (eC (.bl false)))
    sNil)
    (sSeq (sIf (tB (eOp opNe (eB bLen (aCons (eVar 0) aNil)) (eB bLen (aCons (eVar 1) aNil))))
    (sRet (eC (.bl false)))
    sNil)
    (sSeq (sFor (iZip (aCons (eVar 0) (aCons (eVar 1) aNil))) (.tup [(.name 2), (.name 3)])
    (sIf (tNot (tB (eB (F_law_same k) (aCons (eVar 2) (aCons (eVar 3) aNil)))))
    (sRet (eC (.bl false)))
    sNil))
    (sRet (eC (.bl true)))))))))))
noncomputable def F_law_item : Nat → Fn
  | 0 => fun _ _ => .no
  | k + 1 => fnOf 2 4 (sSeq (sSet 2 (eB F_law_take (aCons (eVar 0) (aCons (eC (.int 8)) aNil))))
    (sSeq (sIf (tAnd (tB (eOp opEq (eVar 2) (eC (.int 0)))) (tB (eOp opGt (eVar 1) (eC (.int 0)))))
    (sRet (eB bTuple (aCons (eComp (iRng1 (aCons (eB F_law_take (aCons (eVar 0) (aCons (eC (.int 3)) aNil))) aNil)) [3] (.name 3) tYes (eB (F_law_item k) (aCons (eVar 0) (aCons (eOp opSub (eVar 1) (eC (.int 1))) aNil)))) aNil)))
    sNil)
    (sSeq (sIf (tB (eOp opLt (eVar 2) (eC (.int 3))))
    (sRet (eOp opIx (eLst (aCons (eC .non) (aCons (eC (.bl true)) (aCons (eC (.bl false)) (aCons (eC (.str "")) (aCons (eC (.str "task")) (aCons (eC (.str "answer")) aNil))))))) (eB F_law_take (aCons (eVar 0) (aCons (eC (.int 6)) aNil)))))
    sNil)
    (sRet (eB F_law_pick (aCons (eVar 0) (aCons (eLst (aCons (eB F_law_take (aCons (eVar 0) (aCons (eC (.int 9)) aNil))) (aCons (eB F_law_take (aCons (eVar 0) (aCons (eOp opPow (eC (.int 10)) (eC (.int 6))) aNil))) (aCons (eOp opSub (eUn opNeg (eC (.int 1))) (eB F_law_take (aCons (eVar 0) (aCons (eC (.int 9)) aNil)))) (aCons (eOp opPow (eC (.int 10)) (eC (.int 19))) aNil))))) aNil)))))))
noncomputable def F_law_thing : Fn := fnOf 1 2 (sRet (eB bTuple (aCons (eComp (iRng1 (aCons (eB F_law_take (aCons (eVar 0) (aCons (eC (.int 4)) aNil))) aNil)) [1] (.name 1) tYes (eB (F_law_item 24) (aCons (eVar 0) (aCons (eC (.int 3)) aNil)))) aNil)))
noncomputable def F_law_heard : Fn := fnOf 3 6 (sSeq (sIf (tAnd (tB (eOp opLe (eOp opIx (eVar 0) (eC (.str "taken"))) (eVar 1))) (tAnd (tB (eOp opLt (eVar 1) (eOp opAdd (eOp opIx (eVar 0) (eC (.str "taken"))) (eC (.int 1000))))) (tB (eOp (opInD true) (eVar 1) (eOp opIx (eVar 0) (eC (.str "held")))))))
    (sSeq (sSet 3 (eOp opIx (eVar 0) (eC (.str "held"))))
    (sPut (eVar 3) (eVar 1) (eVar 2)))
    sNil)
    (sSeq (sSet 4 (eLst aNil))
    (sSeq (sFor (iRng1 (aCons (eOp opAdd (eB bLen (aCons (eOp opIx (eVar 0) (eC (.str "held"))) aNil)) (eC (.int 1))) aNil)) (.name 5)
    (sSeq (sIf (tB (eOp (opInD true) (eOp opIx (eVar 0) (eC (.str "taken"))) (eOp opIx (eVar 0) (eC (.str "held")))))
    sBreak
    sNil)
    (sSeq (sE (eBMT "list" mAppend (eVar 4) (aCons (ePop1 (eOp opIx (eVar 0) (eC (.str "held"))) (eOp opIx (eVar 0) (eC (.str "taken")))) aNil)))
    (sPut (eVar 0) (eC (.str "taken")) (eOp opAdd (eOp opIx (eVar 0) (eC (.str "taken"))) (eC (.int 1)))))))
    (sRet (eVar 4)))))
noncomputable def F_law_ends_right : Fn := fnOf 5 7 (sSeq (sSet 5 (eComp (iRng1 (aCons (eOp opSub (eB bLen (aCons (eVar 2) aNil)) (eVar 3)) aNil)) [6] (.name 6) tYes (eTup (aCons (eOp opAdd (eVar 3) (eVar 6)) (aCons (eOp opIx (eVar 2) (eOp opAdd (eVar 3) (eVar 6))) aNil)))))
    (sSeq (sIf (tOr (tNot (tB (eB (F_law_same 24) (aCons (eMeth "Outgoing" "waiting" F_Outgoing_waiting (eVar 0) aNil) (aCons (eVar 5) aNil))))) (tNot (tB (eB (F_law_same 24) (aCons (eMeth "Outgoing" "many_put" F_Outgoing_many_put (eVar 0) aNil) (aCons (eB bLen (aCons (eVar 2) aNil)) aNil))))))
    (sRet (eC (.bl false)))
    sNil)
    (sRet (eAnd (eB (F_law_same 24) (aCons (eMeth "Incoming" "taken" F_Incoming_taken (eVar 1) aNil) (aCons (eOp opIx (eVar 4) (eC (.str "taken"))) aNil))) (eB (F_law_same 24) (aCons (eMeth "Incoming" "held" F_Incoming_held (eVar 1) aNil) (aCons (eB bTuple (aCons (eB bSorted (aCons (eKeysK (eOp opIx (eVar 4) (eC (.str "held")))) aNil)) aNil)) aNil)))))))
noncomputable def F_law_deed : Fn := fnOf 7 11 (sSeq (sSet 7 (eB F_law_take (aCons (eVar 0) (aCons (eC (.int 10)) aNil))))
    (sSeq (sIf (tAnd (tB (eOp opLt (eVar 7) (eC (.int 3)))) (tB (eOp opLt (eB bLen (aCons (eVar 3) aNil)) (eC (.int 30)))))
    (sSeq (sE (eBMT "list" mAppend (eVar 3) (aCons (eB F_law_thing (aCons (eVar 0) aNil)) aNil)))
    (sRet (eTup (aCons (eB (F_law_same 24) (aCons (eMeth "Outgoing" "put" F_Outgoing_put (eVar 1) (aCons (eOp opIx (eVar 3) (eUn opNeg (eC (.int 1)))) aNil)) (aCons (eOp opSub (eB bLen (aCons (eVar 3) aNil)) (eC (.int 1))) aNil))) (aCons (eVar 4) aNil)))))
    sNil)
    (sSeq (sIf (tAnd (tB (eOp opLt (eVar 7) (eC (.int 8)))) (tB (eOp opGt (eB bLen (aCons (eVar 3) aNil)) (eC (.int 0)))))
    (sSeq (sSet 8 (eB F_law_take (aCons (eVar 0) (aCons (eB bLen (aCons (eVar 3) aNil)) aNil))))
    (sSeq (sSet 9 (eMeth "Incoming" "take" F_Incoming_take (eVar 2) (aCons (eVar 8) (aCons (eOp opIx (eVar 3) (eVar 8)) aNil))))
    (sSeq (sSet 10 (eB F_law_heard (aCons (eVar 5) (aCons (eVar 8) (aCons (eOp opIx (eVar 3) (eVar 8)) aNil)))))
    (sSeq (sE (eBMT "list" mExtend (eVar 6) (aCons (eVar 10) aNil)))
    (sRet (eTup (aCons (eB (F_law_same 24) (aCons (eVar 9) (aCons (eVar 10) aNil))) (aCons (eVar 4) aNil))))))))
    sNil)
    (sSeq (sSet 8 (eB F_law_take (aCons (eVar 0) (aCons (eOp opAdd (eOp opIx (eVar 5) (eC (.str "taken"))) (eC (.int 1))) aNil))))
    (sSeq (sSet 10 (eB bMax2 (aCons (eC (.int 0)) (aCons (eOp opSub (eVar 8) (eVar 4)) aNil))))
    (sRet (eTup (aCons (eB (F_law_same 24) (aCons (eMeth "Outgoing" "known" F_Outgoing_known (eVar 1) (aCons (eVar 8) aNil)) (aCons (eVar 10) aNil))) (aCons (eB bMax2 (aCons (eVar 4) (aCons (eVar 8) aNil))) aNil)))))))))
noncomputable def F_law_drained : Fn := fnOf 3 6 (sSeq (sFor (iRng1 (aCons (eOp opAdd (eVar 2) (eC (.int 1))) aNil)) (.name 3)
    (sSeq (sIf (tB (eOp opEq (eB bLen (aCons (eMeth "Outgoing" "waiting" F_Outgoing_waiting (eVar 0) aNil) aNil)) (eC (.int 0))))
    (sRet (eC (.bl true)))
    sNil)
    (sSeq (sAsg (eOp opIx (eMeth "Outgoing" "waiting" F_Outgoing_waiting (eVar 0) aNil) (eC (.int 0))) (.tup [(.name 4), (.name 5)]))
    (sSeq (sE (eMeth "Incoming" "take" F_Incoming_take (eVar 1) (aCons (eVar 4) (aCons (eVar 5) aNil))))
    (sE (eMeth "Outgoing" "known" F_Outgoing_known (eVar 0) (aCons (eMeth "Incoming" "taken" F_Incoming_taken (eVar 1) aNil) aNil)))))))
    (sRet (eC (.bl false))))
noncomputable def F_law : Fn := fnOf 1 13 (sSeq (sSet 1 (eB F_law_hand (aCons (eVar 0) aNil)))
    (sSeq (sSet 2 (eMake "Outgoing" F_Outgoing___init__ aNil))
    (sSeq (sSet 3 (eMake "Incoming" F_Incoming___init__ aNil))
    (sSeq (sSet 4 (eLst aNil))
    (sSeq (sSet 5 (eLst aNil))
    (sSeq (sSet 6 (eDispA (kCons (eC (.str "taken")) (eC (.int 0)) (kCons (eC (.str "held")) (eDic0 false) kNil))))
    (sSeq (sSet 7 (eC (.int 0)))
    (sSeq (sSet 8 (eC .non))
    (sSeq (sFor (iRng1 (aCons (eB F_law_pick (aCons (eVar 1) (aCons (eLst (aCons (eC (.int 5)) (aCons (eC (.int 20)) (aCons (eC (.int 60)) aNil)))) aNil))) aNil)) (.name 9)
    (sSeq (sAsg (eB F_law_deed (aCons (eVar 1) (aCons (eVar 2) (aCons (eVar 3) (aCons (eVar 4) (aCons (eVar 7) (aCons (eVar 6) (aCons (eVar 5) aNil)))))))) (.tup [(.name 10), (.name 7)]))
    (sSeq (sIf (tOr (tNot (tB (eVar 10))) (tNot (tB (eB F_law_ends_right (aCons (eVar 2) (aCons (eVar 3) (aCons (eVar 4) (aCons (eVar 7) (aCons (eVar 6) aNil)))))))))
    (sRet (eC (.bl false)))
    sNil)
    (sSeq (sIf (tOr (tB (eOp opNe (eVar 5) (eSl (eVar 4) oNo (oAt (eB bLen (aCons (eVar 5) aNil)))))) (tB (eOp opNe (eB bLen (aCons (eVar 5) aNil)) (eOp opIx (eVar 6) (eC (.str "taken"))))))
    (sRet (eC (.bl false)))
    sNil)
    (sIf (tB (eOp opEq (eB F_law_take (aCons (eVar 1) (aCons (eC (.int 9)) aNil))) (eC (.int 0))))
    (sSeq (sSet 8 (eTup (aCons (eAlt (eMeth "Outgoing" "copy" F_Outgoing_copy (eVar 2) aNil) (eMeth "Incoming" "copy" F_Incoming_copy (eVar 2) aNil)) (aCons (eAlt (eMeth "Outgoing" "copy" F_Outgoing_copy (eVar 3) aNil) (eMeth "Incoming" "copy" F_Incoming_copy (eVar 3) aNil)) (aCons (eB bList (aCons (eVar 4) aNil)) (aCons (eVar 7) (aCons (eDispA (kCons (eC (.str "taken")) (eOp opIx (eVar 6) (eC (.str "taken"))) (kCons (eC (.str "held")) (eB bDict (aCons (eOp opIx (eVar 6) (eC (.str "held"))) aNil)) kNil))) aNil)))))))
    (sSeq (sSet 11 (eOp opAdd (eOp opAdd (eMeth "Incoming" "taken" F_Incoming_taken (eVar 3) aNil) (eC (.int 1000))) (eB F_law_take (aCons (eVar 1) (aCons (eC (.int 5)) aNil)))))
    (sIf (tOr (tB (eOp opNe (eMeth "Incoming" "take" F_Incoming_take (eVar 3) (aCons (eVar 11) (aCons (eTup (aCons (eC (.str "far")) aNil)) aNil))) (eLst aNil))) (tB (eOp opNe (eMeth "Incoming" "held" F_Incoming_held (eVar 3) aNil) (eB bTuple (aCons (eB bSorted (aCons (eKeysK (eOp opIx (eVar 6) (eC (.str "held")))) aNil)) aNil)))))
    (sRet (eC (.bl false)))
    sNil)))
    sNil)))))
    (sSeq (sIf (tOr (tNot (tB (eB F_law_drained (aCons (eVar 2) (aCons (eVar 3) (aCons (eB bLen (aCons (eVar 4) aNil)) aNil)))))) (tOr (tB (eOp opNe (eMeth "Incoming" "taken" F_Incoming_taken (eVar 3) aNil) (eB bLen (aCons (eVar 4) aNil)))) (tB (eOp opNe (eMeth "Incoming" "held" F_Incoming_held (eVar 3) aNil) (eTup aNil)))))
    (sRet (eC (.bl false)))
    sNil)
    (sSeq (sIf (tB (eUn opNotN (eVar 8)))
    (sIf (tOr (tNot (tB (eB F_law_ends_right (aCons (eOp opIx (eVar 8) (eC (.int 0))) (aCons (eOp opIx (eVar 8) (eC (.int 1))) (aCons (eOp opIx (eVar 8) (eC (.int 2))) (aCons (eOp opIx (eVar 8) (eC (.int 3))) (aCons (eOp opIx (eVar 8) (eC (.int 4))) aNil)))))))) (tNot (tB (eB F_law_drained (aCons (eOp opIx (eVar 8) (eC (.int 0))) (aCons (eOp opIx (eVar 8) (eC (.int 1))) (aCons (eB bLen (aCons (eOp opIx (eVar 8) (eC (.int 2))) aNil)) aNil)))))))
    (sRet (eC (.bl false)))
    sNil)
    sNil)
    (sSeq (sSet 12 (eMeth "Outgoing" "waiting" F_Outgoing_waiting (eVar 2) aNil))
    (sSeq (sE (eBMT "list" mAppend (eVar 12) (aCons (eTup (aCons (eC (.int 0)) (aCons (eTup aNil) aNil))) aNil)))
    (sRet (eAnd (eOp opEq (eMeth "Outgoing" "waiting" F_Outgoing_waiting (eVar 2) aNil) (eLst aNil)) (eB (F_law_same 24) (aCons (eMeth "Outgoing" "known" F_Outgoing_known (eVar 2) (aCons (eC (.int 0)) aNil)) (aCons (eC (.int 0)) aNil))))))))))))))))))
end KF
set_option Elab.async false
set_option linter.all false
set_option maxRecDepth 100000
set_option maxHeartbeats 4000000
namespace KF
open PySem
theorem is_number_ok {S : Sto} {d : D} (h : Kn CLS S d) : F_is_number [d] S = .ok (.bl (isNum d)) S := by
  unfold F_is_number
  simp only [fnOf_ev, List.length_cons, List.length_nil, Nat.zero_add, Nat.reduceAdd, Nat.reduceSub, List.map_cons, List.map_nil, List.cons_append, List.nil_append, List.append_nil, List.replicate_zero, List.replicate_succ, sSeq_ev, seq_nx, seq_rt, seq_bk, seq_ct, seq_ex, seq_no, eVar_z, eVar_s, eC_ev, aNil_ev, aCons_ev, consK_ev, consK2_ev, eOp_ev, opK_ev, eUn_ev, eTup_ev, eLst_ev, tupK_ev, lstK_ev, eB_ev, eIf_ev, iteK_ev, eAnd_ev, eOr_ev, andR_bl, orR_bl, eNot_ev, notR_bl, asB_bl, tB_ev, tAnd_ev, tAndK_ev, tOr_ev, tOrK_ev, tNot_ev, tNotK_ev, tYes_ev, eChain_ev, chainK_ev, chainK1_ev, chainK2_ev, chainK3_ev, eFld_ev, eSl_ev, slK_ev, slK1_ev, oNo_ev, oAt_ev, atR_int, sNil_ev, sSet_ev, setK_ev, sE_ev, dropK_ev, sRet_ev, retK_ev, sRetN_ev, sIf_ev, sIfK_ev, sRz_ev, sRx_ev, rxK_ev, sPut_ev, putK0_ev, putK1_ev, putK2_ev, putK3_ev, sAsg_ev, List.set_cons_zero, List.set_cons_succ, bindOk, bindEx, bindNo, toOk, toEx, toNo, if_true, if_false, ite_true, ite_false, Bool.false_eq_true, Bool.true_eq_false, eq_self, decide_true, decide_false, Bool.not_true, Bool.not_false, reduceIte, reduceCtorEq, add_int, sub_int, neg_int, lt_int, le_int, gt_int, ge_int, eq_int, ne_int, isN_ev, notN_ev, len_tup, int_int, int_bl, max2_ev, Nat.le_refl, gc_rt_same, gc_nx_same, gc_ex_same, line_small, Nat.reduceLeDiff, Nat.zero_le, isi_int h, isi_bool h]
  cases d <;> simp [isIntD, isBlD, isNum, gc_rt_same, andR_bl, ge_int, retK]
def isBelow (b : Int) (d : D) : Bool := isNum d && (match d with | .int i => decide (i < b) | _ => false)
theorem is_below_ok {S : Sto} {d : D} {b : Int} (h : Kn CLS S d) : F_is_below [.int b, d] S = .ok (.bl (isBelow b d)) S := by
  unfold F_is_below isBelow
  simp only [fnOf_ev, List.length_cons, List.length_nil, Nat.zero_add, Nat.reduceAdd, Nat.reduceSub, List.map_cons, List.map_nil, List.cons_append, List.nil_append, List.append_nil, List.replicate_zero, List.replicate_succ, sSeq_ev, seq_nx, seq_rt, seq_bk, seq_ct, seq_ex, seq_no, eVar_z, eVar_s, eC_ev, aNil_ev, aCons_ev, consK_ev, consK2_ev, eOp_ev, opK_ev, eUn_ev, eTup_ev, eLst_ev, tupK_ev, lstK_ev, eB_ev, eIf_ev, iteK_ev, eAnd_ev, eOr_ev, andR_bl, orR_bl, eNot_ev, notR_bl, asB_bl, tB_ev, tAnd_ev, tAndK_ev, tOr_ev, tOrK_ev, tNot_ev, tNotK_ev, tYes_ev, eChain_ev, chainK_ev, chainK1_ev, chainK2_ev, chainK3_ev, eFld_ev, eSl_ev, slK_ev, slK1_ev, oNo_ev, oAt_ev, atR_int, sNil_ev, sSet_ev, setK_ev, sE_ev, dropK_ev, sRet_ev, retK_ev, sRetN_ev, sIf_ev, sIfK_ev, sRz_ev, sRx_ev, rxK_ev, sPut_ev, putK0_ev, putK1_ev, putK2_ev, putK3_ev, sAsg_ev, List.set_cons_zero, List.set_cons_succ, bindOk, bindEx, bindNo, toOk, toEx, toNo, if_true, if_false, ite_true, ite_false, Bool.false_eq_true, Bool.true_eq_false, eq_self, decide_true, decide_false, Bool.not_true, Bool.not_false, reduceIte, reduceCtorEq, add_int, sub_int, neg_int, lt_int, le_int, gt_int, ge_int, eq_int, ne_int, isN_ev, notN_ev, len_tup, int_int, int_bl, max2_ev, Nat.le_refl, gc_rt_same, gc_nx_same, gc_ex_same, line_small, Nat.reduceLeDiff, Nat.zero_le, is_number_ok h]
  cases d <;> simp [isNum, gc_rt_same, lt_int, retK]
  rename_i i
  by_cases q : 0 ≤ i <;> simp [q, gc_rt_same, retK]
theorem below_iff {b : Int} {d : D} : isBelow b d = true ↔ ∃ i, d = .int i ∧ 0 ≤ i ∧ i < b := by
  unfold isBelow isNum
  cases d <;> simp
theorem at0 {α : Type} {x : α} {l : List α} : L2.atI (x :: l) 0 = some x := atI_nat' (k := 0) (by simp)
theorem at1 {α : Type} {x y : α} {l : List α} : L2.atI (x :: y :: l) 1 = some y := atI_nat' (k := 1) (by simp)
theorem at2 {α : Type} {x y z : α} {l : List α} : L2.atI (x :: y :: z :: l) 2 = some z := atI_nat' (k := 2) (by simp)
end KF
set_option Elab.async false
set_option linter.all false
set_option maxRecDepth 100000
set_option maxHeartbeats 4000000
namespace KF
open PySem
end KF
set_option Elab.async false
set_option linter.all false
set_option maxRecDepth 100000
set_option maxHeartbeats 4000000
namespace KF
open PySem
end KF
set_option Elab.async false
set_option linter.all false
set_option maxRecDepth 100000
set_option maxHeartbeats 4000000
namespace KF
open PySem
theorem law_is_integer_ok {S : Sto} {d : D} (h : Kn CLS S d) : F_law_is_integer [d] S = .ok (.bl (isIntD d)) S := by
  unfold F_law_is_integer
  simp only [fnOf_ev, List.length_cons, List.length_nil, Nat.zero_add, Nat.reduceAdd, Nat.reduceSub, List.map_cons, List.map_nil, List.cons_append, List.nil_append, List.append_nil, List.replicate_zero, List.replicate_succ, sSeq_ev, seq_nx, seq_rt, seq_bk, seq_ct, seq_ex, seq_no, eVar_z, eVar_s, eC_ev, aNil_ev, aCons_ev, consK_ev, consK2_ev, eOp_ev, opK_ev, eUn_ev, eTup_ev, eLst_ev, tupK_ev, lstK_ev, eB_ev, eIf_ev, iteK_ev, eAnd_ev, eOr_ev, andR_bl, orR_bl, eNot_ev, notR_bl, asB_bl, tB_ev, tAnd_ev, tAndK_ev, tOr_ev, tOrK_ev, tNot_ev, tNotK_ev, tYes_ev, eChain_ev, chainK_ev, chainK1_ev, chainK2_ev, chainK3_ev, eFld_ev, eSl_ev, slK_ev, slK1_ev, oNo_ev, oAt_ev, atR_int, sNil_ev, sSet_ev, setK_ev, sE_ev, dropK_ev, sRet_ev, retK_ev, sRetN_ev, sIf_ev, sIfK_ev, sRz_ev, sRx_ev, rxK_ev, sPut_ev, putK0_ev, putK1_ev, putK2_ev, putK3_ev, sAsg_ev, List.set_cons_zero, List.set_cons_succ, bindOk, bindEx, bindNo, toOk, toEx, toNo, if_true, if_false, ite_true, ite_false, Bool.false_eq_true, Bool.true_eq_false, eq_self, decide_true, decide_false, Bool.not_true, Bool.not_false, reduceIte, reduceCtorEq, add_int, sub_int, neg_int, lt_int, le_int, gt_int, ge_int, eq_int, ne_int, isN_ev, notN_ev, len_tup, int_int, int_bl, max2_ev, Nat.le_refl, gc_rt_same, gc_nx_same, gc_ex_same, line_small, Nat.reduceLeDiff, Nat.zero_le, isi_int h, isi_bool h]
  cases d <;> simp [isIntD, isBlD, gc_rt_same, andR_bl, retK]
end KF
set_option Elab.async false
set_option linter.all false
set_option maxRecDepth 100000
set_option maxHeartbeats 4000000
namespace KF
open PySem
end KF
set_option Elab.async false
set_option linter.all false
set_option maxRecDepth 100000
set_option maxHeartbeats 4000000
namespace KF
open PySem
def insPut (cs : List Str) (f : Str) (δ : Env) (d : D) (i : Nat) (S : Sto) : Option GO → RS
  | some (.ins C fs) => if C ∈ cs ∧ fs.length < 1000 then .nx δ (S.set i (.ins C (putFD f d fs))) else .no
  | _ => .no
def fldK2 (cs : List Str) (f : Str) (δ : Env) (d x : D) (S : Sto) : RS := match x with
  | .ref i => insPut cs f δ d i S S[i]?
  | _ => .no
def fldK1 (cs : List Str) (f : Str) (a : FE) (δ : Env) (d : D) (S : Sto) : RS := R.to δ (a δ S) (fldK2 cs f δ d)
section
variable {cs : List Str} {f C : Str} {δ : Env} {S : Sto} {d : D} {i : Nat} {fs : List (Str × D)}
theorem sFld_ev (a v : FE) : sFld cs f a v δ S = R.to δ (v δ S) (fldK1 cs f a δ) := by
  unfold sFld
  congr 1
theorem fldK1_ev (a : FE) : fldK1 cs f a δ d S = R.to δ (a δ S) (fldK2 cs f δ d) := id rfl
theorem fldK2_ref : fldK2 cs f δ d (.ref i) S = insPut cs f δ d i S S[i]? := id rfl
theorem insPut_ins (h : C ∈ cs ∧ fs.length < 1000) : insPut cs f δ d i S (some (.ins C fs)) = .nx δ (S.set i (.ins C (putFD f d fs))) := if_pos h
end
def makeK2 (i : Nat) (v : D) (S : Sto) : R D := match v with
  | .non => .ok (.ref i) S
  | _ => .no
def makeK (C : Str) (fn : Fn) (ds : List D) (S : Sto) : R D := (fn (.ref S.length :: ds) (S ++ [.ins C []])).bind (makeK2 S.length)
theorem eMake_ev (C : Str) (fn : Fn) (t : FA) (δ : Env) (S : Sto) : eMake C fn t δ S = (t δ S).bind (makeK C fn) := id rfl
theorem makeK_ev (C : Str) (fn : Fn) (ds : List D) (S : Sto) : makeK C fn ds S = (fn (.ref S.length :: ds) (S ++ [.ins C []])).bind (makeK2 S.length) := id rfl
theorem makeK2_non (i : Nat) (S : Sto) : makeK2 i .non S = .ok (.ref i) S := id rfl
end KF
set_option Elab.async false
set_option linter.all false
set_option maxRecDepth 100000
set_option maxHeartbeats 4000000
namespace KF
open PySem
theorem isi_list {cs : List Str} {S : Sto} {d : D} (h : plain d = true) : bIsi cs [d, .ty "list"] S = .ok (.bl false) S := by
  unfold bIsi
  dsimp only
  rw [if_pos (by decide)]
  cases d with
  | non | bl | int | str | tup => rfl
  | _ => cases h
theorem isB_evI {x : D} {b : Bool} {S : Sto} : opIsB x (.bl b) S = .ok (.bl (isBl b x)) S := id rfl
/-- the drawn items: nested tuples of small things -/
def PlD : Nat → D → Prop
  | _, .non => True
  | _, .bl _ => True
  | _, .int _ => True
  | _, .str x => x ∈ (["", "task", "answer", "far"] : List Str)
  | n + 1, .tup l => l.length ≤ 1000 ∧ ∀ x ∈ l, PlD n x
  | _, _ => False
theorem PlD.plain : ∀ {n : Nat} {d : D}, PlD n d → plain d = true
  | _, .non, _ => rfl
  | _, .bl _, _ => rfl
  | _, .int _, _ => rfl
  | _, .str _, _ => rfl
  | n + 1, .tup l, h => by
    unfold KF.plain
    rw [plains_of fun x m => (h.2 x m).plain, Bool.and_true]
    exact decide_eq_true (Nat.le_trans h.1 (by decide))
  | 0, .tup l, h => by simp [PlD] at h
  | n, .byt _, h => by cases n <;> exact h.elim
  | n, .ty _, h => by cases n <;> exact h.elim
  | n, .cls _, h => by cases n <;> exact h.elim
  | n, .ref _, h => by cases n <;> exact h.elim
  | n, .scr _, h => by cases n <;> exact h.elim
theorem PlD.up : ∀ {n : Nat} {d : D}, PlD n d → PlD (n + 1) d
  | _, .non, _ => trivial
  | _, .bl _, _ => trivial
  | _, .int _, _ => trivial
  | _, .str _, h => by simpa [PlD] using h
  | n + 1, .tup l, h => ⟨h.1, fun x m => (h.2 x m).up⟩
  | 0, .tup l, h => by simp [PlD] at h
  | n, .byt _, h => by cases n <;> exact h.elim
  | n, .ty _, h => by cases n <;> exact h.elim
  | n, .cls _, h => by cases n <;> exact h.elim
  | n, .ref _, h => by cases n <;> exact h.elim
  | n, .scr _, h => by cases n <;> exact h.elim
theorem eq_wordsI {S : Sto} {a : Str} (ha : a ∈ (["", "task", "answer", "far"] : List Str)) : opEq (.str a) (.str a) S = .ok (.bl true) S := by
  simp only [List.mem_cons, List.not_mem_nil, or_false] at ha
  have key : ∀ x : Str, SeqAt.shaped (.str x) = true → PyData.eqv (.str x) (.str x) = true → opEq (.str x) (.str x) S = .ok (.bl true) S := fun x h1 h2 => by
    simp [opEq, opEqN, D.py, h1, h2]
  rcases ha with rfl | rfl | rfl | rfl <;> exact key _ (by decide +kernel) (by decide +kernel)
theorem ne_bls {S : Sto} {a : Bool} : opNe (.bl a) (.bl a) S = .ok (.bl false) S := by
  have h1 : SeqAt.shaped (.bool a) = true := by cases a <;> decide +kernel
  have h2 : PyData.eqv (.bool a) (.bool a) = true := by cases a <;> decide +kernel
  simp [opNe, opEqN, D.py, h1, h2]
theorem bFT : (false == true) = false := rfl
theorem bTT : (true == true) = true := rfl
theorem bFF : (false == false) = true := rfl
theorem bTF : (true == false) = false := rfl
theorem zip_tup {t : FA} {δ : Env} {S1 : Sto} {xs ys : List D} (h : t δ S1 = .ok [.tup xs, .tup ys] S1) : iZip t δ S1 = .ok ⟨(xs.zip ys).map fun p => pairD p.1 p.2, []⟩ S1 := by
  unfold iZip
  rw [h, bind_ok]
  rfl
theorem zip_self {l : List D} : (l.zip l).map (fun p => pairD p.1 p.2) = l.map fun x => D.tup [x, x] := by
  induction l with
  | nil => rfl
  | cons x l ih =>
    rw [List.zip_cons_cons, List.map_cons, List.map_cons, ih]
    rfl
/-- the walk of two equal sequences -/
theorem same_loop {S : Sto} {k : Nat} {lv : List (Nat × List D)} (hl : liveOk lv S) {a b : D} : ∀ (l : List D) (u v : Option D), (∀ x ∈ l, F_law_same k [x, x] S = .ok (.bl true) S) →
    ∃ u' v', loopF lv (.tup [.name 2, .name 3]) (sIf (tNot (tB (eB (F_law_same k) (aCons (eVar 2) (aCons (eVar 3) aNil))))) (sRet (eC (.bl false))) sNil) (l.map fun x => D.tup [x, x]) [some a, some b, u, v] S = .nx [some a, some b, u', v'] S := by
  intro l u v h
  have q := loop_inv (lv := lv) (t := .tup [.name 2, .name 3]) (b := sIf (tNot (tB (eB (F_law_same k) (aCons (eVar 2) (aCons (eVar 3) aNil))))) (sRet (eC (.bl false))) sNil)
    (fun xs δ S' => ((∃ u' v', δ = [some a, some b, u', v']) ∧ S' = S) ∧ ∃ l, xs = l.map (fun x => D.tup [x, x]) ∧ ∀ x ∈ l, F_law_same k [x, x] S = .ok (.bl true) S)
    (xs := l.map fun x => D.tup [x, x]) (δ := [some a, some b, u, v]) (S := S) ⟨⟨⟨u, v, rfl⟩, rfl⟩, l, rfl, h⟩
    (fun x xs δ S' i => by
      obtain ⟨⟨⟨u', v', rfl⟩, rfl⟩, l, el, hs⟩ := i
      match l, el with
      | y :: l, el =>
        injection el with e1 e2
        subst e1 e2
        refine ⟨hl, _, asg_two, [some a, some b, some y, some y], _, by simp only [fnOf_ev, List.length_cons, List.length_nil, Nat.zero_add, Nat.reduceAdd, Nat.reduceSub, List.map_cons, List.map_nil, List.cons_append, List.nil_append, List.append_nil, List.replicate_zero, List.replicate_succ, sSeq_ev, seq_nx, seq_rt, seq_bk, seq_ct, seq_ex, seq_no, eVar_z, eVar_s, eC_ev, aNil_ev, aCons_ev, consK_ev, consK2_ev, eOp_ev, opK_ev, eUn_ev, eTup_ev, eLst_ev, tupK_ev, lstK_ev, eB_ev, eIf_ev, iteK_ev, eAnd_ev, eOr_ev, andR_bl, orR_bl, eNot_ev, notR_bl, asB_bl, tB_ev, tAnd_ev, tAndK_ev, tOr_ev, tOrK_ev, tNot_ev, tNotK_ev, tYes_ev, eChain_ev, chainK_ev, chainK1_ev, chainK2_ev, chainK3_ev, eFld_ev, eSl_ev, slK_ev, slK1_ev, oNo_ev, oAt_ev, atR_int, sNil_ev, sSet_ev, setK_ev, sE_ev, dropK_ev, sRet_ev, retK_ev, sRetN_ev, sIf_ev, sIfK_ev, sRz_ev, sRx_ev, rxK_ev, sPut_ev, putK0_ev, putK1_ev, putK2_ev, putK3_ev, sAsg_ev, List.set_cons_zero, List.set_cons_succ, bindOk, bindEx, bindNo, toOk, toEx, toNo, if_true, if_false, ite_true, ite_false, Bool.false_eq_true, Bool.true_eq_false, eq_self, decide_true, decide_false, Bool.not_true, Bool.not_false, reduceIte, reduceCtorEq, add_int, sub_int, neg_int, lt_int, le_int, gt_int, ge_int, eq_int, ne_int, isN_ev, notN_ev, len_tup, int_int, int_bl, max2_ev, Nat.le_refl, gc_rt_same, gc_nx_same, gc_ex_same, line_small, Nat.reduceLeDiff, Nat.zero_le, hs y (List.mem_cons_self ..)], ⟨⟨_, _, rfl⟩, rfl⟩, l, rfl, fun z m => hs z (List.mem_cons_of_mem _ m)⟩)
    (fun δ S' i => by
      obtain ⟨⟨_, rfl⟩, _⟩ := i
      exact hl)
  obtain ⟨δ', S', e, ⟨⟨u', v', rfl⟩, rfl⟩, _⟩ := q
  exact ⟨u', v', e⟩
theorem same_pl {S : Sto} : ∀ (k : Nat) (d : D), PlD k d → F_law_same (k + 1) [d, d] S = .ok (.bl true) S := by
  intro k
  induction k with
  | zero =>
    intro d h
    cases d with
    | non => unfold F_law_same; simp only [fnOf_ev, List.length_cons, List.length_nil, Nat.zero_add, Nat.reduceAdd, Nat.reduceSub, List.map_cons, List.map_nil, List.cons_append, List.nil_append, List.append_nil, List.replicate_zero, List.replicate_succ, sSeq_ev, seq_nx, seq_rt, seq_bk, seq_ct, seq_ex, seq_no, eVar_z, eVar_s, eC_ev, aNil_ev, aCons_ev, consK_ev, consK2_ev, eOp_ev, opK_ev, eUn_ev, eTup_ev, eLst_ev, tupK_ev, lstK_ev, eB_ev, eIf_ev, iteK_ev, eAnd_ev, eOr_ev, andR_bl, orR_bl, eNot_ev, notR_bl, asB_bl, tB_ev, tAnd_ev, tAndK_ev, tOr_ev, tOrK_ev, tNot_ev, tNotK_ev, tYes_ev, eChain_ev, chainK_ev, chainK1_ev, chainK2_ev, chainK3_ev, eFld_ev, eSl_ev, slK_ev, slK1_ev, oNo_ev, oAt_ev, atR_int, sNil_ev, sSet_ev, setK_ev, sE_ev, dropK_ev, sRet_ev, retK_ev, sRetN_ev, sIf_ev, sIfK_ev, sRz_ev, sRx_ev, rxK_ev, sPut_ev, putK0_ev, putK1_ev, putK2_ev, putK3_ev, sAsg_ev, List.set_cons_zero, List.set_cons_succ, bindOk, bindEx, bindNo, toOk, toEx, toNo, if_true, if_false, ite_true, ite_false, Bool.false_eq_true, Bool.true_eq_false, eq_self, decide_true, decide_false, Bool.not_true, Bool.not_false, reduceIte, reduceCtorEq, add_int, sub_int, neg_int, lt_int, le_int, gt_int, ge_int, eq_int, ne_int, isN_ev, notN_ev, len_tup, int_int, int_bl, max2_ev, Nat.le_refl, gc_rt_same, gc_nx_same, gc_ex_same, line_small, Nat.reduceLeDiff, Nat.zero_le, show isNone .non = true from rfl]
    | bl b => unfold F_law_same; cases b <;> simp only [fnOf_ev, List.length_cons, List.length_nil, Nat.zero_add, Nat.reduceAdd, Nat.reduceSub, List.map_cons, List.map_nil, List.cons_append, List.nil_append, List.append_nil, List.replicate_zero, List.replicate_succ, sSeq_ev, seq_nx, seq_rt, seq_bk, seq_ct, seq_ex, seq_no, eVar_z, eVar_s, eC_ev, aNil_ev, aCons_ev, consK_ev, consK2_ev, eOp_ev, opK_ev, eUn_ev, eTup_ev, eLst_ev, tupK_ev, lstK_ev, eB_ev, eIf_ev, iteK_ev, eAnd_ev, eOr_ev, andR_bl, orR_bl, eNot_ev, notR_bl, asB_bl, tB_ev, tAnd_ev, tAndK_ev, tOr_ev, tOrK_ev, tNot_ev, tNotK_ev, tYes_ev, eChain_ev, chainK_ev, chainK1_ev, chainK2_ev, chainK3_ev, eFld_ev, eSl_ev, slK_ev, slK1_ev, oNo_ev, oAt_ev, atR_int, sNil_ev, sSet_ev, setK_ev, sE_ev, dropK_ev, sRet_ev, retK_ev, sRetN_ev, sIf_ev, sIfK_ev, sRz_ev, sRx_ev, rxK_ev, sPut_ev, putK0_ev, putK1_ev, putK2_ev, putK3_ev, sAsg_ev, List.set_cons_zero, List.set_cons_succ, bindOk, bindEx, bindNo, toOk, toEx, toNo, if_true, if_false, ite_true, ite_false, Bool.false_eq_true, Bool.true_eq_false, eq_self, decide_true, decide_false, Bool.not_true, Bool.not_false, reduceIte, reduceCtorEq, add_int, sub_int, neg_int, lt_int, le_int, gt_int, ge_int, eq_int, ne_int, isN_ev, notN_ev, len_tup, int_int, int_bl, max2_ev, Nat.le_refl, gc_rt_same, gc_nx_same, gc_ex_same, line_small, Nat.reduceLeDiff, Nat.zero_le, isB_evI, isNone, isBl, bFT, bTT, bFF, bTF]
    | int i => unfold F_law_same; simp only [fnOf_ev, List.length_cons, List.length_nil, Nat.zero_add, Nat.reduceAdd, Nat.reduceSub, List.map_cons, List.map_nil, List.cons_append, List.nil_append, List.append_nil, List.replicate_zero, List.replicate_succ, sSeq_ev, seq_nx, seq_rt, seq_bk, seq_ct, seq_ex, seq_no, eVar_z, eVar_s, eC_ev, aNil_ev, aCons_ev, consK_ev, consK2_ev, eOp_ev, opK_ev, eUn_ev, eTup_ev, eLst_ev, tupK_ev, lstK_ev, eB_ev, eIf_ev, iteK_ev, eAnd_ev, eOr_ev, andR_bl, orR_bl, eNot_ev, notR_bl, asB_bl, tB_ev, tAnd_ev, tAndK_ev, tOr_ev, tOrK_ev, tNot_ev, tNotK_ev, tYes_ev, eChain_ev, chainK_ev, chainK1_ev, chainK2_ev, chainK3_ev, eFld_ev, eSl_ev, slK_ev, slK1_ev, oNo_ev, oAt_ev, atR_int, sNil_ev, sSet_ev, setK_ev, sE_ev, dropK_ev, sRet_ev, retK_ev, sRetN_ev, sIf_ev, sIfK_ev, sRz_ev, sRx_ev, rxK_ev, sPut_ev, putK0_ev, putK1_ev, putK2_ev, putK3_ev, sAsg_ev, List.set_cons_zero, List.set_cons_succ, bindOk, bindEx, bindNo, toOk, toEx, toNo, if_true, if_false, ite_true, ite_false, Bool.false_eq_true, Bool.true_eq_false, eq_self, decide_true, decide_false, Bool.not_true, Bool.not_false, reduceIte, reduceCtorEq, add_int, sub_int, neg_int, lt_int, le_int, gt_int, ge_int, eq_int, ne_int, isN_ev, notN_ev, len_tup, int_int, int_bl, max2_ev, Nat.le_refl, gc_rt_same, gc_nx_same, gc_ex_same, line_small, Nat.reduceLeDiff, Nat.zero_le, isB_evI, isNone, isBl, isi_int (cs := CLS) (S := S) (kn_int (i := i)), isIntD, isBlD, Bool.or_false, law_is_integer_ok (S := S) (d := .int i) kn_int]
    | str x => unfold F_law_same; simp only [fnOf_ev, List.length_cons, List.length_nil, Nat.zero_add, Nat.reduceAdd, Nat.reduceSub, List.map_cons, List.map_nil, List.cons_append, List.nil_append, List.append_nil, List.replicate_zero, List.replicate_succ, sSeq_ev, seq_nx, seq_rt, seq_bk, seq_ct, seq_ex, seq_no, eVar_z, eVar_s, eC_ev, aNil_ev, aCons_ev, consK_ev, consK2_ev, eOp_ev, opK_ev, eUn_ev, eTup_ev, eLst_ev, tupK_ev, lstK_ev, eB_ev, eIf_ev, iteK_ev, eAnd_ev, eOr_ev, andR_bl, orR_bl, eNot_ev, notR_bl, asB_bl, tB_ev, tAnd_ev, tAndK_ev, tOr_ev, tOrK_ev, tNot_ev, tNotK_ev, tYes_ev, eChain_ev, chainK_ev, chainK1_ev, chainK2_ev, chainK3_ev, eFld_ev, eSl_ev, slK_ev, slK1_ev, oNo_ev, oAt_ev, atR_int, sNil_ev, sSet_ev, setK_ev, sE_ev, dropK_ev, sRet_ev, retK_ev, sRetN_ev, sIf_ev, sIfK_ev, sRz_ev, sRx_ev, rxK_ev, sPut_ev, putK0_ev, putK1_ev, putK2_ev, putK3_ev, sAsg_ev, List.set_cons_zero, List.set_cons_succ, bindOk, bindEx, bindNo, toOk, toEx, toNo, if_true, if_false, ite_true, ite_false, Bool.false_eq_true, Bool.true_eq_false, eq_self, decide_true, decide_false, Bool.not_true, Bool.not_false, reduceIte, reduceCtorEq, add_int, sub_int, neg_int, lt_int, le_int, gt_int, ge_int, eq_int, ne_int, isN_ev, notN_ev, len_tup, int_int, int_bl, max2_ev, Nat.le_refl, gc_rt_same, gc_nx_same, gc_ex_same, line_small, Nat.reduceLeDiff, Nat.zero_le, isB_evI, isNone, isBl, isi_int (cs := CLS) (S := S) (kn_str (x := x)), isi_str (cs := CLS) (S := S) (kn_str (x := x)), isIntD, isBlD, isStrD, Bool.or_false, eq_wordsI (S := S) h]
    | _ => simp [PlD] at h
  | succ k ih =>
    intro d h
    cases d with
    | non => unfold F_law_same; simp only [fnOf_ev, List.length_cons, List.length_nil, Nat.zero_add, Nat.reduceAdd, Nat.reduceSub, List.map_cons, List.map_nil, List.cons_append, List.nil_append, List.append_nil, List.replicate_zero, List.replicate_succ, sSeq_ev, seq_nx, seq_rt, seq_bk, seq_ct, seq_ex, seq_no, eVar_z, eVar_s, eC_ev, aNil_ev, aCons_ev, consK_ev, consK2_ev, eOp_ev, opK_ev, eUn_ev, eTup_ev, eLst_ev, tupK_ev, lstK_ev, eB_ev, eIf_ev, iteK_ev, eAnd_ev, eOr_ev, andR_bl, orR_bl, eNot_ev, notR_bl, asB_bl, tB_ev, tAnd_ev, tAndK_ev, tOr_ev, tOrK_ev, tNot_ev, tNotK_ev, tYes_ev, eChain_ev, chainK_ev, chainK1_ev, chainK2_ev, chainK3_ev, eFld_ev, eSl_ev, slK_ev, slK1_ev, oNo_ev, oAt_ev, atR_int, sNil_ev, sSet_ev, setK_ev, sE_ev, dropK_ev, sRet_ev, retK_ev, sRetN_ev, sIf_ev, sIfK_ev, sRz_ev, sRx_ev, rxK_ev, sPut_ev, putK0_ev, putK1_ev, putK2_ev, putK3_ev, sAsg_ev, List.set_cons_zero, List.set_cons_succ, bindOk, bindEx, bindNo, toOk, toEx, toNo, if_true, if_false, ite_true, ite_false, Bool.false_eq_true, Bool.true_eq_false, eq_self, decide_true, decide_false, Bool.not_true, Bool.not_false, reduceIte, reduceCtorEq, add_int, sub_int, neg_int, lt_int, le_int, gt_int, ge_int, eq_int, ne_int, isN_ev, notN_ev, len_tup, int_int, int_bl, max2_ev, Nat.le_refl, gc_rt_same, gc_nx_same, gc_ex_same, line_small, Nat.reduceLeDiff, Nat.zero_le, show isNone .non = true from rfl]
    | bl b => unfold F_law_same; cases b <;> simp only [fnOf_ev, List.length_cons, List.length_nil, Nat.zero_add, Nat.reduceAdd, Nat.reduceSub, List.map_cons, List.map_nil, List.cons_append, List.nil_append, List.append_nil, List.replicate_zero, List.replicate_succ, sSeq_ev, seq_nx, seq_rt, seq_bk, seq_ct, seq_ex, seq_no, eVar_z, eVar_s, eC_ev, aNil_ev, aCons_ev, consK_ev, consK2_ev, eOp_ev, opK_ev, eUn_ev, eTup_ev, eLst_ev, tupK_ev, lstK_ev, eB_ev, eIf_ev, iteK_ev, eAnd_ev, eOr_ev, andR_bl, orR_bl, eNot_ev, notR_bl, asB_bl, tB_ev, tAnd_ev, tAndK_ev, tOr_ev, tOrK_ev, tNot_ev, tNotK_ev, tYes_ev, eChain_ev, chainK_ev, chainK1_ev, chainK2_ev, chainK3_ev, eFld_ev, eSl_ev, slK_ev, slK1_ev, oNo_ev, oAt_ev, atR_int, sNil_ev, sSet_ev, setK_ev, sE_ev, dropK_ev, sRet_ev, retK_ev, sRetN_ev, sIf_ev, sIfK_ev, sRz_ev, sRx_ev, rxK_ev, sPut_ev, putK0_ev, putK1_ev, putK2_ev, putK3_ev, sAsg_ev, List.set_cons_zero, List.set_cons_succ, bindOk, bindEx, bindNo, toOk, toEx, toNo, if_true, if_false, ite_true, ite_false, Bool.false_eq_true, Bool.true_eq_false, eq_self, decide_true, decide_false, Bool.not_true, Bool.not_false, reduceIte, reduceCtorEq, add_int, sub_int, neg_int, lt_int, le_int, gt_int, ge_int, eq_int, ne_int, isN_ev, notN_ev, len_tup, int_int, int_bl, max2_ev, Nat.le_refl, gc_rt_same, gc_nx_same, gc_ex_same, line_small, Nat.reduceLeDiff, Nat.zero_le, isB_evI, isNone, isBl, bFT, bTT, bFF, bTF]
    | int i => unfold F_law_same; simp only [fnOf_ev, List.length_cons, List.length_nil, Nat.zero_add, Nat.reduceAdd, Nat.reduceSub, List.map_cons, List.map_nil, List.cons_append, List.nil_append, List.append_nil, List.replicate_zero, List.replicate_succ, sSeq_ev, seq_nx, seq_rt, seq_bk, seq_ct, seq_ex, seq_no, eVar_z, eVar_s, eC_ev, aNil_ev, aCons_ev, consK_ev, consK2_ev, eOp_ev, opK_ev, eUn_ev, eTup_ev, eLst_ev, tupK_ev, lstK_ev, eB_ev, eIf_ev, iteK_ev, eAnd_ev, eOr_ev, andR_bl, orR_bl, eNot_ev, notR_bl, asB_bl, tB_ev, tAnd_ev, tAndK_ev, tOr_ev, tOrK_ev, tNot_ev, tNotK_ev, tYes_ev, eChain_ev, chainK_ev, chainK1_ev, chainK2_ev, chainK3_ev, eFld_ev, eSl_ev, slK_ev, slK1_ev, oNo_ev, oAt_ev, atR_int, sNil_ev, sSet_ev, setK_ev, sE_ev, dropK_ev, sRet_ev, retK_ev, sRetN_ev, sIf_ev, sIfK_ev, sRz_ev, sRx_ev, rxK_ev, sPut_ev, putK0_ev, putK1_ev, putK2_ev, putK3_ev, sAsg_ev, List.set_cons_zero, List.set_cons_succ, bindOk, bindEx, bindNo, toOk, toEx, toNo, if_true, if_false, ite_true, ite_false, Bool.false_eq_true, Bool.true_eq_false, eq_self, decide_true, decide_false, Bool.not_true, Bool.not_false, reduceIte, reduceCtorEq, add_int, sub_int, neg_int, lt_int, le_int, gt_int, ge_int, eq_int, ne_int, isN_ev, notN_ev, len_tup, int_int, int_bl, max2_ev, Nat.le_refl, gc_rt_same, gc_nx_same, gc_ex_same, line_small, Nat.reduceLeDiff, Nat.zero_le, isB_evI, isNone, isBl, isi_int (cs := CLS) (S := S) (kn_int (i := i)), isIntD, isBlD, Bool.or_false, law_is_integer_ok (S := S) (d := .int i) kn_int]
    | str x => unfold F_law_same; simp only [fnOf_ev, List.length_cons, List.length_nil, Nat.zero_add, Nat.reduceAdd, Nat.reduceSub, List.map_cons, List.map_nil, List.cons_append, List.nil_append, List.append_nil, List.replicate_zero, List.replicate_succ, sSeq_ev, seq_nx, seq_rt, seq_bk, seq_ct, seq_ex, seq_no, eVar_z, eVar_s, eC_ev, aNil_ev, aCons_ev, consK_ev, consK2_ev, eOp_ev, opK_ev, eUn_ev, eTup_ev, eLst_ev, tupK_ev, lstK_ev, eB_ev, eIf_ev, iteK_ev, eAnd_ev, eOr_ev, andR_bl, orR_bl, eNot_ev, notR_bl, asB_bl, tB_ev, tAnd_ev, tAndK_ev, tOr_ev, tOrK_ev, tNot_ev, tNotK_ev, tYes_ev, eChain_ev, chainK_ev, chainK1_ev, chainK2_ev, chainK3_ev, eFld_ev, eSl_ev, slK_ev, slK1_ev, oNo_ev, oAt_ev, atR_int, sNil_ev, sSet_ev, setK_ev, sE_ev, dropK_ev, sRet_ev, retK_ev, sRetN_ev, sIf_ev, sIfK_ev, sRz_ev, sRx_ev, rxK_ev, sPut_ev, putK0_ev, putK1_ev, putK2_ev, putK3_ev, sAsg_ev, List.set_cons_zero, List.set_cons_succ, bindOk, bindEx, bindNo, toOk, toEx, toNo, if_true, if_false, ite_true, ite_false, Bool.false_eq_true, Bool.true_eq_false, eq_self, decide_true, decide_false, Bool.not_true, Bool.not_false, reduceIte, reduceCtorEq, add_int, sub_int, neg_int, lt_int, le_int, gt_int, ge_int, eq_int, ne_int, isN_ev, notN_ev, len_tup, int_int, int_bl, max2_ev, Nat.le_refl, gc_rt_same, gc_nx_same, gc_ex_same, line_small, Nat.reduceLeDiff, Nat.zero_le, isB_evI, isNone, isBl, isi_int (cs := CLS) (S := S) (kn_str (x := x)), isi_str (cs := CLS) (S := S) (kn_str (x := x)), isIntD, isBlD, isStrD, Bool.or_false, eq_wordsI (S := S) h]
    | tup l =>
      have z := zip_tup (t := aCons (eVar 0) (aCons (eVar 1) aNil)) (δ := [some (.tup l), some (.tup l), none, none]) (S1 := S) (xs := l) (ys := l) rfl
      obtain ⟨u', v', e⟩ := same_loop (S := S) (k := k + 1) (lv := []) live_nil (a := .tup l) (b := .tup l) l none none fun x m => ih x (h.2 x m)
      unfold F_law_same
      simp only [fnOf_ev, List.length_cons, List.length_nil, Nat.zero_add, Nat.reduceAdd, Nat.reduceSub, List.map_cons, List.map_nil, List.cons_append, List.nil_append, List.append_nil, List.replicate_zero, List.replicate_succ, sSeq_ev, seq_nx, seq_rt, seq_bk, seq_ct, seq_ex, seq_no, eVar_z, eVar_s, eC_ev, aNil_ev, aCons_ev, consK_ev, consK2_ev, eOp_ev, opK_ev, eUn_ev, eTup_ev, eLst_ev, tupK_ev, lstK_ev, eB_ev, eIf_ev, iteK_ev, eAnd_ev, eOr_ev, andR_bl, orR_bl, eNot_ev, notR_bl, asB_bl, tB_ev, tAnd_ev, tAndK_ev, tOr_ev, tOrK_ev, tNot_ev, tNotK_ev, tYes_ev, eChain_ev, chainK_ev, chainK1_ev, chainK2_ev, chainK3_ev, eFld_ev, eSl_ev, slK_ev, slK1_ev, oNo_ev, oAt_ev, atR_int, sNil_ev, sSet_ev, setK_ev, sE_ev, dropK_ev, sRet_ev, retK_ev, sRetN_ev, sIf_ev, sIfK_ev, sRz_ev, sRx_ev, rxK_ev, sPut_ev, putK0_ev, putK1_ev, putK2_ev, putK3_ev, sAsg_ev, List.set_cons_zero, List.set_cons_succ, bindOk, bindEx, bindNo, toOk, toEx, toNo, if_true, if_false, ite_true, ite_false, Bool.false_eq_true, Bool.true_eq_false, eq_self, decide_true, decide_false, Bool.not_true, Bool.not_false, reduceIte, reduceCtorEq, add_int, sub_int, neg_int, lt_int, le_int, gt_int, ge_int, eq_int, ne_int, isN_ev, notN_ev, len_tup, int_int, int_bl, max2_ev, Nat.le_refl, gc_rt_same, gc_nx_same, gc_ex_same, line_small, Nat.reduceLeDiff, Nat.zero_le, isB_evI, isNone, isBl, isi_int (cs := CLS) (S := S) (kn_tup (l := l)), isi_str (cs := CLS) (S := S) (kn_tup (l := l)), isi_tuple (cs := CLS) (S := S) (kn_tup (l := l)), isi_list (cs := CLS) (S := S) (d := .tup l) (PlD.plain h), isIntD, isBlD, isStrD, isTupD, Bool.or_false, ne_bls, sFor_ev]
      rw [z]
      simp only [fnOf_ev, List.length_cons, List.length_nil, Nat.zero_add, Nat.reduceAdd, Nat.reduceSub, List.map_cons, List.map_nil, List.cons_append, List.nil_append, List.append_nil, List.replicate_zero, List.replicate_succ, sSeq_ev, seq_nx, seq_rt, seq_bk, seq_ct, seq_ex, seq_no, eVar_z, eVar_s, eC_ev, aNil_ev, aCons_ev, consK_ev, consK2_ev, eOp_ev, opK_ev, eUn_ev, eTup_ev, eLst_ev, tupK_ev, lstK_ev, eB_ev, eIf_ev, iteK_ev, eAnd_ev, eOr_ev, andR_bl, orR_bl, eNot_ev, notR_bl, asB_bl, tB_ev, tAnd_ev, tAndK_ev, tOr_ev, tOrK_ev, tNot_ev, tNotK_ev, tYes_ev, eChain_ev, chainK_ev, chainK1_ev, chainK2_ev, chainK3_ev, eFld_ev, eSl_ev, slK_ev, slK1_ev, oNo_ev, oAt_ev, atR_int, sNil_ev, sSet_ev, setK_ev, sE_ev, dropK_ev, sRet_ev, retK_ev, sRetN_ev, sIf_ev, sIfK_ev, sRz_ev, sRx_ev, rxK_ev, sPut_ev, putK0_ev, putK1_ev, putK2_ev, putK3_ev, sAsg_ev, List.set_cons_zero, List.set_cons_succ, bindOk, bindEx, bindNo, toOk, toEx, toNo, if_true, if_false, ite_true, ite_false, Bool.false_eq_true, Bool.true_eq_false, eq_self, decide_true, decide_false, Bool.not_true, Bool.not_false, reduceIte, reduceCtorEq, add_int, sub_int, neg_int, lt_int, le_int, gt_int, ge_int, eq_int, ne_int, isN_ev, notN_ev, len_tup, int_int, int_bl, max2_ev, Nat.le_refl, gc_rt_same, gc_nx_same, gc_ex_same, line_small, Nat.reduceLeDiff, Nat.zero_le, forK_ev, zip_self]
      rw [e]
      simp only [fnOf_ev, List.length_cons, List.length_nil, Nat.zero_add, Nat.reduceAdd, Nat.reduceSub, List.map_cons, List.map_nil, List.cons_append, List.nil_append, List.append_nil, List.replicate_zero, List.replicate_succ, sSeq_ev, seq_nx, seq_rt, seq_bk, seq_ct, seq_ex, seq_no, eVar_z, eVar_s, eC_ev, aNil_ev, aCons_ev, consK_ev, consK2_ev, eOp_ev, opK_ev, eUn_ev, eTup_ev, eLst_ev, tupK_ev, lstK_ev, eB_ev, eIf_ev, iteK_ev, eAnd_ev, eOr_ev, andR_bl, orR_bl, eNot_ev, notR_bl, asB_bl, tB_ev, tAnd_ev, tAndK_ev, tOr_ev, tOrK_ev, tNot_ev, tNotK_ev, tYes_ev, eChain_ev, chainK_ev, chainK1_ev, chainK2_ev, chainK3_ev, eFld_ev, eSl_ev, slK_ev, slK1_ev, oNo_ev, oAt_ev, atR_int, sNil_ev, sSet_ev, setK_ev, sE_ev, dropK_ev, sRet_ev, retK_ev, sRetN_ev, sIf_ev, sIfK_ev, sRz_ev, sRx_ev, rxK_ev, sPut_ev, putK0_ev, putK1_ev, putK2_ev, putK3_ev, sAsg_ev, List.set_cons_zero, List.set_cons_succ, bindOk, bindEx, bindNo, toOk, toEx, toNo, if_true, if_false, ite_true, ite_false, Bool.false_eq_true, Bool.true_eq_false, eq_self, decide_true, decide_false, Bool.not_true, Bool.not_false, reduceIte, reduceCtorEq, add_int, sub_int, neg_int, lt_int, le_int, gt_int, ge_int, eq_int, ne_int, isN_ev, notN_ev, len_tup, int_int, int_bl, max2_ev, Nat.le_refl, gc_rt_same, gc_nx_same, gc_ex_same, line_small, Nat.reduceLeDiff, Nat.zero_le]
    | _ => exact h.elim
end KF
set_option Elab.async false
set_option linter.all false
set_option maxRecDepth 100000
set_option maxHeartbeats 4000000
namespace KF
open PySem
def methA (fn : Fn) (i : Nat) (ds : List D) (S : Sto) : R D := fn (.ref i :: ds) S
def methO (C m : Str) (fn : Fn) (t : FA) (δ : Env) (i : Nat) (S : Sto) : Option GO → R D
  | some (.ins C' fs) => if C' = C ∧ fs.lookup m = none then (t δ S).bind (methA fn i) else .no
  | _ => .no
def methK (C m : Str) (fn : Fn) (t : FA) (δ : Env) (x : D) (S : Sto) : R D := match x with
  | .ref i => methO C m fn t δ i S S[i]?
  | _ => .no
theorem eMeth_ev (C m : Str) (fn : Fn) (a : FE) (t : FA) (δ : Env) (S : Sto) : eMeth C m fn a t δ S = (a δ S).bind (methK C m fn t δ) := by
  unfold eMeth
  congr 1
  funext x S
  cases x with
  | ref i =>
    unfold methK methO
    dsimp only
    cases S[i]? with
    | none => rfl
    | some u => cases u <;> rfl
  | _ => rfl
theorem methK_ref {C m : Str} {fn : Fn} {t : FA} {δ : Env} {i : Nat} {S : Sto} : methK C m fn t δ (.ref i) S = methO C m fn t δ i S S[i]? := id rfl
theorem methO_ins {C m : Str} {fn : Fn} {t : FA} {δ : Env} {i : Nat} {S : Sto} {fs : List (Str × D)} (h : fs.lookup m = none) : methO C m fn t δ i S (some (.ins C fs)) = (t δ S).bind (methA fn i) := if_pos ⟨rfl, h⟩
theorem methA_ev {fn : Fn} {i : Nat} {ds : List D} {S : Sto} : methA fn i ds S = fn (.ref i :: ds) S := id rfl
theorem augFld_int {cs : List Str} {f C : Str} {o e : FE} {δ : Env} {S : Sto} {i : Nat} {fs : List (Str × D)} {z u : Int} (ho : o δ S = .ok (.ref i) S) (hi : S[i]? = some (.ins C fs)) (hc : C ∈ cs) (hf : fs.lookup f = some (.int z)) (he : e δ S = .ok (.int u) S) (hl : fs.length < 1000) :
    sAugFld cs f augAdd o e δ S = .nx δ (S.set i (.ins C (putFD f (.int (z + u)) fs))) := by
  have ha : augAdd (.int z) (.int u) S = .ok (.int (z + u)) S := rfl
  unfold sAugFld
  rw [ho]
  simp only [toOk, hi, if_pos hc, hf, he, ha, true_and, if_pos hl]
def slO (o : Option GO) (lo hi : Option Int) (S : Sto) : R D := match o with
  | some (.lst l) => .ok (.ref S.length) (S ++ [.lst (cutD l lo hi)])
  | _ => .no
theorem sl_ref {a : Nat} {lo hi : Option Int} {S : Sto} : opSl (.ref a) lo hi S = slO S[a]? lo hi S := by
  show (match S[a]? with | some (.lst l) => alloc (.lst (cutD l lo hi)) S | _ => .no) = _
  unfold slO
  cases S[a]? with
  | none => rfl
  | some o => cases o <;> rfl
theorem slO_from {l : List D} {k : Nat} {S : Sto} : slO (some (.lst l)) (some (k : Int)) none S = .ok (.ref S.length) (S ++ [.lst (l.drop k)]) := by
  show KF.R.ok _ (S ++ [.lst (cutD l (some (k : Int)) none)]) = _
  rw [cut_from]
theorem slO_to {l : List D} {k : Nat} {S : Sto} : slO (some (.lst l)) none (some (k : Int)) S = .ok (.ref S.length) (S ++ [.lst (l.take k)]) := by
  show KF.R.ok _ (S ++ [.lst (cutD l none (some (k : Int)))]) = _
  rw [cut_to]
def OutO (g t : Nat) : GO := .ins "Outgoing" [("let_go", .int g), ("things", .ref t)]
structure Out (S : Sto) (o g : Nat) (l : List D) (F : List Nat) (t : Nat) : Prop where
  at_ : S[o]? = some (OutO g t)
  lst : S[t]? = some (.lst l)
  apart : t ∉ F
section
variable {S : Sto} {o g t : Nat} {l : List D} {F : List Nat}
theorem fld_go {i : Nat} (h : S[i]? = some (OutO g t)) : fldOf ["Outgoing"] "let_go" (.ref i) S = .ok (.int g) S := fld_at h (by simp) rfl
theorem fld_things {i : Nat} (h : S[i]? = some (OutO g t)) : fldOf ["Outgoing"] "things" (.ref i) S = .ok (.ref t) S := fld_at h (by simp) rfl
theorem many_put_ok (h : Out S o g l F t) : F_Outgoing_many_put [.ref o] S = .ok (.int ((g : Int) + (l.length : Int))) S := by
  unfold F_Outgoing_many_put
  simp only [fnOf_ev, List.length_cons, List.length_nil, Nat.zero_add, Nat.reduceAdd, Nat.reduceSub, List.map_cons, List.map_nil, List.cons_append, List.nil_append, List.append_nil, List.replicate_zero, List.replicate_succ, sSeq_ev, seq_nx, seq_rt, seq_bk, seq_ct, seq_ex, seq_no, eVar_z, eVar_s, eC_ev, aNil_ev, aCons_ev, consK_ev, consK2_ev, eOp_ev, opK_ev, eUn_ev, eTup_ev, eLst_ev, tupK_ev, lstK_ev, eB_ev, eIf_ev, iteK_ev, eAnd_ev, eOr_ev, andR_bl, orR_bl, eNot_ev, notR_bl, asB_bl, tB_ev, tAnd_ev, tAndK_ev, tOr_ev, tOrK_ev, tNot_ev, tNotK_ev, tYes_ev, eChain_ev, chainK_ev, chainK1_ev, chainK2_ev, chainK3_ev, eFld_ev, eSl_ev, slK_ev, slK1_ev, oNo_ev, oAt_ev, atR_int, sNil_ev, sSet_ev, setK_ev, sE_ev, dropK_ev, sRet_ev, retK_ev, sRetN_ev, sIf_ev, sIfK_ev, sRz_ev, sRx_ev, rxK_ev, sPut_ev, putK0_ev, putK1_ev, putK2_ev, putK3_ev, sAsg_ev, List.set_cons_zero, List.set_cons_succ, bindOk, bindEx, bindNo, toOk, toEx, toNo, if_true, if_false, ite_true, ite_false, Bool.false_eq_true, Bool.true_eq_false, eq_self, decide_true, decide_false, Bool.not_true, Bool.not_false, reduceIte, reduceCtorEq, add_int, sub_int, neg_int, lt_int, le_int, gt_int, ge_int, eq_int, ne_int, isN_ev, notN_ev, len_tup, int_int, int_bl, max2_ev, Nat.le_refl, gc_rt_same, gc_nx_same, gc_ex_same, line_small, Nat.reduceLeDiff, Nat.zero_le, fld_go h.at_, fld_things h.at_, len_ref, h.lst, lenO_lst]
theorem Out.neq (h : Out S o g l F t) : o ≠ t := fun z => by
  have a := h.at_
  rw [z, h.lst] at a
  cases a
theorem put_ok (h : Out S o g l F t) (hl : l.length < 1000) (x : D) : F_Outgoing_put [.ref o, x] S = .ok (.int ((g : Int) + (l.length : Int))) (S.set t (.lst (l ++ [x]))) ∧ Out (S.set t (.lst (l ++ [x]))) o g (l ++ [x]) F t := by
  have h2 : Out (S.set t (.lst (l ++ [x]))) o g (l ++ [x]) F t := ⟨by rw [List.getElem?_set_ne (Ne.symm h.neq)]; exact h.at_, set_at h.lst, h.apart⟩
  have hm := many_put_ok h2
  refine ⟨?_, h2⟩
  unfold F_Outgoing_put
  simp only [fnOf_ev, List.length_cons, List.length_nil, Nat.zero_add, Nat.reduceAdd, Nat.reduceSub, List.map_cons, List.map_nil, List.cons_append, List.nil_append, List.append_nil, List.replicate_zero, List.replicate_succ, sSeq_ev, seq_nx, seq_rt, seq_bk, seq_ct, seq_ex, seq_no, eVar_z, eVar_s, eC_ev, aNil_ev, aCons_ev, consK_ev, consK2_ev, eOp_ev, opK_ev, eUn_ev, eTup_ev, eLst_ev, tupK_ev, lstK_ev, eB_ev, eIf_ev, iteK_ev, eAnd_ev, eOr_ev, andR_bl, orR_bl, eNot_ev, notR_bl, asB_bl, tB_ev, tAnd_ev, tAndK_ev, tOr_ev, tOrK_ev, tNot_ev, tNotK_ev, tYes_ev, eChain_ev, chainK_ev, chainK1_ev, chainK2_ev, chainK3_ev, eFld_ev, eSl_ev, slK_ev, slK1_ev, oNo_ev, oAt_ev, atR_int, sNil_ev, sSet_ev, setK_ev, sE_ev, dropK_ev, sRet_ev, retK_ev, sRetN_ev, sIf_ev, sIfK_ev, sRz_ev, sRx_ev, rxK_ev, sPut_ev, putK0_ev, putK1_ev, putK2_ev, putK3_ev, sAsg_ev, List.set_cons_zero, List.set_cons_succ, bindOk, bindEx, bindNo, toOk, toEx, toNo, if_true, if_false, ite_true, ite_false, Bool.false_eq_true, Bool.true_eq_false, eq_self, decide_true, decide_false, Bool.not_true, Bool.not_false, reduceIte, reduceCtorEq, add_int, sub_int, neg_int, lt_int, le_int, gt_int, ge_int, eq_int, ne_int, isN_ev, notN_ev, len_tup, int_int, int_bl, max2_ev, Nat.le_refl, gc_rt_same, gc_nx_same, gc_ex_same, line_small, Nat.reduceLeDiff, Nat.zero_le, eBMT_ev, fld_things h.at_, bmtK_lst, h.lst, lstGo_lst, append_ref, apO_lst (eq_true (show l.length < line by show _ < 16777216; omega)), eMeth_ev, methK_ref, h2.at_, OutO, methO_ins (C := "Outgoing") (m := "many_put") (fn := F_Outgoing_many_put) (fs := [("let_go", .int g), ("things", .ref t)]) rfl, methA_ev, hm]
  rw [gc_rt_len (by simp)]
  congr 2
  rw [List.length_append]
  simp
  omega
theorem waiting_ok (h : Out S o g l F t) (hg : g < 1000) : F_Outgoing_waiting [.ref o] S = .ok (.ref S.length) (S ++ [.lst (enD g l)]) := by
  have e : eLEnum (aCons (eFld ["Outgoing"] "things" (eVar 0)) aNil) (eFld ["Outgoing"] "let_go" (eVar 0)) [some (.ref o)] S = .ok (.ref S.length) (S ++ [.lst (enD g l)]) := by
    have e1 : aCons (eFld ["Outgoing"] "things" (eVar 0)) aNil [some (.ref o)] S = .ok [.ref t] S := by simp only [fnOf_ev, List.length_cons, List.length_nil, Nat.zero_add, Nat.reduceAdd, Nat.reduceSub, List.map_cons, List.map_nil, List.cons_append, List.nil_append, List.append_nil, List.replicate_zero, List.replicate_succ, sSeq_ev, seq_nx, seq_rt, seq_bk, seq_ct, seq_ex, seq_no, eVar_z, eVar_s, eC_ev, aNil_ev, aCons_ev, consK_ev, consK2_ev, eOp_ev, opK_ev, eUn_ev, eTup_ev, eLst_ev, tupK_ev, lstK_ev, eB_ev, eIf_ev, iteK_ev, eAnd_ev, eOr_ev, andR_bl, orR_bl, eNot_ev, notR_bl, asB_bl, tB_ev, tAnd_ev, tAndK_ev, tOr_ev, tOrK_ev, tNot_ev, tNotK_ev, tYes_ev, eChain_ev, chainK_ev, chainK1_ev, chainK2_ev, chainK3_ev, eFld_ev, eSl_ev, slK_ev, slK1_ev, oNo_ev, oAt_ev, atR_int, sNil_ev, sSet_ev, setK_ev, sE_ev, dropK_ev, sRet_ev, retK_ev, sRetN_ev, sIf_ev, sIfK_ev, sRz_ev, sRx_ev, rxK_ev, sPut_ev, putK0_ev, putK1_ev, putK2_ev, putK3_ev, sAsg_ev, List.set_cons_zero, List.set_cons_succ, bindOk, bindEx, bindNo, toOk, toEx, toNo, if_true, if_false, ite_true, ite_false, Bool.false_eq_true, Bool.true_eq_false, eq_self, decide_true, decide_false, Bool.not_true, Bool.not_false, reduceIte, reduceCtorEq, add_int, sub_int, neg_int, lt_int, le_int, gt_int, ge_int, eq_int, ne_int, isN_ev, notN_ev, len_tup, int_int, int_bl, max2_ev, Nat.le_refl, gc_rt_same, gc_nx_same, gc_ex_same, line_small, Nat.reduceLeDiff, Nat.zero_le, fld_things h.at_]
    have e2 : eFld ["Outgoing"] "let_go" (eVar 0) [some (.ref o)] S = .ok (.int g) S := by simp only [fnOf_ev, List.length_cons, List.length_nil, Nat.zero_add, Nat.reduceAdd, Nat.reduceSub, List.map_cons, List.map_nil, List.cons_append, List.nil_append, List.append_nil, List.replicate_zero, List.replicate_succ, sSeq_ev, seq_nx, seq_rt, seq_bk, seq_ct, seq_ex, seq_no, eVar_z, eVar_s, eC_ev, aNil_ev, aCons_ev, consK_ev, consK2_ev, eOp_ev, opK_ev, eUn_ev, eTup_ev, eLst_ev, tupK_ev, lstK_ev, eB_ev, eIf_ev, iteK_ev, eAnd_ev, eOr_ev, andR_bl, orR_bl, eNot_ev, notR_bl, asB_bl, tB_ev, tAnd_ev, tAndK_ev, tOr_ev, tOrK_ev, tNot_ev, tNotK_ev, tYes_ev, eChain_ev, chainK_ev, chainK1_ev, chainK2_ev, chainK3_ev, eFld_ev, eSl_ev, slK_ev, slK1_ev, oNo_ev, oAt_ev, atR_int, sNil_ev, sSet_ev, setK_ev, sE_ev, dropK_ev, sRet_ev, retK_ev, sRetN_ev, sIf_ev, sIfK_ev, sRz_ev, sRx_ev, rxK_ev, sPut_ev, putK0_ev, putK1_ev, putK2_ev, putK3_ev, sAsg_ev, List.set_cons_zero, List.set_cons_succ, bindOk, bindEx, bindNo, toOk, toEx, toNo, if_true, if_false, ite_true, ite_false, Bool.false_eq_true, Bool.true_eq_false, eq_self, decide_true, decide_false, Bool.not_true, Bool.not_false, reduceIte, reduceCtorEq, add_int, sub_int, neg_int, lt_int, le_int, gt_int, ge_int, eq_int, ne_int, isN_ev, notN_ev, len_tup, int_int, int_bl, max2_ev, Nat.le_refl, gc_rt_same, gc_nx_same, gc_ex_same, line_small, Nat.reduceLeDiff, Nat.zero_le, fld_go h.at_]
    unfold eLEnum
    rw [e1]
    simp only [bindOk, e2, h.lst]
    rw [if_pos ⟨by omega, by omega⟩]
    rfl
  unfold F_Outgoing_waiting
  simp only [fnOf_ev, List.length_cons, List.length_nil, Nat.zero_add, Nat.reduceAdd, Nat.reduceSub, List.map_cons, List.map_nil, List.cons_append, List.nil_append, List.append_nil, List.replicate_zero, List.replicate_succ, sSeq_ev, seq_nx, seq_rt, seq_bk, seq_ct, seq_ex, seq_no, eVar_z, eVar_s, eC_ev, aNil_ev, aCons_ev, consK_ev, consK2_ev, eOp_ev, opK_ev, eUn_ev, eTup_ev, eLst_ev, tupK_ev, lstK_ev, eB_ev, eIf_ev, iteK_ev, eAnd_ev, eOr_ev, andR_bl, orR_bl, eNot_ev, notR_bl, asB_bl, tB_ev, tAnd_ev, tAndK_ev, tOr_ev, tOrK_ev, tNot_ev, tNotK_ev, tYes_ev, eChain_ev, chainK_ev, chainK1_ev, chainK2_ev, chainK3_ev, eFld_ev, eSl_ev, slK_ev, slK1_ev, oNo_ev, oAt_ev, atR_int, sNil_ev, sSet_ev, setK_ev, sE_ev, dropK_ev, sRet_ev, retK_ev, sRetN_ev, sIf_ev, sIfK_ev, sRz_ev, sRx_ev, rxK_ev, sPut_ev, putK0_ev, putK1_ev, putK2_ev, putK3_ev, sAsg_ev, List.set_cons_zero, List.set_cons_succ, bindOk, bindEx, bindNo, toOk, toEx, toNo, if_true, if_false, ite_true, ite_false, Bool.false_eq_true, Bool.true_eq_false, eq_self, decide_true, decide_false, Bool.not_true, Bool.not_false, reduceIte, reduceCtorEq, add_int, sub_int, neg_int, lt_int, le_int, gt_int, ge_int, eq_int, ne_int, isN_ev, notN_ev, len_tup, int_int, int_bl, max2_ev, Nat.le_refl, gc_rt_same, gc_nx_same, gc_ex_same, line_small, Nat.reduceLeDiff, Nat.zero_le, e]
  exact gc_rt_new (by unfold D.under; simp)
end
end KF
set_option Elab.async false
set_option linter.all false
set_option maxRecDepth 100000
set_option maxHeartbeats 4000000
namespace KF
open PySem
section
variable {S : Sto} {o g t : Nat} {l : List D} {F : List Nat}
theorem not_clean {S S' : Sto} {i : Nat} {o u : GO} (h1 : S[i]? = some o) (h2 : S'[i]? = some u) (n : o ≠ u) (nu : u.under S.length = false) : ¬ clean S S' := fun c => by
  rcases c.2 i u (List.getElem?_eq_some_iff.mp h1).1 h2 with e | e
  · rw [h1] at e
    exact n (Option.some.inj e)
  · rw [nu] at e
    cases e
theorem gc_rt_dirty {S S' : Sto} {d : D} (h : ¬ clean S S') : gcR S (.rt d S') = .ok d S' := by
  rw [gcR_rt, if_neg fun q => h q.1]
theorem known_ok (h : Out S o g l F t) (hF : ∀ f ∈ F, f < S.length) {n : Nat} (hn : n ≤ g + l.length) :
    F_Outgoing_known [.ref o, .int n] S = .ok (.int ((n - g : Nat) : Int)) ((S ++ [GO.lst (l.drop (n - g))]).set o (OutO (g + (n - g)) S.length)) ∧ Out ((S ++ [GO.lst (l.drop (n - g))]).set o (OutO (g + (n - g)) S.length)) o (g + (n - g)) (l.drop (n - g)) F S.length := by
  have ol : o < S.length := (List.getElem?_eq_some_iff.mp h.at_).1
  have tl : t < S.length := (List.getElem?_eq_some_iff.mp h.lst).1
  have b : isBelow ((g : Int) + (l.length : Int) + 1) (.int n) = true := below_iff.mpr ⟨_, rfl, by omega, by omega⟩
  have hm := many_put_ok h
  have mx : (if ((n : Int) - (g : Int)) > 0 then ((n : Int) - (g : Int)) else 0) = ((n - g : Nat) : Int) := by split <;> omega
  have e1 : (S ++ [GO.lst (l.drop (n - g))])[o]? = some (OutO g t) := app_at h.at_
  have out2 : Out ((S ++ [GO.lst (l.drop (n - g))]).set o (OutO (g + (n - g)) S.length)) o (g + (n - g)) (l.drop (n - g)) F S.length :=
    ⟨set_at e1, by rw [List.getElem?_set_ne (by omega)]; exact last_at, fun m => Nat.lt_irrefl _ (hF _ m)⟩
  refine ⟨?_, out2⟩
  unfold F_Outgoing_known
  simp only [fnOf_ev, List.length_cons, List.length_nil, Nat.zero_add, Nat.reduceAdd, Nat.reduceSub, List.map_cons, List.map_nil, List.cons_append, List.nil_append, List.append_nil, List.replicate_zero, List.replicate_succ, sSeq_ev, seq_nx, seq_rt, seq_bk, seq_ct, seq_ex, seq_no, eVar_z, eVar_s, eC_ev, aNil_ev, aCons_ev, consK_ev, consK2_ev, eOp_ev, opK_ev, eUn_ev, eTup_ev, eLst_ev, tupK_ev, lstK_ev, eB_ev, eIf_ev, iteK_ev, eAnd_ev, eOr_ev, andR_bl, orR_bl, eNot_ev, notR_bl, asB_bl, tB_ev, tAnd_ev, tAndK_ev, tOr_ev, tOrK_ev, tNot_ev, tNotK_ev, tYes_ev, eChain_ev, chainK_ev, chainK1_ev, chainK2_ev, chainK3_ev, eFld_ev, eSl_ev, slK_ev, slK1_ev, oNo_ev, oAt_ev, atR_int, sNil_ev, sSet_ev, setK_ev, sE_ev, dropK_ev, sRet_ev, retK_ev, sRetN_ev, sIf_ev, sIfK_ev, sRz_ev, sRx_ev, rxK_ev, sPut_ev, putK0_ev, putK1_ev, putK2_ev, putK3_ev, sAsg_ev, List.set_cons_zero, List.set_cons_succ, bindOk, bindEx, bindNo, toOk, toEx, toNo, if_true, if_false, ite_true, ite_false, Bool.false_eq_true, Bool.true_eq_false, eq_self, decide_true, decide_false, Bool.not_true, Bool.not_false, reduceIte, reduceCtorEq, add_int, sub_int, neg_int, lt_int, le_int, gt_int, ge_int, eq_int, ne_int, isN_ev, notN_ev, len_tup, int_int, int_bl, max2_ev, Nat.le_refl, gc_rt_same, gc_nx_same, gc_ex_same, line_small, Nat.reduceLeDiff, Nat.zero_le, eMeth_ev, methK_ref, h.at_, OutO, methO_ins (C := "Outgoing") (m := "many_put") (fn := F_Outgoing_many_put) (fs := [("let_go", .int g), ("things", .ref t)]) rfl, methA_ev, hm, is_below_ok (S := S) (d := .int (n : Int)) (b := (g : Int) + (l.length : Int) + 1) kn_int, b, fld_go h.at_, mx, fld_things h.at_, sl_ref, h.lst, slO_from, sFld_ev, fldK1_ev, fldK2_ref, e1, insPut_ins]
  rw [insPut_ins ⟨by simp, by simp⟩]
  rw [show putFD "things" (.ref S.length) [("let_go", .int (g : Int)), ("things", .ref t)] = ([("let_go", .int (g : Int)), ("things", .ref S.length)] : List (Str × D)) from rfl]
  simp only [fnOf_ev, List.length_cons, List.length_nil, Nat.zero_add, Nat.reduceAdd, Nat.reduceSub, List.map_cons, List.map_nil, List.cons_append, List.nil_append, List.append_nil, List.replicate_zero, List.replicate_succ, sSeq_ev, seq_nx, seq_rt, seq_bk, seq_ct, seq_ex, seq_no, eVar_z, eVar_s, eC_ev, aNil_ev, aCons_ev, consK_ev, consK2_ev, eOp_ev, opK_ev, eUn_ev, eTup_ev, eLst_ev, tupK_ev, lstK_ev, eB_ev, eIf_ev, iteK_ev, eAnd_ev, eOr_ev, andR_bl, orR_bl, eNot_ev, notR_bl, asB_bl, tB_ev, tAnd_ev, tAndK_ev, tOr_ev, tOrK_ev, tNot_ev, tNotK_ev, tYes_ev, eChain_ev, chainK_ev, chainK1_ev, chainK2_ev, chainK3_ev, eFld_ev, eSl_ev, slK_ev, slK1_ev, oNo_ev, oAt_ev, atR_int, sNil_ev, sSet_ev, setK_ev, sE_ev, dropK_ev, sRet_ev, retK_ev, sRetN_ev, sIf_ev, sIfK_ev, sRz_ev, sRx_ev, rxK_ev, sPut_ev, putK0_ev, putK1_ev, putK2_ev, putK3_ev, sAsg_ev, List.set_cons_zero, List.set_cons_succ, bindOk, bindEx, bindNo, toOk, toEx, toNo, if_true, if_false, ite_true, ite_false, Bool.false_eq_true, Bool.true_eq_false, eq_self, decide_true, decide_false, Bool.not_true, Bool.not_false, reduceIte, reduceCtorEq, add_int, sub_int, neg_int, lt_int, le_int, gt_int, ge_int, eq_int, ne_int, isN_ev, notN_ev, len_tup, int_int, int_bl, max2_ev, Nat.le_refl, gc_rt_same, gc_nx_same, gc_ex_same, line_small, Nat.reduceLeDiff, Nat.zero_le]
  rw [augFld_int (z := g) (u := ((n - g : Nat) : Int)) (fs := [("let_go", .int g), ("things", .ref S.length)]) (i := o) (C := "Outgoing") rfl (set_at e1) (by simp) rfl rfl (by simp)]
  simp only [fnOf_ev, List.length_cons, List.length_nil, Nat.zero_add, Nat.reduceAdd, Nat.reduceSub, List.map_cons, List.map_nil, List.cons_append, List.nil_append, List.append_nil, List.replicate_zero, List.replicate_succ, sSeq_ev, seq_nx, seq_rt, seq_bk, seq_ct, seq_ex, seq_no, eVar_z, eVar_s, eC_ev, aNil_ev, aCons_ev, consK_ev, consK2_ev, eOp_ev, opK_ev, eUn_ev, eTup_ev, eLst_ev, tupK_ev, lstK_ev, eB_ev, eIf_ev, iteK_ev, eAnd_ev, eOr_ev, andR_bl, orR_bl, eNot_ev, notR_bl, asB_bl, tB_ev, tAnd_ev, tAndK_ev, tOr_ev, tOrK_ev, tNot_ev, tNotK_ev, tYes_ev, eChain_ev, chainK_ev, chainK1_ev, chainK2_ev, chainK3_ev, eFld_ev, eSl_ev, slK_ev, slK1_ev, oNo_ev, oAt_ev, atR_int, sNil_ev, sSet_ev, setK_ev, sE_ev, dropK_ev, sRet_ev, retK_ev, sRetN_ev, sIf_ev, sIfK_ev, sRz_ev, sRx_ev, rxK_ev, sPut_ev, putK0_ev, putK1_ev, putK2_ev, putK3_ev, sAsg_ev, List.set_cons_zero, List.set_cons_succ, bindOk, bindEx, bindNo, toOk, toEx, toNo, if_true, if_false, ite_true, ite_false, Bool.false_eq_true, Bool.true_eq_false, eq_self, decide_true, decide_false, Bool.not_true, Bool.not_false, reduceIte, reduceCtorEq, add_int, sub_int, neg_int, lt_int, le_int, gt_int, ge_int, eq_int, ne_int, isN_ev, notN_ev, len_tup, int_int, int_bl, max2_ev, Nat.le_refl, gc_rt_same, gc_nx_same, gc_ex_same, line_small, Nat.reduceLeDiff, Nat.zero_le, List.set_set]
  refine (gc_rt_dirty (not_clean h.at_ (u := OutO (g + (n - g)) S.length) ?_ ?_ ?_)).trans ?_
  · exact set_at e1
  · intro z
    have z2 : t = S.length := by injection z with _ z; injection z with _ z; injection z with z _; injection z with _ z; injection z
    omega
  · simp [OutO, GO.under, D.under, fsUnder, D.unders]
  · congr 2
end
end KF
set_option Elab.async false
set_option linter.all false
set_option maxRecDepth 100000
set_option maxHeartbeats 4000000
namespace KF
open PySem
theorem whileN_goI {c : FT} {b : FS} {N : Nat} {δ δ2 : Env} {S S1 S2 : Sto} (hc : c δ S = .ok true S1) (hb : b δ S1 = .nx δ2 S2) : whileN c b (N + 1) δ S = whileN c b N δ2 S2 := by
  conv => lhs; unfold whileN
  rw [hc, toOk, if_pos rfl, hb]
theorem whileN_endI {c : FT} {b : FS} {N : Nat} {δ : Env} {S S1 : Sto} (hc : c δ S = .ok false S1) : whileN c b (N + 1) δ S = .nx δ S1 := by
  conv => lhs; unfold whileN
  rw [hc, toOk, if_neg (by simp)]
def kI (n : Nat) : DK := .inl (.inl (n : Int))
theorem keyIn_int {n : Nat} : keyIn false (.int (n : Int)) = some (kI n) := rfl
theorem kI_inj {a b : Nat} (h : kI a = kI b) : a = b := by
  unfold kI at h
  injection h with h
  injection h with h
  omega
def inO (neg : Bool) (y : D) (S : Sto) : Option GO → R D
  | some (.dic t kvs) => match keyIn t y with
    | some k => .ok (.bl (if neg = true then !(dgetD kvs k).isSome else (dgetD kvs k).isSome)) S
    | none => .no
  | _ => .no
theorem in_ref {neg : Bool} {y : D} {a : Nat} {S : Sto} : opInD neg y (.ref a) S = inO neg y S S[a]? := by
  unfold opInD inO
  try dsimp only
  all_goals
    cases S[a]? with
    | none => rfl
    | some o => cases o <;> rfl
theorem inO_int {n : Nat} {S : Sto} {kvs : List (DK × D)} : inO false (.int (n : Int)) S (some (.dic false kvs)) = .ok (.bl (dgetD kvs (kI n)).isSome) S := id rfl
theorem inO_not {n : Nat} {S : Sto} {kvs : List (DK × D)} : inO true (.int (n : Int)) S (some (.dic false kvs)) = .ok (.bl !(dgetD kvs (kI n)).isSome) S := id rfl
theorem pop_dic {o a : FE} {δ : Env} {S : Sto} {i n : Nat} {kvs : List (DK × D)} {x : D} (ho : o δ S = .ok (.ref i) S) (hi : S[i]? = some (.dic false kvs)) (ha : a δ S = .ok (.int (n : Int)) S) (hx : dgetD kvs (kI n) = some x) :
    ePop1 o a δ S = .ok x (S.set i (.dic false (ddropD kvs (kI n)))) := by
  unfold ePop1
  rw [ho]
  simp only [bindOk, hi, ha]
  unfold mDPop
  simp only [hi, keyIn_int, hx]
def drn : Nat → List (DK × D) → Nat → List D → List D × List (DK × D) × Nat
  | 0, kvs, n, acc => (acc, kvs, n)
  | f + 1, kvs, n, acc => match dgetD kvs (kI n) with
    | some x => drn f (ddropD kvs (kI n)) (n + 1) (acc ++ [x])
    | none => (acc, kvs, n)
theorem ddrop_lt {kvs : List (DK × D)} {k : DK} {x : D} (h : dgetD kvs k = some x) : (ddropD kvs k).length < kvs.length := by
  have m := dget_mem h
  unfold ddropD
  rcases Nat.lt_or_ge (kvs.filter fun kv => decide (kv.1 ≠ k)).length kvs.length with q | q
  · exact q
  · have e := List.length_filter_eq_length_iff.mp (Nat.le_antisymm (List.length_filter_le _ _) q)
    have := e _ m
    simp at this
def InO (n d : Nat) : GO := .ins "Incoming" [("due", .int n), ("early", .ref d)]
structure InS (S : Sto) (e d n : Nat) (kvs : List (DK × D)) : Prop where
  at_ : S[e]? = some (InO n d)
  dic : S[d]? = some (.dic false kvs)
section
variable {S : Sto} {e d n : Nat} {kvs : List (DK × D)}
theorem InS.neq (h : InS S e d n kvs) : e ≠ d := fun z => by
  have a := h.at_
  rw [z, h.dic] at a
  cases a
theorem fld_due {i : Nat} (h : S[i]? = some (InO n d)) : fldOf ["Incoming"] "due" (.ref i) S = .ok (.int n) S := fld_at h (by simp) rfl
theorem fld_early {i : Nat} (h : S[i]? = some (InO n d)) : fldOf ["Incoming"] "early" (.ref i) S = .ok (.ref d) S := fld_at h (by simp) rfl
end
noncomputable def takC : FT := tB (eOp (opInD false) (eFld ["Incoming"] "due" (eVar 0)) (eFld ["Incoming"] "early" (eVar 0)))
noncomputable def takB : FS := sSeq (sE (eBMT "list" mAppend (eVar 3) (aCons (ePop1 (eFld ["Incoming"] "early" (eVar 0)) (eFld ["Incoming"] "due" (eVar 0))) aNil)))
    (sAugFld ["Incoming"] "due" augAdd (eVar 0) (eC (.int 1)))
section
variable {S : Sto} {e d n L : Nat} {kvs : List (DK × D)} {acc : List D} {a1 a2 : Option D} {x : D}
theorem takC_ok (h : InS S e d n kvs) : takC [some (.ref e), a1, a2, some (.ref L)] S = .ok (dgetD kvs (kI n)).isSome S := by
  unfold takC
  simp only [fnOf_ev, List.length_cons, List.length_nil, Nat.zero_add, Nat.reduceAdd, Nat.reduceSub, List.map_cons, List.map_nil, List.cons_append, List.nil_append, List.append_nil, List.replicate_zero, List.replicate_succ, sSeq_ev, seq_nx, seq_rt, seq_bk, seq_ct, seq_ex, seq_no, eVar_z, eVar_s, eC_ev, aNil_ev, aCons_ev, consK_ev, consK2_ev, eOp_ev, opK_ev, eUn_ev, eTup_ev, eLst_ev, tupK_ev, lstK_ev, eB_ev, eIf_ev, iteK_ev, eAnd_ev, eOr_ev, andR_bl, orR_bl, eNot_ev, notR_bl, asB_bl, tB_ev, tAnd_ev, tAndK_ev, tOr_ev, tOrK_ev, tNot_ev, tNotK_ev, tYes_ev, eChain_ev, chainK_ev, chainK1_ev, chainK2_ev, chainK3_ev, eFld_ev, eSl_ev, slK_ev, slK1_ev, oNo_ev, oAt_ev, atR_int, sNil_ev, sSet_ev, setK_ev, sE_ev, dropK_ev, sRet_ev, retK_ev, sRetN_ev, sIf_ev, sIfK_ev, sRz_ev, sRx_ev, rxK_ev, sPut_ev, putK0_ev, putK1_ev, putK2_ev, putK3_ev, sAsg_ev, List.set_cons_zero, List.set_cons_succ, bindOk, bindEx, bindNo, toOk, toEx, toNo, if_true, if_false, ite_true, ite_false, Bool.false_eq_true, Bool.true_eq_false, eq_self, decide_true, decide_false, Bool.not_true, Bool.not_false, reduceIte, reduceCtorEq, add_int, sub_int, neg_int, lt_int, le_int, gt_int, ge_int, eq_int, ne_int, isN_ev, notN_ev, len_tup, int_int, int_bl, max2_ev, Nat.le_refl, gc_rt_same, gc_nx_same, gc_ex_same, line_small, Nat.reduceLeDiff, Nat.zero_le, fld_due h.at_, fld_early h.at_, in_ref, h.dic, inO_int]
theorem takB_ok (h : InS S e d n kvs) (hL : S[L]? = some (.lst acc)) (n1 : L ≠ e) (n2 : L ≠ d) (hx : dgetD kvs (kI n) = some x) (ha : acc.length < 1000) :
    takB [some (.ref e), a1, a2, some (.ref L)] S = .nx [some (.ref e), a1, a2, some (.ref L)] (((S.set d (.dic false (ddropD kvs (kI n)))).set L (.lst (acc ++ [x]))).set e (InO (n + 1) d)) := by
  have e1 : (S.set d (GO.dic false (ddropD kvs (kI n))))[L]? = some (.lst acc) := by rw [List.getElem?_set_ne (Ne.symm n2)]; exact hL
  have e2 : ((S.set d (GO.dic false (ddropD kvs (kI n)))).set L (GO.lst (acc ++ [x])))[e]? = some (InO n d) := by
    rw [List.getElem?_set_ne n1, List.getElem?_set_ne (Ne.symm h.neq)]; exact h.at_
  have e3 := pop_dic (o := eFld ["Incoming"] "early" (eVar 0)) (a := eFld ["Incoming"] "due" (eVar 0)) (δ := [some (.ref e), a1, a2, some (.ref L)]) (S := S) (i := d) (n := n) (kvs := kvs) (x := x) (by simp only [fnOf_ev, List.length_cons, List.length_nil, Nat.zero_add, Nat.reduceAdd, Nat.reduceSub, List.map_cons, List.map_nil, List.cons_append, List.nil_append, List.append_nil, List.replicate_zero, List.replicate_succ, sSeq_ev, seq_nx, seq_rt, seq_bk, seq_ct, seq_ex, seq_no, eVar_z, eVar_s, eC_ev, aNil_ev, aCons_ev, consK_ev, consK2_ev, eOp_ev, opK_ev, eUn_ev, eTup_ev, eLst_ev, tupK_ev, lstK_ev, eB_ev, eIf_ev, iteK_ev, eAnd_ev, eOr_ev, andR_bl, orR_bl, eNot_ev, notR_bl, asB_bl, tB_ev, tAnd_ev, tAndK_ev, tOr_ev, tOrK_ev, tNot_ev, tNotK_ev, tYes_ev, eChain_ev, chainK_ev, chainK1_ev, chainK2_ev, chainK3_ev, eFld_ev, eSl_ev, slK_ev, slK1_ev, oNo_ev, oAt_ev, atR_int, sNil_ev, sSet_ev, setK_ev, sE_ev, dropK_ev, sRet_ev, retK_ev, sRetN_ev, sIf_ev, sIfK_ev, sRz_ev, sRx_ev, rxK_ev, sPut_ev, putK0_ev, putK1_ev, putK2_ev, putK3_ev, sAsg_ev, List.set_cons_zero, List.set_cons_succ, bindOk, bindEx, bindNo, toOk, toEx, toNo, if_true, if_false, ite_true, ite_false, Bool.false_eq_true, Bool.true_eq_false, eq_self, decide_true, decide_false, Bool.not_true, Bool.not_false, reduceIte, reduceCtorEq, add_int, sub_int, neg_int, lt_int, le_int, gt_int, ge_int, eq_int, ne_int, isN_ev, notN_ev, len_tup, int_int, int_bl, max2_ev, Nat.le_refl, gc_rt_same, gc_nx_same, gc_ex_same, line_small, Nat.reduceLeDiff, Nat.zero_le, fld_early h.at_]) h.dic (by simp only [fnOf_ev, List.length_cons, List.length_nil, Nat.zero_add, Nat.reduceAdd, Nat.reduceSub, List.map_cons, List.map_nil, List.cons_append, List.nil_append, List.append_nil, List.replicate_zero, List.replicate_succ, sSeq_ev, seq_nx, seq_rt, seq_bk, seq_ct, seq_ex, seq_no, eVar_z, eVar_s, eC_ev, aNil_ev, aCons_ev, consK_ev, consK2_ev, eOp_ev, opK_ev, eUn_ev, eTup_ev, eLst_ev, tupK_ev, lstK_ev, eB_ev, eIf_ev, iteK_ev, eAnd_ev, eOr_ev, andR_bl, orR_bl, eNot_ev, notR_bl, asB_bl, tB_ev, tAnd_ev, tAndK_ev, tOr_ev, tOrK_ev, tNot_ev, tNotK_ev, tYes_ev, eChain_ev, chainK_ev, chainK1_ev, chainK2_ev, chainK3_ev, eFld_ev, eSl_ev, slK_ev, slK1_ev, oNo_ev, oAt_ev, atR_int, sNil_ev, sSet_ev, setK_ev, sE_ev, dropK_ev, sRet_ev, retK_ev, sRetN_ev, sIf_ev, sIfK_ev, sRz_ev, sRx_ev, rxK_ev, sPut_ev, putK0_ev, putK1_ev, putK2_ev, putK3_ev, sAsg_ev, List.set_cons_zero, List.set_cons_succ, bindOk, bindEx, bindNo, toOk, toEx, toNo, if_true, if_false, ite_true, ite_false, Bool.false_eq_true, Bool.true_eq_false, eq_self, decide_true, decide_false, Bool.not_true, Bool.not_false, reduceIte, reduceCtorEq, add_int, sub_int, neg_int, lt_int, le_int, gt_int, ge_int, eq_int, ne_int, isN_ev, notN_ev, len_tup, int_int, int_bl, max2_ev, Nat.le_refl, gc_rt_same, gc_nx_same, gc_ex_same, line_small, Nat.reduceLeDiff, Nat.zero_le, fld_due h.at_]) hx
  unfold takB
  simp only [fnOf_ev, List.length_cons, List.length_nil, Nat.zero_add, Nat.reduceAdd, Nat.reduceSub, List.map_cons, List.map_nil, List.cons_append, List.nil_append, List.append_nil, List.replicate_zero, List.replicate_succ, sSeq_ev, seq_nx, seq_rt, seq_bk, seq_ct, seq_ex, seq_no, eVar_z, eVar_s, eC_ev, aNil_ev, aCons_ev, consK_ev, consK2_ev, eOp_ev, opK_ev, eUn_ev, eTup_ev, eLst_ev, tupK_ev, lstK_ev, eB_ev, eIf_ev, iteK_ev, eAnd_ev, eOr_ev, andR_bl, orR_bl, eNot_ev, notR_bl, asB_bl, tB_ev, tAnd_ev, tAndK_ev, tOr_ev, tOrK_ev, tNot_ev, tNotK_ev, tYes_ev, eChain_ev, chainK_ev, chainK1_ev, chainK2_ev, chainK3_ev, eFld_ev, eSl_ev, slK_ev, slK1_ev, oNo_ev, oAt_ev, atR_int, sNil_ev, sSet_ev, setK_ev, sE_ev, dropK_ev, sRet_ev, retK_ev, sRetN_ev, sIf_ev, sIfK_ev, sRz_ev, sRx_ev, rxK_ev, sPut_ev, putK0_ev, putK1_ev, putK2_ev, putK3_ev, sAsg_ev, List.set_cons_zero, List.set_cons_succ, bindOk, bindEx, bindNo, toOk, toEx, toNo, if_true, if_false, ite_true, ite_false, Bool.false_eq_true, Bool.true_eq_false, eq_self, decide_true, decide_false, Bool.not_true, Bool.not_false, reduceIte, reduceCtorEq, add_int, sub_int, neg_int, lt_int, le_int, gt_int, ge_int, eq_int, ne_int, isN_ev, notN_ev, len_tup, int_int, int_bl, max2_ev, Nat.le_refl, gc_rt_same, gc_nx_same, gc_ex_same, line_small, Nat.reduceLeDiff, Nat.zero_le, eBMT_ev, bmtK_lst, hL, lstGo_lst, e3, append_ref, e1, apO_lst (eq_true (show acc.length < line by show _ < 16777216; omega))]
  rw [augFld_int (z := n) (u := 1) (i := e) (C := "Incoming") (fs := [("due", .int n), ("early", .ref d)]) rfl e2 (by simp) rfl rfl (by simp)]
  rfl
theorem drain_while : ∀ (f : Nat) (kvs : List (DK × D)) (n : Nat) (acc : List D) (S : Sto), kvs.length ≤ f → InS S e d n kvs → S[L]? = some (.lst acc) → L ≠ e → L ≠ d → acc.length + kvs.length < 1000 →
    ∃ S2, whileN takC takB (f + 1) [some (.ref e), a1, a2, some (.ref L)] S = .nx [some (.ref e), a1, a2, some (.ref L)] S2 ∧ S2.length = S.length ∧ InS S2 e d (drn (f + 1) kvs n acc).2.2 (drn (f + 1) kvs n acc).2.1 ∧ S2[L]? = some (.lst (drn (f + 1) kvs n acc).1) ∧ ∀ i, i ≠ e → i ≠ d → i ≠ L → S2[i]? = S[i]? := by
  intro f
  induction f with
  | zero =>
    intro kvs n acc S hf h hL n1 n2 hl
    have e0 : kvs = [] := List.length_eq_zero_iff.mp (by omega)
    subst e0
    exact ⟨S, whileN_endI (by rw [takC_ok h]; rfl), rfl, h, hL, fun _ _ _ _ => rfl⟩
  | succ f ih =>
    intro kvs n acc S hf h hL n1 n2 hl
    cases hx : dgetD kvs (kI n) with
    | none =>
      have ed : drn (f + 1 + 1) kvs n acc = (acc, kvs, n) := by unfold drn; rw [hx]
      rw [ed]
      exact ⟨S, whileN_endI (by rw [takC_ok h, hx]; rfl), rfl, h, hL, fun _ _ _ _ => rfl⟩
    | some x =>
      have ed : drn (f + 1 + 1) kvs n acc = drn (f + 1) (ddropD kvs (kI n)) (n + 1) (acc ++ [x]) := by conv => lhs; unfold drn; rw [hx]
      have lt := ddrop_lt hx
      have dl : d < S.length := (List.getElem?_eq_some_iff.mp h.dic).1
      have el : e < S.length := (List.getElem?_eq_some_iff.mp h.at_).1
      have Ll : L < S.length := (List.getElem?_eq_some_iff.mp hL).1
      rw [ed]
      obtain ⟨S2, w, len, i2, l2, fr⟩ := ih (ddropD kvs (kI n)) (n + 1) (acc ++ [x]) (((S.set d (.dic false (ddropD kvs (kI n)))).set L (.lst (acc ++ [x]))).set e (InO (n + 1) d)) (by omega)
        ⟨by simp [el], by rw [List.getElem?_set_ne h.neq, List.getElem?_set_ne n2]; simp [dl]⟩ (by rw [List.getElem?_set_ne (Ne.symm n1)]; simp [Ll]) n1 n2 (by rw [List.length_append, List.length_singleton]; omega)
      refine ⟨S2, by rw [whileN_goI (by rw [takC_ok h, hx]; rfl) (takB_ok h hL n1 n2 hx (by omega))]; exact w, by rw [len]; simp, i2, l2, fun i h1 h2 h3 => ?_⟩
      rw [fr i h1 h2 h3, List.getElem?_set_ne (Ne.symm h1), List.getElem?_set_ne (Ne.symm h3), List.getElem?_set_ne (Ne.symm h2)]
end
end KF
set_option Elab.async false
set_option linter.all false
set_option maxRecDepth 100000
set_option maxHeartbeats 4000000
namespace KF
open PySem
theorem putO_dicI {a n : Nat} {d : D} {S : Sto} {kvs : List (DK × D)} (h : kvs.length < 1000) : putO (some (.dic false kvs)) a (n : Int) d S = .ok () (S.set a (.dic false (dputD kvs (kI n) d))) := by
  have e : kvs.length < line := Nat.lt_trans h (by decide)
  show (if kvs.length < line then KF.R.ok () (S.set a (.dic false (dputD kvs (kI n) d))) else KF.R.no) = _
  rw [if_pos e]
def heldP (n : Nat) (kvs : List (DK × D)) (j : Nat) (x : D) : List (DK × D) := if n ≤ j ∧ j < n + 1000 ∧ dgetD kvs (kI j) = none then dputD kvs (kI j) x else kvs
theorem heldP_len {n j : Nat} {kvs : List (DK × D)} {x : D} : (heldP n kvs j x).length ≤ kvs.length + 1 := by
  unfold heldP
  split
  · exact dput_len
  · omega
theorem drn_fuel : ∀ (f g : Nat) (kvs : List (DK × D)) (n : Nat) (acc : List D), kvs.length ≤ f → kvs.length ≤ g → drn (f + 1) kvs n acc = drn (g + 1) kvs n acc := by
  intro f
  induction f with
  | zero =>
    intro g kvs n acc h1 h2
    have e0 : kvs = [] := List.length_eq_zero_iff.mp (by omega)
    subst e0
    rfl
  | succ f ih =>
    intro g kvs n acc h1 h2
    cases hx : dgetD kvs (kI n) with
    | none =>
      conv => lhs; unfold drn; rw [hx]
      conv => rhs; unfold drn; rw [hx]
    | some x =>
      have lt := ddrop_lt hx
      conv => lhs; unfold drn; rw [hx]
      conv => rhs; unfold drn; rw [hx]
      match g, h2 with
      | 0, h2 => omega
      | g + 1, h2 => exact ih g _ _ _ (by omega) (by omega)
section
variable {S : Sto} {e d n : Nat} {kvs : List (DK × D)}
theorem take_okI (h : InS S e d n kvs) (hl : kvs.length < 500) (j : Nat) (hj : j < 4294967296) (x : D) :
    ∃ S', F_Incoming_take [.ref e, .int j, x] S = .ok (.ref S.length) S' ∧ S'.length = S.length + 1 ∧ InS S' e d (drn 600 (heldP n kvs j x) n []).2.2 (drn 600 (heldP n kvs j x) n []).2.1 ∧ S'[S.length]? = some (.lst (drn 600 (heldP n kvs j x) n []).1) ∧ ∀ i, i ≠ e → i ≠ d → i ≠ S.length → S'[i]? = S[i]? := by
  have dl : d < S.length := (List.getElem?_eq_some_iff.mp h.dic).1
  have el : e < S.length := (List.getElem?_eq_some_iff.mp h.at_).1
  have b : isBelow 4294967296 (.int (j : Int)) = true := below_iff.mpr ⟨_, rfl, by omega, by omega⟩
  have key : ∀ S1 : Sto, S1.length = S.length → InS S1 e d n (heldP n kvs j x) → (∀ i, i ≠ e → i ≠ d → S1[i]? = S[i]?) →
      ∃ S', gcR S (sSeq (sSet 3 (eLst aNil)) (sSeq (sWhile takC takB) (sRet (eVar 3))) [some (.ref e), some (.int j), some x, none] S1) = .ok (.ref S.length) S' ∧ S'.length = S.length + 1 ∧ InS S' e d (drn 600 (heldP n kvs j x) n []).2.2 (drn 600 (heldP n kvs j x) n []).2.1 ∧ S'[S.length]? = some (.lst (drn 600 (heldP n kvs j x) n []).1) ∧ ∀ i, i ≠ e → i ≠ d → i ≠ S.length → S'[i]? = S[i]? := by
    intro S1 len h1 fr
    have hlen := heldP_len (n := n) (j := j) (kvs := kvs) (x := x)
    obtain ⟨S2, w, l2, i2, L2, f2⟩ := drain_while (e := e) (d := d) (L := S.length) (a1 := some (.int j)) (a2 := some x) 599 (heldP n kvs j x) n [] (S1 ++ [.lst []]) (by omega) ⟨app_at h1.at_, app_at h1.dic⟩ (by rw [← len]; exact last_at) (by omega) (by omega) (by simp; omega)
    have sw : sWhile takC takB [some (.ref e), some (.int j), some x, some (.ref S.length)] (S1 ++ [.lst []]) = _ := sWhile_of (by rw [w]; simp)
    rw [w] at sw
    refine ⟨S2, ?_, by rw [l2]; simp [len], i2, L2, fun i q1 q2 q3 => ?_⟩
    · simp only [fnOf_ev, List.length_cons, List.length_nil, Nat.zero_add, Nat.reduceAdd, Nat.reduceSub, List.map_cons, List.map_nil, List.cons_append, List.nil_append, List.append_nil, List.replicate_zero, List.replicate_succ, sSeq_ev, seq_nx, seq_rt, seq_bk, seq_ct, seq_ex, seq_no, eVar_z, eVar_s, eC_ev, aNil_ev, aCons_ev, consK_ev, consK2_ev, eOp_ev, opK_ev, eUn_ev, eTup_ev, eLst_ev, tupK_ev, lstK_ev, eB_ev, eIf_ev, iteK_ev, eAnd_ev, eOr_ev, andR_bl, orR_bl, eNot_ev, notR_bl, asB_bl, tB_ev, tAnd_ev, tAndK_ev, tOr_ev, tOrK_ev, tNot_ev, tNotK_ev, tYes_ev, eChain_ev, chainK_ev, chainK1_ev, chainK2_ev, chainK3_ev, eFld_ev, eSl_ev, slK_ev, slK1_ev, oNo_ev, oAt_ev, atR_int, sNil_ev, sSet_ev, setK_ev, sE_ev, dropK_ev, sRet_ev, retK_ev, sRetN_ev, sIf_ev, sIfK_ev, sRz_ev, sRx_ev, rxK_ev, sPut_ev, putK0_ev, putK1_ev, putK2_ev, putK3_ev, sAsg_ev, List.set_cons_zero, List.set_cons_succ, bindOk, bindEx, bindNo, toOk, toEx, toNo, if_true, if_false, ite_true, ite_false, Bool.false_eq_true, Bool.true_eq_false, eq_self, decide_true, decide_false, Bool.not_true, Bool.not_false, reduceIte, reduceCtorEq, add_int, sub_int, neg_int, lt_int, le_int, gt_int, ge_int, eq_int, ne_int, isN_ev, notN_ev, len_tup, int_int, int_bl, max2_ev, Nat.le_refl, gc_rt_same, gc_nx_same, gc_ex_same, line_small, Nat.reduceLeDiff, Nat.zero_le, len, sw]
      exact gc_rt_new (by unfold D.under; simp)
    · rw [f2 i q1 q2 q3]
      rcases Nat.lt_or_ge i S1.length with q | q
      · rw [List.getElem?_append_left q, fr i q1 q2]
      · rw [List.getElem?_eq_none (by simp; omega), List.getElem?_eq_none (by omega)]
  have put : InS (S.set d (.dic false (dputD kvs (kI j) x))) e d n (dputD kvs (kI j) x) := ⟨by rw [List.getElem?_set_ne (Ne.symm h.neq)]; exact h.at_, set_at h.dic⟩
  unfold takC takB at key
  unfold F_Incoming_take
  by_cases c1 : n ≤ j
  · have d1 : decide ((n : Int) ≤ (j : Int)) = true := decide_eq_true (by omega)
    by_cases c2 : j < n + 1000
    · have d2 : decide ((j : Int) < (n : Int) + 1000) = true := decide_eq_true (by omega)
      cases c3 : dgetD kvs (kI j) with
      | none =>
        simp only [fnOf_ev, List.length_cons, List.length_nil, Nat.zero_add, Nat.reduceAdd, Nat.reduceSub, List.map_cons, List.map_nil, List.cons_append, List.nil_append, List.append_nil, List.replicate_zero, List.replicate_succ, sSeq_ev, seq_nx, seq_rt, seq_bk, seq_ct, seq_ex, seq_no, eVar_z, eVar_s, eC_ev, aNil_ev, aCons_ev, consK_ev, consK2_ev, eOp_ev, opK_ev, eUn_ev, eTup_ev, eLst_ev, tupK_ev, lstK_ev, eB_ev, eIf_ev, iteK_ev, eAnd_ev, eOr_ev, andR_bl, orR_bl, eNot_ev, notR_bl, asB_bl, tB_ev, tAnd_ev, tAndK_ev, tOr_ev, tOrK_ev, tNot_ev, tNotK_ev, tYes_ev, eChain_ev, chainK_ev, chainK1_ev, chainK2_ev, chainK3_ev, eFld_ev, eSl_ev, slK_ev, slK1_ev, oNo_ev, oAt_ev, atR_int, sNil_ev, sSet_ev, setK_ev, sE_ev, dropK_ev, sRet_ev, retK_ev, sRetN_ev, sIf_ev, sIfK_ev, sRz_ev, sRx_ev, rxK_ev, sPut_ev, putK0_ev, putK1_ev, putK2_ev, putK3_ev, sAsg_ev, List.set_cons_zero, List.set_cons_succ, bindOk, bindEx, bindNo, toOk, toEx, toNo, if_true, if_false, ite_true, ite_false, Bool.false_eq_true, Bool.true_eq_false, eq_self, decide_true, decide_false, Bool.not_true, Bool.not_false, reduceIte, reduceCtorEq, add_int, sub_int, neg_int, lt_int, le_int, gt_int, ge_int, eq_int, ne_int, isN_ev, notN_ev, len_tup, int_int, int_bl, max2_ev, Nat.le_refl, gc_rt_same, gc_nx_same, gc_ex_same, line_small, Nat.reduceLeDiff, Nat.zero_le, is_below_ok (S := S) (d := .int (j : Int)) (b := 4294967296) kn_int, b, fld_due h.at_, fld_early h.at_, d1, d2, in_ref, h.dic, inO_not, c3, Option.isSome_none, put_ref, putO_dicI (S := S) (a := d) (n := j) (d := x) (kvs := kvs) (by omega)]
        have eh : heldP n kvs j x = dputD kvs (kI j) x := if_pos ⟨c1, c2, c3⟩
        have := key (S.set d (.dic false (dputD kvs (kI j) x))) (by simp) (by rw [eh]; exact put) fun i _ q => List.getElem?_set_ne (Ne.symm q)
        simp only [fnOf_ev, List.length_cons, List.length_nil, Nat.zero_add, Nat.reduceAdd, Nat.reduceSub, List.map_cons, List.map_nil, List.cons_append, List.nil_append, List.append_nil, List.replicate_zero, List.replicate_succ, sSeq_ev, seq_nx, seq_rt, seq_bk, seq_ct, seq_ex, seq_no, eVar_z, eVar_s, eC_ev, aNil_ev, aCons_ev, consK_ev, consK2_ev, eOp_ev, opK_ev, eUn_ev, eTup_ev, eLst_ev, tupK_ev, lstK_ev, eB_ev, eIf_ev, iteK_ev, eAnd_ev, eOr_ev, andR_bl, orR_bl, eNot_ev, notR_bl, asB_bl, tB_ev, tAnd_ev, tAndK_ev, tOr_ev, tOrK_ev, tNot_ev, tNotK_ev, tYes_ev, eChain_ev, chainK_ev, chainK1_ev, chainK2_ev, chainK3_ev, eFld_ev, eSl_ev, slK_ev, slK1_ev, oNo_ev, oAt_ev, atR_int, sNil_ev, sSet_ev, setK_ev, sE_ev, dropK_ev, sRet_ev, retK_ev, sRetN_ev, sIf_ev, sIfK_ev, sRz_ev, sRx_ev, rxK_ev, sPut_ev, putK0_ev, putK1_ev, putK2_ev, putK3_ev, sAsg_ev, List.set_cons_zero, List.set_cons_succ, bindOk, bindEx, bindNo, toOk, toEx, toNo, if_true, if_false, ite_true, ite_false, Bool.false_eq_true, Bool.true_eq_false, eq_self, decide_true, decide_false, Bool.not_true, Bool.not_false, reduceIte, reduceCtorEq, add_int, sub_int, neg_int, lt_int, le_int, gt_int, ge_int, eq_int, ne_int, isN_ev, notN_ev, len_tup, int_int, int_bl, max2_ev, Nat.le_refl, gc_rt_same, gc_nx_same, gc_ex_same, line_small, Nat.reduceLeDiff, Nat.zero_le] at this
        exact this
      | some y =>
        simp only [fnOf_ev, List.length_cons, List.length_nil, Nat.zero_add, Nat.reduceAdd, Nat.reduceSub, List.map_cons, List.map_nil, List.cons_append, List.nil_append, List.append_nil, List.replicate_zero, List.replicate_succ, sSeq_ev, seq_nx, seq_rt, seq_bk, seq_ct, seq_ex, seq_no, eVar_z, eVar_s, eC_ev, aNil_ev, aCons_ev, consK_ev, consK2_ev, eOp_ev, opK_ev, eUn_ev, eTup_ev, eLst_ev, tupK_ev, lstK_ev, eB_ev, eIf_ev, iteK_ev, eAnd_ev, eOr_ev, andR_bl, orR_bl, eNot_ev, notR_bl, asB_bl, tB_ev, tAnd_ev, tAndK_ev, tOr_ev, tOrK_ev, tNot_ev, tNotK_ev, tYes_ev, eChain_ev, chainK_ev, chainK1_ev, chainK2_ev, chainK3_ev, eFld_ev, eSl_ev, slK_ev, slK1_ev, oNo_ev, oAt_ev, atR_int, sNil_ev, sSet_ev, setK_ev, sE_ev, dropK_ev, sRet_ev, retK_ev, sRetN_ev, sIf_ev, sIfK_ev, sRz_ev, sRx_ev, rxK_ev, sPut_ev, putK0_ev, putK1_ev, putK2_ev, putK3_ev, sAsg_ev, List.set_cons_zero, List.set_cons_succ, bindOk, bindEx, bindNo, toOk, toEx, toNo, if_true, if_false, ite_true, ite_false, Bool.false_eq_true, Bool.true_eq_false, eq_self, decide_true, decide_false, Bool.not_true, Bool.not_false, reduceIte, reduceCtorEq, add_int, sub_int, neg_int, lt_int, le_int, gt_int, ge_int, eq_int, ne_int, isN_ev, notN_ev, len_tup, int_int, int_bl, max2_ev, Nat.le_refl, gc_rt_same, gc_nx_same, gc_ex_same, line_small, Nat.reduceLeDiff, Nat.zero_le, is_below_ok (S := S) (d := .int (j : Int)) (b := 4294967296) kn_int, b, fld_due h.at_, fld_early h.at_, d1, d2, in_ref, h.dic, inO_not, c3, Option.isSome_some]
        have eh : heldP n kvs j x = kvs := if_neg fun q => by rw [c3] at q; cases q.2.2
        have := key S rfl (by rw [eh]; exact h) fun i _ q => rfl
        simp only [fnOf_ev, List.length_cons, List.length_nil, Nat.zero_add, Nat.reduceAdd, Nat.reduceSub, List.map_cons, List.map_nil, List.cons_append, List.nil_append, List.append_nil, List.replicate_zero, List.replicate_succ, sSeq_ev, seq_nx, seq_rt, seq_bk, seq_ct, seq_ex, seq_no, eVar_z, eVar_s, eC_ev, aNil_ev, aCons_ev, consK_ev, consK2_ev, eOp_ev, opK_ev, eUn_ev, eTup_ev, eLst_ev, tupK_ev, lstK_ev, eB_ev, eIf_ev, iteK_ev, eAnd_ev, eOr_ev, andR_bl, orR_bl, eNot_ev, notR_bl, asB_bl, tB_ev, tAnd_ev, tAndK_ev, tOr_ev, tOrK_ev, tNot_ev, tNotK_ev, tYes_ev, eChain_ev, chainK_ev, chainK1_ev, chainK2_ev, chainK3_ev, eFld_ev, eSl_ev, slK_ev, slK1_ev, oNo_ev, oAt_ev, atR_int, sNil_ev, sSet_ev, setK_ev, sE_ev, dropK_ev, sRet_ev, retK_ev, sRetN_ev, sIf_ev, sIfK_ev, sRz_ev, sRx_ev, rxK_ev, sPut_ev, putK0_ev, putK1_ev, putK2_ev, putK3_ev, sAsg_ev, List.set_cons_zero, List.set_cons_succ, bindOk, bindEx, bindNo, toOk, toEx, toNo, if_true, if_false, ite_true, ite_false, Bool.false_eq_true, Bool.true_eq_false, eq_self, decide_true, decide_false, Bool.not_true, Bool.not_false, reduceIte, reduceCtorEq, add_int, sub_int, neg_int, lt_int, le_int, gt_int, ge_int, eq_int, ne_int, isN_ev, notN_ev, len_tup, int_int, int_bl, max2_ev, Nat.le_refl, gc_rt_same, gc_nx_same, gc_ex_same, line_small, Nat.reduceLeDiff, Nat.zero_le] at this
        exact this
    · have d2 : decide ((j : Int) < (n : Int) + 1000) = false := decide_eq_false (by omega)
      simp only [fnOf_ev, List.length_cons, List.length_nil, Nat.zero_add, Nat.reduceAdd, Nat.reduceSub, List.map_cons, List.map_nil, List.cons_append, List.nil_append, List.append_nil, List.replicate_zero, List.replicate_succ, sSeq_ev, seq_nx, seq_rt, seq_bk, seq_ct, seq_ex, seq_no, eVar_z, eVar_s, eC_ev, aNil_ev, aCons_ev, consK_ev, consK2_ev, eOp_ev, opK_ev, eUn_ev, eTup_ev, eLst_ev, tupK_ev, lstK_ev, eB_ev, eIf_ev, iteK_ev, eAnd_ev, eOr_ev, andR_bl, orR_bl, eNot_ev, notR_bl, asB_bl, tB_ev, tAnd_ev, tAndK_ev, tOr_ev, tOrK_ev, tNot_ev, tNotK_ev, tYes_ev, eChain_ev, chainK_ev, chainK1_ev, chainK2_ev, chainK3_ev, eFld_ev, eSl_ev, slK_ev, slK1_ev, oNo_ev, oAt_ev, atR_int, sNil_ev, sSet_ev, setK_ev, sE_ev, dropK_ev, sRet_ev, retK_ev, sRetN_ev, sIf_ev, sIfK_ev, sRz_ev, sRx_ev, rxK_ev, sPut_ev, putK0_ev, putK1_ev, putK2_ev, putK3_ev, sAsg_ev, List.set_cons_zero, List.set_cons_succ, bindOk, bindEx, bindNo, toOk, toEx, toNo, if_true, if_false, ite_true, ite_false, Bool.false_eq_true, Bool.true_eq_false, eq_self, decide_true, decide_false, Bool.not_true, Bool.not_false, reduceIte, reduceCtorEq, add_int, sub_int, neg_int, lt_int, le_int, gt_int, ge_int, eq_int, ne_int, isN_ev, notN_ev, len_tup, int_int, int_bl, max2_ev, Nat.le_refl, gc_rt_same, gc_nx_same, gc_ex_same, line_small, Nat.reduceLeDiff, Nat.zero_le, is_below_ok (S := S) (d := .int (j : Int)) (b := 4294967296) kn_int, b, fld_due h.at_, fld_early h.at_, d1, d2]
      have eh : heldP n kvs j x = kvs := if_neg fun q => c2 q.2.1
      have := key S rfl (by rw [eh]; exact h) fun i _ q => rfl
      simp only [fnOf_ev, List.length_cons, List.length_nil, Nat.zero_add, Nat.reduceAdd, Nat.reduceSub, List.map_cons, List.map_nil, List.cons_append, List.nil_append, List.append_nil, List.replicate_zero, List.replicate_succ, sSeq_ev, seq_nx, seq_rt, seq_bk, seq_ct, seq_ex, seq_no, eVar_z, eVar_s, eC_ev, aNil_ev, aCons_ev, consK_ev, consK2_ev, eOp_ev, opK_ev, eUn_ev, eTup_ev, eLst_ev, tupK_ev, lstK_ev, eB_ev, eIf_ev, iteK_ev, eAnd_ev, eOr_ev, andR_bl, orR_bl, eNot_ev, notR_bl, asB_bl, tB_ev, tAnd_ev, tAndK_ev, tOr_ev, tOrK_ev, tNot_ev, tNotK_ev, tYes_ev, eChain_ev, chainK_ev, chainK1_ev, chainK2_ev, chainK3_ev, eFld_ev, eSl_ev, slK_ev, slK1_ev, oNo_ev, oAt_ev, atR_int, sNil_ev, sSet_ev, setK_ev, sE_ev, dropK_ev, sRet_ev, retK_ev, sRetN_ev, sIf_ev, sIfK_ev, sRz_ev, sRx_ev, rxK_ev, sPut_ev, putK0_ev, putK1_ev, putK2_ev, putK3_ev, sAsg_ev, List.set_cons_zero, List.set_cons_succ, bindOk, bindEx, bindNo, toOk, toEx, toNo, if_true, if_false, ite_true, ite_false, Bool.false_eq_true, Bool.true_eq_false, eq_self, decide_true, decide_false, Bool.not_true, Bool.not_false, reduceIte, reduceCtorEq, add_int, sub_int, neg_int, lt_int, le_int, gt_int, ge_int, eq_int, ne_int, isN_ev, notN_ev, len_tup, int_int, int_bl, max2_ev, Nat.le_refl, gc_rt_same, gc_nx_same, gc_ex_same, line_small, Nat.reduceLeDiff, Nat.zero_le] at this
      exact this
  · have d1 : decide ((n : Int) ≤ (j : Int)) = false := decide_eq_false (by omega)
    simp only [fnOf_ev, List.length_cons, List.length_nil, Nat.zero_add, Nat.reduceAdd, Nat.reduceSub, List.map_cons, List.map_nil, List.cons_append, List.nil_append, List.append_nil, List.replicate_zero, List.replicate_succ, sSeq_ev, seq_nx, seq_rt, seq_bk, seq_ct, seq_ex, seq_no, eVar_z, eVar_s, eC_ev, aNil_ev, aCons_ev, consK_ev, consK2_ev, eOp_ev, opK_ev, eUn_ev, eTup_ev, eLst_ev, tupK_ev, lstK_ev, eB_ev, eIf_ev, iteK_ev, eAnd_ev, eOr_ev, andR_bl, orR_bl, eNot_ev, notR_bl, asB_bl, tB_ev, tAnd_ev, tAndK_ev, tOr_ev, tOrK_ev, tNot_ev, tNotK_ev, tYes_ev, eChain_ev, chainK_ev, chainK1_ev, chainK2_ev, chainK3_ev, eFld_ev, eSl_ev, slK_ev, slK1_ev, oNo_ev, oAt_ev, atR_int, sNil_ev, sSet_ev, setK_ev, sE_ev, dropK_ev, sRet_ev, retK_ev, sRetN_ev, sIf_ev, sIfK_ev, sRz_ev, sRx_ev, rxK_ev, sPut_ev, putK0_ev, putK1_ev, putK2_ev, putK3_ev, sAsg_ev, List.set_cons_zero, List.set_cons_succ, bindOk, bindEx, bindNo, toOk, toEx, toNo, if_true, if_false, ite_true, ite_false, Bool.false_eq_true, Bool.true_eq_false, eq_self, decide_true, decide_false, Bool.not_true, Bool.not_false, reduceIte, reduceCtorEq, add_int, sub_int, neg_int, lt_int, le_int, gt_int, ge_int, eq_int, ne_int, isN_ev, notN_ev, len_tup, int_int, int_bl, max2_ev, Nat.le_refl, gc_rt_same, gc_nx_same, gc_ex_same, line_small, Nat.reduceLeDiff, Nat.zero_le, is_below_ok (S := S) (d := .int (j : Int)) (b := 4294967296) kn_int, b, fld_due h.at_, fld_early h.at_, d1]
    have eh : heldP n kvs j x = kvs := if_neg fun q => c1 q.1
    have := key S rfl (by rw [eh]; exact h) fun i _ q => rfl
    simp only [fnOf_ev, List.length_cons, List.length_nil, Nat.zero_add, Nat.reduceAdd, Nat.reduceSub, List.map_cons, List.map_nil, List.cons_append, List.nil_append, List.append_nil, List.replicate_zero, List.replicate_succ, sSeq_ev, seq_nx, seq_rt, seq_bk, seq_ct, seq_ex, seq_no, eVar_z, eVar_s, eC_ev, aNil_ev, aCons_ev, consK_ev, consK2_ev, eOp_ev, opK_ev, eUn_ev, eTup_ev, eLst_ev, tupK_ev, lstK_ev, eB_ev, eIf_ev, iteK_ev, eAnd_ev, eOr_ev, andR_bl, orR_bl, eNot_ev, notR_bl, asB_bl, tB_ev, tAnd_ev, tAndK_ev, tOr_ev, tOrK_ev, tNot_ev, tNotK_ev, tYes_ev, eChain_ev, chainK_ev, chainK1_ev, chainK2_ev, chainK3_ev, eFld_ev, eSl_ev, slK_ev, slK1_ev, oNo_ev, oAt_ev, atR_int, sNil_ev, sSet_ev, setK_ev, sE_ev, dropK_ev, sRet_ev, retK_ev, sRetN_ev, sIf_ev, sIfK_ev, sRz_ev, sRx_ev, rxK_ev, sPut_ev, putK0_ev, putK1_ev, putK2_ev, putK3_ev, sAsg_ev, List.set_cons_zero, List.set_cons_succ, bindOk, bindEx, bindNo, toOk, toEx, toNo, if_true, if_false, ite_true, ite_false, Bool.false_eq_true, Bool.true_eq_false, eq_self, decide_true, decide_false, Bool.not_true, Bool.not_false, reduceIte, reduceCtorEq, add_int, sub_int, neg_int, lt_int, le_int, gt_int, ge_int, eq_int, ne_int, isN_ev, notN_ev, len_tup, int_int, int_bl, max2_ev, Nat.le_refl, gc_rt_same, gc_nx_same, gc_ex_same, line_small, Nat.reduceLeDiff, Nat.zero_le] at this
    exact this
end
end KF
set_option Elab.async false
set_option linter.all false
set_option maxRecDepth 100000
set_option maxHeartbeats 4000000
namespace KF
open PySem
def kSt (x : Str) : DK := .inl (.inr x)
def MO (n d : Nat) : GO := .dic false [(kSt "taken", .int n), (kSt "held", .ref d)]
structure Mi (S : Sto) (m d n : Nat) (kvs : List (DK × D)) : Prop where
  at_ : S[m]? = some (MO n d)
  dic : S[d]? = some (.dic false kvs)
  neq : m ≠ d
noncomputable def hrdB : FS := sSeq (sIf (tB (eOp (opInD true) (eOp opIx (eVar 0) (eC (.str "taken"))) (eOp opIx (eVar 0) (eC (.str "held")))))
    sBreak
    sNil)
    (sSeq (sE (eBMT "list" mAppend (eVar 4) (aCons (ePop1 (eOp opIx (eVar 0) (eC (.str "held"))) (eOp opIx (eVar 0) (eC (.str "taken")))) aNil)))
    (sPut (eVar 0) (eC (.str "taken")) (eOp opAdd (eOp opIx (eVar 0) (eC (.str "taken"))) (eC (.int 1)))))
section
variable {S : Sto} {m d n L : Nat} {kvs : List (DK × D)} {acc : List D} {x : D}
theorem ix_taken (h : S[m]? = some (MO n d)) : opIx (.ref m) (.str "taken") S = .ok (.int n) S := by
  unfold opIx
  simp only [h, MO]
  rfl
theorem ix_held (h : S[m]? = some (MO n d)) : opIx (.ref m) (.str "held") S = .ok (.ref d) S := by
  unfold opIx
  simp only [h, MO]
  rfl
theorem put_taken {k : Int} (h : S[m]? = some (MO n d)) : putIx (.ref m) (.str "taken") (.int k) S = .ok () (S.set m (.dic false [(kSt "taken", .int k), (kSt "held", .ref d)])) := by
  unfold putIx
  simp only [h, MO]
  rfl
theorem MO_succ : (GO.dic false [(kSt "taken", .int ((n : Int) + 1)), (kSt "held", .ref d)]) = MO (n + 1) d := rfl
theorem sBreak_evI (δ : Env) (S : Sto) : sBreak δ S = .bk δ S := id rfl
theorem hrdB_end {a1 a2 a3 a5 : Option D} (h : Mi S m d n kvs) (hx : dgetD kvs (kI n) = none) : hrdB [some (.ref m), a1, a2, a3, some (.ref L), a5] S = .bk [some (.ref m), a1, a2, a3, some (.ref L), a5] S := by
  unfold hrdB
  simp only [fnOf_ev, List.length_cons, List.length_nil, Nat.zero_add, Nat.reduceAdd, Nat.reduceSub, List.map_cons, List.map_nil, List.cons_append, List.nil_append, List.append_nil, List.replicate_zero, List.replicate_succ, sSeq_ev, seq_nx, seq_rt, seq_bk, seq_ct, seq_ex, seq_no, eVar_z, eVar_s, eC_ev, aNil_ev, aCons_ev, consK_ev, consK2_ev, eOp_ev, opK_ev, eUn_ev, eTup_ev, eLst_ev, tupK_ev, lstK_ev, eB_ev, eIf_ev, iteK_ev, eAnd_ev, eOr_ev, andR_bl, orR_bl, eNot_ev, notR_bl, asB_bl, tB_ev, tAnd_ev, tAndK_ev, tOr_ev, tOrK_ev, tNot_ev, tNotK_ev, tYes_ev, eChain_ev, chainK_ev, chainK1_ev, chainK2_ev, chainK3_ev, eFld_ev, eSl_ev, slK_ev, slK1_ev, oNo_ev, oAt_ev, atR_int, sNil_ev, sSet_ev, setK_ev, sE_ev, dropK_ev, sRet_ev, retK_ev, sRetN_ev, sIf_ev, sIfK_ev, sRz_ev, sRx_ev, rxK_ev, sPut_ev, putK0_ev, putK1_ev, putK2_ev, putK3_ev, sAsg_ev, List.set_cons_zero, List.set_cons_succ, bindOk, bindEx, bindNo, toOk, toEx, toNo, if_true, if_false, ite_true, ite_false, Bool.false_eq_true, Bool.true_eq_false, eq_self, decide_true, decide_false, Bool.not_true, Bool.not_false, reduceIte, reduceCtorEq, add_int, sub_int, neg_int, lt_int, le_int, gt_int, ge_int, eq_int, ne_int, isN_ev, notN_ev, len_tup, int_int, int_bl, max2_ev, Nat.le_refl, gc_rt_same, gc_nx_same, gc_ex_same, line_small, Nat.reduceLeDiff, Nat.zero_le, ix_taken h.at_, ix_held h.at_, in_ref, h.dic, inO_not, hx, Option.isSome_none, sBreak_evI]
theorem hrdB_ok {a1 a2 a3 a5 : Option D} (h : Mi S m d n kvs) (hL : S[L]? = some (.lst acc)) (n1 : L ≠ m) (n2 : L ≠ d) (hx : dgetD kvs (kI n) = some x) (ha : acc.length < 1000) :
    hrdB [some (.ref m), a1, a2, a3, some (.ref L), a5] S = .nx [some (.ref m), a1, a2, a3, some (.ref L), a5] (((S.set d (.dic false (ddropD kvs (kI n)))).set L (.lst (acc ++ [x]))).set m (MO (n + 1) d)) := by
  have e1 : (S.set d (GO.dic false (ddropD kvs (kI n))))[L]? = some (.lst acc) := by rw [List.getElem?_set_ne (Ne.symm n2)]; exact hL
  have e2 : ((S.set d (GO.dic false (ddropD kvs (kI n)))).set L (GO.lst (acc ++ [x])))[m]? = some (MO n d) := by
    rw [List.getElem?_set_ne n1, List.getElem?_set_ne (Ne.symm h.neq)]; exact h.at_
  have e3 := pop_dic (o := eOp opIx (eVar 0) (eC (.str "held"))) (a := eOp opIx (eVar 0) (eC (.str "taken"))) (δ := [some (.ref m), a1, a2, a3, some (.ref L), a5]) (S := S) (i := d) (n := n) (kvs := kvs) (x := x) (by simp only [fnOf_ev, List.length_cons, List.length_nil, Nat.zero_add, Nat.reduceAdd, Nat.reduceSub, List.map_cons, List.map_nil, List.cons_append, List.nil_append, List.append_nil, List.replicate_zero, List.replicate_succ, sSeq_ev, seq_nx, seq_rt, seq_bk, seq_ct, seq_ex, seq_no, eVar_z, eVar_s, eC_ev, aNil_ev, aCons_ev, consK_ev, consK2_ev, eOp_ev, opK_ev, eUn_ev, eTup_ev, eLst_ev, tupK_ev, lstK_ev, eB_ev, eIf_ev, iteK_ev, eAnd_ev, eOr_ev, andR_bl, orR_bl, eNot_ev, notR_bl, asB_bl, tB_ev, tAnd_ev, tAndK_ev, tOr_ev, tOrK_ev, tNot_ev, tNotK_ev, tYes_ev, eChain_ev, chainK_ev, chainK1_ev, chainK2_ev, chainK3_ev, eFld_ev, eSl_ev, slK_ev, slK1_ev, oNo_ev, oAt_ev, atR_int, sNil_ev, sSet_ev, setK_ev, sE_ev, dropK_ev, sRet_ev, retK_ev, sRetN_ev, sIf_ev, sIfK_ev, sRz_ev, sRx_ev, rxK_ev, sPut_ev, putK0_ev, putK1_ev, putK2_ev, putK3_ev, sAsg_ev, List.set_cons_zero, List.set_cons_succ, bindOk, bindEx, bindNo, toOk, toEx, toNo, if_true, if_false, ite_true, ite_false, Bool.false_eq_true, Bool.true_eq_false, eq_self, decide_true, decide_false, Bool.not_true, Bool.not_false, reduceIte, reduceCtorEq, add_int, sub_int, neg_int, lt_int, le_int, gt_int, ge_int, eq_int, ne_int, isN_ev, notN_ev, len_tup, int_int, int_bl, max2_ev, Nat.le_refl, gc_rt_same, gc_nx_same, gc_ex_same, line_small, Nat.reduceLeDiff, Nat.zero_le, ix_held h.at_]) h.dic (by simp only [fnOf_ev, List.length_cons, List.length_nil, Nat.zero_add, Nat.reduceAdd, Nat.reduceSub, List.map_cons, List.map_nil, List.cons_append, List.nil_append, List.append_nil, List.replicate_zero, List.replicate_succ, sSeq_ev, seq_nx, seq_rt, seq_bk, seq_ct, seq_ex, seq_no, eVar_z, eVar_s, eC_ev, aNil_ev, aCons_ev, consK_ev, consK2_ev, eOp_ev, opK_ev, eUn_ev, eTup_ev, eLst_ev, tupK_ev, lstK_ev, eB_ev, eIf_ev, iteK_ev, eAnd_ev, eOr_ev, andR_bl, orR_bl, eNot_ev, notR_bl, asB_bl, tB_ev, tAnd_ev, tAndK_ev, tOr_ev, tOrK_ev, tNot_ev, tNotK_ev, tYes_ev, eChain_ev, chainK_ev, chainK1_ev, chainK2_ev, chainK3_ev, eFld_ev, eSl_ev, slK_ev, slK1_ev, oNo_ev, oAt_ev, atR_int, sNil_ev, sSet_ev, setK_ev, sE_ev, dropK_ev, sRet_ev, retK_ev, sRetN_ev, sIf_ev, sIfK_ev, sRz_ev, sRx_ev, rxK_ev, sPut_ev, putK0_ev, putK1_ev, putK2_ev, putK3_ev, sAsg_ev, List.set_cons_zero, List.set_cons_succ, bindOk, bindEx, bindNo, toOk, toEx, toNo, if_true, if_false, ite_true, ite_false, Bool.false_eq_true, Bool.true_eq_false, eq_self, decide_true, decide_false, Bool.not_true, Bool.not_false, reduceIte, reduceCtorEq, add_int, sub_int, neg_int, lt_int, le_int, gt_int, ge_int, eq_int, ne_int, isN_ev, notN_ev, len_tup, int_int, int_bl, max2_ev, Nat.le_refl, gc_rt_same, gc_nx_same, gc_ex_same, line_small, Nat.reduceLeDiff, Nat.zero_le, ix_taken h.at_]) hx
  unfold hrdB
  simp only [fnOf_ev, List.length_cons, List.length_nil, Nat.zero_add, Nat.reduceAdd, Nat.reduceSub, List.map_cons, List.map_nil, List.cons_append, List.nil_append, List.append_nil, List.replicate_zero, List.replicate_succ, sSeq_ev, seq_nx, seq_rt, seq_bk, seq_ct, seq_ex, seq_no, eVar_z, eVar_s, eC_ev, aNil_ev, aCons_ev, consK_ev, consK2_ev, eOp_ev, opK_ev, eUn_ev, eTup_ev, eLst_ev, tupK_ev, lstK_ev, eB_ev, eIf_ev, iteK_ev, eAnd_ev, eOr_ev, andR_bl, orR_bl, eNot_ev, notR_bl, asB_bl, tB_ev, tAnd_ev, tAndK_ev, tOr_ev, tOrK_ev, tNot_ev, tNotK_ev, tYes_ev, eChain_ev, chainK_ev, chainK1_ev, chainK2_ev, chainK3_ev, eFld_ev, eSl_ev, slK_ev, slK1_ev, oNo_ev, oAt_ev, atR_int, sNil_ev, sSet_ev, setK_ev, sE_ev, dropK_ev, sRet_ev, retK_ev, sRetN_ev, sIf_ev, sIfK_ev, sRz_ev, sRx_ev, rxK_ev, sPut_ev, putK0_ev, putK1_ev, putK2_ev, putK3_ev, sAsg_ev, List.set_cons_zero, List.set_cons_succ, bindOk, bindEx, bindNo, toOk, toEx, toNo, if_true, if_false, ite_true, ite_false, Bool.false_eq_true, Bool.true_eq_false, eq_self, decide_true, decide_false, Bool.not_true, Bool.not_false, reduceIte, reduceCtorEq, add_int, sub_int, neg_int, lt_int, le_int, gt_int, ge_int, eq_int, ne_int, isN_ev, notN_ev, len_tup, int_int, int_bl, max2_ev, Nat.le_refl, gc_rt_same, gc_nx_same, gc_ex_same, line_small, Nat.reduceLeDiff, Nat.zero_le, ix_taken h.at_, ix_held h.at_, in_ref, h.dic, inO_not, hx, Option.isSome_some, eBMT_ev, bmtK_lst, hL, lstGo_lst, e3, append_ref, e1, apO_lst (eq_true (show acc.length < line by show _ < 16777216; omega)), ix_taken e2, put_taken e2, MO_succ]
theorem heard_loop {a1 a2 a3 : Option D} : ∀ (xs : List D) (kvs : List (DK × D)) (n : Nat) (acc : List D) (S : Sto) (a5 : Option D), Mi S m d n kvs → S[L]? = some (.lst acc) → L ≠ m → L ≠ d → acc.length + kvs.length < 1000 →
    ∃ S2 b5, loopF [] (.name 5) hrdB xs [some (.ref m), a1, a2, a3, some (.ref L), a5] S = .nx [some (.ref m), a1, a2, a3, some (.ref L), b5] S2 ∧ S2.length = S.length ∧ Mi S2 m d (drn xs.length kvs n acc).2.2 (drn xs.length kvs n acc).2.1 ∧ S2[L]? = some (.lst (drn xs.length kvs n acc).1) ∧ ∀ i, i ≠ m → i ≠ d → i ≠ L → S2[i]? = S[i]? := by
  intro xs
  induction xs with
  | nil =>
    intro kvs n acc S a5 h hL n1 n2 hl
    refine ⟨S, a5, ?_, rfl, h, hL, fun _ _ _ _ => rfl⟩
    unfold loopF
    rw [if_pos live_nil]
  | cons y xs ih =>
    intro kvs n acc S a5 h hL n1 n2 hl
    have step : loopF [] (.name 5) hrdB (y :: xs) [some (.ref m), a1, a2, a3, some (.ref L), a5] S = match hrdB [some (.ref m), a1, a2, a3, some (.ref L), some y] S with
        | .nx δ' S' => loopF [] (.name 5) hrdB xs δ' S'
        | .ct δ' S' => loopF [] (.name 5) hrdB xs δ' S'
        | .bk δ' S' => .nx δ' S'
        | r => r := by
      conv => lhs; unfold loopF
      rw [if_pos live_nil, asg_name]
      rfl
    rw [step]
    cases hx : dgetD kvs (kI n) with
    | none =>
      have ed : drn (y :: xs).length kvs n acc = (acc, kvs, n) := by rw [List.length_cons]; unfold drn; rw [hx]
      rw [ed, hrdB_end h hx]
      exact ⟨S, some y, rfl, rfl, h, hL, fun _ _ _ _ => rfl⟩
    | some x =>
      have ed : drn (y :: xs).length kvs n acc = drn xs.length (ddropD kvs (kI n)) (n + 1) (acc ++ [x]) := by rw [List.length_cons]; conv => lhs; unfold drn; rw [hx]
      have lt := ddrop_lt hx
      have dl : d < S.length := (List.getElem?_eq_some_iff.mp h.dic).1
      have ml : m < S.length := (List.getElem?_eq_some_iff.mp h.at_).1
      have Ll : L < S.length := (List.getElem?_eq_some_iff.mp hL).1
      rw [ed, hrdB_ok h hL n1 n2 hx (by omega)]
      obtain ⟨S2, b5, w, len, i2, l2, fr⟩ := ih (ddropD kvs (kI n)) (n + 1) (acc ++ [x]) (((S.set d (.dic false (ddropD kvs (kI n)))).set L (.lst (acc ++ [x]))).set m (MO (n + 1) d)) (some y)
        ⟨by simp [ml], by rw [List.getElem?_set_ne h.neq, List.getElem?_set_ne n2]; simp [dl], h.neq⟩ (by rw [List.getElem?_set_ne (Ne.symm n1)]; simp [Ll]) n1 n2 (by rw [List.length_append, List.length_singleton]; omega)
      refine ⟨S2, b5, w, by rw [len]; simp, i2, l2, fun i h1 h2 h3 => ?_⟩
      rw [fr i h1 h2 h3, List.getElem?_set_ne (Ne.symm h1), List.getElem?_set_ne (Ne.symm h3), List.getElem?_set_ne (Ne.symm h2)]
theorem heard_okI (h : Mi S m d n kvs) (hl : kvs.length < 500) (j : Nat) (x : D) :
    ∃ S', F_law_heard [.ref m, .int j, x] S = .ok (.ref S.length) S' ∧ S'.length = S.length + 1 ∧ Mi S' m d (drn 600 (heldP n kvs j x) n []).2.2 (drn 600 (heldP n kvs j x) n []).2.1 ∧ S'[S.length]? = some (.lst (drn 600 (heldP n kvs j x) n []).1) ∧ ∀ i, i ≠ m → i ≠ d → i ≠ S.length → S'[i]? = S[i]? := by
  have dl : d < S.length := (List.getElem?_eq_some_iff.mp h.dic).1
  have ml : m < S.length := (List.getElem?_eq_some_iff.mp h.at_).1
  have key : ∀ (S1 : Sto) (a3 : Option D), S1.length = S.length → Mi S1 m d n (heldP n kvs j x) → (∀ i, i ≠ m → i ≠ d → S1[i]? = S[i]?) →
      ∃ S', gcR S (sSeq (sSet 4 (eLst aNil)) (sSeq (sFor (iRng1 (aCons (eOp opAdd (eB bLen (aCons (eOp opIx (eVar 0) (eC (.str "held"))) aNil)) (eC (.int 1))) aNil)) (.name 5) hrdB) (sRet (eVar 4))) [some (.ref m), some (.int j), some x, a3, none, none] S1) = .ok (.ref S.length) S' ∧ S'.length = S.length + 1 ∧ Mi S' m d (drn 600 (heldP n kvs j x) n []).2.2 (drn 600 (heldP n kvs j x) n []).2.1 ∧ S'[S.length]? = some (.lst (drn 600 (heldP n kvs j x) n []).1) ∧ ∀ i, i ≠ m → i ≠ d → i ≠ S.length → S'[i]? = S[i]? := by
    intro S1 a3 len h1 fr
    have hlen := heldP_len (n := n) (j := j) (kvs := kvs) (x := x)
    have at2 : (S1 ++ [GO.lst []])[m]? = some (MO n d) := app_at h1.at_
    have dc2 : (S1 ++ [GO.lst []])[d]? = some (.dic false (heldP n kvs j x)) := app_at h1.dic
    obtain ⟨xs, rx, lx⟩ : ∃ xs : List D, iRng1 (aCons (eOp opAdd (eB bLen (aCons (eOp opIx (eVar 0) (eC (.str "held"))) aNil)) (eC (.int 1))) aNil) [some (.ref m), some (.int j), some x, a3, some (.ref S.length), none] (S1 ++ [.lst []]) = .ok ⟨xs, []⟩ (S1 ++ [.lst []]) ∧ xs.length = (heldP n kvs j x).length + 1 := by
      have ea : aCons (eOp opAdd (eB bLen (aCons (eOp opIx (eVar 0) (eC (.str "held"))) aNil)) (eC (.int 1))) aNil [some (.ref m), some (.int j), some x, a3, some (.ref S.length), none] (S1 ++ [GO.lst []]) = .ok [.int (((heldP n kvs j x).length : Int) + 1)] (S1 ++ [.lst []]) := by
        simp only [fnOf_ev, List.length_cons, List.length_nil, Nat.zero_add, Nat.reduceAdd, Nat.reduceSub, List.map_cons, List.map_nil, List.cons_append, List.nil_append, List.append_nil, List.replicate_zero, List.replicate_succ, sSeq_ev, seq_nx, seq_rt, seq_bk, seq_ct, seq_ex, seq_no, eVar_z, eVar_s, eC_ev, aNil_ev, aCons_ev, consK_ev, consK2_ev, eOp_ev, opK_ev, eUn_ev, eTup_ev, eLst_ev, tupK_ev, lstK_ev, eB_ev, eIf_ev, iteK_ev, eAnd_ev, eOr_ev, andR_bl, orR_bl, eNot_ev, notR_bl, asB_bl, tB_ev, tAnd_ev, tAndK_ev, tOr_ev, tOrK_ev, tNot_ev, tNotK_ev, tYes_ev, eChain_ev, chainK_ev, chainK1_ev, chainK2_ev, chainK3_ev, eFld_ev, eSl_ev, slK_ev, slK1_ev, oNo_ev, oAt_ev, atR_int, sNil_ev, sSet_ev, setK_ev, sE_ev, dropK_ev, sRet_ev, retK_ev, sRetN_ev, sIf_ev, sIfK_ev, sRz_ev, sRx_ev, rxK_ev, sPut_ev, putK0_ev, putK1_ev, putK2_ev, putK3_ev, sAsg_ev, List.set_cons_zero, List.set_cons_succ, bindOk, bindEx, bindNo, toOk, toEx, toNo, if_true, if_false, ite_true, ite_false, Bool.false_eq_true, Bool.true_eq_false, eq_self, decide_true, decide_false, Bool.not_true, Bool.not_false, reduceIte, reduceCtorEq, add_int, sub_int, neg_int, lt_int, le_int, gt_int, ge_int, eq_int, ne_int, isN_ev, notN_ev, len_tup, int_int, int_bl, max2_ev, Nat.le_refl, gc_rt_same, gc_nx_same, gc_ex_same, line_small, Nat.reduceLeDiff, Nat.zero_le, ix_held at2, len_ref, dc2, show ∀ (k : List (DK × D)) (S : Sto), lenO (some (.dic false k)) S = .ok (.int k.length) S from fun _ _ => rfl]
      exact ⟨_, rng1 (n := (heldP n kvs j x).length + 1) (by rw [ea]; rfl) (by omega), by simp⟩
    obtain ⟨S2, b5, w, l2, i2, L2, f2⟩ := heard_loop (m := m) (d := d) (L := S.length) (a1 := some (.int j)) (a2 := some x) (a3 := a3) xs (heldP n kvs j x) n [] (S1 ++ [.lst []]) none ⟨at2, dc2, h1.neq⟩ (by rw [← len]; exact last_at) (by omega) (by omega) (by simp; omega)
    have fu := drn_fuel (heldP n kvs j x).length 599 (heldP n kvs j x) n [] (Nat.le_refl _) (by omega)
    rw [lx, fu] at i2 L2
    refine ⟨S2, ?_, by rw [l2]; simp [len], i2, L2, fun i q1 q2 q3 => ?_⟩
    · simp only [fnOf_ev, List.length_cons, List.length_nil, Nat.zero_add, Nat.reduceAdd, Nat.reduceSub, List.map_cons, List.map_nil, List.cons_append, List.nil_append, List.append_nil, List.replicate_zero, List.replicate_succ, sSeq_ev, seq_nx, seq_rt, seq_bk, seq_ct, seq_ex, seq_no, eVar_z, eVar_s, eC_ev, aNil_ev, aCons_ev, consK_ev, consK2_ev, eOp_ev, opK_ev, eUn_ev, eTup_ev, eLst_ev, tupK_ev, lstK_ev, eB_ev, eIf_ev, iteK_ev, eAnd_ev, eOr_ev, andR_bl, orR_bl, eNot_ev, notR_bl, asB_bl, tB_ev, tAnd_ev, tAndK_ev, tOr_ev, tOrK_ev, tNot_ev, tNotK_ev, tYes_ev, eChain_ev, chainK_ev, chainK1_ev, chainK2_ev, chainK3_ev, eFld_ev, eSl_ev, slK_ev, slK1_ev, oNo_ev, oAt_ev, atR_int, sNil_ev, sSet_ev, setK_ev, sE_ev, dropK_ev, sRet_ev, retK_ev, sRetN_ev, sIf_ev, sIfK_ev, sRz_ev, sRx_ev, rxK_ev, sPut_ev, putK0_ev, putK1_ev, putK2_ev, putK3_ev, sAsg_ev, List.set_cons_zero, List.set_cons_succ, bindOk, bindEx, bindNo, toOk, toEx, toNo, if_true, if_false, ite_true, ite_false, Bool.false_eq_true, Bool.true_eq_false, eq_self, decide_true, decide_false, Bool.not_true, Bool.not_false, reduceIte, reduceCtorEq, add_int, sub_int, neg_int, lt_int, le_int, gt_int, ge_int, eq_int, ne_int, isN_ev, notN_ev, len_tup, int_int, int_bl, max2_ev, Nat.le_refl, gc_rt_same, gc_nx_same, gc_ex_same, line_small, Nat.reduceLeDiff, Nat.zero_le, len, sFor_ev]
      rw [rx]
      simp only [fnOf_ev, List.length_cons, List.length_nil, Nat.zero_add, Nat.reduceAdd, Nat.reduceSub, List.map_cons, List.map_nil, List.cons_append, List.nil_append, List.append_nil, List.replicate_zero, List.replicate_succ, sSeq_ev, seq_nx, seq_rt, seq_bk, seq_ct, seq_ex, seq_no, eVar_z, eVar_s, eC_ev, aNil_ev, aCons_ev, consK_ev, consK2_ev, eOp_ev, opK_ev, eUn_ev, eTup_ev, eLst_ev, tupK_ev, lstK_ev, eB_ev, eIf_ev, iteK_ev, eAnd_ev, eOr_ev, andR_bl, orR_bl, eNot_ev, notR_bl, asB_bl, tB_ev, tAnd_ev, tAndK_ev, tOr_ev, tOrK_ev, tNot_ev, tNotK_ev, tYes_ev, eChain_ev, chainK_ev, chainK1_ev, chainK2_ev, chainK3_ev, eFld_ev, eSl_ev, slK_ev, slK1_ev, oNo_ev, oAt_ev, atR_int, sNil_ev, sSet_ev, setK_ev, sE_ev, dropK_ev, sRet_ev, retK_ev, sRetN_ev, sIf_ev, sIfK_ev, sRz_ev, sRx_ev, rxK_ev, sPut_ev, putK0_ev, putK1_ev, putK2_ev, putK3_ev, sAsg_ev, List.set_cons_zero, List.set_cons_succ, bindOk, bindEx, bindNo, toOk, toEx, toNo, if_true, if_false, ite_true, ite_false, Bool.false_eq_true, Bool.true_eq_false, eq_self, decide_true, decide_false, Bool.not_true, Bool.not_false, reduceIte, reduceCtorEq, add_int, sub_int, neg_int, lt_int, le_int, gt_int, ge_int, eq_int, ne_int, isN_ev, notN_ev, len_tup, int_int, int_bl, max2_ev, Nat.le_refl, gc_rt_same, gc_nx_same, gc_ex_same, line_small, Nat.reduceLeDiff, Nat.zero_le, forK_ev, w]
      exact gc_rt_new (by unfold D.under; simp)
    · rw [f2 i q1 q2 q3]
      rcases Nat.lt_or_ge i S1.length with q | q
      · rw [List.getElem?_append_left q, fr i q1 q2]
      · rw [List.getElem?_eq_none (by simp; omega), List.getElem?_eq_none (by omega)]
  have put : Mi (S.set d (.dic false (dputD kvs (kI j) x))) m d n (dputD kvs (kI j) x) := ⟨by rw [List.getElem?_set_ne (Ne.symm h.neq)]; exact h.at_, set_at h.dic, h.neq⟩
  unfold hrdB at key
  unfold F_law_heard
  by_cases c1 : n ≤ j
  · have d1 : decide ((n : Int) ≤ (j : Int)) = true := decide_eq_true (by omega)
    by_cases c2 : j < n + 1000
    · have d2 : decide ((j : Int) < (n : Int) + 1000) = true := decide_eq_true (by omega)
      cases c3 : dgetD kvs (kI j) with
      | none =>
        simp only [fnOf_ev, List.length_cons, List.length_nil, Nat.zero_add, Nat.reduceAdd, Nat.reduceSub, List.map_cons, List.map_nil, List.cons_append, List.nil_append, List.append_nil, List.replicate_zero, List.replicate_succ, sSeq_ev, seq_nx, seq_rt, seq_bk, seq_ct, seq_ex, seq_no, eVar_z, eVar_s, eC_ev, aNil_ev, aCons_ev, consK_ev, consK2_ev, eOp_ev, opK_ev, eUn_ev, eTup_ev, eLst_ev, tupK_ev, lstK_ev, eB_ev, eIf_ev, iteK_ev, eAnd_ev, eOr_ev, andR_bl, orR_bl, eNot_ev, notR_bl, asB_bl, tB_ev, tAnd_ev, tAndK_ev, tOr_ev, tOrK_ev, tNot_ev, tNotK_ev, tYes_ev, eChain_ev, chainK_ev, chainK1_ev, chainK2_ev, chainK3_ev, eFld_ev, eSl_ev, slK_ev, slK1_ev, oNo_ev, oAt_ev, atR_int, sNil_ev, sSet_ev, setK_ev, sE_ev, dropK_ev, sRet_ev, retK_ev, sRetN_ev, sIf_ev, sIfK_ev, sRz_ev, sRx_ev, rxK_ev, sPut_ev, putK0_ev, putK1_ev, putK2_ev, putK3_ev, sAsg_ev, List.set_cons_zero, List.set_cons_succ, bindOk, bindEx, bindNo, toOk, toEx, toNo, if_true, if_false, ite_true, ite_false, Bool.false_eq_true, Bool.true_eq_false, eq_self, decide_true, decide_false, Bool.not_true, Bool.not_false, reduceIte, reduceCtorEq, add_int, sub_int, neg_int, lt_int, le_int, gt_int, ge_int, eq_int, ne_int, isN_ev, notN_ev, len_tup, int_int, int_bl, max2_ev, Nat.le_refl, gc_rt_same, gc_nx_same, gc_ex_same, line_small, Nat.reduceLeDiff, Nat.zero_le, ix_taken h.at_, ix_held h.at_, d1, d2, in_ref, h.dic, inO_not, c3, Option.isSome_none, put_ref, putO_dicI (S := S) (a := d) (n := j) (d := x) (kvs := kvs) (by omega)]
        have eh : heldP n kvs j x = dputD kvs (kI j) x := if_pos ⟨c1, c2, c3⟩
        have := key (S.set d (.dic false (dputD kvs (kI j) x))) (some (.ref d)) (by simp) (by rw [eh]; exact put) fun i _ q => List.getElem?_set_ne (Ne.symm q)
        simp only [fnOf_ev, List.length_cons, List.length_nil, Nat.zero_add, Nat.reduceAdd, Nat.reduceSub, List.map_cons, List.map_nil, List.cons_append, List.nil_append, List.append_nil, List.replicate_zero, List.replicate_succ, sSeq_ev, seq_nx, seq_rt, seq_bk, seq_ct, seq_ex, seq_no, eVar_z, eVar_s, eC_ev, aNil_ev, aCons_ev, consK_ev, consK2_ev, eOp_ev, opK_ev, eUn_ev, eTup_ev, eLst_ev, tupK_ev, lstK_ev, eB_ev, eIf_ev, iteK_ev, eAnd_ev, eOr_ev, andR_bl, orR_bl, eNot_ev, notR_bl, asB_bl, tB_ev, tAnd_ev, tAndK_ev, tOr_ev, tOrK_ev, tNot_ev, tNotK_ev, tYes_ev, eChain_ev, chainK_ev, chainK1_ev, chainK2_ev, chainK3_ev, eFld_ev, eSl_ev, slK_ev, slK1_ev, oNo_ev, oAt_ev, atR_int, sNil_ev, sSet_ev, setK_ev, sE_ev, dropK_ev, sRet_ev, retK_ev, sRetN_ev, sIf_ev, sIfK_ev, sRz_ev, sRx_ev, rxK_ev, sPut_ev, putK0_ev, putK1_ev, putK2_ev, putK3_ev, sAsg_ev, List.set_cons_zero, List.set_cons_succ, bindOk, bindEx, bindNo, toOk, toEx, toNo, if_true, if_false, ite_true, ite_false, Bool.false_eq_true, Bool.true_eq_false, eq_self, decide_true, decide_false, Bool.not_true, Bool.not_false, reduceIte, reduceCtorEq, add_int, sub_int, neg_int, lt_int, le_int, gt_int, ge_int, eq_int, ne_int, isN_ev, notN_ev, len_tup, int_int, int_bl, max2_ev, Nat.le_refl, gc_rt_same, gc_nx_same, gc_ex_same, line_small, Nat.reduceLeDiff, Nat.zero_le] at this
        exact this
      | some y =>
        simp only [fnOf_ev, List.length_cons, List.length_nil, Nat.zero_add, Nat.reduceAdd, Nat.reduceSub, List.map_cons, List.map_nil, List.cons_append, List.nil_append, List.append_nil, List.replicate_zero, List.replicate_succ, sSeq_ev, seq_nx, seq_rt, seq_bk, seq_ct, seq_ex, seq_no, eVar_z, eVar_s, eC_ev, aNil_ev, aCons_ev, consK_ev, consK2_ev, eOp_ev, opK_ev, eUn_ev, eTup_ev, eLst_ev, tupK_ev, lstK_ev, eB_ev, eIf_ev, iteK_ev, eAnd_ev, eOr_ev, andR_bl, orR_bl, eNot_ev, notR_bl, asB_bl, tB_ev, tAnd_ev, tAndK_ev, tOr_ev, tOrK_ev, tNot_ev, tNotK_ev, tYes_ev, eChain_ev, chainK_ev, chainK1_ev, chainK2_ev, chainK3_ev, eFld_ev, eSl_ev, slK_ev, slK1_ev, oNo_ev, oAt_ev, atR_int, sNil_ev, sSet_ev, setK_ev, sE_ev, dropK_ev, sRet_ev, retK_ev, sRetN_ev, sIf_ev, sIfK_ev, sRz_ev, sRx_ev, rxK_ev, sPut_ev, putK0_ev, putK1_ev, putK2_ev, putK3_ev, sAsg_ev, List.set_cons_zero, List.set_cons_succ, bindOk, bindEx, bindNo, toOk, toEx, toNo, if_true, if_false, ite_true, ite_false, Bool.false_eq_true, Bool.true_eq_false, eq_self, decide_true, decide_false, Bool.not_true, Bool.not_false, reduceIte, reduceCtorEq, add_int, sub_int, neg_int, lt_int, le_int, gt_int, ge_int, eq_int, ne_int, isN_ev, notN_ev, len_tup, int_int, int_bl, max2_ev, Nat.le_refl, gc_rt_same, gc_nx_same, gc_ex_same, line_small, Nat.reduceLeDiff, Nat.zero_le, ix_taken h.at_, ix_held h.at_, d1, d2, in_ref, h.dic, inO_not, c3, Option.isSome_some]
        have eh : heldP n kvs j x = kvs := if_neg fun q => by rw [c3] at q; cases q.2.2
        have := key S none rfl (by rw [eh]; exact h) fun i _ q => rfl
        simp only [fnOf_ev, List.length_cons, List.length_nil, Nat.zero_add, Nat.reduceAdd, Nat.reduceSub, List.map_cons, List.map_nil, List.cons_append, List.nil_append, List.append_nil, List.replicate_zero, List.replicate_succ, sSeq_ev, seq_nx, seq_rt, seq_bk, seq_ct, seq_ex, seq_no, eVar_z, eVar_s, eC_ev, aNil_ev, aCons_ev, consK_ev, consK2_ev, eOp_ev, opK_ev, eUn_ev, eTup_ev, eLst_ev, tupK_ev, lstK_ev, eB_ev, eIf_ev, iteK_ev, eAnd_ev, eOr_ev, andR_bl, orR_bl, eNot_ev, notR_bl, asB_bl, tB_ev, tAnd_ev, tAndK_ev, tOr_ev, tOrK_ev, tNot_ev, tNotK_ev, tYes_ev, eChain_ev, chainK_ev, chainK1_ev, chainK2_ev, chainK3_ev, eFld_ev, eSl_ev, slK_ev, slK1_ev, oNo_ev, oAt_ev, atR_int, sNil_ev, sSet_ev, setK_ev, sE_ev, dropK_ev, sRet_ev, retK_ev, sRetN_ev, sIf_ev, sIfK_ev, sRz_ev, sRx_ev, rxK_ev, sPut_ev, putK0_ev, putK1_ev, putK2_ev, putK3_ev, sAsg_ev, List.set_cons_zero, List.set_cons_succ, bindOk, bindEx, bindNo, toOk, toEx, toNo, if_true, if_false, ite_true, ite_false, Bool.false_eq_true, Bool.true_eq_false, eq_self, decide_true, decide_false, Bool.not_true, Bool.not_false, reduceIte, reduceCtorEq, add_int, sub_int, neg_int, lt_int, le_int, gt_int, ge_int, eq_int, ne_int, isN_ev, notN_ev, len_tup, int_int, int_bl, max2_ev, Nat.le_refl, gc_rt_same, gc_nx_same, gc_ex_same, line_small, Nat.reduceLeDiff, Nat.zero_le] at this
        exact this
    · have d2 : decide ((j : Int) < (n : Int) + 1000) = false := decide_eq_false (by omega)
      simp only [fnOf_ev, List.length_cons, List.length_nil, Nat.zero_add, Nat.reduceAdd, Nat.reduceSub, List.map_cons, List.map_nil, List.cons_append, List.nil_append, List.append_nil, List.replicate_zero, List.replicate_succ, sSeq_ev, seq_nx, seq_rt, seq_bk, seq_ct, seq_ex, seq_no, eVar_z, eVar_s, eC_ev, aNil_ev, aCons_ev, consK_ev, consK2_ev, eOp_ev, opK_ev, eUn_ev, eTup_ev, eLst_ev, tupK_ev, lstK_ev, eB_ev, eIf_ev, iteK_ev, eAnd_ev, eOr_ev, andR_bl, orR_bl, eNot_ev, notR_bl, asB_bl, tB_ev, tAnd_ev, tAndK_ev, tOr_ev, tOrK_ev, tNot_ev, tNotK_ev, tYes_ev, eChain_ev, chainK_ev, chainK1_ev, chainK2_ev, chainK3_ev, eFld_ev, eSl_ev, slK_ev, slK1_ev, oNo_ev, oAt_ev, atR_int, sNil_ev, sSet_ev, setK_ev, sE_ev, dropK_ev, sRet_ev, retK_ev, sRetN_ev, sIf_ev, sIfK_ev, sRz_ev, sRx_ev, rxK_ev, sPut_ev, putK0_ev, putK1_ev, putK2_ev, putK3_ev, sAsg_ev, List.set_cons_zero, List.set_cons_succ, bindOk, bindEx, bindNo, toOk, toEx, toNo, if_true, if_false, ite_true, ite_false, Bool.false_eq_true, Bool.true_eq_false, eq_self, decide_true, decide_false, Bool.not_true, Bool.not_false, reduceIte, reduceCtorEq, add_int, sub_int, neg_int, lt_int, le_int, gt_int, ge_int, eq_int, ne_int, isN_ev, notN_ev, len_tup, int_int, int_bl, max2_ev, Nat.le_refl, gc_rt_same, gc_nx_same, gc_ex_same, line_small, Nat.reduceLeDiff, Nat.zero_le, ix_taken h.at_, ix_held h.at_, d1, d2]
      have eh : heldP n kvs j x = kvs := if_neg fun q => c2 q.2.1
      have := key S none rfl (by rw [eh]; exact h) fun i _ q => rfl
      simp only [fnOf_ev, List.length_cons, List.length_nil, Nat.zero_add, Nat.reduceAdd, Nat.reduceSub, List.map_cons, List.map_nil, List.cons_append, List.nil_append, List.append_nil, List.replicate_zero, List.replicate_succ, sSeq_ev, seq_nx, seq_rt, seq_bk, seq_ct, seq_ex, seq_no, eVar_z, eVar_s, eC_ev, aNil_ev, aCons_ev, consK_ev, consK2_ev, eOp_ev, opK_ev, eUn_ev, eTup_ev, eLst_ev, tupK_ev, lstK_ev, eB_ev, eIf_ev, iteK_ev, eAnd_ev, eOr_ev, andR_bl, orR_bl, eNot_ev, notR_bl, asB_bl, tB_ev, tAnd_ev, tAndK_ev, tOr_ev, tOrK_ev, tNot_ev, tNotK_ev, tYes_ev, eChain_ev, chainK_ev, chainK1_ev, chainK2_ev, chainK3_ev, eFld_ev, eSl_ev, slK_ev, slK1_ev, oNo_ev, oAt_ev, atR_int, sNil_ev, sSet_ev, setK_ev, sE_ev, dropK_ev, sRet_ev, retK_ev, sRetN_ev, sIf_ev, sIfK_ev, sRz_ev, sRx_ev, rxK_ev, sPut_ev, putK0_ev, putK1_ev, putK2_ev, putK3_ev, sAsg_ev, List.set_cons_zero, List.set_cons_succ, bindOk, bindEx, bindNo, toOk, toEx, toNo, if_true, if_false, ite_true, ite_false, Bool.false_eq_true, Bool.true_eq_false, eq_self, decide_true, decide_false, Bool.not_true, Bool.not_false, reduceIte, reduceCtorEq, add_int, sub_int, neg_int, lt_int, le_int, gt_int, ge_int, eq_int, ne_int, isN_ev, notN_ev, len_tup, int_int, int_bl, max2_ev, Nat.le_refl, gc_rt_same, gc_nx_same, gc_ex_same, line_small, Nat.reduceLeDiff, Nat.zero_le] at this
      exact this
  · have d1 : decide ((n : Int) ≤ (j : Int)) = false := decide_eq_false (by omega)
    simp only [fnOf_ev, List.length_cons, List.length_nil, Nat.zero_add, Nat.reduceAdd, Nat.reduceSub, List.map_cons, List.map_nil, List.cons_append, List.nil_append, List.append_nil, List.replicate_zero, List.replicate_succ, sSeq_ev, seq_nx, seq_rt, seq_bk, seq_ct, seq_ex, seq_no, eVar_z, eVar_s, eC_ev, aNil_ev, aCons_ev, consK_ev, consK2_ev, eOp_ev, opK_ev, eUn_ev, eTup_ev, eLst_ev, tupK_ev, lstK_ev, eB_ev, eIf_ev, iteK_ev, eAnd_ev, eOr_ev, andR_bl, orR_bl, eNot_ev, notR_bl, asB_bl, tB_ev, tAnd_ev, tAndK_ev, tOr_ev, tOrK_ev, tNot_ev, tNotK_ev, tYes_ev, eChain_ev, chainK_ev, chainK1_ev, chainK2_ev, chainK3_ev, eFld_ev, eSl_ev, slK_ev, slK1_ev, oNo_ev, oAt_ev, atR_int, sNil_ev, sSet_ev, setK_ev, sE_ev, dropK_ev, sRet_ev, retK_ev, sRetN_ev, sIf_ev, sIfK_ev, sRz_ev, sRx_ev, rxK_ev, sPut_ev, putK0_ev, putK1_ev, putK2_ev, putK3_ev, sAsg_ev, List.set_cons_zero, List.set_cons_succ, bindOk, bindEx, bindNo, toOk, toEx, toNo, if_true, if_false, ite_true, ite_false, Bool.false_eq_true, Bool.true_eq_false, eq_self, decide_true, decide_false, Bool.not_true, Bool.not_false, reduceIte, reduceCtorEq, add_int, sub_int, neg_int, lt_int, le_int, gt_int, ge_int, eq_int, ne_int, isN_ev, notN_ev, len_tup, int_int, int_bl, max2_ev, Nat.le_refl, gc_rt_same, gc_nx_same, gc_ex_same, line_small, Nat.reduceLeDiff, Nat.zero_le, ix_taken h.at_, d1]
    have eh : heldP n kvs j x = kvs := if_neg fun q => c1 q.1
    have := key S none rfl (by rw [eh]; exact h) fun i _ q => rfl
    simp only [fnOf_ev, List.length_cons, List.length_nil, Nat.zero_add, Nat.reduceAdd, Nat.reduceSub, List.map_cons, List.map_nil, List.cons_append, List.nil_append, List.append_nil, List.replicate_zero, List.replicate_succ, sSeq_ev, seq_nx, seq_rt, seq_bk, seq_ct, seq_ex, seq_no, eVar_z, eVar_s, eC_ev, aNil_ev, aCons_ev, consK_ev, consK2_ev, eOp_ev, opK_ev, eUn_ev, eTup_ev, eLst_ev, tupK_ev, lstK_ev, eB_ev, eIf_ev, iteK_ev, eAnd_ev, eOr_ev, andR_bl, orR_bl, eNot_ev, notR_bl, asB_bl, tB_ev, tAnd_ev, tAndK_ev, tOr_ev, tOrK_ev, tNot_ev, tNotK_ev, tYes_ev, eChain_ev, chainK_ev, chainK1_ev, chainK2_ev, chainK3_ev, eFld_ev, eSl_ev, slK_ev, slK1_ev, oNo_ev, oAt_ev, atR_int, sNil_ev, sSet_ev, setK_ev, sE_ev, dropK_ev, sRet_ev, retK_ev, sRetN_ev, sIf_ev, sIfK_ev, sRz_ev, sRx_ev, rxK_ev, sPut_ev, putK0_ev, putK1_ev, putK2_ev, putK3_ev, sAsg_ev, List.set_cons_zero, List.set_cons_succ, bindOk, bindEx, bindNo, toOk, toEx, toNo, if_true, if_false, ite_true, ite_false, Bool.false_eq_true, Bool.true_eq_false, eq_self, decide_true, decide_false, Bool.not_true, Bool.not_false, reduceIte, reduceCtorEq, add_int, sub_int, neg_int, lt_int, le_int, gt_int, ge_int, eq_int, ne_int, isN_ev, notN_ev, len_tup, int_int, int_bl, max2_ev, Nat.le_refl, gc_rt_same, gc_nx_same, gc_ex_same, line_small, Nat.reduceLeDiff, Nat.zero_le] at this
    exact this
end
end KF
set_option Elab.async false
set_option linter.all false
set_option maxRecDepth 100000
set_option maxHeartbeats 4000000
namespace KF
open PySem
structure Kv (xs : List D) (n : Nat) (kvs : List (DK × D)) : Prop where
  nd : (kvs.map (·.1)).Nodup
  of : ∀ p ∈ kvs, ∃ j, p.1 = kI j ∧ n ≤ j ∧ xs[j]? = some p.2
theorem Kv.nil {xs : List D} {n : Nat} : Kv xs n [] := ⟨List.nodup_nil, fun _ h => by cases h⟩
theorem Kv.more {xs : List D} {n : Nat} {kvs : List (DK × D)} {y : D} (h : Kv xs n kvs) : Kv (xs ++ [y]) n kvs := ⟨h.nd, fun p m => by
  obtain ⟨j, e1, e2, e3⟩ := h.of p m
  exact ⟨j, e1, e2, by rw [List.getElem?_append_left (List.getElem?_eq_some_iff.mp e3).1]; exact e3⟩⟩
theorem Kv.held {xs : List D} {n j : Nat} {kvs : List (DK × D)} {x : D} (h : Kv xs n kvs) (hx : xs[j]? = some x) : Kv xs n (heldP n kvs j x) := by
  unfold heldP
  split
  · rename_i c
    refine ⟨dput_nodup h.nd, fun p m => ?_⟩
    rcases mem_dput m with e | ⟨m, _⟩
    · exact ⟨j, by rw [e], c.1, by rw [e]; exact hx⟩
    · exact h.of p m
  · exact h
theorem Kv.drop {xs : List D} {n : Nat} {kvs : List (DK × D)} (h : Kv xs n kvs) : Kv xs (n + 1) (ddropD kvs (kI n)) := by
  refine ⟨List.Nodup.sublist (List.Sublist.map _ List.filter_sublist) h.nd, fun p m => ?_⟩
  obtain ⟨m, c⟩ := List.mem_filter.mp m
  obtain ⟨j, e1, e2, e3⟩ := h.of p m
  refine ⟨j, e1, ?_, e3⟩
  have : j ≠ n := fun z => by
    have := of_decide_eq_true c
    exact this (by rw [e1, z])
  omega
/-- what is given out is just what stands next -/
theorem drn_ok {xs pre : List D} : ∀ (f : Nat) (kvs : List (DK × D)) (n : Nat) (acc : List D), kvs.length < f → Kv xs n kvs → pre ++ acc = xs.take n → n ≤ xs.length →
    Kv xs (drn f kvs n acc).2.2 (drn f kvs n acc).2.1 ∧ pre ++ (drn f kvs n acc).1 = xs.take (drn f kvs n acc).2.2 ∧ n ≤ (drn f kvs n acc).2.2 ∧ (drn f kvs n acc).2.2 ≤ xs.length ∧ dgetD (drn f kvs n acc).2.1 (kI (drn f kvs n acc).2.2) = none ∧ (drn f kvs n acc).2.1.length ≤ kvs.length ∧ (drn f kvs n acc).1.length ≤ acc.length + kvs.length := by
  intro f
  induction f with
  | zero => intro kvs n acc h; omega
  | succ f ih =>
    intro kvs n acc hf h hp hn
    cases hx : dgetD kvs (kI n) with
    | none =>
      have ed : drn (f + 1) kvs n acc = (acc, kvs, n) := by unfold drn; rw [hx]
      rw [ed]
      exact ⟨h, hp, Nat.le_refl _, hn, hx, Nat.le_refl _, Nat.le_add_right _ _⟩
    | some x =>
      have ed : drn (f + 1) kvs n acc = drn f (ddropD kvs (kI n)) (n + 1) (acc ++ [x]) := by conv => lhs; unfold drn; rw [hx]
      have lt := ddrop_lt hx
      obtain ⟨j, e1, _, e3⟩ := h.of _ (dget_mem hx)
      have ej := kI_inj e1
      subst ej
      have lx := (List.getElem?_eq_some_iff.mp e3).1
      rw [ed]
      obtain ⟨h1, h2, h3, h4, h5, h6, h7⟩ := ih (ddropD kvs (kI n)) (n + 1) (acc ++ [x]) (by omega) h.drop (by rw [← List.append_assoc, hp, List.take_succ, e3]; rfl) (by omega)
      refine ⟨h1, h2, by omega, h4, h5, by omega, ?_⟩
      rw [List.length_append, List.length_singleton] at h7
      omega
theorem drn_free {f n : Nat} {kvs : List (DK × D)} (h : dgetD kvs (kI n) = none) : drn (f + 1) kvs n [] = ([], kvs, n) := by
  unfold drn
  rw [h]
theorem Kv.ints {xs : List D} {n : Nat} : ∀ {kvs : List (DK × D)}, (∀ p ∈ kvs, ∃ j, p.1 = kI j ∧ n ≤ j ∧ xs[j]? = some p.2) → ∃ is : List Int, intsOf (kvs.map fun kv => kv.1.toD) = some is ∧ is.length = kvs.length
  | [], _ => ⟨[], rfl, rfl⟩
  | p :: l, h => by
    obtain ⟨is, e, el⟩ := Kv.ints (kvs := l) fun q m => h q (List.mem_cons_of_mem _ m)
    obtain ⟨j, e1, _⟩ := h p (List.mem_cons_self ..)
    refine ⟨(j : Int) :: is, ?_, by simp [el]⟩
    rw [List.map_cons, e1]
    show (intsOf (l.map fun kv => kv.1.toD)).map ((j : Int) :: ·) = _
    rw [e]
    rfl
theorem tuple_ref {a : Nat} {l : List D} {S : Sto} (h : S[a]? = some (.lst l)) : bTuple [.ref a] S = .ok (.tup l) S := by
  unfold bTuple seqOf
  simp only [h]
theorem sorted_dicI {a : Nat} {kvs : List (DK × D)} {is : List Int} {S : Sto} (h : S[a]? = some (.dic false kvs)) (hl : kvs.length < 1000) (hi : intsOf (kvs.map fun kv => kv.1.toD) = some is) : bSorted [.ref a] S = .ok (.ref S.length) (S ++ [.lst ((sortI is).map D.int)]) := by
  unfold bSorted
  simp only [h, hi]
  rw [if_pos (Nat.le_trans (Nat.le_of_lt hl) (by decide))]
  rfl
theorem sorted_lstI {a : Nat} {l : List D} {is : List Int} {S : Sto} (h : S[a]? = some (.lst l)) (hl : l.length < 1000) (hi : intsOf l = some is) : bSorted [.ref a] S = .ok (.ref S.length) (S ++ [.lst ((sortI is).map D.int)]) := by
  unfold bSorted
  simp only [h, hi]
  rw [if_pos (Nat.le_trans (Nat.le_of_lt hl) (by decide))]
  rfl
theorem gc_rt_pre {S S' : Sto} {d : D} (h : ∃ T, S' = S ++ T) (hd : plain d = true) : gcR S (.rt d S') = .ok d S := by
  obtain ⟨T, rfl⟩ := h
  exact gc_rt_app (plain_under _ d hd)
def hsD (is : List Int) : D := .tup ((sortI is).map D.int)
theorem hsD_pl {is : List Int} (h : is.length ≤ 1000) : PlD 1 (hsD is) := ⟨by rw [List.length_map, (sortI_perm is).length_eq]; exact h, fun x m => by
  obtain ⟨i, _, rfl⟩ := List.mem_map.mp m
  trivial⟩
section
variable {S : Sto} {e d m n : Nat} {kvs : List (DK × D)} {is : List Int}
theorem taken_ok (h : InS S e d n kvs) : F_Incoming_taken [.ref e] S = .ok (.int n) S := by
  unfold F_Incoming_taken
  simp only [fnOf_ev, List.length_cons, List.length_nil, Nat.zero_add, Nat.reduceAdd, Nat.reduceSub, List.map_cons, List.map_nil, List.cons_append, List.nil_append, List.append_nil, List.replicate_zero, List.replicate_succ, sSeq_ev, seq_nx, seq_rt, seq_bk, seq_ct, seq_ex, seq_no, eVar_z, eVar_s, eC_ev, aNil_ev, aCons_ev, consK_ev, consK2_ev, eOp_ev, opK_ev, eUn_ev, eTup_ev, eLst_ev, tupK_ev, lstK_ev, eB_ev, eIf_ev, iteK_ev, eAnd_ev, eOr_ev, andR_bl, orR_bl, eNot_ev, notR_bl, asB_bl, tB_ev, tAnd_ev, tAndK_ev, tOr_ev, tOrK_ev, tNot_ev, tNotK_ev, tYes_ev, eChain_ev, chainK_ev, chainK1_ev, chainK2_ev, chainK3_ev, eFld_ev, eSl_ev, slK_ev, slK1_ev, oNo_ev, oAt_ev, atR_int, sNil_ev, sSet_ev, setK_ev, sE_ev, dropK_ev, sRet_ev, retK_ev, sRetN_ev, sIf_ev, sIfK_ev, sRz_ev, sRx_ev, rxK_ev, sPut_ev, putK0_ev, putK1_ev, putK2_ev, putK3_ev, sAsg_ev, List.set_cons_zero, List.set_cons_succ, bindOk, bindEx, bindNo, toOk, toEx, toNo, if_true, if_false, ite_true, ite_false, Bool.false_eq_true, Bool.true_eq_false, eq_self, decide_true, decide_false, Bool.not_true, Bool.not_false, reduceIte, reduceCtorEq, add_int, sub_int, neg_int, lt_int, le_int, gt_int, ge_int, eq_int, ne_int, isN_ev, notN_ev, len_tup, int_int, int_bl, max2_ev, Nat.le_refl, gc_rt_same, gc_nx_same, gc_ex_same, line_small, Nat.reduceLeDiff, Nat.zero_le, fld_due h.at_]
theorem held_ok (h : InS S e d n kvs) (hl : kvs.length < 1000) (hi : intsOf (kvs.map fun kv => kv.1.toD) = some is) : F_Incoming_held [.ref e] S = .ok (hsD is) S := by
  have e1 : ∀ l, bTuple [.ref S.length] (S ++ [GO.lst l]) = .ok (.tup l) (S ++ [GO.lst l]) := fun l => tuple_ref last_at
  have il : is.length = kvs.length := by
    have : ∀ (l : List D) (is : List Int), intsOf l = some is → is.length = l.length := fun l => by
      induction l with
      | nil => intro is h; cases h; rfl
      | cons x l ih =>
        intro is h
        cases x with
        | int i =>
          unfold intsOf at h
          cases q : intsOf l with
          | none => rw [q] at h; cases h
          | some js =>
            rw [q] at h
            cases h
            simp [ih js q]
        | _ => cases h
    rw [this _ _ hi, List.length_map]
  unfold F_Incoming_held
  simp only [fnOf_ev, List.length_cons, List.length_nil, Nat.zero_add, Nat.reduceAdd, Nat.reduceSub, List.map_cons, List.map_nil, List.cons_append, List.nil_append, List.append_nil, List.replicate_zero, List.replicate_succ, sSeq_ev, seq_nx, seq_rt, seq_bk, seq_ct, seq_ex, seq_no, eVar_z, eVar_s, eC_ev, aNil_ev, aCons_ev, consK_ev, consK2_ev, eOp_ev, opK_ev, eUn_ev, eTup_ev, eLst_ev, tupK_ev, lstK_ev, eB_ev, eIf_ev, iteK_ev, eAnd_ev, eOr_ev, andR_bl, orR_bl, eNot_ev, notR_bl, asB_bl, tB_ev, tAnd_ev, tAndK_ev, tOr_ev, tOrK_ev, tNot_ev, tNotK_ev, tYes_ev, eChain_ev, chainK_ev, chainK1_ev, chainK2_ev, chainK3_ev, eFld_ev, eSl_ev, slK_ev, slK1_ev, oNo_ev, oAt_ev, atR_int, sNil_ev, sSet_ev, setK_ev, sE_ev, dropK_ev, sRet_ev, retK_ev, sRetN_ev, sIf_ev, sIfK_ev, sRz_ev, sRx_ev, rxK_ev, sPut_ev, putK0_ev, putK1_ev, putK2_ev, putK3_ev, sAsg_ev, List.set_cons_zero, List.set_cons_succ, bindOk, bindEx, bindNo, toOk, toEx, toNo, if_true, if_false, ite_true, ite_false, Bool.false_eq_true, Bool.true_eq_false, eq_self, decide_true, decide_false, Bool.not_true, Bool.not_false, reduceIte, reduceCtorEq, add_int, sub_int, neg_int, lt_int, le_int, gt_int, ge_int, eq_int, ne_int, isN_ev, notN_ev, len_tup, int_int, int_bl, max2_ev, Nat.le_refl, gc_rt_same, gc_nx_same, gc_ex_same, line_small, Nat.reduceLeDiff, Nat.zero_le, fld_early h.at_, sorted_dicI h.dic hl hi, e1]
  exact gc_rt_pre ⟨_, rfl⟩ (hsD_pl (is := is) (by omega)).plain
theorem keysK_mi (h : Mi S m d n kvs) {δ : Env} {i : Nat} (he : eVar i δ S = .ok (.ref m) S) : eKeysK (eOp opIx (eVar i) (eC (.str "held"))) δ S = .ok (.ref S.length) (S ++ [GO.lst (kvs.map fun kv => kv.1.toD)]) := by
  have e0 : eOp opIx (eVar i) (eC (.str "held")) δ S = .ok (.ref d) S := by
    rw [eOp_ev, he]
    simp only [fnOf_ev, List.length_cons, List.length_nil, Nat.zero_add, Nat.reduceAdd, Nat.reduceSub, List.map_cons, List.map_nil, List.cons_append, List.nil_append, List.append_nil, List.replicate_zero, List.replicate_succ, sSeq_ev, seq_nx, seq_rt, seq_bk, seq_ct, seq_ex, seq_no, eVar_z, eVar_s, eC_ev, aNil_ev, aCons_ev, consK_ev, consK2_ev, eOp_ev, opK_ev, eUn_ev, eTup_ev, eLst_ev, tupK_ev, lstK_ev, eB_ev, eIf_ev, iteK_ev, eAnd_ev, eOr_ev, andR_bl, orR_bl, eNot_ev, notR_bl, asB_bl, tB_ev, tAnd_ev, tAndK_ev, tOr_ev, tOrK_ev, tNot_ev, tNotK_ev, tYes_ev, eChain_ev, chainK_ev, chainK1_ev, chainK2_ev, chainK3_ev, eFld_ev, eSl_ev, slK_ev, slK1_ev, oNo_ev, oAt_ev, atR_int, sNil_ev, sSet_ev, setK_ev, sE_ev, dropK_ev, sRet_ev, retK_ev, sRetN_ev, sIf_ev, sIfK_ev, sRz_ev, sRx_ev, rxK_ev, sPut_ev, putK0_ev, putK1_ev, putK2_ev, putK3_ev, sAsg_ev, List.set_cons_zero, List.set_cons_succ, bindOk, bindEx, bindNo, toOk, toEx, toNo, if_true, if_false, ite_true, ite_false, Bool.false_eq_true, Bool.true_eq_false, eq_self, decide_true, decide_false, Bool.not_true, Bool.not_false, reduceIte, reduceCtorEq, add_int, sub_int, neg_int, lt_int, le_int, gt_int, ge_int, eq_int, ne_int, isN_ev, notN_ev, len_tup, int_int, int_bl, max2_ev, Nat.le_refl, gc_rt_same, gc_nx_same, gc_ex_same, line_small, Nat.reduceLeDiff, Nat.zero_le, ix_held h.at_]
  unfold eKeysK
  rw [e0]
  simp only [bindOk, h.dic]
  rfl
end
end KF
set_option Elab.async false
set_option linter.all false
set_option maxRecDepth 100000
set_option maxHeartbeats 4000000
namespace KF
open PySem
theorem same_lst {S : Sto} {k a b : Nat} {l : List D} (ha : S[a]? = some (.lst l)) (hb : S[b]? = some (.lst l)) (h : ∀ x ∈ l, PlD k x) : F_law_same (k + 2) [.ref a, .ref b] S = .ok (.bl true) S := by
  have lv : liveOk [(a, l), (b, l)] S := by
    intro p hp
    simp only [List.mem_cons, List.not_mem_nil, or_false] at hp
    rcases hp with rfl | rfl
    · exact ha
    · exact hb
  have z := zip_lst (t := aCons (eVar 0) (aCons (eVar 1) aNil)) (δ := [some (.ref a), some (.ref b), none, none]) (S := S) (S1 := S) (a := a) (b := b) (xs := l) (ys := l) rfl ha hb
  obtain ⟨u', v', e⟩ := same_loop (S := S) (k := k + 1) (lv := [(a, l), (b, l)]) lv (a := .ref a) (b := .ref b) l none none fun x m => same_pl k x (h x m)
  have il : ∀ c, S[c]? = some (.lst l) → bIsi CLS [.ref c, .ty "list"] S = .ok (.bl true) S := fun c hc => by
    unfold bIsi
    dsimp only
    rw [if_pos (by decide)]
    simp only [tyD, hc]
    rfl
  unfold F_law_same
  simp only [fnOf_ev, List.length_cons, List.length_nil, Nat.zero_add, Nat.reduceAdd, Nat.reduceSub, List.map_cons, List.map_nil, List.cons_append, List.nil_append, List.append_nil, List.replicate_zero, List.replicate_succ, sSeq_ev, seq_nx, seq_rt, seq_bk, seq_ct, seq_ex, seq_no, eVar_z, eVar_s, eC_ev, aNil_ev, aCons_ev, consK_ev, consK2_ev, eOp_ev, opK_ev, eUn_ev, eTup_ev, eLst_ev, tupK_ev, lstK_ev, eB_ev, eIf_ev, iteK_ev, eAnd_ev, eOr_ev, andR_bl, orR_bl, eNot_ev, notR_bl, asB_bl, tB_ev, tAnd_ev, tAndK_ev, tOr_ev, tOrK_ev, tNot_ev, tNotK_ev, tYes_ev, eChain_ev, chainK_ev, chainK1_ev, chainK2_ev, chainK3_ev, eFld_ev, eSl_ev, slK_ev, slK1_ev, oNo_ev, oAt_ev, atR_int, sNil_ev, sSet_ev, setK_ev, sE_ev, dropK_ev, sRet_ev, retK_ev, sRetN_ev, sIf_ev, sIfK_ev, sRz_ev, sRx_ev, rxK_ev, sPut_ev, putK0_ev, putK1_ev, putK2_ev, putK3_ev, sAsg_ev, List.set_cons_zero, List.set_cons_succ, bindOk, bindEx, bindNo, toOk, toEx, toNo, if_true, if_false, ite_true, ite_false, Bool.false_eq_true, Bool.true_eq_false, eq_self, decide_true, decide_false, Bool.not_true, Bool.not_false, reduceIte, reduceCtorEq, add_int, sub_int, neg_int, lt_int, le_int, gt_int, ge_int, eq_int, ne_int, isN_ev, notN_ev, len_tup, int_int, int_bl, max2_ev, Nat.le_refl, gc_rt_same, gc_nx_same, gc_ex_same, line_small, Nat.reduceLeDiff, Nat.zero_le, isB_evI, isNone, isBl, isi_int (cs := CLS) (S := S) (kn_lst ha), isi_str (cs := CLS) (S := S) (kn_lst ha), isi_tuple (cs := CLS) (S := S) (kn_lst ha), isi_int (cs := CLS) (S := S) (kn_lst hb), isi_str (cs := CLS) (S := S) (kn_lst hb), isi_tuple (cs := CLS) (S := S) (kn_lst hb), il a ha, il b hb, isIntD, isBlD, isStrD, isTupD, Bool.or_false, ne_bls, len_ref, ha, hb, lenO_lst, sFor_ev]
  rw [z]
  simp only [fnOf_ev, List.length_cons, List.length_nil, Nat.zero_add, Nat.reduceAdd, Nat.reduceSub, List.map_cons, List.map_nil, List.cons_append, List.nil_append, List.append_nil, List.replicate_zero, List.replicate_succ, sSeq_ev, seq_nx, seq_rt, seq_bk, seq_ct, seq_ex, seq_no, eVar_z, eVar_s, eC_ev, aNil_ev, aCons_ev, consK_ev, consK2_ev, eOp_ev, opK_ev, eUn_ev, eTup_ev, eLst_ev, tupK_ev, lstK_ev, eB_ev, eIf_ev, iteK_ev, eAnd_ev, eOr_ev, andR_bl, orR_bl, eNot_ev, notR_bl, asB_bl, tB_ev, tAnd_ev, tAndK_ev, tOr_ev, tOrK_ev, tNot_ev, tNotK_ev, tYes_ev, eChain_ev, chainK_ev, chainK1_ev, chainK2_ev, chainK3_ev, eFld_ev, eSl_ev, slK_ev, slK1_ev, oNo_ev, oAt_ev, atR_int, sNil_ev, sSet_ev, setK_ev, sE_ev, dropK_ev, sRet_ev, retK_ev, sRetN_ev, sIf_ev, sIfK_ev, sRz_ev, sRx_ev, rxK_ev, sPut_ev, putK0_ev, putK1_ev, putK2_ev, putK3_ev, sAsg_ev, List.set_cons_zero, List.set_cons_succ, bindOk, bindEx, bindNo, toOk, toEx, toNo, if_true, if_false, ite_true, ite_false, Bool.false_eq_true, Bool.true_eq_false, eq_self, decide_true, decide_false, Bool.not_true, Bool.not_false, reduceIte, reduceCtorEq, add_int, sub_int, neg_int, lt_int, le_int, gt_int, ge_int, eq_int, ne_int, isN_ev, notN_ev, len_tup, int_int, int_bl, max2_ev, Nat.le_refl, gc_rt_same, gc_nx_same, gc_ex_same, line_small, Nat.reduceLeDiff, Nat.zero_le, forK_ev, zip_self]
  rw [e]
  simp only [fnOf_ev, List.length_cons, List.length_nil, Nat.zero_add, Nat.reduceAdd, Nat.reduceSub, List.map_cons, List.map_nil, List.cons_append, List.nil_append, List.append_nil, List.replicate_zero, List.replicate_succ, sSeq_ev, seq_nx, seq_rt, seq_bk, seq_ct, seq_ex, seq_no, eVar_z, eVar_s, eC_ev, aNil_ev, aCons_ev, consK_ev, consK2_ev, eOp_ev, opK_ev, eUn_ev, eTup_ev, eLst_ev, tupK_ev, lstK_ev, eB_ev, eIf_ev, iteK_ev, eAnd_ev, eOr_ev, andR_bl, orR_bl, eNot_ev, notR_bl, asB_bl, tB_ev, tAnd_ev, tAndK_ev, tOr_ev, tOrK_ev, tNot_ev, tNotK_ev, tYes_ev, eChain_ev, chainK_ev, chainK1_ev, chainK2_ev, chainK3_ev, eFld_ev, eSl_ev, slK_ev, slK1_ev, oNo_ev, oAt_ev, atR_int, sNil_ev, sSet_ev, setK_ev, sE_ev, dropK_ev, sRet_ev, retK_ev, sRetN_ev, sIf_ev, sIfK_ev, sRz_ev, sRx_ev, rxK_ev, sPut_ev, putK0_ev, putK1_ev, putK2_ev, putK3_ev, sAsg_ev, List.set_cons_zero, List.set_cons_succ, bindOk, bindEx, bindNo, toOk, toEx, toNo, if_true, if_false, ite_true, ite_false, Bool.false_eq_true, Bool.true_eq_false, eq_self, decide_true, decide_false, Bool.not_true, Bool.not_false, reduceIte, reduceCtorEq, add_int, sub_int, neg_int, lt_int, le_int, gt_int, ge_int, eq_int, ne_int, isN_ev, notN_ev, len_tup, int_int, int_bl, max2_ev, Nat.le_refl, gc_rt_same, gc_nx_same, gc_ex_same, line_small, Nat.reduceLeDiff, Nat.zero_le]
theorem enD_map : ∀ (n : Nat) (l : List D), enD n l = (List.range l.length).map fun k => D.tup [.int ((n + k : Nat) : Int), l[k]?.getD .non]
  | _, [] => rfl
  | n, x :: l => by
    rw [List.length_cons, List.range_succ_eq_map, List.map_cons, List.map_map]
    show D.tup [.int (n : Int), x] :: enD ((n + 1 : Nat) : Int) l = _
    rw [enD_map (n + 1) l]
    congr 1
    apply List.map_congr_left
    intro k _
    show D.tup [.int ((n + 1 + k : Nat) : Int), l[k]?.getD .non] = D.tup [.int ((n + (k + 1) : Nat) : Int), _]
    rw [show n + 1 + k = n + (k + 1) by omega]
    rfl
theorem enD_pl {k n : Nat} {l : List D} (h : ∀ x ∈ l, PlD (k + 1) x) : ∀ x ∈ enD n l, PlD (k + 2) x := by
  rw [enD_map]
  intro x m
  obtain ⟨i, hi, rfl⟩ := List.mem_map.mp m
  have hl := List.mem_range.mp hi
  refine ⟨by simp, fun y m => ?_⟩
  simp only [List.mem_cons, List.not_mem_nil, or_false] at m
  rcases m with rfl | rfl
  · trivial
  · rw [List.getElem?_eq_getElem hl]
    exact h _ (List.getElem_mem hl)
/-- the link as a whole: what the law keeps of it -/
structure Lk (S : Sto) (o e q m d d2 t g n : Nat) (xs : List D) (kvs : List (DK × D)) (F : List Nat) : Prop where
  out : Out S o g (xs.drop g) F t
  inn : InS S e d n kvs
  mi : Mi S m d2 n kvs
  q : S[q]? = some (.lst xs)
  gn : g ≤ n
  nx : n ≤ xs.length
  kv : Kv xs n kvs
  free : dgetD kvs (kI n) = none
  pl : ∀ x ∈ xs, PlD 4 x
  xl : xs.length ≤ 30
  kl : kvs.length ≤ 200
section
variable {S : Sto} {o e q m d d2 t g n : Nat} {xs : List D} {kvs : List (DK × D)} {F : List Nat}
theorem ends_ok (h : Lk S o e q m d d2 t g n xs kvs F) : F_law_ends_right [.ref o, .ref e, .ref q, .int g, .ref m] S = .ok (.bl true) S := by
  obtain ⟨is, hi, il⟩ := Kv.ints h.kv.of
  have gx := Nat.le_trans h.gn h.nx
  have dl : (xs.drop g).length = xs.length - g := List.length_drop ..
  have c1 : eComp (iRng1 (aCons (eOp opSub (eB bLen (aCons (eVar 2) aNil)) (eVar 3)) aNil)) [6] (.name 6) tYes (eTup (aCons (eOp opAdd (eVar 3) (eVar 6)) (aCons (eOp opIx (eVar 2) (eOp opAdd (eVar 3) (eVar 6))) aNil))) [some (.ref o), some (.ref e), some (.ref q), some (.int g), some (.ref m), none, none] S = .ok (.ref S.length) (S ++ [.lst (enD g (xs.drop g))]) := by
    have ea : aCons (eOp opSub (eB bLen (aCons (eVar 2) aNil)) (eVar 3)) aNil [some (.ref o), some (.ref e), some (.ref q), some (.int g), some (.ref m), none, none] S = .ok [.int ((xs.length - g : Nat) : Int)] S := by
      have ei : ((xs.length : Int) - (g : Int)) = ((xs.length - g : Nat) : Int) := by omega
      simp only [fnOf_ev, List.length_cons, List.length_nil, Nat.zero_add, Nat.reduceAdd, Nat.reduceSub, List.map_cons, List.map_nil, List.cons_append, List.nil_append, List.append_nil, List.replicate_zero, List.replicate_succ, sSeq_ev, seq_nx, seq_rt, seq_bk, seq_ct, seq_ex, seq_no, eVar_z, eVar_s, eC_ev, aNil_ev, aCons_ev, consK_ev, consK2_ev, eOp_ev, opK_ev, eUn_ev, eTup_ev, eLst_ev, tupK_ev, lstK_ev, eB_ev, eIf_ev, iteK_ev, eAnd_ev, eOr_ev, andR_bl, orR_bl, eNot_ev, notR_bl, asB_bl, tB_ev, tAnd_ev, tAndK_ev, tOr_ev, tOrK_ev, tNot_ev, tNotK_ev, tYes_ev, eChain_ev, chainK_ev, chainK1_ev, chainK2_ev, chainK3_ev, eFld_ev, eSl_ev, slK_ev, slK1_ev, oNo_ev, oAt_ev, atR_int, sNil_ev, sSet_ev, setK_ev, sE_ev, dropK_ev, sRet_ev, retK_ev, sRetN_ev, sIf_ev, sIfK_ev, sRz_ev, sRx_ev, rxK_ev, sPut_ev, putK0_ev, putK1_ev, putK2_ev, putK3_ev, sAsg_ev, List.set_cons_zero, List.set_cons_succ, bindOk, bindEx, bindNo, toOk, toEx, toNo, if_true, if_false, ite_true, ite_false, Bool.false_eq_true, Bool.true_eq_false, eq_self, decide_true, decide_false, Bool.not_true, Bool.not_false, reduceIte, reduceCtorEq, add_int, sub_int, neg_int, lt_int, le_int, gt_int, ge_int, eq_int, ne_int, isN_ev, notN_ev, len_tup, int_int, int_bl, max2_ev, Nat.le_refl, gc_rt_same, gc_nx_same, gc_ex_same, line_small, Nat.reduceLeDiff, Nat.zero_le, len_ref, h.q, lenO_lst, ei]
    rw [comp_its (u := ⟨(List.range (xs.length - g)).map fun (k : Nat) => D.int (k : Int), []⟩) (S1 := S) (rng1 ea (by have := h.xl; omega)) live_nil ?l (fun x => match x with | .int k => .tup [.int ((g : Int) + k), xs[g + k.toNat]?.getD .non] | _ => .non) ?b]
    · rw [enD_map, List.map_map, dl]
      congr 4
      apply List.map_congr_left
      intro k _
      show D.tup [.int ((g : Int) + (k : Int)), xs[g + (k : Int).toNat]?.getD .non] = _
      rw [Int.toNat_natCast, List.getElem?_drop]
      rfl
    · show ((List.range (xs.length - g)).map _).length ≤ 16777216
      rw [List.length_map, List.length_range]
      have := h.xl
      omega
    · intro x hx
      obtain ⟨k, hk, rfl⟩ := List.mem_map.mp hx
      have lk := List.mem_range.mp hk
      refine ⟨_, asg_name, tYes_ev _ _, ?_⟩
      have hl : g + k < xs.length := by omega
      have ai : L2.atI xs ((g : Int) + (k : Int)) = some xs[g + k] := atI_nat' (k := g + k) hl
      show _ = KF.R.ok (D.tup [.int ((g : Int) + (k : Int)), xs[g + (k : Int).toNat]?.getD .non]) S
      rw [Int.toNat_natCast, List.getElem?_eq_getElem hl]
      simp only [fnOf_ev, List.length_cons, List.length_nil, Nat.zero_add, Nat.reduceAdd, Nat.reduceSub, List.map_cons, List.map_nil, List.cons_append, List.nil_append, List.append_nil, List.replicate_zero, List.replicate_succ, sSeq_ev, seq_nx, seq_rt, seq_bk, seq_ct, seq_ex, seq_no, eVar_z, eVar_s, eC_ev, aNil_ev, aCons_ev, consK_ev, consK2_ev, eOp_ev, opK_ev, eUn_ev, eTup_ev, eLst_ev, tupK_ev, lstK_ev, eB_ev, eIf_ev, iteK_ev, eAnd_ev, eOr_ev, andR_bl, orR_bl, eNot_ev, notR_bl, asB_bl, tB_ev, tAnd_ev, tAndK_ev, tOr_ev, tOrK_ev, tNot_ev, tNotK_ev, tYes_ev, eChain_ev, chainK_ev, chainK1_ev, chainK2_ev, chainK3_ev, eFld_ev, eSl_ev, slK_ev, slK1_ev, oNo_ev, oAt_ev, atR_int, sNil_ev, sSet_ev, setK_ev, sE_ev, dropK_ev, sRet_ev, retK_ev, sRetN_ev, sIf_ev, sIfK_ev, sRz_ev, sRx_ev, rxK_ev, sPut_ev, putK0_ev, putK1_ev, putK2_ev, putK3_ev, sAsg_ev, List.set_cons_zero, List.set_cons_succ, bindOk, bindEx, bindNo, toOk, toEx, toNo, if_true, if_false, ite_true, ite_false, Bool.false_eq_true, Bool.true_eq_false, eq_self, decide_true, decide_false, Bool.not_true, Bool.not_false, reduceIte, reduceCtorEq, add_int, sub_int, neg_int, lt_int, le_int, gt_int, ge_int, eq_int, ne_int, isN_ev, notN_ev, len_tup, int_int, int_bl, max2_ev, Nat.le_refl, gc_rt_same, gc_nx_same, gc_ex_same, line_small, Nat.reduceLeDiff, Nat.zero_le, wipe_cons, wipe_nil, ix_ref, h.q, ixO_at ai]
      rfl
  have o1 : Out (S ++ [GO.lst (enD g (xs.drop g))]) o g (xs.drop g) F t := ⟨app_at h.out.at_, app_at h.out.lst, h.out.apart⟩
  have w1 := waiting_ok o1 (by have := h.xl; omega)
  have pl1 : ∀ x ∈ enD g (xs.drop g), PlD 5 x := enD_pl (k := 3) fun x mx => h.pl x (List.mem_of_mem_drop mx)
  have s1 := same_lst (S := S ++ [GO.lst (enD g (xs.drop g))] ++ [GO.lst (enD g (xs.drop g))]) (k := 22) (a := (S ++ [GO.lst (enD g (xs.drop g))]).length) (b := S.length) last_at (app_at last_at) fun x mx => by
    have u := pl1 x mx
    exact (Nat.le.rec (motive := fun k _ => PlD k x) u (fun _ ih => ih.up) (show 5 ≤ 22 by decide))
  have e2 : (S ++ [GO.lst (enD g (xs.drop g))] ++ [GO.lst (enD g (xs.drop g))])[o]? = some (OutO g t) := app_at (app_at h.out.at_)
  have o2 : Out (S ++ [GO.lst (enD g (xs.drop g))] ++ [GO.lst (enD g (xs.drop g))]) o g (xs.drop g) F t := ⟨e2, app_at (app_at h.out.lst), h.out.apart⟩
  have i2 : InS (S ++ [GO.lst (enD g (xs.drop g))] ++ [GO.lst (enD g (xs.drop g))]) e d n kvs := ⟨app_at (app_at h.inn.at_), app_at (app_at h.inn.dic)⟩
  have m2 : Mi (S ++ [GO.lst (enD g (xs.drop g))] ++ [GO.lst (enD g (xs.drop g))]) m d2 n kvs := ⟨app_at (app_at h.mi.at_), app_at (app_at h.mi.dic), h.mi.neq⟩
  have mp := many_put_ok o2
  rw [dl, show ((g : Int) + ((xs.length - g : Nat) : Int)) = (xs.length : Int) by omega] at mp
  have tk := taken_ok i2
  have hd := held_ok i2 (by have := h.kl; omega) hi
  have k1 := keysK_mi m2 (δ := [some (.ref o), some (.ref e), some (.ref q), some (.int g), some (.ref m), some (.ref S.length), none]) (i := 4) rfl
  have k2 := sorted_lstI (a := (S ++ [GO.lst (enD g (xs.drop g))] ++ [GO.lst (enD g (xs.drop g))]).length) (S := S ++ [GO.lst (enD g (xs.drop g))] ++ [GO.lst (enD g (xs.drop g))] ++ [GO.lst (kvs.map fun kv => kv.1.toD)]) (is := is) last_at (by rw [List.length_map]; have := h.kl; omega) hi
  have k3 : ∀ (S : Sto) l, bTuple [.ref S.length] (S ++ [GO.lst l]) = .ok (.tup l) (S ++ [GO.lst l]) := fun S l => tuple_ref last_at
  have s2 := fun (S : Sto) (i : Int) => same_pl (S := S) 23 (.int i) trivial
  have s3 := fun (S : Sto) => same_pl (S := S) 23 (hsD is) (Nat.le.rec (motive := fun k _ => PlD k (hsD is)) (hsD_pl (by have := h.kl; omega)) (fun _ ih => ih.up) (show 1 ≤ 23 by decide))
  unfold hsD at hd s3
  unfold F_law_ends_right
  simp only [fnOf_ev, List.length_cons, List.length_nil, Nat.zero_add, Nat.reduceAdd, Nat.reduceSub, List.map_cons, List.map_nil, List.cons_append, List.nil_append, List.append_nil, List.replicate_zero, List.replicate_succ, sSeq_ev, seq_nx, seq_rt, seq_bk, seq_ct, seq_ex, seq_no, eVar_z, eVar_s, eC_ev, aNil_ev, aCons_ev, consK_ev, consK2_ev, eOp_ev, opK_ev, eUn_ev, eTup_ev, eLst_ev, tupK_ev, lstK_ev, eB_ev, eIf_ev, iteK_ev, eAnd_ev, eOr_ev, andR_bl, orR_bl, eNot_ev, notR_bl, asB_bl, tB_ev, tAnd_ev, tAndK_ev, tOr_ev, tOrK_ev, tNot_ev, tNotK_ev, tYes_ev, eChain_ev, chainK_ev, chainK1_ev, chainK2_ev, chainK3_ev, eFld_ev, eSl_ev, slK_ev, slK1_ev, oNo_ev, oAt_ev, atR_int, sNil_ev, sSet_ev, setK_ev, sE_ev, dropK_ev, sRet_ev, retK_ev, sRetN_ev, sIf_ev, sIfK_ev, sRz_ev, sRx_ev, rxK_ev, sPut_ev, putK0_ev, putK1_ev, putK2_ev, putK3_ev, sAsg_ev, List.set_cons_zero, List.set_cons_succ, bindOk, bindEx, bindNo, toOk, toEx, toNo, if_true, if_false, ite_true, ite_false, Bool.false_eq_true, Bool.true_eq_false, eq_self, decide_true, decide_false, Bool.not_true, Bool.not_false, reduceIte, reduceCtorEq, add_int, sub_int, neg_int, lt_int, le_int, gt_int, ge_int, eq_int, ne_int, isN_ev, notN_ev, len_tup, int_int, int_bl, max2_ev, Nat.le_refl, gc_rt_same, gc_nx_same, gc_ex_same, line_small, Nat.reduceLeDiff, Nat.zero_le, c1, eMeth_ev, methK_ref, o1.at_, OutO, methO_ins (C := "Outgoing") (m := "waiting") (fn := F_Outgoing_waiting) (fs := [("let_go", .int g), ("things", .ref t)]) rfl, methA_ev, w1, s1, e2, methO_ins (C := "Outgoing") (m := "many_put") (fn := F_Outgoing_many_put) (fs := [("let_go", .int g), ("things", .ref t)]) rfl, mp, len_ref, app_at (T := [GO.lst (enD g (xs.drop g))]) (app_at (T := [GO.lst (enD g (xs.drop g))]) h.q), lenO_lst, s2, i2.at_, InO, methO_ins (C := "Incoming") (m := "taken") (fn := F_Incoming_taken) (fs := [("due", .int n), ("early", .ref d)]) rfl, tk, ix_taken m2.at_, methO_ins (C := "Incoming") (m := "held") (fn := F_Incoming_held) (fs := [("due", .int n), ("early", .ref d)]) rfl, hd, k1, k2, k3, s3]
  exact gc_rt_pre ⟨_, by rw [List.append_assoc, List.append_assoc, List.append_assoc]⟩ rfl
end
end KF
set_option Elab.async false
set_option linter.all false
set_option maxRecDepth 100000
set_option maxHeartbeats 4000000
namespace KF
open PySem
theorem take_eqI : F_law_take = takeF := id rfl
theorem pick_eqI : F_law_pick = pickF := id rfl
theorem PlD.of0 : ∀ {n : Nat} {d : D}, PlD 0 d → PlD n d
  | 0, _, h => h
  | n + 1, _, h => (PlD.of0 (n := n) h).up
theorem len_rngI {k : Nat} {f : Nat → D} (h : k < 1000000) : ((List.range k).map f).length ≤ line := by
  rw [List.length_map, List.length_range]
  exact Nat.le_trans (Nat.le_of_lt h) (by decide)
section
variable {h c : Nat}
theorem item_ok : ∀ (k deep : Nat) (S : Sto), deep < k → Hand S h c → ∃ d S', F_law_item k [.ref h, .int deep] S = .ok d S' ∧ Dr h c S S' ∧ PlD deep d := by
  intro k
  induction k with
  | zero => intro deep S h; omega
  | succ k ih =>
    intro deep S hk H
    have l0 := H.lt
    have p6 : ∀ S : Sto, opPow (.int 10) (.int 6) S = .ok (.int 1000000) S := fun S => by rw [pow_ok (by decide)]; rfl
    have p19 : ∀ S : Sto, opPow (.int 10) (.int 19) S = .ok (.int 10000000000000000000) S := fun S => by rw [pow_ok (by decide)]; rfl
    obtain ⟨r, S1, a0, a1, e1, d1, _⟩ := take_dr (m := 8) H (by omega) (by omega)
    have fin : ∀ (d : D) (S2 : Sto), Dr h c S S2 → PlD deep d → ∃ d' S', gcR S (.rt d S2) = .ok d' S' ∧ Dr h c S S' ∧ PlD deep d' := fun d S2 q p => by
      obtain ⟨S3, e, dr⟩ := gc_draw (d := d) H q
      exact ⟨d, S3, e, dr, p⟩
    have tail : decide (r = 0) = false ∨ decide ((deep : Int) > 0) = false → ∃ d S', F_law_item (k + 1) [.ref h, .int deep] S = .ok d S' ∧ Dr h c S S' ∧ PlD deep d := by
      intro z
      have cnd : ∀ S0 : Sto, (if decide (r = 0) = true then KF.R.ok (decide ((0 : Int) < (deep : Int))) S0 else KF.R.ok false S0) = KF.R.ok false S0 := fun S0 => by
        split
        · rename_i q
          have q' : r = 0 := of_decide_eq_true q
          have z2 : decide ((deep : Int) > 0) = false := z.resolve_left (by rw [q]; decide)
          have z3 : decide ((0 : Int) < (deep : Int)) = false := z2
          rw [z3]
        · rfl
      unfold F_law_item
      by_cases q3 : r < 3
      · have q3' : decide (r < 3) = true := decide_eq_true q3
        obtain ⟨u, S2, b0, b1, e2, d2, _⟩ := take_dr (m := 6) (d1.hd.app (T := [.lst [.non, .bl true, .bl false, .str "", .str "task", .str "answer"]])) (by omega) (by omega)
        obtain ⟨d, hd, md⟩ := atI_of (l := [D.non, .bl true, .bl false, .str "", .str "task", .str "answer"]) b0 (by simpa using b1)
        have at2 : S2[S1.length]? = some (.lst [.non, .bl true, .bl false, .str "", .str "task", .str "answer"]) := d2.kp.at_ _ _ (by have := d1.hd.lt; omega) last_at
        simp only [fnOf_ev, List.length_cons, List.length_nil, Nat.zero_add, Nat.reduceAdd, Nat.reduceSub, List.map_cons, List.map_nil, List.cons_append, List.nil_append, List.append_nil, List.replicate_zero, List.replicate_succ, sSeq_ev, seq_nx, seq_rt, seq_bk, seq_ct, seq_ex, seq_no, eVar_z, eVar_s, eC_ev, aNil_ev, aCons_ev, consK_ev, consK2_ev, eOp_ev, opK_ev, eUn_ev, eTup_ev, eLst_ev, tupK_ev, lstK_ev, eB_ev, eIf_ev, iteK_ev, eAnd_ev, eOr_ev, andR_bl, orR_bl, eNot_ev, notR_bl, asB_bl, tB_ev, tAnd_ev, tAndK_ev, tOr_ev, tOrK_ev, tNot_ev, tNotK_ev, tYes_ev, eChain_ev, chainK_ev, chainK1_ev, chainK2_ev, chainK3_ev, eFld_ev, eSl_ev, slK_ev, slK1_ev, oNo_ev, oAt_ev, atR_int, sNil_ev, sSet_ev, setK_ev, sE_ev, dropK_ev, sRet_ev, retK_ev, sRetN_ev, sIf_ev, sIfK_ev, sRz_ev, sRx_ev, rxK_ev, sPut_ev, putK0_ev, putK1_ev, putK2_ev, putK3_ev, sAsg_ev, List.set_cons_zero, List.set_cons_succ, bindOk, bindEx, bindNo, toOk, toEx, toNo, if_true, if_false, ite_true, ite_false, Bool.false_eq_true, Bool.true_eq_false, eq_self, decide_true, decide_false, Bool.not_true, Bool.not_false, reduceIte, reduceCtorEq, add_int, sub_int, neg_int, lt_int, le_int, gt_int, ge_int, eq_int, ne_int, isN_ev, notN_ev, len_tup, int_int, int_bl, max2_ev, Nat.le_refl, gc_rt_same, gc_nx_same, gc_ex_same, line_small, Nat.reduceLeDiff, Nat.zero_le, take_eqI, e1]
        rw [cnd]
        simp only [fnOf_ev, List.length_cons, List.length_nil, Nat.zero_add, Nat.reduceAdd, Nat.reduceSub, List.map_cons, List.map_nil, List.cons_append, List.nil_append, List.append_nil, List.replicate_zero, List.replicate_succ, sSeq_ev, seq_nx, seq_rt, seq_bk, seq_ct, seq_ex, seq_no, eVar_z, eVar_s, eC_ev, aNil_ev, aCons_ev, consK_ev, consK2_ev, eOp_ev, opK_ev, eUn_ev, eTup_ev, eLst_ev, tupK_ev, lstK_ev, eB_ev, eIf_ev, iteK_ev, eAnd_ev, eOr_ev, andR_bl, orR_bl, eNot_ev, notR_bl, asB_bl, tB_ev, tAnd_ev, tAndK_ev, tOr_ev, tOrK_ev, tNot_ev, tNotK_ev, tYes_ev, eChain_ev, chainK_ev, chainK1_ev, chainK2_ev, chainK3_ev, eFld_ev, eSl_ev, slK_ev, slK1_ev, oNo_ev, oAt_ev, atR_int, sNil_ev, sSet_ev, setK_ev, sE_ev, dropK_ev, sRet_ev, retK_ev, sRetN_ev, sIf_ev, sIfK_ev, sRz_ev, sRx_ev, rxK_ev, sPut_ev, putK0_ev, putK1_ev, putK2_ev, putK3_ev, sAsg_ev, List.set_cons_zero, List.set_cons_succ, bindOk, bindEx, bindNo, toOk, toEx, toNo, if_true, if_false, ite_true, ite_false, Bool.false_eq_true, Bool.true_eq_false, eq_self, decide_true, decide_false, Bool.not_true, Bool.not_false, reduceIte, reduceCtorEq, add_int, sub_int, neg_int, lt_int, le_int, gt_int, ge_int, eq_int, ne_int, isN_ev, notN_ev, len_tup, int_int, int_bl, max2_ev, Nat.le_refl, gc_rt_same, gc_nx_same, gc_ex_same, line_small, Nat.reduceLeDiff, Nat.zero_le, q3', take_eqI, e2, ix_ref, at2, ixO_at hd]
        refine fin d S2 (d1.app.trans d2) (PlD.of0 ?_)
        simp only [List.mem_cons, List.not_mem_nil, or_false] at md
        rcases md with rfl | rfl | rfl | rfl | rfl | rfl <;> simp [PlD]
      · have q3' : decide (r < 3) = false := decide_eq_false q3
        obtain ⟨u1, S2, _, _, e2, d2, _⟩ := take_dr (m := 9) d1.hd (by omega) (by omega)
        obtain ⟨u2, S3, _, _, e3, d3, _⟩ := take_dr (m := 1000000) d2.hd (by omega) (by omega)
        obtain ⟨u3, S4, _, _, e4, d4, _⟩ := take_dr (m := 9) d3.hd (by omega) (by omega)
        have d14 := d1.trans (d2.trans (d3.trans d4))
        obtain ⟨d, S5, md, e5, d5, _⟩ := pick_dr (a := S4.length) (l := [.int u1, .int u2, .int (-1 - u3), .int 10000000000000000000]) (d4.hd.app (T := [.lst [.int u1, .int u2, .int (-1 - u3), .int 10000000000000000000]])) last_at (by have := d4.hd.lt; omega) (by simp) (by simp)
        simp only [fnOf_ev, List.length_cons, List.length_nil, Nat.zero_add, Nat.reduceAdd, Nat.reduceSub, List.map_cons, List.map_nil, List.cons_append, List.nil_append, List.append_nil, List.replicate_zero, List.replicate_succ, sSeq_ev, seq_nx, seq_rt, seq_bk, seq_ct, seq_ex, seq_no, eVar_z, eVar_s, eC_ev, aNil_ev, aCons_ev, consK_ev, consK2_ev, eOp_ev, opK_ev, eUn_ev, eTup_ev, eLst_ev, tupK_ev, lstK_ev, eB_ev, eIf_ev, iteK_ev, eAnd_ev, eOr_ev, andR_bl, orR_bl, eNot_ev, notR_bl, asB_bl, tB_ev, tAnd_ev, tAndK_ev, tOr_ev, tOrK_ev, tNot_ev, tNotK_ev, tYes_ev, eChain_ev, chainK_ev, chainK1_ev, chainK2_ev, chainK3_ev, eFld_ev, eSl_ev, slK_ev, slK1_ev, oNo_ev, oAt_ev, atR_int, sNil_ev, sSet_ev, setK_ev, sE_ev, dropK_ev, sRet_ev, retK_ev, sRetN_ev, sIf_ev, sIfK_ev, sRz_ev, sRx_ev, rxK_ev, sPut_ev, putK0_ev, putK1_ev, putK2_ev, putK3_ev, sAsg_ev, List.set_cons_zero, List.set_cons_succ, bindOk, bindEx, bindNo, toOk, toEx, toNo, if_true, if_false, ite_true, ite_false, Bool.false_eq_true, Bool.true_eq_false, eq_self, decide_true, decide_false, Bool.not_true, Bool.not_false, reduceIte, reduceCtorEq, add_int, sub_int, neg_int, lt_int, le_int, gt_int, ge_int, eq_int, ne_int, isN_ev, notN_ev, len_tup, int_int, int_bl, max2_ev, Nat.le_refl, gc_rt_same, gc_nx_same, gc_ex_same, line_small, Nat.reduceLeDiff, Nat.zero_le, take_eqI, e1]
        rw [cnd]
        simp only [fnOf_ev, List.length_cons, List.length_nil, Nat.zero_add, Nat.reduceAdd, Nat.reduceSub, List.map_cons, List.map_nil, List.cons_append, List.nil_append, List.append_nil, List.replicate_zero, List.replicate_succ, sSeq_ev, seq_nx, seq_rt, seq_bk, seq_ct, seq_ex, seq_no, eVar_z, eVar_s, eC_ev, aNil_ev, aCons_ev, consK_ev, consK2_ev, eOp_ev, opK_ev, eUn_ev, eTup_ev, eLst_ev, tupK_ev, lstK_ev, eB_ev, eIf_ev, iteK_ev, eAnd_ev, eOr_ev, andR_bl, orR_bl, eNot_ev, notR_bl, asB_bl, tB_ev, tAnd_ev, tAndK_ev, tOr_ev, tOrK_ev, tNot_ev, tNotK_ev, tYes_ev, eChain_ev, chainK_ev, chainK1_ev, chainK2_ev, chainK3_ev, eFld_ev, eSl_ev, slK_ev, slK1_ev, oNo_ev, oAt_ev, atR_int, sNil_ev, sSet_ev, setK_ev, sE_ev, dropK_ev, sRet_ev, retK_ev, sRetN_ev, sIf_ev, sIfK_ev, sRz_ev, sRx_ev, rxK_ev, sPut_ev, putK0_ev, putK1_ev, putK2_ev, putK3_ev, sAsg_ev, List.set_cons_zero, List.set_cons_succ, bindOk, bindEx, bindNo, toOk, toEx, toNo, if_true, if_false, ite_true, ite_false, Bool.false_eq_true, Bool.true_eq_false, eq_self, decide_true, decide_false, Bool.not_true, Bool.not_false, reduceIte, reduceCtorEq, add_int, sub_int, neg_int, lt_int, le_int, gt_int, ge_int, eq_int, ne_int, isN_ev, notN_ev, len_tup, int_int, int_bl, max2_ev, Nat.le_refl, gc_rt_same, gc_nx_same, gc_ex_same, line_small, Nat.reduceLeDiff, Nat.zero_le, q3', take_eqI, pick_eqI, e2, e3, e4, p6, p19, e5]
        refine fin d S5 (d14.app.trans d5) (PlD.of0 ?_)
        simp only [List.mem_cons, List.not_mem_nil, or_false] at md
        rcases md with rfl | rfl | rfl | rfl <;> trivial
    by_cases q0 : r = 0
    · match deep, hk with
      | 0, hk => exact tail (.inr (by decide))
      | deep + 1, hk =>
        subst q0
        obtain ⟨u, S2, b0, b1, e2, d2, _⟩ := take_dr (m := 3) d1.hd (by omega) (by omega)
        obtain ⟨u, rfl⟩ := Int.eq_ofNat_of_zero_le b0
        have g0 : decide (((deep + 1 : Nat) : Int) > 0) = true := decide_eq_true (by omega)
        have g1 : decide ((0 : Int) < ((deep + 1 : Nat) : Int)) = true := g0
        have sb : (((deep + 1 : Nat) : Int) - 1) = (deep : Int) := by omega
        obtain ⟨ys, S3, e3, d3, len, hy⟩ := comp_inv (it := iRng1 (aCons (eB F_law_take (aCons (eVar 0) (aCons (eC (.int 3)) aNil))) aNil)) (vs := [3]) (tg := .name 3) (t := tYes) (f := eB (F_law_item k) (aCons (eVar 0) (aCons (eOp opSub (eVar 1) (eC (.int 1))) aNil)))
          (δ := [some (.ref h), some (.int ((deep + 1 : Nat) : Int)), some (.int 0), none]) (S := S1) (S1 := S2) (u := ⟨(List.range u).map fun (k : Nat) => .int (k : Int), []⟩) (rng1 (by simp only [fnOf_ev, List.length_cons, List.length_nil, Nat.zero_add, Nat.reduceAdd, Nat.reduceSub, List.map_cons, List.map_nil, List.cons_append, List.nil_append, List.append_nil, List.replicate_zero, List.replicate_succ, sSeq_ev, seq_nx, seq_rt, seq_bk, seq_ct, seq_ex, seq_no, eVar_z, eVar_s, eC_ev, aNil_ev, aCons_ev, consK_ev, consK2_ev, eOp_ev, opK_ev, eUn_ev, eTup_ev, eLst_ev, tupK_ev, lstK_ev, eB_ev, eIf_ev, iteK_ev, eAnd_ev, eOr_ev, andR_bl, orR_bl, eNot_ev, notR_bl, asB_bl, tB_ev, tAnd_ev, tAndK_ev, tOr_ev, tOrK_ev, tNot_ev, tNotK_ev, tYes_ev, eChain_ev, chainK_ev, chainK1_ev, chainK2_ev, chainK3_ev, eFld_ev, eSl_ev, slK_ev, slK1_ev, oNo_ev, oAt_ev, atR_int, sNil_ev, sSet_ev, setK_ev, sE_ev, dropK_ev, sRet_ev, retK_ev, sRetN_ev, sIf_ev, sIfK_ev, sRz_ev, sRx_ev, rxK_ev, sPut_ev, putK0_ev, putK1_ev, putK2_ev, putK3_ev, sAsg_ev, List.set_cons_zero, List.set_cons_succ, bindOk, bindEx, bindNo, toOk, toEx, toNo, if_true, if_false, ite_true, ite_false, Bool.false_eq_true, Bool.true_eq_false, eq_self, decide_true, decide_false, Bool.not_true, Bool.not_false, reduceIte, reduceCtorEq, add_int, sub_int, neg_int, lt_int, le_int, gt_int, ge_int, eq_int, ne_int, isN_ev, notN_ev, len_tup, int_int, int_bl, max2_ev, Nat.le_refl, gc_rt_same, gc_nx_same, gc_ex_same, line_small, Nat.reduceLeDiff, Nat.zero_le, take_eqI, e2]) (by omega)) (len_rngI (by omega))
          (fun S' => Dr h c S2 S') (fun y => PlD deep y) (Dr.refl d2.hd) (fun _ _ => live_nil) (fun x _ S' d => by
            obtain ⟨y, S4, e4, d4, p4⟩ := ih deep S' (by omega) d.hd
            refine ⟨_, asg_name, tYes_ev _ _, y, S4, ?_, d.trans d4, p4⟩
            simp only [fnOf_ev, List.length_cons, List.length_nil, Nat.zero_add, Nat.reduceAdd, Nat.reduceSub, List.map_cons, List.map_nil, List.cons_append, List.nil_append, List.append_nil, List.replicate_zero, List.replicate_succ, sSeq_ev, seq_nx, seq_rt, seq_bk, seq_ct, seq_ex, seq_no, eVar_z, eVar_s, eC_ev, aNil_ev, aCons_ev, consK_ev, consK2_ev, eOp_ev, opK_ev, eUn_ev, eTup_ev, eLst_ev, tupK_ev, lstK_ev, eB_ev, eIf_ev, iteK_ev, eAnd_ev, eOr_ev, andR_bl, orR_bl, eNot_ev, notR_bl, asB_bl, tB_ev, tAnd_ev, tAndK_ev, tOr_ev, tOrK_ev, tNot_ev, tNotK_ev, tYes_ev, eChain_ev, chainK_ev, chainK1_ev, chainK2_ev, chainK3_ev, eFld_ev, eSl_ev, slK_ev, slK1_ev, oNo_ev, oAt_ev, atR_int, sNil_ev, sSet_ev, setK_ev, sE_ev, dropK_ev, sRet_ev, retK_ev, sRetN_ev, sIf_ev, sIfK_ev, sRz_ev, sRx_ev, rxK_ev, sPut_ev, putK0_ev, putK1_ev, putK2_ev, putK3_ev, sAsg_ev, List.set_cons_zero, List.set_cons_succ, bindOk, bindEx, bindNo, toOk, toEx, toNo, if_true, if_false, ite_true, ite_false, Bool.false_eq_true, Bool.true_eq_false, eq_self, decide_true, decide_false, Bool.not_true, Bool.not_false, reduceIte, reduceCtorEq, add_int, sub_int, neg_int, lt_int, le_int, gt_int, ge_int, eq_int, ne_int, isN_ev, notN_ev, len_tup, int_int, int_bl, max2_ev, Nat.le_refl, gc_rt_same, gc_nx_same, gc_ex_same, line_small, Nat.reduceLeDiff, Nat.zero_le, wipe_cons, wipe_nil, sb, e4])
        have lu : ys.length = u := by simpa using len
        simp only [take_eqI] at e3
        unfold F_law_item
        simp only [fnOf_ev, List.length_cons, List.length_nil, Nat.zero_add, Nat.reduceAdd, Nat.reduceSub, List.map_cons, List.map_nil, List.cons_append, List.nil_append, List.append_nil, List.replicate_zero, List.replicate_succ, sSeq_ev, seq_nx, seq_rt, seq_bk, seq_ct, seq_ex, seq_no, eVar_z, eVar_s, eC_ev, aNil_ev, aCons_ev, consK_ev, consK2_ev, eOp_ev, opK_ev, eUn_ev, eTup_ev, eLst_ev, tupK_ev, lstK_ev, eB_ev, eIf_ev, iteK_ev, eAnd_ev, eOr_ev, andR_bl, orR_bl, eNot_ev, notR_bl, asB_bl, tB_ev, tAnd_ev, tAndK_ev, tOr_ev, tOrK_ev, tNot_ev, tNotK_ev, tYes_ev, eChain_ev, chainK_ev, chainK1_ev, chainK2_ev, chainK3_ev, eFld_ev, eSl_ev, slK_ev, slK1_ev, oNo_ev, oAt_ev, atR_int, sNil_ev, sSet_ev, setK_ev, sE_ev, dropK_ev, sRet_ev, retK_ev, sRetN_ev, sIf_ev, sIfK_ev, sRz_ev, sRx_ev, rxK_ev, sPut_ev, putK0_ev, putK1_ev, putK2_ev, putK3_ev, sAsg_ev, List.set_cons_zero, List.set_cons_succ, bindOk, bindEx, bindNo, toOk, toEx, toNo, if_true, if_false, ite_true, ite_false, Bool.false_eq_true, Bool.true_eq_false, eq_self, decide_true, decide_false, Bool.not_true, Bool.not_false, reduceIte, reduceCtorEq, add_int, sub_int, neg_int, lt_int, le_int, gt_int, ge_int, eq_int, ne_int, isN_ev, notN_ev, len_tup, int_int, int_bl, max2_ev, Nat.le_refl, gc_rt_same, gc_nx_same, gc_ex_same, line_small, Nat.reduceLeDiff, Nat.zero_le, take_eqI, e1, g0, g1, gt_int, e3, tuple_ref (a := S3.length) (S := S3 ++ [.lst ys]) last_at]
        exact fin (.tup ys) _ (d1.trans (d2.trans d3)).app ⟨by omega, hy⟩
    · exact tail (.inl (decide_eq_false q0))
theorem thing_ok {S : Sto} (H : Hand S h c) : ∃ d S', F_law_thing [.ref h] S = .ok d S' ∧ Dr h c S S' ∧ PlD 4 d := by
  obtain ⟨u, S2, b0, b1, e2, d2, _⟩ := take_dr (m := 4) H (by omega) (by omega)
  obtain ⟨u, rfl⟩ := Int.eq_ofNat_of_zero_le b0
  obtain ⟨ys, S3, e3, d3, len, hy⟩ := comp_inv (it := iRng1 (aCons (eB F_law_take (aCons (eVar 0) (aCons (eC (.int 4)) aNil))) aNil)) (vs := [1]) (tg := .name 1) (t := tYes) (f := eB (F_law_item 24) (aCons (eVar 0) (aCons (eC (.int 3)) aNil)))
    (δ := [some (.ref h), none]) (S := S) (S1 := S2) (u := ⟨(List.range u).map fun (k : Nat) => .int (k : Int), []⟩) (rng1 (by simp only [fnOf_ev, List.length_cons, List.length_nil, Nat.zero_add, Nat.reduceAdd, Nat.reduceSub, List.map_cons, List.map_nil, List.cons_append, List.nil_append, List.append_nil, List.replicate_zero, List.replicate_succ, sSeq_ev, seq_nx, seq_rt, seq_bk, seq_ct, seq_ex, seq_no, eVar_z, eVar_s, eC_ev, aNil_ev, aCons_ev, consK_ev, consK2_ev, eOp_ev, opK_ev, eUn_ev, eTup_ev, eLst_ev, tupK_ev, lstK_ev, eB_ev, eIf_ev, iteK_ev, eAnd_ev, eOr_ev, andR_bl, orR_bl, eNot_ev, notR_bl, asB_bl, tB_ev, tAnd_ev, tAndK_ev, tOr_ev, tOrK_ev, tNot_ev, tNotK_ev, tYes_ev, eChain_ev, chainK_ev, chainK1_ev, chainK2_ev, chainK3_ev, eFld_ev, eSl_ev, slK_ev, slK1_ev, oNo_ev, oAt_ev, atR_int, sNil_ev, sSet_ev, setK_ev, sE_ev, dropK_ev, sRet_ev, retK_ev, sRetN_ev, sIf_ev, sIfK_ev, sRz_ev, sRx_ev, rxK_ev, sPut_ev, putK0_ev, putK1_ev, putK2_ev, putK3_ev, sAsg_ev, List.set_cons_zero, List.set_cons_succ, bindOk, bindEx, bindNo, toOk, toEx, toNo, if_true, if_false, ite_true, ite_false, Bool.false_eq_true, Bool.true_eq_false, eq_self, decide_true, decide_false, Bool.not_true, Bool.not_false, reduceIte, reduceCtorEq, add_int, sub_int, neg_int, lt_int, le_int, gt_int, ge_int, eq_int, ne_int, isN_ev, notN_ev, len_tup, int_int, int_bl, max2_ev, Nat.le_refl, gc_rt_same, gc_nx_same, gc_ex_same, line_small, Nat.reduceLeDiff, Nat.zero_le, take_eqI, e2]) (by omega)) (len_rngI (by omega))
    (fun S' => Dr h c S2 S') (fun y => PlD 3 y) (Dr.refl d2.hd) (fun _ _ => live_nil) (fun x _ S' d => by
      obtain ⟨y, S4, e4, d4, p4⟩ := item_ok (h := h) (c := c) 24 3 S' (by omega) d.hd
      refine ⟨_, asg_name, tYes_ev _ _, y, S4, ?_, d.trans d4, p4⟩
      have e4' : F_law_item 24 [.ref h, .int 3] S' = .ok y S4 := e4
      simp only [fnOf_ev, List.length_cons, List.length_nil, Nat.zero_add, Nat.reduceAdd, Nat.reduceSub, List.map_cons, List.map_nil, List.cons_append, List.nil_append, List.append_nil, List.replicate_zero, List.replicate_succ, sSeq_ev, seq_nx, seq_rt, seq_bk, seq_ct, seq_ex, seq_no, eVar_z, eVar_s, eC_ev, aNil_ev, aCons_ev, consK_ev, consK2_ev, eOp_ev, opK_ev, eUn_ev, eTup_ev, eLst_ev, tupK_ev, lstK_ev, eB_ev, eIf_ev, iteK_ev, eAnd_ev, eOr_ev, andR_bl, orR_bl, eNot_ev, notR_bl, asB_bl, tB_ev, tAnd_ev, tAndK_ev, tOr_ev, tOrK_ev, tNot_ev, tNotK_ev, tYes_ev, eChain_ev, chainK_ev, chainK1_ev, chainK2_ev, chainK3_ev, eFld_ev, eSl_ev, slK_ev, slK1_ev, oNo_ev, oAt_ev, atR_int, sNil_ev, sSet_ev, setK_ev, sE_ev, dropK_ev, sRet_ev, retK_ev, sRetN_ev, sIf_ev, sIfK_ev, sRz_ev, sRx_ev, rxK_ev, sPut_ev, putK0_ev, putK1_ev, putK2_ev, putK3_ev, sAsg_ev, List.set_cons_zero, List.set_cons_succ, bindOk, bindEx, bindNo, toOk, toEx, toNo, if_true, if_false, ite_true, ite_false, Bool.false_eq_true, Bool.true_eq_false, eq_self, decide_true, decide_false, Bool.not_true, Bool.not_false, reduceIte, reduceCtorEq, add_int, sub_int, neg_int, lt_int, le_int, gt_int, ge_int, eq_int, ne_int, isN_ev, notN_ev, len_tup, int_int, int_bl, max2_ev, Nat.le_refl, gc_rt_same, gc_nx_same, gc_ex_same, line_small, Nat.reduceLeDiff, Nat.zero_le, wipe_cons, wipe_nil, e4'])
  have lu : ys.length = u := by simpa using len
  obtain ⟨S4, e4, d4⟩ := gc_draw (d := .tup ys) H (d2.trans d3).app (S1 := S3 ++ [.lst ys])
  refine ⟨.tup ys, S4, ?_, d4, by omega, hy⟩
  unfold F_law_thing
  simp only [fnOf_ev, List.length_cons, List.length_nil, Nat.zero_add, Nat.reduceAdd, Nat.reduceSub, List.map_cons, List.map_nil, List.cons_append, List.nil_append, List.append_nil, List.replicate_zero, List.replicate_succ, sSeq_ev, seq_nx, seq_rt, seq_bk, seq_ct, seq_ex, seq_no, eVar_z, eVar_s, eC_ev, aNil_ev, aCons_ev, consK_ev, consK2_ev, eOp_ev, opK_ev, eUn_ev, eTup_ev, eLst_ev, tupK_ev, lstK_ev, eB_ev, eIf_ev, iteK_ev, eAnd_ev, eOr_ev, andR_bl, orR_bl, eNot_ev, notR_bl, asB_bl, tB_ev, tAnd_ev, tAndK_ev, tOr_ev, tOrK_ev, tNot_ev, tNotK_ev, tYes_ev, eChain_ev, chainK_ev, chainK1_ev, chainK2_ev, chainK3_ev, eFld_ev, eSl_ev, slK_ev, slK1_ev, oNo_ev, oAt_ev, atR_int, sNil_ev, sSet_ev, setK_ev, sE_ev, dropK_ev, sRet_ev, retK_ev, sRetN_ev, sIf_ev, sIfK_ev, sRz_ev, sRx_ev, rxK_ev, sPut_ev, putK0_ev, putK1_ev, putK2_ev, putK3_ev, sAsg_ev, List.set_cons_zero, List.set_cons_succ, bindOk, bindEx, bindNo, toOk, toEx, toNo, if_true, if_false, ite_true, ite_false, Bool.false_eq_true, Bool.true_eq_false, eq_self, decide_true, decide_false, Bool.not_true, Bool.not_false, reduceIte, reduceCtorEq, add_int, sub_int, neg_int, lt_int, le_int, gt_int, ge_int, eq_int, ne_int, isN_ev, notN_ev, len_tup, int_int, int_bl, max2_ev, Nat.le_refl, gc_rt_same, gc_nx_same, gc_ex_same, line_small, Nat.reduceLeDiff, Nat.zero_le, e3, tuple_ref (a := S3.length) (S := S3 ++ [.lst ys]) last_at]
  exact e4
end
end KF
set_option Elab.async false
set_option linter.all false
set_option maxRecDepth 100000
set_option maxHeartbeats 4000000
namespace KF
open PySem
abbrev base : List Nat := [0, 1, 2, 4, 5, 6, 7, 8, 9]
structure Sk (F : List Nat) (S : Sto) (g n : Nat) (xs : List D) (kvs : List (DK × D)) (t : Nat) : Prop where
  lk : Lk S 2 4 6 8 5 9 t g n xs kvs F
  hd : Hand S 1 0
  all : S[7]? = some (.lst (xs.take n))
  base : ∀ i ∈ base, i ∈ F
  lt : ∀ f ∈ F, f < S.length
section
variable {F : List Nat} {S S1 : Sto} {g n t g1 n1 t1 : Nat} {xs xs1 : List D} {kvs kvs1 : List (DK × D)}
theorem Sk.tne (h : Sk F S g n xs kvs t) {i : Nat} (hi : i ∈ KF.base) : t ≠ i := fun z => h.lk.out.apart (z ▸ h.base i hi)
theorem Sk.inF (h : Sk F S g n xs kvs t) {i : Nat} (hi : i ∈ F) : t ≠ i := fun z => h.lk.out.apart (z ▸ hi)
/-- drawn on -/
theorem Sk.dr (h : Sk F S g n xs kvs t) (k : Dr 1 0 S S1) : Sk F S1 g n xs kvs t := by
  have at_ : ∀ i o, i ≠ 1 → S[i]? = some o → S1[i]? = some o := k.kp.at_
  have l := h.lk
  exact ⟨⟨⟨at_ _ _ (by decide) l.out.at_, at_ _ _ (h.tne (by decide)) l.out.lst, l.out.apart⟩, ⟨at_ _ _ (by decide) l.inn.at_, at_ _ _ (by decide) l.inn.dic⟩, ⟨at_ _ _ (by decide) l.mi.at_, at_ _ _ (by decide) l.mi.dic, l.mi.neq⟩, at_ _ _ (by decide) l.q, l.gn, l.nx, l.kv, l.free, l.pl, l.xl, l.kl⟩,
    k.hd, at_ _ _ (by decide) h.all, h.base, fun f m => Nat.lt_of_lt_of_le (h.lt f m) k.kp.len⟩
/-- what is clean may be thrown away -/
theorem Sk.gc (h : Sk F S g n xs kvs t) (h1 : Sk F S1 g1 n1 xs1 kvs1 t1) (c : clean S S1) : Sk F (S1.take S.length) g1 n1 xs1 kvs1 t1 := by
  have l := h1.lk
  have lt : ∀ i ∈ KF.base, i < S.length := fun i m => h.lt i (h.base i m)
  have t0 : t < S.length := (List.getElem?_eq_some_iff.mp h.lk.out.lst).1
  have tl : t1 < S.length := by
    rcases c.2 2 _ (lt 2 (by decide)) l.out.at_ with e | e
    · rw [h.lk.out.at_] at e
      have e2 := Option.some.inj e
      unfold OutO at e2
      injection e2 with _ z
      injection z with _ z
      injection z with z _
      injection z with _ z
      injection z with z
      omega
    · simp [OutO, GO.under, D.under, fsUnder, D.unders] at e
      exact e
  have at_ : ∀ i o, i < S.length → S1[i]? = some o → (S1.take S.length)[i]? = some o := fun i o q e => take_at q e
  exact ⟨⟨⟨at_ _ _ (lt _ (by decide)) l.out.at_, at_ _ _ tl l.out.lst, l.out.apart⟩, ⟨at_ _ _ (lt _ (by decide)) l.inn.at_, at_ _ _ (lt _ (by decide)) l.inn.dic⟩, ⟨at_ _ _ (lt _ (by decide)) l.mi.at_, at_ _ _ (lt _ (by decide)) l.mi.dic, l.mi.neq⟩, at_ _ _ (lt _ (by decide)) l.q, l.gn, l.nx, l.kv, l.free, l.pl, l.xl, l.kl⟩,
    h1.hd.take (lt _ (by decide)) (lt _ (by decide)), at_ _ _ (lt _ (by decide)) h1.all, h1.base, fun f m => by rw [List.length_take]; have := h.lt f m; have := c.1; omega⟩
theorem gc_sk {d : D} (h : Sk F S g n xs kvs t) (h1 : Sk F S1 g1 n1 xs1 kvs1 t1) (fr : ∀ f ∈ F, f ∉ KF.base → S1[f]? = S[f]?) : ∃ S2, gcR S (.rt d S1) = .ok d S2 ∧ Sk F S2 g1 n1 xs1 kvs1 t1 ∧ ∀ f ∈ F, f ∉ KF.base → S2[f]? = S[f]? := by
  rw [gcR_rt]
  split
  · rename_i c
    exact ⟨_, rfl, h.gc h1 c.1, fun f m nb => by rw [List.getElem?_take_of_lt (h.lt f m)]; exact fr f m nb⟩
  · exact ⟨_, rfl, h1, fr⟩
theorem extend_ok {a b : Nat} {l m : List D} {S : Sto} (ha : S[a]? = some (.lst l)) (hb : S[b]? = some (.lst m)) (hl : l.length + m.length < 1000) : mExtend (.ref a) [.ref b] S = .ok .non (S.set a (.lst (l ++ m))) := by
  unfold mExtend
  simp only [ha, hb]
  rw [if_pos (Nat.le_trans (Nat.le_of_lt hl) (by decide))]
theorem PlD.upn {k j : Nat} {d : D} (h : PlD k d) (hk : k ≤ j) : PlD j d := Nat.le.rec (motive := fun j _ => PlD j d) h (fun _ ih => ih.up) hk
theorem same_int {S : Sto} (i : Int) : F_law_same 24 [.int i, .int i] S = .ok (.bl true) S := same_pl 23 (.int i) trivial
/-- one more is put -/
theorem Sk.put (h : Sk F S g n xs kvs t) {x : D} (hx : PlD 4 x) (hl : xs.length < 30) : Sk F ((S.set 6 (.lst (xs ++ [x]))).set t (.lst (xs.drop g ++ [x]))) g n (xs ++ [x]) kvs t := by
  have l := h.lk
  have gx := Nat.le_trans l.gn l.nx
  have t6 := h.tne (i := 6) (by decide)
  have at_ : ∀ i o, i ≠ 6 → i ≠ t → S[i]? = some o → ((S.set 6 (GO.lst (xs ++ [x]))).set t (GO.lst (xs.drop g ++ [x])))[i]? = some o := fun i o n1 n2 e => by
    rw [List.getElem?_set_ne (Ne.symm n2), List.getElem?_set_ne (Ne.symm n1)]; exact e
  have tn : ∀ i ∈ KF.base, i ≠ t := fun i m => Ne.symm (h.tne m)
  have l6 := h.lt 6 (h.base 6 (by decide))
  have tl : t < S.length := (List.getElem?_eq_some_iff.mp l.out.lst).1
  refine ⟨⟨⟨at_ _ _ (by decide) (tn _ (by decide)) l.out.at_, ?_, l.out.apart⟩, ⟨at_ _ _ (by decide) (tn _ (by decide)) l.inn.at_, at_ _ _ (by decide) (tn _ (by decide)) l.inn.dic⟩, ⟨at_ _ _ (by decide) (tn _ (by decide)) l.mi.at_, at_ _ _ (by decide) (tn _ (by decide)) l.mi.dic, l.mi.neq⟩, ?_, l.gn, ?_, l.kv.more, l.free, ?_, ?_, l.kl⟩, ?_, ?_, h.base, fun f m => ?_⟩
  · rw [List.drop_append_of_le_length gx]; simp [tl]
  · rw [List.getElem?_set_ne t6]; simp [l6]
  · rw [List.length_append]; have := l.nx; omega
  · intro y m
    rcases List.mem_append.mp m with m | m
    · exact l.pl y m
    · rw [List.mem_singleton.mp m]; exact hx
  · rw [List.length_append, List.length_singleton]; omega
  · obtain ⟨ne, ⟨o1, e, q⟩, is, e'⟩ := h.hd
    exact ⟨ne, ⟨o1, at_ _ _ (by decide) (tn _ (by decide)) e, q⟩, is, at_ _ _ (by decide) (tn _ (by decide)) e'⟩
  · rw [at_ _ _ (by decide) (tn _ (by decide)) h.all, List.take_append_of_le_length l.nx]
  · rw [List.length_set, List.length_set]; exact h.lt f m
theorem deed_put (h : Sk F S g n xs kvs t) {r : Int} {S0 : Sto} (d0 : Dr 1 0 S S0) (e0 : takeF [.ref 1, .int 10] S = .ok (.int r) S0) (hr : r < 3) (hl : xs.length < 30) :
    ∃ S' g' n' xs' kvs' t', F_law_deed [.ref 1, .ref 2, .ref 4, .ref 6, .int g, .ref 8, .ref 7] S = .ok (.tup [.bl true, .int (g' : Nat)]) S' ∧ Sk F S' g' n' xs' kvs' t' ∧ kvs'.length ≤ kvs.length + 1 ∧ ∀ f ∈ F, f ∉ KF.base → S'[f]? = S[f]? := by
  have h0 := h.dr d0
  obtain ⟨x, S1, e1, d1, px⟩ := thing_ok h0.hd
  have h1 := h0.dr d1
  have l1 := h1.lk
  have gx := Nat.le_trans l1.gn l1.nx
  have h2 := h1.put px hl
  have t6 := h1.tne (i := 6) (by decide)
  have r3 : decide (r < 3) = true := decide_eq_true hr
  have l30 : decide ((xs.length : Int) < 30) = true := decide_eq_true (by omega)
  have q0 : S0[6]? = some (.lst xs) := h0.lk.q
  have at6 : (S1.set 6 (GO.lst (xs ++ [x])))[6]? = some (.lst (xs ++ [x])) := set_at l1.q
  have o1 : Out (S1.set 6 (GO.lst (xs ++ [x]))) 2 g (xs.drop g) F t := ⟨by rw [List.getElem?_set_ne (by decide)]; exact l1.out.at_, by rw [List.getElem?_set_ne (Ne.symm t6)]; exact l1.out.lst, l1.out.apart⟩
  obtain ⟨pe, _⟩ := put_ok o1 (by rw [List.length_drop]; omega) x
  rw [List.length_drop, show ((g : Int) + ((xs.length - g : Nat) : Int)) = (xs.length : Int) by omega] at pe
  have am : L2.atI (xs ++ [x]) (-1) = some x := by
    unfold L2.atI L2.ixN
    rw [if_neg (by decide)]
    simp
    rw [if_pos (by omega), show (-1 + ((xs.length : Int) + 1)).toNat = xs.length by omega]
    simp
  have at6' : ((S1.set 6 (GO.lst (xs ++ [x]))).set t (GO.lst (xs.drop g ++ [x])))[6]? = some (.lst (xs ++ [x])) := h2.lk.q
  have le : ((((xs ++ [x]).length : Nat) : Int) - 1) = (xs.length : Int) := by rw [List.length_append, List.length_singleton]; omega
  obtain ⟨S3, e3, h3, f3⟩ := gc_sk (d := .tup [.bl true, .int g]) h h2 fun f m nb => by
    have ne6 : f ≠ 6 := fun z => nb (by rw [z]; decide)
    have ne1 : f ≠ 1 := fun z => nb (by rw [z]; decide)
    rw [List.getElem?_set_ne (h1.inF m), List.getElem?_set_ne (Ne.symm ne6)]
    obtain ⟨o, eo⟩ : ∃ o, S[f]? = some o := ⟨_, List.getElem?_eq_getElem (h.lt f m)⟩
    rw [eo]
    exact (d0.trans d1).kp.at_ f o ne1 eo
  refine ⟨S3, g, n, xs ++ [x], kvs, t, ?_, h3, Nat.le_succ _, f3⟩
  unfold F_law_deed
  simp only [fnOf_ev, List.length_cons, List.length_nil, Nat.zero_add, Nat.reduceAdd, Nat.reduceSub, List.map_cons, List.map_nil, List.cons_append, List.nil_append, List.append_nil, List.replicate_zero, List.replicate_succ, sSeq_ev, seq_nx, seq_rt, seq_bk, seq_ct, seq_ex, seq_no, eVar_z, eVar_s, eC_ev, aNil_ev, aCons_ev, consK_ev, consK2_ev, eOp_ev, opK_ev, eUn_ev, eTup_ev, eLst_ev, tupK_ev, lstK_ev, eB_ev, eIf_ev, iteK_ev, eAnd_ev, eOr_ev, andR_bl, orR_bl, eNot_ev, notR_bl, asB_bl, tB_ev, tAnd_ev, tAndK_ev, tOr_ev, tOrK_ev, tNot_ev, tNotK_ev, tYes_ev, eChain_ev, chainK_ev, chainK1_ev, chainK2_ev, chainK3_ev, eFld_ev, eSl_ev, slK_ev, slK1_ev, oNo_ev, oAt_ev, atR_int, sNil_ev, sSet_ev, setK_ev, sE_ev, dropK_ev, sRet_ev, retK_ev, sRetN_ev, sIf_ev, sIfK_ev, sRz_ev, sRx_ev, rxK_ev, sPut_ev, putK0_ev, putK1_ev, putK2_ev, putK3_ev, sAsg_ev, List.set_cons_zero, List.set_cons_succ, bindOk, bindEx, bindNo, toOk, toEx, toNo, if_true, if_false, ite_true, ite_false, Bool.false_eq_true, Bool.true_eq_false, eq_self, decide_true, decide_false, Bool.not_true, Bool.not_false, reduceIte, reduceCtorEq, add_int, sub_int, neg_int, lt_int, le_int, gt_int, ge_int, eq_int, ne_int, isN_ev, notN_ev, len_tup, int_int, int_bl, max2_ev, Nat.le_refl, gc_rt_same, gc_nx_same, gc_ex_same, line_small, Nat.reduceLeDiff, Nat.zero_le, take_eqI, e0, r3, len_ref, q0, lenO_lst, l30, eBMT_ev, bmtK_lst, lstGo_lst, e1, append_ref, l1.q, apO_lst (eq_true (show xs.length < line by show _ < 16777216; omega)), eMeth_ev, methK_ref, o1.at_, OutO, methO_ins (C := "Outgoing") (m := "put") (fn := F_Outgoing_put) (fs := [("let_go", .int g), ("things", .ref t)]) rfl, ix_ref, at6, ixO_at am, methA_ev, pe, at6', le, same_int]
  exact e3
end
end KF
set_option Elab.async false
set_option linter.all false
set_option maxRecDepth 100000
set_option maxHeartbeats 4000000
namespace KF
open PySem
section
variable {F : List Nat} {S S1 : Sto} {g n t g1 n1 t1 : Nat} {xs xs1 : List D} {kvs kvs1 : List (DK × D)}
theorem deed_take (h : Sk F S g n xs kvs t) (hk : kvs.length < 200) {r : Int} {S0 : Sto} (d0 : Dr 1 0 S S0) (e0 : takeF [.ref 1, .int 10] S = .ok (.int r) S0) (hr : r < 8) (hl : 0 < xs.length) (hn : ¬ (r < 3 ∧ xs.length < 30)) :
    ∃ S' g' n' xs' kvs' t', F_law_deed [.ref 1, .ref 2, .ref 4, .ref 6, .int g, .ref 8, .ref 7] S = .ok (.tup [.bl true, .int (g' : Nat)]) S' ∧ Sk F S' g' n' xs' kvs' t' ∧ kvs'.length ≤ kvs.length + 1 ∧ ∀ f ∈ F, f ∉ KF.base → S'[f]? = S[f]? := by
  have h0 := h.dr d0
  obtain ⟨j, S1, a0, a1, e1, d1, _⟩ := take_dr (m := xs.length) h0.hd (by omega) (by have := h.lk.xl; omega)
  obtain ⟨j, rfl⟩ := Int.eq_ofNat_of_zero_le a0
  have jl : j < xs.length := by omega
  have h1 := h0.dr d1
  have l1 := h1.lk
  have xl := l1.xl
  have lt : ∀ i ∈ KF.base, i < S1.length := fun i m => h1.lt i (h1.base i m)
  have aj : L2.atI xs (j : Int) = some xs[j] := atI_nat' jl
  obtain ⟨S2, e2, len2, in2, ls2, fr2⟩ := take_okI l1.inn (by omega) j (by omega) xs[j]
  have low2 : ∀ i, i < S1.length → i ≠ 4 → i ≠ 5 → S2[i]? = S1[i]? := fun i a b c => fr2 i b c (by omega)
  have mi2 : Mi S2 8 9 n kvs := ⟨by rw [low2 8 (lt 8 (by decide)) (by decide) (by decide)]; exact l1.mi.at_, by rw [low2 9 (lt 9 (by decide)) (by decide) (by decide)]; exact l1.mi.dic, l1.mi.neq⟩
  obtain ⟨S3, e3, len3, mi3, ls3, fr3⟩ := heard_okI mi2 (by omega) j xs[j]
  have hx : xs[j]? = some xs[j] := List.getElem?_eq_getElem jl
  have hlen := heldP_len (n := n) (j := j) (kvs := kvs) (x := xs[j])
  obtain ⟨v1, v2, v3, v4, v5, v6, v7⟩ := drn_ok (xs := xs) (pre := xs.take n) 600 (heldP n kvs j xs[j]) n [] (by omega) (l1.kv.held hx) (List.append_nil _) l1.nx
  generalize hR : drn 600 (heldP n kvs j xs[j]) n [] = R at in2 ls2 mi3 ls3 v1 v2 v3 v4 v5 v6 v7
  have low3 : ∀ i, i < S1.length → i ≠ 4 → i ≠ 5 → i ≠ 8 → i ≠ 9 → S3[i]? = S1[i]? := fun i a b c b' c' => by rw [fr3 i b' c' (by omega), low2 i a b c]
  have s7 : S3[7]? = some (.lst (xs.take n)) := by rw [low3 7 (lt 7 (by decide)) (by decide) (by decide) (by decide) (by decide)]; exact h1.all
  have ext := extend_ok s7 ls3 (by rw [List.length_take]; simp at v7; omega)
  rw [v2] at ext
  have tne := fun {i : Nat} (hi : i ∈ KF.base) => h1.tne hi
  have tl : t < S1.length := (List.getElem?_eq_some_iff.mp l1.out.lst).1
  have atF : ∀ i, i < S1.length → i ≠ 4 → i ≠ 5 → i ≠ 8 → i ≠ 9 → i ≠ 7 → (S3.set 7 (GO.lst (xs.take R.2.2)))[i]? = S1[i]? := fun i a b c d e f => by rw [List.getElem?_set_ne (Ne.symm f), low3 i a b c d e]
  have s4 : S3[4]? = S2[4]? := fr3 4 (by decide) (by decide) (by have := lt 4 (by decide); omega)
  have s5 : S3[5]? = S2[5]? := fr3 5 (by decide) (by decide) (by have := lt 5 (by decide); omega)
  have hS4 : Sk F (S3.set 7 (GO.lst (xs.take R.2.2))) g R.2.2 xs R.2.1 t := by
    refine ⟨⟨⟨?_, ?_, l1.out.apart⟩, ⟨?_, ?_⟩, ⟨?_, ?_, l1.mi.neq⟩, ?_, Nat.le_trans l1.gn v3, v4, v1, v5, l1.pl, xl, by omega⟩, ?_, ?_, h1.base, fun f m => ?_⟩
    · rw [atF 2 (lt 2 (by decide)) (by decide) (by decide) (by decide) (by decide) (by decide)]; exact l1.out.at_
    · rw [atF t tl (tne (by decide)) (tne (by decide)) (tne (by decide)) (tne (by decide)) (tne (by decide))]; exact l1.out.lst
    · rw [List.getElem?_set_ne (by decide), s4]; exact in2.at_
    · rw [List.getElem?_set_ne (by decide), s5]; exact in2.dic
    · rw [List.getElem?_set_ne (by decide)]; exact mi3.at_
    · rw [List.getElem?_set_ne (by decide)]; exact mi3.dic
    · rw [atF 6 (lt 6 (by decide)) (by decide) (by decide) (by decide) (by decide) (by decide)]; exact l1.q
    · obtain ⟨ne, ⟨o1, e, q⟩, is, e'⟩ := h1.hd
      exact ⟨ne, ⟨o1, by rw [atF 1 (lt 1 (by decide)) (by decide) (by decide) (by decide) (by decide) (by decide)]; exact e, q⟩, is, by rw [atF 0 (lt 0 (by decide)) (by decide) (by decide) (by decide) (by decide) (by decide)]; exact e'⟩
    · exact set_at s7
    · rw [List.length_set, len3, len2]; have := h1.lt f m; omega
  have some2 : (S3.set 7 (GO.lst (xs.take R.2.2)))[S1.length]? = some (.lst R.1) := by
    rw [List.getElem?_set_ne (by have := lt 7 (by decide); omega), fr3 _ (by have := lt 8 (by decide); omega) (by have := lt 9 (by decide); omega) (by omega)]
    exact ls2
  have due2 : (S3.set 7 (GO.lst (xs.take R.2.2)))[S2.length]? = some (.lst R.1) := by
    rw [List.getElem?_set_ne (by have := lt 7 (by decide); omega)]
    exact ls3
  have plR : ∀ x ∈ R.1, PlD 22 x := fun x m => (l1.pl x (List.mem_of_mem_take (l := xs) (i := R.2.2) (by rw [← v2]; exact List.mem_append_right _ m))).upn (by decide)
  have sm := same_lst some2 due2 plR
  obtain ⟨S5, e5, h5, f5⟩ := gc_sk (d := .tup [.bl true, .int g]) h hS4 fun f m nb => by
    have q : ∀ i ∈ KF.base, f ≠ i := fun i mi z => nb (by rw [z]; exact mi)
    have fl : f < S1.length := h1.lt f m
    rw [atF f fl (q _ (by decide)) (q _ (by decide)) (q _ (by decide)) (q _ (by decide)) (q _ (by decide))]
    obtain ⟨o, eo⟩ : ∃ o, S[f]? = some o := ⟨_, List.getElem?_eq_getElem (h.lt f m)⟩
    rw [eo]
    exact (d0.trans d1).kp.at_ f o (q 1 (by decide)) eo
  have q0 : S0[6]? = some (.lst xs) := h0.lk.q
  have q2 : S2[6]? = some (.lst xs) := by rw [low2 6 (lt 6 (by decide)) (by decide) (by decide)]; exact l1.q
  have r8 : decide (r < 8) = true := decide_eq_true hr
  have l0 : decide ((0 : Int) < (xs.length : Int)) = true := decide_eq_true (by omega)
  have cnd : ∀ S0 : Sto, (if decide (r < 3) = true then KF.R.ok (decide ((xs.length : Int) < 30)) S0 else KF.R.ok false S0) = KF.R.ok false S0 := fun S0 => by
    split
    · rename_i q
      have q' : r < 3 := of_decide_eq_true q
      rw [decide_eq_false (show ¬ ((xs.length : Int) < 30) by omega)]
    · rfl
  refine ⟨S5, g, R.2.2, xs, R.2.1, t, ?_, h5, by omega, f5⟩
  unfold F_law_deed
  simp only [fnOf_ev, List.length_cons, List.length_nil, Nat.zero_add, Nat.reduceAdd, Nat.reduceSub, List.map_cons, List.map_nil, List.cons_append, List.nil_append, List.append_nil, List.replicate_zero, List.replicate_succ, sSeq_ev, seq_nx, seq_rt, seq_bk, seq_ct, seq_ex, seq_no, eVar_z, eVar_s, eC_ev, aNil_ev, aCons_ev, consK_ev, consK2_ev, eOp_ev, opK_ev, eUn_ev, eTup_ev, eLst_ev, tupK_ev, lstK_ev, eB_ev, eIf_ev, iteK_ev, eAnd_ev, eOr_ev, andR_bl, orR_bl, eNot_ev, notR_bl, asB_bl, tB_ev, tAnd_ev, tAndK_ev, tOr_ev, tOrK_ev, tNot_ev, tNotK_ev, tYes_ev, eChain_ev, chainK_ev, chainK1_ev, chainK2_ev, chainK3_ev, eFld_ev, eSl_ev, slK_ev, slK1_ev, oNo_ev, oAt_ev, atR_int, sNil_ev, sSet_ev, setK_ev, sE_ev, dropK_ev, sRet_ev, retK_ev, sRetN_ev, sIf_ev, sIfK_ev, sRz_ev, sRx_ev, rxK_ev, sPut_ev, putK0_ev, putK1_ev, putK2_ev, putK3_ev, sAsg_ev, List.set_cons_zero, List.set_cons_succ, bindOk, bindEx, bindNo, toOk, toEx, toNo, if_true, if_false, ite_true, ite_false, Bool.false_eq_true, Bool.true_eq_false, eq_self, decide_true, decide_false, Bool.not_true, Bool.not_false, reduceIte, reduceCtorEq, add_int, sub_int, neg_int, lt_int, le_int, gt_int, ge_int, eq_int, ne_int, isN_ev, notN_ev, len_tup, int_int, int_bl, max2_ev, Nat.le_refl, gc_rt_same, gc_nx_same, gc_ex_same, line_small, Nat.reduceLeDiff, Nat.zero_le, take_eqI, e0, len_ref, q0, lenO_lst]
  rw [cnd]
  simp only [fnOf_ev, List.length_cons, List.length_nil, Nat.zero_add, Nat.reduceAdd, Nat.reduceSub, List.map_cons, List.map_nil, List.cons_append, List.nil_append, List.append_nil, List.replicate_zero, List.replicate_succ, sSeq_ev, seq_nx, seq_rt, seq_bk, seq_ct, seq_ex, seq_no, eVar_z, eVar_s, eC_ev, aNil_ev, aCons_ev, consK_ev, consK2_ev, eOp_ev, opK_ev, eUn_ev, eTup_ev, eLst_ev, tupK_ev, lstK_ev, eB_ev, eIf_ev, iteK_ev, eAnd_ev, eOr_ev, andR_bl, orR_bl, eNot_ev, notR_bl, asB_bl, tB_ev, tAnd_ev, tAndK_ev, tOr_ev, tOrK_ev, tNot_ev, tNotK_ev, tYes_ev, eChain_ev, chainK_ev, chainK1_ev, chainK2_ev, chainK3_ev, eFld_ev, eSl_ev, slK_ev, slK1_ev, oNo_ev, oAt_ev, atR_int, sNil_ev, sSet_ev, setK_ev, sE_ev, dropK_ev, sRet_ev, retK_ev, sRetN_ev, sIf_ev, sIfK_ev, sRz_ev, sRx_ev, rxK_ev, sPut_ev, putK0_ev, putK1_ev, putK2_ev, putK3_ev, sAsg_ev, List.set_cons_zero, List.set_cons_succ, bindOk, bindEx, bindNo, toOk, toEx, toNo, if_true, if_false, ite_true, ite_false, Bool.false_eq_true, Bool.true_eq_false, eq_self, decide_true, decide_false, Bool.not_true, Bool.not_false, reduceIte, reduceCtorEq, add_int, sub_int, neg_int, lt_int, le_int, gt_int, ge_int, eq_int, ne_int, isN_ev, notN_ev, len_tup, int_int, int_bl, max2_ev, Nat.le_refl, gc_rt_same, gc_nx_same, gc_ex_same, line_small, Nat.reduceLeDiff, Nat.zero_le, take_eqI, e0, len_ref, q0, lenO_lst, r8, l0, e1, eMeth_ev, methK_ref, l1.inn.at_, InO, methO_ins (C := "Incoming") (m := "take") (fn := F_Incoming_take) (fs := [("due", .int n), ("early", .ref 5)]) rfl, ix_ref, l1.q, ixO_at aj, methA_ev, e2, q2, e3, eBMT_ev, bmtK_lst, s7, lstGo_lst, ext, sm]
  exact e5
theorem deed_known (h : Sk F S g n xs kvs t) {r : Int} {S0 : Sto} (d0 : Dr 1 0 S S0) (e0 : takeF [.ref 1, .int 10] S = .ok (.int r) S0) (hl : ¬ (r < 8 ∧ 0 < xs.length)) (hn : ¬ (r < 3 ∧ xs.length < 30)) :
    ∃ S' g' n' xs' kvs' t', F_law_deed [.ref 1, .ref 2, .ref 4, .ref 6, .int g, .ref 8, .ref 7] S = .ok (.tup [.bl true, .int (g' : Nat)]) S' ∧ Sk F S' g' n' xs' kvs' t' ∧ kvs'.length ≤ kvs.length + 1 ∧ ∀ f ∈ F, f ∉ KF.base → S'[f]? = S[f]? := by
  have h0 := h.dr d0
  have l0 := h0.lk
  obtain ⟨j, S1, a0, a1, e1, d1, _⟩ := take_dr (m := (n : Int) + 1) h0.hd (by omega) (by have := h.lk.xl; have := h.lk.nx; omega)
  obtain ⟨j, rfl⟩ := Int.eq_ofNat_of_zero_le a0
  have h1 := h0.dr d1
  have l1 := h1.lk
  have lt : ∀ i ∈ KF.base, i < S1.length := fun i m => h1.lt i (h1.base i m)
  have jn : j ≤ n := by omega
  have gx := Nat.le_trans l1.gn l1.nx
  have nx := l1.nx
  obtain ⟨e2, o2⟩ := known_ok l1.out h1.lt (n := j) (by rw [List.length_drop]; omega)
  have mx : (if ((j : Int) - (g : Int)) > 0 then ((j : Int) - (g : Int)) else 0) = ((j - g : Nat) : Int) := by split <;> omega
  have mg : (if (j : Int) > (g : Int) then (j : Int) else (g : Int)) = ((g + (j - g) : Nat) : Int) := by split <;> omega
  have at_ : ∀ i, i < S1.length → i ≠ 2 → ((S1 ++ [GO.lst ((xs.drop g).drop (j - g))]).set 2 (OutO (g + (j - g)) S1.length))[i]? = S1[i]? := fun i a b => by
    rw [List.getElem?_set_ne (Ne.symm b), List.getElem?_append_left a]
  have dd : (xs.drop g).drop (j - g) = xs.drop (g + (j - g)) := List.drop_drop ..
  have hS4 : Sk F ((S1 ++ [GO.lst ((xs.drop g).drop (j - g))]).set 2 (OutO (g + (j - g)) S1.length)) (g + (j - g)) n xs kvs S1.length := by
    refine ⟨⟨⟨o2.at_, by rw [o2.lst, dd], o2.apart⟩, ⟨?_, ?_⟩, ⟨?_, ?_, l1.mi.neq⟩, ?_, by have := l1.gn; omega, l1.nx, l1.kv, l1.free, l1.pl, l1.xl, l1.kl⟩, ?_, ?_, h1.base, fun f m => ?_⟩
    · rw [at_ 4 (lt 4 (by decide)) (by decide)]; exact l1.inn.at_
    · rw [at_ 5 (lt 5 (by decide)) (by decide)]; exact l1.inn.dic
    · rw [at_ 8 (lt 8 (by decide)) (by decide)]; exact l1.mi.at_
    · rw [at_ 9 (lt 9 (by decide)) (by decide)]; exact l1.mi.dic
    · rw [at_ 6 (lt 6 (by decide)) (by decide)]; exact l1.q
    · obtain ⟨ne, ⟨o1, e, q⟩, is, e'⟩ := h1.hd
      exact ⟨ne, ⟨o1, by rw [at_ 1 (lt 1 (by decide)) (by decide)]; exact e, q⟩, is, by rw [at_ 0 (lt 0 (by decide)) (by decide)]; exact e'⟩
    · rw [at_ 7 (lt 7 (by decide)) (by decide)]; exact h1.all
    · have := h1.lt f m; rw [List.length_set, List.length_append]; omega
  obtain ⟨S5, e5, h5, f5⟩ := gc_sk (d := .tup [.bl true, .int ((g + (j - g) : Nat) : Int)]) h hS4 fun f m nb => by
    have q : ∀ i ∈ KF.base, f ≠ i := fun i mi z => nb (by rw [z]; exact mi)
    rw [at_ f (h1.lt f m) (q _ (by decide))]
    obtain ⟨o, eo⟩ : ∃ o, S[f]? = some o := ⟨_, List.getElem?_eq_getElem (h.lt f m)⟩
    rw [eo]
    exact (d0.trans d1).kp.at_ f o (q 1 (by decide)) eo
  have q0 : S0[6]? = some (.lst xs) := h0.lk.q
  have cnd : ∀ S0 : Sto, (if decide (r < 3) = true then KF.R.ok (decide ((xs.length : Int) < 30)) S0 else KF.R.ok false S0) = KF.R.ok false S0 := fun S0 => by
    split
    · rename_i q
      have q' : r < 3 := of_decide_eq_true q
      rw [decide_eq_false (show ¬ ((xs.length : Int) < 30) by omega)]
    · rfl
  have cnd2 : ∀ S0 : Sto, (if decide (r < 8) = true then KF.R.ok (decide ((0 : Int) < (xs.length : Int))) S0 else KF.R.ok false S0) = KF.R.ok false S0 := fun S0 => by
    split
    · rename_i q
      have q' : r < 8 := of_decide_eq_true q
      rw [decide_eq_false (show ¬ ((0 : Int) < (xs.length : Int)) by omega)]
    · rfl
  refine ⟨S5, g + (j - g), n, xs, kvs, S1.length, ?_, h5, Nat.le_succ _, f5⟩
  unfold F_law_deed
  simp only [fnOf_ev, List.length_cons, List.length_nil, Nat.zero_add, Nat.reduceAdd, Nat.reduceSub, List.map_cons, List.map_nil, List.cons_append, List.nil_append, List.append_nil, List.replicate_zero, List.replicate_succ, sSeq_ev, seq_nx, seq_rt, seq_bk, seq_ct, seq_ex, seq_no, eVar_z, eVar_s, eC_ev, aNil_ev, aCons_ev, consK_ev, consK2_ev, eOp_ev, opK_ev, eUn_ev, eTup_ev, eLst_ev, tupK_ev, lstK_ev, eB_ev, eIf_ev, iteK_ev, eAnd_ev, eOr_ev, andR_bl, orR_bl, eNot_ev, notR_bl, asB_bl, tB_ev, tAnd_ev, tAndK_ev, tOr_ev, tOrK_ev, tNot_ev, tNotK_ev, tYes_ev, eChain_ev, chainK_ev, chainK1_ev, chainK2_ev, chainK3_ev, eFld_ev, eSl_ev, slK_ev, slK1_ev, oNo_ev, oAt_ev, atR_int, sNil_ev, sSet_ev, setK_ev, sE_ev, dropK_ev, sRet_ev, retK_ev, sRetN_ev, sIf_ev, sIfK_ev, sRz_ev, sRx_ev, rxK_ev, sPut_ev, putK0_ev, putK1_ev, putK2_ev, putK3_ev, sAsg_ev, List.set_cons_zero, List.set_cons_succ, bindOk, bindEx, bindNo, toOk, toEx, toNo, if_true, if_false, ite_true, ite_false, Bool.false_eq_true, Bool.true_eq_false, eq_self, decide_true, decide_false, Bool.not_true, Bool.not_false, reduceIte, reduceCtorEq, add_int, sub_int, neg_int, lt_int, le_int, gt_int, ge_int, eq_int, ne_int, isN_ev, notN_ev, len_tup, int_int, int_bl, max2_ev, Nat.le_refl, gc_rt_same, gc_nx_same, gc_ex_same, line_small, Nat.reduceLeDiff, Nat.zero_le, take_eqI, e0, len_ref, q0, lenO_lst]
  rw [cnd]
  simp only [fnOf_ev, List.length_cons, List.length_nil, Nat.zero_add, Nat.reduceAdd, Nat.reduceSub, List.map_cons, List.map_nil, List.cons_append, List.nil_append, List.append_nil, List.replicate_zero, List.replicate_succ, sSeq_ev, seq_nx, seq_rt, seq_bk, seq_ct, seq_ex, seq_no, eVar_z, eVar_s, eC_ev, aNil_ev, aCons_ev, consK_ev, consK2_ev, eOp_ev, opK_ev, eUn_ev, eTup_ev, eLst_ev, tupK_ev, lstK_ev, eB_ev, eIf_ev, iteK_ev, eAnd_ev, eOr_ev, andR_bl, orR_bl, eNot_ev, notR_bl, asB_bl, tB_ev, tAnd_ev, tAndK_ev, tOr_ev, tOrK_ev, tNot_ev, tNotK_ev, tYes_ev, eChain_ev, chainK_ev, chainK1_ev, chainK2_ev, chainK3_ev, eFld_ev, eSl_ev, slK_ev, slK1_ev, oNo_ev, oAt_ev, atR_int, sNil_ev, sSet_ev, setK_ev, sE_ev, dropK_ev, sRet_ev, retK_ev, sRetN_ev, sIf_ev, sIfK_ev, sRz_ev, sRx_ev, rxK_ev, sPut_ev, putK0_ev, putK1_ev, putK2_ev, putK3_ev, sAsg_ev, List.set_cons_zero, List.set_cons_succ, bindOk, bindEx, bindNo, toOk, toEx, toNo, if_true, if_false, ite_true, ite_false, Bool.false_eq_true, Bool.true_eq_false, eq_self, decide_true, decide_false, Bool.not_true, Bool.not_false, reduceIte, reduceCtorEq, add_int, sub_int, neg_int, lt_int, le_int, gt_int, ge_int, eq_int, ne_int, isN_ev, notN_ev, len_tup, int_int, int_bl, max2_ev, Nat.le_refl, gc_rt_same, gc_nx_same, gc_ex_same, line_small, Nat.reduceLeDiff, Nat.zero_le, take_eqI, e0, len_ref, q0, lenO_lst]
  rw [cnd2]
  simp only [fnOf_ev, List.length_cons, List.length_nil, Nat.zero_add, Nat.reduceAdd, Nat.reduceSub, List.map_cons, List.map_nil, List.cons_append, List.nil_append, List.append_nil, List.replicate_zero, List.replicate_succ, sSeq_ev, seq_nx, seq_rt, seq_bk, seq_ct, seq_ex, seq_no, eVar_z, eVar_s, eC_ev, aNil_ev, aCons_ev, consK_ev, consK2_ev, eOp_ev, opK_ev, eUn_ev, eTup_ev, eLst_ev, tupK_ev, lstK_ev, eB_ev, eIf_ev, iteK_ev, eAnd_ev, eOr_ev, andR_bl, orR_bl, eNot_ev, notR_bl, asB_bl, tB_ev, tAnd_ev, tAndK_ev, tOr_ev, tOrK_ev, tNot_ev, tNotK_ev, tYes_ev, eChain_ev, chainK_ev, chainK1_ev, chainK2_ev, chainK3_ev, eFld_ev, eSl_ev, slK_ev, slK1_ev, oNo_ev, oAt_ev, atR_int, sNil_ev, sSet_ev, setK_ev, sE_ev, dropK_ev, sRet_ev, retK_ev, sRetN_ev, sIf_ev, sIfK_ev, sRz_ev, sRx_ev, rxK_ev, sPut_ev, putK0_ev, putK1_ev, putK2_ev, putK3_ev, sAsg_ev, List.set_cons_zero, List.set_cons_succ, bindOk, bindEx, bindNo, toOk, toEx, toNo, if_true, if_false, ite_true, ite_false, Bool.false_eq_true, Bool.true_eq_false, eq_self, decide_true, decide_false, Bool.not_true, Bool.not_false, reduceIte, reduceCtorEq, add_int, sub_int, neg_int, lt_int, le_int, gt_int, ge_int, eq_int, ne_int, isN_ev, notN_ev, len_tup, int_int, int_bl, max2_ev, Nat.le_refl, gc_rt_same, gc_nx_same, gc_ex_same, line_small, Nat.reduceLeDiff, Nat.zero_le, take_eqI, ix_taken l0.mi.at_, e1, mx, mg, eMeth_ev, methK_ref, l1.out.at_, OutO, methO_ins (C := "Outgoing") (m := "known") (fn := F_Outgoing_known) (fs := [("let_go", .int g), ("things", .ref t)]) rfl, methA_ev, e2, same_int]
  exact e5
theorem deed_ok (h : Sk F S g n xs kvs t) (hk : kvs.length < 200) :
    ∃ S' g' n' xs' kvs' t', F_law_deed [.ref 1, .ref 2, .ref 4, .ref 6, .int g, .ref 8, .ref 7] S = .ok (.tup [.bl true, .int (g' : Nat)]) S' ∧ Sk F S' g' n' xs' kvs' t' ∧ kvs'.length ≤ kvs.length + 1 ∧ ∀ f ∈ F, f ∉ KF.base → S'[f]? = S[f]? := by
  obtain ⟨r, S0, a0, a1, e0, d0, _⟩ := take_dr (m := 10) h.hd (by omega) (by omega)
  by_cases q : r < 3 ∧ xs.length < 30
  · exact deed_put h d0 e0 q.1 q.2
  · by_cases q2 : r < 8 ∧ 0 < xs.length
    · exact deed_take h hk d0 e0 q2.1 q2.2 q
    · exact deed_known h d0 e0 q2 q
end
end KF
set_option Elab.async false
set_option linter.all false
set_option maxRecDepth 100000
set_option maxHeartbeats 4000000
namespace KF
open PySem
theorem pys_all {S : Sto} {n k : Nat} : ∀ {l : List D}, (∀ x ∈ l, ∃ p, D.py S n x = some p ∧ p.canLay0 = true ∧ p.depth ≤ k) → ∃ ps, D.pys S n l = some ps ∧ ∀ p ∈ ps, p.canLay0 = true ∧ p.depth ≤ k
  | [], _ => ⟨[], by simp [D.pys], fun _ h => by cases h⟩
  | x :: l, h => by
    obtain ⟨p, e, c⟩ := h x (List.mem_cons_self ..)
    obtain ⟨ps, e2, c2⟩ := pys_all fun y m => h y (List.mem_cons_of_mem _ m)
    refine ⟨p :: ps, by simp [D.pys, e, e2], fun q m => ?_⟩
    rcases List.mem_cons.mp m with z | m
    · rw [z]; exact c
    · exact c2 q m
theorem PlD.py {S : Sto} : ∀ {k : Nat} {d : D} {n : Nat}, PlD k d → k < n → ∃ p, D.py S n d = some p ∧ p.canLay0 = true ∧ p.depth ≤ k := by
  intro k
  induction k with
  | zero =>
    intro d n h hn
    obtain ⟨n, rfl⟩ : ∃ m, n = m + 1 := ⟨n - 1, by omega⟩
    cases d with
    | non => exact ⟨.none, by simp [D.py], rfl, Nat.le_refl _⟩
    | bl b => exact ⟨.bool b, by simp [D.py], rfl, Nat.le_refl _⟩
    | int i => exact ⟨.int i, by simp [D.py], rfl, Nat.le_refl _⟩
    | str x =>
      refine ⟨.str x, by simp [D.py], ?_, Nat.le_refl _⟩
      have h' : x ∈ (["", "task", "answer", "far"] : List Str) := h
      simp only [List.mem_cons, List.not_mem_nil, or_false] at h'
      rcases h' with rfl | rfl | rfl | rfl <;> decide +kernel
    | _ => simp [PlD] at h
  | succ k ih =>
    intro d n h hn
    obtain ⟨n, rfl⟩ : ∃ m, n = m + 1 := ⟨n - 1, by omega⟩
    cases d with
    | non => exact ⟨.none, by simp [D.py], rfl, Nat.zero_le _⟩
    | bl b => exact ⟨.bool b, by simp [D.py], rfl, Nat.zero_le _⟩
    | int i => exact ⟨.int i, by simp [D.py], rfl, Nat.zero_le _⟩
    | str x =>
      refine ⟨.str x, by simp [D.py], ?_, Nat.zero_le _⟩
      have h' : x ∈ (["", "task", "answer", "far"] : List Str) := h
      simp only [List.mem_cons, List.not_mem_nil, or_false] at h'
      rcases h' with rfl | rfl | rfl | rfl <;> decide +kernel
    | tup l =>
      obtain ⟨ps, e, c⟩ := pys_all (S := S) (n := n) (k := k) (l := l) fun x m => ih (h.2 x m) (by omega)
      have q := okTup c
      exact ⟨.tuple ps, py_tup e, q.1, q.2⟩
    | _ => exact h.elim
theorem ne_pl {S : Sto} {k : Nat} {d : D} (h : PlD k d) (hk : k ≤ 60) : opNe d d S = .ok (.bl false) S := by
  obtain ⟨p, e, c, dp⟩ := h.py (S := S) (n := 65) (by omega)
  exact ne_same e e ⟨c, by omega⟩ fun b z => by rw [z] at h; cases k <;> exact h.elim
theorem ne_pls {S : Sto} {k a b : Nat} {l : List D} (ha : S[a]? = some (.lst l)) (hb : S[b]? = some (.lst l)) (h : ∀ x ∈ l, PlD k x) (hk : k ≤ 60) : opNe (.ref a) (.ref b) S = .ok (.bl false) S := by
  obtain ⟨ps, e, c⟩ := pys_all (S := S) (n := 64) (k := k) (l := l) fun x m => (h x m).py (by omega)
  have q := okList c
  exact ne_same (py_lst ha e) (py_lst hb e) ⟨q.1, by have := q.2; omega⟩ fun b z => by cases z
theorem eq_nils {S : Sto} {a b : Nat} (ha : S[a]? = some (.lst [])) (hb : S[b]? = some (.lst [])) : opEq (.ref a) (.ref b) S = .ok (.bl true) S := by
  have h1 : SeqAt.shaped (.list []) = true := by decide +kernel
  have h2 : PyData.eqv (.list []) (.list []) = true := by decide +kernel
  simp [opEq, opEqN, D.py, ha, hb, D.pys, h1, h2]
noncomputable def drnB : FS := sSeq (sIf (tB (eOp opEq (eB bLen (aCons (eMeth "Outgoing" "waiting" F_Outgoing_waiting (eVar 0) aNil) aNil)) (eC (.int 0))))
    (sRet (eC (.bl true)))
    sNil)
    (sSeq (sAsg (eOp opIx (eMeth "Outgoing" "waiting" F_Outgoing_waiting (eVar 0) aNil) (eC (.int 0))) (.tup [(.name 4), (.name 5)]))
    (sSeq (sE (eMeth "Incoming" "take" F_Incoming_take (eVar 1) (aCons (eVar 4) (aCons (eVar 5) aNil))))
    (sE (eMeth "Outgoing" "known" F_Outgoing_known (eVar 0) (aCons (eMeth "Incoming" "taken" F_Incoming_taken (eVar 1) aNil) aNil)))))
structure Dn (S : Sto) (o e d t g n : Nat) (xs : List D) (kvs : List (DK × D)) (F : List Nat) : Prop where
  out : Out S o g (xs.drop g) F t
  inn : InS S e d n kvs
  oe : o ≠ e
  gn : g ≤ n
  nx : n ≤ xs.length
  kv : Kv xs n kvs
  free : dgetD kvs (kI n) = none
  xl : xs.length ≤ 30
  kl : kvs.length + (xs.length - g) ≤ 300
  lt : ∀ f ∈ F, f < S.length
theorem Dn.done {S : Sto} {o e d t g n : Nat} {xs : List D} {kvs : List (DK × D)} {F : List Nat} (h : Dn S o e d t g n xs kvs F) (hg : xs.length ≤ g) : n = xs.length ∧ g = xs.length ∧ kvs = [] := by
  have := h.gn
  have := h.nx
  refine ⟨by omega, by omega, ?_⟩
  cases kvs with
  | nil => rfl
  | cons p l =>
    obtain ⟨j, _, q, r⟩ := h.kv.of p (List.mem_cons_self ..)
    have := (List.getElem?_eq_some_iff.mp r).1
    omega
theorem drn_turn {S : Sto} {o e d t g n : Nat} {xs : List D} {kvs : List (DK × D)} {F : List Nat} {a2 a3 a4 a5 : Option D} (h : Dn S o e d t g n xs kvs F) (hg : g < xs.length) :
    ∃ S' n' kvs' t' b4 b5, drnB [some (.ref o), some (.ref e), a2, a3, a4, a5] S = .nx [some (.ref o), some (.ref e), a2, a3, b4, b5] S' ∧ Dn S' o e d t' n' n' xs kvs' F ∧ g < n' ∧ S.length ≤ S'.length ∧ ∀ i, i < S.length → i ≠ o → i ≠ e → i ≠ d → S'[i]? = S[i]? := by
  have xl := h.xl
  have kl := h.kl
  have dl : (xs.drop g).length = xs.length - g := List.length_drop ..
  have ex : xs[g]? = some xs[g] := List.getElem?_eq_getElem hg
  have ed : enD (g : Int) (xs.drop g) = .tup [.int g, xs[g]] :: enD ((g : Int) + 1) (xs.drop (g + 1)) := by
    rw [List.drop_eq_getElem_cons hg]
    rfl
  have w1 := waiting_ok h.out (by omega)
  have o1 : Out (S ++ [GO.lst (enD g (xs.drop g))]) o g (xs.drop g) F t := ⟨app_at h.out.at_, app_at h.out.lst, h.out.apart⟩
  have w2 := waiting_ok o1 (by omega)
  have o2 : Out (S ++ [GO.lst (enD g (xs.drop g))] ++ [GO.lst (enD g (xs.drop g))]) o g (xs.drop g) F t := ⟨app_at o1.at_, app_at o1.lst, h.out.apart⟩
  have i2 : InS (S ++ [GO.lst (enD g (xs.drop g))] ++ [GO.lst (enD g (xs.drop g))]) e d n kvs := ⟨app_at (app_at h.inn.at_), app_at (app_at h.inn.dic)⟩
  have ol : o < S.length := (List.getElem?_eq_some_iff.mp h.out.at_).1
  have tl : t < S.length := (List.getElem?_eq_some_iff.mp h.out.lst).1
  have el : e < S.length := (List.getElem?_eq_some_iff.mp h.inn.at_).1
  have dl2 : d < S.length := (List.getElem?_eq_some_iff.mp h.inn.dic).1
  have te : t ≠ e := fun z => by have a := h.out.lst; rw [z, h.inn.at_] at a; cases a
  have td : t ≠ d := fun z => by have a := h.out.lst; rw [z, h.inn.dic] at a; cases a
  have od : o ≠ d := fun z => by have a := h.out.at_; rw [z, h.inn.dic] at a; cases a
  obtain ⟨S3, e3, len3, in3, _, fr3⟩ := take_okI i2 (by omega) g (by omega) xs[g]
  have hlen := heldP_len (n := n) (j := g) (kvs := kvs) (x := xs[g])
  obtain ⟨v1, _, v3, v4, v5, v6, _⟩ := drn_ok (xs := xs) (pre := xs.take n) 600 (heldP n kvs g xs[g]) n [] (by omega) (h.kv.held ex) (List.append_nil _) h.nx
  have up : g < (drn 600 (heldP n kvs g xs[g]) n []).2.2 := by
    rcases Nat.lt_or_eq_of_le h.gn with q | q
    · omega
    · subst q
      have hp : heldP g kvs g xs[g] = dputD kvs (kI g) xs[g] := if_pos ⟨Nat.le_refl _, by omega, h.free⟩
      have hd : dgetD (heldP g kvs g xs[g]) (kI g) = some xs[g] := by rw [hp, dget_put h.kv.nd, if_pos rfl]
      have e1 : drn 600 (heldP g kvs g xs[g]) g [] = drn 599 (ddropD (heldP g kvs g xs[g]) (kI g)) (g + 1) [xs[g]] := by
        conv => lhs; unfold drn; rw [hd]
        rfl
      have lt := ddrop_lt hd
      obtain ⟨_, _, u3, _⟩ := drn_ok (xs := xs) (pre := xs.take g) 599 (ddropD (heldP g kvs g xs[g]) (kI g)) (g + 1) [xs[g]] (by omega) (h.kv.held ex).drop (by rw [List.take_succ, ex]; rfl) (by omega)
      rw [e1]
      omega
  generalize hR : drn 600 (heldP n kvs g xs[g]) n [] = R at in3 v1 v3 v4 v5 v6 up
  have l2 : (S ++ [GO.lst (enD g (xs.drop g))] ++ [GO.lst (enD g (xs.drop g))]).length = S.length + 2 := by simp
  have at3 : ∀ i u, i < S.length → i ≠ e → i ≠ d → S[i]? = some u → S3[i]? = some u := fun i u a b c z => by
    rw [fr3 i b c (by omega)]
    exact app_at (app_at z)
  have o3 : Out S3 o g (xs.drop g) F t := ⟨at3 _ _ ol h.oe od h.out.at_, at3 _ _ tl te td h.out.lst, h.out.apart⟩
  have tk := taken_ok in3
  obtain ⟨e4, o4⟩ := known_ok o3 (fun f m => by have := h.lt f m; omega) (n := R.2.2) (by rw [dl]; omega)
  have gg : g + (R.2.2 - g) = R.2.2 := by omega
  rw [gg, List.drop_drop, gg] at e4 o4
  refine ⟨_, R.2.2, R.2.1, S3.length, some (.int g), some xs[g], ?_, ⟨o4, ⟨?_, ?_⟩, h.oe, Nat.le_refl _, v4, v1, v5, xl, ?_, fun f m => ?_⟩, up, ?_, fun i a b c z => ?_⟩
  · have z0 : decide ((((xs.drop g).length : Nat) : Int) = 0) = false := decide_eq_false (by omega)
    have ln : (enD (g : Int) (xs.drop g)).length = (xs.drop g).length := by rw [enD_map]; simp
    have z1 : decide ((((enD (g : Int) (xs.drop g)).length : Nat) : Int) = 0) = false := by rw [ln]; exact z0
    have a0 : L2.atI (enD (g : Int) (xs.drop g)) 0 = some (.tup [.int g, xs[g]]) := by rw [ed]; exact at0
    unfold drnB
    simp only [fnOf_ev, List.length_cons, List.length_nil, Nat.zero_add, Nat.reduceAdd, Nat.reduceSub, List.map_cons, List.map_nil, List.cons_append, List.nil_append, List.append_nil, List.replicate_zero, List.replicate_succ, sSeq_ev, seq_nx, seq_rt, seq_bk, seq_ct, seq_ex, seq_no, eVar_z, eVar_s, eC_ev, aNil_ev, aCons_ev, consK_ev, consK2_ev, eOp_ev, opK_ev, eUn_ev, eTup_ev, eLst_ev, tupK_ev, lstK_ev, eB_ev, eIf_ev, iteK_ev, eAnd_ev, eOr_ev, andR_bl, orR_bl, eNot_ev, notR_bl, asB_bl, tB_ev, tAnd_ev, tAndK_ev, tOr_ev, tOrK_ev, tNot_ev, tNotK_ev, tYes_ev, eChain_ev, chainK_ev, chainK1_ev, chainK2_ev, chainK3_ev, eFld_ev, eSl_ev, slK_ev, slK1_ev, oNo_ev, oAt_ev, atR_int, sNil_ev, sSet_ev, setK_ev, sE_ev, dropK_ev, sRet_ev, retK_ev, sRetN_ev, sIf_ev, sIfK_ev, sRz_ev, sRx_ev, rxK_ev, sPut_ev, putK0_ev, putK1_ev, putK2_ev, putK3_ev, sAsg_ev, List.set_cons_zero, List.set_cons_succ, bindOk, bindEx, bindNo, toOk, toEx, toNo, if_true, if_false, ite_true, ite_false, Bool.false_eq_true, Bool.true_eq_false, eq_self, decide_true, decide_false, Bool.not_true, Bool.not_false, reduceIte, reduceCtorEq, add_int, sub_int, neg_int, lt_int, le_int, gt_int, ge_int, eq_int, ne_int, isN_ev, notN_ev, len_tup, int_int, int_bl, max2_ev, Nat.le_refl, gc_rt_same, gc_nx_same, gc_ex_same, line_small, Nat.reduceLeDiff, Nat.zero_le, eMeth_ev, methK_ref, h.out.at_, OutO, methO_ins (C := "Outgoing") (m := "waiting") (fn := F_Outgoing_waiting) (fs := [("let_go", .int g), ("things", .ref t)]) rfl, methA_ev, w1, len_ref, last_at, lenO_lst, z1, o1.at_, w2, ix_ref, ixO_at a0, asgR, asg_two, i2.at_, InO, methO_ins (C := "Incoming") (m := "take") (fn := F_Incoming_take) (fs := [("due", .int n), ("early", .ref d)]) rfl, e3, o3.at_, methO_ins (C := "Outgoing") (m := "known") (fn := F_Outgoing_known) (fs := [("let_go", .int g), ("things", .ref t)]) rfl, in3.at_, methO_ins (C := "Incoming") (m := "taken") (fn := F_Incoming_taken) (fs := [("due", .int R.2.2), ("early", .ref d)]) rfl, tk, e4]
  · rw [List.getElem?_set_ne h.oe]; exact app_at in3.at_
  · rw [List.getElem?_set_ne od]; exact app_at in3.dic
  · omega
  · have := h.lt f m; rw [List.length_set, List.length_append]; omega
  · rw [List.length_set, List.length_append]; omega
  · rw [List.getElem?_set_ne (Ne.symm b), List.getElem?_append_left (by omega), fr3 i c z (by omega), List.getElem?_append_left (by rw [List.length_append]; omega), List.getElem?_append_left a]
theorem drn_end {S : Sto} {o e d t g n : Nat} {xs : List D} {kvs : List (DK × D)} {F : List Nat} {a2 a3 a4 a5 : Option D} (h : Dn S o e d t g n xs kvs F) (hg : xs.length ≤ g) :
    ∃ T, drnB [some (.ref o), some (.ref e), a2, a3, a4, a5] S = .rt (.bl true) (S ++ T) := by
  have xl := h.xl
  have gn := h.gn
  have nx := h.nx
  have w1 := waiting_ok h.out (by omega)
  have ln : (enD (g : Int) (xs.drop g)).length = (xs.drop g).length := by rw [enD_map]; simp
  have z1 : decide ((((enD (g : Int) (xs.drop g)).length : Nat) : Int) = 0) = true := decide_eq_true (by rw [ln, List.length_drop]; omega)
  refine ⟨[GO.lst (enD (g : Int) (xs.drop g))], ?_⟩
  unfold drnB
  simp only [fnOf_ev, List.length_cons, List.length_nil, Nat.zero_add, Nat.reduceAdd, Nat.reduceSub, List.map_cons, List.map_nil, List.cons_append, List.nil_append, List.append_nil, List.replicate_zero, List.replicate_succ, sSeq_ev, seq_nx, seq_rt, seq_bk, seq_ct, seq_ex, seq_no, eVar_z, eVar_s, eC_ev, aNil_ev, aCons_ev, consK_ev, consK2_ev, eOp_ev, opK_ev, eUn_ev, eTup_ev, eLst_ev, tupK_ev, lstK_ev, eB_ev, eIf_ev, iteK_ev, eAnd_ev, eOr_ev, andR_bl, orR_bl, eNot_ev, notR_bl, asB_bl, tB_ev, tAnd_ev, tAndK_ev, tOr_ev, tOrK_ev, tNot_ev, tNotK_ev, tYes_ev, eChain_ev, chainK_ev, chainK1_ev, chainK2_ev, chainK3_ev, eFld_ev, eSl_ev, slK_ev, slK1_ev, oNo_ev, oAt_ev, atR_int, sNil_ev, sSet_ev, setK_ev, sE_ev, dropK_ev, sRet_ev, retK_ev, sRetN_ev, sIf_ev, sIfK_ev, sRz_ev, sRx_ev, rxK_ev, sPut_ev, putK0_ev, putK1_ev, putK2_ev, putK3_ev, sAsg_ev, List.set_cons_zero, List.set_cons_succ, bindOk, bindEx, bindNo, toOk, toEx, toNo, if_true, if_false, ite_true, ite_false, Bool.false_eq_true, Bool.true_eq_false, eq_self, decide_true, decide_false, Bool.not_true, Bool.not_false, reduceIte, reduceCtorEq, add_int, sub_int, neg_int, lt_int, le_int, gt_int, ge_int, eq_int, ne_int, isN_ev, notN_ev, len_tup, int_int, int_bl, max2_ev, Nat.le_refl, gc_rt_same, gc_nx_same, gc_ex_same, line_small, Nat.reduceLeDiff, Nat.zero_le, eMeth_ev, methK_ref, h.out.at_, OutO, methO_ins (C := "Outgoing") (m := "waiting") (fn := F_Outgoing_waiting) (fs := [("let_go", .int g), ("things", .ref t)]) rfl, methA_ev, w1, len_ref, last_at, lenO_lst, z1]
theorem drn_loop {o e d : Nat} {xs : List D} {F : List Nat} {a2 : Option D} : ∀ (ks : List D) (S : Sto) (t g n : Nat) (kvs : List (DK × D)) (a3 a4 a5 : Option D), Dn S o e d t g n xs kvs F → xs.length - g < ks.length →
    ∃ S' t', loopF [] (.name 3) drnB ks [some (.ref o), some (.ref e), a2, a3, a4, a5] S = .rt (.bl true) S' ∧ Dn S' o e d t' xs.length xs.length xs [] F ∧ S.length ≤ S'.length ∧ ∀ i, i < S.length → i ≠ o → i ≠ e → i ≠ d → S'[i]? = S[i]? := by
  intro ks
  induction ks with
  | nil => intro S t g n kvs a3 a4 a5 h hl; simp at hl
  | cons y ks ih =>
    intro S t g n kvs a3 a4 a5 h hl
    have step : loopF [] (.name 3) drnB (y :: ks) [some (.ref o), some (.ref e), a2, a3, a4, a5] S = match drnB [some (.ref o), some (.ref e), a2, some y, a4, a5] S with
        | .nx δ' S' => loopF [] (.name 3) drnB ks δ' S'
        | .ct δ' S' => loopF [] (.name 3) drnB ks δ' S'
        | .bk δ' S' => .nx δ' S'
        | r => r := by
      conv => lhs; unfold loopF
      rw [if_pos live_nil, asg_name]
      rfl
    rw [step]
    by_cases hg : g < xs.length
    · obtain ⟨S1, n1, kvs1, t1, b4, b5, e1, h1, up, len1, fr1⟩ := drn_turn (a2 := a2) (a3 := some y) (a4 := a4) (a5 := a5) h hg
      rw [e1]
      obtain ⟨S2, t2, e2, h2, len2, fr2⟩ := ih S1 t1 n1 n1 kvs1 (some y) b4 b5 h1 (by have := h1.nx; simp only [List.length_cons] at hl; omega)
      exact ⟨S2, t2, e2, h2, Nat.le_trans len1 len2, fun i a b c z => by rw [fr2 i (by omega) b c z, fr1 i a b c z]⟩
    · obtain ⟨T, e1⟩ := drn_end (a2 := a2) (a3 := some y) (a4 := a4) (a5 := a5) h (by omega)
      obtain ⟨q1, q2, q3⟩ := h.done (by omega)
      subst q3
      rw [e1]
      refine ⟨S ++ T, t, rfl, ⟨⟨?_, ?_, h.out.apart⟩, ⟨?_, app_at h.inn.dic⟩, h.oe, Nat.le_refl _, Nat.le_refl _, Kv.nil, rfl, h.xl, by simp, fun f m => ?_⟩, by simp, fun i a _ _ _ => List.getElem?_append_left a⟩
      · rw [← q2]; exact app_at h.out.at_
      · rw [← q2]; exact app_at h.out.lst
      · rw [← q1]; exact app_at h.inn.at_
      · have := h.lt f m; rw [List.length_append]; omega
theorem drained_ok {S : Sto} {o e d t g n : Nat} {xs : List D} {kvs : List (DK × D)} {F : List Nat} (h : Dn S o e d t g n xs kvs F) :
    ∃ S' t', F_law_drained [.ref o, .ref e, .int xs.length] S = .ok (.bl true) S' ∧ Dn S' o e d t' xs.length xs.length xs [] F ∧ S.length ≤ S'.length ∧ ∀ i, i < S.length → i ≠ o → i ≠ e → i ≠ d → S'[i]? = S[i]? := by
  have xl := h.xl
  obtain ⟨S1, t1, e1, h1, len1, fr1⟩ := drn_loop (a2 := some (.int xs.length)) ((List.range (xs.length + 1)).map fun (k : Nat) => D.int (k : Int)) S t g n kvs none none none h (by simp; omega)
  have ol : o < S.length := (List.getElem?_eq_some_iff.mp h.out.at_).1
  have tl : t < S.length := (List.getElem?_eq_some_iff.mp h.out.lst).1
  have el : e < S.length := (List.getElem?_eq_some_iff.mp h.inn.at_).1
  have dl2 : d < S.length := (List.getElem?_eq_some_iff.mp h.inn.dic).1
  have fin : ∃ S', gcR S (.rt (.bl true) S1) = .ok (.bl true) S' ∧ Dn S' o e d t1 xs.length xs.length xs [] F ∧ S.length ≤ S'.length ∧ ∀ i, i < S.length → i ≠ o → i ≠ e → i ≠ d → S'[i]? = S[i]? := by
    rw [gcR_rt]
    split
    · rename_i c
      have t1l : t1 < S.length := by
        rcases c.1.2 o _ ol h1.out.at_ with e | e
        · rw [h.out.at_] at e
          have e2 := Option.some.inj e
          unfold OutO at e2
          injection e2 with _ z
          injection z with _ z
          injection z with z _
          injection z with _ z
          injection z with z
          omega
        · simp [OutO, GO.under, D.under, fsUnder, D.unders] at e
          exact e
      have len : (S1.take S.length).length = S.length := by rw [List.length_take]; omega
      exact ⟨_, rfl, ⟨⟨take_at ol h1.out.at_, take_at t1l h1.out.lst, h1.out.apart⟩, ⟨take_at el h1.inn.at_, take_at dl2 h1.inn.dic⟩, h1.oe, h1.gn, h1.nx, h1.kv, h1.free, h1.xl, h1.kl, fun f m => by rw [len]; exact h.lt f m⟩, by omega, fun i a b c z => by rw [List.getElem?_take_of_lt a]; exact fr1 i a b c z⟩
    · exact ⟨_, rfl, h1, len1, fr1⟩
  obtain ⟨S2, e2, h2, len2, fr2⟩ := fin
  refine ⟨S2, t1, ?_, h2, len2, fr2⟩
  unfold drnB at e1
  unfold F_law_drained
  simp only [fnOf_ev, List.length_cons, List.length_nil, Nat.zero_add, Nat.reduceAdd, Nat.reduceSub, List.map_cons, List.map_nil, List.cons_append, List.nil_append, List.append_nil, List.replicate_zero, List.replicate_succ, sSeq_ev, seq_nx, seq_rt, seq_bk, seq_ct, seq_ex, seq_no, eVar_z, eVar_s, eC_ev, aNil_ev, aCons_ev, consK_ev, consK2_ev, eOp_ev, opK_ev, eUn_ev, eTup_ev, eLst_ev, tupK_ev, lstK_ev, eB_ev, eIf_ev, iteK_ev, eAnd_ev, eOr_ev, andR_bl, orR_bl, eNot_ev, notR_bl, asB_bl, tB_ev, tAnd_ev, tAndK_ev, tOr_ev, tOrK_ev, tNot_ev, tNotK_ev, tYes_ev, eChain_ev, chainK_ev, chainK1_ev, chainK2_ev, chainK3_ev, eFld_ev, eSl_ev, slK_ev, slK1_ev, oNo_ev, oAt_ev, atR_int, sNil_ev, sSet_ev, setK_ev, sE_ev, dropK_ev, sRet_ev, retK_ev, sRetN_ev, sIf_ev, sIfK_ev, sRz_ev, sRx_ev, rxK_ev, sPut_ev, putK0_ev, putK1_ev, putK2_ev, putK3_ev, sAsg_ev, List.set_cons_zero, List.set_cons_succ, bindOk, bindEx, bindNo, toOk, toEx, toNo, if_true, if_false, ite_true, ite_false, Bool.false_eq_true, Bool.true_eq_false, eq_self, decide_true, decide_false, Bool.not_true, Bool.not_false, reduceIte, reduceCtorEq, add_int, sub_int, neg_int, lt_int, le_int, gt_int, ge_int, eq_int, ne_int, isN_ev, notN_ev, len_tup, int_int, int_bl, max2_ev, Nat.le_refl, gc_rt_same, gc_nx_same, gc_ex_same, line_small, Nat.reduceLeDiff, Nat.zero_le, sFor_ev]
  rw [rng1 (n := xs.length + 1) (S1 := S) (by simp only [fnOf_ev, List.length_cons, List.length_nil, Nat.zero_add, Nat.reduceAdd, Nat.reduceSub, List.map_cons, List.map_nil, List.cons_append, List.nil_append, List.append_nil, List.replicate_zero, List.replicate_succ, sSeq_ev, seq_nx, seq_rt, seq_bk, seq_ct, seq_ex, seq_no, eVar_z, eVar_s, eC_ev, aNil_ev, aCons_ev, consK_ev, consK2_ev, eOp_ev, opK_ev, eUn_ev, eTup_ev, eLst_ev, tupK_ev, lstK_ev, eB_ev, eIf_ev, iteK_ev, eAnd_ev, eOr_ev, andR_bl, orR_bl, eNot_ev, notR_bl, asB_bl, tB_ev, tAnd_ev, tAndK_ev, tOr_ev, tOrK_ev, tNot_ev, tNotK_ev, tYes_ev, eChain_ev, chainK_ev, chainK1_ev, chainK2_ev, chainK3_ev, eFld_ev, eSl_ev, slK_ev, slK1_ev, oNo_ev, oAt_ev, atR_int, sNil_ev, sSet_ev, setK_ev, sE_ev, dropK_ev, sRet_ev, retK_ev, sRetN_ev, sIf_ev, sIfK_ev, sRz_ev, sRx_ev, rxK_ev, sPut_ev, putK0_ev, putK1_ev, putK2_ev, putK3_ev, sAsg_ev, List.set_cons_zero, List.set_cons_succ, bindOk, bindEx, bindNo, toOk, toEx, toNo, if_true, if_false, ite_true, ite_false, Bool.false_eq_true, Bool.true_eq_false, eq_self, decide_true, decide_false, Bool.not_true, Bool.not_false, reduceIte, reduceCtorEq, add_int, sub_int, neg_int, lt_int, le_int, gt_int, ge_int, eq_int, ne_int, isN_ev, notN_ev, len_tup, int_int, int_bl, max2_ev, Nat.le_refl, gc_rt_same, gc_nx_same, gc_ex_same, line_small, Nat.reduceLeDiff, Nat.zero_le]; rfl) (by omega)]
  simp only [fnOf_ev, List.length_cons, List.length_nil, Nat.zero_add, Nat.reduceAdd, Nat.reduceSub, List.map_cons, List.map_nil, List.cons_append, List.nil_append, List.append_nil, List.replicate_zero, List.replicate_succ, sSeq_ev, seq_nx, seq_rt, seq_bk, seq_ct, seq_ex, seq_no, eVar_z, eVar_s, eC_ev, aNil_ev, aCons_ev, consK_ev, consK2_ev, eOp_ev, opK_ev, eUn_ev, eTup_ev, eLst_ev, tupK_ev, lstK_ev, eB_ev, eIf_ev, iteK_ev, eAnd_ev, eOr_ev, andR_bl, orR_bl, eNot_ev, notR_bl, asB_bl, tB_ev, tAnd_ev, tAndK_ev, tOr_ev, tOrK_ev, tNot_ev, tNotK_ev, tYes_ev, eChain_ev, chainK_ev, chainK1_ev, chainK2_ev, chainK3_ev, eFld_ev, eSl_ev, slK_ev, slK1_ev, oNo_ev, oAt_ev, atR_int, sNil_ev, sSet_ev, setK_ev, sE_ev, dropK_ev, sRet_ev, retK_ev, sRetN_ev, sIf_ev, sIfK_ev, sRz_ev, sRx_ev, rxK_ev, sPut_ev, putK0_ev, putK1_ev, putK2_ev, putK3_ev, sAsg_ev, List.set_cons_zero, List.set_cons_succ, bindOk, bindEx, bindNo, toOk, toEx, toNo, if_true, if_false, ite_true, ite_false, Bool.false_eq_true, Bool.true_eq_false, eq_self, decide_true, decide_false, Bool.not_true, Bool.not_false, reduceIte, reduceCtorEq, add_int, sub_int, neg_int, lt_int, le_int, gt_int, ge_int, eq_int, ne_int, isN_ev, notN_ev, len_tup, int_int, int_bl, max2_ev, Nat.le_refl, gc_rt_same, gc_nx_same, gc_ex_same, line_small, Nat.reduceLeDiff, Nat.zero_le, forK_ev]
  rw [e1]
  simp only [fnOf_ev, List.length_cons, List.length_nil, Nat.zero_add, Nat.reduceAdd, Nat.reduceSub, List.map_cons, List.map_nil, List.cons_append, List.nil_append, List.append_nil, List.replicate_zero, List.replicate_succ, sSeq_ev, seq_nx, seq_rt, seq_bk, seq_ct, seq_ex, seq_no, eVar_z, eVar_s, eC_ev, aNil_ev, aCons_ev, consK_ev, consK2_ev, eOp_ev, opK_ev, eUn_ev, eTup_ev, eLst_ev, tupK_ev, lstK_ev, eB_ev, eIf_ev, iteK_ev, eAnd_ev, eOr_ev, andR_bl, orR_bl, eNot_ev, notR_bl, asB_bl, tB_ev, tAnd_ev, tAndK_ev, tOr_ev, tOrK_ev, tNot_ev, tNotK_ev, tYes_ev, eChain_ev, chainK_ev, chainK1_ev, chainK2_ev, chainK3_ev, eFld_ev, eSl_ev, slK_ev, slK1_ev, oNo_ev, oAt_ev, atR_int, sNil_ev, sSet_ev, setK_ev, sE_ev, dropK_ev, sRet_ev, retK_ev, sRetN_ev, sIf_ev, sIfK_ev, sRz_ev, sRx_ev, rxK_ev, sPut_ev, putK0_ev, putK1_ev, putK2_ev, putK3_ev, sAsg_ev, List.set_cons_zero, List.set_cons_succ, bindOk, bindEx, bindNo, toOk, toEx, toNo, if_true, if_false, ite_true, ite_false, Bool.false_eq_true, Bool.true_eq_false, eq_self, decide_true, decide_false, Bool.not_true, Bool.not_false, reduceIte, reduceCtorEq, add_int, sub_int, neg_int, lt_int, le_int, gt_int, ge_int, eq_int, ne_int, isN_ev, notN_ev, len_tup, int_int, int_bl, max2_ev, Nat.le_refl, gc_rt_same, gc_nx_same, gc_ex_same, line_small, Nat.reduceLeDiff, Nat.zero_le]
  exact e2
end KF
set_option Elab.async false
set_option linter.all false
set_option maxRecDepth 100000
set_option maxHeartbeats 4000000
namespace KF
open PySem
theorem gc_nx_dirty {S S' : Sto} {δ : Env} (h : ¬ clean S S') : gcR S (.nx δ S') = .ok .non S' := by
  rw [gcR_nx, if_neg h]
theorem eDic0_evI (t : Bool) (δ : Env) (S : Sto) : eDic0 t δ S = .ok (.ref S.length) (S ++ [.dic t []]) := id rfl
theorem list_ref {a : Nat} {l : List D} {S : Sto} (h : S[a]? = some (.lst l)) : bList [.ref a] S = .ok (.ref S.length) (S ++ [.lst l]) := by
  unfold bList
  simp only [h]
  rfl
theorem dict_ref {a : Nat} {l : List (DK × D)} {S : Sto} (h : S[a]? = some (.dic false l)) : bDict [.ref a] S = .ok (.ref S.length) (S ++ [.dic false l]) := by
  unfold bDict
  simp only [h]
  rfl
section
variable {S : Sto} {o g t e d n : Nat} {l : List D} {kvs : List (DK × D)} {F : List Nat}
theorem out_init : F_Outgoing___init__ [.ref S.length] (S ++ [.ins "Outgoing" []]) = .ok .non (S ++ [OutO 0 (S.length + 1), .lst []]) := by
  have e1 : (S ++ [GO.ins "Outgoing" []])[S.length]? = some (.ins "Outgoing" []) := last_at
  have e2 : (S ++ [GO.ins "Outgoing" [("let_go", .int 0)]])[S.length]? = some (.ins "Outgoing" [("let_go", .int 0)]) := last_at
  have e3 : (S ++ [GO.ins "Outgoing" [("let_go", .int 0)]] ++ [GO.lst []])[S.length]? = some (.ins "Outgoing" [("let_go", .int 0)]) := app_at last_at
  have s3 : (S ++ [GO.ins "Outgoing" [("let_go", .int 0)]] ++ [GO.lst []]).set S.length (OutO 0 (S.length + 1)) = S ++ [OutO 0 (S.length + 1), GO.lst []] := by
    rw [List.append_assoc, List.set_append_right _ _ (Nat.le_refl _), Nat.sub_self]
    rfl
  have ll : (S ++ [GO.ins "Outgoing" [("let_go", D.int 0)]]).length = S.length + 1 := by simp
  unfold F_Outgoing___init__
  simp only [fnOf_ev, List.length_cons, List.length_nil, Nat.zero_add, Nat.reduceAdd, Nat.reduceSub, List.map_cons, List.map_nil, List.cons_append, List.nil_append, List.append_nil, List.replicate_zero, List.replicate_succ, sSeq_ev, seq_nx, seq_rt, seq_bk, seq_ct, seq_ex, seq_no, eVar_z, eVar_s, eC_ev, aNil_ev, aCons_ev, consK_ev, consK2_ev, eOp_ev, opK_ev, eUn_ev, eTup_ev, eLst_ev, tupK_ev, lstK_ev, eB_ev, eIf_ev, iteK_ev, eAnd_ev, eOr_ev, andR_bl, orR_bl, eNot_ev, notR_bl, asB_bl, tB_ev, tAnd_ev, tAndK_ev, tOr_ev, tOrK_ev, tNot_ev, tNotK_ev, tYes_ev, eChain_ev, chainK_ev, chainK1_ev, chainK2_ev, chainK3_ev, eFld_ev, eSl_ev, slK_ev, slK1_ev, oNo_ev, oAt_ev, atR_int, sNil_ev, sSet_ev, setK_ev, sE_ev, dropK_ev, sRet_ev, retK_ev, sRetN_ev, sIf_ev, sIfK_ev, sRz_ev, sRx_ev, rxK_ev, sPut_ev, putK0_ev, putK1_ev, putK2_ev, putK3_ev, sAsg_ev, List.set_cons_zero, List.set_cons_succ, bindOk, bindEx, bindNo, toOk, toEx, toNo, if_true, if_false, ite_true, ite_false, Bool.false_eq_true, Bool.true_eq_false, eq_self, decide_true, decide_false, Bool.not_true, Bool.not_false, reduceIte, reduceCtorEq, add_int, sub_int, neg_int, lt_int, le_int, gt_int, ge_int, eq_int, ne_int, isN_ev, notN_ev, len_tup, int_int, int_bl, max2_ev, Nat.le_refl, gc_rt_same, gc_nx_same, gc_ex_same, line_small, Nat.reduceLeDiff, Nat.zero_le, sFld_ev, fldK1_ev, fldK2_ref, e1]
  rw [insPut_ins ⟨by simp, by simp⟩, lst_last, show putFD "let_go" (.int 0) [] = ([("let_go", .int 0)] : List (Str × D)) from rfl]
  simp only [fnOf_ev, List.length_cons, List.length_nil, Nat.zero_add, Nat.reduceAdd, Nat.reduceSub, List.map_cons, List.map_nil, List.cons_append, List.nil_append, List.append_nil, List.replicate_zero, List.replicate_succ, sSeq_ev, seq_nx, seq_rt, seq_bk, seq_ct, seq_ex, seq_no, eVar_z, eVar_s, eC_ev, aNil_ev, aCons_ev, consK_ev, consK2_ev, eOp_ev, opK_ev, eUn_ev, eTup_ev, eLst_ev, tupK_ev, lstK_ev, eB_ev, eIf_ev, iteK_ev, eAnd_ev, eOr_ev, andR_bl, orR_bl, eNot_ev, notR_bl, asB_bl, tB_ev, tAnd_ev, tAndK_ev, tOr_ev, tOrK_ev, tNot_ev, tNotK_ev, tYes_ev, eChain_ev, chainK_ev, chainK1_ev, chainK2_ev, chainK3_ev, eFld_ev, eSl_ev, slK_ev, slK1_ev, oNo_ev, oAt_ev, atR_int, sNil_ev, sSet_ev, setK_ev, sE_ev, dropK_ev, sRet_ev, retK_ev, sRetN_ev, sIf_ev, sIfK_ev, sRz_ev, sRx_ev, rxK_ev, sPut_ev, putK0_ev, putK1_ev, putK2_ev, putK3_ev, sAsg_ev, List.set_cons_zero, List.set_cons_succ, bindOk, bindEx, bindNo, toOk, toEx, toNo, if_true, if_false, ite_true, ite_false, Bool.false_eq_true, Bool.true_eq_false, eq_self, decide_true, decide_false, Bool.not_true, Bool.not_false, reduceIte, reduceCtorEq, add_int, sub_int, neg_int, lt_int, le_int, gt_int, ge_int, eq_int, ne_int, isN_ev, notN_ev, len_tup, int_int, int_bl, max2_ev, Nat.le_refl, gc_rt_same, gc_nx_same, gc_ex_same, line_small, Nat.reduceLeDiff, Nat.zero_le, sFld_ev, fldK1_ev, fldK2_ref, e3]
  rw [insPut_ins ⟨by simp, by simp⟩, ll, show putFD "things" (.ref (S.length + 1)) [("let_go", .int 0)] = ([("let_go", .int 0), ("things", .ref (S.length + 1))] : List (Str × D)) from rfl]
  refine (congrArg (gcR _) (congrArg (RS.nx _) s3)).trans (gc_nx_dirty (not_clean e1 (u := OutO 0 (S.length + 1)) ?_ ?_ ?_))
  · rw [List.getElem?_append_right (Nat.le_refl _), Nat.sub_self]; rfl
  · intro z
    unfold OutO at z
    injection z with _ z
    cases z
  · simp [OutO, GO.under, D.under, fsUnder, D.unders]
theorem in_init : F_Incoming___init__ [.ref S.length] (S ++ [.ins "Incoming" []]) = .ok .non (S ++ [InO 0 (S.length + 1), .dic false []]) := by
  have e1 : (S ++ [GO.ins "Incoming" []])[S.length]? = some (.ins "Incoming" []) := last_at
  have e3 : (S ++ [GO.ins "Incoming" [("due", .int 0)]] ++ [GO.dic false []])[S.length]? = some (.ins "Incoming" [("due", .int 0)]) := app_at last_at
  have s3 : (S ++ [GO.ins "Incoming" [("due", .int 0)]] ++ [GO.dic false []]).set S.length (InO 0 (S.length + 1)) = S ++ [InO 0 (S.length + 1), GO.dic false []] := by
    rw [List.append_assoc, List.set_append_right _ _ (Nat.le_refl _), Nat.sub_self]
    rfl
  have ll : (S ++ [GO.ins "Incoming" [("due", D.int 0)]]).length = S.length + 1 := by simp
  unfold F_Incoming___init__
  simp only [fnOf_ev, List.length_cons, List.length_nil, Nat.zero_add, Nat.reduceAdd, Nat.reduceSub, List.map_cons, List.map_nil, List.cons_append, List.nil_append, List.append_nil, List.replicate_zero, List.replicate_succ, sSeq_ev, seq_nx, seq_rt, seq_bk, seq_ct, seq_ex, seq_no, eVar_z, eVar_s, eC_ev, aNil_ev, aCons_ev, consK_ev, consK2_ev, eOp_ev, opK_ev, eUn_ev, eTup_ev, eLst_ev, tupK_ev, lstK_ev, eB_ev, eIf_ev, iteK_ev, eAnd_ev, eOr_ev, andR_bl, orR_bl, eNot_ev, notR_bl, asB_bl, tB_ev, tAnd_ev, tAndK_ev, tOr_ev, tOrK_ev, tNot_ev, tNotK_ev, tYes_ev, eChain_ev, chainK_ev, chainK1_ev, chainK2_ev, chainK3_ev, eFld_ev, eSl_ev, slK_ev, slK1_ev, oNo_ev, oAt_ev, atR_int, sNil_ev, sSet_ev, setK_ev, sE_ev, dropK_ev, sRet_ev, retK_ev, sRetN_ev, sIf_ev, sIfK_ev, sRz_ev, sRx_ev, rxK_ev, sPut_ev, putK0_ev, putK1_ev, putK2_ev, putK3_ev, sAsg_ev, List.set_cons_zero, List.set_cons_succ, bindOk, bindEx, bindNo, toOk, toEx, toNo, if_true, if_false, ite_true, ite_false, Bool.false_eq_true, Bool.true_eq_false, eq_self, decide_true, decide_false, Bool.not_true, Bool.not_false, reduceIte, reduceCtorEq, add_int, sub_int, neg_int, lt_int, le_int, gt_int, ge_int, eq_int, ne_int, isN_ev, notN_ev, len_tup, int_int, int_bl, max2_ev, Nat.le_refl, gc_rt_same, gc_nx_same, gc_ex_same, line_small, Nat.reduceLeDiff, Nat.zero_le, sFld_ev, fldK1_ev, fldK2_ref, e1]
  rw [insPut_ins ⟨by simp, by simp⟩, lst_last, show putFD "due" (.int 0) [] = ([("due", .int 0)] : List (Str × D)) from rfl]
  simp only [fnOf_ev, List.length_cons, List.length_nil, Nat.zero_add, Nat.reduceAdd, Nat.reduceSub, List.map_cons, List.map_nil, List.cons_append, List.nil_append, List.append_nil, List.replicate_zero, List.replicate_succ, sSeq_ev, seq_nx, seq_rt, seq_bk, seq_ct, seq_ex, seq_no, eVar_z, eVar_s, eC_ev, aNil_ev, aCons_ev, consK_ev, consK2_ev, eOp_ev, opK_ev, eUn_ev, eTup_ev, eLst_ev, tupK_ev, lstK_ev, eB_ev, eIf_ev, iteK_ev, eAnd_ev, eOr_ev, andR_bl, orR_bl, eNot_ev, notR_bl, asB_bl, tB_ev, tAnd_ev, tAndK_ev, tOr_ev, tOrK_ev, tNot_ev, tNotK_ev, tYes_ev, eChain_ev, chainK_ev, chainK1_ev, chainK2_ev, chainK3_ev, eFld_ev, eSl_ev, slK_ev, slK1_ev, oNo_ev, oAt_ev, atR_int, sNil_ev, sSet_ev, setK_ev, sE_ev, dropK_ev, sRet_ev, retK_ev, sRetN_ev, sIf_ev, sIfK_ev, sRz_ev, sRx_ev, rxK_ev, sPut_ev, putK0_ev, putK1_ev, putK2_ev, putK3_ev, sAsg_ev, List.set_cons_zero, List.set_cons_succ, bindOk, bindEx, bindNo, toOk, toEx, toNo, if_true, if_false, ite_true, ite_false, Bool.false_eq_true, Bool.true_eq_false, eq_self, decide_true, decide_false, Bool.not_true, Bool.not_false, reduceIte, reduceCtorEq, add_int, sub_int, neg_int, lt_int, le_int, gt_int, ge_int, eq_int, ne_int, isN_ev, notN_ev, len_tup, int_int, int_bl, max2_ev, Nat.le_refl, gc_rt_same, gc_nx_same, gc_ex_same, line_small, Nat.reduceLeDiff, Nat.zero_le, sFld_ev, fldK1_ev, fldK2_ref, eDic0_evI, e3]
  rw [insPut_ins ⟨by simp, by simp⟩, ll, show putFD "early" (.ref (S.length + 1)) [("due", .int 0)] = ([("due", .int 0), ("early", .ref (S.length + 1))] : List (Str × D)) from rfl]
  refine (congrArg (gcR _) (congrArg (RS.nx _) s3)).trans (gc_nx_dirty (not_clean e1 (u := InO 0 (S.length + 1)) ?_ ?_ ?_))
  · rw [List.getElem?_append_right (Nat.le_refl _), Nat.sub_self]; rfl
  · intro z
    unfold InO at z
    injection z with _ z
    cases z
  · simp [InO, GO.under, D.under, fsUnder, D.unders]
theorem out_with {q : Nat} (hq : S[q]? = some (.lst l)) : F_outgoing_with [.int g, .ref q] S = .ok (.ref S.length) (S ++ [OutO g (S.length + 2), .lst [], .lst l]) := by
  have e1 : (S ++ [OutO 0 (S.length + 1), GO.lst []])[S.length]? = some (OutO 0 (S.length + 1)) := by rw [List.getElem?_append_right (Nat.le_refl _), Nat.sub_self]; rfl
  have s1 : (S ++ [OutO 0 (S.length + 1), GO.lst []]).set S.length (OutO g (S.length + 1)) = S ++ [OutO g (S.length + 1), GO.lst []] := by
    rw [List.set_append_right _ _ (Nat.le_refl _), Nat.sub_self]
    rfl
  have l1 := list_ref (S := S ++ [OutO g (S.length + 1), GO.lst []]) (app_at hq)
  have e2 : (S ++ [OutO g (S.length + 1), GO.lst []] ++ [GO.lst l])[S.length]? = some (OutO g (S.length + 1)) := by rw [List.append_assoc, List.getElem?_append_right (Nat.le_refl _), Nat.sub_self]; rfl
  have s2 : (S ++ [OutO g (S.length + 1), GO.lst []] ++ [GO.lst l]).set S.length (OutO g (S.length + 2)) = S ++ [OutO g (S.length + 2), GO.lst [], GO.lst l] := by
    rw [List.append_assoc, List.set_append_right _ _ (Nat.le_refl _), Nat.sub_self]
    rfl
  have ll : (S ++ [OutO g (S.length + 1), GO.lst []]).length = S.length + 2 := by simp
  have p1 : insPut ["Outgoing"] "let_go" [some (.int g), some (.ref q), some (.ref S.length)] (.int g) S.length (S ++ [OutO 0 (S.length + 1), GO.lst []]) (some (OutO 0 (S.length + 1))) = .nx [some (.int g), some (.ref q), some (.ref S.length)] (S ++ [OutO g (S.length + 1), GO.lst []]) := by
    unfold OutO
    rw [insPut_ins ⟨by simp, by simp⟩]
    exact congrArg (RS.nx _) s1
  have p2 : insPut ["Outgoing"] "things" [some (.int g), some (.ref q), some (.ref S.length)] (.ref (S ++ [OutO g (S.length + 1), GO.lst []]).length) S.length (S ++ [OutO g (S.length + 1), GO.lst []] ++ [GO.lst l]) (some (OutO g (S.length + 1))) = .nx [some (.int g), some (.ref q), some (.ref S.length)] (S ++ [OutO g (S.length + 2), GO.lst [], GO.lst l]) := by
    rw [ll]
    unfold OutO
    rw [insPut_ins ⟨by simp, by simp⟩]
    exact congrArg (RS.nx _) s2
  unfold F_outgoing_with
  simp only [fnOf_ev, List.length_cons, List.length_nil, Nat.zero_add, Nat.reduceAdd, Nat.reduceSub, List.map_cons, List.map_nil, List.cons_append, List.nil_append, List.append_nil, List.replicate_zero, List.replicate_succ, sSeq_ev, seq_nx, seq_rt, seq_bk, seq_ct, seq_ex, seq_no, eVar_z, eVar_s, eC_ev, aNil_ev, aCons_ev, consK_ev, consK2_ev, eOp_ev, opK_ev, eUn_ev, eTup_ev, eLst_ev, tupK_ev, lstK_ev, eB_ev, eIf_ev, iteK_ev, eAnd_ev, eOr_ev, andR_bl, orR_bl, eNot_ev, notR_bl, asB_bl, tB_ev, tAnd_ev, tAndK_ev, tOr_ev, tOrK_ev, tNot_ev, tNotK_ev, tYes_ev, eChain_ev, chainK_ev, chainK1_ev, chainK2_ev, chainK3_ev, eFld_ev, eSl_ev, slK_ev, slK1_ev, oNo_ev, oAt_ev, atR_int, sNil_ev, sSet_ev, setK_ev, sE_ev, dropK_ev, sRet_ev, retK_ev, sRetN_ev, sIf_ev, sIfK_ev, sRz_ev, sRx_ev, rxK_ev, sPut_ev, putK0_ev, putK1_ev, putK2_ev, putK3_ev, sAsg_ev, List.set_cons_zero, List.set_cons_succ, bindOk, bindEx, bindNo, toOk, toEx, toNo, if_true, if_false, ite_true, ite_false, Bool.false_eq_true, Bool.true_eq_false, eq_self, decide_true, decide_false, Bool.not_true, Bool.not_false, reduceIte, reduceCtorEq, add_int, sub_int, neg_int, lt_int, le_int, gt_int, ge_int, eq_int, ne_int, isN_ev, notN_ev, len_tup, int_int, int_bl, max2_ev, Nat.le_refl, gc_rt_same, gc_nx_same, gc_ex_same, line_small, Nat.reduceLeDiff, Nat.zero_le, eMake_ev, makeK_ev, out_init, makeK2_non, sFld_ev, fldK1_ev, fldK2_ref, e1, p1, l1, e2, p2]
  exact gc_rt_new (by unfold D.under; simp)
theorem in_with {q : Nat} (hq : S[q]? = some (.dic false kvs)) : F_incoming_with [.int n, .ref q] S = .ok (.ref S.length) (S ++ [InO n (S.length + 2), .dic false [], .dic false kvs]) := by
  have e1 : (S ++ [InO 0 (S.length + 1), GO.dic false []])[S.length]? = some (InO 0 (S.length + 1)) := by rw [List.getElem?_append_right (Nat.le_refl _), Nat.sub_self]; rfl
  have s1 : (S ++ [InO 0 (S.length + 1), GO.dic false []]).set S.length (InO n (S.length + 1)) = S ++ [InO n (S.length + 1), GO.dic false []] := by
    rw [List.set_append_right _ _ (Nat.le_refl _), Nat.sub_self]
    rfl
  have l1 := dict_ref (S := S ++ [InO n (S.length + 1), GO.dic false []]) (app_at hq)
  have e2 : (S ++ [InO n (S.length + 1), GO.dic false []] ++ [GO.dic false kvs])[S.length]? = some (InO n (S.length + 1)) := by rw [List.append_assoc, List.getElem?_append_right (Nat.le_refl _), Nat.sub_self]; rfl
  have s2 : (S ++ [InO n (S.length + 1), GO.dic false []] ++ [GO.dic false kvs]).set S.length (InO n (S.length + 2)) = S ++ [InO n (S.length + 2), GO.dic false [], GO.dic false kvs] := by
    rw [List.append_assoc, List.set_append_right _ _ (Nat.le_refl _), Nat.sub_self]
    rfl
  have ll : (S ++ [InO n (S.length + 1), GO.dic false []]).length = S.length + 2 := by simp
  have p1 : insPut ["Incoming"] "due" [some (.int n), some (.ref q), some (.ref S.length)] (.int n) S.length (S ++ [InO 0 (S.length + 1), GO.dic false []]) (some (InO 0 (S.length + 1))) = .nx [some (.int n), some (.ref q), some (.ref S.length)] (S ++ [InO n (S.length + 1), GO.dic false []]) := by
    unfold InO
    rw [insPut_ins ⟨by simp, by simp⟩]
    exact congrArg (RS.nx _) s1
  have p2 : insPut ["Incoming"] "early" [some (.int n), some (.ref q), some (.ref S.length)] (.ref (S ++ [InO n (S.length + 1), GO.dic false []]).length) S.length (S ++ [InO n (S.length + 1), GO.dic false []] ++ [GO.dic false kvs]) (some (InO n (S.length + 1))) = .nx [some (.int n), some (.ref q), some (.ref S.length)] (S ++ [InO n (S.length + 2), GO.dic false [], GO.dic false kvs]) := by
    rw [ll]
    unfold InO
    rw [insPut_ins ⟨by simp, by simp⟩]
    exact congrArg (RS.nx _) s2
  unfold F_incoming_with
  simp only [fnOf_ev, List.length_cons, List.length_nil, Nat.zero_add, Nat.reduceAdd, Nat.reduceSub, List.map_cons, List.map_nil, List.cons_append, List.nil_append, List.append_nil, List.replicate_zero, List.replicate_succ, sSeq_ev, seq_nx, seq_rt, seq_bk, seq_ct, seq_ex, seq_no, eVar_z, eVar_s, eC_ev, aNil_ev, aCons_ev, consK_ev, consK2_ev, eOp_ev, opK_ev, eUn_ev, eTup_ev, eLst_ev, tupK_ev, lstK_ev, eB_ev, eIf_ev, iteK_ev, eAnd_ev, eOr_ev, andR_bl, orR_bl, eNot_ev, notR_bl, asB_bl, tB_ev, tAnd_ev, tAndK_ev, tOr_ev, tOrK_ev, tNot_ev, tNotK_ev, tYes_ev, eChain_ev, chainK_ev, chainK1_ev, chainK2_ev, chainK3_ev, eFld_ev, eSl_ev, slK_ev, slK1_ev, oNo_ev, oAt_ev, atR_int, sNil_ev, sSet_ev, setK_ev, sE_ev, dropK_ev, sRet_ev, retK_ev, sRetN_ev, sIf_ev, sIfK_ev, sRz_ev, sRx_ev, rxK_ev, sPut_ev, putK0_ev, putK1_ev, putK2_ev, putK3_ev, sAsg_ev, List.set_cons_zero, List.set_cons_succ, bindOk, bindEx, bindNo, toOk, toEx, toNo, if_true, if_false, ite_true, ite_false, Bool.false_eq_true, Bool.true_eq_false, eq_self, decide_true, decide_false, Bool.not_true, Bool.not_false, reduceIte, reduceCtorEq, add_int, sub_int, neg_int, lt_int, le_int, gt_int, ge_int, eq_int, ne_int, isN_ev, notN_ev, len_tup, int_int, int_bl, max2_ev, Nat.le_refl, gc_rt_same, gc_nx_same, gc_ex_same, line_small, Nat.reduceLeDiff, Nat.zero_le, eMake_ev, makeK_ev, in_init, makeK2_non, sFld_ev, fldK1_ev, fldK2_ref, e1, p1, l1, e2, p2]
  exact gc_rt_new (by unfold D.under; simp)
theorem out_copy (h : Out S o g l F t) : F_Outgoing_copy [.ref o] S = .ok (.ref S.length) (S ++ [OutO g (S.length + 2), .lst [], .lst l]) := by
  unfold F_Outgoing_copy
  simp only [fnOf_ev, List.length_cons, List.length_nil, Nat.zero_add, Nat.reduceAdd, Nat.reduceSub, List.map_cons, List.map_nil, List.cons_append, List.nil_append, List.append_nil, List.replicate_zero, List.replicate_succ, sSeq_ev, seq_nx, seq_rt, seq_bk, seq_ct, seq_ex, seq_no, eVar_z, eVar_s, eC_ev, aNil_ev, aCons_ev, consK_ev, consK2_ev, eOp_ev, opK_ev, eUn_ev, eTup_ev, eLst_ev, tupK_ev, lstK_ev, eB_ev, eIf_ev, iteK_ev, eAnd_ev, eOr_ev, andR_bl, orR_bl, eNot_ev, notR_bl, asB_bl, tB_ev, tAnd_ev, tAndK_ev, tOr_ev, tOrK_ev, tNot_ev, tNotK_ev, tYes_ev, eChain_ev, chainK_ev, chainK1_ev, chainK2_ev, chainK3_ev, eFld_ev, eSl_ev, slK_ev, slK1_ev, oNo_ev, oAt_ev, atR_int, sNil_ev, sSet_ev, setK_ev, sE_ev, dropK_ev, sRet_ev, retK_ev, sRetN_ev, sIf_ev, sIfK_ev, sRz_ev, sRx_ev, rxK_ev, sPut_ev, putK0_ev, putK1_ev, putK2_ev, putK3_ev, sAsg_ev, List.set_cons_zero, List.set_cons_succ, bindOk, bindEx, bindNo, toOk, toEx, toNo, if_true, if_false, ite_true, ite_false, Bool.false_eq_true, Bool.true_eq_false, eq_self, decide_true, decide_false, Bool.not_true, Bool.not_false, reduceIte, reduceCtorEq, add_int, sub_int, neg_int, lt_int, le_int, gt_int, ge_int, eq_int, ne_int, isN_ev, notN_ev, len_tup, int_int, int_bl, max2_ev, Nat.le_refl, gc_rt_same, gc_nx_same, gc_ex_same, line_small, Nat.reduceLeDiff, Nat.zero_le, fld_go h.at_, fld_things h.at_, out_with h.lst]
  exact gc_rt_new (by unfold D.under; simp)
theorem in_copy (h : InS S e d n kvs) : F_Incoming_copy [.ref e] S = .ok (.ref S.length) (S ++ [InO n (S.length + 2), .dic false [], .dic false kvs]) := by
  unfold F_Incoming_copy
  simp only [fnOf_ev, List.length_cons, List.length_nil, Nat.zero_add, Nat.reduceAdd, Nat.reduceSub, List.map_cons, List.map_nil, List.cons_append, List.nil_append, List.append_nil, List.replicate_zero, List.replicate_succ, sSeq_ev, seq_nx, seq_rt, seq_bk, seq_ct, seq_ex, seq_no, eVar_z, eVar_s, eC_ev, aNil_ev, aCons_ev, consK_ev, consK2_ev, eOp_ev, opK_ev, eUn_ev, eTup_ev, eLst_ev, tupK_ev, lstK_ev, eB_ev, eIf_ev, iteK_ev, eAnd_ev, eOr_ev, andR_bl, orR_bl, eNot_ev, notR_bl, asB_bl, tB_ev, tAnd_ev, tAndK_ev, tOr_ev, tOrK_ev, tNot_ev, tNotK_ev, tYes_ev, eChain_ev, chainK_ev, chainK1_ev, chainK2_ev, chainK3_ev, eFld_ev, eSl_ev, slK_ev, slK1_ev, oNo_ev, oAt_ev, atR_int, sNil_ev, sSet_ev, setK_ev, sE_ev, dropK_ev, sRet_ev, retK_ev, sRetN_ev, sIf_ev, sIfK_ev, sRz_ev, sRx_ev, rxK_ev, sPut_ev, putK0_ev, putK1_ev, putK2_ev, putK3_ev, sAsg_ev, List.set_cons_zero, List.set_cons_succ, bindOk, bindEx, bindNo, toOk, toEx, toNo, if_true, if_false, ite_true, ite_false, Bool.false_eq_true, Bool.true_eq_false, eq_self, decide_true, decide_false, Bool.not_true, Bool.not_false, reduceIte, reduceCtorEq, add_int, sub_int, neg_int, lt_int, le_int, gt_int, ge_int, eq_int, ne_int, isN_ev, notN_ev, len_tup, int_int, int_bl, max2_ev, Nat.le_refl, gc_rt_same, gc_nx_same, gc_ex_same, line_small, Nat.reduceLeDiff, Nat.zero_le, fld_due h.at_, fld_early h.at_, in_with h.dic]
  exact gc_rt_new (by unfold D.under; simp)
theorem alt_first {a b : FE} {δ : Env} {S S' : Sto} {x : D} (h : a δ S = .ok x S') : eAlt a b δ S = .ok x S' := by
  unfold eAlt
  rw [h]
theorem alt_second {a b : FE} {δ : Env} {S S' : Sto} {x : D} (h0 : a δ S = .no) (h : b δ S = .ok x S') : eAlt a b δ S = .ok x S' := by
  unfold eAlt
  rw [h0]
  exact h
theorem mind_ok {x y : FE} {δ : Env} {S S' : Sto} {n d : Nat} (hx : ∀ S, x δ S = .ok (.int (n : Int)) S) (hy : y δ (S ++ [.dic false []]) = .ok (.ref d) (S ++ [.dic false []] ++ S')) :
    eDispA (kCons (eC (.str "taken")) x (kCons (eC (.str "held")) y kNil)) δ S = .ok (.ref S.length) (S ++ [MO n d] ++ S') := by
  have e : kCons (eC (.str "taken")) x (kCons (eC (.str "held")) y kNil) δ (S ++ [GO.dic false []]) = .ok [(.str "taken", .int n), (.str "held", .ref d)] (S ++ [GO.dic false []] ++ S') := by
    unfold kCons kNil
    simp only [eC_ev, bindOk, hx, hy]
  unfold eDispA
  rw [e]
  have l : (S ++ [GO.dic false []] ++ S')[S.length]? = some (.dic false []) := app_at last_at
  simp only [bindOk, l]
  have k : keysOf [(D.str "taken", D.int (n : Int)), (D.str "held", D.ref d)] = some [(kSt "taken", .int n), (kSt "held", .ref d)] := rfl
  rw [k]
  show (if 2 ≤ 15 then KF.R.ok (D.ref S.length) ((S ++ [GO.dic false []] ++ S').set S.length (MO n d)) else KF.R.no) = _
  rw [if_pos (by decide), List.append_assoc, List.set_append_right _ _ (Nat.le_refl _), Nat.sub_self, List.append_assoc]
  rfl
end
end KF
set_option Elab.async false
set_option linter.all false
set_option maxRecDepth 100000
set_option maxHeartbeats 4000000
namespace KF
open PySem
def KeptP (S : Sto) (kp : D) (K : List Nat) : Prop := kp = .non ∨ ∃ o e q m d d2 t g n xs kvs, kp = .tup [.ref o, .ref e, .ref q, .int (g : Nat), .ref m] ∧ Lk S o e q m d d2 t g n xs kvs [] ∧ o ≠ e ∧ ∀ i ∈ [o, e, q, m, d, d2, t], i ∈ K
theorem KeptP.fr {S S' : Sto} {kp : D} {K : List Nat} (h : KeptP S kp K) (fr : ∀ i ∈ K, S'[i]? = S[i]?) : KeptP S' kp K := by
  rcases h with z | ⟨o, e, q, m, d, d2, t, g, n, xs, kvs, e1, l, oe, hk⟩
  · exact .inl z
  · have f : ∀ i ∈ [o, e, q, m, d, d2, t], S'[i]? = S[i]? := fun i hi => fr i (hk i hi)
    exact .inr ⟨o, e, q, m, d, d2, t, g, n, xs, kvs, e1, ⟨⟨by rw [f o (by simp)]; exact l.out.at_, by rw [f t (by simp)]; exact l.out.lst, l.out.apart⟩, ⟨by rw [f e (by simp)]; exact l.inn.at_, by rw [f d (by simp)]; exact l.inn.dic⟩, ⟨by rw [f m (by simp)]; exact l.mi.at_, by rw [f d2 (by simp)]; exact l.mi.dic, l.mi.neq⟩, by rw [f q (by simp)]; exact l.q, l.gn, l.nx, l.kv, l.free, l.pl, l.xl, l.kl⟩, oe, hk⟩
theorem Sk.same {F : List Nat} {S S' : Sto} {g n t : Nat} {xs : List D} {kvs : List (DK × D)} (h : Sk F S g n xs kvs t) (hl : S.length ≤ S'.length) (fr : ∀ i, i < S.length → S'[i]? = S[i]?) : Sk F S' g n xs kvs t := by
  have l := h.lk
  have at_ : ∀ i o, S[i]? = some o → S'[i]? = some o := fun i o e => by rw [fr i (List.getElem?_eq_some_iff.mp e).1]; exact e
  obtain ⟨ne, ⟨o1, e, q⟩, is, e'⟩ := h.hd
  exact ⟨⟨⟨at_ _ _ l.out.at_, at_ _ _ l.out.lst, l.out.apart⟩, ⟨at_ _ _ l.inn.at_, at_ _ _ l.inn.dic⟩, ⟨at_ _ _ l.mi.at_, at_ _ _ l.mi.dic, l.mi.neq⟩, at_ _ _ l.q, l.gn, l.nx, l.kv, l.free, l.pl, l.xl, l.kl⟩,
    ⟨ne, ⟨o1, at_ _ _ e, q⟩, is, at_ _ _ e'⟩, at_ _ _ h.all, h.base, fun f m => Nat.lt_of_lt_of_le (h.lt f m) hl⟩
/-- other kept places -/
theorem Sk.other {F F' : List Nat} {S : Sto} {g n t : Nat} {xs : List D} {kvs : List (DK × D)} (h : Sk F S g n xs kvs t) (hb : ∀ i ∈ KF.base, i ∈ F') (ht : t ∉ F') (hl : ∀ f ∈ F', f < S.length) : Sk F' S g n xs kvs t := by
  have l := h.lk
  exact ⟨⟨⟨l.out.at_, l.out.lst, ht⟩, l.inn, l.mi, l.q, l.gn, l.nx, l.kv, l.free, l.pl, l.xl, l.kl⟩, h.hd, h.all, hb, hl⟩
theorem methO_no {n d : Nat} {fn : Fn} {t : FA} {δ : Env} {i : Nat} {S : Sto} : methO "Outgoing" "copy" fn t δ i S (some (InO n d)) = .no := by
  unfold InO methO
  dsimp only
  rw [if_neg]
  intro q
  exact absurd q.1 (by decide)
noncomputable def keepB : FS := sSeq (sSet 8 (eTup (aCons (eAlt (eMeth "Outgoing" "copy" F_Outgoing_copy (eVar 2) aNil) (eMeth "Incoming" "copy" F_Incoming_copy (eVar 2) aNil)) (aCons (eAlt (eMeth "Outgoing" "copy" F_Outgoing_copy (eVar 3) aNil) (eMeth "Incoming" "copy" F_Incoming_copy (eVar 3) aNil)) (aCons (eB bList (aCons (eVar 4) aNil)) (aCons (eVar 7) (aCons (eDispA (kCons (eC (.str "taken")) (eOp opIx (eVar 6) (eC (.str "taken"))) (kCons (eC (.str "held")) (eB bDict (aCons (eOp opIx (eVar 6) (eC (.str "held"))) aNil)) kNil))) aNil)))))))
    (sSeq (sSet 11 (eOp opAdd (eOp opAdd (eMeth "Incoming" "taken" F_Incoming_taken (eVar 3) aNil) (eC (.int 1000))) (eB F_law_take (aCons (eVar 1) (aCons (eC (.int 5)) aNil)))))
    (sIf (tOr (tB (eOp opNe (eMeth "Incoming" "take" F_Incoming_take (eVar 3) (aCons (eVar 11) (aCons (eTup (aCons (eC (.str "far")) aNil)) aNil))) (eLst aNil))) (tB (eOp opNe (eMeth "Incoming" "held" F_Incoming_held (eVar 3) aNil) (eB bTuple (aCons (eB bSorted (aCons (eKeysK (eOp opIx (eVar 6) (eC (.str "held")))) aNil)) aNil)))))
    (sRet (eC (.bl false)))
    sNil))
theorem keep_ok {F : List Nat} {S : Sto} {g n t : Nat} {xs : List D} {kvs : List (DK × D)} {x0 : D} {x8 x9 x10 x11 x12 : Option D} (h : Sk F S g n xs kvs t) :
    ∃ S' K kp y11, keepB [some x0, some (.ref 1), some (.ref 2), some (.ref 4), some (.ref 6), some (.ref 7), some (.ref 8), some (.int g), x8, x9, x10, x11, x12] S = .nx [some x0, some (.ref 1), some (.ref 2), some (.ref 4), some (.ref 6), some (.ref 7), some (.ref 8), some (.int g), some kp, x9, x10, y11, x12] S' ∧
      Sk (base ++ K) S' g n xs kvs t ∧ KeptP S' kp K ∧ ∀ k ∈ K, k ∉ base := by
  have l := h.lk
  have xl := l.xl
  have nx := l.nx
  have kl := l.kl
  have lt : ∀ i ∈ base, i < S.length := fun i m => h.lt i (h.base i m)
  have l9 := lt 9 (by decide)
  have tl : t < S.length := (List.getElem?_eq_some_iff.mp l.out.lst).1
  let A : Sto := [OutO g (S.length + 2), GO.lst [], GO.lst (xs.drop g)]
  have i1 : InS (S ++ A) 4 5 n kvs := ⟨app_at l.inn.at_, app_at l.inn.dic⟩
  let B : Sto := [InO n ((S ++ A).length + 2), GO.dic false [], GO.dic false kvs]
  have q2 : (S ++ A ++ B)[6]? = some (.lst xs) := app_at (app_at l.q)
  have m3 : (S ++ A ++ B ++ [GO.lst xs])[8]? = some (MO n 9) := app_at (app_at (app_at l.mi.at_))
  have m4 : (S ++ A ++ B ++ [GO.lst xs] ++ [GO.dic false []])[8]? = some (MO n 9) := app_at m3
  have d4 : (S ++ A ++ B ++ [GO.lst xs] ++ [GO.dic false []])[9]? = some (.dic false kvs) := app_at (app_at (app_at (app_at l.mi.dic)))
  have c1 : eAlt (eMeth "Outgoing" "copy" F_Outgoing_copy (eVar 2) aNil) (eMeth "Incoming" "copy" F_Incoming_copy (eVar 2) aNil) [some x0, some (.ref 1), some (.ref 2), some (.ref 4), some (.ref 6), some (.ref 7), some (.ref 8), some (.int g), x8, x9, x10, x11, x12] S = .ok (.ref S.length) (S ++ A) := alt_first (by
    simp only [fnOf_ev, List.length_cons, List.length_nil, Nat.zero_add, Nat.reduceAdd, Nat.reduceSub, List.map_cons, List.map_nil, List.cons_append, List.nil_append, List.append_nil, List.replicate_zero, List.replicate_succ, sSeq_ev, seq_nx, seq_rt, seq_bk, seq_ct, seq_ex, seq_no, eVar_z, eVar_s, eC_ev, aNil_ev, aCons_ev, consK_ev, consK2_ev, eOp_ev, opK_ev, eUn_ev, eTup_ev, eLst_ev, tupK_ev, lstK_ev, eB_ev, eIf_ev, iteK_ev, eAnd_ev, eOr_ev, andR_bl, orR_bl, eNot_ev, notR_bl, asB_bl, tB_ev, tAnd_ev, tAndK_ev, tOr_ev, tOrK_ev, tNot_ev, tNotK_ev, tYes_ev, eChain_ev, chainK_ev, chainK1_ev, chainK2_ev, chainK3_ev, eFld_ev, eSl_ev, slK_ev, slK1_ev, oNo_ev, oAt_ev, atR_int, sNil_ev, sSet_ev, setK_ev, sE_ev, dropK_ev, sRet_ev, retK_ev, sRetN_ev, sIf_ev, sIfK_ev, sRz_ev, sRx_ev, rxK_ev, sPut_ev, putK0_ev, putK1_ev, putK2_ev, putK3_ev, sAsg_ev, List.set_cons_zero, List.set_cons_succ, bindOk, bindEx, bindNo, toOk, toEx, toNo, if_true, if_false, ite_true, ite_false, Bool.false_eq_true, Bool.true_eq_false, eq_self, decide_true, decide_false, Bool.not_true, Bool.not_false, reduceIte, reduceCtorEq, add_int, sub_int, neg_int, lt_int, le_int, gt_int, ge_int, eq_int, ne_int, isN_ev, notN_ev, len_tup, int_int, int_bl, max2_ev, Nat.le_refl, gc_rt_same, gc_nx_same, gc_ex_same, line_small, Nat.reduceLeDiff, Nat.zero_le, eMeth_ev, methK_ref, l.out.at_, OutO, methO_ins (C := "Outgoing") (m := "copy") (fn := F_Outgoing_copy) (fs := [("let_go", .int g), ("things", .ref t)]) rfl, methA_ev, out_copy l.out]
    rfl)
  have c2 : eAlt (eMeth "Outgoing" "copy" F_Outgoing_copy (eVar 3) aNil) (eMeth "Incoming" "copy" F_Incoming_copy (eVar 3) aNil) [some x0, some (.ref 1), some (.ref 2), some (.ref 4), some (.ref 6), some (.ref 7), some (.ref 8), some (.int g), x8, x9, x10, x11, x12] (S ++ A) = .ok (.ref (S ++ A).length) (S ++ A ++ B) := alt_second (by
    simp only [fnOf_ev, List.length_cons, List.length_nil, Nat.zero_add, Nat.reduceAdd, Nat.reduceSub, List.map_cons, List.map_nil, List.cons_append, List.nil_append, List.append_nil, List.replicate_zero, List.replicate_succ, sSeq_ev, seq_nx, seq_rt, seq_bk, seq_ct, seq_ex, seq_no, eVar_z, eVar_s, eC_ev, aNil_ev, aCons_ev, consK_ev, consK2_ev, eOp_ev, opK_ev, eUn_ev, eTup_ev, eLst_ev, tupK_ev, lstK_ev, eB_ev, eIf_ev, iteK_ev, eAnd_ev, eOr_ev, andR_bl, orR_bl, eNot_ev, notR_bl, asB_bl, tB_ev, tAnd_ev, tAndK_ev, tOr_ev, tOrK_ev, tNot_ev, tNotK_ev, tYes_ev, eChain_ev, chainK_ev, chainK1_ev, chainK2_ev, chainK3_ev, eFld_ev, eSl_ev, slK_ev, slK1_ev, oNo_ev, oAt_ev, atR_int, sNil_ev, sSet_ev, setK_ev, sE_ev, dropK_ev, sRet_ev, retK_ev, sRetN_ev, sIf_ev, sIfK_ev, sRz_ev, sRx_ev, rxK_ev, sPut_ev, putK0_ev, putK1_ev, putK2_ev, putK3_ev, sAsg_ev, List.set_cons_zero, List.set_cons_succ, bindOk, bindEx, bindNo, toOk, toEx, toNo, if_true, if_false, ite_true, ite_false, Bool.false_eq_true, Bool.true_eq_false, eq_self, decide_true, decide_false, Bool.not_true, Bool.not_false, reduceIte, reduceCtorEq, add_int, sub_int, neg_int, lt_int, le_int, gt_int, ge_int, eq_int, ne_int, isN_ev, notN_ev, len_tup, int_int, int_bl, max2_ev, Nat.le_refl, gc_rt_same, gc_nx_same, gc_ex_same, line_small, Nat.reduceLeDiff, Nat.zero_le, eMeth_ev, methK_ref, i1.at_]
    exact methO_no) (by
    simp only [fnOf_ev, List.length_cons, List.length_nil, Nat.zero_add, Nat.reduceAdd, Nat.reduceSub, List.map_cons, List.map_nil, List.cons_append, List.nil_append, List.append_nil, List.replicate_zero, List.replicate_succ, sSeq_ev, seq_nx, seq_rt, seq_bk, seq_ct, seq_ex, seq_no, eVar_z, eVar_s, eC_ev, aNil_ev, aCons_ev, consK_ev, consK2_ev, eOp_ev, opK_ev, eUn_ev, eTup_ev, eLst_ev, tupK_ev, lstK_ev, eB_ev, eIf_ev, iteK_ev, eAnd_ev, eOr_ev, andR_bl, orR_bl, eNot_ev, notR_bl, asB_bl, tB_ev, tAnd_ev, tAndK_ev, tOr_ev, tOrK_ev, tNot_ev, tNotK_ev, tYes_ev, eChain_ev, chainK_ev, chainK1_ev, chainK2_ev, chainK3_ev, eFld_ev, eSl_ev, slK_ev, slK1_ev, oNo_ev, oAt_ev, atR_int, sNil_ev, sSet_ev, setK_ev, sE_ev, dropK_ev, sRet_ev, retK_ev, sRetN_ev, sIf_ev, sIfK_ev, sRz_ev, sRx_ev, rxK_ev, sPut_ev, putK0_ev, putK1_ev, putK2_ev, putK3_ev, sAsg_ev, List.set_cons_zero, List.set_cons_succ, bindOk, bindEx, bindNo, toOk, toEx, toNo, if_true, if_false, ite_true, ite_false, Bool.false_eq_true, Bool.true_eq_false, eq_self, decide_true, decide_false, Bool.not_true, Bool.not_false, reduceIte, reduceCtorEq, add_int, sub_int, neg_int, lt_int, le_int, gt_int, ge_int, eq_int, ne_int, isN_ev, notN_ev, len_tup, int_int, int_bl, max2_ev, Nat.le_refl, gc_rt_same, gc_nx_same, gc_ex_same, line_small, Nat.reduceLeDiff, Nat.zero_le, eMeth_ev, methK_ref, i1.at_, InO, methO_ins (C := "Incoming") (m := "copy") (fn := F_Incoming_copy) (fs := [("due", .int n), ("early", .ref 5)]) rfl, methA_ev, in_copy i1]
    rfl)
  have c3 := list_ref q2
  have c4 : eDispA (kCons (eC (.str "taken")) (eOp opIx (eVar 6) (eC (.str "taken"))) (kCons (eC (.str "held")) (eB bDict (aCons (eOp opIx (eVar 6) (eC (.str "held"))) aNil)) kNil)) [some x0, some (.ref 1), some (.ref 2), some (.ref 4), some (.ref 6), some (.ref 7), some (.ref 8), some (.int g), x8, x9, x10, x11, x12] (S ++ A ++ B ++ [GO.lst xs]) = .ok (.ref (S ++ A ++ B ++ [GO.lst xs]).length) (S ++ A ++ B ++ [GO.lst xs] ++ [MO n (S ++ A ++ B ++ [GO.lst xs] ++ [GO.dic false []]).length] ++ [GO.dic false kvs]) := by
    have ex : kCons (eC (.str "taken")) (eOp opIx (eVar 6) (eC (.str "taken"))) (kCons (eC (.str "held")) (eB bDict (aCons (eOp opIx (eVar 6) (eC (.str "held"))) aNil)) kNil) [some x0, some (.ref 1), some (.ref 2), some (.ref 4), some (.ref 6), some (.ref 7), some (.ref 8), some (.int g), x8, x9, x10, x11, x12] (S ++ A ++ B ++ [GO.lst xs] ++ [GO.dic false []]) = .ok [(.str "taken", .int n), (.str "held", .ref (S ++ A ++ B ++ [GO.lst xs] ++ [GO.dic false []]).length)] (S ++ A ++ B ++ [GO.lst xs] ++ [GO.dic false []] ++ [GO.dic false kvs]) := by
      have a1 : ∀ δ : Env, eOp opIx (eVar 6) (eC (.str "taken")) [some x0, some (.ref 1), some (.ref 2), some (.ref 4), some (.ref 6), some (.ref 7), some (.ref 8), some (.int g), x8, x9, x10, x11, x12] (S ++ A ++ B ++ [GO.lst xs] ++ [GO.dic false []]) = .ok (.int n) (S ++ A ++ B ++ [GO.lst xs] ++ [GO.dic false []]) := fun _ => by simp only [fnOf_ev, List.length_cons, List.length_nil, Nat.zero_add, Nat.reduceAdd, Nat.reduceSub, List.map_cons, List.map_nil, List.cons_append, List.nil_append, List.append_nil, List.replicate_zero, List.replicate_succ, sSeq_ev, seq_nx, seq_rt, seq_bk, seq_ct, seq_ex, seq_no, eVar_z, eVar_s, eC_ev, aNil_ev, aCons_ev, consK_ev, consK2_ev, eOp_ev, opK_ev, eUn_ev, eTup_ev, eLst_ev, tupK_ev, lstK_ev, eB_ev, eIf_ev, iteK_ev, eAnd_ev, eOr_ev, andR_bl, orR_bl, eNot_ev, notR_bl, asB_bl, tB_ev, tAnd_ev, tAndK_ev, tOr_ev, tOrK_ev, tNot_ev, tNotK_ev, tYes_ev, eChain_ev, chainK_ev, chainK1_ev, chainK2_ev, chainK3_ev, eFld_ev, eSl_ev, slK_ev, slK1_ev, oNo_ev, oAt_ev, atR_int, sNil_ev, sSet_ev, setK_ev, sE_ev, dropK_ev, sRet_ev, retK_ev, sRetN_ev, sIf_ev, sIfK_ev, sRz_ev, sRx_ev, rxK_ev, sPut_ev, putK0_ev, putK1_ev, putK2_ev, putK3_ev, sAsg_ev, List.set_cons_zero, List.set_cons_succ, bindOk, bindEx, bindNo, toOk, toEx, toNo, if_true, if_false, ite_true, ite_false, Bool.false_eq_true, Bool.true_eq_false, eq_self, decide_true, decide_false, Bool.not_true, Bool.not_false, reduceIte, reduceCtorEq, add_int, sub_int, neg_int, lt_int, le_int, gt_int, ge_int, eq_int, ne_int, isN_ev, notN_ev, len_tup, int_int, int_bl, max2_ev, Nat.le_refl, gc_rt_same, gc_nx_same, gc_ex_same, line_small, Nat.reduceLeDiff, Nat.zero_le, ix_taken m4]
      have a2 : eB bDict (aCons (eOp opIx (eVar 6) (eC (.str "held"))) aNil) [some x0, some (.ref 1), some (.ref 2), some (.ref 4), some (.ref 6), some (.ref 7), some (.ref 8), some (.int g), x8, x9, x10, x11, x12] (S ++ A ++ B ++ [GO.lst xs] ++ [GO.dic false []]) = .ok (.ref (S ++ A ++ B ++ [GO.lst xs] ++ [GO.dic false []]).length) (S ++ A ++ B ++ [GO.lst xs] ++ [GO.dic false []] ++ [GO.dic false kvs]) := by simp only [fnOf_ev, List.length_cons, List.length_nil, Nat.zero_add, Nat.reduceAdd, Nat.reduceSub, List.map_cons, List.map_nil, List.cons_append, List.nil_append, List.append_nil, List.replicate_zero, List.replicate_succ, sSeq_ev, seq_nx, seq_rt, seq_bk, seq_ct, seq_ex, seq_no, eVar_z, eVar_s, eC_ev, aNil_ev, aCons_ev, consK_ev, consK2_ev, eOp_ev, opK_ev, eUn_ev, eTup_ev, eLst_ev, tupK_ev, lstK_ev, eB_ev, eIf_ev, iteK_ev, eAnd_ev, eOr_ev, andR_bl, orR_bl, eNot_ev, notR_bl, asB_bl, tB_ev, tAnd_ev, tAndK_ev, tOr_ev, tOrK_ev, tNot_ev, tNotK_ev, tYes_ev, eChain_ev, chainK_ev, chainK1_ev, chainK2_ev, chainK3_ev, eFld_ev, eSl_ev, slK_ev, slK1_ev, oNo_ev, oAt_ev, atR_int, sNil_ev, sSet_ev, setK_ev, sE_ev, dropK_ev, sRet_ev, retK_ev, sRetN_ev, sIf_ev, sIfK_ev, sRz_ev, sRx_ev, rxK_ev, sPut_ev, putK0_ev, putK1_ev, putK2_ev, putK3_ev, sAsg_ev, List.set_cons_zero, List.set_cons_succ, bindOk, bindEx, bindNo, toOk, toEx, toNo, if_true, if_false, ite_true, ite_false, Bool.false_eq_true, Bool.true_eq_false, eq_self, decide_true, decide_false, Bool.not_true, Bool.not_false, reduceIte, reduceCtorEq, add_int, sub_int, neg_int, lt_int, le_int, gt_int, ge_int, eq_int, ne_int, isN_ev, notN_ev, len_tup, int_int, int_bl, max2_ev, Nat.le_refl, gc_rt_same, gc_nx_same, gc_ex_same, line_small, Nat.reduceLeDiff, Nat.zero_le, ix_held m4, dict_ref d4]
      unfold kCons kNil
      simp only [eC_ev, bindOk, a1 [], a2]
    unfold eDispA
    rw [ex]
    have lq : (S ++ A ++ B ++ [GO.lst xs] ++ [GO.dic false []] ++ [GO.dic false kvs])[(S ++ A ++ B ++ [GO.lst xs]).length]? = some (.dic false []) := app_at last_at
    simp only [bindOk, lq]
    have k : keysOf [(D.str "taken", D.int (n : Int)), (D.str "held", D.ref (S ++ A ++ B ++ [GO.lst xs] ++ [GO.dic false []]).length)] = some [(kSt "taken", .int n), (kSt "held", .ref (S ++ A ++ B ++ [GO.lst xs] ++ [GO.dic false []]).length)] := rfl
    rw [k]
    show (if 2 ≤ 15 then KF.R.ok (D.ref (S ++ A ++ B ++ [GO.lst xs]).length) ((S ++ A ++ B ++ [GO.lst xs] ++ [GO.dic false []] ++ [GO.dic false kvs]).set (S ++ A ++ B ++ [GO.lst xs]).length (MO n (S ++ A ++ B ++ [GO.lst xs] ++ [GO.dic false []]).length)) else KF.R.no) = _
    rw [if_pos (by decide), List.append_assoc (S ++ A ++ B ++ [GO.lst xs]), List.set_append_right _ _ (Nat.le_refl _), Nat.sub_self, List.append_assoc (S ++ A ++ B ++ [GO.lst xs])]
    rfl
  generalize hM : S ++ A ++ B ++ [GO.lst xs] ++ [MO n (S ++ A ++ B ++ [GO.lst xs] ++ [GO.dic false []]).length] ++ [GO.dic false kvs] = S7 at c4
  have lA : (S ++ A).length = S.length + 3 := by simp [A]
  have lB : (S ++ A ++ B).length = S.length + 6 := by simp [A, B]
  have lC : (S ++ A ++ B ++ [GO.lst xs]).length = S.length + 7 := by simp [A, B]
  have lD : (S ++ A ++ B ++ [GO.lst xs] ++ [GO.dic false []]).length = S.length + 8 := by simp [A, B]
  have l7 : S7.length = S.length + 9 := by rw [← hM]; simp [A, B]
  have low7 : ∀ i, i < S.length → S7[i]? = S[i]? := fun i a => by
    rw [← hM, List.getElem?_append_left (by simp; omega), List.getElem?_append_left (by simp; omega), List.getElem?_append_left (by simp; omega), List.getElem?_append_left (by simp; omega), List.getElem?_append_left a]
  have h7 : Sk F S7 g n xs kvs t := h.same (by omega) low7
  obtain ⟨r, S8, a0, a1, e8, d8, _⟩ := take_dr (m := 5) h7.hd (by omega) (by omega)
  obtain ⟨r, rfl⟩ := Int.eq_ofNat_of_zero_le a0
  have h8 := h7.dr d8
  have l8 := h8.lk
  have tk := taken_ok h7.lk.inn
  obtain ⟨S9, e9, len9, in9, ls9, fr9⟩ := take_okI l8.inn (by omega) (n + 1000 + r) (by omega) (.tup [.str "far"])
  have hh : heldP n kvs (n + 1000 + r) (.tup [.str "far"]) = kvs := if_neg fun q => by omega
  rw [hh, drn_free l8.free] at in9 ls9
  have s89 : ∀ i, i < S8.length → S9[i]? = S8[i]? := fun i a => by
    by_cases q4 : i = 4
    · subst q4; rw [in9.at_, l8.inn.at_]
    · by_cases q5 : i = 5
      · subst q5; rw [in9.dic, l8.inn.dic]
      · exact fr9 i q4 q5 (by omega)
  have h9 : Sk F S9 g n xs kvs t := h8.same (by omega) s89
  have h10 : Sk F (S9 ++ [GO.lst []]) g n xs kvs t := h9.same (by simp) fun i a => List.getElem?_append_left a
  obtain ⟨is, hi, il⟩ := Kv.ints l.kv.of
  have hd := held_ok h10.lk.inn (by omega) hi
  have k1 := keysK_mi h10.lk.mi (δ := [some x0, some (.ref 1), some (.ref 2), some (.ref 4), some (.ref 6), some (.ref 7), some (.ref 8), some (.int g), some (.tup [.ref S.length, .ref (S ++ A).length, .ref (S ++ A ++ B).length, .int g, .ref (S ++ A ++ B ++ [GO.lst xs]).length]), x9, x10, some (.int ((n : Int) + 1000 + (r : Int))), x12]) (i := 6) rfl
  have k2 := sorted_lstI (a := (S9 ++ [GO.lst []]).length) (S := S9 ++ [GO.lst []] ++ [GO.lst (kvs.map fun kv => kv.1.toD)]) (is := is) last_at (by rw [List.length_map]; omega) hi
  have k3 : ∀ (S : Sto) l, bTuple [.ref S.length] (S ++ [GO.lst l]) = .ok (.tup l) (S ++ [GO.lst l]) := fun S l => tuple_ref last_at
  have n1 : opNe (.ref S8.length) (.ref S9.length) (S9 ++ [GO.lst []]) = .ok (.bl false) (S9 ++ [GO.lst []]) := ne_pls (k := 0) (l := []) (app_at ls9) last_at (fun _ m => by cases m) (by decide)
  have n2 : ∀ S : Sto, opNe (hsD is) (hsD is) S = .ok (.bl false) S := fun S => ne_pl (hsD_pl (by omega)) (by decide)
  unfold hsD at hd n2
  have h11 : Sk F (S9 ++ [GO.lst []] ++ [GO.lst (kvs.map fun kv => kv.1.toD)] ++ [GO.lst ((sortI is).map D.int)]) g n xs kvs t := h10.same (by simp only [List.length_append]; omega) fun i a => by rw [List.getElem?_append_left (by rw [List.length_append]; omega), List.getElem?_append_left a]
  have e9' : F_Incoming_take [.ref 4, .int ((n : Int) + 1000 + (r : Int)), .tup [.str "far"]] S8 = .ok (.ref S8.length) S9 := e9
  have fr11 : ∀ i, i < S7.length → i ≠ 1 → (S9 ++ [GO.lst []] ++ [GO.lst (kvs.map fun kv => kv.1.toD)] ++ [GO.lst ((sortI is).map D.int)])[i]? = S7[i]? := fun i a b => by
    have l78 := d8.kp.len
    rw [List.getElem?_append_left (by simp; omega), List.getElem?_append_left (by simp; omega), List.getElem?_append_left (by omega), s89 i (by omega)]
    obtain ⟨u, eu⟩ : ∃ u, S7[i]? = some u := ⟨_, List.getElem?_eq_getElem a⟩
    rw [eu]
    exact d8.kp.at_ i u b eu
  have g7 : ∀ k (hk : k < 9), S7[S.length + k]? = (A ++ B ++ [GO.lst xs] ++ [MO n (S.length + 8)] ++ [GO.dic false kvs])[k]? := fun k hk => by
    rw [← hM, lD]
    simp only [List.append_assoc]
    rw [List.getElem?_append_right (by omega), Nat.add_sub_cancel_left]
  have l78 := d8.kp.len
  refine ⟨S9 ++ [GO.lst []] ++ [GO.lst (kvs.map fun kv => kv.1.toD)] ++ [GO.lst ((sortI is).map D.int)], [S.length, S.length + 3, S.length + 6, S.length + 7, S.length + 5, S.length + 8, S.length + 2], .tup [.ref S.length, .ref (S ++ A).length, .ref (S ++ A ++ B).length, .int g, .ref (S ++ A ++ B ++ [GO.lst xs]).length], some (.int ((n : Int) + 1000 + (r : Int))), ?_, ?_, ?_, ?_⟩
  · unfold keepB
    simp only [fnOf_ev, List.length_cons, List.length_nil, Nat.zero_add, Nat.reduceAdd, Nat.reduceSub, List.map_cons, List.map_nil, List.cons_append, List.nil_append, List.append_nil, List.replicate_zero, List.replicate_succ, sSeq_ev, seq_nx, seq_rt, seq_bk, seq_ct, seq_ex, seq_no, eVar_z, eVar_s, eC_ev, aNil_ev, aCons_ev, consK_ev, consK2_ev, eOp_ev, opK_ev, eUn_ev, eTup_ev, eLst_ev, tupK_ev, lstK_ev, eB_ev, eIf_ev, iteK_ev, eAnd_ev, eOr_ev, andR_bl, orR_bl, eNot_ev, notR_bl, asB_bl, tB_ev, tAnd_ev, tAndK_ev, tOr_ev, tOrK_ev, tNot_ev, tNotK_ev, tYes_ev, eChain_ev, chainK_ev, chainK1_ev, chainK2_ev, chainK3_ev, eFld_ev, eSl_ev, slK_ev, slK1_ev, oNo_ev, oAt_ev, atR_int, sNil_ev, sSet_ev, setK_ev, sE_ev, dropK_ev, sRet_ev, retK_ev, sRetN_ev, sIf_ev, sIfK_ev, sRz_ev, sRx_ev, rxK_ev, sPut_ev, putK0_ev, putK1_ev, putK2_ev, putK3_ev, sAsg_ev, List.set_cons_zero, List.set_cons_succ, bindOk, bindEx, bindNo, toOk, toEx, toNo, if_true, if_false, ite_true, ite_false, Bool.false_eq_true, Bool.true_eq_false, eq_self, decide_true, decide_false, Bool.not_true, Bool.not_false, reduceIte, reduceCtorEq, add_int, sub_int, neg_int, lt_int, le_int, gt_int, ge_int, eq_int, ne_int, isN_ev, notN_ev, len_tup, int_int, int_bl, max2_ev, Nat.le_refl, gc_rt_same, gc_nx_same, gc_ex_same, line_small, Nat.reduceLeDiff, Nat.zero_le, c1, c2, c3, c4, tupK_ev, eMeth_ev, methK_ref, h7.lk.inn.at_, InO, methO_ins (C := "Incoming") (m := "taken") (fn := F_Incoming_taken) (fs := [("due", .int n), ("early", .ref 5)]) rfl, methA_ev, tk, take_eqI, e8, l8.inn.at_, methO_ins (C := "Incoming") (m := "take") (fn := F_Incoming_take) (fs := [("due", .int n), ("early", .ref 5)]) rfl, e9', n1, h10.lk.inn.at_, methO_ins (C := "Incoming") (m := "held") (fn := F_Incoming_held) (fs := [("due", .int n), ("early", .ref 5)]) rfl, hd, k1, k2, k3, n2]
  · refine h11.other (fun i m => List.mem_append_left _ m) (fun m => ?_) (fun f m => ?_)
    · rcases List.mem_append.mp m with m | m
      · exact h.tne m rfl
      · simp only [List.mem_cons, List.not_mem_nil, or_false] at m
        omega
    · rcases List.mem_append.mp m with m | m
      · have := lt f m; simp; omega
      · simp only [List.mem_cons, List.not_mem_nil, or_false] at m
        simp
        omega
  · refine .inr ⟨S.length, S.length + 3, S.length + 6, S.length + 7, S.length + 5, S.length + 8, S.length + 2, g, n, xs, kvs, by rw [lA, lB, lC], ⟨⟨?_, ?_, by simp⟩, ⟨?_, ?_⟩, ⟨?_, ?_, by omega⟩, ?_, l.gn, l.nx, l.kv, l.free, l.pl, l.xl, l.kl⟩, by omega, fun i m => m⟩
    · rw [fr11 _ (by omega) (by omega)]; exact (g7 0 (by decide)).trans rfl
    · rw [fr11 _ (by omega) (by omega), g7 2 (by decide)]; rfl
    · rw [fr11 _ (by omega) (by omega), g7 3 (by decide)]
      show some (InO n ((S ++ A).length + 2)) = _
      rw [lA]
    · rw [fr11 _ (by omega) (by omega), g7 5 (by decide)]; rfl
    · rw [fr11 _ (by omega) (by omega), g7 7 (by decide)]; rfl
    · rw [fr11 _ (by omega) (by omega), g7 8 (by decide)]; rfl
    · rw [fr11 _ (by omega) (by omega), g7 6 (by decide)]; rfl
  · intro k m mb
    have := lt k mb
    simp only [List.mem_cons, List.not_mem_nil, or_false] at m
    omega
noncomputable def turB : FS := sSeq (sAsg (eB F_law_deed (aCons (eVar 1) (aCons (eVar 2) (aCons (eVar 3) (aCons (eVar 4) (aCons (eVar 7) (aCons (eVar 6) (aCons (eVar 5) aNil)))))))) (.tup [(.name 10), (.name 7)]))
    (sSeq (sIf (tOr (tNot (tB (eVar 10))) (tNot (tB (eB F_law_ends_right (aCons (eVar 2) (aCons (eVar 3) (aCons (eVar 4) (aCons (eVar 7) (aCons (eVar 6) aNil)))))))))
    (sRet (eC (.bl false)))
    sNil)
    (sSeq (sIf (tOr (tB (eOp opNe (eVar 5) (eSl (eVar 4) oNo (oAt (eB bLen (aCons (eVar 5) aNil)))))) (tB (eOp opNe (eB bLen (aCons (eVar 5) aNil)) (eOp opIx (eVar 6) (eC (.str "taken"))))))
    (sRet (eC (.bl false)))
    sNil)
    (sIf (tB (eOp opEq (eB F_law_take (aCons (eVar 1) (aCons (eC (.int 9)) aNil))) (eC (.int 0))))
    keepB
    sNil)))
def TurI (x0 : D) (xs0 : List D) (δ : Env) (S : Sto) : Prop := ∃ g n xs kvs t K kp x9 x10 x11 x12, δ = [some x0, some (.ref 1), some (.ref 2), some (.ref 4), some (.ref 6), some (.ref 7), some (.ref 8), some (.int (g : Nat)), some kp, x9, x10, x11, x12] ∧
  Sk (base ++ K) S g n xs kvs t ∧ KeptP S kp K ∧ (∀ k ∈ K, k ∉ base) ∧ kvs.length + xs0.length ≤ 60
theorem turn_ok {x0 y : D} {xs0 : List D} {δ : Env} {S : Sto} (h : TurI x0 (y :: xs0) δ S) : ∃ δ1, (TgS.name 9).asg y δ = some δ1 ∧ ∃ δ' S', turB δ1 S = .nx δ' S' ∧ TurI x0 xs0 δ' S' := by
  obtain ⟨g, n, xs, kvs, t, K, kp, x9, x10, x11, x12, rfl, h, hk, hb, len⟩ := h
  simp only [List.length_cons] at len
  refine ⟨_, asg_name, ?_⟩
  obtain ⟨S1, g1, n1, xs1, kvs1, t1, e1, h1, len1, fr1⟩ := deed_ok h (by omega)
  have l1 := h1.lk
  have k1 : KeptP S1 kp K := hk.fr fun i m => fr1 i (List.mem_append_right _ m) (hb i m)
  have e2 := ends_ok l1
  have tl : (xs1.take n1).length = n1 := by rw [List.length_take]; have := l1.nx; omega
  have h2 : Sk (base ++ K) (S1 ++ [GO.lst (xs1.take n1)]) g1 n1 xs1 kvs1 t1 := h1.same (by simp) fun i a => List.getElem?_append_left a
  have k2 : KeptP (S1 ++ [GO.lst (xs1.take n1)]) kp K := k1.fr fun i m => List.getElem?_append_left (h1.lt i (List.mem_append_right _ m))
  have n7 : opNe (.ref 7) (.ref S1.length) (S1 ++ [GO.lst (xs1.take n1)]) = .ok (.bl false) (S1 ++ [GO.lst (xs1.take n1)]) := ne_pls (k := 4) h2.all last_at (fun x m => l1.pl x (List.mem_of_mem_take m)) (by decide)
  obtain ⟨r, S3, a0, a1, e3, d3, _⟩ := take_dr (m := 9) h2.hd (by omega) (by omega)
  have h3 := h2.dr d3
  have k3 : KeptP S3 kp K := k2.fr fun i m => by
    obtain ⟨u, eu⟩ : ∃ u, (S1 ++ [GO.lst (xs1.take n1)])[i]? = some u := ⟨_, List.getElem?_eq_getElem (h2.lt i (List.mem_append_right _ m))⟩
    rw [eu]
    exact d3.kp.at_ i u (fun z => hb i m (by rw [z]; decide)) eu
  have all2 : (S1 ++ [GO.lst (xs1.take n1)])[7]? = some (.lst (xs1.take n1)) := h2.all
  have mi2 := h2.lk.mi.at_
  unfold turB
  by_cases q : r = 0
  · obtain ⟨S4, K4, kp4, y11, e4, h4, k4, hb4⟩ := keep_ok (x0 := x0) (x8 := some kp) (x9 := some y) (x10 := some (.bl true)) (x11 := x11) (x12 := x12) h3
    have q' : decide (r = 0) = true := decide_eq_true q
    refine ⟨_, S4, ?_, g1, n1, xs1, kvs1, t1, K4, kp4, some y, some (.bl true), y11, x12, rfl, h4, k4, hb4, by omega⟩
    simp only [fnOf_ev, List.length_cons, List.length_nil, Nat.zero_add, Nat.reduceAdd, Nat.reduceSub, List.map_cons, List.map_nil, List.cons_append, List.nil_append, List.append_nil, List.replicate_zero, List.replicate_succ, sSeq_ev, seq_nx, seq_rt, seq_bk, seq_ct, seq_ex, seq_no, eVar_z, eVar_s, eC_ev, aNil_ev, aCons_ev, consK_ev, consK2_ev, eOp_ev, opK_ev, eUn_ev, eTup_ev, eLst_ev, tupK_ev, lstK_ev, eB_ev, eIf_ev, iteK_ev, eAnd_ev, eOr_ev, andR_bl, orR_bl, eNot_ev, notR_bl, asB_bl, tB_ev, tAnd_ev, tAndK_ev, tOr_ev, tOrK_ev, tNot_ev, tNotK_ev, tYes_ev, eChain_ev, chainK_ev, chainK1_ev, chainK2_ev, chainK3_ev, eFld_ev, eSl_ev, slK_ev, slK1_ev, oNo_ev, oAt_ev, atR_int, sNil_ev, sSet_ev, setK_ev, sE_ev, dropK_ev, sRet_ev, retK_ev, sRetN_ev, sIf_ev, sIfK_ev, sRz_ev, sRx_ev, rxK_ev, sPut_ev, putK0_ev, putK1_ev, putK2_ev, putK3_ev, sAsg_ev, List.set_cons_zero, List.set_cons_succ, bindOk, bindEx, bindNo, toOk, toEx, toNo, if_true, if_false, ite_true, ite_false, Bool.false_eq_true, Bool.true_eq_false, eq_self, decide_true, decide_false, Bool.not_true, Bool.not_false, reduceIte, reduceCtorEq, add_int, sub_int, neg_int, lt_int, le_int, gt_int, ge_int, eq_int, ne_int, isN_ev, notN_ev, len_tup, int_int, int_bl, max2_ev, Nat.le_refl, gc_rt_same, gc_nx_same, gc_ex_same, line_small, Nat.reduceLeDiff, Nat.zero_le, e1, asgR, asg_two, e2, len_ref, h1.all, lenO_lst, tl, sl_ref, l1.q, slO_to, n7, all2, ix_taken mi2, take_eqI, e3, q', e4]
  · have q' : decide (r = 0) = false := decide_eq_false q
    refine ⟨_, S3, ?_, g1, n1, xs1, kvs1, t1, K, kp, some y, some (.bl true), x11, x12, rfl, h3, k3, hb, by omega⟩
    simp only [fnOf_ev, List.length_cons, List.length_nil, Nat.zero_add, Nat.reduceAdd, Nat.reduceSub, List.map_cons, List.map_nil, List.cons_append, List.nil_append, List.append_nil, List.replicate_zero, List.replicate_succ, sSeq_ev, seq_nx, seq_rt, seq_bk, seq_ct, seq_ex, seq_no, eVar_z, eVar_s, eC_ev, aNil_ev, aCons_ev, consK_ev, consK2_ev, eOp_ev, opK_ev, eUn_ev, eTup_ev, eLst_ev, tupK_ev, lstK_ev, eB_ev, eIf_ev, iteK_ev, eAnd_ev, eOr_ev, andR_bl, orR_bl, eNot_ev, notR_bl, asB_bl, tB_ev, tAnd_ev, tAndK_ev, tOr_ev, tOrK_ev, tNot_ev, tNotK_ev, tYes_ev, eChain_ev, chainK_ev, chainK1_ev, chainK2_ev, chainK3_ev, eFld_ev, eSl_ev, slK_ev, slK1_ev, oNo_ev, oAt_ev, atR_int, sNil_ev, sSet_ev, setK_ev, sE_ev, dropK_ev, sRet_ev, retK_ev, sRetN_ev, sIf_ev, sIfK_ev, sRz_ev, sRx_ev, rxK_ev, sPut_ev, putK0_ev, putK1_ev, putK2_ev, putK3_ev, sAsg_ev, List.set_cons_zero, List.set_cons_succ, bindOk, bindEx, bindNo, toOk, toEx, toNo, if_true, if_false, ite_true, ite_false, Bool.false_eq_true, Bool.true_eq_false, eq_self, decide_true, decide_false, Bool.not_true, Bool.not_false, reduceIte, reduceCtorEq, add_int, sub_int, neg_int, lt_int, le_int, gt_int, ge_int, eq_int, ne_int, isN_ev, notN_ev, len_tup, int_int, int_bl, max2_ev, Nat.le_refl, gc_rt_same, gc_nx_same, gc_ex_same, line_small, Nat.reduceLeDiff, Nat.zero_le, e1, asgR, asg_two, e2, len_ref, h1.all, lenO_lst, tl, sl_ref, l1.q, slO_to, n7, all2, ix_taken mi2, take_eqI, e3, q']
theorem law_hand_okI (ns : List Int) : F_law_hand [.scr (ns.map D.int)] [] = .ok (.ref 1) [.lst (ns.map D.int), .lst [.ref 0, .int 0, .int 0, .int 1, .int 0]] := by
  have e : ∀ S : Sto, bList [.scr (ns.map D.int)] S = .ok (.ref S.length) (S ++ [.lst (ns.map D.int)]) := fun _ => rfl
  unfold F_law_hand
  simp only [fnOf_ev, List.length_cons, List.length_nil, Nat.zero_add, Nat.reduceAdd, Nat.reduceSub, List.map_cons, List.map_nil, List.cons_append, List.nil_append, List.append_nil, List.replicate_zero, List.replicate_succ, sSeq_ev, seq_nx, seq_rt, seq_bk, seq_ct, seq_ex, seq_no, eVar_z, eVar_s, eC_ev, aNil_ev, aCons_ev, consK_ev, consK2_ev, eOp_ev, opK_ev, eUn_ev, eTup_ev, eLst_ev, tupK_ev, lstK_ev, eB_ev, eIf_ev, iteK_ev, eAnd_ev, eOr_ev, andR_bl, orR_bl, eNot_ev, notR_bl, asB_bl, tB_ev, tAnd_ev, tAndK_ev, tOr_ev, tOrK_ev, tNot_ev, tNotK_ev, tYes_ev, eChain_ev, chainK_ev, chainK1_ev, chainK2_ev, chainK3_ev, eFld_ev, eSl_ev, slK_ev, slK1_ev, oNo_ev, oAt_ev, atR_int, sNil_ev, sSet_ev, setK_ev, sE_ev, dropK_ev, sRet_ev, retK_ev, sRetN_ev, sIf_ev, sIfK_ev, sRz_ev, sRx_ev, rxK_ev, sPut_ev, putK0_ev, putK1_ev, putK2_ev, putK3_ev, sAsg_ev, List.set_cons_zero, List.set_cons_succ, bindOk, bindEx, bindNo, toOk, toEx, toNo, if_true, if_false, ite_true, ite_false, Bool.false_eq_true, Bool.true_eq_false, eq_self, decide_true, decide_false, Bool.not_true, Bool.not_false, reduceIte, reduceCtorEq, add_int, sub_int, neg_int, lt_int, le_int, gt_int, ge_int, eq_int, ne_int, isN_ev, notN_ev, len_tup, int_int, int_bl, max2_ev, Nat.le_refl, gc_rt_same, gc_nx_same, gc_ex_same, line_small, Nat.reduceLeDiff, Nat.zero_le, e]
  exact gc_rt_new (by unfold D.under; simp)
theorem Dn.of {F : List Nat} {S : Sto} {g n t : Nat} {xs : List D} {kvs : List (DK × D)} (h : Sk F S g n xs kvs t) : Dn S 2 4 5 t g n xs kvs F :=
  ⟨h.lk.out, h.lk.inn, by decide, h.lk.gn, h.lk.nx, h.lk.kv, h.lk.free, h.lk.xl, by have := h.lk.kl; have := h.lk.xl; omega, h.lt⟩
theorem at3I {α : Type} {x y z u : α} {l : List α} : L2.atI (x :: y :: z :: u :: l) 3 = some u := atI_nat' (k := 3) (by simp)
theorem at4I {α : Type} {x y z u v : α} {l : List α} : L2.atI (x :: y :: z :: u :: v :: l) 4 = some v := atI_nat' (k := 4) (by simp)
theorem law_true : ∀ ns : List Int, ns.length ≤ 63 → ∃ S, F_law [.scr (ns.map D.int)] [] = .ok (.bl true) S := by
  intro ns hns
  have hand := law_hand_okI ns
  let S2 : Sto := [GO.lst (ns.map D.int), GO.lst [.ref 0, .int 0, .int 0, .int 1, .int 0]]
  have o1 : F_Outgoing___init__ [.ref 2] (S2 ++ [GO.ins "Outgoing" []]) = .ok .non (S2 ++ [OutO 0 3, GO.lst []]) := out_init (S := S2)
  have i1 : F_Incoming___init__ [.ref 4] (S2 ++ [OutO 0 3, GO.lst []] ++ [GO.ins "Incoming" []]) = .ok .non (S2 ++ [OutO 0 3, GO.lst []] ++ [InO 0 5, GO.dic false []]) := in_init (S := S2 ++ [OutO 0 3, GO.lst []])
  let S10 : Sto := [GO.lst (ns.map D.int), GO.lst [.ref 0, .int 0, .int 0, .int 1, .int 0], OutO 0 3, GO.lst [], InO 0 5, GO.dic false [], GO.lst [], GO.lst [], MO 0 9, GO.dic false []]
  have m1 : ∀ δ : Env, eDispA (kCons (eC (.str "taken")) (eC (.int 0)) (kCons (eC (.str "held")) (eDic0 false) kNil)) δ [GO.lst (ns.map D.int), GO.lst [.ref 0, .int 0, .int 0, .int 1, .int 0], OutO 0 3, GO.lst [], InO 0 5, GO.dic false [], GO.lst [], GO.lst []] = .ok (.ref 8) S10 := fun δ => mind_ok (S := [GO.lst (ns.map D.int), GO.lst [.ref 0, .int 0, .int 0, .int 1, .int 0], OutO 0 3, GO.lst [], InO 0 5, GO.dic false [], GO.lst [], GO.lst []]) (S' := [GO.dic false []]) (n := 0) (d := 9) (fun _ => rfl) rfl
  have sk : Sk (base ++ []) S10 0 0 [] [] 3 := by
    refine ⟨⟨⟨rfl, rfl, by decide⟩, ⟨rfl, rfl⟩, ⟨rfl, rfl, by decide⟩, rfl, Nat.le_refl _, Nat.le_refl _, Kv.nil, rfl, (fun _ m => by cases m), by decide, by decide⟩, ⟨by omega, ⟨_, rfl, 0, 0, 1, 0, by omega, rfl⟩, ns, rfl⟩, rfl, fun i m => List.mem_append_left _ m, fun f m => ?_⟩
    show f < 10
    simp only [base, List.append_nil, List.mem_cons, List.not_mem_nil, or_false] at m
    omega
  have sk11 : Sk (base ++ []) (S10 ++ [GO.lst [.int 5, .int 20, .int 60]]) 0 0 [] [] 3 := sk.same (by simp) fun i a => List.getElem?_append_left a
  obtain ⟨d, S12, md, e12, d12, _⟩ := pick_dr (a := 10) (l := [.int 5, .int 20, .int 60]) sk11.hd rfl (by decide) (by decide) (by decide)
  obtain ⟨N, rfl, hN⟩ : ∃ N : Nat, d = .int (N : Int) ∧ N ≤ 60 := by
    simp only [List.mem_cons, List.not_mem_nil, or_false] at md
    rcases md with rfl | rfl | rfl
    · exact ⟨5, rfl, by decide⟩
    · exact ⟨20, rfl, by decide⟩
    · exact ⟨60, rfl, by decide⟩
  have sk12 := sk11.dr d12
  obtain ⟨δ', S13, e13, g, n, xs, kvs, t, K, kp, x9, x10, x11, x12, rfl, h, hk, hb, _⟩ := loop_inv (lv := []) (t := .name 9) (b := turB) (TurI (.scr (ns.map D.int)))
    (xs := (List.range N).map fun (k : Nat) => D.int (k : Int)) (δ := [some (.scr (ns.map D.int)), some (.ref 1), some (.ref 2), some (.ref 4), some (.ref 6), some (.ref 7), some (.ref 8), some (.int 0), some .non, none, none, none, none]) (S := S12)
    ⟨0, 0, [], [], 3, [], .non, none, none, none, none, rfl, sk12, .inl rfl, (fun _ m => by cases m), by simpa using hN⟩
    (fun x xs δ S i => ⟨live_nil, turn_ok i⟩) (fun _ _ _ => live_nil)
  have xl := h.lk.xl
  have lt : ∀ i ∈ base, i < S13.length := fun i m => h.lt i (List.mem_append_left _ m)
  obtain ⟨S14, t4, e14, h14, len14, fr14⟩ := drained_ok (Dn.of h)
  have f14 : ∀ i, i < S13.length → i ≠ 2 → i ≠ 4 → i ≠ 5 → S14[i]? = S13[i]? := fr14
  have tk14 := taken_ok h14.inn
  have hd14 := held_ok (is := []) h14.inn (by simp) rfl
  have hs0 : (sortI []).map D.int = [] := by simp [sortI]
  unfold hsD at hd14
  rw [hs0] at hd14
  have q14 : S14[6]? = some (.lst xs) := by rw [f14 6 (lt 6 (by decide)) (by decide) (by decide) (by decide)]; exact h.lk.q
  have k14 : KeptP S14 kp K := hk.fr fun i m => f14 i (h.lt i (List.mem_append_right _ m)) (fun z => hb i m (by rw [z]; decide)) (fun z => hb i m (by rw [z]; decide)) (fun z => hb i m (by rw [z]; decide))
  have net : ∀ S : Sto, opNe (.tup []) (.tup []) S = .ok (.bl false) S := fun S => ne_pl (k := 1) (d := .tup []) ⟨by simp, fun _ m => by cases m⟩ (by decide)
  have fin : ∀ (S15 : Sto) (t5 : Nat), Out S15 2 xs.length [] [] t5 → ∃ S, gcR [] (sSeq (sSet 12 (eMeth "Outgoing" "waiting" F_Outgoing_waiting (eVar 2) aNil))
    (sSeq (sE (eBMT "list" mAppend (eVar 12) (aCons (eTup (aCons (eC (.int 0)) (aCons (eTup aNil) aNil))) aNil)))
    (sRet (eAnd (eOp opEq (eMeth "Outgoing" "waiting" F_Outgoing_waiting (eVar 2) aNil) (eLst aNil)) (eB (F_law_same 24) (aCons (eMeth "Outgoing" "known" F_Outgoing_known (eVar 2) (aCons (eC (.int 0)) aNil)) (aCons (eC (.int 0)) aNil))))))
      [some (.scr (ns.map D.int)), some (.ref 1), some (.ref 2), some (.ref 4), some (.ref 6), some (.ref 7), some (.ref 8), some (.int (g : Nat)), some kp, x9, x10, x11, x12] S15) = .ok (.bl true) S := by
    intro S15 t5 ho
    have w1 := waiting_ok ho (by omega)
    have ed : enD (xs.length : Int) [] = [] := rfl
    rw [ed] at w1
    have ol : (2 : Nat) < S15.length := (List.getElem?_eq_some_iff.mp ho.at_).1
    have tl : t5 < S15.length := (List.getElem?_eq_some_iff.mp ho.lst).1
    have o2 : Out (S15 ++ [GO.lst [.tup [.int 0, .tup []]]]) 2 xs.length [] [] t5 := ⟨app_at ho.at_, app_at ho.lst, by simp⟩
    have w2 := waiting_ok o2 (by omega)
    rw [ed] at w2
    have o3 : Out (S15 ++ [GO.lst [.tup [.int 0, .tup []]]] ++ [GO.lst []] ++ [GO.lst []]) 2 xs.length [] [] t5 := ⟨app_at (app_at o2.at_), app_at (app_at o2.lst), by simp⟩
    obtain ⟨k3, _⟩ := known_ok o3 (fun f m => by cases m) (n := 0) (Nat.zero_le _)
    have z : ((0 - xs.length : Nat) : Int) = 0 := by omega
    have k3' : F_Outgoing_known [.ref 2, .int 0] (S15 ++ [GO.lst [.tup [.int 0, .tup []]]] ++ [GO.lst []] ++ [GO.lst []]) = .ok (.int ((0 - xs.length : Nat) : Int)) _ := k3
    rw [z] at k3'
    have eqn := eq_nils (S := S15 ++ [GO.lst [.tup [.int 0, .tup []]]] ++ [GO.lst []] ++ [GO.lst []]) (a := (S15 ++ [GO.lst [.tup [.int 0, .tup []]]]).length) (b := (S15 ++ [GO.lst [.tup [.int 0, .tup []]]] ++ [GO.lst []]).length) (app_at last_at) last_at
    simp only [fnOf_ev, List.length_cons, List.length_nil, Nat.zero_add, Nat.reduceAdd, Nat.reduceSub, List.map_cons, List.map_nil, List.cons_append, List.nil_append, List.append_nil, List.replicate_zero, List.replicate_succ, sSeq_ev, seq_nx, seq_rt, seq_bk, seq_ct, seq_ex, seq_no, eVar_z, eVar_s, eC_ev, aNil_ev, aCons_ev, consK_ev, consK2_ev, eOp_ev, opK_ev, eUn_ev, eTup_ev, eLst_ev, tupK_ev, lstK_ev, eB_ev, eIf_ev, iteK_ev, eAnd_ev, eOr_ev, andR_bl, orR_bl, eNot_ev, notR_bl, asB_bl, tB_ev, tAnd_ev, tAndK_ev, tOr_ev, tOrK_ev, tNot_ev, tNotK_ev, tYes_ev, eChain_ev, chainK_ev, chainK1_ev, chainK2_ev, chainK3_ev, eFld_ev, eSl_ev, slK_ev, slK1_ev, oNo_ev, oAt_ev, atR_int, sNil_ev, sSet_ev, setK_ev, sE_ev, dropK_ev, sRet_ev, retK_ev, sRetN_ev, sIf_ev, sIfK_ev, sRz_ev, sRx_ev, rxK_ev, sPut_ev, putK0_ev, putK1_ev, putK2_ev, putK3_ev, sAsg_ev, List.set_cons_zero, List.set_cons_succ, bindOk, bindEx, bindNo, toOk, toEx, toNo, if_true, if_false, ite_true, ite_false, Bool.false_eq_true, Bool.true_eq_false, eq_self, decide_true, decide_false, Bool.not_true, Bool.not_false, reduceIte, reduceCtorEq, add_int, sub_int, neg_int, lt_int, le_int, gt_int, ge_int, eq_int, ne_int, isN_ev, notN_ev, len_tup, int_int, int_bl, max2_ev, Nat.le_refl, gc_rt_same, gc_nx_same, gc_ex_same, line_small, Nat.reduceLeDiff, Nat.zero_le, eMeth_ev, methK_ref, ho.at_, OutO, methO_ins (C := "Outgoing") (m := "waiting") (fn := F_Outgoing_waiting) (fs := [("let_go", .int xs.length), ("things", .ref t5)]) rfl, methA_ev, w1, eBMT_ev, bmtK_lst, last_at, lstGo_lst, append_ref, apO_lst (l := []) (eq_true (show (0 : Nat) < 16777216 by decide)), lst_last, o2.at_, w2, eqn, o3.at_, methO_ins (C := "Outgoing") (m := "known") (fn := F_Outgoing_known) (fs := [("let_go", .int xs.length), ("things", .ref t5)]) rfl, k3', same_int]
    rw [gcR_rt]
    split <;> exact ⟨_, rfl⟩
  have out14 : Out S14 2 xs.length [] [] t4 := ⟨h14.out.at_, by have := h14.out.lst; rwa [List.drop_length] at this, by simp⟩
  unfold turB keepB at e13
  have eo : ∀ δ : Env, eMake "Outgoing" F_Outgoing___init__ aNil δ [GO.lst (ns.map D.int), GO.lst [.ref 0, .int 0, .int 0, .int 1, .int 0]] = .ok (.ref 2) [GO.lst (ns.map D.int), GO.lst [.ref 0, .int 0, .int 0, .int 1, .int 0], OutO 0 3, GO.lst []] := fun δ => by
    simp only [fnOf_ev, List.length_cons, List.length_nil, Nat.zero_add, Nat.reduceAdd, Nat.reduceSub, List.map_cons, List.map_nil, List.cons_append, List.nil_append, List.append_nil, List.replicate_zero, List.replicate_succ, sSeq_ev, seq_nx, seq_rt, seq_bk, seq_ct, seq_ex, seq_no, eVar_z, eVar_s, eC_ev, aNil_ev, aCons_ev, consK_ev, consK2_ev, eOp_ev, opK_ev, eUn_ev, eTup_ev, eLst_ev, tupK_ev, lstK_ev, eB_ev, eIf_ev, iteK_ev, eAnd_ev, eOr_ev, andR_bl, orR_bl, eNot_ev, notR_bl, asB_bl, tB_ev, tAnd_ev, tAndK_ev, tOr_ev, tOrK_ev, tNot_ev, tNotK_ev, tYes_ev, eChain_ev, chainK_ev, chainK1_ev, chainK2_ev, chainK3_ev, eFld_ev, eSl_ev, slK_ev, slK1_ev, oNo_ev, oAt_ev, atR_int, sNil_ev, sSet_ev, setK_ev, sE_ev, dropK_ev, sRet_ev, retK_ev, sRetN_ev, sIf_ev, sIfK_ev, sRz_ev, sRx_ev, rxK_ev, sPut_ev, putK0_ev, putK1_ev, putK2_ev, putK3_ev, sAsg_ev, List.set_cons_zero, List.set_cons_succ, bindOk, bindEx, bindNo, toOk, toEx, toNo, if_true, if_false, ite_true, ite_false, Bool.false_eq_true, Bool.true_eq_false, eq_self, decide_true, decide_false, Bool.not_true, Bool.not_false, reduceIte, reduceCtorEq, add_int, sub_int, neg_int, lt_int, le_int, gt_int, ge_int, eq_int, ne_int, isN_ev, notN_ev, len_tup, int_int, int_bl, max2_ev, Nat.le_refl, gc_rt_same, gc_nx_same, gc_ex_same, line_small, Nat.reduceLeDiff, Nat.zero_le, eMake_ev, makeK_ev]
    exact (congrArg (fun r => R.bind r (makeK2 2)) o1).trans rfl
  have ei : ∀ δ : Env, eMake "Incoming" F_Incoming___init__ aNil δ [GO.lst (ns.map D.int), GO.lst [.ref 0, .int 0, .int 0, .int 1, .int 0], OutO 0 3, GO.lst []] = .ok (.ref 4) [GO.lst (ns.map D.int), GO.lst [.ref 0, .int 0, .int 0, .int 1, .int 0], OutO 0 3, GO.lst [], InO 0 5, GO.dic false []] := fun δ => by
    simp only [fnOf_ev, List.length_cons, List.length_nil, Nat.zero_add, Nat.reduceAdd, Nat.reduceSub, List.map_cons, List.map_nil, List.cons_append, List.nil_append, List.append_nil, List.replicate_zero, List.replicate_succ, sSeq_ev, seq_nx, seq_rt, seq_bk, seq_ct, seq_ex, seq_no, eVar_z, eVar_s, eC_ev, aNil_ev, aCons_ev, consK_ev, consK2_ev, eOp_ev, opK_ev, eUn_ev, eTup_ev, eLst_ev, tupK_ev, lstK_ev, eB_ev, eIf_ev, iteK_ev, eAnd_ev, eOr_ev, andR_bl, orR_bl, eNot_ev, notR_bl, asB_bl, tB_ev, tAnd_ev, tAndK_ev, tOr_ev, tOrK_ev, tNot_ev, tNotK_ev, tYes_ev, eChain_ev, chainK_ev, chainK1_ev, chainK2_ev, chainK3_ev, eFld_ev, eSl_ev, slK_ev, slK1_ev, oNo_ev, oAt_ev, atR_int, sNil_ev, sSet_ev, setK_ev, sE_ev, dropK_ev, sRet_ev, retK_ev, sRetN_ev, sIf_ev, sIfK_ev, sRz_ev, sRx_ev, rxK_ev, sPut_ev, putK0_ev, putK1_ev, putK2_ev, putK3_ev, sAsg_ev, List.set_cons_zero, List.set_cons_succ, bindOk, bindEx, bindNo, toOk, toEx, toNo, if_true, if_false, ite_true, ite_false, Bool.false_eq_true, Bool.true_eq_false, eq_self, decide_true, decide_false, Bool.not_true, Bool.not_false, reduceIte, reduceCtorEq, add_int, sub_int, neg_int, lt_int, le_int, gt_int, ge_int, eq_int, ne_int, isN_ev, notN_ev, len_tup, int_int, int_bl, max2_ev, Nat.le_refl, gc_rt_same, gc_nx_same, gc_ex_same, line_small, Nat.reduceLeDiff, Nat.zero_le, eMake_ev, makeK_ev]
    exact (congrArg (fun r => R.bind r (makeK2 4)) i1).trans rfl
  have l10 : S10.length = 10 := rfl
  clear_value S10
  unfold F_law
  simp only [fnOf_ev, List.length_cons, List.length_nil, Nat.zero_add, Nat.reduceAdd, Nat.reduceSub, List.map_cons, List.map_nil, List.cons_append, List.nil_append, List.append_nil, List.replicate_zero, List.replicate_succ, sSeq_ev, seq_nx, seq_rt, seq_bk, seq_ct, seq_ex, seq_no, eVar_z, eVar_s, eC_ev, aNil_ev, aCons_ev, consK_ev, consK2_ev, eOp_ev, opK_ev, eUn_ev, eTup_ev, eLst_ev, tupK_ev, lstK_ev, eB_ev, eIf_ev, iteK_ev, eAnd_ev, eOr_ev, andR_bl, orR_bl, eNot_ev, notR_bl, asB_bl, tB_ev, tAnd_ev, tAndK_ev, tOr_ev, tOrK_ev, tNot_ev, tNotK_ev, tYes_ev, eChain_ev, chainK_ev, chainK1_ev, chainK2_ev, chainK3_ev, eFld_ev, eSl_ev, slK_ev, slK1_ev, oNo_ev, oAt_ev, atR_int, sNil_ev, sSet_ev, setK_ev, sE_ev, dropK_ev, sRet_ev, retK_ev, sRetN_ev, sIf_ev, sIfK_ev, sRz_ev, sRx_ev, rxK_ev, sPut_ev, putK0_ev, putK1_ev, putK2_ev, putK3_ev, sAsg_ev, List.set_cons_zero, List.set_cons_succ, bindOk, bindEx, bindNo, toOk, toEx, toNo, if_true, if_false, ite_true, ite_false, Bool.false_eq_true, Bool.true_eq_false, eq_self, decide_true, decide_false, Bool.not_true, Bool.not_false, reduceIte, reduceCtorEq, add_int, sub_int, neg_int, lt_int, le_int, gt_int, ge_int, eq_int, ne_int, isN_ev, notN_ev, len_tup, int_int, int_bl, max2_ev, Nat.le_refl, gc_rt_same, gc_nx_same, gc_ex_same, line_small, Nat.reduceLeDiff, Nat.zero_le, hand, eo, ei, m1, sFor_ev]
  rw [rng1 (n := N) (S1 := S12) (by simp only [fnOf_ev, List.length_cons, List.length_nil, Nat.zero_add, Nat.reduceAdd, Nat.reduceSub, List.map_cons, List.map_nil, List.cons_append, List.nil_append, List.append_nil, List.replicate_zero, List.replicate_succ, sSeq_ev, seq_nx, seq_rt, seq_bk, seq_ct, seq_ex, seq_no, eVar_z, eVar_s, eC_ev, aNil_ev, aCons_ev, consK_ev, consK2_ev, eOp_ev, opK_ev, eUn_ev, eTup_ev, eLst_ev, tupK_ev, lstK_ev, eB_ev, eIf_ev, iteK_ev, eAnd_ev, eOr_ev, andR_bl, orR_bl, eNot_ev, notR_bl, asB_bl, tB_ev, tAnd_ev, tAndK_ev, tOr_ev, tOrK_ev, tNot_ev, tNotK_ev, tYes_ev, eChain_ev, chainK_ev, chainK1_ev, chainK2_ev, chainK3_ev, eFld_ev, eSl_ev, slK_ev, slK1_ev, oNo_ev, oAt_ev, atR_int, sNil_ev, sSet_ev, setK_ev, sE_ev, dropK_ev, sRet_ev, retK_ev, sRetN_ev, sIf_ev, sIfK_ev, sRz_ev, sRx_ev, rxK_ev, sPut_ev, putK0_ev, putK1_ev, putK2_ev, putK3_ev, sAsg_ev, List.set_cons_zero, List.set_cons_succ, bindOk, bindEx, bindNo, toOk, toEx, toNo, if_true, if_false, ite_true, ite_false, Bool.false_eq_true, Bool.true_eq_false, eq_self, decide_true, decide_false, Bool.not_true, Bool.not_false, reduceIte, reduceCtorEq, add_int, sub_int, neg_int, lt_int, le_int, gt_int, ge_int, eq_int, ne_int, isN_ev, notN_ev, len_tup, int_int, int_bl, max2_ev, Nat.le_refl, gc_rt_same, gc_nx_same, gc_ex_same, line_small, Nat.reduceLeDiff, Nat.zero_le, pick_eqI, l10, e12]) (by omega)]
  simp only [fnOf_ev, List.length_cons, List.length_nil, Nat.zero_add, Nat.reduceAdd, Nat.reduceSub, List.map_cons, List.map_nil, List.cons_append, List.nil_append, List.append_nil, List.replicate_zero, List.replicate_succ, sSeq_ev, seq_nx, seq_rt, seq_bk, seq_ct, seq_ex, seq_no, eVar_z, eVar_s, eC_ev, aNil_ev, aCons_ev, consK_ev, consK2_ev, eOp_ev, opK_ev, eUn_ev, eTup_ev, eLst_ev, tupK_ev, lstK_ev, eB_ev, eIf_ev, iteK_ev, eAnd_ev, eOr_ev, andR_bl, orR_bl, eNot_ev, notR_bl, asB_bl, tB_ev, tAnd_ev, tAndK_ev, tOr_ev, tOrK_ev, tNot_ev, tNotK_ev, tYes_ev, eChain_ev, chainK_ev, chainK1_ev, chainK2_ev, chainK3_ev, eFld_ev, eSl_ev, slK_ev, slK1_ev, oNo_ev, oAt_ev, atR_int, sNil_ev, sSet_ev, setK_ev, sE_ev, dropK_ev, sRet_ev, retK_ev, sRetN_ev, sIf_ev, sIfK_ev, sRz_ev, sRx_ev, rxK_ev, sPut_ev, putK0_ev, putK1_ev, putK2_ev, putK3_ev, sAsg_ev, List.set_cons_zero, List.set_cons_succ, bindOk, bindEx, bindNo, toOk, toEx, toNo, if_true, if_false, ite_true, ite_false, Bool.false_eq_true, Bool.true_eq_false, eq_self, decide_true, decide_false, Bool.not_true, Bool.not_false, reduceIte, reduceCtorEq, add_int, sub_int, neg_int, lt_int, le_int, gt_int, ge_int, eq_int, ne_int, isN_ev, notN_ev, len_tup, int_int, int_bl, max2_ev, Nat.le_refl, gc_rt_same, gc_nx_same, gc_ex_same, line_small, Nat.reduceLeDiff, Nat.zero_le, forK_ev]
  rw [e13]
  simp only [fnOf_ev, List.length_cons, List.length_nil, Nat.zero_add, Nat.reduceAdd, Nat.reduceSub, List.map_cons, List.map_nil, List.cons_append, List.nil_append, List.append_nil, List.replicate_zero, List.replicate_succ, sSeq_ev, seq_nx, seq_rt, seq_bk, seq_ct, seq_ex, seq_no, eVar_z, eVar_s, eC_ev, aNil_ev, aCons_ev, consK_ev, consK2_ev, eOp_ev, opK_ev, eUn_ev, eTup_ev, eLst_ev, tupK_ev, lstK_ev, eB_ev, eIf_ev, iteK_ev, eAnd_ev, eOr_ev, andR_bl, orR_bl, eNot_ev, notR_bl, asB_bl, tB_ev, tAnd_ev, tAndK_ev, tOr_ev, tOrK_ev, tNot_ev, tNotK_ev, tYes_ev, eChain_ev, chainK_ev, chainK1_ev, chainK2_ev, chainK3_ev, eFld_ev, eSl_ev, slK_ev, slK1_ev, oNo_ev, oAt_ev, atR_int, sNil_ev, sSet_ev, setK_ev, sE_ev, dropK_ev, sRet_ev, retK_ev, sRetN_ev, sIf_ev, sIfK_ev, sRz_ev, sRx_ev, rxK_ev, sPut_ev, putK0_ev, putK1_ev, putK2_ev, putK3_ev, sAsg_ev, List.set_cons_zero, List.set_cons_succ, bindOk, bindEx, bindNo, toOk, toEx, toNo, if_true, if_false, ite_true, ite_false, Bool.false_eq_true, Bool.true_eq_false, eq_self, decide_true, decide_false, Bool.not_true, Bool.not_false, reduceIte, reduceCtorEq, add_int, sub_int, neg_int, lt_int, le_int, gt_int, ge_int, eq_int, ne_int, isN_ev, notN_ev, len_tup, int_int, int_bl, max2_ev, Nat.le_refl, gc_rt_same, gc_nx_same, gc_ex_same, line_small, Nat.reduceLeDiff, Nat.zero_le, len_ref, h.lk.q, lenO_lst, e14, eMeth_ev, methK_ref, h14.inn.at_, InO, methO_ins (C := "Incoming") (m := "taken") (fn := F_Incoming_taken) (fs := [("due", .int xs.length), ("early", .ref 5)]) rfl, methA_ev, tk14, q14, methO_ins (C := "Incoming") (m := "held") (fn := F_Incoming_held) (fs := [("due", .int xs.length), ("early", .ref 5)]) rfl, hd14, net]
  rcases k14 with rfl | ⟨o', e', q', m', d', d2', t', g', n', xs', kvs', rfl, l', oe', hK⟩
  · simp only [fnOf_ev, List.length_cons, List.length_nil, Nat.zero_add, Nat.reduceAdd, Nat.reduceSub, List.map_cons, List.map_nil, List.cons_append, List.nil_append, List.append_nil, List.replicate_zero, List.replicate_succ, sSeq_ev, seq_nx, seq_rt, seq_bk, seq_ct, seq_ex, seq_no, eVar_z, eVar_s, eC_ev, aNil_ev, aCons_ev, consK_ev, consK2_ev, eOp_ev, opK_ev, eUn_ev, eTup_ev, eLst_ev, tupK_ev, lstK_ev, eB_ev, eIf_ev, iteK_ev, eAnd_ev, eOr_ev, andR_bl, orR_bl, eNot_ev, notR_bl, asB_bl, tB_ev, tAnd_ev, tAndK_ev, tOr_ev, tOrK_ev, tNot_ev, tNotK_ev, tYes_ev, eChain_ev, chainK_ev, chainK1_ev, chainK2_ev, chainK3_ev, eFld_ev, eSl_ev, slK_ev, slK1_ev, oNo_ev, oAt_ev, atR_int, sNil_ev, sSet_ev, setK_ev, sE_ev, dropK_ev, sRet_ev, retK_ev, sRetN_ev, sIf_ev, sIfK_ev, sRz_ev, sRx_ev, rxK_ev, sPut_ev, putK0_ev, putK1_ev, putK2_ev, putK3_ev, sAsg_ev, List.set_cons_zero, List.set_cons_succ, bindOk, bindEx, bindNo, toOk, toEx, toNo, if_true, if_false, ite_true, ite_false, Bool.false_eq_true, Bool.true_eq_false, eq_self, decide_true, decide_false, Bool.not_true, Bool.not_false, reduceIte, reduceCtorEq, add_int, sub_int, neg_int, lt_int, le_int, gt_int, ge_int, eq_int, ne_int, isN_ev, notN_ev, len_tup, int_int, int_bl, max2_ev, Nat.le_refl, gc_rt_same, gc_nx_same, gc_ex_same, line_small, Nat.reduceLeDiff, Nat.zero_le, isNone]
    exact fin S14 t4 out14
  · have ne' : ∀ i ∈ [o', e', q', m', d', d2', t'], i ≠ 2 := fun i hi z => hb i (hK i hi) (by rw [z]; decide)
    have er := ends_ok l'
    have dn' : Dn S14 o' e' d' t' g' n' xs' kvs' [] := ⟨l'.out, l'.inn, oe', l'.gn, l'.nx, l'.kv, l'.free, l'.xl, by have := l'.kl; have := l'.xl; omega, fun _ m => by cases m⟩
    obtain ⟨S15, t5, e15, h15, len15, fr15⟩ := drained_ok dn'
    have lt14 : ∀ i u, S14[i]? = some u → i < S14.length := fun i u e => (List.getElem?_eq_some_iff.mp e).1
    have t4o : t4 ≠ o' := fun z => by have a := out14.lst; rw [z, l'.out.at_] at a; cases a
    have t4e : t4 ≠ e' := fun z => by have a := out14.lst; rw [z, l'.inn.at_] at a; cases a
    have t4d : t4 ≠ d' := fun z => by have a := out14.lst; rw [z, l'.inn.dic] at a; cases a
    have out15 : Out S15 2 xs.length [] [] t4 := ⟨by rw [fr15 2 (lt14 _ _ out14.at_) (Ne.symm (ne' o' (by simp))) (Ne.symm (ne' e' (by simp))) (Ne.symm (ne' d' (by simp)))]; exact out14.at_, by rw [fr15 t4 (lt14 _ _ out14.lst) t4o t4e t4d]; exact out14.lst, by simp⟩
    simp only [fnOf_ev, List.length_cons, List.length_nil, Nat.zero_add, Nat.reduceAdd, Nat.reduceSub, List.map_cons, List.map_nil, List.cons_append, List.nil_append, List.append_nil, List.replicate_zero, List.replicate_succ, sSeq_ev, seq_nx, seq_rt, seq_bk, seq_ct, seq_ex, seq_no, eVar_z, eVar_s, eC_ev, aNil_ev, aCons_ev, consK_ev, consK2_ev, eOp_ev, opK_ev, eUn_ev, eTup_ev, eLst_ev, tupK_ev, lstK_ev, eB_ev, eIf_ev, iteK_ev, eAnd_ev, eOr_ev, andR_bl, orR_bl, eNot_ev, notR_bl, asB_bl, tB_ev, tAnd_ev, tAndK_ev, tOr_ev, tOrK_ev, tNot_ev, tNotK_ev, tYes_ev, eChain_ev, chainK_ev, chainK1_ev, chainK2_ev, chainK3_ev, eFld_ev, eSl_ev, slK_ev, slK1_ev, oNo_ev, oAt_ev, atR_int, sNil_ev, sSet_ev, setK_ev, sE_ev, dropK_ev, sRet_ev, retK_ev, sRetN_ev, sIf_ev, sIfK_ev, sRz_ev, sRx_ev, rxK_ev, sPut_ev, putK0_ev, putK1_ev, putK2_ev, putK3_ev, sAsg_ev, List.set_cons_zero, List.set_cons_succ, bindOk, bindEx, bindNo, toOk, toEx, toNo, if_true, if_false, ite_true, ite_false, Bool.false_eq_true, Bool.true_eq_false, eq_self, decide_true, decide_false, Bool.not_true, Bool.not_false, reduceIte, reduceCtorEq, add_int, sub_int, neg_int, lt_int, le_int, gt_int, ge_int, eq_int, ne_int, isN_ev, notN_ev, len_tup, int_int, int_bl, max2_ev, Nat.le_refl, gc_rt_same, gc_nx_same, gc_ex_same, line_small, Nat.reduceLeDiff, Nat.zero_le, isNone, ix_tup at0, ix_tup at1, ix_tup at2, ix_tup at3I, ix_tup at4I, er, len_ref, l'.q, lenO_lst, e15]
    exact fin S15 t4 out15
end KF
set_option Elab.async false
set_option linter.all false
set_option maxRecDepth 100000
set_option maxHeartbeats 4000000
namespace KF
open PySem PySem.Spec PyProof.Rows L2 KQ
local macro_rules | `(tactic| trivial) => `(tactic| first | decide | exact Nat.le_refl _ | exact Nat.le_trans (by decide) (Nat.le_add_right _ _) | omega)
def top (i : Nat) : Stmt := PySem.Challenge.pw_knownquiet_k07_whole_links_take_each_thi.main.body.getD i (.Pass ⟨0, 0, 0, 0⟩)
abbrev s_is_number : Stmt := top 4
theorem sc_is_number : FnScope ["thing"] ["thing"] (defScope s_is_number) := ⟨rfl, rfl, rfl, by decide +kernel, rfl, by decide +kernel, by decide +kernel⟩
abbrev s_is_below : Stmt := top 5
theorem sc_is_below : FnScope ["bound", "thing"] ["bound", "thing"] (defScope s_is_below) := ⟨rfl, rfl, rfl, by decide +kernel, rfl, by decide +kernel, by decide +kernel⟩
abbrev s_Outgoing___init__ : Stmt := inClass (top 9) 0
theorem sc_Outgoing___init__ : FnScope ["self"] ["self"] (defScope s_Outgoing___init__) := ⟨rfl, rfl, rfl, by decide +kernel, rfl, by decide +kernel, by decide +kernel⟩
abbrev s_Outgoing_many_put : Stmt := inClass (top 9) 4
theorem sc_Outgoing_many_put : FnScope ["self"] ["self"] (defScope s_Outgoing_many_put) := ⟨rfl, rfl, rfl, by decide +kernel, rfl, by decide +kernel, by decide +kernel⟩
abbrev s_Outgoing_put : Stmt := inClass (top 9) 1
theorem sc_Outgoing_put : FnScope ["self", "thing"] ["self", "thing"] (defScope s_Outgoing_put) := ⟨rfl, rfl, rfl, by decide +kernel, rfl, by decide +kernel, by decide +kernel⟩
abbrev s_Outgoing_known : Stmt := inClass (top 9) 2
theorem sc_Outgoing_known : FnScope ["self", "number", "many"] ["self", "number"] (defScope s_Outgoing_known) := ⟨rfl, rfl, rfl, by decide +kernel, rfl, by decide +kernel, by decide +kernel⟩
abbrev s_Outgoing_waiting : Stmt := inClass (top 9) 3
theorem sc_Outgoing_waiting : FnScope ["self"] ["self"] (defScope s_Outgoing_waiting) := ⟨rfl, rfl, rfl, by decide +kernel, rfl, by decide +kernel, by decide +kernel⟩
abbrev s_Outgoing_state : Stmt := inClass (top 9) 5
abbrev s_outgoing_with : Stmt := top 10
theorem sc_outgoing_with : FnScope ["let_go", "things", "end"] ["let_go", "things"] (defScope s_outgoing_with) := ⟨rfl, rfl, rfl, by decide +kernel, rfl, by decide +kernel, by decide +kernel⟩
abbrev s_Outgoing_copy : Stmt := inClass (top 9) 6
theorem sc_Outgoing_copy : FnScope ["self"] ["self"] (defScope s_Outgoing_copy) := ⟨rfl, rfl, rfl, by decide +kernel, rfl, by decide +kernel, by decide +kernel⟩
abbrev s_Incoming___init__ : Stmt := inClass (top 11) 0
theorem sc_Incoming___init__ : FnScope ["self"] ["self"] (defScope s_Incoming___init__) := ⟨rfl, rfl, rfl, by decide +kernel, rfl, by decide +kernel, by decide +kernel⟩
abbrev s_Incoming_take : Stmt := inClass (top 11) 1
theorem sc_Incoming_take : FnScope ["self", "number", "thing", "things"] ["self", "number", "thing"] (defScope s_Incoming_take) := ⟨rfl, rfl, rfl, by decide +kernel, rfl, by decide +kernel, by decide +kernel⟩
abbrev s_Incoming_taken : Stmt := inClass (top 11) 2
theorem sc_Incoming_taken : FnScope ["self"] ["self"] (defScope s_Incoming_taken) := ⟨rfl, rfl, rfl, by decide +kernel, rfl, by decide +kernel, by decide +kernel⟩
abbrev s_Incoming_held : Stmt := inClass (top 11) 3
theorem sc_Incoming_held : FnScope ["self"] ["self"] (defScope s_Incoming_held) := ⟨rfl, rfl, rfl, by decide +kernel, rfl, by decide +kernel, by decide +kernel⟩
abbrev s_Incoming_state : Stmt := inClass (top 11) 4
abbrev s_incoming_with : Stmt := top 12
theorem sc_incoming_with : FnScope ["due", "early", "end"] ["due", "early"] (defScope s_incoming_with) := ⟨rfl, rfl, rfl, by decide +kernel, rfl, by decide +kernel, by decide +kernel⟩
abbrev s_Incoming_copy : Stmt := inClass (top 11) 5
theorem sc_Incoming_copy : FnScope ["self"] ["self"] (defScope s_Incoming_copy) := ⟨rfl, rfl, rfl, by decide +kernel, rfl, by decide +kernel, by decide +kernel⟩
abbrev s_law_hand : Stmt := top 14
theorem sc_law_hand : FnScope ["script"] ["script"] (defScope s_law_hand) := ⟨rfl, rfl, rfl, by decide +kernel, rfl, by decide +kernel, by decide +kernel⟩
abbrev s_law_take : Stmt := top 15
theorem sc_law_take : FnScope ["hand", "many", "cell", "found", "number"] ["hand", "many"] (defScope s_law_take) := ⟨rfl, rfl, rfl, by decide +kernel, rfl, by decide +kernel, by decide +kernel⟩
abbrev s_law_pick : Stmt := top 16
theorem sc_law_pick : FnScope ["hand", "things"] ["hand", "things"] (defScope s_law_pick) := ⟨rfl, rfl, rfl, by decide +kernel, rfl, by decide +kernel, by decide +kernel⟩
abbrev s_law_is_integer : Stmt := top 17
theorem sc_law_is_integer : FnScope ["thing"] ["thing"] (defScope s_law_is_integer) := ⟨rfl, rfl, rfl, by decide +kernel, rfl, by decide +kernel, by decide +kernel⟩
abbrev s_law_same : Stmt := top 18
theorem sc_law_same : FnScope ["actual", "due", "one", "other"] ["actual", "due"] (defScope s_law_same) := ⟨rfl, rfl, rfl, by decide +kernel, rfl, by decide +kernel, by decide +kernel⟩
abbrev s_law_item : Stmt := top 19
theorem sc_law_item : FnScope ["hand", "deep", "way", "k"] ["hand", "deep"] (defScope s_law_item) := ⟨rfl, rfl, rfl, by decide +kernel, rfl, by decide +kernel, by decide +kernel⟩
abbrev s_law_thing : Stmt := top 20
theorem sc_law_thing : FnScope ["hand", "k"] ["hand"] (defScope s_law_thing) := ⟨rfl, rfl, rfl, by decide +kernel, rfl, by decide +kernel, by decide +kernel⟩
abbrev s_law_heard : Stmt := top 21
theorem sc_law_heard : FnScope ["mind", "number", "thing", "held", "found", "k"] ["mind", "number", "thing"] (defScope s_law_heard) := ⟨rfl, rfl, rfl, by decide +kernel, rfl, by decide +kernel, by decide +kernel⟩
abbrev s_law_ends_right : Stmt := top 22
theorem sc_law_ends_right : FnScope ["out", "end", "things", "gone", "mind", "waiting", "k"] ["out", "end", "things", "gone", "mind"] (defScope s_law_ends_right) := ⟨rfl, rfl, rfl, by decide +kernel, rfl, by decide +kernel, by decide +kernel⟩
abbrev s_law_deed : Stmt := top 23
theorem sc_law_deed : FnScope ["hand", "out", "end", "things", "gone", "mind", "all_taken", "way", "number", "some", "due"] ["hand", "out", "end", "things", "gone", "mind", "all_taken"] (defScope s_law_deed) := ⟨rfl, rfl, rfl, by decide +kernel, rfl, by decide +kernel, by decide +kernel⟩
abbrev s_law_drained : Stmt := top 24
theorem sc_law_drained : FnScope ["out", "end", "many", "k", "number", "thing"] ["out", "end", "many"] (defScope s_law_drained) := ⟨rfl, rfl, rfl, by decide +kernel, rfl, by decide +kernel, by decide +kernel⟩
abbrev s_law : Stmt := top 25
theorem sc_law : FnScope ["script", "hand", "out", "end", "things", "all_taken", "mind", "gone", "kept", "k", "right", "far", "told"] ["script"] (defScope s_law) := ⟨rfl, rfl, rfl, by decide +kernel, rfl, by decide +kernel, by decide +kernel⟩
structure Fx (P : Program) (w : World) (K : PySem.W.Frag) (mg : Str → Option Value) (base : Heap) : Prop where
  b_bool : mg "bool" = none
  b_dict : mg "dict" = none
  b_enumerate : mg "enumerate" = none
  b_int : mg "int" = none
  b_isinstance : mg "isinstance" = none
  b_len : mg "len" = none
  b_list : mg "list" = none
  b_max : mg "max" = none
  b_range : mg "range" = none
  b_sorted : mg "sorted" = none
  b_str : mg "str" = none
  b_tuple : mg "tuple" = none
  b_zip : mg "zip" = none
  x_NoNumber : XA K mg "NoNumber"
  f_is_number : FunAt K mg "is_number" s_is_number
  f_is_below : FunAt K mg "is_below" s_is_below
  f_Outgoing___init__ : IA K mg "Outgoing" "Outgoing.__init__" s_Outgoing___init__
  f_Outgoing_many_put : MA K mg "Outgoing" "many_put" "Outgoing.many_put" s_Outgoing_many_put
  f_Outgoing_put : MA K mg "Outgoing" "put" "Outgoing.put" s_Outgoing_put
  f_Outgoing_known : MA K mg "Outgoing" "known" "Outgoing.known" s_Outgoing_known
  f_Outgoing_waiting : MA K mg "Outgoing" "waiting" "Outgoing.waiting" s_Outgoing_waiting
  f_Outgoing_state : MA K mg "Outgoing" "state" "Outgoing.state" s_Outgoing_state
  f_outgoing_with : FunAt K mg "outgoing_with" s_outgoing_with
  f_Outgoing_copy : MA K mg "Outgoing" "copy" "Outgoing.copy" s_Outgoing_copy
  f_Incoming___init__ : IA K mg "Incoming" "Incoming.__init__" s_Incoming___init__
  f_Incoming_take : MA K mg "Incoming" "take" "Incoming.take" s_Incoming_take
  f_Incoming_taken : MA K mg "Incoming" "taken" "Incoming.taken" s_Incoming_taken
  f_Incoming_held : MA K mg "Incoming" "held" "Incoming.held" s_Incoming_held
  f_Incoming_state : MA K mg "Incoming" "state" "Incoming.state" s_Incoming_state
  f_incoming_with : FunAt K mg "incoming_with" s_incoming_with
  f_Incoming_copy : MA K mg "Incoming" "copy" "Incoming.copy" s_Incoming_copy
  f_law_hand : FunAt K mg "_law_hand" s_law_hand
  f_law_take : FunAt K mg "_law_take" s_law_take
  f_law_pick : FunAt K mg "_law_pick" s_law_pick
  f_law_is_integer : FunAt K mg "_law_is_integer" s_law_is_integer
  f_law_same : FunAt K mg "_law_same" s_law_same
  f_law_item : FunAt K mg "_law_item" s_law_item
  f_law_thing : FunAt K mg "_law_thing" s_law_thing
  f_law_heard : FunAt K mg "_law_heard" s_law_heard
  f_law_ends_right : FunAt K mg "_law_ends_right" s_law_ends_right
  f_law_deed : FunAt K mg "_law_deed" s_law_deed
  f_law_drained : FunAt K mg "_law_drained" s_law_drained
  f_law : FunAt K mg "law" s_law
  g_HELD_AHEAD : GI mg "HELD_AHEAD" (1000)
  g_NUMBERS : GI mg "NUMBERS" (4294967296)
  c_Outgoing : GC mg "Outgoing"
  c_Incoming : GC mg "Incoming"
  fld_let_go : FldC K mg ["Outgoing"] "let_go"
  fld_things : FldC K mg ["Outgoing"] "things"
  fld_due : FldC K mg ["Incoming"] "due"
  fld_early : FldC K mg ["Incoming"] "early"
  isi : IsiF K mg CLS
section
variable {P : Program} {w : World} {K : PySem.W.Frag} {mg : Str → Option Value} {base : Heap}
theorem h_is_number (T : Fx P w K mg base) : HasF P w K mg base 1 "is_number" ["thing"] F_is_number :=
  mk_hasF T.f_is_number sc_is_number (fun _ _ _ _ _ _ us hl => match us, hl with | [_], _ => rfl) (fun f cdv A outer s H E hr => by
  have hu := hu_of hr
  have tk0 : Takes (cxOf (L2.CX P w) P w K mg base ["thing"] "is_number" (defScope s_is_number) f cdv A outer s H E) (fun cls d _ H => E cls d H) := takes_of rfl rfl rfl rfl
  exact (fss_one (fs_ret (fe_and (fe_b call_isi (bl_isi T.isi) rfl T.b_isinstance (by decide +kernel) (fa_cons (fe_var 0 (pv 0)) (fa_cons (fe_c (pe_bltn (v := .ty "int") rfl T.b_int (by decide +kernel) rfl) fun _ _ => .ty _) fa_nil))) (fe_and (fe_not (fe_b call_isi (bl_isi T.isi) rfl T.b_isinstance (by decide +kernel) (fa_cons (fe_var 0 (pv 0)) (fa_cons (fe_c (pe_bltn (v := .ty "bool") rfl T.b_bool (by decide +kernel) rfl) fun _ _ => .ty _) fa_nil)))) (fe_one (fe_cmp op_ge opl_cmp (fe_var 0 (pv 0)) (fe_c pe_int fun _ _ => .int _) (nomark _))))))))
theorem h_is_below (T : Fx P w K mg base) : HasF P w K mg base 2 "is_below" ["bound", "thing"] F_is_below :=
  mk_hasF T.f_is_below sc_is_below (fun _ _ _ _ _ _ us hl => match us, hl with | [_, _], _ => rfl) (fun f cdv A outer s H E hr => by
  have hu := hu_of hr
  have tk0 : Takes (cxOf (L2.CX P w) P w K mg base ["bound", "thing"] "is_below" (defScope s_is_below) f cdv A outer s H E) (fun cls d _ H => E cls d H) := takes_of rfl rfl rfl rfl
  exact (fss_one (fs_ret (fe_and (fe_call tk0 (h_is_number T) (hr.mono (by trivial)) rfl (fa_cons (fe_var 1 (pv 1)) fa_nil)) (fe_one (fe_cmp (op_lt.or (op_ltT hr.units0)) opl_lt (fe_var 1 (pv 1)) (fe_var 0 (pv 0)) (nomark _)))))))
theorem h_Outgoing___init__ (T : Fx P w K mg base) : HC P w K mg base 1 "Outgoing" ["self"] F_Outgoing___init__ :=
  mk_HC T.f_Outgoing___init__ sc_Outgoing___init__ (fun _ _ _ _ _ _ us hl => match us, hl with | [_], _ => rfl) (fun f cdv A outer s H E hr => by
  have hu := hu_of hr
  have tk0 : Takes (cxOf (L2.CX P w) P w K mg base ["self"] "Outgoing.__init__" (defScope s_Outgoing___init__) f cdv A outer s H E) (fun cls d _ H => E cls d H) := takes_of rfl rfl rfl rfl
  exact (fss_cons (fs_fld T.fld_let_go (fe_var 0 (pv 0)) (fe_c pe_int fun _ _ => .int _))
    (fss_one (fs_fld T.fld_things (fe_var 0 (pv 0)) (fe_lst fa_nil)))))
theorem h_Outgoing_many_put (T : Fx P w K mg base) : HM P w K mg base 1 "Outgoing" "many_put" ["self"] F_Outgoing_many_put :=
  mk_HM T.f_Outgoing_many_put sc_Outgoing_many_put (fun _ _ _ _ _ _ us hl => match us, hl with | [_], _ => rfl) (fun f cdv A outer s H E hr => by
  have hu := hu_of hr
  have tk0 : Takes (cxOf (L2.CX P w) P w K mg base ["self"] "Outgoing.many_put" (defScope s_Outgoing_many_put) f cdv A outer s H E) (fun cls d _ H => E cls d H) := takes_of rfl rfl rfl rfl
  exact (fss_one (fs_ret (fe_op ((op_add.or op_catA).or op_cat) opl_add (fe_fld T.fld_let_go (fe_var 0 (pv 0))) (fe_b ((call_len_seq.or call_len_str).or call_lenD) bl_len rfl T.b_len PySem.boot_len (fa_cons (fe_fld T.fld_things (fe_var 0 (pv 0))) fa_nil))))))
theorem h_Outgoing_put (T : Fx P w K mg base) : HM P w K mg base 2 "Outgoing" "put" ["self", "thing"] F_Outgoing_put :=
  mk_HM T.f_Outgoing_put sc_Outgoing_put (fun _ _ _ _ _ _ us hl => match us, hl with | [_, _], _ => rfl) (fun f cdv A outer s H E hr => by
  have hu := hu_of hr
  have tk0 : Takes (cxOf (L2.CX P w) P w K mg base ["self", "thing"] "Outgoing.put" (defScope s_Outgoing_put) f cdv A outer s H E) (fun cls d _ H => E cls d H) := takes_of rfl rfl rfl rfl
  exact (fss_cons (fs_expr (fe_bm PySem.F.plainAttrs_list PySem.F.slot_list_append PySem.F.type_list_append mt_append ml_append (fe_fld T.fld_things (fe_var 0 (pv 0))) (fa_cons (fe_var 1 (pv 1)) fa_nil)))
    (fss_one (fs_ret (fe_op op_sub opl_sub (fe_methA0 tk0 (h_Outgoing_many_put T) (hr.mono (by trivial)) (fe_var 0 (pv 0))) (fe_c pe_int fun _ _ => .int _))))))
theorem h_Outgoing_known (T : Fx P w K mg base) : HM P w K mg base 3 "Outgoing" "known" ["self", "number"] F_Outgoing_known :=
  mk_HM T.f_Outgoing_known sc_Outgoing_known (fun _ _ _ _ _ _ us hl => match us, hl with | [_, _], _ => rfl) (fun f cdv A outer s H E hr => by
  have hu := hu_of hr
  have tk0 : Takes (cxOf (L2.CX P w) P w K mg base ["self", "number", "many"] "Outgoing.known" (defScope s_Outgoing_known) f cdv A outer s H E) (fun cls d _ H => E cls d H) := takes_of rfl rfl rfl rfl
  exact (fss_cons (fs_if (ft_not (ft_val (fe_call tk0 (h_is_below T) (hr.mono (by trivial)) rfl (fa_cons (fe_op ((op_add.or op_catA).or op_cat) opl_add (fe_methA0 tk0 (h_Outgoing_many_put T) (hr.mono (by trivial)) (fe_var 0 (pv 0))) (fe_c pe_int fun _ _ => .int _)) (fa_cons (fe_var 1 (pv 1)) fa_nil)))))
    (fss_one (fs_rzA rfl tk0 T.x_NoNumber rfl))
    fss_nil)
    (fss_cons (fs_set (i := 2) sc_Outgoing_known.nd rfl (Or.inl rfl) (fe_b (call_max2 rfl) bl_max2 rfl T.b_max (by decide +kernel) (fa_cons (fe_c pe_int fun _ _ => .int _) (fa_cons (fe_op op_sub opl_sub (fe_var 1 (pv 1)) (fe_fld T.fld_let_go (fe_var 0 (pv 0)))) fa_nil))))
    (fss_cons (fs_fld T.fld_things (fe_var 0 (pv 0)) (fe_sl (fe_fld T.fld_things (fe_var 0 (pv 0))) (fo_some (fe_var 2 (pv 2))) fo_none))
    (fss_cons (fs_augFAdd T.fld_let_go (fe_var 0 (pv 0)) (fe_var 2 (pv 2)))
    (fss_one (fs_ret (fe_var 2 (pv 2)))))))))
theorem h_Outgoing_waiting (T : Fx P w K mg base) : HM P w K mg base 1 "Outgoing" "waiting" ["self"] F_Outgoing_waiting :=
  mk_HM T.f_Outgoing_waiting sc_Outgoing_waiting (fun _ _ _ _ _ _ us hl => match us, hl with | [_], _ => rfl) (fun f cdv A outer s H E hr => by
  have hu := hu_of hr
  have tk0 : Takes (cxOf (L2.CX P w) P w K mg base ["self"] "Outgoing.waiting" (defScope s_Outgoing_waiting) f cdv A outer s H E) (fun cls d _ H => E cls d H) := takes_of rfl rfl rfl rfl
  exact (fss_one (fs_ret (fe_lenum T.b_list T.b_enumerate (fa_cons (fe_fld T.fld_things (fe_var 0 (pv 0))) fa_nil) (fe_fld T.fld_let_go (fe_var 0 (pv 0)))))))
theorem h_outgoing_with (T : Fx P w K mg base) : HasF P w K mg base 3 "outgoing_with" ["let_go", "things"] F_outgoing_with :=
  mk_hasF T.f_outgoing_with sc_outgoing_with (fun _ _ _ _ _ _ us hl => match us, hl with | [_, _], _ => rfl) (fun f cdv A outer s H E hr => by
  have hu := hu_of hr
  have tk0 : Takes (cxOf (L2.CX P w) P w K mg base ["let_go", "things", "end"] "outgoing_with" (defScope s_outgoing_with) f cdv A outer s H E) (fun cls d _ H => E cls d H) := takes_of rfl rfl rfl rfl
  exact (fss_cons (fs_set (i := 2) sc_outgoing_with.nd rfl (Or.inl rfl) (fe_makeA0 tk0 (h_Outgoing___init__ T) (hr.mono (by trivial)) rfl))
    (fss_cons (fs_fld T.fld_let_go (fe_var 2 (pv 2)) (fe_var 0 (pv 0)))
    (fss_cons (fs_fld T.fld_things (fe_var 2 (pv 2)) (fe_bT (call_list_of.or (call_listD rfl)) bl_list rfl T.b_list (by decide +kernel) (fa_cons (fe_var 1 (pv 1)) fa_nil)))
    (fss_one (fs_ret (fe_var 2 (pv 2))))))))
theorem h_Outgoing_copy (T : Fx P w K mg base) : HM P w K mg base 4 "Outgoing" "copy" ["self"] F_Outgoing_copy :=
  mk_HM T.f_Outgoing_copy sc_Outgoing_copy (fun _ _ _ _ _ _ us hl => match us, hl with | [_], _ => rfl) (fun f cdv A outer s H E hr => by
  have hu := hu_of hr
  have tk0 : Takes (cxOf (L2.CX P w) P w K mg base ["self"] "Outgoing.copy" (defScope s_Outgoing_copy) f cdv A outer s H E) (fun cls d _ H => E cls d H) := takes_of rfl rfl rfl rfl
  exact (fss_one (fs_ret (fe_call tk0 (h_outgoing_with T) (hr.mono (by trivial)) rfl (fa_cons (fe_fld T.fld_let_go (fe_var 0 (pv 0))) (fa_cons (fe_fld T.fld_things (fe_var 0 (pv 0))) fa_nil))))))
theorem h_Incoming___init__ (T : Fx P w K mg base) : HC P w K mg base 1 "Incoming" ["self"] F_Incoming___init__ :=
  mk_HC T.f_Incoming___init__ sc_Incoming___init__ (fun _ _ _ _ _ _ us hl => match us, hl with | [_], _ => rfl) (fun f cdv A outer s H E hr => by
  have hu := hu_of hr
  have tk0 : Takes (cxOf (L2.CX P w) P w K mg base ["self"] "Incoming.__init__" (defScope s_Incoming___init__) f cdv A outer s H E) (fun cls d _ H => E cls d H) := takes_of rfl rfl rfl rfl
  exact (fss_cons (fs_fld T.fld_due (fe_var 0 (pv 0)) (fe_c pe_int fun _ _ => .int _))
    (fss_one (fs_fld T.fld_early (fe_var 0 (pv 0)) fe_dic0))))
theorem h_Incoming_take (T : Fx P w K mg base) : HM P w K mg base 3 "Incoming" "take" ["self", "number", "thing"] F_Incoming_take :=
  mk_HM T.f_Incoming_take sc_Incoming_take (fun _ _ _ _ _ _ us hl => match us, hl with | [_, _, _], _ => rfl) (fun f cdv A outer s H E hr => by
  have hu := hu_of hr
  have tk0 : Takes (cxOf (L2.CX P w) P w K mg base ["self", "number", "thing", "things"] "Incoming.take" (defScope s_Incoming_take) f cdv A outer s H E) (fun cls d _ H => E cls d H) := takes_of rfl rfl rfl rfl
  exact (fss_cons (fs_if (ft_not (ft_val (fe_call tk0 (h_is_below T) (hr.mono (by trivial)) rfl (fa_cons (fe_gInt T.g_NUMBERS rfl) (fa_cons (fe_var 1 (pv 1)) fa_nil)))))
    (fss_one (fs_rzA rfl tk0 T.x_NoNumber rfl))
    fss_nil)
    (fss_cons (fs_if (PW.pt (fw_and (ft_chain (op_le.or (op_leT hr.units0)) opl_le (op_lt.or (op_ltT hr.units0)) opl_lt (fe_fld T.fld_due (fe_var 0 (pv 0))) (fe_var 1 (pv 1)) (fe_op ((op_add.or op_catA).or op_cat) opl_add (fe_fld T.fld_due (fe_var 0 (pv 0))) (fe_gInt T.g_HELD_AHEAD rfl))) (fw_and1 (ft_cmpC (fc_notin hu (fe_var 1 (pv 1)) (fe_fld T.fld_early (fe_var 0 (pv 0))))))))
    (fss_one (fs_put hu (fe_fld T.fld_early (fe_var 0 (pv 0))) (fe_var 1 (pv 1)) (fe_var 2 (pv 2))))
    fss_nil)
    (fss_cons (fs_set (i := 3) sc_Incoming_take.nd rfl (Or.inl rfl) (fe_lst fa_nil))
    (fss_cons (fs_while (passes_of rfl) (ft_cmpC (fc_in hu (fe_fld T.fld_due (fe_var 0 (pv 0))) (fe_fld T.fld_early (fe_var 0 (pv 0)))))
    (fss_cons (fs_expr (fe_bm PySem.F.plainAttrs_list PySem.F.slot_list_append PySem.F.type_list_append mt_append ml_append (fe_var 3 (pv 3)) (fa_cons (fe_pop1 (fe_fld T.fld_early (fe_var 0 (pv 0))) (fe_fld T.fld_due (fe_var 0 (pv 0))) ⟨rfl, rfl, rfl, rfl⟩ (fe_bm PySem.F.plainAttrs_list PySem.F.slot_list_pop PySem.F.type_list_pop mt_popAt ml_pop1 (fe_fld T.fld_early (fe_var 0 (pv 0))) (fa_cons (fe_fld T.fld_due (fe_var 0 (pv 0))) fa_nil))) fa_nil)))
    (fss_one (fs_augFAdd T.fld_due (fe_var 0 (pv 0)) (fe_c pe_int fun _ _ => .int _)))))
    (fss_one (fs_ret (fe_var 3 (pv 3)))))))))
theorem h_Incoming_taken (T : Fx P w K mg base) : HM P w K mg base 1 "Incoming" "taken" ["self"] F_Incoming_taken :=
  mk_HM T.f_Incoming_taken sc_Incoming_taken (fun _ _ _ _ _ _ us hl => match us, hl with | [_], _ => rfl) (fun f cdv A outer s H E hr => by
  have hu := hu_of hr
  have tk0 : Takes (cxOf (L2.CX P w) P w K mg base ["self"] "Incoming.taken" (defScope s_Incoming_taken) f cdv A outer s H E) (fun cls d _ H => E cls d H) := takes_of rfl rfl rfl rfl
  exact (fss_one (fs_ret (fe_fld T.fld_due (fe_var 0 (pv 0))))))
theorem h_Incoming_held (T : Fx P w K mg base) : HM P w K mg base 1 "Incoming" "held" ["self"] F_Incoming_held :=
  mk_HM T.f_Incoming_held sc_Incoming_held (fun _ _ _ _ _ _ us hl => match us, hl with | [_], _ => rfl) (fun f cdv A outer s H E hr => by
  have hu := hu_of hr
  have tk0 : Takes (cxOf (L2.CX P w) P w K mg base ["self"] "Incoming.held" (defScope s_Incoming_held) f cdv A outer s H E) (fun cls d _ H => E cls d H) := takes_of rfl rfl rfl rfl
  exact (fss_one (fs_ret (fe_bT call_tuple_of bl_tuple rfl T.b_tuple (by decide +kernel) (fa_cons (fe_b (((cr_sortedI.or cr_sortedPO).or (call_sortedDA rfl)).or (call_sortedDP rfl)) bl_sorted rfl T.b_sorted (by decide +kernel) (fa_cons (fe_fld T.fld_early (fe_var 0 (pv 0))) fa_nil)) fa_nil)))))
theorem h_incoming_with (T : Fx P w K mg base) : HasF P w K mg base 3 "incoming_with" ["due", "early"] F_incoming_with :=
  mk_hasF T.f_incoming_with sc_incoming_with (fun _ _ _ _ _ _ us hl => match us, hl with | [_, _], _ => rfl) (fun f cdv A outer s H E hr => by
  have hu := hu_of hr
  have tk0 : Takes (cxOf (L2.CX P w) P w K mg base ["due", "early", "end"] "incoming_with" (defScope s_incoming_with) f cdv A outer s H E) (fun cls d _ H => E cls d H) := takes_of rfl rfl rfl rfl
  exact (fss_cons (fs_set (i := 2) sc_incoming_with.nd rfl (Or.inl rfl) (fe_makeA0 tk0 (h_Incoming___init__ T) (hr.mono (by trivial)) rfl))
    (fss_cons (fs_fld T.fld_due (fe_var 2 (pv 2)) (fe_var 0 (pv 0)))
    (fss_cons (fs_fld T.fld_early (fe_var 2 (pv 2)) (fe_bT call_dictD bl_dict rfl T.b_dict (by decide +kernel) (fa_cons (fe_var 1 (pv 1)) fa_nil)))
    (fss_one (fs_ret (fe_var 2 (pv 2))))))))
theorem h_Incoming_copy (T : Fx P w K mg base) : HM P w K mg base 4 "Incoming" "copy" ["self"] F_Incoming_copy :=
  mk_HM T.f_Incoming_copy sc_Incoming_copy (fun _ _ _ _ _ _ us hl => match us, hl with | [_], _ => rfl) (fun f cdv A outer s H E hr => by
  have hu := hu_of hr
  have tk0 : Takes (cxOf (L2.CX P w) P w K mg base ["self"] "Incoming.copy" (defScope s_Incoming_copy) f cdv A outer s H E) (fun cls d _ H => E cls d H) := takes_of rfl rfl rfl rfl
  exact (fss_one (fs_ret (fe_call tk0 (h_incoming_with T) (hr.mono (by trivial)) rfl (fa_cons (fe_fld T.fld_due (fe_var 0 (pv 0))) (fa_cons (fe_fld T.fld_early (fe_var 0 (pv 0))) fa_nil))))))
theorem h_law_hand (T : Fx P w K mg base) : HasF P w K mg base 1 "_law_hand" ["script"] F_law_hand :=
  mk_hasF T.f_law_hand sc_law_hand (fun _ _ _ _ _ _ us hl => match us, hl with | [_], _ => rfl) (fun f cdv A outer s H E hr => by
  have hu := hu_of hr
  have tk0 : Takes (cxOf (L2.CX P w) P w K mg base ["script"] "_law_hand" (defScope s_law_hand) f cdv A outer s H E) (fun cls d _ H => E cls d H) := takes_of rfl rfl rfl rfl
  exact (fss_one (fs_ret (fe_lst (fa_cons (fe_bT (call_list_of.or (call_listD rfl)) bl_list rfl T.b_list (by decide +kernel) (fa_cons (fe_var 0 (pv 0)) fa_nil)) (fa_cons (fe_c pe_int fun _ _ => .int _) (fa_cons (fe_c pe_int fun _ _ => .int _) (fa_cons (fe_c pe_int fun _ _ => .int _) (fa_cons (fe_c pe_int fun _ _ => .int _) fa_nil)))))))))
theorem h_law_take (T : Fx P w K mg base) : HasF P w K mg base 1 "_law_take" ["hand", "many"] F_law_take :=
  mk_hasF T.f_law_take sc_law_take (fun _ _ _ _ _ _ us hl => match us, hl with | [_, _], _ => rfl) (fun f cdv A outer s H E hr => by
  have hu := hu_of hr
  have tk0 : Takes (cxOf (L2.CX P w) P w K mg base ["hand", "many", "cell", "found", "number"] "_law_take" (defScope s_law_take) f cdv A outer s H E) (fun cls d _ H => E cls d H) := takes_of rfl rfl rfl rfl
  exact (fss_cons (fs_put hu (fe_var 0 (pv 0)) (fe_c pe_int fun _ _ => .int _) (fe_op ((op_add.or op_catA).or op_cat) opl_add (fe_ix hu (fe_var 0 (pv 0)) (fe_c pe_int fun _ _ => .int _)) (fe_c pe_int fun _ _ => .int _)))
    (fss_cons (fs_if (PW.pt (fw_and (ft_cmp ((op_eqD hr.units).or op_eq) opl_eq (fe_ix hu (fe_var 0 (pv 0)) (fe_c pe_int fun _ _ => .int _)) (fe_c pe_int fun _ _ => .int _) (nomark _)) (fw_and1 (ft_cmp (op_lt.or (op_ltT hr.units0)) opl_lt (fe_ix hu (fe_var 0 (pv 0)) (fe_c pe_int fun _ _ => .int _)) (fe_b ((call_len_seq.or call_len_str).or call_lenD) bl_len rfl T.b_len PySem.boot_len (fa_cons (fe_ix hu (fe_var 0 (pv 0)) (fe_c pe_int fun _ _ => .int _)) fa_nil)) (nomark _)))))
    (fss_cons (fs_set (i := 2) sc_law_take.nd rfl (Or.inl rfl) (fe_bT call_int1 bl_int rfl T.b_int (by decide +kernel) (fa_cons (fe_ix hu (fe_ix hu (fe_var 0 (pv 0)) (fe_c pe_int fun _ _ => .int _)) (fe_ix hu (fe_var 0 (pv 0)) (fe_c pe_int fun _ _ => .int _))) fa_nil)))
    (fss_cons (fs_put hu (fe_var 0 (pv 0)) (fe_c pe_int fun _ _ => .int _) (fe_op ((op_add.or op_catA).or op_cat) opl_add (fe_ix hu (fe_var 0 (pv 0)) (fe_c pe_int fun _ _ => .int _)) (fe_c pe_int fun _ _ => .int _)))
    (fss_one (fs_if (ft_cmp op_ge opl_cmp (fe_var 2 (pv 2)) (fe_op op_pow opl_pow (fe_c pe_int fun _ _ => .int _) (fe_c pe_int fun _ _ => .int _)) (nomark _))
    (fss_one (fs_put hu (fe_var 0 (pv 0)) (fe_c pe_int fun _ _ => .int _) (fe_var 2 (pv 2))))
    (fss_one (fs_put hu (fe_var 0 (pv 0)) (fe_c pe_int fun _ _ => .int _) (fe_op op_modN opl_mod (fe_bT call_int1 bl_int rfl T.b_int (by decide +kernel) (fa_cons (fe_op ((op_add.or op_catA).or op_cat) opl_add (fe_op ((op_add.or op_catA).or op_cat) opl_add (fe_op (((op_mul.or op_mulW).or op_repA).or op_rep) opl_mul (fe_ix hu (fe_var 0 (pv 0)) (fe_c pe_int fun _ _ => .int _)) (fe_c pe_int fun _ _ => .int _)) (fe_op op_modN opl_mod (fe_bT call_int1 bl_int rfl T.b_int (by decide +kernel) (fa_cons (fe_var 2 (pv 2)) fa_nil)) (fe_c pe_int fun _ _ => .int _))) (fe_c pe_int fun _ _ => .int _)) fa_nil)) (fe_c pe_int fun _ _ => .int _))))))))
    fss_nil)
    (fss_cons (fs_if (ft_cmp op_gt opl_cmp (fe_ix hu (fe_var 0 (pv 0)) (fe_c pe_int fun _ _ => .int _)) (fe_c pe_int fun _ _ => .int _) (nomark _))
    (fss_cons (fs_set (i := 3) sc_law_take.nd rfl (Or.inl rfl) (fe_op op_modN opl_mod (fe_bT call_int1 bl_int rfl T.b_int (by decide +kernel) (fa_cons (fe_ix hu (fe_var 0 (pv 0)) (fe_c pe_int fun _ _ => .int _)) fa_nil)) (fe_var 1 (pv 1))))
    (fss_cons (fs_put hu (fe_var 0 (pv 0)) (fe_c pe_int fun _ _ => .int _) (fe_op op_fdivN opl_div (fe_bT call_int1 bl_int rfl T.b_int (by decide +kernel) (fa_cons (fe_ix hu (fe_var 0 (pv 0)) (fe_c pe_int fun _ _ => .int _)) fa_nil)) (fe_var 1 (pv 1))))
    (fss_one (fs_ret (fe_var 3 (pv 3))))))
    fss_nil)
    (fss_cons (fs_put hu (fe_var 0 (pv 0)) (fe_c pe_int fun _ _ => .int _) (fe_op op_modN opl_mod (fe_bT call_int1 bl_int rfl T.b_int (by decide +kernel) (fa_cons (fe_op ((op_add.or op_catA).or op_cat) opl_add (fe_op (((op_mul.or op_mulW).or op_repA).or op_rep) opl_mul (fe_ix hu (fe_var 0 (pv 0)) (fe_c pe_int fun _ _ => .int _)) (fe_c pe_int fun _ _ => .int _)) (fe_op (((op_mul.or op_mulW).or op_repA).or op_rep) opl_mul (fe_c pe_int fun _ _ => .int _) (fe_ix hu (fe_var 0 (pv 0)) (fe_c pe_int fun _ _ => .int _)))) fa_nil)) (fe_c pe_int fun _ _ => .int _)))
    (fss_cons (fs_set (i := 4) sc_law_take.nd rfl (Or.inl rfl) (fe_op op_modN opl_mod (fe_bT call_int1 bl_int rfl T.b_int (by decide +kernel) (fa_cons (fe_op (((op_mul.or op_mulW).or op_repA).or op_rep) opl_mul (fe_ix hu (fe_var 0 (pv 0)) (fe_c pe_int fun _ _ => .int _)) (fe_op ((op_add.or op_catA).or op_cat) opl_add (fe_op op_fdivN opl_div (fe_ix hu (fe_var 0 (pv 0)) (fe_c pe_int fun _ _ => .int _)) (fe_c pe_int fun _ _ => .int _)) (fe_c pe_int fun _ _ => .int _))) fa_nil)) (fe_c pe_int fun _ _ => .int _)))
    (fss_cons (fs_set (i := 4) sc_law_take.nd rfl (Or.inl rfl) (fe_op op_modN opl_mod (fe_bT call_int1 bl_int rfl T.b_int (by decide +kernel) (fa_cons (fe_op (((op_mul.or op_mulW).or op_repA).or op_rep) opl_mul (fe_var 4 (pv 4)) (fe_op ((op_add.or op_catA).or op_cat) opl_add (fe_op op_fdivN opl_div (fe_var 4 (pv 4)) (fe_c pe_int fun _ _ => .int _)) (fe_c pe_int fun _ _ => .int _))) fa_nil)) (fe_c pe_int fun _ _ => .int _)))
    (fss_one (fs_ret (fe_op op_modN opl_mod (fe_bT call_int1 bl_int rfl T.b_int (by decide +kernel) (fa_cons (fe_op op_fdivN opl_div (fe_var 4 (pv 4)) (fe_c pe_int fun _ _ => .int _)) fa_nil)) (fe_var 1 (pv 1))))))))))))
theorem h_law_pick (T : Fx P w K mg base) : HasF P w K mg base 2 "_law_pick" ["hand", "things"] F_law_pick :=
  mk_hasF T.f_law_pick sc_law_pick (fun _ _ _ _ _ _ us hl => match us, hl with | [_, _], _ => rfl) (fun f cdv A outer s H E hr => by
  have hu := hu_of hr
  have tk0 : Takes (cxOf (L2.CX P w) P w K mg base ["hand", "things"] "_law_pick" (defScope s_law_pick) f cdv A outer s H E) (fun cls d _ H => E cls d H) := takes_of rfl rfl rfl rfl
  exact (fss_one (fs_ret (fe_ix hu (fe_var 1 (pv 1)) (fe_call tk0 (h_law_take T) (hr.mono (by trivial)) rfl (fa_cons (fe_var 0 (pv 0)) (fa_cons (fe_b ((call_len_seq.or call_len_str).or call_lenD) bl_len rfl T.b_len PySem.boot_len (fa_cons (fe_var 1 (pv 1)) fa_nil)) fa_nil)))))))
theorem h_law_is_integer (T : Fx P w K mg base) : HasF P w K mg base 1 "_law_is_integer" ["thing"] F_law_is_integer :=
  mk_hasF T.f_law_is_integer sc_law_is_integer (fun _ _ _ _ _ _ us hl => match us, hl with | [_], _ => rfl) (fun f cdv A outer s H E hr => by
  have hu := hu_of hr
  have tk0 : Takes (cxOf (L2.CX P w) P w K mg base ["thing"] "_law_is_integer" (defScope s_law_is_integer) f cdv A outer s H E) (fun cls d _ H => E cls d H) := takes_of rfl rfl rfl rfl
  exact (fss_one (fs_ret (fe_and (fe_b call_isi (bl_isi T.isi) rfl T.b_isinstance (by decide +kernel) (fa_cons (fe_var 0 (pv 0)) (fa_cons (fe_c (pe_bltn (v := .ty "int") rfl T.b_int (by decide +kernel) rfl) fun _ _ => .ty _) fa_nil))) (fe_one (fe_not (fe_b call_isi (bl_isi T.isi) rfl T.b_isinstance (by decide +kernel) (fa_cons (fe_var 0 (pv 0)) (fa_cons (fe_c (pe_bltn (v := .ty "bool") rfl T.b_bool (by decide +kernel) rfl) fun _ _ => .ty _) fa_nil)))))))))
theorem h_law_same (T : Fx P w K mg base) : ∀ k, HasF P w K mg base (2 + k) "_law_same" ["actual", "due"] (F_law_same k)
  | 0 => hasF_no T.f_law_same sc_law_same (fun _ _ _ _ _ _ us hl => match us, hl with | [_, _], _ => rfl)
  | k + 1 => by
    have ih := h_law_same T k
    refine mk_hasF T.f_law_same sc_law_same (fun _ _ _ _ _ _ us hl => match us, hl with | [_, _], _ => rfl) (fun f cdv A outer s H E hr => by
      have hu := hu_of hr
      have tk0 : Takes (cxOf (L2.CX P w) P w K mg base ["actual", "due", "one", "other"] "_law_same" (defScope s_law_same) f cdv A outer s H E) (fun cls d _ H => E cls d H) := takes_of rfl rfl rfl rfl
      exact (fss_cons (fs_if (ft_cmpC (fc_isN (fe_var 1 (pv 1))))
    (fss_one (fs_ret (pe_cmp (fc_isN (fe_var 0 (pv 0))) rfl)))
    fss_nil)
    (fss_cons (fs_if (ft_cmp op_isB opl_isB (fe_var 1 (pv 1)) (fe_c pe_bl fun _ _ => .bl _) (nomark _))
    (fss_one (fs_ret (fe_cmp op_isB opl_isB (fe_var 0 (pv 0)) (fe_c pe_bl fun _ _ => .bl _) (nomark _))))
    fss_nil)
    (fss_cons (fs_if (ft_cmp op_isB opl_isB (fe_var 1 (pv 1)) (fe_c pe_bl fun _ _ => .bl _) (nomark _))
    (fss_one (fs_ret (fe_cmp op_isB opl_isB (fe_var 0 (pv 0)) (fe_c pe_bl fun _ _ => .bl _) (nomark _))))
    fss_nil)
    (fss_cons (fs_if (ft_val (fe_b call_isi (bl_isi T.isi) rfl T.b_isinstance (by decide +kernel) (fa_cons (fe_var 1 (pv 1)) (fa_cons (fe_c (pe_bltn (v := .ty "int") rfl T.b_int (by decide +kernel) rfl) fun _ _ => .ty _) fa_nil))))
    (fss_one (fs_ret (fe_and (fe_call tk0 (h_law_is_integer T) (hr.mono (by trivial)) rfl (fa_cons (fe_var 0 (pv 0)) fa_nil)) (fe_one (fe_cmp ((op_eqD hr.units).or op_eq) opl_eq (fe_var 0 (pv 0)) (fe_var 1 (pv 1)) (nomark _))))))
    fss_nil)
    (fss_cons (fs_if (ft_val (fe_b call_isi (bl_isi T.isi) rfl T.b_isinstance (by decide +kernel) (fa_cons (fe_var 1 (pv 1)) (fa_cons (fe_c (pe_bltn (v := .ty "str") rfl T.b_str (by decide +kernel) rfl) fun _ _ => .ty _) fa_nil))))
    (fss_one (fs_ret (fe_and (fe_b call_isi (bl_isi T.isi) rfl T.b_isinstance (by decide +kernel) (fa_cons (fe_var 0 (pv 0)) (fa_cons (fe_c (pe_bltn (v := .ty "str") rfl T.b_str (by decide +kernel) rfl) fun _ _ => .ty _) fa_nil))) (fe_one (fe_cmp ((op_eqD hr.units).or op_eq) opl_eq (fe_var 0 (pv 0)) (fe_var 1 (pv 1)) (nomark _))))))
    fss_nil)
    (fss_cons (fs_if (PW.pt (fw_or (ft_cmp ((op_neD hr.units).or op_ne) opl_ne (fe_b call_isi (bl_isi T.isi) rfl T.b_isinstance (by decide +kernel) (fa_cons (fe_var 1 (pv 1)) (fa_cons (fe_c (pe_bltn (v := .ty "tuple") rfl T.b_tuple (by decide +kernel) rfl) fun _ _ => .ty _) fa_nil))) (fe_b call_isi (bl_isi T.isi) rfl T.b_isinstance (by decide +kernel) (fa_cons (fe_var 0 (pv 0)) (fa_cons (fe_c (pe_bltn (v := .ty "tuple") rfl T.b_tuple (by decide +kernel) rfl) fun _ _ => .ty _) fa_nil))) (nomark _)) (fw_or1 (ft_cmp ((op_neD hr.units).or op_ne) opl_ne (fe_b call_isi (bl_isi T.isi) rfl T.b_isinstance (by decide +kernel) (fa_cons (fe_var 1 (pv 1)) (fa_cons (fe_c (pe_bltn (v := .ty "list") rfl T.b_list (by decide +kernel) rfl) fun _ _ => .ty _) fa_nil))) (fe_b call_isi (bl_isi T.isi) rfl T.b_isinstance (by decide +kernel) (fa_cons (fe_var 0 (pv 0)) (fa_cons (fe_c (pe_bltn (v := .ty "list") rfl T.b_list (by decide +kernel) rfl) fun _ _ => .ty _) fa_nil))) (nomark _)))))
    (fss_one (fs_ret (fe_c pe_bl fun _ _ => .bl _)))
    fss_nil)
    (fss_cons (fs_if (ft_cmp ((op_neD hr.units).or op_ne) opl_ne (fe_b ((call_len_seq.or call_len_str).or call_lenD) bl_len rfl T.b_len PySem.boot_len (fa_cons (fe_var 0 (pv 0)) fa_nil)) (fe_b ((call_len_seq.or call_len_str).or call_lenD) bl_len rfl T.b_len PySem.boot_len (fa_cons (fe_var 1 (pv 1)) fa_nil)) (nomark _))
    (fss_one (fs_ret (fe_c pe_bl fun _ _ => .bl _)))
    fss_nil)
    (fss_cons (fs_for (t := (.tup [(.name 2), (.name 3)])) (passes_of rfl) rfl (fi_zip (RZ.pi_zipA rfl T.b_zip (fa_cons (fe_var 0 (pv 0)) (fa_cons (fe_var 1 (pv 1)) fa_nil))) (pi_zipM rfl T.b_zip (fa_cons (fe_var 0 (pv 0)) (fa_cons (fe_var 1 (pv 1)) fa_nil)))) (pg_tup rfl (pgs_cons (pg_name (i := 2) sc_law_same.nd rfl (Or.inl rfl)) (pgs_cons (pg_name (i := 3) sc_law_same.nd rfl (Or.inl rfl)) pgs_nil)))
    (fss_one (fs_if (ft_not (ft_val (fe_call tk0 ih (hr.mono (by trivial)) rfl (fa_cons (fe_var 2 (pv 2)) (fa_cons (fe_var 3 (pv 3)) fa_nil)))))
    (fss_one (fs_ret (fe_c pe_bl fun _ _ => .bl _)))
    fss_nil)))
    (fss_one (fs_ret (fe_c pe_bl fun _ _ => .bl _))))))))))))
theorem h_law_item (T : Fx P w K mg base) : ∀ k, HasF P w K mg base (3 + k) "_law_item" ["hand", "deep"] (F_law_item k)
  | 0 => hasF_no T.f_law_item sc_law_item (fun _ _ _ _ _ _ us hl => match us, hl with | [_, _], _ => rfl)
  | k + 1 => by
    have ih := h_law_item T k
    refine mk_hasF T.f_law_item sc_law_item (fun _ _ _ _ _ _ us hl => match us, hl with | [_, _], _ => rfl) (fun f cdv A outer s H E hr => by
      have hu := hu_of hr
      have tk0 : Takes (cxOf (L2.CX P w) P w K mg base ["hand", "deep", "way", "k"] "_law_item" (defScope s_law_item) f cdv A outer s H E) (fun cls d _ H => E cls d H) := takes_of rfl rfl rfl rfl
      exact (fss_cons (fs_set (i := 2) sc_law_item.nd rfl (Or.inl rfl) (fe_call tk0 (h_law_take T) (hr.mono (by trivial)) rfl (fa_cons (fe_var 0 (pv 0)) (fa_cons (fe_c pe_int fun _ _ => .int _) fa_nil))))
    (fss_cons (fs_if (PW.pt (fw_and (ft_cmp ((op_eqD hr.units).or op_eq) opl_eq (fe_var 2 (pv 2)) (fe_c pe_int fun _ _ => .int _) (nomark _)) (fw_and1 (ft_cmp op_gt opl_cmp (fe_var 1 (pv 1)) (fe_c pe_int fun _ _ => .int _) (nomark _)))))
    (fss_one (fs_ret (fe_bT call_tuple_of bl_tuple rfl T.b_tuple (by decide +kernel) (fa_cons (fe_comp (own := [("k", 3)]) (t := (.name 3)) (ft := tYes) (fe := (eB (F_law_item k) (aCons (eVar 0) (aCons (eOp opSub (eVar 1) (eC (.int 1))) aNil)))) rfl sc_law_item.nd (fi_rng1 rfl T.b_range (fa_cons (fe_call tk0 (h_law_take T) (hr.mono (by trivial)) rfl (fa_cons (fe_var 0 (pv 0)) (fa_cons (fe_c pe_int fun _ _ => .int _) fa_nil))) fa_nil)) (blkOk_by (own := [("k", 3)]) (N := ["hand", "deep", "way", "k"]) (sc := defScope s_law_item) (by decide +kernel)) (by decide) (fun _ _ _ _ _ => (pg_name (i := 3) sc_law_item.nd rfl (Or.inl rfl))) (fun _ _ _ _ _ => fts_nil) (fun _ _ _ _ _ => (fe_call takesN ih (hr.mono (by trivial)) rfl (fa_cons (fe_var 0 (pv 0)) (fa_cons (fe_op op_sub opl_sub (fe_var 1 (pv 1)) (fe_c pe_int fun _ _ => .int _)) fa_nil))))) fa_nil))))
    fss_nil)
    (fss_cons (fs_if (ft_cmp (op_lt.or (op_ltT hr.units0)) opl_lt (fe_var 2 (pv 2)) (fe_c pe_int fun _ _ => .int _) (nomark _))
    (fss_one (fs_ret (fe_ix hu (fe_lst (fa_cons (fe_c pe_non fun _ _ => .non) (fa_cons (fe_c pe_bl fun _ _ => .bl _) (fa_cons (fe_c pe_bl fun _ _ => .bl _) (fa_cons (fe_c pe_str fun _ _ => .str _) (fa_cons (fe_c pe_str fun _ _ => .str _) (fa_cons (fe_c pe_str fun _ _ => .str _) fa_nil))))))) (fe_call tk0 (h_law_take T) (hr.mono (by trivial)) rfl (fa_cons (fe_var 0 (pv 0)) (fa_cons (fe_c pe_int fun _ _ => .int _) fa_nil))))))
    fss_nil)
    (fss_one (fs_ret (fe_call tk0 (h_law_pick T) (hr.mono (by trivial)) rfl (fa_cons (fe_var 0 (pv 0)) (fa_cons (fe_lst (fa_cons (fe_call tk0 (h_law_take T) (hr.mono (by trivial)) rfl (fa_cons (fe_var 0 (pv 0)) (fa_cons (fe_c pe_int fun _ _ => .int _) fa_nil))) (fa_cons (fe_call tk0 (h_law_take T) (hr.mono (by trivial)) rfl (fa_cons (fe_var 0 (pv 0)) (fa_cons (fe_op op_pow opl_pow (fe_c pe_int fun _ _ => .int _) (fe_c pe_int fun _ _ => .int _)) fa_nil))) (fa_cons (fe_op op_sub opl_sub (fe_neg (fe_c pe_int fun _ _ => .int _)) (fe_call tk0 (h_law_take T) (hr.mono (by trivial)) rfl (fa_cons (fe_var 0 (pv 0)) (fa_cons (fe_c pe_int fun _ _ => .int _) fa_nil)))) (fa_cons (fe_op op_pow opl_pow (fe_c pe_int fun _ _ => .int _) (fe_c pe_int fun _ _ => .int _)) fa_nil))))) fa_nil)))))))))
theorem h_law_thing (T : Fx P w K mg base) : HasF P w K mg base 28 "_law_thing" ["hand"] F_law_thing :=
  mk_hasF T.f_law_thing sc_law_thing (fun _ _ _ _ _ _ us hl => match us, hl with | [_], _ => rfl) (fun f cdv A outer s H E hr => by
  have hu := hu_of hr
  have tk0 : Takes (cxOf (L2.CX P w) P w K mg base ["hand", "k"] "_law_thing" (defScope s_law_thing) f cdv A outer s H E) (fun cls d _ H => E cls d H) := takes_of rfl rfl rfl rfl
  exact (fss_one (fs_ret (fe_bT call_tuple_of bl_tuple rfl T.b_tuple (by decide +kernel) (fa_cons (fe_comp (own := [("k", 1)]) (t := (.name 1)) (ft := tYes) (fe := (eB (F_law_item 24) (aCons (eVar 0) (aCons (eC (.int 3)) aNil)))) rfl sc_law_thing.nd (fi_rng1 rfl T.b_range (fa_cons (fe_call tk0 (h_law_take T) (hr.mono (by trivial)) rfl (fa_cons (fe_var 0 (pv 0)) (fa_cons (fe_c pe_int fun _ _ => .int _) fa_nil))) fa_nil)) (blkOk_by (own := [("k", 1)]) (N := ["hand", "k"]) (sc := defScope s_law_thing) (by decide +kernel)) (by decide) (fun _ _ _ _ _ => (pg_name (i := 1) sc_law_thing.nd rfl (Or.inl rfl))) (fun _ _ _ _ _ => fts_nil) (fun _ _ _ _ _ => (fe_call takesN (h_law_item T 24) (hr.mono (by trivial)) rfl (fa_cons (fe_var 0 (pv 0)) (fa_cons (fe_c pe_int fun _ _ => .int _) fa_nil))))) fa_nil)))))
theorem h_law_heard (T : Fx P w K mg base) : HasF P w K mg base 1 "_law_heard" ["mind", "number", "thing"] F_law_heard :=
  mk_hasF T.f_law_heard sc_law_heard (fun _ _ _ _ _ _ us hl => match us, hl with | [_, _, _], _ => rfl) (fun f cdv A outer s H E hr => by
  have hu := hu_of hr
  have tk0 : Takes (cxOf (L2.CX P w) P w K mg base ["mind", "number", "thing", "held", "found", "k"] "_law_heard" (defScope s_law_heard) f cdv A outer s H E) (fun cls d _ H => E cls d H) := takes_of rfl rfl rfl rfl
  exact (fss_cons (fs_if (PW.pt (fw_and (ft_cmp (op_le.or (op_leT hr.units0)) opl_le (fe_ix hu (fe_var 0 (pv 0)) (fe_c pe_str fun _ _ => .str _)) (fe_var 1 (pv 1)) (nomark _)) (fw_and (ft_cmp (op_lt.or (op_ltT hr.units0)) opl_lt (fe_var 1 (pv 1)) (fe_op ((op_add.or op_catA).or op_cat) opl_add (fe_ix hu (fe_var 0 (pv 0)) (fe_c pe_str fun _ _ => .str _)) (fe_c pe_int fun _ _ => .int _)) (nomark _)) (fw_and1 (ft_cmpC (fc_notin hu (fe_var 1 (pv 1)) (fe_ix hu (fe_var 0 (pv 0)) (fe_c pe_str fun _ _ => .str _))))))))
    (fss_cons (fs_set (i := 3) sc_law_heard.nd rfl (Or.inl rfl) (fe_ix hu (fe_var 0 (pv 0)) (fe_c pe_str fun _ _ => .str _)))
    (fss_one (fs_put hu (fe_var 3 (pv 3)) (fe_var 1 (pv 1)) (fe_var 2 (pv 2)))))
    fss_nil)
    (fss_cons (fs_set (i := 4) sc_law_heard.nd rfl (Or.inl rfl) (fe_lst fa_nil))
    (fss_cons (fs_for (t := (.name 5)) (passes_of rfl) rfl (fi_rng1 rfl T.b_range (fa_cons (fe_op ((op_add.or op_catA).or op_cat) opl_add (fe_b ((call_len_seq.or call_len_str).or call_lenD) bl_len rfl T.b_len PySem.boot_len (fa_cons (fe_ix hu (fe_var 0 (pv 0)) (fe_c pe_str fun _ _ => .str _)) fa_nil)) (fe_c pe_int fun _ _ => .int _)) fa_nil)) (pg_name (i := 5) sc_law_heard.nd rfl (Or.inl rfl))
    (fss_cons (fs_if (ft_cmpC (fc_notin hu (fe_ix hu (fe_var 0 (pv 0)) (fe_c pe_str fun _ _ => .str _)) (fe_ix hu (fe_var 0 (pv 0)) (fe_c pe_str fun _ _ => .str _))))
    (fss_one fs_break)
    fss_nil)
    (fss_cons (fs_expr (fe_bm PySem.F.plainAttrs_list PySem.F.slot_list_append PySem.F.type_list_append mt_append ml_append (fe_var 4 (pv 4)) (fa_cons (fe_pop1 (fe_ix hu (fe_var 0 (pv 0)) (fe_c pe_str fun _ _ => .str _)) (fe_ix hu (fe_var 0 (pv 0)) (fe_c pe_str fun _ _ => .str _)) ⟨rfl, rfl, rfl, rfl⟩ (fe_bm PySem.F.plainAttrs_list PySem.F.slot_list_pop PySem.F.type_list_pop mt_popAt ml_pop1 (fe_ix hu (fe_var 0 (pv 0)) (fe_c pe_str fun _ _ => .str _)) (fa_cons (fe_ix hu (fe_var 0 (pv 0)) (fe_c pe_str fun _ _ => .str _)) fa_nil))) fa_nil)))
    (fss_one (fs_put hu (fe_var 0 (pv 0)) (fe_c pe_str fun _ _ => .str _) (fe_op ((op_add.or op_catA).or op_cat) opl_add (fe_ix hu (fe_var 0 (pv 0)) (fe_c pe_str fun _ _ => .str _)) (fe_c pe_int fun _ _ => .int _)))))))
    (fss_one (fs_ret (fe_var 4 (pv 4))))))))
theorem h_law_ends_right (T : Fx P w K mg base) : HasF P w K mg base 27 "_law_ends_right" ["out", "end", "things", "gone", "mind"] F_law_ends_right :=
  mk_hasF T.f_law_ends_right sc_law_ends_right (fun _ _ _ _ _ _ us hl => match us, hl with | [_, _, _, _, _], _ => rfl) (fun f cdv A outer s H E hr => by
  have hu := hu_of hr
  have tk0 : Takes (cxOf (L2.CX P w) P w K mg base ["out", "end", "things", "gone", "mind", "waiting", "k"] "_law_ends_right" (defScope s_law_ends_right) f cdv A outer s H E) (fun cls d _ H => E cls d H) := takes_of rfl rfl rfl rfl
  exact (fss_cons (fs_setComp (i := 5) (own := [("k", 6)]) (t := (.name 6)) (ft := tYes) (fe := (eTup (aCons (eOp opAdd (eVar 3) (eVar 6)) (aCons (eOp opIx (eVar 2) (eOp opAdd (eVar 3) (eVar 6))) aNil)))) rfl sc_law_ends_right.nd rfl rfl (sw_true rfl rfl rfl (by decide +kernel)) (fi_rng1 rfl T.b_range (fa_cons (fe_op op_sub opl_sub (fe_b ((call_len_seq.or call_len_str).or call_lenD) bl_len rfl T.b_len PySem.boot_len (fa_cons (fe_var 2 (pv 2)) fa_nil)) (fe_var 3 (pv 3))) fa_nil)) (blkOk_by (own := [("k", 6)]) (N := ["out", "end", "things", "gone", "mind", "waiting", "k"]) (sc := defScope s_law_ends_right) (by decide +kernel)) (by decide) (fun _ _ _ _ _ => (pg_name (i := 6) sc_law_ends_right.nd rfl (Or.inl rfl))) (fun _ _ _ _ _ => fts_nil) (fun _ _ _ _ _ => (fe_tup (fa_cons (fe_op ((op_add.or op_catA).or op_cat) opl_add (fe_var 3 (pv 3)) (fe_var 6 (pv 6))) (fa_cons (fe_ix hu (fe_var 2 (pv 2)) (fe_op ((op_add.or op_catA).or op_cat) opl_add (fe_var 3 (pv 3)) (fe_var 6 (pv 6)))) fa_nil)))))
    (fss_cons (fs_if (PW.pt (fw_or (ft_not (ft_val (fe_call tk0 (h_law_same T 24) (hr.mono (by trivial)) rfl (fa_cons (fe_methA0 tk0 (h_Outgoing_waiting T) (hr.mono (by trivial)) (fe_var 0 (pv 0))) (fa_cons (fe_var 5 (pv 5)) fa_nil))))) (fw_or1 (ft_not (ft_val (fe_call tk0 (h_law_same T 24) (hr.mono (by trivial)) rfl (fa_cons (fe_methA0 tk0 (h_Outgoing_many_put T) (hr.mono (by trivial)) (fe_var 0 (pv 0))) (fa_cons (fe_b ((call_len_seq.or call_len_str).or call_lenD) bl_len rfl T.b_len PySem.boot_len (fa_cons (fe_var 2 (pv 2)) fa_nil)) fa_nil))))))))
    (fss_one (fs_ret (fe_c pe_bl fun _ _ => .bl _)))
    fss_nil)
    (fss_one (fs_ret (fe_and (fe_call tk0 (h_law_same T 24) (hr.mono (by trivial)) rfl (fa_cons (fe_methA0 tk0 (h_Incoming_taken T) (hr.mono (by trivial)) (fe_var 1 (pv 1))) (fa_cons (fe_ix hu (fe_var 4 (pv 4)) (fe_c pe_str fun _ _ => .str _)) fa_nil))) (fe_one (fe_call tk0 (h_law_same T 24) (hr.mono (by trivial)) rfl (fa_cons (fe_methA0 tk0 (h_Incoming_held T) (hr.mono (by trivial)) (fe_var 1 (pv 1))) (fa_cons (fe_bT call_tuple_of bl_tuple rfl T.b_tuple (by decide +kernel) (fa_cons (fe_b (((cr_sortedI.or cr_sortedPO).or (call_sortedDA rfl)).or (call_sortedDP rfl)) bl_sorted rfl T.b_sorted (by decide +kernel) (fa_cons (fe_keys rfl rfl T.b_list (fe_ix hu (fe_var 4 (pv 4)) (fe_c pe_str fun _ _ => .str _))) fa_nil)) fa_nil)) fa_nil))))))))))
theorem h_law_deed (T : Fx P w K mg base) : HasF P w K mg base 29 "_law_deed" ["hand", "out", "end", "things", "gone", "mind", "all_taken"] F_law_deed :=
  mk_hasF T.f_law_deed sc_law_deed (fun _ _ _ _ _ _ us hl => match us, hl with | [_, _, _, _, _, _, _], _ => rfl) (fun f cdv A outer s H E hr => by
  have hu := hu_of hr
  have tk0 : Takes (cxOf (L2.CX P w) P w K mg base ["hand", "out", "end", "things", "gone", "mind", "all_taken", "way", "number", "some", "due"] "_law_deed" (defScope s_law_deed) f cdv A outer s H E) (fun cls d _ H => E cls d H) := takes_of rfl rfl rfl rfl
  exact (fss_cons (fs_set (i := 7) sc_law_deed.nd rfl (Or.inl rfl) (fe_call tk0 (h_law_take T) (hr.mono (by trivial)) rfl (fa_cons (fe_var 0 (pv 0)) (fa_cons (fe_c pe_int fun _ _ => .int _) fa_nil))))
    (fss_cons (fs_if (PW.pt (fw_and (ft_cmp (op_lt.or (op_ltT hr.units0)) opl_lt (fe_var 7 (pv 7)) (fe_c pe_int fun _ _ => .int _) (nomark _)) (fw_and1 (ft_cmp (op_lt.or (op_ltT hr.units0)) opl_lt (fe_b ((call_len_seq.or call_len_str).or call_lenD) bl_len rfl T.b_len PySem.boot_len (fa_cons (fe_var 3 (pv 3)) fa_nil)) (fe_c pe_int fun _ _ => .int _) (nomark _)))))
    (fss_cons (fs_expr (fe_bm PySem.F.plainAttrs_list PySem.F.slot_list_append PySem.F.type_list_append mt_append ml_append (fe_var 3 (pv 3)) (fa_cons (fe_call tk0 (h_law_thing T) (hr.mono (by trivial)) rfl (fa_cons (fe_var 0 (pv 0)) fa_nil)) fa_nil)))
    (fss_one (fs_ret (fe_tup (fa_cons (fe_call tk0 (h_law_same T 24) (hr.mono (by trivial)) rfl (fa_cons (fe_methA tk0 (h_Outgoing_put T) (hr.mono (by trivial)) (fe_var 1 (pv 1)) (fa_cons (fe_ix hu (fe_var 3 (pv 3)) (fe_neg (fe_c pe_int fun _ _ => .int _))) fa_nil)) (fa_cons (fe_op op_sub opl_sub (fe_b ((call_len_seq.or call_len_str).or call_lenD) bl_len rfl T.b_len PySem.boot_len (fa_cons (fe_var 3 (pv 3)) fa_nil)) (fe_c pe_int fun _ _ => .int _)) fa_nil))) (fa_cons (fe_var 4 (pv 4)) fa_nil))))))
    fss_nil)
    (fss_cons (fs_if (PW.pt (fw_and (ft_cmp (op_lt.or (op_ltT hr.units0)) opl_lt (fe_var 7 (pv 7)) (fe_c pe_int fun _ _ => .int _) (nomark _)) (fw_and1 (ft_cmp op_gt opl_cmp (fe_b ((call_len_seq.or call_len_str).or call_lenD) bl_len rfl T.b_len PySem.boot_len (fa_cons (fe_var 3 (pv 3)) fa_nil)) (fe_c pe_int fun _ _ => .int _) (nomark _)))))
    (fss_cons (fs_set (i := 8) sc_law_deed.nd rfl (Or.inl rfl) (fe_call tk0 (h_law_take T) (hr.mono (by trivial)) rfl (fa_cons (fe_var 0 (pv 0)) (fa_cons (fe_b ((call_len_seq.or call_len_str).or call_lenD) bl_len rfl T.b_len PySem.boot_len (fa_cons (fe_var 3 (pv 3)) fa_nil)) fa_nil))))
    (fss_cons (fs_set (i := 9) sc_law_deed.nd rfl (Or.inl rfl) (fe_methA tk0 (h_Incoming_take T) (hr.mono (by trivial)) (fe_var 2 (pv 2)) (fa_cons (fe_var 8 (pv 8)) (fa_cons (fe_ix hu (fe_var 3 (pv 3)) (fe_var 8 (pv 8))) fa_nil))))
    (fss_cons (fs_set (i := 10) sc_law_deed.nd rfl (Or.inl rfl) (fe_call tk0 (h_law_heard T) (hr.mono (by trivial)) rfl (fa_cons (fe_var 5 (pv 5)) (fa_cons (fe_var 8 (pv 8)) (fa_cons (fe_ix hu (fe_var 3 (pv 3)) (fe_var 8 (pv 8))) fa_nil)))))
    (fss_cons (fs_expr (fe_bm PySem.F.plainAttrs_list PySem.F.slot_list_extend PySem.F.type_list_extend (MtR.or mt_extend mt_extendT) ml_extend (fe_var 6 (pv 6)) (fa_cons (fe_var 10 (pv 10)) fa_nil)))
    (fss_one (fs_ret (fe_tup (fa_cons (fe_call tk0 (h_law_same T 24) (hr.mono (by trivial)) rfl (fa_cons (fe_var 9 (pv 9)) (fa_cons (fe_var 10 (pv 10)) fa_nil))) (fa_cons (fe_var 4 (pv 4)) fa_nil)))))))))
    fss_nil)
    (fss_cons (fs_set (i := 8) sc_law_deed.nd rfl (Or.inl rfl) (fe_call tk0 (h_law_take T) (hr.mono (by trivial)) rfl (fa_cons (fe_var 0 (pv 0)) (fa_cons (fe_op ((op_add.or op_catA).or op_cat) opl_add (fe_ix hu (fe_var 5 (pv 5)) (fe_c pe_str fun _ _ => .str _)) (fe_c pe_int fun _ _ => .int _)) fa_nil))))
    (fss_cons (fs_set (i := 10) sc_law_deed.nd rfl (Or.inl rfl) (fe_b (call_max2 rfl) bl_max2 rfl T.b_max (by decide +kernel) (fa_cons (fe_c pe_int fun _ _ => .int _) (fa_cons (fe_op op_sub opl_sub (fe_var 8 (pv 8)) (fe_var 4 (pv 4))) fa_nil))))
    (fss_one (fs_ret (fe_tup (fa_cons (fe_call tk0 (h_law_same T 24) (hr.mono (by trivial)) rfl (fa_cons (fe_methA tk0 (h_Outgoing_known T) (hr.mono (by trivial)) (fe_var 1 (pv 1)) (fa_cons (fe_var 8 (pv 8)) fa_nil)) (fa_cons (fe_var 10 (pv 10)) fa_nil))) (fa_cons (fe_b (call_max2 rfl) bl_max2 rfl T.b_max (by decide +kernel) (fa_cons (fe_var 4 (pv 4)) (fa_cons (fe_var 8 (pv 8)) fa_nil))) fa_nil)))))))))))
theorem h_law_drained (T : Fx P w K mg base) : HasF P w K mg base 4 "_law_drained" ["out", "end", "many"] F_law_drained :=
  mk_hasF T.f_law_drained sc_law_drained (fun _ _ _ _ _ _ us hl => match us, hl with | [_, _, _], _ => rfl) (fun f cdv A outer s H E hr => by
  have hu := hu_of hr
  have tk0 : Takes (cxOf (L2.CX P w) P w K mg base ["out", "end", "many", "k", "number", "thing"] "_law_drained" (defScope s_law_drained) f cdv A outer s H E) (fun cls d _ H => E cls d H) := takes_of rfl rfl rfl rfl
  exact (fss_cons (fs_for (t := (.name 3)) (passes_of rfl) rfl (fi_rng1 rfl T.b_range (fa_cons (fe_op ((op_add.or op_catA).or op_cat) opl_add (fe_var 2 (pv 2)) (fe_c pe_int fun _ _ => .int _)) fa_nil)) (pg_name (i := 3) sc_law_drained.nd rfl (Or.inl rfl))
    (fss_cons (fs_if (ft_cmp ((op_eqD hr.units).or op_eq) opl_eq (fe_b ((call_len_seq.or call_len_str).or call_lenD) bl_len rfl T.b_len PySem.boot_len (fa_cons (fe_methA0 tk0 (h_Outgoing_waiting T) (hr.mono (by trivial)) (fe_var 0 (pv 0))) fa_nil)) (fe_c pe_int fun _ _ => .int _) (nomark _))
    (fss_one (fs_ret (fe_c pe_bl fun _ _ => .bl _)))
    fss_nil)
    (fss_cons (fs_asg (t := (.tup [(.name 4), (.name 5)])) (fe_ix hu (fe_methA0 tk0 (h_Outgoing_waiting T) (hr.mono (by trivial)) (fe_var 0 (pv 0))) (fe_c pe_int fun _ _ => .int _)) (pg_tup rfl (pgs_cons (pg_name (i := 4) sc_law_drained.nd rfl (Or.inl rfl)) (pgs_cons (pg_name (i := 5) sc_law_drained.nd rfl (Or.inl rfl)) pgs_nil))))
    (fss_cons (fs_expr (fe_methA tk0 (h_Incoming_take T) (hr.mono (by trivial)) (fe_var 1 (pv 1)) (fa_cons (fe_var 4 (pv 4)) (fa_cons (fe_var 5 (pv 5)) fa_nil))))
    (fss_one (fs_expr (fe_methA tk0 (h_Outgoing_known T) (hr.mono (by trivial)) (fe_var 0 (pv 0)) (fa_cons (fe_methA0 tk0 (h_Incoming_taken T) (hr.mono (by trivial)) (fe_var 1 (pv 1))) fa_nil))))))))
    (fss_one (fs_ret (fe_c pe_bl fun _ _ => .bl _)))))
theorem h_law (T : Fx P w K mg base) {f0 : Addr} {fd0 : FuncData} (F0 : Fun K "law" "law" s_law f0 fd0) : FnOk P w K mg base (L2.CX P w) 30 f0 fd0 ["script"] (spF K mg F_law) :=
  mk_okF F0 sc_law (fun f cdv A outer s H E hr => by
  have hu := hu_of hr
  have tk0 : Takes (cxOf (L2.CX P w) P w K mg base ["script", "hand", "out", "end", "things", "all_taken", "mind", "gone", "kept", "k", "right", "far", "told"] "law" (defScope s_law) f cdv A outer s H E) (fun cls d _ H => E cls d H) := takes_of rfl rfl rfl rfl
  exact (fss_cons (fs_set (i := 1) sc_law.nd rfl (Or.inl rfl) (fe_call tk0 (h_law_hand T) (hr.mono (by trivial)) rfl (fa_cons (fe_var 0 (pv 0)) fa_nil)))
    (fss_cons (fs_set (i := 2) sc_law.nd rfl (Or.inl rfl) (fe_makeA0 tk0 (h_Outgoing___init__ T) (hr.mono (by trivial)) rfl))
    (fss_cons (fs_set (i := 3) sc_law.nd rfl (Or.inl rfl) (fe_makeA0 tk0 (h_Incoming___init__ T) (hr.mono (by trivial)) rfl))
    (fss_cons (fs_set (i := 4) sc_law.nd rfl (Or.inl rfl) (fe_lst fa_nil))
    (fss_cons (fs_set (i := 5) sc_law.nd rfl (Or.inl rfl) (fe_lst fa_nil))
    (fss_cons (fs_set (i := 6) sc_law.nd rfl (Or.inl rfl) (fe_disp (fk_cons (fe_c pe_str fun _ _ => .str _) (fe_c pe_int fun _ _ => .int _) (fk_cons (fe_c pe_str fun _ _ => .str _) fe_dic0 fk_nil)) (by rfl) (by rfl) (fun z => by cases z) (by decide)))
    (fss_cons (fs_set (i := 7) sc_law.nd rfl (Or.inl rfl) (fe_c pe_int fun _ _ => .int _))
    (fss_cons (fs_set (i := 8) sc_law.nd rfl (Or.inl rfl) (fe_c pe_non fun _ _ => .non))
    (fss_cons (fs_for (t := (.name 9)) (passes_of rfl) rfl (fi_rng1 rfl T.b_range (fa_cons (fe_call tk0 (h_law_pick T) (hr.mono (by trivial)) rfl (fa_cons (fe_var 1 (pv 1)) (fa_cons (fe_lst (fa_cons (fe_c pe_int fun _ _ => .int _) (fa_cons (fe_c pe_int fun _ _ => .int _) (fa_cons (fe_c pe_int fun _ _ => .int _) fa_nil)))) fa_nil))) fa_nil)) (pg_name (i := 9) sc_law.nd rfl (Or.inl rfl))
    (fss_cons (fs_asg (t := (.tup [(.name 10), (.name 7)])) (fe_call tk0 (h_law_deed T) (hr.mono (by trivial)) rfl (fa_cons (fe_var 1 (pv 1)) (fa_cons (fe_var 2 (pv 2)) (fa_cons (fe_var 3 (pv 3)) (fa_cons (fe_var 4 (pv 4)) (fa_cons (fe_var 7 (pv 7)) (fa_cons (fe_var 6 (pv 6)) (fa_cons (fe_var 5 (pv 5)) fa_nil)))))))) (pg_tup rfl (pgs_cons (pg_name (i := 10) sc_law.nd rfl (Or.inl rfl)) (pgs_cons (pg_name (i := 7) sc_law.nd rfl (Or.inl rfl)) pgs_nil))))
    (fss_cons (fs_if (PW.pt (fw_or (ft_not (ft_val (fe_var 10 (pv 10)))) (fw_or1 (ft_not (ft_val (fe_call tk0 (h_law_ends_right T) (hr.mono (by trivial)) rfl (fa_cons (fe_var 2 (pv 2)) (fa_cons (fe_var 3 (pv 3)) (fa_cons (fe_var 4 (pv 4)) (fa_cons (fe_var 7 (pv 7)) (fa_cons (fe_var 6 (pv 6)) fa_nil)))))))))))
    (fss_one (fs_ret (fe_c pe_bl fun _ _ => .bl _)))
    fss_nil)
    (fss_cons (fs_if (PW.pt (fw_or (ft_cmp ((op_neD hr.units).or op_ne) opl_ne (fe_var 5 (pv 5)) (fe_sl (fe_var 4 (pv 4)) fo_none (fo_some (fe_b ((call_len_seq.or call_len_str).or call_lenD) bl_len rfl T.b_len PySem.boot_len (fa_cons (fe_var 5 (pv 5)) fa_nil)))) (nomark _)) (fw_or1 (ft_cmp ((op_neD hr.units).or op_ne) opl_ne (fe_b ((call_len_seq.or call_len_str).or call_lenD) bl_len rfl T.b_len PySem.boot_len (fa_cons (fe_var 5 (pv 5)) fa_nil)) (fe_ix hu (fe_var 6 (pv 6)) (fe_c pe_str fun _ _ => .str _)) (nomark _)))))
    (fss_one (fs_ret (fe_c pe_bl fun _ _ => .bl _)))
    fss_nil)
    (fss_one (fs_if (ft_cmp ((op_eqD hr.units).or op_eq) opl_eq (fe_call tk0 (h_law_take T) (hr.mono (by trivial)) rfl (fa_cons (fe_var 1 (pv 1)) (fa_cons (fe_c pe_int fun _ _ => .int _) fa_nil))) (fe_c pe_int fun _ _ => .int _) (nomark _))
    (fss_cons (fs_set (i := 8) sc_law.nd rfl (Or.inl rfl) (fe_tup (fa_cons (fe_altM (fe_methA0 tk0 (h_Outgoing_copy T) (hr.mono (by trivial)) (fe_var 2 (pv 2))) (fe_methA0 tk0 (h_Incoming_copy T) (hr.mono (by trivial)) (fe_var 2 (pv 2)))) (fa_cons (fe_altM (fe_methA0 tk0 (h_Outgoing_copy T) (hr.mono (by trivial)) (fe_var 3 (pv 3))) (fe_methA0 tk0 (h_Incoming_copy T) (hr.mono (by trivial)) (fe_var 3 (pv 3)))) (fa_cons (fe_bT (call_list_of.or (call_listD rfl)) bl_list rfl T.b_list (by decide +kernel) (fa_cons (fe_var 4 (pv 4)) fa_nil)) (fa_cons (fe_var 7 (pv 7)) (fa_cons (fe_disp (fk_cons (fe_c pe_str fun _ _ => .str _) (fe_ix hu (fe_var 6 (pv 6)) (fe_c pe_str fun _ _ => .str _)) (fk_cons (fe_c pe_str fun _ _ => .str _) (fe_bT call_dictD bl_dict rfl T.b_dict (by decide +kernel) (fa_cons (fe_ix hu (fe_var 6 (pv 6)) (fe_c pe_str fun _ _ => .str _)) fa_nil)) fk_nil)) (by rfl) (by rfl) (fun z => by cases z) (by decide)) fa_nil)))))))
    (fss_cons (fs_set (i := 11) sc_law.nd rfl (Or.inl rfl) (fe_op ((op_add.or op_catA).or op_cat) opl_add (fe_op ((op_add.or op_catA).or op_cat) opl_add (fe_methA0 tk0 (h_Incoming_taken T) (hr.mono (by trivial)) (fe_var 3 (pv 3))) (fe_c pe_int fun _ _ => .int _)) (fe_call tk0 (h_law_take T) (hr.mono (by trivial)) rfl (fa_cons (fe_var 1 (pv 1)) (fa_cons (fe_c pe_int fun _ _ => .int _) fa_nil)))))
    (fss_one (fs_if (PW.pt (fw_or (ft_cmp ((op_neD hr.units).or op_ne) opl_ne (fe_methA tk0 (h_Incoming_take T) (hr.mono (by trivial)) (fe_var 3 (pv 3)) (fa_cons (fe_var 11 (pv 11)) (fa_cons (fe_tup (fa_cons (fe_c pe_str fun _ _ => .str _) fa_nil)) fa_nil))) (fe_lst fa_nil) (nomark _)) (fw_or1 (ft_cmp ((op_neD hr.units).or op_ne) opl_ne (fe_methA0 tk0 (h_Incoming_held T) (hr.mono (by trivial)) (fe_var 3 (pv 3))) (fe_bT call_tuple_of bl_tuple rfl T.b_tuple (by decide +kernel) (fa_cons (fe_b (((cr_sortedI.or cr_sortedPO).or (call_sortedDA rfl)).or (call_sortedDP rfl)) bl_sorted rfl T.b_sorted (by decide +kernel) (fa_cons (fe_keys rfl rfl T.b_list (fe_ix hu (fe_var 6 (pv 6)) (fe_c pe_str fun _ _ => .str _))) fa_nil)) fa_nil)) (nomark _)))))
    (fss_one (fs_ret (fe_c pe_bl fun _ _ => .bl _)))
    fss_nil))))
    fss_nil))))))
    (fss_cons (fs_if (PW.pt (fw_or (ft_not (ft_val (fe_call tk0 (h_law_drained T) (hr.mono (by trivial)) rfl (fa_cons (fe_var 2 (pv 2)) (fa_cons (fe_var 3 (pv 3)) (fa_cons (fe_b ((call_len_seq.or call_len_str).or call_lenD) bl_len rfl T.b_len PySem.boot_len (fa_cons (fe_var 4 (pv 4)) fa_nil)) fa_nil)))))) (fw_or (ft_cmp ((op_neD hr.units).or op_ne) opl_ne (fe_methA0 tk0 (h_Incoming_taken T) (hr.mono (by trivial)) (fe_var 3 (pv 3))) (fe_b ((call_len_seq.or call_len_str).or call_lenD) bl_len rfl T.b_len PySem.boot_len (fa_cons (fe_var 4 (pv 4)) fa_nil)) (nomark _)) (fw_or1 (ft_cmp ((op_neD hr.units).or op_ne) opl_ne (fe_methA0 tk0 (h_Incoming_held T) (hr.mono (by trivial)) (fe_var 3 (pv 3))) (fe_tup fa_nil) (nomark _))))))
    (fss_one (fs_ret (fe_c pe_bl fun _ _ => .bl _)))
    fss_nil)
    (fss_cons (fs_if (ft_cmpC (fc_notN (fe_var 8 (pv 8))))
    (fss_one (fs_if (PW.pt (fw_or (ft_not (ft_val (fe_call tk0 (h_law_ends_right T) (hr.mono (by trivial)) rfl (fa_cons (fe_ix hu (fe_var 8 (pv 8)) (fe_c pe_int fun _ _ => .int _)) (fa_cons (fe_ix hu (fe_var 8 (pv 8)) (fe_c pe_int fun _ _ => .int _)) (fa_cons (fe_ix hu (fe_var 8 (pv 8)) (fe_c pe_int fun _ _ => .int _)) (fa_cons (fe_ix hu (fe_var 8 (pv 8)) (fe_c pe_int fun _ _ => .int _)) (fa_cons (fe_ix hu (fe_var 8 (pv 8)) (fe_c pe_int fun _ _ => .int _)) fa_nil)))))))) (fw_or1 (ft_not (ft_val (fe_call tk0 (h_law_drained T) (hr.mono (by trivial)) rfl (fa_cons (fe_ix hu (fe_var 8 (pv 8)) (fe_c pe_int fun _ _ => .int _)) (fa_cons (fe_ix hu (fe_var 8 (pv 8)) (fe_c pe_int fun _ _ => .int _)) (fa_cons (fe_b ((call_len_seq.or call_len_str).or call_lenD) bl_len rfl T.b_len PySem.boot_len (fa_cons (fe_ix hu (fe_var 8 (pv 8)) (fe_c pe_int fun _ _ => .int _)) fa_nil)) fa_nil)))))))))
    (fss_one (fs_ret (fe_c pe_bl fun _ _ => .bl _)))
    fss_nil))
    fss_nil)
    (fss_cons (fs_set (i := 12) sc_law.nd rfl (Or.inl rfl) (fe_methA0 tk0 (h_Outgoing_waiting T) (hr.mono (by trivial)) (fe_var 2 (pv 2))))
    (fss_cons (fs_expr (fe_bm PySem.F.plainAttrs_list PySem.F.slot_list_append PySem.F.type_list_append mt_append ml_append (fe_var 12 (pv 12)) (fa_cons (fe_tup (fa_cons (fe_c pe_int fun _ _ => .int _) (fa_cons (fe_tup fa_nil) fa_nil))) fa_nil)))
    (fss_one (fs_ret (fe_and (fe_cmp ((op_eqD hr.units).or op_eq) opl_eq (fe_methA0 tk0 (h_Outgoing_waiting T) (hr.mono (by trivial)) (fe_var 2 (pv 2))) (fe_lst fa_nil) (nomark _)) (fe_one (fe_call tk0 (h_law_same T 24) (hr.mono (by trivial)) rfl (fa_cons (fe_methA tk0 (h_Outgoing_known T) (hr.mono (by trivial)) (fe_var 2 (pv 2)) (fa_cons (fe_c pe_int fun _ _ => .int _) fa_nil)) (fa_cons (fe_c pe_int fun _ _ => .int _) fa_nil)))))))))))))))))))))
end
end KF
set_option Elab.async false
set_option linter.all false
set_option maxRecDepth 100000
set_option maxHeartbeats 4000000
namespace KF
open PySem PySem.Spec PyProof.Rows L2 KQ
theorem fin (LT : ∀ ns : List Int, ns.length ≤ 63 → ∃ S, F_law [.scr (ns.map D.int)] [] = .ok (.bl true) S) {P : Program} {w : World} {K : PySem.W.Frag} {mg : Str → Option Value} {h : Heap} {fa : Addr} {C_Incoming C_NoNumber C_Outgoing : Addr} (X : K.In h) (G : h.Ns mainGlobals mg) (hfa : mg "law" = some (.ref fa))
    (b_bool : mg "bool" = none)
    (b_dict : mg "dict" = none)
    (b_enumerate : mg "enumerate" = none)
    (b_int : mg "int" = none)
    (b_isinstance : mg "isinstance" = none)
    (b_len : mg "len" = none)
    (b_list : mg "list" = none)
    (b_max : mg "max" = none)
    (b_range : mg "range" = none)
    (b_sorted : mg "sorted" = none)
    (b_str : mg "str" = none)
    (b_tuple : mg "tuple" = none)
    (b_zip : mg "zip" = none)
    (x_NoNumber : ExcAt K mg "NoNumber" C_NoNumber)
    (gc_Outgoing : PySem.W.nsIn K mainGlobals "Outgoing" = some (some (.ref C_Outgoing)))
    (cls_Outgoing : Cls K C_Outgoing)
    (gc_Incoming : PySem.W.nsIn K mainGlobals "Incoming" = some (some (.ref C_Incoming)))
    (cls_Incoming : Cls K C_Incoming)
    (f_is_number : FunAt K mg "is_number" s_is_number)
    (f_is_below : FunAt K mg "is_below" s_is_below)
    (f_Outgoing___init__ : InitAt K mg "Outgoing" C_Outgoing "Outgoing.__init__" s_Outgoing___init__)
    (f_Outgoing_many_put : MethAt K C_Outgoing "many_put" "Outgoing.many_put" s_Outgoing_many_put)
    (f_Outgoing_put : MethAt K C_Outgoing "put" "Outgoing.put" s_Outgoing_put)
    (f_Outgoing_known : MethAt K C_Outgoing "known" "Outgoing.known" s_Outgoing_known)
    (f_Outgoing_waiting : MethAt K C_Outgoing "waiting" "Outgoing.waiting" s_Outgoing_waiting)
    (f_Outgoing_state : MethAt K C_Outgoing "state" "Outgoing.state" s_Outgoing_state)
    (f_outgoing_with : FunAt K mg "outgoing_with" s_outgoing_with)
    (f_Outgoing_copy : MethAt K C_Outgoing "copy" "Outgoing.copy" s_Outgoing_copy)
    (f_Incoming___init__ : InitAt K mg "Incoming" C_Incoming "Incoming.__init__" s_Incoming___init__)
    (f_Incoming_take : MethAt K C_Incoming "take" "Incoming.take" s_Incoming_take)
    (f_Incoming_taken : MethAt K C_Incoming "taken" "Incoming.taken" s_Incoming_taken)
    (f_Incoming_held : MethAt K C_Incoming "held" "Incoming.held" s_Incoming_held)
    (f_Incoming_state : MethAt K C_Incoming "state" "Incoming.state" s_Incoming_state)
    (f_incoming_with : FunAt K mg "incoming_with" s_incoming_with)
    (f_Incoming_copy : MethAt K C_Incoming "copy" "Incoming.copy" s_Incoming_copy)
    (f_law_hand : FunAt K mg "_law_hand" s_law_hand)
    (f_law_take : FunAt K mg "_law_take" s_law_take)
    (f_law_pick : FunAt K mg "_law_pick" s_law_pick)
    (f_law_is_integer : FunAt K mg "_law_is_integer" s_law_is_integer)
    (f_law_same : FunAt K mg "_law_same" s_law_same)
    (f_law_item : FunAt K mg "_law_item" s_law_item)
    (f_law_thing : FunAt K mg "_law_thing" s_law_thing)
    (f_law_heard : FunAt K mg "_law_heard" s_law_heard)
    (f_law_ends_right : FunAt K mg "_law_ends_right" s_law_ends_right)
    (f_law_deed : FunAt K mg "_law_deed" s_law_deed)
    (f_law_drained : FunAt K mg "_law_drained" s_law_drained)
    (g_HELD_AHEAD : GI mg "HELD_AHEAD" (1000))
    (g_NUMBERS : GI mg "NUMBERS" (4294967296))
    (na_Outgoing_let_go : NoAttr K C_Outgoing "let_go")
    (na_Outgoing_things : NoAttr K C_Outgoing "things")
    (na_Incoming_due : NoAttr K C_Incoming "due")
    (na_Incoming_early : NoAttr K C_Incoming "early")
    (L0 : FunAt K mg "law" s_law) : ∃ fd : FuncData, (∀ (s : Shared) (u : Value), BindsTo s fd ⟨[u], []⟩ [("script", u)]) ∧ ∀ base : Heap, FnOk P w K mg base CX0 30 fa fd ["script"] (spLaw K) := by
  obtain ⟨f0, fd0, F0, m0⟩ := L0
  have L1 : FunAt K mg "law" s_law := ⟨f0, fd0, F0, m0⟩
  rw [hfa] at m0
  cases m0
  refine ⟨fd0, fun s u => ?_, fun base => ?_⟩
  · obtain ⟨oc, od, kV, doc, pm, an, cdv, ct, osl, rfl, _, _⟩ := F0.ex
    exact .of_eq rfl
  have m_NoNumber : mg "NoNumber" = some (.ref C_NoNumber) := (x_NoNumber).g
  have gm_Outgoing := PySem.W.mg_of X G gc_Outgoing
  have gm_Incoming := PySem.W.mg_of X G gc_Incoming
  have T : Fx P w K mg base := { b_bool := b_bool, b_dict := b_dict, b_enumerate := b_enumerate, b_int := b_int, b_isinstance := b_isinstance, b_len := b_len, b_list := b_list, b_max := b_max, b_range := b_range, b_sorted := b_sorted, b_str := b_str, b_tuple := b_tuple, b_zip := b_zip, x_NoNumber := ⟨_, x_NoNumber⟩, c_Outgoing := ⟨_, gm_Outgoing⟩, c_Incoming := ⟨_, gm_Incoming⟩, f_is_number := f_is_number, f_is_below := f_is_below, f_Outgoing___init__ := ⟨_, f_Outgoing___init__⟩, f_Outgoing_many_put := ⟨_, gm_Outgoing, cls_Outgoing, f_Outgoing_many_put⟩, f_Outgoing_put := ⟨_, gm_Outgoing, cls_Outgoing, f_Outgoing_put⟩, f_Outgoing_known := ⟨_, gm_Outgoing, cls_Outgoing, f_Outgoing_known⟩, f_Outgoing_waiting := ⟨_, gm_Outgoing, cls_Outgoing, f_Outgoing_waiting⟩, f_Outgoing_state := ⟨_, gm_Outgoing, cls_Outgoing, f_Outgoing_state⟩, f_outgoing_with := f_outgoing_with, f_Outgoing_copy := ⟨_, gm_Outgoing, cls_Outgoing, f_Outgoing_copy⟩, f_Incoming___init__ := ⟨_, f_Incoming___init__⟩, f_Incoming_take := ⟨_, gm_Incoming, cls_Incoming, f_Incoming_take⟩, f_Incoming_taken := ⟨_, gm_Incoming, cls_Incoming, f_Incoming_taken⟩, f_Incoming_held := ⟨_, gm_Incoming, cls_Incoming, f_Incoming_held⟩, f_Incoming_state := ⟨_, gm_Incoming, cls_Incoming, f_Incoming_state⟩, f_incoming_with := f_incoming_with, f_Incoming_copy := ⟨_, gm_Incoming, cls_Incoming, f_Incoming_copy⟩, f_law_hand := f_law_hand, f_law_take := f_law_take, f_law_pick := f_law_pick, f_law_is_integer := f_law_is_integer, f_law_same := f_law_same, f_law_item := f_law_item, f_law_thing := f_law_thing, f_law_heard := f_law_heard, f_law_ends_right := f_law_ends_right, f_law_deed := f_law_deed, f_law_drained := f_law_drained, g_HELD_AHEAD := g_HELD_AHEAD, g_NUMBERS := g_NUMBERS, fld_let_go := (all_cons (fun a h => by rw [gm_Outgoing] at h; cases h; exact ⟨cls_Outgoing, na_Outgoing_let_go⟩) all_nil), fld_things := (all_cons (fun a h => by rw [gm_Outgoing] at h; cases h; exact ⟨cls_Outgoing, na_Outgoing_things⟩) all_nil), fld_due := (all_cons (fun a h => by rw [gm_Incoming] at h; cases h; exact ⟨cls_Incoming, na_Incoming_due⟩) all_nil), fld_early := (all_cons (fun a h => by rw [gm_Incoming] at h; cases h; exact ⟨cls_Incoming, na_Incoming_early⟩) all_nil), isi := ⟨all_nil, all_nil, all_nil⟩, f_law := L1 }
  exact law_ok (h_law T F0) LT
end KF
local macro_rules | `(tactic| walk_at "kf fun") => `(tactic| (refine' KQ.funAt_of (by assumption) (by assumption) ?a ?l ?c ?k; (case a => k_is); (case l => k_is); (case c => k_is); (case k => k_is)))
local macro_rules | `(tactic| walk_at "kf meth") => `(tactic| (refine' KQ.methAt_of ?a ?i ?l ?c ?k; (case a => k_is); (case i => k_is); (case l => k_is); (case c => k_is); (case k => k_is)))
local macro_rules | `(tactic| walk_at "kf init") => `(tactic| (refine' KQ.initAt_of (by assumption) (by assumption) ?aC ?mk ?kC ?a ?i ?l ?c ?k; (case aC => k_is); (case mk => k_is); (case kC => k_is); (case a => k_is); (case i => k_is); (case l => k_is); (case c => k_is); (case k => k_is)))
local macro_rules | `(tactic| walk_at "kf free") => `(tactic| (refine' KQ.free_of (by assumption) (by assumption) ?e; (case e => k_is)))
local macro_rules | `(tactic| walk_at "kf cls") => `(tactic| (refine' ⟨?a, ?b, ?c, ?d⟩; (case a => k_is); (case b => k_is); (case c => k_is); (case d => k_is)))
local macro_rules | `(tactic| walk_at "kf kit") => `(tactic| k_is)
local macro_rules | `(tactic| walk_at "kf exc") => `(tactic| (refine' KQ.excAt_of (by assumption) (by assumption) ?a ?kp ?ex ?sub ?ty ?own ?isC; (case a => k_is); (case kp => k_is); (case ex => k_exc); (case sub => k_is); (case ty => k_is); (case own => first | rfl | k_is); (case isC => k_is)))
open PySem PySem.W PyProof.Rows L2 KQ KF PySem.Spec in
set_option maxRecDepth 100000 in
set_option maxHeartbeats 0 in
theorem PySem.Challenge.cw_knownquiet_k07_whole_links_take_each_thi_holds : PySem.Challenge.rw_knownquiet_k07_whole_links_take_each_thi.Holds := by
  w_on; o_law; k_head; (case hw => w_witness2)
  k_fill
  refine KF.walkF (l := PySem.Challenge.rw_knownquiet_k07_whole_links_take_each_thi) (k := 30) rfl rfl ⟨rfl, by decide, by decide⟩ (fun w h Y => PySem.W.kIn_of Y) ?F
  case F =>
    intro w mg fa h KX G hX hmg
    refine' KF.fin KF.law_true KX G hmg ?b_bool ?b_dict ?b_enumerate ?b_int ?b_isinstance ?b_len ?b_list ?b_max ?b_range ?b_sorted ?b_str ?b_tuple ?b_zip ?x_NoNumber ?gc_Outgoing ?cls_Outgoing ?gc_Incoming ?cls_Incoming ?f_is_number ?f_is_below ?f_Outgoing___init__ ?f_Outgoing_many_put ?f_Outgoing_put ?f_Outgoing_known ?f_Outgoing_waiting ?f_Outgoing_state ?f_outgoing_with ?f_Outgoing_copy ?f_Incoming___init__ ?f_Incoming_take ?f_Incoming_taken ?f_Incoming_held ?f_Incoming_state ?f_incoming_with ?f_Incoming_copy ?f_law_hand ?f_law_take ?f_law_pick ?f_law_is_integer ?f_law_same ?f_law_item ?f_law_thing ?f_law_heard ?f_law_ends_right ?f_law_deed ?f_law_drained ?g_HELD_AHEAD ?g_NUMBERS ?na_Outgoing_let_go ?na_Outgoing_things ?na_Incoming_due ?na_Incoming_early ?L0
    case b_bool => walk_at "kf free"
    case b_dict => walk_at "kf free"
    case b_enumerate => walk_at "kf free"
    case b_int => walk_at "kf free"
    case b_isinstance => walk_at "kf free"
    case b_len => walk_at "kf free"
    case b_list => walk_at "kf free"
    case b_max => walk_at "kf free"
    case b_range => walk_at "kf free"
    case b_sorted => walk_at "kf free"
    case b_str => walk_at "kf free"
    case b_tuple => walk_at "kf free"
    case b_zip => walk_at "kf free"
    case x_NoNumber => walk_at "kf exc"
    case gc_Outgoing => k_is
    case cls_Outgoing => walk_at "kf cls"
    case gc_Incoming => k_is
    case cls_Incoming => walk_at "kf cls"
    case f_is_number => walk_at "kf fun"
    case f_is_below => walk_at "kf fun"
    case f_Outgoing___init__ => walk_at "kf init"
    case f_Outgoing_many_put => walk_at "kf meth"
    case f_Outgoing_put => walk_at "kf meth"
    case f_Outgoing_known => walk_at "kf meth"
    case f_Outgoing_waiting => walk_at "kf meth"
    case f_Outgoing_state => walk_at "kf meth"
    case f_outgoing_with => walk_at "kf fun"
    case f_Outgoing_copy => walk_at "kf meth"
    case f_Incoming___init__ => walk_at "kf init"
    case f_Incoming_take => walk_at "kf meth"
    case f_Incoming_taken => walk_at "kf meth"
    case f_Incoming_held => walk_at "kf meth"
    case f_Incoming_state => walk_at "kf meth"
    case f_incoming_with => walk_at "kf fun"
    case f_Incoming_copy => walk_at "kf meth"
    case f_law_hand => walk_at "kf fun"
    case f_law_take => walk_at "kf fun"
    case f_law_pick => walk_at "kf fun"
    case f_law_is_integer => walk_at "kf fun"
    case f_law_same => walk_at "kf fun"
    case f_law_item => walk_at "kf fun"
    case f_law_thing => walk_at "kf fun"
    case f_law_heard => walk_at "kf fun"
    case f_law_ends_right => walk_at "kf fun"
    case f_law_deed => walk_at "kf fun"
    case f_law_drained => walk_at "kf fun"
    case g_HELD_AHEAD => (refine' KF.gi_of (by assumption) (by assumption) ?l; (case l => k_is))
    case g_NUMBERS => (obtain ⟨v, e, r⟩ := hX.2.val (PySem.Str.ofString "NUMBERS", WData.int (4294967296)) (by simp); cases r; exact ⟨_, e⟩)
    case na_Outgoing_let_go => (show PySem.W.findIn _ (.ref _) _ = some none; k_is)
    case na_Outgoing_things => (show PySem.W.findIn _ (.ref _) _ = some none; k_is)
    case na_Incoming_due => (show PySem.W.findIn _ (.ref _) _ = some none; k_is)
    case na_Incoming_early => (show PySem.W.findIn _ (.ref _) _ = some none; k_is)
    case L0 => walk_at "kf fun"
