import PyProof.Rows.All
import Wide.All
import OpenK.AllK
import Wide.FinOn
import HandS.ForMost
import HandS.DictComp
import HandS.IsInst
import HandS.Property
import HandS.Evl
import HandS.Walk
import HandS.TupAny
import HandS.Deep
import HandS.NoneIn
import KE.GoesZip
import KE.GoesMore
import HandS.Zip
import HandS.Dict
import HandS.SortRule
import HandS.List
import KE.SortData
import HandS.Defaults
import PyProof.ReprRoads
import PyProof.ReprLen
import HandS.Style
import HandS.Conv
import HandS.SortInts
import HandS.TupSets
import PyProof.CallFns
import HandS.TupMul
import HandS.Iter
import KE.DataMinMax
import KE.KTupSum
import HandS.Wide
import HandS.WideBits
import HandS.Codes
import HandS.Ends
import HandS.EndBits
import PySem.Challenge.RW_lanekeepers_k75_whole_rounds_all_stands
set_option Elab.async false
set_option linter.all false
set_option maxRecDepth 100000
set_option maxHeartbeats 4000000
/-! what a reading evaluates to, with what is true of it behind (P: value, heap ahead, heap behind) -/
namespace Ep
open PySem PySem.Spec PyProof.Rows L2
open Evl (Ex Ev EvT EvA EvL EvU)
def rLenA (K : PySem.W.Frag) : List V → Hp → VK → Prop := fun xs H Q => ∃ x n, xs = [x] ∧ LenV K x H n ∧ Q (V.int ↑n) H
def rListOf (K : PySem.W.Frag) : List V → Hp → VK → Prop := fun xs H Q => ∃ p ys, xs = [V.ref p] ∧ (SqL K H p ys ∨ SqT K H p ys) ∧ ∀ (l : Addr), H l = none → Q (V.ref l) (upd H l (HO.lst ys))
def rTupOf (K : PySem.W.Frag) : List V → Hp → VK → Prop := fun xs H Q => ∃ p ys, xs = [V.ref p] ∧ ((SqL K H p ys ∧ ∀ (l : Addr), H l = none → Q (V.ref l) (upd H l (HO.tup ys))) ∨ SqT K H p ys ∧ Q (V.ref p) H)
abbrev VP := V → Hp → Hp → Prop
def EvP (te : TE) (σ : L2.St) (H : Hp) (P : VP) : Prop := ∀ H1, Ex H H1 → ∀ Q : VK, (∀ v H2, Ex H1 H2 → P v H1 H2 → Q v H2) → te σ H1 Q
def EvAP (ta : TA) (σ : L2.St) (H : Hp) (P : List V → Hp → Hp → Prop) : Prop := ∀ H1, Ex H H1 → ∀ Q : List V → Hp → Prop, (∀ vs H2, Ex H1 H2 → P vs H1 H2 → Q vs H2) → ta σ H1 Q
def NewL (xs : List V) : VP := fun v H1 H2 => ∃ p, v = .ref p ∧ H1 p = none ∧ H2 p = some (.lst xs)
def Is (z : V) : VP := fun v _ _ => v = z
section
variable {K : PySem.W.Frag} {σ : L2.St} {H H' : Hp} {te ta tb : TE} {P P' : VP} {z : V} {xs : List V}
theorem EvP.mono (e : Ex H H') (h : EvP te σ H P) : EvP te σ H' P := fun H1 a Q q => h H1 (e.trans a) Q q
theorem EvP.imp (h : EvP te σ H P) (k : ∀ v H1 H2, Ex H H1 → Ex H1 H2 → P v H1 H2 → P' v H1 H2) : EvP te σ H P' := fun H1 a Q q => h H1 a Q fun v H2 e p => q v H2 e (k v H1 H2 a e p)
theorem EvP.run (h : EvP te σ H P) {Q : VK} (q : ∀ v H2, Ex H H2 → P v H H2 → Q v H2) : te σ H Q := h H (Ex.refl H) Q q
theorem evp_ev (h : Ev te σ H z) : EvP te σ H (Is z) := fun H1 a Q q => h H1 a Q fun H2 e => q z H2 e rfl
theorem ev_evp (h : EvP te σ H (Is z)) : Ev te σ H z := fun H1 a Q q => h H1 a Q fun v H2 e p => by
  cases p
  exact q H2 e
theorem evp_L (h : EvL te σ H xs) : EvP te σ H (NewL xs) := fun H1 a Q q => h H1 a Q fun p H2 hp e k => q (.ref p) H2 e ⟨p, rfl, hp, k⟩
theorem ev_L (h : EvP te σ H (NewL xs)) : EvL te σ H xs := fun H1 a Q q => h H1 a Q fun v H2 e k => by
  obtain ⟨p, rfl, hp, k⟩ := k
  exact q p H2 hp e k
theorem evap_nil : EvAP tNil σ H (fun vs _ _ => vs = []) := fun H1 _ _ q => q _ H1 (Ex.refl H1) rfl
theorem evap_one (h : EvP te σ H P) : EvAP (tCons te tNil) σ H (fun vs H1 H2 => ∃ v, vs = [v] ∧ P v H1 H2) := fun H1 a Q q => h H1 a _ fun v H2 e p => q [v] H2 e ⟨v, rfl, p⟩
/-- a new list, told by what holds of its items -/
theorem evp_lst {ta : TA} {vs : List V} (h : EvA ta σ H vs) (hl : vs.length ≤ 100000) : EvP (tLst ta) σ H (NewL vs) := evp_L (Evl.el_lst h hl)
theorem evp_tup {ta : TA} {vs : List V} (h : EvA ta σ H vs) (hl : vs.length ≤ 100000) : EvP (tTup ta) σ H (fun v H1 H2 => ∃ p, v = .ref p ∧ H1 p = none ∧ H2 p = some (.tup vs)) := fun H1 a Q q =>
  Evl.eu_tup h hl H1 a Q fun p H2 hp e k => q _ H2 e ⟨p, rfl, hp, k⟩
theorem evp_call {sp : Sp} {dvs : List V} {E : XK} {ta : TA} {PA : List V → Hp → Hp → Prop} (h : EvAP ta σ H PA) (hs : ∀ vs H1 H2, Ex H H1 → Ex H1 H2 → PA vs H1 H2 → ∀ Q : VK, (∀ v H3, Ex H2 H3 → P v H1 H3 → Q v H3) → sp (vs ++ dvs) H2 Q E) : EvP (tCall sp dvs E ta) σ H P := fun H1 a Q q =>
  h H1 a _ fun vs H2 e p => hs vs H1 H2 a e p Q fun v H3 e3 p3 => q v H3 (e.trans e3) p3
theorem evp_callA {sp : Sp} {dvs vs : List V} {E : XK} {ta : TA} (h : EvA ta σ H vs) (hs : ∀ H2, Ex H H2 → ∀ Q : VK, (∀ v H3, Ex H2 H3 → P v H2 H3 → Q v H3) → sp (vs ++ dvs) H2 Q E) (hP : ∀ v H1 H2 H3, Ex H H1 → Ex H1 H2 → Ex H2 H3 → P v H2 H3 → P v H1 H3) : EvP (tCall sp dvs E ta) σ H P := fun H1 a Q q =>
  h H1 a _ fun H2 e => hs H2 (a.trans e) Q fun v H3 e3 p3 => q v H3 (e.trans e3) (hP v H1 H2 H3 a e e3 p3)
theorem newL_back {H1 H2 H3 : Hp} {v : V} (e : Ex H1 H2) (h : NewL xs v H2 H3) : NewL xs v H1 H3 := by
  obtain ⟨p, r, hp, k⟩ := h
  exact ⟨p, r, Evl.fresh_back e hp, k⟩
end
theorem cb_one {r : List V → Hp → VK → Prop} {te : TE} {σ : L2.St} {H : Hp} {P : VP} {Q : VK} (h : EvP te σ H P) (k : ∀ v H2, Ex H H2 → P v H H2 → r [v] H2 Q) : tCB r (tCons te tNil) σ H Q := h.run k
theorem evp_cb1 {r : List V → Hp → VK → Prop} {te : TE} {σ : L2.St} {H : Hp} {P P' : VP} (h : EvP te σ H P) (k : ∀ v H1 H2, Ex H H1 → Ex H1 H2 → P v H1 H2 → ∀ Q : VK, (∀ z H3, Ex H2 H3 → P' z H1 H3 → Q z H3) → r [v] H2 Q) : EvP (tCB r (tCons te tNil)) σ H P' := fun H1 a Q q =>
  h H1 a _ fun v H2 e p => k v H1 H2 a e p Q fun z H3 e3 p3 => q z H3 (e.trans e3) p3
section
variable {te ta tv : TE} {σ : L2.St} {H : Hp} {P : VP} {D : Ends} {tz tu tw : TS} {t : TT} {i : Nat}
theorem p_asg (h : EvP te σ H P) (k : ∀ v H1, Ex H H1 → P v H H1 → tz D (σ.set i (some v)) H1) : tSeq (tAsg te (gName i)) tz D σ H := h.run k
theorem p_asg1 (h : EvP te σ H P) (k : ∀ v H1, Ex H H1 → P v H H1 → D.nx (σ.set i (some v)) H1) : tAsg te (gName i) D σ H := h.run k
theorem p_asgG {g : TG} (h : EvP te σ H P) (k : ∀ v H1, Ex H H1 → P v H H1 → g v σ H1 fun σ' H' => tz D σ' H') : tSeq (tAsg te g) tz D σ H := h.run k
theorem p_ret (h : EvP te σ H P) (k : ∀ v H1, Ex H H1 → P v H H1 → D.rt v H1) : tRet te D σ H := h.run k
theorem p_drop (h : EvP te σ H P) (k : ∀ v H1, Ex H H1 → P v H H1 → tz D σ H1) : tSeq (tDrop te) tz D σ H := h.run k
theorem p_drop1 (h : EvP te σ H P) (k : ∀ v H1, Ex H H1 → P v H H1 → D.nx σ H1) : tDrop te D σ H := h.run k
theorem p_if {b : Bool} (h : EvT t σ H b) (h1 : b = true → ∀ H1, Ex H H1 → tu { D with nx := tz D } σ H1) (h2 : b = false → ∀ H1, Ex H H1 → tw { D with nx := tz D } σ H1) : tSeq (tIfS t tu tw) tz D σ H := Evl.q_if h h1 h2
/-- an if that is not gone into -/
theorem p_skip (h : EvT t σ H false) (k : ∀ H1, Ex H H1 → tz D σ H1) : tSeq (tIfS t tu tNext) tz D σ H := Evl.q_when h (fun z => nomatch z) (fun _ => k)
theorem p_skip1 (h : EvT t σ H false) (k : ∀ H1, Ex H H1 → D.nx σ H1) : tIfS t tu tNext D σ H := Evl.s_when h (fun z => nomatch z) (fun _ => k)
theorem evt_P {b : Bool} (h : EvP te σ H (Is (.bl b))) : EvT (tB te) σ H b := Evl.et_B (ev_evp h)
end
theorem evp_dnew {σ : L2.St} {H : Hp} : EvP tDNewK σ H (fun v H1 H2 => ∃ p, v = .ref p ∧ H1 p = none ∧ H2 p = some (.dK [])) := fun H1 _ _ q p hp => q _ _ (Ex.new hp) ⟨p, rfl, hp, upd_same⟩
theorem ev_lenL {K : PySem.W.Frag} {ta : TE} {σ : L2.St} {H : Hp} {p : Addr} {xs : List V} (h : Ev ta σ H (.ref p)) (hx : SqL K H p xs) : Ev (tCB (rLenA K) (tCons ta tNil)) σ H (.int (xs.length : Int)) := fun H1 e Q q =>
  h H1 e _ fun H2 e2 => ⟨_, _, rfl, .inl ⟨xs, Evl.ex_l (e.trans e2) hx, rfl⟩, q H2 e2⟩
theorem ev_lenP {K : PySem.W.Frag} {ta : TE} {σ : L2.St} {H : Hp} {xs : List V} (h : EvP ta σ H (fun v _ H2 => ∃ p, v = .ref p ∧ H2 p = some (.lst xs))) : Ev (tCB (rLenA K) (tCons ta tNil)) σ H (.int (xs.length : Int)) := fun H1 e Q q =>
  h H1 e _ fun v H2 e2 ⟨p, r, k⟩ => ⟨v, xs.length, rfl, by subst r; exact .inl ⟨xs, Evl.sq_of k, rfl⟩, q H2 e2⟩
theorem pe_globI {X : Cx} {x : Str} {n : Int} {pos : Pos} (hg : Gl X x) (h : ∃ t, X.mg x = some (.int n t)) (hd : (x == ("__debug__" : Str)) = false := by decide) : PE X (.Name x pos) (tC (.int n)) := by
  obtain ⟨t, e⟩ := h
  exact pe_glob hg e ⟨t, rfl⟩ hd
theorem newL_at {xs : List V} {v : V} {H1 H2 : Hp} (h : NewL xs v H1 H2) : ∃ p, v = .ref p ∧ H2 p = some (.lst xs) := by
  obtain ⟨p, a, _, b⟩ := h
  exact ⟨p, a, b⟩
theorem rv_I0P {f : Int → Int → V} {i j : Int} {H : Hp} : Evl.RV (rI0 f) (.int i) (.int j) H (f i j) := Evl.rv_I0
def rLenD : List V → Hp → VK → Prop := fun xs H Q => ∃ a kvs, xs = [V.ref a] ∧ H a = some (.dK kvs) ∧ Q (.int kvs.length) H
theorem evt_leC {ta : TE} {σ : L2.St} {H : Hp} {c : Int} (h : EvP ta σ H (fun v _ _ => ∃ m : Int, v = .int m ∧ m ≤ c)) : EvT (tTest (tOp (rI0 fun i j => V.bl (decide (j < i))) ta (tC (.int c)))) σ H false := fun H1 e Q q => h H1 e _ fun v H2 e2 ⟨m, r, hm⟩ => by
  subst r
  refine ⟨m, c, rfl, rfl, false, ?_, q H2 e2⟩
  show V.bl (decide (c < m)) = _
  rw [decide_eq_false (by omega)]
theorem ev_fld {K : PySem.W.Frag} {σ : L2.St} {H : Hp} {i : Nat} {p C dx : Addr} {fs : List (Str × V)} {f : Str} {v : V} (hi : σ[i]? = some (some (.ref p))) (ho : H p = some (.ins C dx fs)) (cl : Cls K C) (na : NoAttr K C f) (hl : fs.lookup f = some v) : Ev (tFld K (tVar i) f) σ H v := fun H1 e Q q =>
  ⟨_, hi, p, C, dx, fs, v, rfl, e _ _ ho, cl, na, hl, q H1 (Ex.refl _)⟩
section
variable {K : PySem.W.Frag} {te tv : TE} {σ : L2.St} {H : Hp} {P : VP} {D : Ends} {tz : TS} {i : Nat} {p C dx : Addr} {fs : List (Str × V)} {f : Str}
theorem p_fld1 (h : EvP tv σ H P) (hi : σ[i]? = some (some (.ref p))) (ho : H p = some (.ins C dx fs)) (cl : Cls K C) (na : NoAttr K C f) (hl : fs.length < 1000) (k : ∀ v H1, Ex H H1 → P v H H1 → D.nx σ (upd H1 p (.ins C dx (putF f v fs)))) : sFld K (tVar i) tv f D σ H :=
  h.run fun v H1 e p1 => ⟨_, hi, p, C, dx, fs, rfl, e _ _ ho, cl, na, hl, k v H1 e p1⟩
theorem p_fld (h : EvP tv σ H P) (hi : σ[i]? = some (some (.ref p))) (ho : H p = some (.ins C dx fs)) (cl : Cls K C) (na : NoAttr K C f) (hl : fs.length < 1000) (k : ∀ v H1, Ex H H1 → P v H H1 → tz D σ (upd H1 p (.ins C dx (putF f v fs)))) : tSeq (sFld K (tVar i) tv f) tz D σ H :=
  h.run fun v H1 e p1 => ⟨_, hi, p, C, dx, fs, rfl, e _ _ ho, cl, na, hl, k v H1 e p1⟩
end
/-- a heap without one object -/
def but (H : Hp) (p : Addr) : Hp := fun b => if b = p then none else H b
theorem but_ex {H : Hp} {p : Addr} : Ex (but H p) H := fun b o h => by
  unfold but at h
  split at h
  · cases h
  · exact h
theorem but_at {H : Hp} {p : Addr} : but H p p = none := by unfold but; rw [if_pos rfl]
theorem but_ne {H : Hp} {p b : Addr} {o : HO} (h : H b = some o) (n : b ≠ p) : but H p b = some o := by unfold but; rw [if_neg n]; exact h
theorem ev_cb2 {r : List V → Hp → VK → Prop} {ta tb : TE} {σ : L2.St} {H : Hp} {x y z : V} (ha : Ev ta σ H x) (hb : Ev tb σ H y) (hr : ∀ H1, Ex H H1 → ∀ Q : VK, Q z H1 → r [x, y] H1 Q) : Ev (tCB r (tCons ta (tCons tb tNil))) σ H z := fun H1 e Q q =>
  ha H1 e _ fun H2 e2 => hb H2 (e.trans e2) _ fun H3 e3 => hr H3 ((e.trans e2).trans e3) Q (q H3 (e2.trans e3))
theorem ev_cb1 {r : List V → Hp → VK → Prop} {ta : TE} {σ : L2.St} {H : Hp} {x z : V} (ha : Ev ta σ H x) (hr : ∀ H1, Ex H H1 → ∀ Q : VK, Q z H1 → r [x] H1 Q) : Ev (tCB r (tCons ta tNil)) σ H z := fun H1 e Q q =>
  ha H1 e _ fun H2 e2 => hr H2 (e.trans e2) Q (q H2 e2)
/-! ### sources -/
def Src (wi : TI) (σ : L2.St) (H : Hp) (n : Nat) (X : Nat → V → Prop) : Prop := ∀ H1, Ex H H1 → ∀ R : It → Hp → Prop,
  (∀ J H2 (G : Hp → Prop), Ex H1 H2 → (∀ H3, Ex H2 H3 → G H3) → Walk J n G (fun i H v H' => H' = H ∧ X i v) → R J H2) → wi σ H1 R
section
variable {K : PySem.W.Frag} {σ : L2.St} {H H' : Hp} {tl : TE} {a : Addr} {xs : List V}
theorem src_list (h : Ev tl σ H (.ref a)) (hx : SqL K H a xs) : Src (iList K tl) σ H xs.length (fun i v => xs[i]? = some v) := fun H1 e R k =>
  h H1 e _ fun H2 e2 => ⟨a, rfl, ⟨xs, Evl.ex_l (e.trans e2) hx⟩, k _ H2 (fun H => SqL K H a xs) e2 (fun H3 e3 => Evl.ex_l ((e.trans e2).trans e3) hx) walk_list⟩
theorem src_listN (h : EvP tl σ H (fun v H1 H2 => ∃ p, v = .ref p ∧ H2 p = some (.lst xs))) : Src (iList K tl) σ H xs.length (fun i v => xs[i]? = some v) := fun H1 e R k =>
  h H1 e _ fun v H2 e2 ⟨p, r, hp⟩ => ⟨p, r, ⟨xs, Evl.sq_of hp⟩, k _ H2 (fun H => SqL K H p xs) e2 (fun H3 e3 => Evl.sq_of (e3 _ _ hp)) walk_list⟩
theorem src_tup (h : Ev tl σ H (.ref a)) (hx : SqT K H a xs) : Src (iTup K tl) σ H xs.length (fun i v => xs[i]? = some v) := fun H1 e R k =>
  h H1 e _ fun H2 e2 => ⟨a, rfl, ⟨xs, Evl.ex_t (e.trans e2) hx⟩, k _ H2 (fun H => SqT K H a xs) e2 (fun H3 e3 => Evl.ex_t ((e.trans e2).trans e3) hx) walk_tup⟩
theorem src_rng1 {ta : TA} {n : Nat} (h : EvA ta σ H [.int (n : Int)]) (hn : n ≤ 100000) : Src (iRng1 ta) σ H n (fun i v => v = .int (i : Int)) := fun H1 e R k =>
  h H1 e _ fun H2 e2 => ⟨n, rfl, by omega, by omega, by
    have z := k (Itr 0 n) H2 (fun _ => True) e2 (fun _ _ => trivial) (walk_range.mono (fun _ h => h) fun i H x H' _ _ y => ⟨y.1, by
      rw [y.2]
      show V.int (0 + (i : Int)) = _
      rw [Int.zero_add]⟩)
    exact z⟩
theorem src_keys {td : TE} {d : Addr} {o : Obj} {kvs : List (Key × V)} (h : Ev td σ H (.ref d)) (hd : H d = some (.frz o (.dK kvs))) : Src (iKeys td) σ H kvs.length (fun i v => ∃ k x, kvs[i]? = some (k, x) ∧ v = kV k) := fun H1 e R k =>
  h H1 e _ fun H2 e2 => ⟨d, o, rfl, .inl ⟨kvs, e2 _ _ (e _ _ hd), k _ H2 (fun H => H d = some (.frz o (.dK kvs))) e2 (fun H3 e3 => e3 _ _ (e2 _ _ (e _ _ hd))) (walk_keys.mono (fun _ h => h) fun i H x H' _ _ y => y)⟩⟩
/-- a list comprehension, by a word of what is made so far; D: the list that is made -/
theorem lcI {wi : TI} {g : TG} {tt : TT} {te : TE} {vs : List Nat} {n : Nat} {X : Nat → V → Prop} (s : Src wi σ H n X) (hn : n ≤ 50000) (st : Nat → V → L2.St) (hw : ∀ i x, wipe (st i x) vs = wipe σ vs) (I : Addr → Nat → List V → Hp → Prop)
    (hg : ∀ i x H1 Q, Ex H H1 → i < n → X i x → Q (st i x) H1 → g x (wipe σ vs) H1 Q) (f : Nat → Bool)
    (ht : ∀ i x H1, Ex H H1 → i < n → X i x → EvT tt (st i x) H1 (f i)) (P : Nat → VP)
    (he : ∀ i x H1, Ex H H1 → i < n → X i x → f i = true → EvP te (st i x) H1 (P i))
    (i0 : ∀ D H1, Ex H H1 → H1 D = none → I D 0 [] H1) (iE : ∀ D i ys Ha Hb, Ex Ha Hb → I D i ys Ha → I D i ys Hb) (iD : ∀ D i ys Ha xs, Ha D = some (.lst ys) → I D i ys Ha → I D i ys (upd Ha D (.lst xs)))
    (iY : ∀ D i ys v Ha Hb, Ex H Ha → Ex Ha Hb → Ha D = some (.lst ys) → i < n → f i = true → I D i ys Ha → P i v Ha Hb → ∀ xs, I D (i + 1) (ys ++ [v]) (upd Hb D (.lst xs))) (iN : ∀ D i ys Ha, Ex H Ha → i < n → f i = false → I D i ys Ha → I D (i + 1) ys Ha) :
    EvP (tLc wi g tt te vs) σ H (fun v H1 H2 => ∃ p ys, v = .ref p ∧ H1 p = none ∧ H2 p = some (.lst ys) ∧ ys.length ≤ n ∧ I p n ys H2) := fun H0 e0 Q q => by
  refine s H0 e0 _ fun J H1 G e1 hG hW D hD => ?_
  have iE0 : ∀ o, Ex H1 (upd H1 D o) := fun o => Ex.new hD
  refine lc_it hW (fun i H' => ∃ ys, Ex H1 H' ∧ I D i ys H' ∧ ys.length ≤ i ∧ H' D = some (.lst ys)) ⟨[], iE0 _, iE _ _ _ _ _ (iE0 _) (i0 D H1 (e0.trans e1) hD), Nat.le_refl _, upd_same⟩
    (fun i H' _ ⟨ys, a, _, _, _⟩ => hG _ a) (fun i x Ha Hb hi ⟨ys, a, hI, hl, c⟩ y => ?_) (fun H' ⟨ys, a, hI, hl, c⟩ => q (.ref D) H' (e1.trans a) ⟨D, ys, rfl, Evl.fresh_back e1 hD, c, hl, hI⟩)
  obtain ⟨rfl, hX⟩ := y
  have eA : Ex H Hb := (e0.trans e1).trans a
  refine hg i x Hb _ eA hi hX ⟨hw i x, ?_⟩
  refine ht i x Hb eA hi hX Hb (Ex.refl _) _ fun Hc ec => ?_
  cases hf : f i with
  | true =>
    refine iteT ?_
    refine he i x Hb eA hi hX hf Hc ec _ fun v Hd ed p => ?_
    refine ⟨ys, ed _ _ (ec _ _ c), Nat.lt_of_le_of_lt hl (Nat.lt_of_lt_of_le hi (Nat.le_trans hn (by decide))), ys ++ [v], ?_, ?_, ?_, upd_same⟩
    · exact Ex.mut ((a.trans ec).trans ed) hD
    · exact iY D i ys v Hc Hd (eA.trans ec) ed (ec _ _ c) hi hf (iE _ _ _ _ _ ec hI) p _
    · simp
      exact hl
  | false =>
    refine iteF ?_
    exact ⟨ys, a.trans ec, iN D i ys Hc (eA.trans ec) hi hf (iE _ _ _ _ _ ec hI), Nat.le_succ_of_le hl, ec _ _ c⟩
/-- values that are known: which turns give, and what -/
theorem lcV {wi : TI} {g : TG} {tt : TT} {te : TE} {vs : List Nat} {n : Nat} {X : Nat → V → Prop} (s : Src wi σ H n X) (hn : n ≤ 50000) (st : Nat → V → L2.St) (hw : ∀ i x, wipe (st i x) vs = wipe σ vs)
    (hg : ∀ i x H1 Q, Ex H H1 → i < n → X i x → Q (st i x) H1 → g x (wipe σ vs) H1 Q) (f : Nat → Bool) (v : Nat → V)
    (ht : ∀ i x H1, Ex H H1 → i < n → X i x → EvT tt (st i x) H1 (f i))
    (he : ∀ i x H1, Ex H H1 → i < n → X i x → f i = true → Ev te (st i x) H1 (v i)) :
    EvP (tLc wi g tt te vs) σ H (NewL (((List.range n).filter f).map v)) := by
  refine (lcI s hn st hw (fun _ i ys _ => ys = ((List.range i).filter f).map v) hg f ht (fun i => Is (v i)) (fun i x H1 e hi hX hf => evp_ev (he i x H1 e hi hX hf))
    (fun _ _ _ _ => rfl) (fun _ _ _ _ _ _ h => h) (fun _ _ _ _ _ _ h => h) (fun D i ys z Ha Hb _ _ _ hi hf h p xs => ?_) (fun D i ys Ha _ hi hf h => ?_)).imp ?_
  · cases p
    rw [List.range_succ, List.filter_append, List.map_append, List.filter_cons, if_pos hf, h]
    rfl
  · rw [List.range_succ, List.filter_append, List.map_append, List.filter_cons, if_neg (by rw [hf]; decide), h]
    exact (List.append_nil _).symm
  · rintro z H1 H2 _ _ ⟨p, ys, rfl, hp, k, _, h⟩
    exact ⟨p, rfl, hp, by rw [k, h]⟩
theorem yes_go {F : Bool → Hp → Prop} {σ : L2.St} {H : Hp} (h : F true H) : tYes σ H F := h
/-- a dict comprehension -/
theorem dcI {wi : TI} {g : TG} {tk tv : TE} {vs : List Nat} {n : Nat} {X : Nat → V → Prop} (s : Src wi σ H n X) (hn : n ≤ 50000) (st : Nat → V → L2.St) (hw : ∀ i x, wipe (st i x) vs = wipe σ vs) (I : Addr → Nat → List V → Hp → Prop)
    (hg : ∀ i x H1 Q, Ex H H1 → i < n → X i x → Q (st i x) H1 → g x (wipe σ vs) H1 Q) (kf : Nat → Key) (inj : ∀ i j, i < j → j < n → kf i ≠ kf j)
    (hk : ∀ i x H1, Ex H H1 → i < n → X i x → Ev tk (st i x) H1 (kV (kf i))) (P : Nat → VP)
    (he : ∀ i x H1, Ex H H1 → i < n → X i x → EvP tv (st i x) H1 (P i))
    (i0 : ∀ D H1, Ex H H1 → H1 D = none → I D 0 [] H1) (iE : ∀ D i ys Ha Hb, Ex Ha Hb → I D i ys Ha → I D i ys Hb)
    (iY : ∀ D i ys v Ha Hb kvs, Ex H Ha → Ex Ha Hb → Ha D = some (.dK kvs) → i < n → I D i ys Ha → P i v Ha Hb → ∀ xs, I D (i + 1) (ys ++ [v]) (upd Hb D (.dK xs))) :
    EvP (tDc wi g tYes tk tv vs) σ H (fun v H1 H2 => ∃ p ys, v = .ref p ∧ H1 p = none ∧ H2 p = some (.dK (((List.range n).map kf).zip ys)) ∧ ys.length = n ∧ I p n ys H2) := fun H0 e0 Q q => by
  refine s H0 e0 _ fun J H1 G e1 hG hW D hD => ?_
  have iE0 : ∀ o, Ex H1 (upd H1 D o) := fun o => Ex.new hD
  refine ⟨fun i m H' => m = n - i ∧ i ≤ n ∧ ∃ ys : List V, Ex H1 H' ∧ I D i ys H' ∧ ys.length = i ∧ H' D = some (.dK (((List.range i).map kf).zip ys)), ⟨n, by simp, Nat.zero_le _, [], iE0 _, iE _ _ _ _ _ (iE0 _) (i0 D H1 (e0.trans e1) hD), rfl, upd_same⟩, ?_⟩
  rintro i m Ha ⟨rfl, hin, ys, a, hI, hl, c⟩
  by_cases hi : i < n
  · refine .inr ⟨hW.goes i Ha hi (hG _ a), fun H' => ∃ ys : List V, Ex H1 H' ∧ I D (i + 1) ys H' ∧ ys.length = i + 1 ∧ H' D = some (.dK (((List.range (i + 1)).map kf).zip ys)), fun H' p' => ⟨n - (i + 1), by omega, rfl, hi, p'⟩, fun x Hb y => ?_⟩
    obtain ⟨rfl, hX⟩ := hW.yields i Ha x Hb hi (hG _ a) y
    have eA : Ex H Hb := (e0.trans e1).trans a
    refine hg i x Hb _ eA hi hX ⟨hw i x, yes_go ?_⟩
    dsimp only
    rw [if_pos rfl]
    refine hk i x Hb eA hi hX Hb (Ex.refl _) _ fun Hc ec => ?_
    refine he i x Hb eA hi hX Hc ec _ fun v Hd ed p => ?_
    have nk : valV (((List.range i).map kf).zip ys) (kf i) = none := by
      cases e : valV (((List.range i).map kf).zip ys) (kf i) with
      | none => rfl
      | some z =>
        have m := valV_in e
        obtain ⟨pr, hpr, e2⟩ := List.mem_map.mp m
        have m2 := (List.of_mem_zip (a := pr.1) (b := pr.2) hpr).1
        obtain ⟨j, hj, e3⟩ := List.mem_map.mp m2
        exact absurd (e3.trans e2) (inj j i (List.mem_range.mp hj) hi)
    refine ⟨_, kf i, rfl, ed _ _ (ec _ _ c), ?_, ys ++ [v], ?_, ?_, ?_, ?_⟩
    · rw [List.length_zip, List.length_map, List.length_range, hl, Nat.min_self]
      exact Nat.lt_of_lt_of_le hi (Nat.le_trans hn (by decide))
    · exact Ex.mut ((a.trans ec).trans ed) hD
    · exact iY D i ys v Hc Hd _ (eA.trans ec) ed (ec _ _ c) hi (iE _ _ _ _ _ ec hI) p _
    · simp [hl]
    · rw [upd_same, putK_new v nk, List.range_succ, List.map_append, List.zip_append (by simp [hl])]
      rfl
  · have e : i = n := by omega
    subst e
    exact .inl ⟨hW.stops Ha (hG _ a), q (.ref D) Ha (e1.trans a) ⟨D, ys, rfl, Evl.fresh_back e1 hD, c, hl, hI⟩⟩
/-- over a dict that stands: locked meanwhile -/
theorem evp_lock {t : TE} {d : Addr} {u : HO} {P P' : VP} (hd : H d = some u) (hm : Mut (some u)) (h : ∀ Ha od, Ex H Ha → EvP t σ (upd Ha d (.frz od u)) P)
    (hP : ∀ v Ha H2 od, Ex H Ha → Ex (upd Ha d (.frz od u)) H2 → P v (upd Ha d (.frz od u)) H2 → P' v Ha (upd H2 d u)) : EvP (tLockE t) σ H P' := fun H1 e1 Q q =>
  ⟨d, u, e1 _ _ hd, hm, fun od => h H1 od e1 _ (Ex.refl _) _ fun v H2 e2 p => ⟨e2 _ _ upd_same, q v _ (fun b o hb => by
    by_cases e : b = d
    · subst e
      rw [e1 _ _ hd] at hb
      cases hb
      exact upd_same
    · rw [upd_ne e]
      exact e2 b o (by rw [upd_ne e]; exact hb)) (hP v H1 H2 od e1 e2 p)⟩⟩
end
end Ep
set_option linter.all false
/-! Trees told by their lanes: adjacency, simple paths, and that these are unique. Plain Lean. -/
namespace TM
abbrev Lanes := List (Nat × Nat)
def Adj (L : Lanes) (a b : Nat) : Prop := (a, b) ∈ L ∨ (b, a) ∈ L
theorem Adj.symm {L : Lanes} {a b : Nat} (h : Adj L a b) : Adj L b a := h.elim Or.inr Or.inl

/-- vertices (the newest first) and lanes (the newest first): each new vertex hangs on an elder one -/
inductive Grow : List Nat → Lanes → Prop
  | one (v : Nat) : Grow [v] []
  | step {vs : List Nat} {L : Lanes} {a b : Nat} : Grow vs L → a ∈ vs → b ∉ vs → Grow (b :: vs) ((a, b) :: L)

theorem Grow.ends {vs : List Nat} {L : Lanes} (g : Grow vs L) : ∀ {a b : Nat}, Adj L a b → a ∈ vs ∧ b ∈ vs := by
  induction g with
  | one v => intro a b h; rcases h with h | h <;> cases h
  | step g ha hb ih =>
    intro x y h
    rcases h with h | h
    · rcases List.mem_cons.mp h with e | h
      · cases e; exact ⟨List.mem_cons_of_mem _ ha, List.mem_cons_self⟩
      · exact ⟨List.mem_cons_of_mem _ (ih (.inl h)).1, List.mem_cons_of_mem _ (ih (.inl h)).2⟩
    · rcases List.mem_cons.mp h with e | h
      · cases e; exact ⟨List.mem_cons_self, List.mem_cons_of_mem _ ha⟩
      · exact ⟨List.mem_cons_of_mem _ (ih (.inr h)).1, List.mem_cons_of_mem _ (ih (.inr h)).2⟩
theorem Grow.nodup {vs : List Nat} {L : Lanes} (g : Grow vs L) : vs.Nodup := by
  induction g with
  | one v => simp
  | step g ha hb ih => exact List.nodup_cons.mpr ⟨hb, ih⟩
theorem Grow.length {vs : List Nat} {L : Lanes} (g : Grow vs L) : vs.length = L.length + 1 := by
  induction g with
  | one v => rfl
  | step g ha hb ih => simp [ih]
/-- the newest vertex has one neighbour -/
theorem leaf_only {vs : List Nat} {L : Lanes} (g : Grow vs L) {a b c : Nat} (hb : b ∉ vs) (h : Adj ((a, b) :: L) b c) : c = a := by
  rcases h with h | h
  · rcases List.mem_cons.mp h with e | h
    · cases e; rfl
    · exact absurd (g.ends (.inl h)).1 hb
  · rcases List.mem_cons.mp h with e | h
    · cases e; rfl
    · exact absurd (g.ends (.inr h)).1 hb
theorem Adj.older {vs : List Nat} {L : Lanes} (g : Grow vs L) {a b x y : Nat} (hb : b ∉ vs) (h : Adj ((a, b) :: L) x y) (hx : x ≠ b) (hy : y ≠ b) : Adj L x y := by
  rcases h with h | h
  · rcases List.mem_cons.mp h with e | h
    · cases e; exact absurd rfl hy
    · exact .inl h
  · rcases List.mem_cons.mp h with e | h
    · cases e; exact absurd rfl hx
    · exact .inr h
theorem Grow.irrefl {vs : List Nat} {L : Lanes} (g : Grow vs L) : ∀ {a : Nat}, ¬ Adj L a a := by
  induction g with
  | one v => intro a h; rcases h with h | h <;> cases h
  | @step vs L a b g ha hb ih =>
    intro x h
    rcases h with h | h <;>
    · rcases List.mem_cons.mp h with e | h
      · cases e; exact hb ha
      · exact ih (.inl h)

/-! ### paths: neighbours one behind the other, none twice -/
def Chain (L : Lanes) : List Nat → Prop
  | [] => True
  | [_] => True
  | x :: y :: r => Adj L x y ∧ Chain L (y :: r)
structure Path (L : Lanes) (s t : Nat) (p : List Nat) : Prop where
  ch : Chain L p
  nd : p.Nodup
  hd : p.head? = some s
  lt : p.getLast? = some t
theorem Chain.tail {L : Lanes} {x : Nat} {r : List Nat} (h : Chain L (x :: r)) : Chain L r := by
  cases r with
  | nil => trivial
  | cons y r => exact h.2
theorem Chain.snoc {L : Lanes} {x : Nat} : ∀ {p : List Nat} {t : Nat}, Chain L p → p.getLast? = some t → Adj L t x → Chain L (p ++ [x])
  | [], _, _, h, _ => by simp at h
  | [a], t, _, h, k => by
    have e : a = t := Option.some.inj h
    subst e
    exact ⟨k, trivial⟩
  | a :: b :: r, t, h, e, k => by
    refine ⟨h.1, Chain.snoc (p := b :: r) h.2 ?_ k⟩
    rw [List.getLast?_cons_cons] at e
    exact e
theorem Chain.left {L : Lanes} : ∀ {p q : List Nat}, Chain L (p ++ q) → Chain L p
  | [], _, _ => trivial
  | [_], _, _ => trivial
  | a :: b :: r, q, h => ⟨h.1, Chain.left (p := b :: r) (q := q) h.2⟩
theorem Chain.right {L : Lanes} : ∀ {p q : List Nat}, Chain L (p ++ q) → Chain L q
  | [], _, h => h
  | _ :: r, q, h => Chain.right (p := r) (q := q) h.tail
theorem Chain.reverse {L : Lanes} : ∀ {p : List Nat}, Chain L p → Chain L p.reverse
  | [], _ => trivial
  | [_], _ => trivial
  | a :: b :: r, h => by
    have ih := Chain.reverse (p := b :: r) h.2
    rw [List.reverse_cons]
    refine Chain.snoc (t := b) ih ?_ h.1.symm
    rw [List.getLast?_reverse]
    rfl
theorem Path.reverse {L : Lanes} {s t : Nat} {p : List Nat} (h : Path L s t p) : Path L t s p.reverse :=
  ⟨h.ch.reverse, (List.reverse_perm p).nodup_iff.mpr h.nd, by rw [List.head?_reverse]; exact h.lt, by rw [List.getLast?_reverse]; exact h.hd⟩
theorem Chain.mono {L L' : Lanes} (k : ∀ x y, Adj L x y → Adj L' x y) : ∀ {p : List Nat}, Chain L p → Chain L' p
  | [], _ => trivial
  | [_], _ => trivial
  | _ :: _ :: _, h => ⟨k _ _ h.1, Chain.mono k h.2⟩
/-- a chain without the leaf is a chain of the elder lanes -/
theorem Chain.older {vs : List Nat} {L : Lanes} (g : Grow vs L) {a b : Nat} (hb : b ∉ vs) : ∀ {p : List Nat}, Chain ((a, b) :: L) p → b ∉ p → Chain L p
  | [], _, _ => trivial
  | [_], _, _ => trivial
  | x :: y :: r, h, n => ⟨h.1.older g hb (fun e => n (e ▸ List.mem_cons_self)) (fun e => n (e ▸ List.mem_cons_of_mem _ List.mem_cons_self)), Chain.older g hb h.2 fun e => n (List.mem_cons_of_mem _ e)⟩
/-- the leaf stands at an end alone -/
theorem leaf_end {vs : List Nat} {L : Lanes} (g : Grow vs L) {a b : Nat} (hb : b ∉ vs) : ∀ {p : List Nat} {t : Nat}, Chain ((a, b) :: L) p → p.Nodup → p.getLast? = some t → b ∈ p → p.head? = some b ∨ t = b
  | [], _, _, _, _, h => by cases h
  | [x], t, _, _, e, h => by
    have : b = x := by simpa using h
    subst this
    exact .inl rfl
  | x :: y :: r, t, c, nd, e, h => by
    rw [List.getLast?_cons_cons] at e
    rcases List.mem_cons.mp h with q | h
    · subst q; exact .inl rfl
    · have nd' := (List.nodup_cons.mp nd).2
      rcases leaf_end g hb c.2 nd' e h with q | q
      · have q : y = b := Option.some.inj q
        subst q
        -- y is the leaf: x is a, and what follows too
        have ex : x = a := leaf_only g hb c.1.symm
        cases r with
        | nil => exact .inr (Option.some.inj e).symm
        | cons z r =>
          have ez : z = a := leaf_only g hb c.2.1
          subst ex
          subst ez
          exact absurd (List.mem_cons_of_mem _ List.mem_cons_self) (List.nodup_cons.mp nd).1
      · exact .inr q
theorem path_from_leaf {vs : List Nat} {L : Lanes} (g : Grow vs L) {a b t : Nat} (hb : b ∉ vs) {p : List Nat} (h : Path ((a, b) :: L) b t p) (ht : t ≠ b) : ∃ q, p = b :: q ∧ Path L a t q := by
  obtain ⟨c, nd, hd, lt⟩ := h
  cases p with
  | nil => cases hd
  | cons x r =>
    have e : x = b := Option.some.inj hd
    subst e
    cases r with
    | nil => exact absurd (Option.some.inj lt).symm ht
    | cons y r =>
      have ey : y = a := leaf_only g hb c.1
      subst ey
      have nx := (List.nodup_cons.mp nd).1
      refine ⟨_, rfl, Chain.older g hb c.2 nx, (List.nodup_cons.mp nd).2, rfl, ?_⟩
      rw [List.getLast?_cons_cons] at lt
      exact lt
theorem path_one {L : Lanes} {s : Nat} {p : List Nat} (h : Path L s s p) : p = [s] := by
  obtain ⟨c, nd, hd, lt⟩ := h
  cases p with
  | nil => cases hd
  | cons x r =>
    have e : x = s := Option.some.inj hd
    subst e
    cases r with
    | nil => rfl
    | cons y r =>
      rw [List.getLast?_cons_cons] at lt
      exact absurd (List.mem_of_getLast? lt) (List.nodup_cons.mp nd).1
/-- SIMPLE PATHS ARE UNIQUE -/
theorem Grow.unique {vs : List Nat} {L : Lanes} (g : Grow vs L) : ∀ {s t : Nat} {p q : List Nat}, Path L s t p → Path L s t q → p = q := by
  induction g with
  | one v =>
    intro s t p q hp hq
    have f : ∀ {p : List Nat}, Path [] s t p → p = [s] := fun {p} h => by
      obtain ⟨c, nd, hd, lt⟩ := h
      cases p with
      | nil => cases hd
      | cons x r =>
        have e : x = s := Option.some.inj hd
        subst e
        cases r with
        | nil => rfl
        | cons y r => exact absurd c.1 (fun h => by rcases h with h | h <;> cases h)
    rw [f hp, f hq]
  | @step vs L a b g ha hb ih =>
    intro s t p q hp hq
    by_cases hs : s = b
    · subst hs
      by_cases ht : t = s
      · subst ht
        rw [path_one hp, path_one hq]
      · obtain ⟨p', rfl, h1⟩ := path_from_leaf g hb hp ht
        obtain ⟨q', rfl, h2⟩ := path_from_leaf g hb hq ht
        rw [ih h1 h2]
    · by_cases ht : t = b
      · subst ht
        have f := path_from_leaf g hb hp.reverse hs
        have f2 := path_from_leaf g hb hq.reverse hs
        obtain ⟨p', e1, h1⟩ := f
        obtain ⟨q', e2, h2⟩ := f2
        have e := ih h1 h2
        subst e
        have := e1.trans e2.symm
        have z := congrArg List.reverse this
        rwa [List.reverse_reverse, List.reverse_reverse] at z
      · have out : ∀ {p : List Nat}, Path ((a, b) :: L) s t p → Path L s t p := fun {p} h => by
          have nb : b ∉ p := fun hm => by
            rcases leaf_end g hb h.ch h.nd h.lt hm with e | e
            · exact hs (Option.some.inj (h.hd.symm.trans e))
            · exact ht e
          exact ⟨h.ch.older g hb nb, h.nd, h.hd, h.lt⟩
        exact ih (out hp) (out hq)
/-- and between any two there is one -/
theorem Grow.conn {vs : List Nat} {L : Lanes} (g : Grow vs L) : ∀ {s t : Nat}, s ∈ vs → t ∈ vs → ∃ p, Path L s t p ∧ ∀ x ∈ p, x ∈ vs := by
  induction g with
  | one v =>
    intro s t hs ht
    rw [List.mem_singleton] at hs ht
    rw [hs, ht]
    exact ⟨[v], ⟨trivial, by simp, rfl, rfl⟩, by simp⟩
  | @step vs L a b g ha hb ih =>
    have up : ∀ {s t : Nat}, s ∈ vs → t ∈ vs → ∃ p, Path ((a, b) :: L) s t p ∧ ∀ x ∈ p, x ∈ vs := fun {s t} hs ht => by
      obtain ⟨p, h, k⟩ := ih hs ht
      exact ⟨p, ⟨h.ch.mono (fun x y z => z.elim (fun z => .inl (List.mem_cons_of_mem _ z)) fun z => .inr (List.mem_cons_of_mem _ z)), h.nd, h.hd, h.lt⟩, k⟩
    have to : ∀ {s : Nat}, s ∈ vs → ∃ p, Path ((a, b) :: L) s b p ∧ ∀ x ∈ p, x ∈ b :: vs := fun {s} hs => by
      obtain ⟨p, h, k⟩ := up hs ha
      refine ⟨p ++ [b], ⟨h.ch.snoc h.lt (.inl List.mem_cons_self), ?_, ?_, by simp⟩, ?_⟩
      · exact List.nodup_append.mpr ⟨h.nd, by simp, fun x hx y hy e => by
          have : y = b := by simpa using hy
          subst this; subst e; exact hb (k _ hx)⟩
      · cases p with
        | nil => exact absurd h.hd (by simp)
        | cons x r => exact h.hd
      · intro x hx
        rcases List.mem_append.mp hx with q | q
        · exact List.mem_cons_of_mem _ (k x q)
        · have : x = b := by simpa using q
          subst this; exact List.mem_cons_self
    intro s t hs ht
    rcases List.mem_cons.mp hs with e | hs
    · subst e
      rcases List.mem_cons.mp ht with e | ht
      · subst e
        exact ⟨[t], ⟨trivial, by simp, rfl, rfl⟩, by simp⟩
      · obtain ⟨p, h, k⟩ := to ht
        exact ⟨p.reverse, h.reverse, fun x hx => k x (List.mem_reverse.mp hx)⟩
    · rcases List.mem_cons.mp ht with e | ht
      · rw [e]; exact to hs
      · obtain ⟨p, h, k⟩ := up hs ht
        exact ⟨p, h, fun x hx => List.mem_cons_of_mem _ (k x hx)⟩
end TM
set_option linter.all false
/-! neighbours, what a search tells, what lies behind. Plain Lean. -/
namespace TM
/-! ### neighbours -/
def out (L : Lanes) (i : Nat) : List Nat := (L.filter fun p => decide (p.1 = i)).map (·.2)
def inn (L : Lanes) (i : Nat) : List Nat := (L.filter fun p => decide (p.2 = i)).map (·.1)
def nb (L : Lanes) (i : Nat) : List Nat := out L i ++ inn L i
def nbP : Lanes → Nat → List Nat
  | [], _ => []
  | (a, b) :: L, i => (if a = i then [b] else []) ++ ((if b = i then [a] else []) ++ nbP L i)
theorem mem_out {L : Lanes} {i x : Nat} : x ∈ out L i ↔ (i, x) ∈ L := by
  unfold out
  simp only [List.mem_map, List.mem_filter, decide_eq_true_eq]
  constructor
  · rintro ⟨⟨a, b⟩, ⟨h, e⟩, q⟩
    simp only at e q
    subst e; subst q; exact h
  · intro h
    exact ⟨(i, x), ⟨h, rfl⟩, rfl⟩
theorem mem_inn {L : Lanes} {i x : Nat} : x ∈ inn L i ↔ (x, i) ∈ L := by
  unfold inn
  simp only [List.mem_map, List.mem_filter, decide_eq_true_eq]
  constructor
  · rintro ⟨⟨a, b⟩, ⟨h, e⟩, q⟩
    simp only at e q
    subst e; subst q; exact h
  · intro h
    exact ⟨(x, i), ⟨h, rfl⟩, rfl⟩
theorem mem_nb {L : Lanes} {i x : Nat} : x ∈ nb L i ↔ Adj L i x := by
  unfold nb Adj
  rw [List.mem_append, mem_out, mem_inn]
theorem nbP_perm : ∀ (L : Lanes) (i : Nat), (nbP L i).Perm (nb L i)
  | [], _ => List.Perm.nil
  | (a, b) :: L, i => by
    have ih := nbP_perm L i
    unfold nbP nb out inn
    simp only [List.filter_cons]
    unfold nb out inn at ih
    by_cases h1 : a = i <;> by_cases h2 : b = i <;> simp only [h1, h2, decide_true, decide_false, if_true, if_false, List.map_cons, List.nil_append, List.cons_append, Bool.false_eq_true]
    · refine List.Perm.cons _ ?_
      exact (List.Perm.cons _ ih).trans List.perm_middle.symm
    · exact List.Perm.cons _ ih
    · exact (List.Perm.cons _ ih).trans List.perm_middle.symm
    · exact ih
theorem nbP_snoc : ∀ (L : Lanes) (a b i : Nat), nbP (L ++ [(a, b)]) i = nbP L i ++ ((if a = i then [b] else []) ++ (if b = i then [a] else []))
  | [], a, b, i => by simp [nbP]
  | (c, d) :: L, a, b, i => by
    show _ ++ (_ ++ nbP (L ++ [(a, b)]) i) = (_ ++ (_ ++ nbP L i)) ++ _
    rw [nbP_snoc L a b i]
    simp only [List.append_assoc]
theorem Grow.nb_nodup {vs : List Nat} {L : Lanes} (g : Grow vs L) : ∀ i, (nb L i).Nodup := by
  induction g with
  | one v => intro i; simp [nb, out, inn]
  | @step vs L a b g ha hb ih =>
    intro i
    refine (nbP_perm ((a, b) :: L) i).nodup_iff.mp ?_
    have ih' := (nbP_perm L i).nodup_iff.mpr (ih i)
    have nab : a ≠ b := fun e => hb (e ▸ ha)
    unfold nbP
    by_cases h1 : a = i
    · have h2 : ¬ b = i := fun e => nab (h1.trans e.symm)
      rw [if_pos h1, if_neg h2]
      refine List.nodup_cons.mpr ⟨fun h => ?_, ih'⟩
      exact hb (g.ends (mem_nb.mp ((nbP_perm L i).mem_iff.mp h))).2
    · by_cases h2 : b = i
      · rw [if_neg h1, if_pos h2]
        refine List.nodup_cons.mpr ⟨fun h => ?_, ih'⟩
        subst h2
        exact hb (g.ends (mem_nb.mp ((nbP_perm L b).mem_iff.mp h))).1
      · rw [if_neg h1, if_neg h2]
        exact ih'
/-- what is used of a tree -/
structure Tr (vs : List Nat) (L : Lanes) : Prop where
  ends : ∀ {a b : Nat}, Adj L a b → a ∈ vs ∧ b ∈ vs
  irrefl : ∀ {a : Nat}, ¬ Adj L a a
  unique : ∀ {s t : Nat} {p q : List Nat}, Path L s t p → Path L s t q → p = q
  conn : ∀ {s t : Nat}, s ∈ vs → t ∈ vs → ∃ p, Path L s t p ∧ ∀ x ∈ p, x ∈ vs
  nbnd : ∀ i, (nb L i).Nodup
  length : vs.length = L.length + 1
  nodup : vs.Nodup
theorem nb_adj {L L0 : Lanes} (h : ∀ i, (nb L i).Perm (nb L0 i)) {a b : Nat} : Adj L a b ↔ Adj L0 a b := by
  rw [← mem_nb, ← mem_nb, (h a).mem_iff]
theorem Path.to {L L0 : Lanes} (h : ∀ {a b : Nat}, Adj L a b → Adj L0 a b) {s t : Nat} {p : List Nat} (P : Path L s t p) : Path L0 s t p := ⟨P.ch.mono fun _ _ z => h z, P.nd, P.hd, P.lt⟩
theorem Grow.tr {vs : List Nat} {L L0 : Lanes} (g : Grow vs L0) (h : ∀ i, (nb L i).Perm (nb L0 i)) (hl : L.length = L0.length) : Tr vs L where
  ends := fun a => g.ends ((nb_adj h).mp a)
  irrefl := fun a => g.irrefl ((nb_adj h).mp a)
  unique := fun P Q => g.unique (P.to (nb_adj h).mp) (Q.to (nb_adj h).mp)
  conn := fun hs ht => by
    obtain ⟨p, P, k⟩ := g.conn hs ht
    exact ⟨p, P.to (nb_adj h).mpr, k⟩
  nbnd := fun i => (h i).nodup_iff.mpr (g.nb_nodup i)
  length := by rw [hl, g.length]
  nodup := g.nodup
theorem two_nb {L : Lanes} {x y z : Nat} (h1 : Adj L x y) (h2 : Adj L x z) (n : y ≠ z) : 1 < (nb L x).length := by
  have m1 := mem_nb.mpr h1
  have m2 := mem_nb.mpr h2
  cases e : nb L x with
  | nil => rw [e] at m1; cases m1
  | cons a r =>
    cases r with
    | nil =>
      rw [e] at m1 m2
      exact absurd ((List.mem_singleton.mp m1).trans (List.mem_singleton.mp m2).symm) n
    | cons b r => simp
/-! ### sorted -/
def ins (x : Nat) : List Nat → List Nat
  | [] => [x]
  | y :: r => if x ≤ y then x :: y :: r else y :: ins x r
def isort : List Nat → List Nat
  | [] => []
  | x :: r => ins x (isort r)
theorem ins_perm (x : Nat) : ∀ l, (ins x l).Perm (x :: l)
  | [] => List.Perm.refl _
  | y :: r => by
    unfold ins
    by_cases h : x ≤ y
    · rw [if_pos h]
    · rw [if_neg h]
      exact ((ins_perm x r).cons y).trans (List.Perm.swap x y r)
theorem isort_perm : ∀ l, (isort l).Perm l
  | [] => List.Perm.nil
  | x :: r => (ins_perm x _).trans ((isort_perm r).cons x)
theorem ins_sorted (x : Nat) : ∀ {l : List Nat}, l.Pairwise (· ≤ ·) → (ins x l).Pairwise (· ≤ ·)
  | [], _ => by simp [ins]
  | y :: r, h => by
    unfold ins
    obtain ⟨h1, h2⟩ := List.pairwise_cons.mp h
    by_cases q : x ≤ y
    · rw [if_pos q]
      refine List.pairwise_cons.mpr ⟨fun z hz => ?_, h⟩
      rcases List.mem_cons.mp hz with e | hz
      · subst e; exact q
      · exact Nat.le_trans q (h1 z hz)
    · rw [if_neg q]
      refine List.pairwise_cons.mpr ⟨fun z hz => ?_, ins_sorted x h2⟩
      rcases List.mem_cons.mp ((ins_perm x r).mem_iff.mp hz) with e | hz
      · subst e; omega
      · exact h1 z hz
theorem isort_sorted : ∀ l, (isort l).Pairwise (· ≤ ·)
  | [] => by simp [isort]
  | x :: r => ins_sorted x (isort_sorted r)
theorem sorted_unique : ∀ {l m : List Nat}, l.Perm m → l.Pairwise (· ≤ ·) → m.Pairwise (· ≤ ·) → l = m
  | [], m, p, _, _ => by
    have := p.length_eq
    cases m with
    | nil => rfl
    | cons a r => simp at this
  | a :: l, [], p, _, _ => by have := p.length_eq; simp at this
  | a :: l, b :: m, p, h1, h2 => by
    obtain ⟨a1, a2⟩ := List.pairwise_cons.mp h1
    obtain ⟨b1, b2⟩ := List.pairwise_cons.mp h2
    have e : a = b := by
      have ma : a ∈ b :: m := p.mem_iff.mp List.mem_cons_self
      have mb : b ∈ a :: l := p.mem_iff.mpr List.mem_cons_self
      rcases List.mem_cons.mp ma with e | ma
      · exact e
      · rcases List.mem_cons.mp mb with e | mb
        · exact e.symm
        · have q1 := b1 a ma
          have q2 := a1 b mb
          omega
    subst e
    rw [sorted_unique (List.Perm.cons_inv p) a2 b2]
theorem isort_eq {l m : List Nat} (p : m.Perm l) (h : m.Pairwise (· ≤ ·)) : m = isort l := sorted_unique (p.trans (isort_perm l).symm) h (isort_sorted l)
theorem isort_congr {l m : List Nat} (p : l.Perm m) : isort l = isort m := isort_eq ((isort_perm l).trans p) (isort_sorted l)
theorem isort_of_sorted {l : List Nat} (h : l.Pairwise (· ≤ ·)) : isort l = l := (isort_eq (List.Perm.refl l) h).symm
theorem isort_length (l : List Nat) : (isort l).length = l.length := (isort_perm l).length_eq
/-- an int list that Python sorted -/
theorem int_sorted {l : List Nat} {m : List Int} (p : m.Perm (l.map fun (n : Nat) => (n : Int))) (h : m.Pairwise (· ≤ ·)) : m = (isort l).map fun (n : Nat) => (n : Int) := by
  have g : ∃ k : List Nat, m = k.map fun (n : Nat) => (n : Int) := by
    have nn : ∀ z ∈ m, 0 ≤ z := fun z hz => by
      obtain ⟨n, _, e⟩ := List.mem_map.mp (p.mem_iff.mp hz)
      subst e; exact Int.natCast_nonneg _
    clear p h
    induction m with
    | nil => exact ⟨[], rfl⟩
    | cons z r ih =>
      obtain ⟨k, e⟩ := ih fun y hy => nn y (List.mem_cons_of_mem _ hy)
      refine ⟨z.toNat :: k, ?_⟩
      rw [List.map_cons, ← e]
      have := nn z List.mem_cons_self
      congr 1
      omega
  obtain ⟨k, rfl⟩ := g
  have pk : k.Perm l := by
    have := p.map Int.toNat
    rw [List.map_map, List.map_map] at this
    have f : (Int.toNat ∘ fun (n : Nat) => (n : Int)) = id := by funext n; simp
    rw [f, List.map_id, List.map_id] at this
    exact this
  have hk : k.Pairwise (· ≤ ·) := by
    rw [List.pairwise_map] at h
    exact h.imp fun q => by omega
  rw [isort_eq pk hk]
def adj (L : Lanes) (i : Nat) : List Nat := isort (nb L i)
theorem mem_adj {L : Lanes} {i x : Nat} : x ∈ adj L i ↔ Adj L i x := by
  unfold adj
  rw [(isort_perm _).mem_iff, mem_nb]
theorem adjP (L : Lanes) (i : Nat) : isort (nbP L i) = adj L i := isort_congr (nbP_perm L i)
theorem adj_length (L : Lanes) (i : Nat) : (adj L i).length = (nb L i).length := isort_length _
theorem Tr.adj_nodup {vs : List Nat} {L : Lanes} (g : Tr vs L) (i : Nat) : (adj L i).Nodup := (isort_perm _).nodup_iff.mpr (g.nbnd i)
/-! ### what a search tells -/
structure Told (L : Lanes) (goal : Nat) (kvs : List (Nat × Nat)) : Prop where
  nd : (kvs.map (·.1)).Nodup
  ord : ∀ (i k h : Nat), kvs[i]? = some (k, h) → Adj L h k ∧ k ≠ goal ∧ (h = goal ∨ ∃ j, j < i ∧ ∃ h', kvs[j]? = some (h, h'))
structure Ahead (L : Lanes) (goal : Nat) (kvs : List (Nat × Nat)) : Prop extends toTold : Told L goal kvs where
  closed : ∀ (x y : Nat), (x = goal ∨ x ∈ kvs.map (·.1)) → Adj L x y → y = goal ∨ y ∈ kvs.map (·.1)
theorem nodup_ix {α : Type} {l : List α} (nd : l.Nodup) {i j : Nat} {x : α} (a : l[i]? = some x) (b : l[j]? = some x) : i = j := by
  obtain ⟨h1, e1⟩ := List.getElem?_eq_some_iff.mp a
  obtain ⟨h2, e2⟩ := List.getElem?_eq_some_iff.mp b
  exact (List.getElem_inj nd).mp (e1.trans e2.symm)
theorem Told.key_ix {L : Lanes} {goal : Nat} {kvs : List (Nat × Nat)} (T : Told L goal kvs) {i j k h h' : Nat} (a : kvs[i]? = some (k, h)) (b : kvs[j]? = some (k, h')) : i = j := by
  refine nodup_ix T.nd (x := k) ?_ ?_
  · rw [List.getElem?_map, a]; rfl
  · rw [List.getElem?_map, b]; rfl
theorem Told.path {L : Lanes} {goal : Nat} {kvs : List (Nat × Nat)} (T : Told L goal kvs) : ∀ (i k h : Nat), kvs[i]? = some (k, h) →
    ∃ r, Path L k goal (k :: h :: r) ∧ ∀ x ∈ k :: h :: r, x = goal ∨ ∃ j, j ≤ i ∧ ∃ h', kvs[j]? = some (x, h') := by
  intro i
  induction i using Nat.strongRecOn with
  | _ i ih =>
    intro k h e
    obtain ⟨a, ng, o⟩ := T.ord i k h e
    rcases o with o | ⟨j, hj, h', e'⟩
    · subst o
      refine ⟨[], ⟨⟨a.symm, trivial⟩, by simp [ng], rfl, rfl⟩, fun x hx => ?_⟩
      rcases List.mem_cons.mp hx with q | hx
      · subst q; exact .inr ⟨i, Nat.le_refl _, h, e⟩
      · exact .inl (List.mem_singleton.mp hx)
    · obtain ⟨r, P, K⟩ := ih j hj h h' e'
      refine ⟨h' :: r, ⟨⟨a.symm, P.ch⟩, List.nodup_cons.mpr ⟨fun hm => ?_, P.nd⟩, rfl, ?_⟩, fun x hx => ?_⟩
      · rcases K k hm with q | ⟨j', hj', h'', q⟩
        · exact ng q
        · have := T.key_ix e q
          omega
      · rw [List.getLast?_cons_cons]; exact P.lt
      · rcases List.mem_cons.mp hx with q | hx
        · subst q; exact .inr ⟨i, Nat.le_refl _, h, e⟩
        · rcases K x hx with q | ⟨j', hj', q⟩
          · exact .inl q
          · exact .inr ⟨j', by omega, q⟩
theorem Ahead.all {vs : List Nat} {L : Lanes} {goal : Nat} {kvs : List (Nat × Nat)} (g : Tr vs L) (A : Ahead L goal kvs) (hg : goal ∈ vs) {x : Nat} (hx : x ∈ vs) : x = goal ∨ x ∈ kvs.map (·.1) := by
  obtain ⟨p, P, _⟩ := g.conn hg hx
  have f : ∀ (p : List Nat) (s t : Nat), Chain L p → p.head? = some s → p.getLast? = some t → (s = goal ∨ s ∈ kvs.map (·.1)) → t = goal ∨ t ∈ kvs.map (·.1) := by
    intro p
    induction p with
    | nil => intro s t _ h; cases h
    | cons a r ih =>
      intro s t c h l k
      have e : a = s := Option.some.inj h
      subst e
      cases r with
      | nil =>
        have e : a = t := Option.some.inj l
        subst e; exact k
      | cons b r =>
        rw [List.getLast?_cons_cons] at l
        exact ih b t c.2 rfl l (A.closed _ _ k c.1)
  exact f p goal x P.ch P.hd P.lt (.inl rfl)
/-- what is told of a place: the next one on its way -/
def look (kvs : List (Nat × Nat)) (k : Nat) : Option Nat := (kvs.find? fun p => decide (p.1 = k)).map (·.2)
theorem look_ix {kvs : List (Nat × Nat)} {k h : Nat} (e : look kvs k = some h) : ∃ i : Nat, kvs[i]? = some (k, h) := by
  unfold look at e
  cases q : kvs.find? fun p => decide (p.1 = k) with
  | none => rw [q] at e; cases e
  | some p =>
    rw [q] at e
    have e : p.2 = h := Option.some.inj e
    have m := List.mem_of_find?_eq_some q
    have z := List.find?_some q
    obtain ⟨i, hi⟩ := List.getElem?_of_mem m
    obtain ⟨a, b⟩ := p
    have z : a = k := by simpa using z
    subst z; subst e
    exact ⟨i, hi⟩
theorem look_some {kvs : List (Nat × Nat)} {k : Nat} (h : k ∈ kvs.map (·.1)) : ∃ v, look kvs k = some v := by
  unfold look
  cases q : kvs.find? fun p => decide (p.1 = k) with
  | some p => exact ⟨p.2, rfl⟩
  | none =>
    obtain ⟨p, hp, e⟩ := List.mem_map.mp h
    have := List.find?_eq_none.mp q p hp
    simp [e] at this
theorem Ahead.next {vs : List Nat} {L : Lanes} {goal : Nat} {kvs : List (Nat × Nat)} (g : Tr vs L) (A : Ahead L goal kvs) (hg : goal ∈ vs) {x : Nat} (hx : x ∈ vs) (n : x ≠ goal) : ∃ h r, look kvs x = some h ∧ Path L x goal (x :: h :: r) := by
  rcases A.all g hg hx with e | m
  · exact absurd e n
  · obtain ⟨h, e⟩ := look_some m
    obtain ⟨i, hi⟩ := look_ix e
    obtain ⟨r, P, _⟩ := A.toTold.path i x h hi
    exact ⟨h, r, e, P⟩
/-! ### next places -/
/-- N g p: the place behind p on the way to g -/
def IsNext (vs : List Nat) (L : Lanes) (N : Nat → Nat → Nat) : Prop := ∀ g p, g ∈ vs → p ∈ vs → p ≠ g → ∃ r, Path L p g (p :: N g p :: r)
section
variable {vs : List Nat} {L : Lanes} {N : Nat → Nat → Nat}
theorem next_of (G : Tr vs L) (I : IsNext vs L N) {p g h : Nat} {r : List Nat} (P : Path L p g (p :: h :: r)) : N g p = h := by
  have hp := (G.ends P.ch.1).1
  have n : p ≠ g := fun e => by
    have l := P.lt
    rw [List.getLast?_cons_cons] at l
    rw [← e] at l
    exact (List.nodup_cons.mp P.nd).1 (List.mem_of_getLast? l)
  have hg : g ∈ vs := by
    have f : ∀ (r : List Nat) (x h : Nat), Chain L (x :: h :: r) → (h :: r).getLast? = some g → g ∈ vs := by
      intro r
      induction r with
      | nil => intro x h c l; have e : h = g := Option.some.inj l; exact e ▸ (G.ends c.1).2
      | cons y r ih => intro x h c l; exact ih h y c.2 (by rw [List.getLast?_cons_cons] at l; exact l)
    have l := P.lt
    rw [List.getLast?_cons_cons] at l
    exact f r p h P.ch l
  obtain ⟨r', P'⟩ := I g p hg hp n
  have := G.unique P P'
  injection this with _ e
  injection e with e _
  exact e.symm
/-- a neighbour on the way is the next place -/
theorem on_way (G : Tr vs L) {y o h t : Nat} {r : List Nat} (P : Path L y o (y :: h :: r)) (a : Adj L y t) (m : t ∈ h :: r) : t = h := by
  obtain ⟨A, B, e⟩ := List.append_of_mem m
  have c : Chain L (t :: B) := by
    have := P.ch.tail
    rw [e] at this
    exact this.right
  have nd := List.nodup_cons.mp P.nd
  have P' : Path L y o (y :: t :: B) := by
    refine ⟨⟨a, c⟩, List.nodup_cons.mpr ⟨fun hm => nd.1 ?_, ?_⟩, rfl, ?_⟩
    · rw [e]; exact List.mem_append_right _ hm
    · have := nd.2
      rw [e] at this
      exact (List.nodup_append.mp this).2.1
    · have l := P.lt
      rw [List.getLast?_cons_cons, e] at l
      rw [List.getLast?_cons_cons]
      rw [List.getLast?_append] at l
      cases q : (t :: B).getLast? with
      | none => simp at q
      | some z => rw [q] at l; exact l
  have := G.unique P P'
  injection this with _ q
  injection q with q _
  exact q.symm
/-- is u behind y, seen from t? -/
def beh (N : Nat → Nat → Nat) (y t u : Nat) : Bool := decide (u = y) || !decide (N u y = t)
/-- own ways tell the same -/
theorem beh_way (G : Tr vs L) (I : IsNext vs L N) {y t u : Nat} {W : List Nat} (hy : y ∈ vs) (hu : u ∈ vs) (a : Adj L y t) (P : Path L u y W) : beh N y t u = !decide (t ∈ W) := by
  have nty : t ≠ y := fun e => G.irrefl (e ▸ a)
  unfold beh
  by_cases e : u = y
  · subst e
    have : W = [u] := path_one P
    subst this
    simp [nty]
  · obtain ⟨r, Q⟩ := I u y hu hy (fun z => e z.symm)
    have : W = (y :: N u y :: r).reverse := by
      have := G.unique P.reverse Q
      rw [← this, List.reverse_reverse]
    rw [this]
    simp only [e, decide_false, Bool.false_or, List.mem_reverse]
    by_cases q : N u y = t
    · simp [q]
    · have : t ∉ y :: N u y :: r := fun m => by
        rcases List.mem_cons.mp m with z | m
        · exact nty z
        · exact q (on_way G Q a m).symm
      simp [q, this]
theorem next_nb (G : Tr vs L) (I : IsNext vs L N) {x y : Nat} (a : Adj L x y) : N y x = y := by
  have n : x ≠ y := fun e => G.irrefl (e ▸ a)
  exact next_of G I (r := []) ⟨⟨a, trivial⟩, by simp [n], rfl, rfl⟩
/-- each u lies behind just one of both -/
theorem beh_other (G : Tr vs L) (I : IsNext vs L N) {y t u : Nat} (hu : u ∈ vs) (a : Adj L y t) : beh N t y u = !beh N y t u := by
  have n : y ≠ t := fun e => G.irrefl (e ▸ a)
  unfold beh
  by_cases e1 : u = y
  · subst e1
    have : ¬ u = t := n
    simp [this, next_nb G I a.symm]
  · by_cases e2 : u = t
    · subst e2
      simp [e1, next_nb G I a]
    · have hy := (G.ends a).1
      have ht := (G.ends a).2
      obtain ⟨r, P⟩ := I u y hu hy (fun z => e1 z.symm)
      simp only [e1, e2, decide_false, Bool.false_or]
      by_cases q : N u y = t
      · -- t behind y
        rw [q] at P
        cases r with
        | nil =>
          have := P.lt
          exact absurd (Option.some.inj this).symm e2
        | cons z r =>
          have nd := List.nodup_cons.mp P.nd
          have Pt : Path L t u (t :: z :: r) := ⟨P.ch.2, nd.2, rfl, by have := P.lt; rwa [List.getLast?_cons_cons] at this⟩
          have := next_of G I Pt
          have nz : ¬ N u t = y := by
            rw [this]
            intro ez
            exact nd.1 (ez ▸ List.mem_cons_of_mem _ List.mem_cons_self)
          simp [q, nz]
      · have nt : t ∉ y :: N u y :: r := fun m => by
          rcases List.mem_cons.mp m with z | m
          · exact n z.symm
          · exact q (on_way G P a m).symm
        have Pt : Path L t u (t :: y :: N u y :: r) := ⟨⟨a.symm, P.ch⟩, List.nodup_cons.mpr ⟨nt, P.nd⟩, rfl, by rw [List.getLast?_cons_cons]; exact P.lt⟩
        have := next_of G I Pt
        simp [q, this]
/-- behind y seen from t, but y: behind the one neighbour ahead -/
theorem beh_nb (G : Tr vs L) (I : IsNext vs L N) {y o u : Nat} (hu : u ∈ vs) (a : Adj L y o) : beh N o y u = true ↔ u ≠ y ∧ N u y = o := by
  rw [beh_other G I hu a]
  unfold beh
  by_cases e : u = y <;> simp [e]
/-- the next place is a yard, if the end is one -/
theorem next_yard (G : Tr vs L) (I : IsNext vs L N) {y u : Nat} (hu : u ∈ vs) (hy : y ∈ vs) (n : u ≠ y) (yu : 1 < (nb L u).length) : Adj L y (N u y) ∧ 1 < (nb L (N u y)).length := by
  obtain ⟨r, P⟩ := I u y hu hy (fun z => n z.symm)
  refine ⟨P.ch.1, ?_⟩
  cases r with
  | nil =>
    have e : N u y = u := Option.some.inj P.lt
    rw [e]; exact yu
  | cons z r =>
    refine two_nb (y := y) (z := z) P.ch.1.symm P.ch.2.1 fun e => ?_
    exact (List.nodup_cons.mp P.nd).1 (e ▸ List.mem_cons_of_mem _ List.mem_cons_self)
end
end TM
set_option linter.all false
/-! searches: deep (the program's) and broad (the law's), by what holds between two turns. Plain Lean. -/
namespace TM
theorem nodup_len : ∀ {l m : List Nat}, l.Nodup → (∀ x ∈ l, x ∈ m) → l.length ≤ m.length
  | [], _, _, _ => Nat.zero_le _
  | a :: l, m, nd, h => by
    obtain ⟨n1, n2⟩ := List.nodup_cons.mp nd
    have ha := h a List.mem_cons_self
    have := nodup_len (l := l) (m := m.erase a) n2 fun x hx => (List.mem_erase_of_ne (fun (e : x = a) => n1 (by rw [← e]; exact hx))).mpr (h x (List.mem_cons_of_mem _ hx))
    rw [List.length_erase_of_mem ha] at this
    have := List.length_pos_of_mem ha
    simp
    omega
def keys (kvs : List (Nat × Nat)) : List Nat := kvs.map (·.1)
def Known (goal : Nat) (kvs : List (Nat × Nat)) (x : Nat) : Prop := x = goal ∨ x ∈ keys kvs
theorem Known.more {goal : Nat} {kvs : List (Nat × Nat)} {x : Nat} {q : Nat × Nat} (h : Known goal kvs x) : Known goal (kvs ++ [q]) x := h.elim .inl fun h => .inr (by
  unfold keys at *
  rw [List.map_append]
  exact List.mem_append_left _ h)
theorem known_new {goal : Nat} {kvs : List (Nat × Nat)} {y h : Nat} : Known goal (kvs ++ [(y, h)]) y := .inr (by simp [keys])
structure DOut (L : Lanes) (goal : Nat) (kvs : List (Nat × Nat)) (wt : List Nat) : Prop where
  told : Told L goal kvs
  sub : ∀ x ∈ wt, Known goal kvs x
  closed : ∀ x y, Known goal kvs x → x ∉ wt → Adj L x y → Known goal kvs y
structure DIn (L : Lanes) (goal here : Nat) (i : Nat) (kvs : List (Nat × Nat)) (wt : List Nat) : Prop where
  told : Told L goal kvs
  sub : ∀ x ∈ wt, Known goal kvs x
  me : Known goal kvs here
  closed : ∀ x y, Known goal kvs x → x ∉ wt → x ≠ here → Adj L x y → Known goal kvs y
  part : ∀ y ∈ (adj L here).take i, Known goal kvs y
theorem DOut.start (L : Lanes) (goal : Nat) : DOut L goal [] [goal] := by
  refine ⟨⟨List.nodup_nil, fun i k h e => by simp at e⟩, fun x hx => .inl (List.mem_singleton.mp hx), fun x y k n _ => ?_⟩
  rcases k with k | k
  · exact absurd (List.mem_singleton.mpr k) n
  · cases k
theorem DOut.pop {L : Lanes} {goal here : Nat} {kvs : List (Nat × Nat)} {wt : List Nat} (h : DOut L goal kvs (wt ++ [here])) : DIn L goal here 0 kvs wt := by
  refine ⟨h.told, fun x hx => h.sub x (List.mem_append_left _ hx), h.sub here (by simp), fun x y k n ne a => h.closed x y k (fun m => ?_) a, fun y hy => by simp at hy⟩
  rcases List.mem_append.mp m with m | m
  · exact n m
  · exact ne (List.mem_singleton.mp m)
theorem DIn.done {L : Lanes} {goal here : Nat} {kvs : List (Nat × Nat)} {wt : List Nat} (h : DIn L goal here (adj L here).length kvs wt) : DOut L goal kvs wt := by
  refine ⟨h.told, h.sub, fun x y k n a => ?_⟩
  by_cases e : x = here
  · subst e
    refine h.part y ?_
    rw [List.take_length]
    exact mem_adj.mpr a
  · exact h.closed x y k n e a
theorem DIn.skip {L : Lanes} {goal here i y : Nat} {kvs : List (Nat × Nat)} {wt : List Nat} (h : DIn L goal here i kvs wt) (hy : (adj L here)[i]? = some y) (k : Known goal kvs y) : DIn L goal here (i + 1) kvs wt := by
  refine ⟨h.told, h.sub, h.me, h.closed, fun z hz => ?_⟩
  rw [List.take_add_one, hy] at hz
  rcases List.mem_append.mp hz with hz | hz
  · exact h.part z hz
  · have : z = y := by simpa using hz
    subst this
    exact k
theorem Told.more {L : Lanes} {goal here y : Nat} {kvs : List (Nat × Nat)} (h : Told L goal kvs) (me : Known goal kvs here) (a : Adj L here y) (n : ¬ Known goal kvs y) : Told L goal (kvs ++ [(y, here)]) := by
  have n1 : y ≠ goal := fun e => n (.inl e)
  have n2 : y ∉ keys kvs := fun e => n (.inr e)
  refine ⟨?_, fun i k hh e => ?_⟩
  · rw [List.map_append]
    exact List.nodup_append.mpr ⟨h.nd, by simp, fun x hx z hz e => by
      have : z = y := by simpa using hz
      subst this
      subst e
      exact n2 hx⟩
  · by_cases hi : i < kvs.length
    · rw [List.getElem?_append_left hi] at e
      obtain ⟨b1, b2, b3⟩ := h.ord i k hh e
      refine ⟨b1, b2, b3.elim .inl fun ⟨j, hj, h', e'⟩ => .inr ⟨j, hj, h', ?_⟩⟩
      rw [List.getElem?_append_left (by omega)]
      exact e'
    · rw [List.getElem?_append_right (by omega)] at e
      have e0 : i - kvs.length = 0 := by
        have := (List.getElem?_eq_some_iff.mp e).1
        simp at this
        omega
      rw [e0] at e
      have e : (y, here) = (k, hh) := Option.some.inj e
      cases e
      refine ⟨a, n1, me.elim .inl fun m => .inr ?_⟩
      obtain ⟨p, hp, e2⟩ := List.mem_map.mp m
      obtain ⟨j, hj⟩ := List.getElem?_of_mem hp
      have hj2 := (List.getElem?_eq_some_iff.mp hj).1
      obtain ⟨p1, p2⟩ := p
      simp only at e2
      subst e2
      exact ⟨j, by omega, p2, by rw [List.getElem?_append_left hj2]; exact hj⟩
theorem DIn.add {L : Lanes} {goal here i y : Nat} {kvs : List (Nat × Nat)} {wt : List Nat} (h : DIn L goal here i kvs wt) (hy : (adj L here)[i]? = some y) (n : ¬ Known goal kvs y) : DIn L goal here (i + 1) (kvs ++ [(y, here)]) (wt ++ [y]) := by
  have a : Adj L here y := mem_adj.mp (List.mem_of_getElem? hy)
  refine ⟨h.told.more h.me a n, fun x hx => ?_, h.me.more, fun x z k nx ne az => ?_, fun z hz => ?_⟩
  · rcases List.mem_append.mp hx with hx | hx
    · exact (h.sub x hx).more
    · have : x = y := by simpa using hx
      subst this
      exact known_new
  · have nxy : x ≠ y := fun e => nx (by rw [e]; simp)
    have kx : Known goal kvs x := k.elim .inl fun k => .inr (by
      unfold keys at *
      rw [List.map_append] at k
      rcases List.mem_append.mp k with k | k
      · exact k
      · exact absurd (by simpa using k) nxy)
    exact (h.closed x z kx (fun m => nx (List.mem_append_left _ m)) ne az).more
  · rw [List.take_add_one, hy] at hz
    rcases List.mem_append.mp hz with hz | hz
    · exact (h.part z hz).more
    · have : z = y := by simpa using hz
      subst this
      exact known_new
/-- there is room for one more -/
theorem DIn.room {vs : List Nat} {L : Lanes} (g : Tr vs L) {goal here i y : Nat} {kvs : List (Nat × Nat)} {wt : List Nat} (h : DIn L goal here i kvs wt) (hg : goal ∈ vs) (hy : y ∈ vs) (n : ¬ Known goal kvs y) : kvs.length + 1 < vs.length := by
  have nd : (goal :: y :: keys kvs).Nodup := by
    refine List.nodup_cons.mpr ⟨fun m => ?_, List.nodup_cons.mpr ⟨fun m => n (.inr m), h.told.nd⟩⟩
    rcases List.mem_cons.mp m with e | m
    · exact n (.inl e.symm)
    · obtain ⟨p, hp, e⟩ := List.mem_map.mp m
      obtain ⟨j, hj⟩ := List.getElem?_of_mem hp
      exact (h.told.ord j p.1 p.2 hj).2.1 e
  have := nodup_len nd (m := vs) fun x hx => by
    rcases List.mem_cons.mp hx with e | hx
    · exact e ▸ hg
    · rcases List.mem_cons.mp hx with e | hx
      · exact e ▸ hy
      · obtain ⟨p, hp, e⟩ := List.mem_map.mp hx
        obtain ⟨j, hj⟩ := List.getElem?_of_mem hp
        exact e ▸ (g.ends (h.told.ord j p.1 p.2 hj).1).2
  simp [keys] at this
  omega
theorem DOut.ahead {L : Lanes} {goal : Nat} {kvs : List (Nat × Nat)} (h : DOut L goal kvs []) : Ahead L goal kvs := ⟨h.told, fun x y k a => h.closed x y k (by simp) a⟩

/-! ### the law's search: rows are simple paths -/
structure Br (vs : List Nat) (L : Lanes) (s e : Nat) (rows : List (List Nat)) (at_ : Nat) : Prop where
  le : at_ ≤ rows.length
  one : rows[0]? = some [s]
  paths : ∀ r ∈ rows, ∃ t, t ∈ vs ∧ Path L s t r
  nd : rows.Nodup
  par : ∀ (j : Nat) (r : List Nat), rows[j]? = some r → j ≠ 0 → ∃ (i : Nat) (r0 : List Nat) (z : Nat), i < at_ ∧ rows[i]? = some r0 ∧ r = r0 ++ [z]
  full : ∀ (i : Nat) (r : List Nat) (t z : Nat), i < at_ → rows[i]? = some r → r.getLast? = some t → Adj L t z → z ∉ r → r ++ [z] ∈ rows
  not_ : ∀ (i : Nat) (r : List Nat), i < at_ → rows[i]? = some r → r.getLast? ≠ some e
theorem Br.start {vs : List Nat} {L : Lanes} {s e : Nat} (hs : s ∈ vs) : Br vs L s e [[s]] 0 := by
  refine ⟨Nat.zero_le _, rfl, fun r hr => ⟨s, hs, ?_⟩, by simp, fun j r h n => ?_, fun i r t z h => by omega, fun i r h => by omega⟩
  · rw [List.mem_singleton.mp hr]
    exact ⟨trivial, by simp, rfl, rfl⟩
  · have := (List.getElem?_eq_some_iff.mp h).1
    simp at this
    exact absurd this n
/-- there is always a next row -/
theorem Br.more {vs : List Nat} {L : Lanes} (g : Tr vs L) {s e : Nat} {rows : List (List Nat)} {at_ : Nat} (B : Br vs L s e rows at_) (hs : s ∈ vs) (he : e ∈ vs) : at_ < rows.length := by
  refine Nat.lt_of_not_le fun hle => ?_
  have ha : at_ = rows.length := Nat.le_antisymm B.le hle
  obtain ⟨p, P, _⟩ := g.conn hs he
  -- all beginnings of p are rows
  have f : ∀ (q w : List Nat), p = q ++ w → q ≠ [] → q ∈ rows := by
    intro q
    induction hq : q.length generalizing q with
    | zero => intro w _ n; exact absurd (List.length_eq_zero_iff.mp hq) n
    | succ k ih =>
      intro w e n
      cases k with
      | zero =>
        match q, hq with
        | [x], _ =>
          have := P.hd
          rw [e] at this
          have : x = s := Option.some.inj this
          subst this
          exact List.mem_of_getElem? B.one
      | succ k =>
        have hq0 : q = q.dropLast ++ [q.getLast n] := (List.dropLast_concat_getLast n).symm
        have l0 : q.dropLast.length = k + 1 := by rw [List.length_dropLast, hq]; rfl
        have n0 : q.dropLast ≠ [] := fun z => by rw [z] at l0; cases l0
        have e2 : p = q.dropLast ++ ([q.getLast n] ++ w) := by
          rw [e]
          conv => lhs; rw [hq0]
          rw [List.append_assoc]
        have m0 := ih q.dropLast l0 ([q.getLast n] ++ w) e2 n0
        obtain ⟨i, hi⟩ := List.getElem?_of_mem m0
        have hi2 := (List.getElem?_eq_some_iff.mp hi).1
        have hl : q.dropLast.getLast? = some (q.dropLast.getLast n0) := List.getLast?_eq_some_getLast n0
        rw [hq0]
        refine B.full i _ _ _ (by omega) hi hl ?_ ?_
        · have c := P.ch
          rw [e2] at c
          have c : Chain L (q.dropLast ++ ([q.getLast n] ++ w)) := c
          have key : ∀ (u : List Nat) (t z : Nat) (w : List Nat), Chain L (u ++ (z :: w)) → u.getLast? = some t → Adj L t z := by
            intro u
            induction u with
            | nil => intro t z w _ h; cases h
            | cons a u ih2 =>
              intro t z w c h
              cases u with
              | nil =>
                have : a = t := Option.some.inj h
                subst this
                exact c.1
              | cons b u => exact ih2 t z w c.2 (by rw [List.getLast?_cons_cons] at h; exact h)
          exact key _ _ _ w c hl
        · have nd := P.nd
          rw [e2] at nd
          intro m
          exact (List.nodup_append.mp nd).2.2 _ m _ (by simp) rfl
  have hp : p ∈ rows := f p [] (by simp) (fun z => by have := P.hd; rw [z] at this; cases this)
  obtain ⟨i, hi⟩ := List.getElem?_of_mem hp
  exact B.not_ i p (by rw [ha]; exact (List.getElem?_eq_some_iff.mp hi).1) hi P.lt
/-- at most one row a place -/
theorem Br.len {vs : List Nat} {L : Lanes} (g : Tr vs L) {s e : Nat} {rows : List (List Nat)} {at_ : Nat} (B : Br vs L s e rows at_) : rows.length ≤ vs.length := by
  have f : ∀ (rows : List (List Nat)), (∀ r ∈ rows, ∃ t, t ∈ vs ∧ Path L s t r) → rows.Nodup → ∃ ts : List Nat, ts.length = rows.length ∧ ts.Nodup ∧ (∀ t ∈ ts, t ∈ vs) ∧ ∀ t ∈ ts, ∃ r ∈ rows, Path L s t r := by
    intro rows
    induction rows with
    | nil => intro _ _; exact ⟨[], rfl, List.nodup_nil, by simp, by simp⟩
    | cons r rows ih =>
      intro h nd
      obtain ⟨n1, n2⟩ := List.nodup_cons.mp nd
      obtain ⟨ts, h1, h2, h3, h4⟩ := ih (fun r hr => h r (List.mem_cons_of_mem _ hr)) n2
      obtain ⟨t, ht, P⟩ := h r List.mem_cons_self
      refine ⟨t :: ts, by simp [h1], List.nodup_cons.mpr ⟨fun m => ?_, h2⟩, fun x hx => ?_, fun x hx => ?_⟩
      · obtain ⟨r', hr', P'⟩ := h4 t m
        exact n1 (g.unique P P' ▸ hr')
      · rcases List.mem_cons.mp hx with e | hx
        · exact e ▸ ht
        · exact h3 x hx
      · rcases List.mem_cons.mp hx with e | hx
        · subst e; exact ⟨r, List.mem_cons_self, P⟩
        · obtain ⟨r', hr', P'⟩ := h4 x hx
          exact ⟨r', List.mem_cons_of_mem _ hr', P'⟩
  obtain ⟨ts, h1, h2, h3, _⟩ := f rows B.paths B.nd
  rw [← h1]
  exact nodup_len h2 h3
theorem Br.step {vs : List Nat} {L : Lanes} (g : Tr vs L) {s e t : Nat} {rows : List (List Nat)} {at_ : Nat} {r : List Nat} (B : Br vs L s e rows at_) (hr : rows[at_]? = some r) (ht : r.getLast? = some t) (ne : t ≠ e) :
    Br vs L s e (rows ++ (((adj L t).filter fun z => !decide (z ∈ r)).map fun z => r ++ [z])) (at_ + 1) := by
  have hlt := (List.getElem?_eq_some_iff.mp hr).1
  obtain ⟨t', ht', P⟩ := B.paths r (List.mem_of_getElem? hr)
  have : t' = t := Option.some.inj (P.lt.symm.trans ht)
  subst this
  have hz : ∀ {z}, z ∈ (adj L t').filter (fun z => !decide (z ∈ r)) → Adj L t' z ∧ z ∉ r := fun {z} h => by
    have := List.mem_filter.mp h
    exact ⟨mem_adj.mp this.1, by simpa using this.2⟩
  have newP : ∀ {z}, Adj L t' z → z ∉ r → z ∈ vs ∧ Path L s z (r ++ [z]) := fun {z} a n => by
    refine ⟨(g.ends a).2, P.ch.snoc ht a, List.nodup_append.mpr ⟨P.nd, by simp, fun x hx y hy e => by
      have : y = z := by simpa using hy
      subst this; subst e; exact n hx⟩, ?_, by simp⟩
    cases r with
    | nil => exact absurd P.hd (by simp)
    | cons x r => exact P.hd
  have old : ∀ {z}, Adj L t' z → z ∉ r → r ++ [z] ∉ rows := fun {z} a n m => by
    obtain ⟨j, hj⟩ := List.getElem?_of_mem m
    have j0 : j ≠ 0 := fun e0 => by
      rw [e0, B.one] at hj
      have := Option.some.inj hj
      have l := congrArg List.length this
      simp at l
      have := P.hd
      rw [l] at this
      cases this
    obtain ⟨i, r0, z', hi, hi2, e'⟩ := B.par j _ hj j0
    have e2 : r = r0 := (List.append_inj' e' rfl).1
    have : i = at_ := nodup_ix B.nd hi2 (e2 ▸ hr)
    omega
  refine ⟨?_, ?_, fun q hq => ?_, ?_, fun j q hq j0 => ?_, fun i q t2 z hi hq hl a n => ?_, fun i q hi hq => ?_⟩
  · rw [List.length_append]; omega
  · rw [List.getElem?_append_left (by omega)]; exact B.one
  · rcases List.mem_append.mp hq with hq | hq
    · exact B.paths q hq
    · obtain ⟨z, hz2, e2⟩ := List.mem_map.mp hq
      subst e2
      obtain ⟨a, n⟩ := hz hz2
      exact ⟨z, (newP a n).1, (newP a n).2⟩
  · refine List.nodup_append.mpr ⟨B.nd, ?_, fun x hx y hy e2 => ?_⟩
    · refine List.pairwise_map.mpr ?_
      exact ((g.adj_nodup t').filter _).imp fun h e2 => h (by
        have := (List.append_inj' e2 rfl).2
        simpa using this)
    · obtain ⟨z, hz2, e3⟩ := List.mem_map.mp hy
      subst e2
      subst e3
      obtain ⟨a, n⟩ := hz hz2
      exact old a n hx
  · by_cases hj : j < rows.length
    · rw [List.getElem?_append_left hj] at hq
      obtain ⟨i, r0, z, hi, hi2, e2⟩ := B.par j q hq j0
      exact ⟨i, r0, z, by omega, by rw [List.getElem?_append_left (by omega)]; exact hi2, e2⟩
    · rw [List.getElem?_append_right (by omega)] at hq
      obtain ⟨z, hz2, e2⟩ := List.mem_map.mp (List.mem_of_getElem? hq)
      exact ⟨at_, r, z, by omega, by rw [List.getElem?_append_left hlt]; exact hr, e2.symm⟩
  · rw [List.getElem?_append_left (by omega)] at hq
    by_cases hi2 : i = at_
    · subst hi2
      have : q = r := Option.some.inj (hq.symm.trans hr)
      subst this
      have : t2 = t' := Option.some.inj (hl.symm.trans ht)
      subst this
      exact List.mem_append_right _ (List.mem_map.mpr ⟨z, List.mem_filter.mpr ⟨mem_adj.mpr a, by simp [n]⟩, rfl⟩)
    · exact List.mem_append_left _ (B.full i q t2 z (by omega) hq hl a n)
  · rw [List.getElem?_append_left (by omega)] at hq
    by_cases hi2 : i = at_
    · subst hi2
      have : q = r := Option.some.inj (hq.symm.trans hr)
      subst this
      rw [ht]
      exact fun z => ne (Option.some.inj z)
    · exact B.not_ i q (by omega) hq
end TM
set_option linter.all false
/-! lanes told otherwise, yards and gates. Plain Lean. -/
namespace TM
theorem nb_perm {L M : Lanes} (h : L.Perm M) (i : Nat) : (nb L i).Perm (nb M i) := by
  unfold nb out inn
  exact ((h.filter _).map _).append ((h.filter _).map _)
def norm1 (p : Nat × Nat) : Nat × Nat := (min p.1 p.2, max p.1 p.2)
def norm (L : Lanes) : Lanes := L.map norm1
theorem nbP_norm : ∀ (L : Lanes) (i : Nat), (nbP (norm L) i).Perm (nbP L i)
  | [], _ => List.Perm.refl _
  | (a, b) :: L, i => by
    have ih := nbP_norm L i
    show (nbP (norm1 (a, b) :: norm L) i).Perm _
    by_cases h : a ≤ b
    · have e : norm1 (a, b) = (a, b) := by simp [norm1, Nat.min_eq_left h, Nat.max_eq_right h]
      rw [e]
      unfold nbP
      exact (ih.append_left _).append_left _
    · have h' : b ≤ a := by omega
      have e : norm1 (a, b) = (b, a) := by simp [norm1, Nat.min_eq_right h', Nat.max_eq_left h']
      rw [e]
      unfold nbP
      rw [← List.append_assoc, ← List.append_assoc]
      exact List.Perm.append List.perm_append_comm ih
theorem nb_norm (L : Lanes) (i : Nat) : (nb (norm L) i).Perm (nb L i) := (nbP_perm _ i).symm.trans ((nbP_norm L i).trans (nbP_perm L i))
theorem adj_of {L M : Lanes} (h : ∀ i, (nb L i).Perm (nb M i)) : adj L = adj M := funext fun i => isort_congr (h i)
def yardsL (L : Lanes) : List Nat := (List.range (L.length + 1)).filter fun i => decide (1 < (adj L i).length)
def gatesL (L : Lanes) : List Nat := (List.range (L.length + 1)).filter fun i => decide ((adj L i).length = 1)
/-- lanes of a country -/
structure Good (vs : List Nat) (L : Lanes) : Prop where
  tr : Tr vs L
  vs_ : ∀ v, v ∈ vs ↔ v < L.length + 1
  deg : ∀ i, (adj L i).length ≤ 4
  least : 1 ≤ (yardsL L).length
  most : (yardsL L).length ≤ 7
  small : L.length ≤ 1000
theorem Good.bound {vs : List Nat} {L : Lanes} (g : Good vs L) : ∀ p ∈ L, p.1 ≤ L.length ∧ p.2 ≤ L.length := fun p hp => by
  have a : Adj L p.1 p.2 := .inl hp
  have h1 := (g.vs_ _).mp (g.tr.ends a).1
  have h2 := (g.vs_ _).mp (g.tr.ends a).2
  exact ⟨by omega, by omega⟩
theorem Tr.same {vs : List Nat} {L M : Lanes} (g : Tr vs L) (h : ∀ i, (nb M i).Perm (nb L i)) (hl : M.length = L.length) : Tr vs M where
  ends := fun a => g.ends ((nb_adj h).mp a)
  irrefl := fun a => g.irrefl ((nb_adj h).mp a)
  unique := fun P Q => g.unique (P.to (nb_adj h).mp) (Q.to (nb_adj h).mp)
  conn := fun hs ht => by
    obtain ⟨p, P, k⟩ := g.conn hs ht
    exact ⟨p, P.to (nb_adj h).mpr, k⟩
  nbnd := fun i => (h i).nodup_iff.mpr (g.nbnd i)
  length := by rw [hl, g.length]
  nodup := g.nodup
theorem yards_of {L M : Lanes} (h : ∀ i, (nb M i).Perm (nb L i)) (hl : M.length = L.length) : yardsL M = yardsL L := by
  unfold yardsL
  rw [adj_of h, hl]
theorem gates_of {L M : Lanes} (h : ∀ i, (nb M i).Perm (nb L i)) (hl : M.length = L.length) : gatesL M = gatesL L := by
  unfold gatesL
  rw [adj_of h, hl]
theorem Good.same {vs : List Nat} {L M : Lanes} (g : Good vs L) (h : ∀ i, (nb M i).Perm (nb L i)) (hl : M.length = L.length) : Good vs M where
  tr := g.tr.same h hl
  vs_ := fun v => by rw [hl]; exact g.vs_ v
  deg := fun i => by rw [adj_of h]; exact g.deg i
  least := by rw [yards_of h hl]; exact g.least
  most := by rw [yards_of h hl]; exact g.most
  small := by rw [hl]; exact g.small
theorem Ahead.same {L M : Lanes} (h : ∀ {a b : Nat}, Adj M a b ↔ Adj L a b) {goal : Nat} {kvs : List (Nat × Nat)} (A : Ahead M goal kvs) : Ahead L goal kvs :=
  ⟨⟨A.nd, fun i k hh e => ⟨h.mp (A.ord i k hh e).1, (A.ord i k hh e).2⟩⟩, fun x y k a => A.closed x y k (h.mpr a)⟩
theorem Good.zero {vs : List Nat} {L : Lanes} (g : Good vs L) : 0 ∈ vs := (g.vs_ 0).mpr (by omega)
/-- all but the goal are told -/
theorem Ahead.count {vs : List Nat} {L : Lanes} (g : Tr vs L) {goal : Nat} {kvs : List (Nat × Nat)} (A : Ahead L goal kvs) (hg : goal ∈ vs) : kvs.length = L.length := by
  have h1 : (goal :: keys kvs).length ≤ vs.length := by
    refine nodup_len (List.nodup_cons.mpr ⟨fun m => ?_, A.nd⟩) fun x hx => ?_
    · obtain ⟨p, hp, e⟩ := List.mem_map.mp m
      obtain ⟨j, hj⟩ := List.getElem?_of_mem hp
      exact (A.ord j p.1 p.2 hj).2.1 e
    · rcases List.mem_cons.mp hx with e | hx
      · exact e ▸ hg
      · obtain ⟨p, hp, e⟩ := List.mem_map.mp hx
        obtain ⟨j, hj⟩ := List.getElem?_of_mem hp
        exact e ▸ (g.ends (A.ord j p.1 p.2 hj).1).2
  have h2 : vs.length ≤ (goal :: keys kvs).length := nodup_len g.nodup fun x hx => by
    rcases A.all g hg hx with e | m
    · exact e ▸ List.mem_cons_self
    · exact List.mem_cons_of_mem _ m
  have := g.length
  simp [keys] at h1 h2
  omega
theorem mem_yards {L : Lanes} {u : Nat} : u ∈ yardsL L ↔ u < L.length + 1 ∧ 1 < (nb L u).length := by
  unfold yardsL
  rw [List.mem_filter, List.mem_range, adj_length]
  simp
theorem yards_nodup (L : Lanes) : (yardsL L).Nodup := List.nodup_range.filter _
theorem yards_sorted (L : Lanes) : (yardsL L).Pairwise (· ≤ ·) := by
  have h : (List.range (L.length + 1)).Pairwise (· ≤ ·) := (List.pairwise_lt_range).imp fun h => Nat.le_of_lt h
  exact h.filter _
end TM
set_option linter.all false
/-! trees drawn vertex by vertex, their numbers mixed. Plain Lean. -/
namespace TM
def deg (L : Lanes) (i : Nat) : Nat := (nb L i).length
theorem deg_P (L : Lanes) (i : Nat) : deg L i = (nbP L i).length := (nbP_perm L i).length_eq.symm
theorem deg_snoc (L : Lanes) (a b i : Nat) : deg (L ++ [(a, b)]) i = deg L i + ((if a = i then 1 else 0) + (if b = i then 1 else 0)) := by
  rw [deg_P, deg_P, nbP_snoc, List.length_append, List.length_append]
  congr 1
  split <;> split <;> simp
theorem deg_reverse (L : Lanes) (i : Nat) : deg L.reverse i = deg L i := (nb_perm (List.reverse_perm L) i).length_eq
theorem deg_none {vs : List Nat} {L : Lanes} (g : Grow vs L) {i : Nat} (h : i ∉ vs) : deg L i = 0 := by
  unfold deg
  cases e : nb L i with
  | nil => rfl
  | cons x r =>
    have : x ∈ nb L i := by rw [e]; exact List.mem_cons_self
    exact absurd (g.ends (mem_nb.mp this)).1 h
/-- places 0 .. i, lanes in the sequence in which they came -/
def Drawn (n : Nat) (L : Lanes) : Prop := Grow (List.range n).reverse L.reverse
theorem Drawn.start : Drawn 1 [] := Grow.one 0
theorem Drawn.more {n o : Nat} {L : Lanes} (d : Drawn n L) (ho : o < n) : Drawn (n + 1) (L ++ [(o, n)]) := by
  unfold Drawn
  rw [List.range_succ, List.reverse_append, List.reverse_append]
  exact Grow.step d (by simp [ho]) (by simp)
theorem Drawn.len {n : Nat} {L : Lanes} (d : Drawn n L) : n = L.length + 1 := by
  have := Grow.length d
  simpa using this
theorem Drawn.zero {n i : Nat} {L : Lanes} (d : Drawn n L) (h : n ≤ i) : deg L i = 0 := by
  rw [← deg_reverse]
  exact deg_none d (by simp; omega)
/-- the degrees that a drawn country ends with -/
structure Done (y : Nat) (L : Lanes) : Prop where
  dr : Drawn (L.length + 1) L
  yd : ∀ j, j < y → 2 ≤ deg L j ∧ deg L j ≤ 4
  gt : ∀ j, y ≤ j → deg L j ≤ 1
  y1 : 1 ≤ y
  y7 : y ≤ 7
  yn : y ≤ L.length + 1
  small : L.length ≤ 100
/-! ### other numbers -/
def ren (f : Nat → Nat) (L : Lanes) : Lanes := L.map fun p => (f p.1, f p.2)
theorem Grow.ren {vs : List Nat} {L : Lanes} (g : Grow vs L) {f : Nat → Nat} (inj : ∀ a ∈ vs, ∀ b ∈ vs, f a = f b → a = b) : Grow (vs.map f) (TM.ren f L) := by
  induction g with
  | one v => exact Grow.one _
  | @step vs L a b g ha hb ih =>
    refine Grow.step (ih fun x hx y hy => inj x (List.mem_cons_of_mem _ hx) y (List.mem_cons_of_mem _ hy)) (List.mem_map.mpr ⟨a, ha, rfl⟩) fun m => ?_
    obtain ⟨c, hc, e⟩ := List.mem_map.mp m
    have := inj c (List.mem_cons_of_mem _ hc) b List.mem_cons_self e
    exact hb (this ▸ hc)
theorem nb_ren {vs : List Nat} {L : Lanes} {f : Nat → Nat} (ends : ∀ p ∈ L, p.1 ∈ vs ∧ p.2 ∈ vs) (inj : ∀ a ∈ vs, ∀ b ∈ vs, f a = f b → a = b) {i : Nat} (hi : i ∈ vs) : nb (ren f L) (f i) = (nb L i).map f := by
  have h : ∀ (g1 g2 : Nat × Nat → Nat), (∀ p ∈ L, g1 p ∈ vs) → ∀ M : Lanes, (∀ p ∈ M, p ∈ L) → ((M.map fun p => (f (g1 p), f (g2 p))).filter fun q => decide (q.1 = f i)).map (·.2) = ((M.filter fun p => decide (g1 p = i)).map g2).map f := by
    intro g1 g2 hg M
    induction M with
    | nil => intro _; rfl
    | cons p M ih =>
      intro hM
      have ih := ih fun q hq => hM q (List.mem_cons_of_mem _ hq)
      have hp := hg p (hM p List.mem_cons_self)
      simp only [List.map_cons, List.filter_cons]
      by_cases c : g1 p = i
      · simp only [c, decide_true, if_true, List.map_cons, ih]
      · have c2 : ¬ f (g1 p) = f i := fun e => c (inj _ hp _ hi e)
        simp only [c, c2, decide_false, Bool.false_eq_true, if_false, ih]
  unfold nb out inn ren
  rw [List.map_append]
  congr 1
  · exact h (·.1) (·.2) (fun p hp => (ends p hp).1) L fun _ h => h
  · have := h (·.2) (·.1) (fun p hp => (ends p hp).2) L fun _ h => h
    rw [← this]
    rw [List.filter_map, List.filter_map, List.map_map, List.map_map]
    rfl
/-- numbers mixed: a list of all places, each once -/
structure Mixed (n : Nat) (ps : List Nat) : Prop where
  len : ps.length = n
  perm : ps.Perm (List.range n)
theorem Mixed.lt {n : Nat} {ps : List Nat} (m : Mixed n ps) {x : Nat} (h : x ∈ ps) : x < n := List.mem_range.mp (m.perm.mem_iff.mp h)
theorem Mixed.nd {n : Nat} {ps : List Nat} (m : Mixed n ps) : ps.Nodup := m.perm.nodup_iff.mpr List.nodup_range
theorem getD_at {l : List Nat} {i : Nat} (h : i < l.length) : l[i]? = some (l.getD i 0) := by
  rw [List.getD_eq_getElem?_getD, List.getElem?_eq_getElem h]
  rfl
theorem Mixed.inj {n : Nat} {ps : List Nat} (m : Mixed n ps) {a b : Nat} (ha : a < n) (hb : b < n) (e : ps.getD a 0 = ps.getD b 0) : a = b :=
  nodup_ix m.nd (getD_at (by rw [m.len]; exact ha)) (by rw [e]; exact getD_at (by rw [m.len]; exact hb))
theorem Mixed.map {n : Nat} {ps : List Nat} (m : Mixed n ps) : (List.range n).map (fun i => ps.getD i 0) = ps := by
  rw [← m.len]
  refine List.ext_getElem (by simp) fun i h1 h2 => ?_
  rw [List.getElem_map, List.getElem_range, List.getD_eq_getElem?_getD, List.getElem?_eq_getElem h2]
  rfl
/-- THE DRAWN LANES ARE THOSE OF A COUNTRY -/
theorem Done.good {y : Nat} {L : Lanes} {ps : List Nat} (D : Done y L) (m : Mixed (L.length + 1) ps) : ∃ vs, Good vs (ren (fun i => ps.getD i 0) L) := by
  let f : Nat → Nat := fun i => ps.getD i 0
  have inj : ∀ a ∈ (List.range (L.length + 1)).reverse, ∀ b ∈ (List.range (L.length + 1)).reverse, f a = f b → a = b := fun a ha b hb e => m.inj (by simpa using ha) (by simpa using hb) e
  have ends : ∀ p ∈ L, p.1 ∈ (List.range (L.length + 1)).reverse ∧ p.2 ∈ (List.range (L.length + 1)).reverse := fun p hp => Grow.ends D.dr (.inl (List.mem_reverse.mpr hp))
  have G := Grow.ren D.dr (f := f) inj
  have er : ren f L.reverse = (ren f L).reverse := by unfold ren; rw [List.map_reverse]
  rw [er] at G
  have len : (ren f L).length = L.length := by unfold ren; rw [List.length_map]
  have T : Tr ((List.range (L.length + 1)).reverse.map f) (ren f L) := G.tr (nb_perm (List.reverse_perm _).symm) (by rw [List.length_reverse])
  have fmem : ∀ v, v ∈ (List.range (L.length + 1)).reverse.map f ↔ v < L.length + 1 := fun v => by
    rw [List.map_reverse, List.mem_reverse]
    have : (List.range (L.length + 1)).map f = ps := m.map
    rw [this, m.perm.mem_iff, List.mem_range]
  have dg : ∀ i, i < L.length + 1 → (adj (ren f L) (f i)).length = deg L i := fun i hi => by
    rw [adj_length, nb_ren ends inj (by simpa using hi), List.length_map]
    rfl
  have yp : (yardsL (ren f L)).Perm ((List.range y).map f) := by
    have n1 := yards_nodup (ren f L)
    have n2 : ((List.range y).map f).Nodup := List.pairwise_map.mpr (List.Pairwise.imp_of_mem (fun {a b} ha hb h e => h (m.inj (by have := List.mem_range.mp ha; have := D.yn; omega) (by have := List.mem_range.mp hb; have := D.yn; omega) e)) List.nodup_range)
    refine (List.perm_ext_iff_of_nodup n1 n2).mpr fun u => ?_
    rw [mem_yards, len]
    constructor
    · rintro ⟨h1, h2⟩
      obtain ⟨i, hi, e⟩ := List.mem_map.mp ((fmem u).mpr h1)
      have hi : i < L.length + 1 := by simpa using hi
      refine List.mem_map.mpr ⟨i, List.mem_range.mpr ?_, e⟩
      refine Nat.lt_of_not_le fun hle => ?_
      have h3 := D.gt i hle
      have h4 := dg i hi
      rw [adj_length] at h4
      rw [← e] at h2
      omega
    · intro h
      obtain ⟨i, hi, e⟩ := List.mem_map.mp h
      have hi := List.mem_range.mp hi
      have hi2 : i < L.length + 1 := Nat.lt_of_lt_of_le hi D.yn
      have h4 := dg i hi2
      rw [adj_length] at h4
      refine ⟨?_, ?_⟩
      · rw [← e]
        exact (fmem _).mp (List.mem_map.mpr ⟨i, by simpa using hi2, rfl⟩)
      · rw [← e, h4]
        exact (D.yd i hi).1
  have yl : (yardsL (ren f L)).length = y := by rw [yp.length_eq, List.length_map, List.length_range]
  refine ⟨_, T, fun v => by rw [len]; exact fmem v, fun i => ?_, by rw [yl]; exact D.y1, by rw [yl]; exact D.y7, by rw [len]; have := D.small; omega⟩
  by_cases hi : i < L.length + 1
  · obtain ⟨j, hj, e⟩ := List.mem_map.mp ((fmem i).mpr hi)
    have hj : j < L.length + 1 := by simpa using hj
    rw [← e, dg j hj]
    by_cases c : j < y
    · exact (D.yd j c).2
    · have := D.gt j (by omega)
      omega
  · rw [adj_length]
    cases e : nb (ren f L) i with
    | nil => simp
    | cons x r =>
      have : x ∈ nb (ren f L) i := by rw [e]; exact List.mem_cons_self
      exact absurd ((fmem i).mp (T.ends (mem_nb.mp this)).1) hi
end TM
set_option linter.all false
/-! what lies behind a yard, by its other neighbours. Plain Lean. -/
namespace TM
section
variable {vs : List Nat} {L : Lanes} {N : Nat → Nat → Nat}
def bh (L : Lanes) (N : Nat → Nat → Nat) (y t : Nat) : List Nat := (yardsL L).filter (beh N y t)
theorem mem_bh {y t u : Nat} : u ∈ bh L N y t ↔ u ∈ yardsL L ∧ beh N y t u = true := List.mem_filter
theorem yard_vs (G : Good vs L) {u : Nat} (h : u ∈ yardsL L) : u ∈ vs := (G.vs_ u).mpr (mem_yards.mp h).1
theorem adj_vs (G : Good vs L) {u t : Nat} (h : t ∈ adj L u) : t ∈ vs := (G.tr.ends (mem_adj.mp h)).2
/-- of a gate all -/
theorem bh_gate (G : Good vs L) (I : IsNext vs L N) {y t : Nat} (hy : y ∈ yardsL L) (ht : t ∈ adj L y) (n : t ∉ yardsL L) : bh L N y t = yardsL L := by
  refine List.filter_eq_self.mpr fun u hu => ?_
  unfold beh
  by_cases e : u = y
  · simp [e]
  · have q := next_yard G.tr I (yard_vs G hu) (yard_vs G hy) e (mem_yards.mp hu).2
    have : ¬ N u y = t := fun z => n (mem_yards.mpr ⟨(G.vs_ t).mp (adj_vs G ht), z ▸ q.2⟩)
    simp [this]
/-- both sides: all, none twice -/
theorem bh_both (G : Good vs L) (I : IsNext vs L N) {y t : Nat} (ht : t ∈ adj L y) : isort (bh L N y t ++ bh L N t y) = yardsL L := by
  have e : bh L N t y = (yardsL L).filter fun u => !beh N y t u := by
    unfold bh
    exact List.filter_congr fun u hu => beh_other G.tr I (yard_vs G hu) (mem_adj.mp ht)
  rw [e]
  refine (isort_eq ?_ (yards_sorted L)).symm
  exact (List.filter_append_perm _ _).symm
def fnd (L : Lanes) (N : Nat → Nat → Nat) (y t : Nat) : List Nat → List Nat
  | [] => []
  | o :: os => (if o ≠ t ∧ o ∈ yardsL L then bh L N o y else []) ++ fnd L N y t os
theorem fnd_snoc (y t o : Nat) : ∀ os : List Nat, fnd L N y t (os ++ [o]) = fnd L N y t os ++ (if o ≠ t ∧ o ∈ yardsL L then bh L N o y else [])
  | [] => by simp [fnd]
  | a :: os => by
    show _ ++ fnd L N y t (os ++ [o]) = (_ ++ _) ++ _
    rw [fnd_snoc y t o os, List.append_assoc]
theorem mem_fnd {y t u : Nat} : ∀ {os : List Nat}, u ∈ fnd L N y t os ↔ ∃ o ∈ os, o ≠ t ∧ o ∈ yardsL L ∧ u ∈ bh L N o y
  | [] => by simp [fnd]
  | a :: os => by
    have ih := mem_fnd (y := y) (t := t) (u := u) (os := os)
    unfold fnd
    rw [List.mem_append, ih]
    constructor
    · rintro (h | ⟨o, h1, h2⟩)
      · split at h
        · rename_i c
          exact ⟨a, List.mem_cons_self, c.1, c.2, h⟩
        · cases h
      · exact ⟨o, List.mem_cons_of_mem _ h1, h2⟩
    · rintro ⟨o, h1, h2, h3, h4⟩
      rcases List.mem_cons.mp h1 with e | h1
      · subst e
        left
        rw [if_pos ⟨h2, h3⟩]
        exact h4
      · exact .inr ⟨o, h1, h2, h3, h4⟩
theorem bh_nodup (y t : Nat) : (bh L N y t).Nodup := (yards_nodup L).filter _
theorem bh_len (G : Good vs L) (y t : Nat) : (bh L N y t).length ≤ 7 := Nat.le_trans (List.length_filter_le _ _) G.most
theorem fnd_len (G : Good vs L) (y t : Nat) : ∀ os : List Nat, (fnd L N y t os).length ≤ 7 * os.length
  | [] => by simp [fnd]
  | a :: os => by
    have ih := fnd_len G y t os
    have h := bh_len G a y (N := N)
    unfold fnd
    rw [List.length_append, List.length_cons]
    split <;> simp <;> omega
theorem fnd_nodup (G : Good vs L) (I : IsNext vs L N) {y t : Nat} : ∀ {os : List Nat}, os.Nodup → (∀ o ∈ os, o ∈ adj L y) → (fnd L N y t os).Nodup
  | [], _, _ => by simp [fnd]
  | a :: os, nd, ad => by
    have ih := fnd_nodup G I (t := t) (List.nodup_cons.mp nd).2 fun o ho => ad o (List.mem_cons_of_mem _ ho)
    unfold fnd
    split
    · refine List.nodup_append.mpr ⟨bh_nodup _ _, ih, fun u hu v hv e => ?_⟩
      subst e
      obtain ⟨o, h1, h2, h3, h4⟩ := mem_fnd.mp hv
      have q1 := (beh_nb G.tr I (yard_vs G (mem_bh.mp hu).1) (mem_adj.mp (ad a List.mem_cons_self))).mp (mem_bh.mp hu).2
      have q2 := (beh_nb G.tr I (yard_vs G (mem_bh.mp hu).1) (mem_adj.mp (ad o (List.mem_cons_of_mem _ h1)))).mp (mem_bh.mp h4).2
      exact (List.nodup_cons.mp nd).1 ((q1.2.symm.trans q2.2) ▸ h1)
    · exact ih
theorem fnd_all (G : Good vs L) (I : IsNext vs L N) {y t : Nat} (hy : y ∈ yardsL L) (ht : t ∈ adj L y) : isort (y :: fnd L N y t (adj L y)) = bh L N y t := by
  refine (isort_eq ?_ ((yards_sorted L).filter _)).symm
  have nd : (y :: fnd L N y t (adj L y)).Nodup := by
    refine List.nodup_cons.mpr ⟨fun h => ?_, fnd_nodup G I (G.tr.adj_nodup y) fun _ h => h⟩
    obtain ⟨o, h1, h2, h3, h4⟩ := mem_fnd.mp h
    exact ((beh_nb G.tr I (yard_vs G hy) (mem_adj.mp h1)).mp (mem_bh.mp h4).2).1 rfl
  refine (List.perm_ext_iff_of_nodup (bh_nodup _ _) nd).mpr fun u => ?_
  constructor
  · intro h
    obtain ⟨h1, h2⟩ := mem_bh.mp h
    by_cases e : u = y
    · subst e
      exact List.mem_cons_self
    · refine List.mem_cons_of_mem _ (mem_fnd.mpr ?_)
      have q := next_yard G.tr I (yard_vs G h1) (yard_vs G hy) e (mem_yards.mp h1).2
      unfold beh at h2
      have nt : N u y ≠ t := by simpa [e] using h2
      have ho : N u y ∈ adj L y := mem_adj.mpr q.1
      exact ⟨N u y, ho, nt, mem_yards.mpr ⟨(G.vs_ _).mp (adj_vs G ho), q.2⟩, mem_bh.mpr ⟨h1, (beh_nb G.tr I (yard_vs G h1) q.1).mpr ⟨e, rfl⟩⟩⟩
  · intro h
    rcases List.mem_cons.mp h with e | h
    · subst e
      exact mem_bh.mpr ⟨hy, by simp [beh]⟩
    · obtain ⟨o, h1, h2, h3, h4⟩ := mem_fnd.mp h
      obtain ⟨k1, k2⟩ := mem_bh.mp h4
      have q := (beh_nb G.tr I (yard_vs G k1) (mem_adj.mp h1)).mp k2
      refine mem_bh.mpr ⟨k1, ?_⟩
      unfold beh
      have : ¬ N u y = t := fun z => h2 (q.2.symm.trans z)
      simp [this]
/-- there is a word of the next places -/
theorem next_is (G : Tr vs L) : ∃ N, IsNext vs L N := by
  classical
  refine ⟨fun g p => if h : ∃ x r, Path L p g (p :: x :: r) then h.choose else 0, fun g p hg hp n => ?_⟩
  have h : ∃ x r, Path L p g (p :: x :: r) := by
    obtain ⟨w, P, _⟩ := G.conn hp hg
    cases w with
    | nil => have := P.hd; cases this
    | cons a w =>
      have e : a = p := Option.some.inj P.hd
      subst e
      cases w with
      | nil => exact absurd (Option.some.inj P.lt) n
      | cons x r => exact ⟨x, r, P⟩
  show ∃ r, Path L p g (p :: (if h : ∃ x r, Path L p g (p :: x :: r) then h.choose else 0) :: r)
  rw [dif_pos h]
  exact h.choose_spec
end
end TM
set_option linter.all false
/-! three places of a tree: where their ways meet. Plain Lean. -/
namespace TM
section
variable {vs : List Nat} {L : Lanes}
theorem Chain.app : ∀ {p : List Nat} {c : Nat} {q : List Nat}, Chain L (p ++ [c]) → Chain L (c :: q) → Chain L (p ++ c :: q)
  | [], _, _, _, h => h
  | [x], _, _, h1, h2 => ⟨h1.1, h2⟩
  | x :: y :: p, c, q, h1, h2 => ⟨h1.1, Chain.app (p := y :: p) h1.2 h2⟩
/-- the first of a list that holds -/
theorem first_of {α : Type} (f : α → Prop) : ∀ {l : List α} {m : α}, m ∈ l → f m → ∃ D c B, l = D ++ c :: B ∧ f c ∧ ∀ x ∈ D, ¬ f x
  | a :: l, m, h, hm => by
    by_cases k : f a
    · exact ⟨[], a, l, rfl, k, fun _ h => nomatch h⟩
    · rcases List.mem_cons.mp h with e | h
      · exact absurd (e ▸ hm) k
      · obtain ⟨D, c, B, e, hc, n⟩ := first_of f h hm
        refine ⟨a :: D, c, B, by rw [e]; rfl, hc, fun x hx => ?_⟩
        rcases List.mem_cons.mp hx with e | hx
        · exact e ▸ k
        · exact n x hx
theorem Path.cut {s t : Nat} {D B : List Nat} {c : Nat} (P : Path L s t (D ++ c :: B)) : Path L s c (D ++ [c]) ∧ Path L c t (c :: B) := by
  have e : D ++ c :: B = (D ++ [c]) ++ B := by simp
  refine ⟨⟨(e ▸ P.ch).left, ?_, ?_, by simp⟩, ⟨P.ch.right, (List.nodup_append.mp P.nd).2.1, rfl, ?_⟩⟩
  · have := P.nd
    rw [e] at this
    exact (List.nodup_append.mp this).1
  · have := P.hd
    cases D with
    | nil => exact this
    | cons a D => exact this
  · have := P.lt
    rw [List.getLast?_append] at this
    cases q : (c :: B).getLast? with
    | none => simp at q
    | some z => rw [q] at this; exact this
structure Meet (o m t : Nat) (P Q R : List Nat) (c : Nat) (a b d : Nat) : Prop where
  lp : P.length = a + b + 1
  lq : Q.length = b + d + 1
  lr : R.length = a + d + 1
  one : (P.filter fun x => decide (x ∈ Q) && decide (x ∈ R)) = [c]
  zero : b = 0 ↔ m ∈ R
  leg : ∃ B, Path L m c B ∧ B.length = b + 1
theorem meet (G : Tr vs L) {o m t : Nat} {P Q R : List Nat} (hP : Path L o m P) (hQ : Path L m t Q) (hR : Path L o t R) : ∃ c a b d, Meet (L := L) o m t P Q R c a b d ∧ c ∈ P := by
  have hQr := hQ.reverse
  have mP : m ∈ P := List.mem_of_getLast? hP.lt
  have mQ : m ∈ Q.reverse := List.mem_of_getLast? hQr.lt
  obtain ⟨D, c, B, eQ, cP, nD⟩ := first_of (fun x => x ∈ P) mQ mP
  obtain ⟨A, B2, eP⟩ := List.append_of_mem cP
  rw [eQ] at hQr
  have hP' := hP
  rw [eP] at hP'
  obtain ⟨Q1, Q2⟩ := hQr.cut
  obtain ⟨P1, P2⟩ := hP'.cut
  have eB : B2 = B := by
    have := G.unique P2 Q2
    injection this
  subst eB
  have ndP := List.nodup_append.mp (eP ▸ hP.nd)
  have ndQ := List.nodup_append.mp hQr.nd
  have ncP := List.nodup_cons.mp ndP.2.1
  have dA : ∀ x ∈ D, x ∉ A := fun x hx ha => nD x hx (by rw [eP]; exact List.mem_append_left _ ha)
  have dB : ∀ x ∈ D, x ∉ c :: B2 := fun x hx ha => nD x hx (by rw [eP]; exact List.mem_append_right _ ha)
  have aB : ∀ x ∈ A, x ∉ c :: B2 := fun x hx ha => ndP.2.2 x hx x ha rfl
  have hR' : Path L o t (A ++ c :: D.reverse) := by
    refine ⟨P1.ch.app ?_, ?_, ?_, ?_⟩
    · have := Q1.reverse.ch
      rwa [List.reverse_append] at this
    · refine List.nodup_append.mpr ⟨ndP.1, ?_, fun x hx y hy e => ?_⟩
      · have := Q1.reverse.nd
        rwa [List.reverse_append] at this
      · subst e
        rcases List.mem_cons.mp hy with e | hy
        · exact aB x hx (e ▸ List.mem_cons_self)
        · exact dA x (List.mem_reverse.mp hy) hx
    · have := P1.hd
      cases A with
      | nil => exact this
      | cons a A => exact this
    · have := Q1.reverse.lt
      rw [List.reverse_append] at this
      rw [List.getLast?_append]
      have e : ([c].reverse ++ D.reverse) = c :: D.reverse := rfl
      rw [e] at this
      rw [this]
      rfl
  have eR := G.unique hR hR'
  have inQ : ∀ x, x ∈ Q ↔ x ∈ D ++ c :: B2 := fun x => by rw [← eQ, List.mem_reverse]
  have only : ∀ x, x ∈ P → x ∈ Q → x ∈ R → x = c := by
    intro x h1 h2 h3
    rw [eP] at h1
    rw [inQ] at h2
    rw [eR] at h3
    rcases List.mem_append.mp h1 with h1 | h1
    · rcases List.mem_append.mp h2 with h2 | h2
      · exact absurd h1 (dA x h2)
      · exact absurd h2 (aB x h1)
    · rcases List.mem_cons.mp h1 with e | h1
      · exact e
      · rcases List.mem_append.mp h3 with h3 | h3
        · exact absurd (List.mem_cons_of_mem _ h1) (aB x h3)
        · rcases List.mem_cons.mp h3 with e | h3
          · exact e
          · exact absurd (List.mem_cons_of_mem _ h1) (dB x (List.mem_reverse.mp h3))
  have cQ : c ∈ Q := (inQ c).mpr (by simp)
  have cR : c ∈ R := by rw [eR]; simp
  refine ⟨c, A.length, B2.length, D.length, ⟨?_, ?_, ?_, ?_, ?_, ⟨(c :: B2).reverse, P2.reverse, by simp⟩⟩, cP⟩
  · rw [eP]; simp; omega
  · have := congrArg List.length eQ
    rw [List.length_reverse] at this
    rw [this]; simp; omega
  · rw [eR]; simp; omega
  · rw [eP, List.filter_append, List.filter_cons, if_pos (by simp [cQ, cR])]
    have nA : A.filter (fun x => decide (x ∈ Q) && decide (x ∈ R)) = [] := List.filter_eq_nil_iff.mpr fun x hx h => by
      simp only [Bool.and_eq_true, decide_eq_true_eq] at h
      have := only x (by rw [eP]; exact List.mem_append_left _ hx) h.1 h.2
      exact aB x hx (this ▸ List.mem_cons_self)
    have nB : B2.filter (fun x => decide (x ∈ Q) && decide (x ∈ R)) = [] := List.filter_eq_nil_iff.mpr fun x hx h => by
      simp only [Bool.and_eq_true, decide_eq_true_eq] at h
      have := only x (by rw [eP]; exact List.mem_append_right _ (List.mem_cons_of_mem _ hx)) h.1 h.2
      exact ncP.1 (this ▸ hx)
    rw [nA, nB]
    rfl
  · constructor
    · intro z
      have : B2 = [] := List.length_eq_zero_iff.mp z
      subst this
      have e : c = m := Option.some.inj P2.lt
      exact e ▸ cR
    · intro h
      have e := only m mP (by rw [← List.mem_reverse]; exact mQ) h
      subst e
      have := path_one P2
      injection this with _ e
      rw [e]
      rfl
/-- what lies between both ends has two neighbours -/
theorem inner_yard (G : Good vs L) {s t x : Nat} {W : List Nat} (P : Path L s t W) (h : ∃ A B y z, W = A ++ y :: x :: z :: B) : x ∈ yardsL L := by
  obtain ⟨A, B, y, z, e⟩ := h
  have c : Chain L (y :: x :: z :: B) := by
    have := P.ch
    rw [e] at this
    exact this.right
  have nd := P.nd
  rw [e] at nd
  have nd2 := (List.nodup_append.mp nd).2.1
  refine mem_yards.mpr ⟨(G.vs_ x).mp (G.tr.ends c.1).2, two_nb c.1.symm c.2.1 fun q => ?_⟩
  exact (List.nodup_cons.mp nd2).1 (q ▸ by simp)
end
end TM
set_option linter.all false
/-! lanes in their sequence: told by what they are. Plain Lean. -/
namespace TM
def lexLe (p q : Nat × Nat) : Prop := p.1 < q.1 ∨ (p.1 = q.1 ∧ p.2 ≤ q.2)
def LexS (M : Lanes) : Prop := M.Pairwise lexLe
theorem lex_anti {p q : Nat × Nat} (h1 : lexLe p q) (h2 : lexLe q p) : p = q := by
  obtain ⟨a, b⟩ := p
  obtain ⟨c, d⟩ := q
  unfold lexLe at h1 h2
  simp only at h1 h2
  have e1 : a = c := by omega
  have e2 : b = d := by omega
  rw [e1, e2]
theorem lex_unique : ∀ {l m : Lanes}, l.Perm m → LexS l → LexS m → l = m
  | [], m, p, _, _ => (List.nil_perm.mp p).symm
  | a :: l, [], p, _, _ => absurd (List.perm_nil.mp p) (by simp)
  | a :: l, b :: m, p, h1, h2 => by
    obtain ⟨a1, a2⟩ := List.pairwise_cons.mp h1
    obtain ⟨b1, b2⟩ := List.pairwise_cons.mp h2
    have e : a = b := by
      have ma : a ∈ b :: m := p.mem_iff.mp List.mem_cons_self
      have mb : b ∈ a :: l := p.mem_iff.mpr List.mem_cons_self
      rcases List.mem_cons.mp ma with e | ma
      · exact e
      · rcases List.mem_cons.mp mb with e | mb
        · exact e.symm
        · exact lex_anti (a1 b mb) (b1 a ma)
    subst e
    rw [lex_unique (List.Perm.cons_inv p) a2 b2]
end TM
set_option Elab.async false
set_option linter.all false
set_option maxRecDepth 100000
set_option maxHeartbeats 4000000
/-! promises of the program's defs, whatever text they stand in -/
namespace Pr
open PySem PySem.Spec PyProof.Rows L2 TM
open Evl (Ex)
abbrev vI (n : Nat) : V := .int (n : Int)
abbrev vIs (l : List Nat) : List V := l.map vI
theorem vIs_int (l : List Nat) : vIs l = (l.map fun (n : Nat) => (n : Int)).map V.int := by
  rw [List.map_map]
  rfl
theorem szN {n : Nat} (h : n ≤ 100000) : n < sizeLine := Nat.lt_of_le_of_lt h (by decide)
theorem szL {n : Nat} (h : n ≤ 100000) : n ≤ sizeLine := Nat.le_trans h (by decide)
/-- lanes: a list of pairs -/
def PairAt (H : Hp) (v : V) (p : Nat × Nat) : Prop := ∃ t, v = .ref t ∧ H t = some (.tup [vI p.1, vI p.2])
def LanesAt (H : Hp) (a : Addr) (L : Lanes) : Prop := ∃ vs, H a = some (.lst vs) ∧ Paired (PairAt H) vs L
theorem PairAt.ex {H H' : Hp} {v : V} {p : Nat × Nat} (e : Ex H H') (h : PairAt H v p) : PairAt H' v p := by
  obtain ⟨t, r, k⟩ := h
  exact ⟨t, r, e _ _ k⟩
theorem paired_imp {α β : Type} {R S : α → β → Prop} (k : ∀ a b, R a b → S a b) : ∀ {xs : List α} {ys : List β}, Paired R xs ys → Paired S xs ys
  | _, _, .nil => .nil
  | _, _, .cons h t => .cons (k _ _ h) (paired_imp k t)
theorem paired_ix {α β : Type} {R : α → β → Prop} : ∀ {xs : List α} {ys : List β} {i : Nat} {x : α}, Paired R xs ys → xs[i]? = some x → ∃ y, ys[i]? = some y ∧ R x y
  | _, _, _, _, .nil, e => by simp at e
  | _, _, 0, _, .cons r _, e => by simp at e; subst e; exact ⟨_, rfl, r⟩
  | _, _, i + 1, x, .cons _ t, e => by
    obtain ⟨u, h1, h2⟩ := paired_ix (i := i) (x := x) t (by simpa using e)
    exact ⟨u, by simpa using h1, h2⟩
theorem LanesAt.ex {H H' : Hp} {a : Addr} {L : Lanes} (e : Ex H H') (h : LanesAt H a L) : LanesAt H' a L := by
  obtain ⟨vs, r, k⟩ := h
  exact ⟨vs, e _ _ r, paired_imp (fun _ _ z => z.ex e) k⟩
theorem take_more {α : Type} : ∀ {l : List α} {i : Nat} {x : α}, l[i]? = some x → l.take (i + 1) = l.take i ++ [x]
  | [], i, x, h => by simp at h
  | a :: l, 0, x, h => by
    have e : a = x := Option.some.inj h
    subst e
    rfl
  | a :: l, i + 1, x, h => by
    have ih := take_more (l := l) (i := i) (x := x) h
    show a :: l.take (i + 1) = a :: l.take i ++ [x]
    rw [ih]
    rfl
/-- is_count of an int -/
def spCount : Sp := fun vs H Q _ => ∃ i : Int, vs = [.int i] ∧ Q (.bl (decide (0 ≤ i))) H
/-- is_row of a list or tuple -/
def spRow (K : PySem.W.Frag) : Sp := fun vs H Q _ => ∃ a xs, vs = [.ref a] ∧ (H a = some (.lst xs) ∨ H a = some (.tup xs)) ∧ ∀ H', Ex H H' → Q (.bl true) H'
theorem kit_int (K : PySem.W.Frag) : PySem.W.kitOne K (.type "int") (.type "int") = some true := by rfl
end Pr
namespace Pr
open PySem PySem.Spec PyProof.Rows L2 TM
open Evl (Ex)
abbrev keyN (i : Nat) : Key := Sum.inl (i : Int)
def keysN (m : Nat) : List Key := (List.range m).map keyN
theorem find_zip {κ : Type} [DecidableEq κ] : ∀ (ks : List κ) (ys : List V) (i : Nat) (k : κ), ks.Nodup → ks.length = ys.length → ks[i]? = some k → valV (ks.zip ys) k = ys[i]?
  | [], ys, i, k, _, _, h => by simp at h
  | a :: ks, [], i, k, _, h, _ => by simp at h
  | a :: ks, y :: ys, 0, k, nd, hl, h => by
    have e : a = k := Option.some.inj h
    subst e
    exact valV_pos rfl
  | a :: ks, y :: ys, i + 1, k, nd, hl, h => by
    have h' : ks[i]? = some k := by simpa using h
    obtain ⟨n1, n2⟩ := List.nodup_cons.mp nd
    have ne : ¬ a = k := fun e => n1 (e ▸ List.mem_of_getElem? h')
    show valV ((a, y) :: ks.zip ys) k = ys[i]?
    rw [valV_neg ne]
    exact find_zip ks ys i k n2 (by simpa using hl) h'
theorem keysN_nodup (m : Nat) : (keysN m).Nodup := by
  unfold keysN
  refine List.pairwise_map.mpr ?_
  exact List.nodup_range.imp fun h e => h (by injection e with e; omega)
theorem keysN_at {m i : Nat} (h : i < m) : (keysN m)[i]? = some (keyN i) := by
  unfold keysN
  rw [List.getElem?_map, List.getElem?_range h]
  rfl
theorem keysN_length (m : Nat) : (keysN m).length = m := by simp [keysN]
theorem valV_keysN {m : Nat} {ys : List V} (hl : ys.length = m) {i : Nat} (h : i < m) : valV ((keysN m).zip ys) (keyN i) = ys[i]? :=
  find_zip _ _ i _ (keysN_nodup m) (by rw [keysN_length, hl]) (keysN_at h)
/-- rows by places: a dict of lists -/
structure RowsAt (H : Hp) (m : Nat) (rs : List Addr) (row : Nat → List Nat) : Prop where
  len : rs.length = m
  at_ : ∀ i r, rs[i]? = some r → H r = some (.lst (vIs (row i)))
def dkOf (m : Nat) (rs : List Addr) : HO := .dK ((keysN m).zip (rs.map V.ref))
def AroundAt (H : Hp) (d : Addr) (m : Nat) (row : Nat → List Nat) : Prop := ∃ rs, H d = some (dkOf m rs) ∧ RowsAt H m rs row
def AroundR (H : Hp) (d : Addr) (m : Nat) (row : Nat → List Nat) : Prop := ∃ rs, Rd H d (dkOf m rs) ∧ RowsAt H m rs row
theorem AroundAt.r {H : Hp} {d : Addr} {m : Nat} {row : Nat → List Nat} (h : AroundAt H d m row) : AroundR H d m row := by
  obtain ⟨rs, a, b⟩ := h
  exact ⟨rs, .inl a, b⟩
theorem RowsAt.ex {H H' : Hp} {m : Nat} {rs : List Addr} {row : Nat → List Nat} (e : Ex H H') (h : RowsAt H m rs row) : RowsAt H' m rs row := ⟨h.len, fun i r k => e _ _ (h.at_ i r k)⟩
theorem AroundAt.ex {H H' : Hp} {d : Addr} {m : Nat} {row : Nat → List Nat} (e : Ex H H') (h : AroundAt H d m row) : AroundAt H' d m row := by
  obtain ⟨rs, a, b⟩ := h
  exact ⟨rs, e _ _ a, b.ex e⟩
theorem RowsAt.get {H : Hp} {m : Nat} {rs : List Addr} {row : Nat → List Nat} (h : RowsAt H m rs row) {i : Nat} (hi : i < m) : ∃ r, rs[i]? = some r ∧ H r = some (.lst (vIs (row i))) ∧ valV ((keysN m).zip (rs.map V.ref)) (keyN i) = some (.ref r) := by
  have hl : i < rs.length := by rw [h.len]; exact hi
  refine ⟨rs[i], List.getElem?_eq_getElem hl, h.at_ i _ (List.getElem?_eq_getElem hl), ?_⟩
  rw [valV_keysN (by rw [List.length_map, h.len]) hi, List.getElem?_map, List.getElem?_eq_getElem hl]
  rfl
theorem RowsAt.lock {H : Hp} {m : Nat} {rs : List Addr} {row : Nat → List Nat} {d : Addr} (h : RowsAt H m rs row) (hd : H d = some (dkOf m rs)) (od : Obj) : RowsAt (upd H d (.frz od (dkOf m rs))) m rs row := ⟨h.len, fun i r k => by
  have z := h.at_ i r k
  rw [upd_ne (ne_of z hd (fun q => nomatch q))]
  exact z⟩
/-- an append to a row -/
theorem RowsAt.app {H : Hp} {m : Nat} {rs : List Addr} {row : Nat → List Nat} (h : RowsAt H m rs row) (nd : rs.Nodup) {i x : Nat} {r : Addr} (hr : rs[i]? = some r) : RowsAt (upd H r (.lst (vIs (row i) ++ [vI x]))) m rs (fun j => row j ++ if i = j then [x] else []) := ⟨h.len, fun j q k => by
  by_cases e : i = j
  · subst e
    have : q = r := Option.some.inj (k.symm.trans hr)
    subst this
    rw [upd_same, if_pos rfl]
    simp [vIs]
  · have nq : q ≠ r := fun z => e (nodup_ix nd hr (z ▸ k))
    rw [upd_ne nq, if_neg e, List.append_nil]
    exact h.at_ j q k⟩
theorem RowsAt.congr {H : Hp} {m : Nat} {rs : List Addr} {row row' : Nat → List Nat} (h : RowsAt H m rs row) (e : ∀ i, i < m → row i = row' i) : RowsAt H m rs row' := ⟨h.len, fun i r k => by
  have hi := (List.getElem?_eq_some_iff.mp k).1
  rw [← e i (by rw [← h.len]; exact hi)]
  exact h.at_ i r k⟩
def spNeigh : Sp := fun vs H Q _ => ∃ a L, vs = [.ref a] ∧ LanesAt H a L ∧ (∀ p ∈ L, p.1 ≤ L.length ∧ p.2 ≤ L.length) ∧ L.length ≤ 1000 ∧
  ∀ p H', Ex H H' → H p = none → AroundAt H' p (L.length + 1) (adj L) → Q (.ref p) H'
def spPair : Sp := fun vs H Q _ => ∃ (t : Addr) (p : Nat × Nat) (last : Nat), vs = [.ref t, vI last] ∧ H t = some (.tup [vI p.1, vI p.2]) ∧ ∀ H', Ex H H' → Q (.bl (decide (p.1 ≤ last) && decide (p.2 ≤ last))) H'
def spAhead : Sp := fun vs H Q _ => ∃ L d goal vt, vs = [.ref d, vI goal] ∧ Tr vt L ∧ AroundR H d (L.length + 1) (adj L) ∧ goal ∈ vt ∧ (∀ v ∈ vt, v < L.length + 1) ∧ L.length ≤ 1000 ∧
  ∀ p H' kvs, Ex H H' → H p = none → Ahead L goal kvs → H' p = some (.dK (kvs.map fun q => (keyN q.1, vI q.2))) → Q (.ref p) H'
theorem nbP_len : ∀ (L : Lanes) (i : Nat), (nbP L i).length ≤ 2 * L.length
  | [], _ => by simp [nbP]
  | (a, b) :: L, i => by
    have ih := nbP_len L i
    unfold nbP
    rw [List.length_append, List.length_append, List.length_cons]
    split <;> split <;> simp <;> omega
def spYards : Sp := fun vs H Q _ => ∃ L d, vs = [.ref d] ∧ AroundAt H d (L.length + 1) (adj L) ∧ L.length ≤ 1000 ∧ ∀ p H', Ex H H' → H p = none → H' p = some (.lst (vIs (yardsL L))) → Q (.ref p) H'
def spLanes : Sp := fun vs H Q _ => ∃ L a vt, vs = [.ref a] ∧ LanesAt H a L ∧ Good vt L ∧ ∀ H', Ex H H' → Q (.bl true) H'
/-- a Country stands at p -/
def fl (l d e y g : Addr) : List (Str × V) := [("_lanes", .ref l), ("_around", .ref d), ("_ahead", .ref e), ("_yards", .ref y), ("_gates", .ref g)]
structure CPart (H : Hp) (L : Lanes) (l d e y g : Addr) (rs qs : List Addr) : Prop where
  l_ : ∃ M, LanesAt H l M ∧ M.Perm (norm L) ∧ LexS M
  d_ : H d = some (dkOf (L.length + 1) rs)
  r_ : RowsAt H (L.length + 1) rs (adj L)
  e_ : H e = some (dkOf (L.length + 1) qs)
  ql : qs.length = L.length + 1
  q_ : ∀ (i : Nat) (q : Addr), qs[i]? = some q → ∃ kvs, Ahead L i kvs ∧ H q = some (.dK (kvs.map fun q => (keyN q.1, vI q.2)))
  y_ : H y = some (.lst (vIs (yardsL L)))
  g_ : H g = some (.lst (vIs (gatesL L)))
def CAt (C : Addr) (H : Hp) (p : Addr) (L : Lanes) : Prop := ∃ dx l d e y g rs qs, H p = some (.ins C dx (fl l d e y g)) ∧ CPart H L l d e y g rs qs
theorem CPart.ex {H H' : Hp} {L : Lanes} {l d e y g : Addr} {rs qs : List Addr} (x : Ex H H') (h : CPart H L l d e y g rs qs) : CPart H' L l d e y g rs qs where
  l_ := by
    obtain ⟨M, a, b⟩ := h.l_
    exact ⟨M, a.ex x, b⟩
  d_ := x _ _ h.d_
  r_ := h.r_.ex x
  e_ := x _ _ h.e_
  ql := h.ql
  q_ := fun i q k => by
    obtain ⟨kvs, a, b⟩ := h.q_ i q k
    exact ⟨kvs, a, x _ _ b⟩
  y_ := x _ _ h.y_
  g_ := x _ _ h.g_
theorem CAt.ex {C : Addr} {H H' : Hp} {p : Addr} {L : Lanes} (x : Ex H H') (h : CAt C H p L) : CAt C H' p L := by
  obtain ⟨dx, l, d, e, y, g, rs, qs, a, b⟩ := h
  exact ⟨dx, l, d, e, y, g, rs, qs, x _ _ a, b.ex x⟩
def spInit (C : Addr) : Sp := fun vs H Q _ => ∃ L p dx a vt, vs = [.ref p, .ref a] ∧ H p = some (.ins C dx []) ∧ LanesAt H a L ∧ Good vt L ∧ ∀ H', (∀ b o, H b = some o → b ≠ p → H' b = some o) → CAt C H' p L → Q .non H'
theorem fl_l {l d e y g : Addr} : (fl l d e y g).lookup ("_lanes" : Str) = some (.ref l) := by rfl
theorem fl_d {l d e y g : Addr} : (fl l d e y g).lookup ("_around" : Str) = some (.ref d) := by rfl
theorem fl_e {l d e y g : Addr} : (fl l d e y g).lookup ("_ahead" : Str) = some (.ref e) := by rfl
theorem fl_y {l d e y g : Addr} : (fl l d e y g).lookup ("_yards" : Str) = some (.ref y) := by rfl
theorem fl_g {l d e y g : Addr} : (fl l d e y g).lookup ("_gates" : Str) = some (.ref g) := by rfl
theorem fl_no {l d e y g : Addr} {x : Str} (h : ([("_lanes", ()), ("_around", ()), ("_ahead", ()), ("_yards", ()), ("_gates", ())] : List (Str × Unit)).lookup x = none) : (fl l d e y g).lookup x = none := by
  have f : ∀ (ks : List Str) (vs : List V), ks.length = vs.length → (ks.map fun k => (k, ())).lookup x = none → (ks.zip vs).lookup x = none := by
    intro ks
    induction ks with
    | nil => intro vs _ _; rfl
    | cons k ks ih =>
      intro vs hl hn
      cases vs with
      | nil => cases hl
      | cons v vs =>
        show List.lookup x ((k, v) :: ks.zip vs) = none
        have hn : List.lookup x ((k, ()) :: ks.map fun k => (k, ())) = none := hn
        rw [List.lookup_cons] at hn ⊢
        cases e : (x == k) with
        | true => rw [e] at hn; cases hn
        | false => rw [e] at hn; exact ih vs (by simpa using hl) hn
  exact f ["_lanes", "_around", "_ahead", "_yards", "_gates"] [.ref l, .ref d, .ref e, .ref y, .ref g] rfl h
/-- all but instances stay -/
def Ki (H H' : Hp) : Prop := ∀ b o, H b = some o → (∀ C dx fs, o ≠ HO.ins C dx fs) → H' b = some o
theorem Ki.of {H H' : Hp} (e : Ex H H') : Ki H H' := fun b o h _ => e b o h
theorem Ki.trans {H H1 H2 : Hp} (a : Ki H H1) (b : Ki H1 H2) : Ki H H2 := fun c o h n => b c o (a c o h n) n
theorem Ki.put {H : Hp} {p C dx : Addr} {fs fs' : List (Str × V)} (h : H p = some (.ins C dx fs)) : Ki H (upd H p (.ins C dx fs')) := fun b o hb n => by
  rw [upd_ne (ne_of hb h (n _ _ _))]
  exact hb
theorem LanesAt.ki {H H' : Hp} {a : Addr} {L : Lanes} (e : Ki H H') (h : LanesAt H a L) : LanesAt H' a L := by
  obtain ⟨vs, r, k⟩ := h
  exact ⟨vs, e _ _ r (fun _ _ _ z => nomatch z), paired_imp (fun _ _ ⟨t, q, z⟩ => ⟨t, q, e _ _ z (fun _ _ _ z => nomatch z)⟩) k⟩
theorem RowsAt.ki {H H' : Hp} {m : Nat} {rs : List Addr} {row : Nat → List Nat} (e : Ki H H') (h : RowsAt H m rs row) : RowsAt H' m rs row := ⟨h.len, fun i r k => e _ _ (h.at_ i r k) (fun _ _ _ z => nomatch z)⟩
theorem dkOf_ni {m : Nat} {rs : List Addr} : ∀ C dx fs, dkOf m rs ≠ HO.ins C dx fs := fun _ _ _ z => nomatch z
theorem lst_ni {xs : List V} : ∀ C dx fs, HO.lst xs ≠ HO.ins C dx fs := fun _ _ _ z => nomatch z
theorem dK_ni {xs : List (Key × V)} : ∀ C dx fs, HO.dK xs ≠ HO.ins C dx fs := fun _ _ _ z => nomatch z
abbrev g1 (l : V) : List (Str × V) := [("_lanes", l)]
abbrev g2 (l d : V) : List (Str × V) := [("_lanes", l), ("_around", d)]
abbrev g3 (l d e : V) : List (Str × V) := [("_lanes", l), ("_around", d), ("_ahead", e)]
abbrev g4 (l d e y : V) : List (Str × V) := [("_lanes", l), ("_around", d), ("_ahead", e), ("_yards", y)]
abbrev g5 (l d e y z : V) : List (Str × V) := [("_lanes", l), ("_around", d), ("_ahead", e), ("_yards", y), ("_gates", z)]
theorem pf1 {v : V} : putF "_lanes" v [] = g1 v := by rfl
theorem pf2 {l v : V} : putF "_around" v (g1 l) = g2 l v := by rfl
theorem pf3 {l d v : V} : putF "_ahead" v (g2 l d) = g3 l d v := by rfl
theorem pf4 {l d e v : V} : putF "_yards" v (g3 l d e) = g4 l d e v := by rfl
theorem pf5 {l d e y v : V} : putF "_gates" v (g4 l d e y) = g5 l d e y v := by rfl
/-! what is asked of a country -/
def spGet (C : Addr) (R : Hp → Lanes → Addr → Prop) : Sp := fun vs H Q _ => ∃ L p, vs = [.ref p] ∧ CAt C H p L ∧ ∀ q H', Ex H H' → H q = none → R H' L q → Q (.ref q) H'
def rLanesG (H' : Hp) (L : Lanes) (q : Addr) : Prop := ∃ M, LanesAt H' q M ∧ M.Perm (norm L) ∧ LexS M
def rYardsG (H' : Hp) (L : Lanes) (q : Addr) : Prop := H' q = some (.lst (vIs (yardsL L)))
def rGatesG (H' : Hp) (L : Lanes) (q : Addr) : Prop := H' q = some (.lst (vIs (gatesL L)))
def spPlace (C : Addr) : Sp := fun vs H Q _ => ∃ L p i, vs = [.ref p, vI i] ∧ CAt C H p L ∧ ∀ H', Ex H H' → Q (.bl (decide (i < L.length + 1))) H'
def spYard (C : Addr) : Sp := fun vs H Q _ => ∃ L p i, vs = [.ref p, vI i] ∧ CAt C H p L ∧ ∀ H', Ex H H' → Q (.bl (decide (i ∈ yardsL L))) H'
def spNbs (C : Addr) : Sp := fun vs H Q _ => ∃ L p i, vs = [.ref p, vI i] ∧ CAt C H p L ∧ i < L.length + 1 ∧ ∀ q H', Ex H H' → H q = none → H' q = some (.lst (vIs (adj L i))) → Q (.ref q) H'
def spIsNb (C : Addr) : Sp := fun vs H Q _ => ∃ L p i j, vs = [.ref p, vI i, vI j] ∧ CAt C H p L ∧ i < L.length + 1 ∧ ∀ H', Ex H H' → Q (.bl (decide (j ∈ adj L i))) H'
def spNext (C : Addr) : Sp := fun vs H Q _ => ∃ L vt p i goal, vs = [.ref p, vI i, vI goal] ∧ CAt C H p L ∧ Good vt L ∧ i ≠ goal ∧ i < L.length + 1 ∧ goal < L.length + 1 ∧ ∀ h r, Path L i goal (i :: h :: r) → Q (vI h) H
def spCheckC (C : Addr) : Sp := fun vs H Q _ => ∃ L p, vs = [.ref p] ∧ CAt C H p L ∧ ∀ H', Ex H H' → Q .non H'
def spCheckY (C : Addr) : Sp := fun vs H Q _ => ∃ L p i, vs = [.ref p, vI i] ∧ CAt C H p L ∧ i ∈ yardsL L ∧ ∀ H', Ex H H' → Q .non H'
def spCheckT (C : Addr) : Sp := fun vs H Q _ => ∃ L p i j, vs = [.ref p, vI i, vI j] ∧ CAt C H p L ∧ i < L.length + 1 ∧ j ∈ adj L i ∧ ∀ H', Ex H H' → Q .non H'
def spBehind (C : Addr) : Sp := fun vs H Q _ => ∃ L vt N p y t, vs = [.ref p, vI y, vI t] ∧ CAt C H p L ∧ Good vt L ∧ IsNext vt L N ∧ y ∈ yardsL L ∧ t ∈ adj L y ∧
  ∀ q H', Ex H H' → H q = none → H' q = some (.lst (vIs ((yardsL L).filter (beh N y t)))) → Q (.ref q) H'
theorem inV_vIs : ∀ (l : List Nat) (i : Nat), inV (vI i) (vIs l) = decide (i ∈ l)
  | [], i => rfl
  | a :: l, i => by
    have ih := inV_vIs l i
    have e : inV (vI i) (vIs (a :: l)) = (((a : Int) == (i : Int)) || inV (vI i) (vIs l)) := by rfl
    rw [e, ih]
    by_cases h : a = i
    · subst h
      simp
    · have : ((a : Int) == (i : Int)) = false := by
        rw [beq_eq_false_iff_ne]
        omega
      have h2 : ¬ i = a := fun z => h z.symm
      simp [this, h2]
theorem flat_vIs (l : List Nat) : (vIs l).all flatV = true := by
  rw [List.all_eq_true]
  intro x hx
  obtain ⟨_, _, e⟩ := List.mem_map.mp hx
  rw [← e]
  rfl
open Evl (Ev EvT) in
open Ep in
/-- [g u for u in l if f u] over places that stand in a list -/
theorem lcF {wi : TI} {g : TG} {tt : TT} {te : TE} {vs : List Nat} {σ : L2.St} {H : Hp} {l : List Nat} (s : Src wi σ H (vIs l).length (fun i v => (vIs l)[i]? = some v)) (hn : l.length ≤ 50000) (st : V → L2.St) (hw : ∀ x, wipe (st x) vs = wipe σ vs)
    (hg : ∀ x H1 Q, Ex H H1 → Q (st x) H1 → g x (wipe σ vs) H1 Q) (f : Nat → Bool) (v : Nat → V)
    (ht : ∀ u H1, u ∈ l → Ex H H1 → EvT tt (st (vI u)) H1 (f u)) (he : ∀ u H1, u ∈ l → Ex H H1 → f u = true → Ev te (st (vI u)) H1 (v u)) :
    EvP (tLc wi g tt te vs) σ H (NewL ((l.filter f).map v)) := by
  have at_ : ∀ {i : Nat} {x : V}, i < (vIs l).length → (vIs l)[i]? = some x → x = vI (l.getD i 0) ∧ l.getD i 0 ∈ l := fun {i x} hi hx => by
    have hi2 : i < l.length := by rw [List.length_map] at hi; exact hi
    rw [List.getElem?_map, List.getElem?_eq_getElem hi2] at hx
    rw [List.getD_eq_getElem?_getD, List.getElem?_eq_getElem hi2]
    exact ⟨(Option.some.inj hx).symm, List.getElem_mem hi2⟩
  refine EvP.imp (P := NewL (((List.range (vIs l).length).filter fun i => f (l.getD i 0)).map fun i => v (l.getD i 0))) (lcV s (by rw [List.length_map]; exact hn) (fun _ x => st x) (fun _ x => hw x) (fun _ x H1 Q e _ _ q => hg x H1 Q e q) (fun i => f (l.getD i 0)) (fun i => v (l.getD i 0)) (fun i x H1 e hi hx => ?_) (fun i x H1 e hi hx hf => ?_)) (fun z Ha Hb _ _ h => ?_)
  · obtain ⟨ex, m⟩ := at_ hi hx
    subst ex
    exact ht _ H1 m e
  · obtain ⟨ex, m⟩ := at_ hi hx
    subst ex
    exact he _ H1 m e hf
  · obtain ⟨q, rfl, hq, h⟩ := h
    refine ⟨q, rfl, hq, ?_⟩
    rw [h, List.length_map]
    have e : l = (List.range l.length).map fun i => l.getD i 0 := by
      refine List.ext_getElem (by simp) fun i h1 h2 => ?_
      rw [List.getElem_map, List.getElem_range, List.getD_eq_getElem?_getD, List.getElem?_eq_getElem h1]
      rfl
    conv => rhs; rw [e, List.filter_map]
    rw [List.map_map]
    rfl
/-! ### what a law draws -/
def PotAt (H : Hp) (p : Addr) : Prop := ∃ a b : Int, H p = some (.lst [.int a, .int b]) ∧ 0 ≤ a ∧ 0 ≤ b ∧ b < 4294967296
/-- all but p stays -/
def ExB (p : Addr) (H H' : Hp) : Prop := ∀ b o, H b = some o → b ≠ p → H' b = some o
theorem ExB.of {p : Addr} {H H' : Hp} (e : Ex H H') : ExB p H H' := fun b o h _ => e b o h
theorem ExB.trans {p : Addr} {H H1 H2 : Hp} (a : ExB p H H1) (b : ExB p H1 H2) : ExB p H H2 := fun c o h n => b c o (a c o h n) n
theorem ExB.put {p : Addr} {H : Hp} {o : HO} : ExB p H (upd H p o) := fun b u h n => by rw [upd_ne n]; exact h
theorem ExB.free {p q : Addr} {H H' : Hp} (e : ExB p H H') (h : H' q = none) (n : q ≠ p) : H q = none := by
  cases k : H q with
  | none => rfl
  | some o => rw [e q o k n] at h; cases h
def spPot (K : PySem.W.Frag) : Sp := fun vs H Q _ => ∃ (a : Addr) (ns : List Int) (k : Nat), vs = [.ref a, vI k] ∧ SqL K H a (ns.map V.int) ∧ k ≤ 1000 ∧ ∀ p H', Ex H H' → H p = none → PotAt H' p → Q (.ref p) H'
def spDraw : Sp := fun vs H Q _ => ∃ p m, vs = [.ref p, vI m] ∧ PotAt H p ∧ 0 < m ∧ m ≤ 2000 ∧ ∀ d H', d < m → PotAt H' p → ExB p H H' → Q (vI d) H'
def spPick : Sp := fun vs H Q _ => ∃ p a l, vs = [.ref p, .ref a] ∧ PotAt H p ∧ H a = some (.lst (vIs l)) ∧ a ≠ p ∧ 0 < l.length ∧ l.length ≤ 2000 ∧ ∀ x H', x ∈ l → PotAt H' p → ExB p H H' → Q (vI x) H'
def spBeside : Sp := fun vs H Q _ => ∃ L a i, vs = [.ref a, vI i] ∧ LanesAt H a L ∧ L.length ≤ 1000 ∧ ∀ p H', Ex H H' → H p = none → H' p = some (.lst (vIs (adj L i))) → Q (.ref p) H'
def spYardsOf : Sp := fun vs H Q _ => ∃ L a, vs = [.ref a] ∧ LanesAt H a L ∧ L.length ≤ 1000 ∧ ∀ p H', Ex H H' → H p = none → H' p = some (.lst (vIs (yardsL L))) → Q (.ref p) H'
theorem PotAt.exB {p q : Addr} {H H' : Hp} (e : ExB q H H') (n : p ≠ q) (h : PotAt H p) : PotAt H' p := by
  obtain ⟨a, b, h, r⟩ := h
  exact ⟨a, b, e _ _ h n, r⟩
theorem PotAt.ex {p : Addr} {H H' : Hp} (e : Ex H H') (h : PotAt H p) : PotAt H' p := by
  obtain ⟨a, b, h, r⟩ := h
  exact ⟨a, b, e _ _ h, r⟩
theorem PotAt.ne {p q : Addr} {H : Hp} {o : HO} (h : PotAt H p) (hq : H q = some o) (n : ∀ a b : Int, o ≠ .lst [.int a, .int b]) : q ≠ p := by
  obtain ⟨a, b, h, r⟩ := h
  exact ne_of hq h (n a b)
open Evl (Ev EvT) in
open Ep in
/-- [v q for a, b in lanes if f q] -/
theorem lcL {wi : TI} {g : TG} {tt : TT} {te : TE} {vs : List Nat} {σ : L2.St} {H : Hp} {ls : List V} {L : Lanes} (s : Src wi σ H ls.length (fun i v => ls[i]? = some v)) (hp : Paired (PairAt H) ls L) (hn : L.length ≤ 50000) (st : Nat × Nat → L2.St) (hw : ∀ q, wipe (st q) vs = wipe σ vs)
    (hg : ∀ q t H1 Q, Ex H H1 → H1 t = some (.tup [vI q.1, vI q.2]) → Q (st q) H1 → g (.ref t) (wipe σ vs) H1 Q) (f : Nat × Nat → Bool) (v : Nat × Nat → V)
    (ht : ∀ q H1, q ∈ L → Ex H H1 → EvT tt (st q) H1 (f q)) (he : ∀ q H1, q ∈ L → Ex H H1 → f q = true → Ev te (st q) H1 (v q)) :
    EvP (tLc wi g tt te vs) σ H (NewL ((L.filter f).map v)) := by
  have hll : ls.length = L.length := PySem.Paired.length hp
  have at_ : ∀ {i : Nat} {x : V}, ls[i]? = some x → ∃ t, x = .ref t ∧ H t = some (.tup [vI (L.getD i (0, 0)).1, vI (L.getD i (0, 0)).2]) ∧ L.getD i (0, 0) ∈ L := fun {i x} hx => by
    obtain ⟨q, hq, t, r, k⟩ := paired_ix hp hx
    have : L.getD i (0, 0) = q := by rw [List.getD_eq_getElem?_getD, hq]; rfl
    exact ⟨t, r, this ▸ k, this ▸ List.mem_of_getElem? hq⟩
  refine EvP.imp (P := NewL (((List.range ls.length).filter fun i => f (L.getD i (0, 0))).map fun i => v (L.getD i (0, 0)))) (lcV s (by omega) (fun i _ => st (L.getD i (0, 0))) (fun _ _ => hw _) (fun i x H1 Q e _ hx q => ?_) (fun i => f (L.getD i (0, 0))) (fun i => v (L.getD i (0, 0))) (fun i x H1 e _ hx => ?_) (fun i x H1 e _ hx hf => ?_)) (fun z Ha Hb _ _ h => ?_)
  · obtain ⟨t, rfl, k, _⟩ := at_ hx
    exact hg _ t H1 Q e (e _ _ k) q
  · obtain ⟨t, rfl, k, m⟩ := at_ hx
    exact ht _ H1 m e
  · obtain ⟨t, rfl, k, m⟩ := at_ hx
    exact he _ H1 m e hf
  · obtain ⟨q, rfl, hq, h⟩ := h
    refine ⟨q, rfl, hq, ?_⟩
    rw [h, hll]
    have e : L = (List.range L.length).map fun i => L.getD i (0, 0) := by
      refine List.ext_getElem (by simp) fun i h1 h2 => ?_
      rw [List.getElem_map, List.getElem_range, List.getD_eq_getElem?_getD, List.getElem?_eq_getElem h1]
      rfl
    conv => rhs; rw [e, List.filter_map]
    rw [List.map_map]
    rfl
theorem go_tup {K : PySem.W.Frag} {i j : Nat} {σ : L2.St} {H1 : Hp} {t : Addr} {q : Nat × Nat} {Q : L2.St → Hp → Prop} (h : H1 t = some (.tup [vI q.1, vI q.2])) (k : Q ((σ.set i (some (vI q.1))).set j (some (vI q.2))) H1) : gTup K 2 (gCons (gName i) (gCons (gName j) gNil)) (.ref t) σ H1 Q :=
  ⟨t, _, rfl, Evl.st_of h, rfl, _, _, rfl, _, _, rfl, rfl, k⟩
end Pr
set_option Elab.async false
set_option linter.all false
set_option maxRecDepth 100000
set_option maxHeartbeats 4000000
/-! the data layer: values without a heap; what a reading does, told of data alone -/
namespace DL
open PySem PySem.Spec PyProof.Rows L2
open Evl (Ex)
/-- an object of the program's own -/
inductive Ob where
  | cty (L : List (Nat × Nat))
  | web (L : List (Nat × Nat)) (Bs : List (List (Nat × List (Option Nat × Option Nat × Nat))))
inductive D where
  | non | bl (b : Bool) | int (i : Int) | str (s : Str) | ty (n : String)
  | lst (l : List D) | tup (l : List D)
  | dk (ks : List Key) (l : List D) | dt (ks : List (List Key)) (l : List D)
  | ob (o : Ob)
  /-- range(n), as a value -/
  | rg (n : Nat)
/-- what stands, but for the dicts of instances, stands here too -/
def Exo (H H' : Hp) : Prop := ∀ b o, H b = some o → (∀ a, o ≠ .own a) → H' b = some o
theorem Exo.of {H H' : Hp} (e : Ex H H') : Exo H H' := fun b o h _ => e b o h
structure OR where
  r : Hp → V → Ob → Prop
  mono : ∀ H H' v o, Exo H H' → r H v o → r H' v o
mutual
def Rp (R : OR) (H : Hp) : V → D → Prop
  | v, .non => v = .non
  | v, .bl b => v = .bl b
  | v, .int i => v = .int i
  | v, .str s => v = .str s
  | v, .ty n => v = .ty n
  | v, .lst l => ∃ p vs, v = .ref p ∧ H p = some (.lst vs) ∧ RpA R H vs l
  | v, .tup l => ∃ p vs, v = .ref p ∧ H p = some (.tup vs) ∧ RpA R H vs l
  | v, .dk ks l => ∃ p vs, v = .ref p ∧ H p = some (.dK (ks.zip vs)) ∧ ks.length = l.length ∧ RpA R H vs l
  | v, .dt ks l => ∃ p vs, v = .ref p ∧ H p = some (.dT (ks.zip vs)) ∧ ks.length = l.length ∧ RpA R H vs l
  | v, .ob o => R.r H v o
  | v, .rg n => ∃ p, v = .ref p ∧ H p = some (.rng 0 (n : Int))
def RpA (R : OR) (H : Hp) : List V → List D → Prop
  | [], [] => True
  | v :: vs, d :: ds => Rp R H v d ∧ RpA R H vs ds
  | [], _ :: _ => False
  | _ :: _, [] => False
end
section
variable {R : OR} {H H' : Hp}
mutual
theorem Rp.monoO (e : Exo H H') : ∀ {v : V} (d : D), Rp R H v d → Rp R H' v d
  | v, .non, h => by simp only [Rp] at h ⊢; exact h
  | v, .bl _, h => by simp only [Rp] at h ⊢; exact h
  | v, .int _, h => by simp only [Rp] at h ⊢; exact h
  | v, .str _, h => by simp only [Rp] at h ⊢; exact h
  | v, .ty _, h => by simp only [Rp] at h ⊢; exact h
  | v, .lst l, h => by
    simp only [Rp] at h ⊢
    obtain ⟨p, vs, r, k, a⟩ := h
    exact ⟨p, vs, r, e _ _ k (fun _ z => nomatch z), RpA.monoO e l a⟩
  | v, .tup l, h => by
    simp only [Rp] at h ⊢
    obtain ⟨p, vs, r, k, a⟩ := h
    exact ⟨p, vs, r, e _ _ k (fun _ z => nomatch z), RpA.monoO e l a⟩
  | v, .dk ks l, h => by
    simp only [Rp] at h ⊢
    obtain ⟨p, vs, r, k, z, a⟩ := h
    exact ⟨p, vs, r, e _ _ k (fun _ z => nomatch z), z, RpA.monoO e l a⟩
  | v, .dt ks l, h => by
    simp only [Rp] at h ⊢
    obtain ⟨p, vs, r, k, z, a⟩ := h
    exact ⟨p, vs, r, e _ _ k (fun _ z => nomatch z), z, RpA.monoO e l a⟩
  | v, .ob o, h => by simp only [Rp] at h ⊢; exact R.mono _ _ _ _ e h
  | v, .rg n, h => by
    simp only [Rp] at h ⊢
    obtain ⟨p, r, k⟩ := h
    exact ⟨p, r, e _ _ k (fun _ z => nomatch z)⟩
theorem RpA.monoO (e : Exo H H') : ∀ {vs : List V} (ds : List D), RpA R H vs ds → RpA R H' vs ds
  | [], [], _ => by simp only [RpA]
  | v :: vs, d :: ds, h => by
    simp only [RpA] at h ⊢
    exact ⟨Rp.monoO e d h.1, RpA.monoO e ds h.2⟩
  | [], _ :: _, h => by simp only [RpA] at h
  | _ :: _, [], h => by simp only [RpA] at h
end
theorem Rp.mono (e : Ex H H') {v : V} (d : D) (h : Rp R H v d) : Rp R H' v d := Rp.monoO (.of e) d h
theorem RpA.mono (e : Ex H H') {vs : List V} (ds : List D) (h : RpA R H vs ds) : RpA R H' vs ds := RpA.monoO (.of e) ds h
theorem RpA.nil : RpA R H [] [] := by simp only [RpA]
theorem RpA.cons {v : V} {d : D} {vs : List V} {ds : List D} (a : Rp R H v d) (b : RpA R H vs ds) : RpA R H (v :: vs) (d :: ds) := by simp only [RpA]; exact ⟨a, b⟩
theorem RpA.len : ∀ {vs : List V} {ds : List D}, RpA R H vs ds → vs.length = ds.length
  | [], [], _ => rfl
  | _ :: vs, _ :: ds, h => by
    simp only [RpA] at h
    rw [List.length_cons, List.length_cons, RpA.len h.2]
  | [], _ :: _, h => by simp only [RpA] at h
  | _ :: _, [], h => by simp only [RpA] at h
theorem RpA.app : ∀ {vs us : List V} {ds es : List D}, RpA R H vs ds → RpA R H us es → RpA R H (vs ++ us) (ds ++ es)
  | [], _, [], _, _, h => h
  | _ :: vs, _, _ :: ds, _, h, g => by
    simp only [RpA] at h
    simp only [List.cons_append, RpA]
    exact ⟨h.1, RpA.app h.2 g⟩
  | [], _, _ :: _, _, h, _ => by simp only [RpA] at h
  | _ :: _, _, [], _, h, _ => by simp only [RpA] at h
theorem RpA.get : ∀ {vs : List V} {ds : List D} {i : Nat} {d : D}, RpA R H vs ds → ds[i]? = some d → ∃ v, vs[i]? = some v ∧ Rp R H v d
  | [], [], _, _, _, h => by simp at h
  | v :: vs, d :: ds, 0, _, h, e => by
    simp only [RpA] at h
    simp at e
    subst e
    exact ⟨v, rfl, h.1⟩
  | v :: vs, d :: ds, i + 1, _, h, e => by
    simp only [RpA] at h
    obtain ⟨u, a, b⟩ := RpA.get (i := i) h.2 (by simpa using e)
    exact ⟨u, by simpa using a, b⟩
  | [], _ :: _, _, _, h, _ => by simp only [RpA] at h
  | _ :: _, [], _, _, h, _ => by simp only [RpA] at h
theorem RpA.getV {vs : List V} {ds : List D} {i : Nat} {v : V} (h : RpA R H vs ds) (e : vs[i]? = some v) : ∃ d, ds[i]? = some d ∧ Rp R H v d := by
  have hi := (List.getElem?_eq_some_iff.mp e).1
  have hl := h.len
  obtain ⟨u, a, b⟩ := h.get (i := i) (d := ds[i]'(by omega)) (List.getElem?_eq_getElem _)
  rw [e] at a
  cases a
  exact ⟨_, List.getElem?_eq_getElem _, b⟩
theorem RpA.take : ∀ (n : Nat) {vs : List V} {ds : List D}, RpA R H vs ds → RpA R H (vs.take n) (ds.take n)
  | 0, _, _, _ => by simp only [List.take_zero]; exact .nil
  | n + 1, [], [], _ => by simp only [List.take_nil]; exact .nil
  | n + 1, _ :: vs, _ :: ds, h => by
    simp only [RpA] at h
    simp only [List.take_succ_cons, RpA]
    exact ⟨h.1, RpA.take n h.2⟩
  | _ + 1, [], _ :: _, h => by simp only [RpA] at h
  | _ + 1, _ :: _, [], h => by simp only [RpA] at h
theorem RpA.drop : ∀ (n : Nat) {vs : List V} {ds : List D}, RpA R H vs ds → RpA R H (vs.drop n) (ds.drop n)
  | 0, _, _, h => by simpa only [List.drop_zero] using h
  | n + 1, [], [], _ => by simp only [List.drop_nil]; exact .nil
  | n + 1, _ :: vs, _ :: ds, h => by
    simp only [RpA] at h
    simp only [List.drop_succ_cons]
    exact RpA.drop n h.2
  | _ + 1, [], _ :: _, h => by simp only [RpA] at h
  | _ + 1, _ :: _, [], h => by simp only [RpA] at h
theorem RpA.rev : ∀ {vs : List V} {ds : List D}, RpA R H vs ds → RpA R H vs.reverse ds.reverse
  | [], [], h => h
  | _ :: vs, _ :: ds, h => by
    simp only [RpA] at h
    rw [List.reverse_cons, List.reverse_cons]
    exact RpA.app (RpA.rev h.2) (.cons h.1 .nil)
  | [], _ :: _, h => by simp only [RpA] at h
  | _ :: _, [], h => by simp only [RpA] at h
theorem RpA.ints : ∀ {vs : List V} {ns : List Int}, RpA R H vs (ns.map D.int) → vs = ns.map V.int
  | [], [], _ => rfl
  | v :: vs, n :: ns, h => by
    simp only [List.map_cons, RpA, Rp] at h
    rw [List.map_cons, h.1, ← RpA.ints h.2]
  | [], _ :: _, h => by simp only [List.map_cons, RpA] at h
  | _ :: _, [], h => by simp only [List.map_nil, RpA] at h
theorem RpA.bls : ∀ {vs : List V} {ns : List Bool}, RpA R H vs (ns.map D.bl) → vs = ns.map V.bl
  | [], [], _ => rfl
  | v :: vs, n :: ns, h => by
    simp only [List.map_cons, RpA, Rp] at h
    rw [List.map_cons, h.1, ← RpA.bls h.2]
  | [], _ :: _, h => by simp only [List.map_cons, RpA] at h
  | _ :: _, [], h => by simp only [List.map_nil, RpA] at h
theorem RpA.ofInts : ∀ {ns : List Int}, RpA R H (ns.map V.int) (ns.map D.int)
  | [] => .nil
  | n :: ns => by
    simp only [List.map_cons, RpA, Rp]
    exact ⟨trivial, RpA.ofInts⟩
end
/-! ### slots -/
inductive SV where
  | un | val (d : D) | ml (l : List D) | mt (ks : List (List Key)) (l : List D) | mk (ks : List Key) (l : List D) | pot
abbrev Env := List SV
def isM : SV → Bool
  | .ml _ => true
  | .mt _ _ => true
  | .mk _ _ => true
  | _ => false
def ExP (P : Option Addr) (H H' : Hp) : Prop := ∀ b o, H b = some o → P ≠ some b → H' b = some o
theorem ExP.refl {P : Option Addr} {H : Hp} : ExP P H H := fun _ _ h _ => h
theorem ExP.trans {P : Option Addr} {H H1 H2 : Hp} (a : ExP P H H1) (b : ExP P H1 H2) : ExP P H H2 := fun c o h n => b c o (a c o h n) n
theorem ExP.of {P : Option Addr} {H H' : Hp} (e : Ex H H') : ExP P H H' := fun b o h _ => e b o h
/-- what never changes, and is never under hand -/
def Imm : HO → Prop
  | .tup _ => True
  | .own _ => True
  | _ => False
structure Step (P : Option Addr) (B H B' H' : Hp) : Prop where
  bb : Ex B B'
  bh : Ex B' H'
  hh : ExP P H H'
  nw : ∀ b o, B' b = some o → B b = some o ∨ H b = none ∨ Imm o
def PotOk (P : Option Addr) (H : Hp) : Prop := ∀ p, P = some p → Pr.PotAt H p
def SlotOk (R : OR) (P : Option Addr) (σ : L2.St) (B H : Hp) (i : Nat) : SV → Prop
  | .un => True
  | .val d => ∃ v, σ[i]? = some (some v) ∧ Rp R B v d
  | .ml l => ∃ p vs, σ[i]? = some (some (.ref p)) ∧ H p = some (.lst vs) ∧ B p = none ∧ P ≠ some p ∧ RpA R B vs l
  | .mt ks l => ∃ p vs, σ[i]? = some (some (.ref p)) ∧ H p = some (.dT (ks.zip vs)) ∧ ks.length = l.length ∧ B p = none ∧ P ≠ some p ∧ RpA R B vs l
  | .mk ks l => ∃ p vs, σ[i]? = some (some (.ref p)) ∧ H p = some (.dK (ks.zip vs)) ∧ ks.length = l.length ∧ B p = none ∧ P ≠ some p ∧ RpA R B vs l
  | .pot => ∃ p, P = some p ∧ σ[i]? = some (some (.ref p))
structure EnvOk (R : OR) (P : Option Addr) (env : Env) (σ : L2.St) (B H : Hp) : Prop where
  len : σ.length = env.length
  bh : Ex B H
  pot : PotOk P H
  pb : ∀ p, P = some p → B p = none
  sl : ∀ i sv, env[i]? = some sv → SlotOk R P σ B H i sv
  nd : ∀ (i j : Nat) (x y : SV) (p : Addr), env[i]? = some x → env[j]? = some y → isM x = true → isM y = true → σ[i]? = some (some (V.ref p)) → σ[j]? = some (some (V.ref p)) → i = j
section
variable {R : OR} {P : Option Addr} {env : Env} {σ : L2.St} {B H B' H' B2 H2 : Hp}
theorem Step.refl (b : Ex B H) : Step P B H B H := ⟨Ex.refl _, b, .refl, fun _ _ h => .inl h⟩
theorem fresh_backP {p : Addr} (e : ExP P H H') (n : P ≠ some p) (h : H' p = none) : H p = none := by
  cases q : H p with
  | none => rfl
  | some o => rw [e p o q n] at h; cases h
theorem pot_some {H : Hp} {p : Addr} (hp : Pr.PotAt H p) : H p ≠ none := by
  obtain ⟨_, _, k, _⟩ := hp
  rw [k]
  exact fun z => nomatch z
theorem fresh_pot (po : PotOk P H) {p : Addr} (h : H p = none) : P ≠ some p := fun e => pot_some (po p e) h
theorem Step.trans (po : PotOk P H') (a : Step P B H B' H') (b : Step P B' H' B2 H2) : Step P B H B2 H2 := ⟨a.bb.trans b.bb, b.bh, a.hh.trans b.hh, fun c o h => by
  rcases b.nw c o h with k | k | k
  · exact a.nw c o k
  · exact .inr (.inl (fresh_backP a.hh (fresh_pot po k) k))
  · exact .inr (.inr k)⟩
theorem PotOk.ex (h : PotOk P H) (e : Ex H H') : PotOk P H' := fun p k => (h p k).ex e
/-- the slots behind a step of an expression -/
theorem EnvOk.step (E : EnvOk R P env σ B H) (s : Step P B H B' H') (po : PotOk P H') : EnvOk R P env σ B' H' where
  len := E.len
  bh := s.bh
  pot := po
  pb := fun p e => by
    cases q : B' p with
    | none => rfl
    | some o =>
      rcases s.nw p o q with k | k | k
      · rw [E.pb p e] at k; cases k
      · exact absurd k (pot_some (E.pot p e))
      · obtain ⟨a, b, h, _⟩ := po p e
        have := s.bh _ _ q
        rw [h] at this
        cases this
        exact k.elim
  sl := fun i sv h => by
    have z := E.sl i sv h
    have nb : ∀ p o, H p = some o → ¬ Imm o → P ≠ some p → B p = none → B' p = none := fun p o a im hP b => by
      cases q : B' p with
      | none => rfl
      | some u =>
        rcases s.nw p u q with k | k | k
        · rw [b] at k; cases k
        · rw [a] at k; cases k
        · have h1 := s.bh _ _ q
          rw [s.hh _ _ a hP] at h1
          cases h1
          exact absurd k im
    cases sv with
    | un => trivial
    | val d =>
      obtain ⟨v, a, b⟩ := z
      exact ⟨v, a, b.mono s.bb d⟩
    | ml l =>
      obtain ⟨p, vs, a, b, c, d, e⟩ := z
      exact ⟨p, vs, a, s.hh _ _ b d, nb _ _ b (fun z => z) d c, d, e.mono s.bb l⟩
    | mt ks l =>
      obtain ⟨p, vs, a, b, f, c, d, e⟩ := z
      exact ⟨p, vs, a, s.hh _ _ b d, f, nb _ _ b (fun z => z) d c, d, e.mono s.bb l⟩
    | mk ks l =>
      obtain ⟨p, vs, a, b, f, c, d, e⟩ := z
      exact ⟨p, vs, a, s.hh _ _ b d, f, nb _ _ b (fun z => z) d c, d, e.mono s.bb l⟩
    | pot => exact z
  nd := E.nd
/-- a new object, known -/
theorem EnvOk.alloc (E : EnvOk R P env σ B H) {p : Addr} {o : HO} (h : H p = none) : Step P B H (upd B p o) (upd H p o) ∧ EnvOk R P env σ (upd B p o) (upd H p o) := by
  have hb : B p = none := Evl.fresh_back E.bh h
  have s : Step P B H (upd B p o) (upd H p o) := ⟨Ex.new hb, fun b u k => by
    by_cases e : b = p
    · subst e; rw [upd_same] at k ⊢; exact k
    · rw [upd_ne e] at k ⊢; exact E.bh b u k, ExP.of (Ex.new h), fun b u k => by
    by_cases e : b = p
    · subst e; exact .inr (.inl h)
    · rw [upd_ne e] at k; exact .inl k⟩
  exact ⟨s, E.step s (E.pot.ex (Ex.new h))⟩
/-- a new object, not known yet -/
theorem EnvOk.allocU (E : EnvOk R P env σ B H) {p : Addr} {o : HO} (h : H p = none) : Step P B H B (upd H p o) ∧ EnvOk R P env σ B (upd H p o) := by
  have s : Step P B H B (upd H p o) := ⟨Ex.refl _, E.bh.trans (Ex.new h), ExP.of (Ex.new h), fun b u k => .inl k⟩
  exact ⟨s, E.step s (E.pot.ex (Ex.new h))⟩
end
end DL
set_option Elab.async false
set_option linter.all false
set_option maxRecDepth 100000
set_option maxHeartbeats 4000000
/-! expressions, told of data -/
namespace DL
open PySem PySem.Spec PyProof.Rows L2
open Evl (Ex)
abbrev DK := D → Prop
abbrev EE := Env → DK → Prop
abbrev EL := Env → (List D → Prop) → Prop
abbrev EB := Env → (Bool → Prop) → Prop
abbrev EO := Env → (Option Int → Prop) → Prop
/-- what a list under hand stands for -/
def WkR (R : OR) (P : Option Addr) (B H : Hp) (v : V) : D → Prop
  | .lst l => ∃ p vs, v = .ref p ∧ H p = some (.lst vs) ∧ P ≠ some p ∧ RpA R B vs l
  | .dt ks l => ∃ p vs, v = .ref p ∧ H p = some (.dT (ks.zip vs)) ∧ ks.length = l.length ∧ P ≠ some p ∧ RpA R B vs l
  | .dk ks l => ∃ p vs, v = .ref p ∧ H p = some (.dK (ks.zip vs)) ∧ ks.length = l.length ∧ P ≠ some p ∧ RpA R B vs l
  | _ => False
def RpW (R : OR) (P : Option Addr) (B H : Hp) (v : V) (d : D) : Prop := Rp R B v d ∨ WkR R P B H v d
def WE (R : OR) (te : TE) (ee : EE) : Prop := ∀ P env σ B H (Q : VK) k, EnvOk R P env σ B H → ee env k → (∀ d v B' H', k d → Step P B H B' H' → EnvOk R P env σ B' H' → Rp R B' v d → Q v H') → te σ H Q
def WO (R : OR) (te : TE) (ee : EE) : Prop := ∀ P env σ B H (Q : VK) k, EnvOk R P env σ B H → ee env k → (∀ d v B' H', k d → Step P B H B' H' → EnvOk R P env σ B' H' → RpW R P B' H' v d → Q v H') → te σ H Q
/-- a new list, not known yet -/
def WF (R : OR) (te : TE) (el : EL) : Prop := ∀ P env σ B H (Q : VK) k, EnvOk R P env σ B H → el env k → (∀ l p vs B' H', k l → Step P B H B' H' → EnvOk R P env σ B' H' → H p = none → B' p = none → H' p = some (.lst vs) → RpA R B' vs l → Q (.ref p) H') → te σ H Q
def WA (R : OR) (ta : TA) (ea : EL) : Prop := ∀ P env σ B H (Q : List V → Hp → Prop) k, EnvOk R P env σ B H → ea env k → (∀ ds vs B' H', k ds → Step P B H B' H' → EnvOk R P env σ B' H' → RpA R B' vs ds → Q vs H') → ta σ H Q
def WT (R : OR) (tt : TT) (eb : EB) : Prop := ∀ P env σ B H (Q : Bool → Hp → Prop) k, EnvOk R P env σ B H → eb env k → (∀ b B' H', k b → Step P B H B' H' → EnvOk R P env σ B' H' → Q b H') → tt σ H Q
def WP (R : OR) (to : TO) (eo : EO) : Prop := ∀ P env σ B H (Q : Option Int → Hp → Prop) k, EnvOk R P env σ B H → eo env k → (∀ b B' H', k b → Step P B H B' H' → EnvOk R P env σ B' H' → Q b H') → to σ H Q
section
variable {R : OR} {P : Option Addr} {env : Env} {σ : L2.St} {B H B' H' B2 H2 : Hp}
theorem RpW.step {v : V} {d : D} (h : RpW R P B H v d) (s : Step P B H B' H') : RpW R P B' H' v d := by
  rcases h with h | h
  · exact .inl (h.mono s.bb d)
  · refine .inr ?_
    cases d with
    | lst l =>
      obtain ⟨p, vs, r, k, n, a⟩ := h
      exact ⟨p, vs, r, s.hh _ _ k n, n, a.mono s.bb l⟩
    | dt ks l =>
      obtain ⟨p, vs, r, k, z, n, a⟩ := h
      exact ⟨p, vs, r, s.hh _ _ k n, z, n, a.mono s.bb l⟩
    | dk ks l =>
      obtain ⟨p, vs, r, k, z, n, a⟩ := h
      exact ⟨p, vs, r, s.hh _ _ k n, z, n, a.mono s.bb l⟩
    | _ => exact h.elim
def seqD : D → Option (List D)
  | .lst l => some l
  | .tup l => some l
  | _ => none
theorem RpW.lst {v : V} {l : List D} (bh : Ex B H) (h : RpW R P B H v (.lst l)) : ∃ p vs, v = .ref p ∧ H p = some (.lst vs) ∧ RpA R B vs l := by
  rcases h with h | h
  · simp only [Rp] at h
    obtain ⟨p, vs, r, k, a⟩ := h
    exact ⟨p, vs, r, bh _ _ k, a⟩
  · obtain ⟨p, vs, r, k, _, a⟩ := h
    exact ⟨p, vs, r, k, a⟩
theorem RpW.tup {v : V} {l : List D} (bh : Ex B H) (h : RpW R P B H v (.tup l)) : ∃ p vs, v = .ref p ∧ B p = some (.tup vs) ∧ H p = some (.tup vs) ∧ RpA R B vs l := by
  rcases h with h | h
  · simp only [Rp] at h
    obtain ⟨p, vs, r, k, a⟩ := h
    exact ⟨p, vs, r, k, bh _ _ k, a⟩
  · exact h.elim
theorem RpW.seq {v : V} {d : D} {l : List D} (bh : Ex B H) (h : RpW R P B H v d) (e : seqD d = some l) : ∃ p vs, v = .ref p ∧ (H p = some (.lst vs) ∨ H p = some (.tup vs)) ∧ RpA R B vs l := by
  cases d with
  | lst m =>
    cases e
    obtain ⟨p, vs, r, k, a⟩ := h.lst bh
    exact ⟨p, vs, r, .inl k, a⟩
  | tup m =>
    cases e
    obtain ⟨p, vs, r, _, k, a⟩ := h.tup bh
    exact ⟨p, vs, r, .inr k, a⟩
  | _ => cases e
theorem RpW.int {v : V} {i : Int} (h : RpW R P B H v (.int i)) : v = .int i := by
  rcases h with h | h
  · simpa only [Rp] using h
  · exact h.elim
theorem RpW.bl {v : V} {i : Bool} (h : RpW R P B H v (.bl i)) : v = .bl i := by
  rcases h with h | h
  · simpa only [Rp] using h
  · exact h.elim
theorem RpW.str {v : V} {i : Str} (h : RpW R P B H v (.str i)) : v = .str i := by
  rcases h with h | h
  · simpa only [Rp] using h
  · exact h.elim
theorem RpW.non {v : V} (h : RpW R P B H v .non) : v = .non := by
  rcases h with h | h
  · simpa only [Rp] using h
  · exact h.elim
theorem rp_int {i : Int} : Rp R B (.int i) (.int i) := by simp only [Rp]
theorem rp_bl {i : Bool} : Rp R B (.bl i) (.bl i) := by simp only [Rp]
theorem rp_str {i : Str} : Rp R B (.str i) (.str i) := by simp only [Rp]
theorem rp_non : Rp R B .non .non := by simp only [Rp]
theorem rp_lst {p : Addr} {vs : List V} {l : List D} (h : B p = some (.lst vs)) (a : RpA R B vs l) : Rp R B (.ref p) (.lst l) := by simp only [Rp]; exact ⟨p, vs, rfl, h, a⟩
theorem rp_tup {p : Addr} {vs : List V} {l : List D} (h : B p = some (.tup vs)) (a : RpA R B vs l) : Rp R B (.ref p) (.tup l) := by simp only [Rp]; exact ⟨p, vs, rfl, h, a⟩
/-- a list under hand becomes known -/
theorem EnvOk.know (E : EnvOk R P env σ B H) (s : Step P B H B' H') (po : PotOk P H') {p : Addr} {vs : List V} {l : List D} (hp : H p = none) (hb : B' p = none) (h : H' p = some (.lst vs)) (a : RpA R B' vs l) : Step P B H (upd B' p (.lst vs)) H' ∧ EnvOk R P env σ (upd B' p (.lst vs)) H' ∧ Rp R (upd B' p (.lst vs)) (.ref p) (.lst l) := by
  have e : Ex B' (upd B' p (.lst vs)) := Ex.new hb
  have s2 : Step P B H (upd B' p (.lst vs)) H' := ⟨s.bb.trans e, fun b o k => by
    by_cases n : b = p
    · subst n; rw [upd_same] at k; cases k; exact h
    · rw [upd_ne n] at k; exact s.bh b o k, s.hh, fun b o k => by
    by_cases n : b = p
    · subst n; exact .inr (.inl hp)
    · rw [upd_ne n] at k; exact s.nw b o k⟩
  exact ⟨s2, E.step s2 po, rp_lst upd_same (a.mono e l)⟩
end
/-! ### what goes round -/
section
variable {R : OR} {te ta tb tc : TE} {ee ea eb ec : EE}
def eF (el : EL) : EE := fun env k => el env fun l => k (.lst l)
theorem we_of_wf {el : EL} (h : WF R te el) : WE R te (eF el) := fun P env σ B H Q k E he q =>
  h P env σ B H Q _ E he fun l p vs B' H' kl s E' hp hb hh a => by
    obtain ⟨s2, E2, r⟩ := E.know s E'.pot hp hb hh a
    exact q _ _ _ _ kl s2 E2 r
theorem wo_of (h : WE R te ee) : WO R te ee := fun P env σ B H Q k E he q => h P env σ B H Q k E he fun d v B' H' kd s E' r => q d v B' H' kd s E' (.inl r)
/-- a weak operand of a new list, not known -/
theorem wo_of_wf {el : EL} (h : WF R te el) : WO R te (eF el) := wo_of (we_of_wf h)
/-! ### names, constants -/
def eVar (i : Nat) : EE := fun env k => match env[i]? with
  | some (.val d) => k d
  | _ => False
theorem we_var {i : Nat} : WE R (tVar i) (eVar i) := fun P env σ B H Q k E he q => by
  unfold eVar at he
  split at he
  · next d h =>
    obtain ⟨v, a, b⟩ := E.sl i _ h
    exact ⟨v, a, q d v B H he (.refl E.bh) E b⟩
  · exact he.elim
def eVarO (i : Nat) : EE := fun env k => match env[i]? with
  | some (.val d) => k d
  | some (.ml l) => k (.lst l)
  | some (.mt ks l) => k (.dt ks l)
  | some (.mk ks l) => k (.dk ks l)
  | _ => False
theorem wo_var {i : Nat} : WO R (tVar i) (eVarO i) := fun P env σ B H Q k E he q => by
  unfold eVarO at he
  split at he
  · next d h =>
    obtain ⟨v, a, b⟩ := E.sl i _ h
    exact ⟨v, a, q d v B H he (.refl E.bh) E (.inl b)⟩
  · next l h =>
    obtain ⟨p, vs, a, b, c, d, e⟩ := E.sl i _ h
    exact ⟨_, a, q _ _ B H he (.refl E.bh) E (.inr ⟨p, vs, rfl, b, d, e⟩)⟩
  · next l h =>
    obtain ⟨p, vs, a, b, f, c, d, e⟩ := E.sl i _ h
    exact ⟨_, a, q _ _ B H he (.refl E.bh) E (.inr ⟨p, vs, rfl, b, f, d, e⟩)⟩
  · next l h =>
    obtain ⟨p, vs, a, b, f, c, d, e⟩ := E.sl i _ h
    exact ⟨_, a, q _ _ B H he (.refl E.bh) E (.inr ⟨p, vs, rfl, b, f, d, e⟩)⟩
  · exact he.elim
def eC (d : D) : EE := fun _ k => k d
theorem we_c {v : V} {d : D} (h : ∀ B, Rp R B v d) : WE R (tC v) (eC d) := fun P env σ B H Q k E he q => q d v B H he (.refl E.bh) E (h B)
theorem we_int {i : Int} : WE R (tC (.int i)) (eC (.int i)) := we_c fun _ => rp_int
theorem we_bl {i : Bool} : WE R (tC (.bl i)) (eC (.bl i)) := we_c fun _ => rp_bl
theorem we_str {i : Str} : WE R (tC (.str i)) (eC (.str i)) := we_c fun _ => rp_str
theorem we_non : WE R (tC .non) (eC .non) := we_c fun _ => rp_non
/-! ### operators -/
def OpD (R : OR) (r : R2) (f : D → D → DK → Prop) : Prop := ∀ P B H x y a b (Q : VK) k, Ex B H → PotOk P H → RpW R P B H x a → RpW R P B H y b → f a b k → (∀ d v B' H', k d → Step P B H B' H' → PotOk P H' → Rp R B' v d → Q v H') → r x y H Q
def OpF (R : OR) (r : R2) (f : D → D → (List D → Prop) → Prop) : Prop := ∀ P B H x y a b (Q : VK) k, Ex B H → PotOk P H → RpW R P B H x a → RpW R P B H y b → f a b k → (∀ l p vs B' H', k l → Step P B H B' H' → PotOk P H' → H p = none → B' p = none → H' p = some (.lst vs) → RpA R B' vs l → Q (.ref p) H') → r x y H Q
def UnD (R : OR) (r : V → Hp → VK → Prop) (f : D → DK → Prop) : Prop := ∀ P B H x a (Q : VK) k, Ex B H → PotOk P H → RpW R P B H x a → f a k → (∀ d v B' H', k d → Step P B H B' H' → PotOk P H' → Rp R B' v d → Q v H') → r x H Q
def UnF (R : OR) (r : V → Hp → VK → Prop) (f : D → (List D → Prop) → Prop) : Prop := ∀ P B H x a (Q : VK) k, Ex B H → PotOk P H → RpW R P B H x a → f a k → (∀ l p vs B' H', k l → Step P B H B' H' → PotOk P H' → H p = none → B' p = none → H' p = some (.lst vs) → RpA R B' vs l → Q (.ref p) H') → r x H Q
def eOp (f : D → D → DK → Prop) (ea eb : EE) : EE := fun env k => ea env fun a => eb env fun b => f a b k
def eOpF (f : D → D → (List D → Prop) → Prop) (ea eb : EE) : EL := fun env k => ea env fun a => eb env fun b => f a b k
def eUn (f : D → DK → Prop) (ea : EE) : EE := fun env k => ea env fun a => f a k
def eUnF (f : D → (List D → Prop) → Prop) (ea : EE) : EL := fun env k => ea env fun a => f a k
theorem we_op {r : R2} {f : D → D → DK → Prop} (o : OpD R r f) (ha : WO R ta ea) (hb : WO R tb eb) : WE R (tOp r ta tb) (eOp f ea eb) := fun P env σ B H Q k E he q =>
  ha P env σ B H _ _ E he fun a x B1 H1 k1 s1 E1 r1 => hb P env σ B1 H1 _ _ E1 k1 fun b y B2 H2 k2 s2 E2 r2 =>
    o P B2 H2 x y a b Q k E2.bh E2.pot (r1.step s2) r2 k2 fun d v B3 H3 kd s3 po r3 => by
      have s := (s1.trans E1.pot s2).trans E2.pot s3
      exact q d v B3 H3 kd s (E.step s po) r3
theorem wf_op {r : R2} {f : D → D → (List D → Prop) → Prop} (o : OpF R r f) (ha : WO R ta ea) (hb : WO R tb eb) : WF R (tOp r ta tb) (eOpF f ea eb) := fun P env σ B H Q k E he q =>
  ha P env σ B H _ _ E he fun a x B1 H1 k1 s1 E1 r1 => hb P env σ B1 H1 _ _ E1 k1 fun b y B2 H2 k2 s2 E2 r2 =>
    o P B2 H2 x y a b Q k E2.bh E2.pot (r1.step s2) r2 k2 fun l p vs B3 H3 kd s3 po hp hb hh r3 => by
      have s12 := s1.trans E1.pot s2
      have s := s12.trans E2.pot s3
      exact q l p vs B3 H3 kd s (E.step s po) (fresh_backP s12.hh (fresh_pot E2.pot hp) hp) hb hh r3
theorem we_un {r : V → Hp → VK → Prop} {f : D → DK → Prop} (o : UnD R r f) (ha : WO R ta ea) : WE R (tUn r ta) (eUn f ea) := fun P env σ B H Q k E he q =>
  ha P env σ B H _ _ E he fun a x B1 H1 k1 s1 E1 r1 => o P B1 H1 x a Q k E1.bh E1.pot r1 k1 fun d v B3 H3 kd s3 po r3 => by
      have s := s1.trans E1.pot s3
      exact q d v B3 H3 kd s (E.step s po) r3
theorem wf_un {r : V → Hp → VK → Prop} {f : D → (List D → Prop) → Prop} (o : UnF R r f) (ha : WO R ta ea) : WF R (tUn r ta) (eUnF f ea) := fun P env σ B H Q k E he q =>
  ha P env σ B H _ _ E he fun a x B1 H1 k1 s1 E1 r1 => o P B1 H1 x a Q k E1.bh E1.pot r1 k1 fun l p vs B3 H3 kd s3 po hp hb hh r3 => by
      have s := s1.trans E1.pot s3
      exact q l p vs B3 H3 kd s (E.step s po) (fresh_backP s1.hh (fresh_pot E1.pot hp) hp) hb hh r3
/-- a builtin of one value, of two -/
theorem we_cb1 {r : List V → Hp → VK → Prop} {f : D → DK → Prop} (o : UnD R (fun x => r [x]) f) (ha : WO R ta ea) : WE R (tCB r (tCons ta tNil)) (eUn f ea) := fun P env σ B H Q k E he q => we_un o ha P env σ B H Q k E he q
theorem wf_cb1 {r : List V → Hp → VK → Prop} {f : D → (List D → Prop) → Prop} (o : UnF R (fun x => r [x]) f) (ha : WO R ta ea) : WF R (tCB r (tCons ta tNil)) (eUnF f ea) := fun P env σ B H Q k E he q => wf_un o ha P env σ B H Q k E he q
theorem we_cb2 {r : List V → Hp → VK → Prop} {f : D → D → DK → Prop} (o : OpD R (fun x y => r [x, y]) f) (ha : WO R ta ea) (hb : WO R tb eb) : WE R (tCB r (tCons ta (tCons tb tNil))) (eOp f ea eb) := fun P env σ B H Q k E he q => we_op o ha hb P env σ B H Q k E he q
/-! ### tests, and, or, not, if -/
def eB (ea : EE) : EB := fun env k => ea env fun d => match d with
  | .bl b => k b
  | _ => False
theorem wt_B (ha : WE R ta ea) : WT R (tB ta) (eB ea) := fun P env σ B H Q k E he q =>
  ha P env σ B H _ _ E he fun d v B' H' kd s E' r => by
    cases d with
    | bl b =>
      simp only [Rp] at r
      subst r
      exact ⟨b, rfl, q b B' H' kd s E'⟩
    | _ => exact kd.elim
theorem wt_test (ha : WE R ta ea) : WT R (tTest ta) (eB ea) := fun P env σ B H Q k E he q => wt_B ha P env σ B H Q k E he q
def eNotT (e : EB) : EB := fun env k => e env fun b => k (!b)
def eAndT (e f : EB) : EB := fun env k => e env fun b => if b = true then f env k else k false
def eOrT (e f : EB) : EB := fun env k => e env fun b => if b = true then k true else f env k
theorem wt_not {t : TT} {e : EB} (h : WT R t e) : WT R (tNot t) (eNotT e) := fun P env σ B H Q k E he q => h P env σ B H _ _ E he fun b B' H' kb s E' => q _ B' H' kb s E'
theorem wt_and {t u : TT} {e f : EB} (h : WT R t e) (g : WT R u f) : WT R (tAnd t u) (eAndT e f) := fun P env σ B H Q k E he q => h P env σ B H _ _ E he fun b B' H' kb s E' => by
  cases b with
  | true =>
    show u σ H' Q
    exact g P env σ B' H' _ _ E' kb fun c B2 H2 kc s2 E2 => q c B2 H2 kc (s.trans E'.pot s2) E2
  | false =>
    show Q false H'
    exact q false B' H' kb s E'
theorem wt_or {t u : TT} {e f : EB} (h : WT R t e) (g : WT R u f) : WT R (tOr t u) (eOrT e f) := fun P env σ B H Q k E he q => h P env σ B H _ _ E he fun b B' H' kb s E' => by
  cases b with
  | true =>
    show Q true H'
    exact q true B' H' kb s E'
  | false =>
    show u σ H' Q
    exact g P env σ B' H' _ _ E' kb fun c B2 H2 kc s2 E2 => q c B2 H2 kc (s.trans E'.pot s2) E2
def eAnd (e : EE) (f : EE) : EE := fun env k => eB e env fun b => if b = true then f env k else k (.bl false)
def eOr (e : EE) (f : EE) : EE := fun env k => eB e env fun b => if b = true then k (.bl true) else f env k
def eNot (e : EE) : EE := fun env k => eB e env fun b => k (.bl (!b))
theorem we_and (h : WE R ta ea) (g : WE R tb eb) : WE R (tAndV ta tb) (eAnd ea eb) := fun P env σ B H Q k E he q => wt_B h P env σ B H _ _ E he fun b B' H' kb s E' => by
  cases b with
  | true =>
    show tb σ H' Q
    exact g P env σ B' H' _ _ E' kb fun d v B2 H2 kc s2 E2 r => q d v B2 H2 kc (s.trans E'.pot s2) E2 r
  | false =>
    show Q (.bl false) H'
    exact q _ _ B' H' kb s E' rp_bl
theorem we_or (h : WE R ta ea) (g : WE R tb eb) : WE R (tOrV ta tb) (eOr ea eb) := fun P env σ B H Q k E he q => wt_B h P env σ B H _ _ E he fun b B' H' kb s E' => by
  cases b with
  | true =>
    show Q (.bl true) H'
    exact q _ _ B' H' kb s E' rp_bl
  | false =>
    show tb σ H' Q
    exact g P env σ B' H' _ _ E' kb fun d v B2 H2 kc s2 E2 r => q d v B2 H2 kc (s.trans E'.pot s2) E2 r
theorem we_not (h : WE R ta ea) : WE R (tNotV ta) (eNot ea) := fun P env σ B H Q k E he q => wt_B h P env σ B H _ _ E he fun b B' H' kb s E' => q _ _ B' H' kb s E' rp_bl
def eIf (e : EB) (f g : EE) : EE := fun env k => e env fun b => if b = true then f env k else g env k
theorem we_if {t : TT} {e : EB} (h : WT R t e) (f : WE R ta ea) (g : WE R tb eb) : WE R (tIf t ta tb) (eIf e ea eb) := fun P env σ B H Q k E he q => h P env σ B H _ _ E he fun b B' H' kb s E' => by
  cases b with
  | true =>
    show ta σ H' Q
    exact f P env σ B' H' _ _ E' kb fun d v B2 H2 kc s2 E2 r => q d v B2 H2 kc (s.trans E'.pot s2) E2 r
  | false =>
    show tb σ H' Q
    exact g P env σ B' H' _ _ E' kb fun d v B2 H2 kc s2 E2 r => q d v B2 H2 kc (s.trans E'.pot s2) E2 r
/-! ### arguments, displays -/
def eaNil : EL := fun _ k => k []
def eaCons (e : EE) (ea : EL) : EL := fun env k => e env fun d => ea env fun ds => k (d :: ds)
theorem wa_nil : WA R tNil eaNil := fun P env σ B H Q k E he q => q [] [] B H he (.refl E.bh) E .nil
theorem wa_cons {tr : TA} {er : EL} (h : WE R ta ea) (g : WA R tr er) : WA R (tCons ta tr) (eaCons ea er) := fun P env σ B H Q k E he q =>
  h P env σ B H _ _ E he fun d v B1 H1 k1 s1 E1 r1 => g P env σ B1 H1 _ _ E1 k1 fun ds vs B2 H2 k2 s2 E2 r2 => q _ _ B2 H2 k2 (s1.trans E1.pot s2) E2 (.cons (r1.mono s2.bb d) r2)
def eTup (ea : EL) : EE := fun env k => ea env fun ds => ds.length ≤ 100000 ∧ k (.tup ds)
def eLst (ea : EL) : EL := fun env k => ea env fun ds => ds.length ≤ 100000 ∧ k ds
theorem we_tup {ts : TA} {es : EL} (h : WA R ts es) : WE R (tTup ts) (eTup es) := fun P env σ B H Q k E he q =>
  h P env σ B H _ _ E he fun ds vs B1 H1 k1 s1 E1 r1 => ⟨by rw [r1.len]; exact Evl.sz_of k1.1, fun p hp => by
    obtain ⟨s2, E2⟩ := E1.alloc (o := .tup vs) hp
    exact q _ _ _ _ k1.2 (s1.trans E1.pot s2) E2 (rp_tup upd_same (r1.mono s2.bb ds))⟩
theorem wf_lst {ts : TA} {es : EL} (h : WA R ts es) : WF R (tLst ts) (eLst es) := fun P env σ B H Q k E he q =>
  h P env σ B H _ _ E he fun ds vs B1 H1 k1 s1 E1 r1 => ⟨by rw [r1.len]; exact Evl.sz_of k1.1, fun p hp => by
    obtain ⟨s2, E2⟩ := E1.allocU (o := .lst vs) hp
    exact q ds p vs B1 _ k1.2 (s1.trans E1.pot s2) E2 (fresh_backP s1.hh (fresh_pot E1.pot hp) hp) (Evl.fresh_back E1.bh hp) upd_same r1⟩
/-! ### slices -/
def SlD (R : OR) (r : V → Option Int → Option Int → Hp → VK → Prop) (f : D → Option Int → Option Int → DK → Prop) : Prop := ∀ P B H x a lo hi (Q : VK) k, Ex B H → PotOk P H → RpW R P B H x a → f a lo hi k → (∀ d v B' H', k d → Step P B H B' H' → PotOk P H' → Rp R B' v d → Q v H') → r x lo hi H Q
def SlF (R : OR) (r : V → Option Int → Option Int → Hp → VK → Prop) (f : D → Option Int → Option Int → (List D → Prop) → Prop) : Prop := ∀ P B H x a lo hi (Q : VK) k, Ex B H → PotOk P H → RpW R P B H x a → f a lo hi k → (∀ l p vs B' H', k l → Step P B H B' H' → PotOk P H' → H p = none → B' p = none → H' p = some (.lst vs) → RpA R B' vs l → Q (.ref p) H') → r x lo hi H Q
def eNoP : EO := fun _ k => k none
def eP (e : EE) : EO := fun env k => e env fun d => match d with
  | .int i => k (some i)
  | _ => False
theorem wp_none : WP R tNoPart eNoP := fun P env σ B H Q k E he q => q _ B H he (.refl E.bh) E
theorem wp_some (h : WE R ta ea) : WP R (tPart ta) (eP ea) := fun P env σ B H Q k E he q => h P env σ B H _ _ E he fun d v B' H' kd s E' r => by
  cases d with
  | int i =>
    simp only [Rp] at r
    subst r
    exact ⟨i, rfl, q _ B' H' kd s E'⟩
  | _ => exact kd.elim
def eSl (f : D → Option Int → Option Int → DK → Prop) (e : EE) (l h : EO) : EE := fun env k => e env fun a => l env fun x => h env fun y => f a x y k
def eSlF (f : D → Option Int → Option Int → (List D → Prop) → Prop) (e : EE) (l h : EO) : EL := fun env k => e env fun a => l env fun x => h env fun y => f a x y k
theorem we_sl {r : V → Option Int → Option Int → Hp → VK → Prop} {f : D → Option Int → Option Int → DK → Prop} {tl th : TO} {el eh : EO} (o : SlD R r f) (h : WO R ta ea) (h1 : WP R tl el) (h2 : WP R th eh) : WE R (tSl r ta tl th) (eSl f ea el eh) := fun P env σ B H Q k E he q =>
  h P env σ B H _ _ E he fun a x B1 H1 k1 s1 E1 r1 => h1 P env σ B1 H1 _ _ E1 k1 fun lo B2 H2 k2 s2 E2 => h2 P env σ B2 H2 _ _ E2 k2 fun hi B3 H3 k3 s3 E3 =>
    o P B3 H3 x a lo hi Q k E3.bh E3.pot ((r1.step s2).step s3) k3 fun d v B4 H4 k4 s4 po r4 => by
      have s := ((s1.trans E1.pot s2).trans E2.pot s3).trans E3.pot s4
      exact q d v B4 H4 k4 s (E.step s po) r4
theorem wf_sl {r : V → Option Int → Option Int → Hp → VK → Prop} {f : D → Option Int → Option Int → (List D → Prop) → Prop} {tl th : TO} {el eh : EO} (o : SlF R r f) (h : WO R ta ea) (h1 : WP R tl el) (h2 : WP R th eh) : WF R (tSl r ta tl th) (eSlF f ea el eh) := fun P env σ B H Q k E he q =>
  h P env σ B H _ _ E he fun a x B1 H1 k1 s1 E1 r1 => h1 P env σ B1 H1 _ _ E1 k1 fun lo B2 H2 k2 s2 E2 => h2 P env σ B2 H2 _ _ E2 k2 fun hi B3 H3 k3 s3 E3 =>
    o P B3 H3 x a lo hi Q k E3.bh E3.pot ((r1.step s2).step s3) k3 fun l p vs B4 H4 k4 s4 po hp hb hh r4 => by
      have s3' := (s1.trans E1.pot s2).trans E2.pot s3
      have s := s3'.trans E3.pot s4
      exact q l p vs B4 H4 k4 s (E.step s po) (fresh_backP s3'.hh (fresh_pot E3.pot hp) hp) hb hh r4
/-! ### a < b < c -/
def eChain (f g : D → D → DK → Prop) (ea eb ec : EE) : EE := fun env k => ea env fun a => eb env fun b => f a b fun z => match z with
  | .bl c => if c = true then ec env fun d => g b d k else k (.bl false)
  | _ => False
theorem we_chain {r r' : R2} {f g : D → D → DK → Prop} (o : OpD R r f) (o' : OpD R r' g) (ha : WO R ta ea) (hb : WO R tb eb) (hc : WO R tc ec) : WE R (tChain r r' ta tb tc) (eChain f g ea eb ec) := fun P env σ B H Q k E he q =>
  ha P env σ B H _ _ E he fun a x B1 H1 k1 s1 E1 r1 => hb P env σ B1 H1 _ _ E1 k1 fun b y B2 H2 k2 s2 E2 r2 =>
    o P B2 H2 x y a b _ _ E2.bh E2.pot (r1.step s2) r2 k2 fun z v B3 H3 k3 s3 po r3 => by
      have s := (s1.trans E1.pot s2).trans E2.pot s3
      have E3 := E.step s po
      cases z with
      | bl c =>
        simp only [Rp] at r3
        refine ⟨c, r3, ?_⟩
        cases c with
        | true =>
          show tc σ H3 _
          exact hc P env σ B3 H3 _ _ E3 k3 fun d w B4 H4 k4 s4 E4 r4 => o' P B4 H4 y w b d Q k E4.bh E4.pot ((r2.step s3).step s4) r4 k4 fun u v B5 H5 k5 s5 po5 r5 => by
            have ss := (s.trans po s4).trans E4.pot s5
            exact q u v B5 H5 k5 ss (E.step ss po5) r5
        | false =>
          show Q (.bl false) H3
          exact q _ _ B3 H3 k3 s E3 rp_bl
      | _ => exact k3.elim
end
end DL
set_option Elab.async false
set_option linter.all false
set_option maxRecDepth 100000
set_option maxHeartbeats 4000000
/-! targets, sources, comprehensions, statements, defs, told of data -/
namespace DL
open PySem PySem.Spec PyProof.Rows L2
open Evl (Ex)
abbrev EG := D → Env → (Env → Prop) → Prop
abbrev EGs := List D → Env → (Env → Prop) → Prop
def wipeE (env : Env) : List Nat → Env
  | [] => env
  | v :: vs => (wipeE env vs).set v .un
section
variable {R : OR} {P : Option Addr} {env : Env} {σ : L2.St} {B H B' H' B2 H2 : Hp}
theorem EnvOk.set (E : EnvOk R P env σ B H) (i : Nat) {v : V} {d : D} (r : Rp R B v d) : EnvOk R P (env.set i (.val d)) (σ.set i (some v)) B H where
  len := by rw [List.length_set, List.length_set]; exact E.len
  bh := E.bh
  pot := E.pot
  pb := E.pb
  sl := fun j sv h => by
    by_cases e : i = j
    · subst e
      have hi : i < env.length := by
        have := (List.getElem?_eq_some_iff.mp h).1
        simpa using this
      rw [List.getElem?_set_self hi] at h
      cases h
      exact ⟨v, by rw [List.getElem?_set_self (by rw [E.len]; exact hi)], r⟩
    · rw [List.getElem?_set_ne e] at h
      have z := E.sl j sv h
      have q : (σ.set i (some v))[j]? = σ[j]? := List.getElem?_set_ne e
      cases sv <;> simp only [SlotOk, q] at z ⊢ <;> exact z
  nd := fun a b x y p ha hb mx my sa sb => by
    have ne : ∀ j x, (env.set i (.val d))[j]? = some x → isM x = true → i ≠ j := fun j x h m e => by
      subst e
      have hi : i < env.length := by
        have := (List.getElem?_eq_some_iff.mp h).1
        simpa using this
      rw [List.getElem?_set_self hi] at h
      cases h
      cases m
    have na := ne a x ha mx
    have nb := ne b y hb my
    rw [List.getElem?_set_ne na] at ha sa
    rw [List.getElem?_set_ne nb] at hb sb
    exact E.nd a b x y p ha hb mx my sa sb
theorem EnvOk.forget (E : EnvOk R P env σ B H) (i : Nat) : EnvOk R P (env.set i .un) σ B H where
  len := by rw [List.length_set]; exact E.len
  bh := E.bh
  pot := E.pot
  pb := E.pb
  sl := fun j sv h => by
    by_cases e : i = j
    · subst e
      have hi : i < env.length := by
        have := (List.getElem?_eq_some_iff.mp h).1
        simpa using this
      rw [List.getElem?_set_self hi] at h
      cases h
      trivial
    · rw [List.getElem?_set_ne e] at h
      exact E.sl j sv h
  nd := fun a b x y p ha hb mx my sa sb => by
    have ne : ∀ j x, (env.set i .un)[j]? = some x → isM x = true → i ≠ j := fun j x h m e => by
      subst e
      have hi : i < env.length := by
        have := (List.getElem?_eq_some_iff.mp h).1
        simpa using this
      rw [List.getElem?_set_self hi] at h
      cases h
      cases m
    have na := ne a x ha mx
    have nb := ne b y hb my
    rw [List.getElem?_set_ne na] at ha
    rw [List.getElem?_set_ne nb] at hb
    exact E.nd a b x y p ha hb mx my sa sb
theorem EnvOk.setU (E : EnvOk R P env σ B H) (i : Nat) (o : Option V) : EnvOk R P (env.set i .un) (σ.set i o) B H where
  len := by rw [List.length_set, List.length_set]; exact E.len
  bh := E.bh
  pot := E.pot
  pb := E.pb
  sl := fun j sv h => by
    by_cases e : i = j
    · subst e
      have hi : i < env.length := by
        have := (List.getElem?_eq_some_iff.mp h).1
        simpa using this
      rw [List.getElem?_set_self hi] at h
      cases h
      trivial
    · rw [List.getElem?_set_ne e] at h
      have z := E.sl j sv h
      have q : (σ.set i o)[j]? = σ[j]? := List.getElem?_set_ne e
      cases sv <;> simp only [SlotOk, q] at z ⊢ <;> exact z
  nd := fun a b x y p ha hb mx my sa sb => by
    have ne : ∀ j x, (env.set i .un)[j]? = some x → isM x = true → i ≠ j := fun j x h m e => by
      subst e
      have hi : i < env.length := by
        have := (List.getElem?_eq_some_iff.mp h).1
        simpa using this
      rw [List.getElem?_set_self hi] at h
      cases h
      cases m
    have na := ne a x ha mx
    have nb := ne b y hb my
    rw [List.getElem?_set_ne na] at ha sa
    rw [List.getElem?_set_ne nb] at hb sb
    exact E.nd a b x y p ha hb mx my sa sb
theorem EnvOk.wipe (E : EnvOk R P env σ B H) : ∀ vs : List Nat, EnvOk R P (wipeE env vs) (wipe σ vs) B H
  | [] => E
  | v :: vs => (E.wipe vs).setU v none
end
theorem wipe_set {σ : L2.St} {i : Nat} {o : Option V} : ∀ {vs : List Nat}, i ∈ vs → L2.wipe (σ.set i o) vs = L2.wipe σ vs
  | v :: vs, h => by
    by_cases e : i = v
    · subst e
      by_cases m : i ∈ vs
      · show (L2.wipe (σ.set i o) vs).set i none = (L2.wipe σ vs).set i none
        rw [wipe_set m]
      · have : ∀ us : List Nat, i ∉ us → L2.wipe (σ.set i o) us = (L2.wipe σ us).set i o := by
          intro us
          induction us with
          | nil => intro _; rfl
          | cons u us ih =>
            intro hm
            show (L2.wipe (σ.set i o) us).set u none = ((L2.wipe σ us).set u none).set i o
            rw [ih (fun z => hm (List.mem_cons_of_mem _ z))]
            exact List.set_comm _ _ (fun z => hm (z ▸ List.mem_cons_self))
        show (L2.wipe (σ.set i o) vs).set i none = (L2.wipe σ vs).set i none
        rw [this vs m, List.set_set]
    · have m : i ∈ vs := (List.mem_cons.mp h).resolve_left e
      show (L2.wipe (σ.set i o) vs).set v none = (L2.wipe σ vs).set v none
      rw [wipe_set m]
/-! ### targets -/
def WG (R : OR) (ts : List Nat) (g : TG) (eg : EG) : Prop := ∀ P env σ B H v d (Q : L2.St → Hp → Prop) k, EnvOk R P env σ B H → Rp R B v d → eg d env k → (∀ env' σ', k env' → EnvOk R P env' σ' B H → (∀ vs, (∀ i ∈ ts, i ∈ vs) → L2.wipe σ' vs = L2.wipe σ vs) → (∀ j, j ∉ ts → env'[j]? = env[j]? ∧ σ'[j]? = σ[j]?) → (∀ j ∈ ts, ∀ x, env'[j]? = some x → isM x = false) → Q σ' H) → g v σ H Q
def WGs (R : OR) (ts : List Nat) (g : TGs) (eg : EGs) : Prop := ∀ P env σ B H vs ds (Q : L2.St → Hp → Prop) k, EnvOk R P env σ B H → RpA R B vs ds → eg ds env k → (∀ env' σ', k env' → EnvOk R P env' σ' B H → (∀ us, (∀ i ∈ ts, i ∈ us) → L2.wipe σ' us = L2.wipe σ us) → (∀ j, j ∉ ts → env'[j]? = env[j]? ∧ σ'[j]? = σ[j]?) → (∀ j ∈ ts, ∀ x, env'[j]? = some x → isM x = false) → Q σ' H) → g vs σ H Q
def egName (i : Nat) : EG := fun d env k => k (env.set i (.val d))
def egNil : EGs := fun ds env k => ds = [] ∧ k env
def egCons (g : EG) (gs : EGs) : EGs := fun ds env k => match ds with
  | d :: ds => g d env fun env1 => gs ds env1 k
  | [] => False
def egTup (n : Nat) (gs : EGs) : EG := fun d env k => match d with
  | .tup ds => ds.length = n ∧ gs ds env k
  | _ => False
def egLst (n : Nat) (gs : EGs) : EG := fun d env k => match d with
  | .lst ds => ds.length = n ∧ gs ds env k
  | _ => False
section
variable {R : OR} {K : PySem.W.Frag}
theorem wg_name {i : Nat} : WG R [i] (gName i) (egName i) := fun P env σ B H v d Q k E r he q =>
  q _ _ he (E.set i r) (fun vs h => wipe_set (h i (by simp))) (fun j hj => ⟨List.getElem?_set_ne (by simpa using Ne.symm (by simpa using hj)), List.getElem?_set_ne (by simpa using Ne.symm (by simpa using hj))⟩) (fun j hj x hx => by
    have e : j = i := by simpa using hj
    subst e
    have hi : j < env.length := by
      have := (List.getElem?_eq_some_iff.mp hx).1
      simpa using this
    rw [List.getElem?_set_self hi] at hx
    cases hx
    rfl)
theorem wgs_nil : WGs R [] gNil egNil := fun P env σ B H vs ds Q k E r he q => by
  obtain ⟨rfl, he⟩ := he
  cases vs with
  | nil => exact ⟨rfl, q env σ he E (fun _ _ => rfl) (fun _ _ => ⟨rfl, rfl⟩) (fun j hj => by simp at hj)⟩
  | cons v vs => simp only [RpA] at r
theorem wgs_cons {ts us : List Nat} {g : TG} {eg : EG} {gs : TGs} {egs : EGs} (h : WG R ts g eg) (h2 : WGs R us gs egs) : WGs R (ts ++ us) (gCons g gs) (egCons eg egs) := fun P env σ B H vs ds Q k E r he q => by
  cases ds with
  | nil => exact he.elim
  | cons d ds =>
    cases vs with
    | nil => simp only [RpA] at r
    | cons v vs =>
      simp only [RpA] at r
      refine ⟨v, vs, rfl, h P env σ B H v d _ _ E r.1 he fun env1 σ1 k1 E1 w1 s1 m1 => h2 P env1 σ1 B H vs ds _ _ E1 r.2 k1 fun env2 σ2 k2 E2 w2 s2 m2 => ?_⟩
      refine q _ _ k2 E2 (fun vs hv => (w2 vs fun i hi => hv i (List.mem_append_right _ hi)).trans (w1 vs fun i hi => hv i (List.mem_append_left _ hi))) (fun j hj => ?_) (fun j hj x hx => ?_)
      · have n1 : j ∉ ts := fun z => hj (List.mem_append_left _ z)
        have n2 : j ∉ us := fun z => hj (List.mem_append_right _ z)
        exact ⟨(s2 j n2).1.trans (s1 j n1).1, (s2 j n2).2.trans (s1 j n1).2⟩
      · by_cases n : j ∈ us
        · exact m2 j n x hx
        · rw [(s2 j n).1] at hx
          exact m1 j ((List.mem_append.mp hj).resolve_right n) x hx
theorem wg_tup {n : Nat} {ts : List Nat} {gs : TGs} {egs : EGs} (h : WGs R ts gs egs) : WG R ts (gTup K n gs) (egTup n egs) := fun P env σ B H v d Q k E r he q => by
  cases d with
  | tup ds =>
    simp only [Rp] at r
    obtain ⟨p, vs, rfl, hp, a⟩ := r
    exact ⟨p, vs, rfl, Evl.st_of (E.bh _ _ hp), by rw [a.len]; exact he.1, h P env σ B H vs ds Q k E a he.2 q⟩
  | _ => exact he.elim
theorem wg_lst {n : Nat} {ts : List Nat} {gs : TGs} {egs : EGs} (h : WGs R ts gs egs) : WG R ts (gUnl K n gs) (egLst n egs) := fun P env σ B H v d Q k E r he q => by
  cases d with
  | lst ds =>
    simp only [Rp] at r
    obtain ⟨p, vs, rfl, hp, a⟩ := r
    exact ⟨p, vs, rfl, Evl.sq_of (E.bh _ _ hp), by rw [a.len]; exact he.1, h P env σ B H vs ds Q k E a he.2 q⟩
  | _ => exact he.elim
end
/-! ### sources -/
def YD (R : OR) (B : Hp) (xs : List D) : Nat → Hp → V → Hp → Prop := fun i H v H' => ∃ d, xs[i]? = some d ∧ ((H' = H ∧ Rp R B v d) ∨ ∃ T vs ds, v = .ref T ∧ H T = none ∧ H' = upd H T (.tup vs) ∧ d = .tup ds ∧ RpA R B vs ds)
def WI (R : OR) (wi : TI) (ei : EL) : Prop := ∀ P env σ B H (Rk : It → Hp → Prop) k, EnvOk R P env σ B H → ei env k → (∀ xs J n (G : Hp → Prop) B' H', k xs → Step P B H B' H' → EnvOk R P env σ B' H' → xs.length = n → (∀ Hx, Ex B' Hx → G Hx) → Walk J n G (YD R B' xs) → Rk J H') → wi σ H Rk
def eList (e : EE) : EL := fun env k => e env fun d => match d with
  | .lst l => k l
  | _ => False
def eTupI (e : EE) : EL := fun env k => e env fun d => match d with
  | .tup l => k l
  | _ => False
def eSeq (e : EE) : EL := fun env k => e env fun d => match d with
  | .lst l => k l
  | .tup l => k l
  | _ => False
section
variable {R : OR} {K : PySem.W.Frag} {te ta tb : TE} {ee ea eb : EE}
theorem wi_list (h : WE R te ee) : WI R (iList K te) (eList ee) := fun P env σ B H Rk k E he q =>
  h P env σ B H _ _ E he fun d v B' H' kd s E' r => by
    cases d with
    | lst l =>
      simp only [Rp] at r
      obtain ⟨p, vs, rfl, hp, a⟩ := r
      refine ⟨p, rfl, ⟨vs, Evl.sq_of (E'.bh _ _ hp)⟩, q l _ _ (fun H => SqL K H p vs) B' H' kd s E' rfl (fun Hx e => Evl.sq_of (e _ _ hp)) ?_⟩
      rw [← a.len]
      exact walk_list.mono (fun _ h => h) fun i H x H' _ _ y => by
        obtain ⟨d, hd, rd⟩ := a.getV y.2
        exact ⟨d, hd, .inl ⟨y.1, rd⟩⟩
    | _ => exact kd.elim
theorem wi_tup (h : WE R te ee) : WI R (iTup K te) (eTupI ee) := fun P env σ B H Rk k E he q =>
  h P env σ B H _ _ E he fun d v B' H' kd s E' r => by
    cases d with
    | tup l =>
      simp only [Rp] at r
      obtain ⟨p, vs, rfl, hp, a⟩ := r
      refine ⟨p, rfl, ⟨vs, Evl.st_of (E'.bh _ _ hp)⟩, q l _ _ (fun H => SqT K H p vs) B' H' kd s E' rfl (fun Hx e => Evl.st_of (e _ _ hp)) ?_⟩
      rw [← a.len]
      exact walk_tup.mono (fun _ h => h) fun i H x H' _ _ y => by
        obtain ⟨d, hd, rd⟩ := a.getV y.2
        exact ⟨d, hd, .inl ⟨y.1, rd⟩⟩
    | _ => exact kd.elim
end
end DL
set_option Elab.async false
set_option linter.all false
set_option maxRecDepth 100000
set_option maxHeartbeats 4000000
/-! zip of two things that are lists or tuples, each as it is (by the library's zip over iterators of any kind) -/
namespace ZM
open PySem PySem.Spec PyProof.Rows L2
/-- t: a tuple -/
def SqK (t : Bool) (K : PySem.W.Frag) (H : Hp) (a : Addr) (xs : List V) : Prop := match t with
  | true => SqT K H a xs
  | false => SqL K H a xs
def IsQ (t : Bool) (h : Heap) (l : Addr) (items : Array Value) : Prop := match t with
  | true => h.IsTuple l items
  | false => h.IsList l items
def ItQ (t : Bool) (h : Heap) (it l : Addr) (i : Nat) : Prop := match t with
  | true => h.IsTupleIter it l i
  | false => h.IsListIter it l i
theorem ItQ.at {t : Bool} {h h' : Heap} {it l : Addr} {i : Nat} (x : ItQ t h it l i) (e : ∀ o, h.get? it = some o → h'.get? it = some o) : ItQ t h' it l i := by
  cases t with
  | true => exact Heap.IsTupleIter.at x e
  | false => exact Heap.IsListIter.at x e
theorem IsQ.at {t : Bool} {h h' : Heap} {l : Addr} {items : Array Value} (x : IsQ t h l items) (e : ∀ o, h.get? l = some o → h'.get? l = some o) : IsQ t h' l items := by
  cases t with
  | true => exact Heap.IsTuple.at x e
  | false => exact Heap.IsList.at x e
theorem ItQ.obj {t : Bool} {h : Heap} {it l : Addr} {i : Nat} (x : ItQ t h it l i) : ∃ o vs, h.get? it = some o ∧ o.data = .fields vs := by
  cases t with
  | true => obtain ⟨o, a, _, d⟩ := x; exact ⟨o, _, a, d⟩
  | false => obtain ⟨o, a, _, d⟩ := x; exact ⟨o, _, a, d⟩
theorem drawsQ {prog : Program} {w : World} {A : Around} (t : Bool) (hh : A.handled = none) (it l : Addr) (hne : l ≠ it) (items : Array Value) :
    Draws prog w A it [it, l] items.size (fun i v => items[i]? = some v) (fun i h => ItQ t h it l i ∧ IsQ t h l items) := by
  cases t with
  | true => exact Draws.tuple hh it l hne items
  | false => exact Draws.list hh it l hne items
def begO (t : Bool) (l : Addr) : Obj := match t with
  | true => { cls := .type "tuple_iterator", data := .fields #[.ref l, .int 0 0] }
  | false => { cls := .type "list_iterator", data := .fields #[.ref l, .int 0 0] }
theorem beginsQ (t : Bool) (l : Addr) (items : Array Value) : Begins (.ref l) (begO t l) fun h => IsQ t h l items := by
  cases t with
  | true => exact begins_tuple l items
  | false => exact begins_list l items
theorem beg_it {t : Bool} {h : Heap} {it l : Addr} (e : h.get? it = some (begO t l)) : ItQ t h it l 0 := by
  cases t with
  | true => exact ⟨_, e, rfl, rfl⟩
  | false => exact ⟨_, e, rfl, rfl⟩
theorem invQ {X : Cx} {pins : List (Addr × Obj)} {σ : L2.St} {H : Hp} {s : Shared} (I : Inv X pins σ H s) {t : Bool} {a : Addr} {xs : List V} (h : SqK t X.K H a xs) : ∃ its, Vals xs its ∧ IsQ t s.heap a its.toArray ∧ a < s.heap.objs.size := by
  cases t with
  | true =>
    obtain ⟨its, rv, p, _⟩ := I.tuple h
    obtain ⟨o, ho, _⟩ := id p
    exact ⟨its, rv, p, Heap.lt_size ho⟩
  | false =>
    obtain ⟨its, rv, p, _⟩ := I.list h
    exact ⟨its, rv, p.isList, p.lt⟩
theorem injQ {X : Cx} {pins : List (Addr × Obj)} {σ : L2.St} {H : Hp} {s : Shared} (I : Inv X pins σ H s) {t : Bool} {a : Addr} {xs ys : List V} (h : SqK t X.K H a xs) (g : SqK t X.K H a ys) : xs = ys := by
  cases t with
  | true => exact I.tuple_inj h g
  | false => exact I.list_inj h g
/-- what stands at a and b, the items in new pairs -/
def ItzM (K : PySem.W.Frag) (t u : Bool) (a b : Addr) (m n : Nat) : It :=
  ⟨fun i H => ∃ (xs ys : List V) (x y : V), SqK t K H a xs ∧ SqK u K H b ys ∧ xs[i]? = some x ∧ ys[i]? = some y,
    fun i H v H' => ∃ T x y, v = .ref T ∧ H T = none ∧ H' = upd H T (.tup [x, y]) ∧ (∀ xs, SqK t K H a xs → xs[i]? = some x) ∧ ∀ ys, SqK u K H b ys → ys[i]? = some y,
    fun i H => ∃ xs ys : List V, SqK t K H a xs ∧ SqK u K H b ys ∧ i ≤ xs.length ∧ i ≤ ys.length ∧ (i = xs.length ∨ i = ys.length)⟩
theorem nn {x y : Nat} (h : x < y ∨ y < x) : (x : Addr) ≠ y := fun e => by
  have e : x = y := e
  omega
theorem nm {x a b : Nat} (h1 : x < a ∨ a < x) (h2 : x < b ∨ b < x) : (x : Addr) ∉ ([a, b] : List Addr) := fun h => by
  rcases List.mem_cons.mp h with e | e
  · exact nn h1 e
  · exact nn h2 (List.mem_singleton.mp e)
theorem sepQ {n a b : Nat} (la : a < n) (lb : b < n) : ZipSep2 (n + 4) (n + 2) (n + 3) n (n + 1) [n, a] [n + 1, b] where
  TIz := nn (by omega)
  TOz := nn (by omega)
  TITO := nn (by omega)
  TIi1 := nn (by omega)
  mem1 := by simp
  zf1 := nm (by omega) (by omega)
  Tf1 := nm (by omega) (by omega)
  TIi2 := nn (by omega)
  mem2 := by simp
  zf2 := nm (by omega) (by omega)
  Tf2 := nm (by omega) (by omega)
  sep1_2 := nm (by omega) (by omega)
  sep2_1 := nm (by omega) (by omega)
theorem turn_zipM {P : Program} {w : World} {K : PySem.W.Frag} {elts : List Expr} {kk : Nat} {tpos : Pos} {t u : Bool} {a b n : Nat} {l1 l2 : Nat} (la : a < n) (lb : b < n) :
    Turn P w K (.Tuple elts kk tpos) (ItzM K t u a b l1 l2) [n + 4, n + 2, n + 3, n, n + 1] (n + 4) (fun i h => IsZip h (n + 4) (n + 2) (n + 3) .none ∧ IsTupOf2 h (n + 2) (.ref n) (.ref (n + 1)) ∧ (∃ x y, IsTupOf2 h (n + 3) x y) ∧ ItQ t h n a i ∧ ItQ u h (n + 1) b i) where
  mem := by simp
  obj := fun i h st c hc => by
    obtain ⟨hz, hTI, ⟨x, y, hTO⟩, h1, h2⟩ := st
    obtain ⟨o1, _, e1, d1⟩ := h1.obj
    obtain ⟨o2, _, e2, d2⟩ := h2.obj
    have e' : c = n + 4 ∨ c = n + 2 ∨ c = n + 3 ∨ c = n ∨ c = n + 1 := by simpa using hc
    rcases e' with q | q | q | q | q
    · rw [q]; exact ⟨_, hz, fun v q => nomatch q⟩
    · rw [q]; exact ⟨_, hTI, fun v q => nomatch q⟩
    · rw [q]; exact ⟨_, hTO, fun v q => nomatch q⟩
    · rw [q]; exact ⟨o1, e1, fun v q => by rw [d1] at q; cases q⟩
    · rw [q]; exact ⟨o2, e2, fun v q => by rw [d2] at q; cases q⟩
  keep := fun i h h' st k => by
    obtain ⟨hz, hTI, ⟨x, y, hTO⟩, h1, h2⟩ := st
    exact ⟨k (n + 4) (by simp) _ hz, k (n + 2) (by simp) _ hTI, ⟨x, y, k (n + 3) (by simp) _ hTO⟩, h1.at fun o q => k n (by simp) o q, h2.at fun o q => k (n + 1) (by simp) o q⟩
  item := by
    intro X hP hw hK hc i pins s σ H E I hf st hg
    subst hP hw hK
    obtain ⟨hz, hTI, ⟨x0, y0, hTO⟩, h1, h2⟩ := st
    obtain ⟨xs, ys, x, y, hqx, hqy, hx, hy⟩ := hg
    obtain ⟨its, rv, p, _⟩ := invQ I hqx
    obtain ⟨its2, rv2, p2, _⟩ := invQ I hqy
    obtain ⟨v1, hv1, r1⟩ := rv.get hx
    obtain ⟨v2, hv2, r2⟩ := rv2.get hy
    have hzl : n + 4 < s.heap.objs.size := Heap.lt_size hz
    have i1 : i < its.toArray.size := by simpa using (List.getElem?_eq_some_iff.mp hv1).1
    have i2 : i < its2.toArray.size := by simpa using (List.getElem?_eq_some_iff.mp hv2).1
    have hd : X.A.in1.handled = none := I.ok.hd hc
    refine wpAny_pyNext_zipD2_item (sepQ la lb) (drawsQ t hd n a (nn (by omega)) its.toArray) (drawsQ u hd (n + 1) b (nn (by omega)) its2.toArray) hz hTI hTO ⟨h1, p⟩ ⟨h2, p2⟩ i1 i2 fun x1 x2 h' tk e1 e2 z' TO' st1 st2 hT hsz hk => ?_
    have q1 : v1 = x1 := by have : its[i]? = some x1 := by simpa using e1
                            rw [hv1] at this; exact Option.some.inj this
    have q2 : v2 = x2 := by have : its2[i]? = some x2 := by simpa using e2
                            rw [hv2] at this; exact Option.some.inj this
    subst q1 q2
    refine ⟨_, rfl, wpAny_letOwnedTupleGo_zip (s := { s with heap := h', toks := tk }) z' fun h'' z'' sb => ?_⟩
    have hT2 : h''.get? s.heap.objs.size = some { cls := .type "tuple", data := .seq #[v1, v2] } := (sb.2 _ (Nat.ne_of_gt hzl)).trans hT
    have new : ObjOk X.prog X.w (upd H s.heap.objs.size (.tup [x, y])) h'' s.heap.objs.size (.tup [x, y]) :=
      ⟨by show 2 ≤ sizeLine; decide, [v1, v2], .cons r1 (.cons r2 .nil), ⟨_, hT2, rfl, _, rfl⟩⟩
    have I1 : Inv X pins σ (upd H s.heap.objs.size (.tup [x, y])) { s with heap := h'', toks := tk } :=
      I.turnedNew (t' := tk) (ch := [n + 4, n + 2, n + 3, n, n + 1]) (fun c o hb q => (sb.2 c (fun q' => hb (by simp [q']))).trans (hk c o (fun q' => hb (by simp [q'])) (fun q' => hb (by simp [q'])) (fun q' => hb (by simp [q'])) (fun q' => hb (by simp [q'])) q)) hf (Nat.le_refl _) new
    refine ⟨.ref s.heap.objs.size, _, I1, rfl, ⟨_, x, y, rfl, I.hok.fresh (Nat.le_refl _), rfl, fun l hl => by rw [injQ I hl hqx]; exact hx, fun l hl => by rw [injQ I hl hqy]; exact hy⟩, ⟨z'', ?_, ⟨v1, v2, ?_⟩, ?_, ?_⟩, fun c hcm => ?_⟩
    · exact (sb.2 _ (nn (by omega))).trans (hk _ _ (nn (by omega)) (nn (by omega)) (nn (by omega)) (nn (by omega)) hTI)
    · exact (sb.2 _ (nn (by omega))).trans TO'
    · exact st1.1.at fun o q => (sb.2 _ (nn (by omega))).trans q
    · exact st2.1.at fun o q => (sb.2 _ (nn (by omega))).trans q
    · have hlt : c < s.heap.objs.size := by
        have e' : c = n + 4 ∨ c = n + 2 ∨ c = n + 3 ∨ c = n ∨ c = n + 1 := by simpa using hcm
        have hzl : n + 4 < s.heap.objs.size := hzl
        rcases e' with q | q | q | q | q <;> subst q <;> (show (_ : Nat) < _; omega)
      rw [upd_ne (Nat.ne_of_lt hlt)]
      exact (hf c hcm).1
  done := by
    intro X hP hw hK hc i pins s σ H E I hf st hg
    subst hP hw hK
    obtain ⟨hz, hTI, ⟨x0, y0, hTO⟩, h1, h2⟩ := st
    obtain ⟨xs, ys, hqx, hqy, b1, b2, hend⟩ := hg
    obtain ⟨its, rv, p, _⟩ := invQ I hqx
    obtain ⟨its2, rv2, p2, _⟩ := invQ I hqy
    have l1 := rv.length
    have l2 := rv2.length
    have hd : X.A.in1.handled = none := I.ok.hd hc
    exact wpAny_pyNext_zipD2_end (sepQ la lb) (drawsQ t hd n a (nn (by omega)) its.toArray) (drawsQ u hd (n + 1) b (nn (by omega)) its2.toArray) hz hTI hTO ⟨h1, p⟩ ⟨h2, p2⟩ (by simp; omega) (by simp; omega) (by simp; omega) fun h' tk hk => ⟨rfl, I.turnedL (t' := tk) (ch := [n + 4, n + 2, n + 3, n, n + 1]) (fun c o hb q =>
      hk c o (fun q' => hb (by simp [q'])) (fun q' => hb (by simp [q'])) (fun q' => hb (by simp [q'])) (fun q' => hb (by simp [q'])) q) hf⟩
  self := fun A i s Q E st h => wpAny_pyIter_zip st.1 h
def iZipM (K : PySem.W.Frag) (ta : TA) : TI := fun σ H R => ta σ H fun vs H1 => ∃ t u a b xs ys, vs = [.ref a, .ref b] ∧ SqK t K H1 a xs ∧ SqK u K H1 b ys ∧ R (ItzM K t u a b xs.length ys.length) H1
theorem pi_zipM {X : Cx} {e e2 : Expr} {ta : TA} {p pos tpos : Pos} {elts : List Expr} {kk : Nat} (hg : Gl X "zip") (hm : X.mg "zip" = none) (ha : PA X [e, e2] ta)
    (hs : starEach [e, e2] X.env = (false, eval e X.env) :: starEach [e2] X.env := by rfl) (hpl : (backTo pos (starEach [e2] X.env)).any (·.1) = false := by rfl) :
    PI X (.Tuple elts kk tpos) (.Call (.Name "zip" p) [e, e2] [] pos) (iZipM X.K ta) := by
  refine ⟨fun pins s σ H R I h => ?_⟩
  refine Call_ (ld_blt I hg hm PyProof.Rows.boot_zip (PyProof.Rows.callWith_type1 (thn (ha.run pos pins s σ H _ I h) fun us s1 ⟨vs, H1, I1, r1, q1⟩ => ?_) hs hpl))
  obtain ⟨t, u, a, b, xs, ys, ex, hqx, hqy, q⟩ := q1
  subst ex
  cases r1 with
  | cons r rr =>
    cases rr with
    | cons r' rr =>
      cases rr
      cases r
      cases r'
      obtain ⟨its, rv, p1, la⟩ := invQ I1 hqx
      obtain ⟨its2, rv2, p2, lb⟩ := invQ I1 hqy
      refine zip_begins2 (beginsQ t a its.toArray) (beginsQ u b its2.toArray) p1 p2 fun h' hz hTI hTO h1 h2 hsz hk => wpAny_pyIter_zip hz ?_
      have I2 : Inv X pins σ H1 { s1 with heap := h' } := I1.kept (t' := s1.toks) hk
      refine ⟨s1.heap.objs.size + 4, [s1.heap.objs.size + 4, s1.heap.objs.size + 2, s1.heap.objs.size + 3, s1.heap.objs.size, s1.heap.objs.size + 1], _, _, H1, rfl, I2, turn_zipM la lb, ⟨hz, hTI, ⟨_, _, hTO⟩, beg_it h1, beg_it h2⟩, fun c hcm => ?_, q⟩
      have hle : s1.heap.objs.size ≤ c := by
        have e' : c = s1.heap.objs.size + 4 ∨ c = s1.heap.objs.size + 2 ∨ c = s1.heap.objs.size + 3 ∨ c = s1.heap.objs.size ∨ c = s1.heap.objs.size + 1 := by simpa using hcm
        rcases e' with z | z | z | z | z <;> subst z <;> (show (_ : Nat) ≤ _; omega)
      exact I1.fpOk hle (I1.hok.fresh hle)
end ZM
set_option Elab.async false
set_option linter.all false
set_option maxRecDepth 100000
set_option maxHeartbeats 4000000
/-! sources that are lists or tuples; comprehensions -/
namespace DL
open PySem PySem.Spec PyProof.Rows L2
open Evl (Ex)
/-- a list or a tuple, as it turns out -/
def iSeq (K : PySem.W.Frag) (tl : TE) : TI := fun σ H R => tl σ H fun x H1 => ∃ a, x = .ref a ∧ ((∃ xs, SqL K H1 a xs ∧ R (Itl K a) H1) ∨ ∃ xs, SqT K H1 a xs ∧ R (Itt K a) H1)
theorem pi_seqU {X : Cx} {tg l : Expr} {tl : TE} (hl : PE X l tl) : PI X tg l (iSeq X.K tl) := by
  refine ⟨fun pins s σ H R I h => ?_⟩
  refine thn (hl.run pins s σ H _ I h) fun v s1 ⟨x, H1, I1, r1, q1⟩ => ?_
  obtain ⟨a, e, ⟨xs, hq, q⟩ | ⟨xs, hq, q⟩⟩ := q1
  · subst e
    cases r1
    obtain ⟨its, rv, p, hz⟩ := I1.list hq
    refine wpAny_pyIter_list p.isList ?_
    refine ⟨s1.heap.objs.size, [s1.heap.objs.size], _, _, H1, rfl, I1.kept (t' := s1.toks) fun b o e => Heap.get?_push_of_some _ e, turn_list a _, ⟨_, Heap.get?_push_size _ rfl, rfl, rfl⟩, fun b hb => ?_, q⟩
    have e : b = s1.heap.objs.size := by simpa using hb
    subst e
    exact I1.fpOk (Nat.le_refl _) (I1.hok.fresh (Nat.le_refl _))
  · subst e
    cases r1
    obtain ⟨its, rv, p, hz⟩ := I1.tuple hq
    refine wpAny_pyIter_tuple (show s1.heap.IsTuple a its.toArray from p) ?_
    refine ⟨s1.heap.objs.size, [s1.heap.objs.size], _, _, H1, rfl, I1.kept (t' := s1.toks) fun b o e => Heap.get?_push_of_some _ e, turn_tuple a _, ⟨_, Heap.get?_push_size _ rfl, rfl, rfl⟩, fun b hb => ?_, q⟩
    have e : b = s1.heap.objs.size := by simpa using hb
    subst e
    exact I1.fpOk (Nat.le_refl _) (I1.hok.fresh (Nat.le_refl _))
section
variable {R : OR} {K : PySem.W.Frag} {te ta tb : TE} {ee ea eb : EE}
theorem wi_seq (h : WE R te ee) : WI R (iSeq K te) (eSeq ee) := fun P env σ B H Rk k E he q =>
  h P env σ B H _ _ E he fun d v B' H' kd s E' r => by
    cases d with
    | lst l =>
      simp only [Rp] at r
      obtain ⟨p, vs, rfl, hp, a⟩ := r
      refine ⟨p, rfl, .inl ⟨vs, Evl.sq_of (E'.bh _ _ hp), q l _ _ (fun H => SqL K H p vs) B' H' kd s E' rfl (fun Hx e => Evl.sq_of (e _ _ hp)) ?_⟩⟩
      rw [← a.len]
      exact walk_list.mono (fun _ h => h) fun i H x H' _ _ y => by
        obtain ⟨d, hd, rd⟩ := a.getV y.2
        exact ⟨d, hd, .inl ⟨y.1, rd⟩⟩
    | tup l =>
      simp only [Rp] at r
      obtain ⟨p, vs, rfl, hp, a⟩ := r
      refine ⟨p, rfl, .inr ⟨vs, Evl.st_of (E'.bh _ _ hp), q l _ _ (fun H => SqT K H p vs) B' H' kd s E' rfl (fun Hx e => Evl.st_of (e _ _ hp)) ?_⟩⟩
      rw [← a.len]
      exact walk_tup.mono (fun _ h => h) fun i H x H' _ _ y => by
        obtain ⟨d, hd, rd⟩ := a.getV y.2
        exact ⟨d, hd, .inl ⟨y.1, rd⟩⟩
    | _ => exact kd.elim
/-- a new list, walked -/
theorem wi_listF {el : EL} (h : WF R te el) : WI R (iSeq K te) el := fun P env σ B H Rk k E he q =>
  wi_seq (we_of_wf h) P env σ B H Rk k E he q
def rgD (n : Int) : List D := (List.range n.toNat).map fun (i : Nat) => D.int (i : Int)
def rgD2 (a b : Int) : List D := (List.range (b - a).toNat).map fun (i : Nat) => D.int (a + (i : Int))
def eRng1 (ee : EE) : EL := fun env k => ee env fun d => match d with
  | .int n => n ≤ 100000 ∧ -100000 ≤ n ∧ k (rgD n)
  | _ => False
def eRng2 (ea eb : EE) : EL := fun env k => ea env fun a => eb env fun b => match a, b with
  | .int a, .int b => (a ≤ 100000 ∧ -100000 ≤ a) ∧ (b ≤ 100000 ∧ -100000 ≤ b) ∧ k (rgD2 a b)
  | _, _ => False
theorem wi_rng1 (h : WE R te ee) : WI R (iRng1 (tCons te tNil)) (eRng1 ee) := fun P env σ B H Rk k E he q =>
  h P env σ B H _ _ E he fun d v B' H' kd s E' r => by
    cases d with
    | int n =>
      simp only [Rp] at r
      subst r
      refine ⟨n, rfl, by omega, by omega, q (rgD n) _ n.toNat (fun _ => True) B' H' kd.2.2 s E' (by unfold rgD; simp) (fun _ _ => trivial) ?_⟩
      exact walk_range.mono (fun _ h => h) fun i H x H' hi _ y => ⟨.int (i : Int), by unfold rgD; rw [List.getElem?_map, List.getElem?_range hi]; rfl, .inl ⟨y.1, by rw [y.2]; show Rp R B' (V.int (0 + (i : Int))) _; rw [show (0 : Int) + (i : Int) = (i : Int) by omega]; exact rp_int⟩⟩
    | _ => exact kd.elim
theorem wi_rng2 (h : WE R ta ea) (g : WE R tb eb) : WI R (iRng2 (tCons ta (tCons tb tNil))) (eRng2 ea eb) := fun P env σ B H Rk k E he q =>
  h P env σ B H _ _ E he fun d v B1 H1 k1 s1 E1 r1 => g P env σ B1 H1 _ _ E1 k1 fun c u B2 H2 k2 s2 E2 r2 => by
    cases d with
    | int a =>
      cases c with
      | int b =>
        simp only [Rp] at r1 r2
        subst r1; subst r2
        have k3 : (a ≤ 100000 ∧ -100000 ≤ a) ∧ (b ≤ 100000 ∧ -100000 ≤ b) ∧ k (rgD2 a b) := k2
        refine ⟨a, b, rfl, by omega, q (rgD2 a b) _ (b - a).toNat (fun _ => True) B2 H2 k3.2.2 (s1.trans E1.pot s2) E2 (by unfold rgD2; simp) (fun _ _ => trivial) ?_⟩
        exact walk_range.mono (fun _ h => h) fun i H x H' hi _ y => ⟨.int (a + (i : Int)), by unfold rgD2; rw [List.getElem?_map, List.getElem?_range hi]; rfl, .inl ⟨y.1, by rw [y.2]; exact rp_int⟩⟩
      | _ => exact (show False from k2).elim
    | _ => exact (show False from k2).elim
def enumD (l : List D) : List D := l.zipIdx.map fun p => .tup [.int (p.2 : Int), p.1]
def zipD (l m : List D) : List D := (l.zip m).map fun p => .tup [p.1, p.2]
def eEnum (ee : EE) : EL := fun env k => ee env fun d => match d with
  | .lst l => k (enumD l)
  | _ => False
theorem wi_enum (h : WE R te ee) : WI R (iEnum K (tCons te tNil)) (eEnum ee) := fun P env σ B H Rk k E he q =>
  h P env σ B H _ _ E he fun d v B' H' kd s E' r => by
    cases d with
    | lst l =>
      simp only [Rp] at r
      obtain ⟨p, vs, rfl, hp, a⟩ := r
      refine ⟨p, vs, rfl, Evl.sq_of (E'.bh _ _ hp), q (enumD l) _ l.length (fun H => SqL K H p vs) B' H' kd s E' (by unfold enumD; rw [List.length_map, List.length_zipIdx]) (fun Hx e => Evl.sq_of (e _ _ hp)) ?_⟩
      rw [← a.len]
      exact walk_enum.mono (fun _ h => h) fun i H x H' _ _ y => by
        obtain ⟨T, x1, y1, r1, f1, h1, e1, e2⟩ := y
        cases e1
        obtain ⟨d, hd, rd⟩ := a.getV e2
        refine ⟨.tup [.int (i : Int), d], ?_, .inr ⟨T, [.int (i : Int), y1], [.int (i : Int), d], r1, f1, h1, rfl, .cons rp_int (.cons rd .nil)⟩⟩
        unfold enumD
        rw [List.getElem?_map, List.getElem?_zipIdx, hd]
        simp
    | _ => exact kd.elim
def eZip (ea eb : EE) : EL := fun env k => ea env fun a => eb env fun b => match seqD a, seqD b with
  | some l, some m => k (zipD l m)
  | _, _ => False
theorem zipD_get {l m : List D} {i : Nat} {a b : D} (h1 : l[i]? = some a) (h2 : m[i]? = some b) : (zipD l m)[i]? = some (.tup [a, b]) := by
  unfold zipD
  rw [List.getElem?_map, (List.getElem?_zip_eq_some (z := (a, b))).mpr ⟨h1, h2⟩]
  rfl
theorem walk_zipM {t u : Bool} {a b : Addr} {xs ys : List V} {n : Nat} (hn : n = min xs.length ys.length) : Walk (ZM.ItzM K t u a b xs.length ys.length) n (fun H => ZM.SqK t K H a xs ∧ ZM.SqK u K H b ys) (YPair (fun i => xs[i]?) (fun i => ys[i]?)) := by
  subst hn
  refine ⟨fun i H hi h => ?_, fun H h => ⟨xs, ys, h.1, h.2, by omega, by omega, by omega⟩, fun i H x H' hi h y => ?_⟩
  · exact ⟨xs, ys, _, _, h.1, h.2, List.getElem?_eq_getElem (by omega), List.getElem?_eq_getElem (by omega)⟩
  · obtain ⟨T, x, y, r, f, e, a, b⟩ := y
    exact ⟨T, x, y, r, f, e, a xs h.1, b ys h.2⟩
theorem seq_rp {B : Hp} {v : V} {d : D} {l : List D} (h : seqD d = some l) (r : Rp R B v d) : ∃ (t : Bool) (p : Addr) (vs : List V), v = .ref p ∧ (∀ H, Ex B H → ZM.SqK t K H p vs) ∧ RpA R B vs l := by
  cases d with
  | lst m =>
    cases h
    simp only [Rp] at r
    obtain ⟨p, vs, e, hp, a⟩ := r
    exact ⟨false, p, vs, e, fun H x => Evl.sq_of (x _ _ hp), a⟩
  | tup m =>
    cases h
    simp only [Rp] at r
    obtain ⟨p, vs, e, hp, a⟩ := r
    exact ⟨true, p, vs, e, fun H x => Evl.st_of (x _ _ hp), a⟩
  | _ => cases h
theorem wi_zip (h : WE R ta ea) (g : WE R tb eb) : WI R (ZM.iZipM K (tCons ta (tCons tb tNil))) (eZip ea eb) := fun P env σ B H Rk k E he q =>
  h P env σ B H _ _ E he fun d v B1 H1 k1 s1 E1 r1 => g P env σ B1 H1 _ _ E1 k1 fun c u B2 H2 k2 s2 E2 r2 => by
    cases e1 : seqD d with
    | none => simp only [e1] at k2
    | some l =>
      cases e2 : seqD c with
      | none => simp only [e1, e2] at k2
      | some m =>
        simp only [e1, e2] at k2
        obtain ⟨t, p, vs, rfl, hp, a⟩ := seq_rp (K := K) e1 (r1.mono s2.bb _)
        obtain ⟨t', p', vs', rfl, hp', a'⟩ := seq_rp (K := K) e2 r2
        refine ⟨t, t', p, p', vs, vs', rfl, hp _ E2.bh, hp' _ E2.bh, q (zipD l m) _ (min l.length m.length) (fun H => ZM.SqK t K H p vs ∧ ZM.SqK t' K H p' vs') B2 H2 k2 (s1.trans E1.pot s2) E2 (by unfold zipD; simp) (fun Hx e => ⟨hp _ e, hp' _ e⟩) ?_⟩
        exact (walk_zipM (by rw [a.len, a'.len])).mono (fun _ h => h) fun i H x H' _ _ y => by
          obtain ⟨T, x1, y1, r1, f1, h1, e1, e2⟩ := y
          obtain ⟨d, hd, rd⟩ := a.getV e1
          obtain ⟨d', hd', rd'⟩ := a'.getV e2
          exact ⟨.tup [d, d'], zipD_get hd hd', .inr ⟨T, [x1, y1], [d, d'], r1, f1, h1, rfl, .cons rd (.cons rd' .nil)⟩⟩
end
/-! ### list comprehensions -/
def lcGo (f : D → (Option D → Prop) → Prop) : List D → (List D → Prop) → Prop
  | [], k => k []
  | x :: xs, k => f x fun o => lcGo f xs fun ys => k (o.toList ++ ys)
def eLcF (eg : EG) (et : EB) (ee : EE) (env : Env) : D → (Option D → Prop) → Prop := fun x kk => eg x env fun env1 => et env1 fun b => if b = true then ee env1 fun y => kk (some y) else kk none
def eLc (ei : EL) (eg : EG) (et : EB) (ee : EE) (vs : List Nat) : EL := fun env k => ei env fun xs => xs.length ≤ 100000 ∧ lcGo (eLcF eg et ee (wipeE env vs)) xs k
def eYes : EB := fun _ k => k true
theorem wt_yes {R : OR} : WT R tYes eYes := fun P env σ B H Q k E he q => q true B H he (.refl E.bh) E
section
variable {R : OR} {K : PySem.W.Frag} {te ta tb : TE} {ee ea eb : EE}
/-- what the walk's item is, known -/
theorem yd_at {P : Option Addr} {env : Env} {σ : L2.St} {B Ha Hb : Hp} {xs : List D} {i : Nat} {x : V} (E : EnvOk R P env σ B Ha) (y : YD R B xs i Ha x Hb) : ∃ d B', xs[i]? = some d ∧ Step P B Ha B' Hb ∧ EnvOk R P env σ B' Hb ∧ Rp R B' x d := by
  obtain ⟨d, hd, ⟨rfl, r⟩ | ⟨T, vs, ds, rfl, fT, rfl, rfl, r⟩⟩ := y
  · exact ⟨d, B, hd, .refl E.bh, E, r⟩
  · obtain ⟨s, E'⟩ := E.alloc (o := .tup vs) fT
    exact ⟨_, _, hd, s, E', rp_tup upd_same (r.mono s.bb ds)⟩
theorem drop_cons {α : Type} {xs : List α} {i : Nat} {x : α} (h : xs[i]? = some x) : xs.drop i = x :: xs.drop (i + 1) := by
  obtain ⟨hi, e⟩ := List.getElem?_eq_some_iff.mp h
  rw [← e]
  exact List.drop_eq_getElem_cons hi
theorem YD.mono {B B' : Hp} (e : Ex B B') {xs : List D} {i : Nat} {H H' : Hp} {x : V} (y : YD R B xs i H x H') : YD R B' xs i H x H' := by
  obtain ⟨d, hd, ⟨h, r⟩ | ⟨T, vs, ds, h1, fT, h2, h3, r⟩⟩ := y
  · exact ⟨d, hd, .inl ⟨h, r.mono e d⟩⟩
  · exact ⟨d, hd, .inr ⟨T, vs, ds, h1, fT, h2, h3, r.mono e ds⟩⟩
theorem wipe_none {σ : L2.St} {i : Nat} : ∀ {vs : List Nat}, i ∈ vs → ∀ x, (L2.wipe σ vs)[i]? = some x → x = none := fun {vs} m x h => by
  cases x with
  | none => rfl
  | some v => exact absurd m (L2.wipe_some h).2
theorem set_none {σ : L2.St} {i : Nat} (h : ∀ x, σ[i]? = some x → x = none) : σ.set i none = σ := by
  apply List.ext_getElem?
  intro j
  by_cases e : i = j
  · subst e
    by_cases l : i < σ.length
    · rw [List.getElem?_set_self l, List.getElem?_eq_getElem l]
      rw [h _ (List.getElem?_eq_getElem l)]
    · rw [List.getElem?_eq_none (by simpa using l), List.getElem?_eq_none (by simpa using l)]
  · rw [List.getElem?_set_ne e]
theorem wipe_wipe (σ : L2.St) (vs : List Nat) : L2.wipe (L2.wipe σ vs) vs = L2.wipe σ vs := by
  have : ∀ us : List Nat, (∀ u ∈ us, u ∈ vs) → L2.wipe (L2.wipe σ vs) us = L2.wipe σ vs := by
    intro us
    induction us with
    | nil => intro _; rfl
    | cons u us ih =>
      intro h
      show (L2.wipe (L2.wipe σ vs) us).set u none = _
      rw [ih fun x hx => h x (List.mem_cons_of_mem _ hx)]
      exact set_none (wipe_none (h u List.mem_cons_self))
  exact this vs fun _ h => h
theorem wf_lc {wi : TI} {ei : EL} {g : TG} {eg : EG} {ts vs : List Nat} {tt : TT} {et : EB} (hi : WI R wi ei) (hg : WG R ts g eg) (hv : ∀ i ∈ ts, i ∈ vs) (ht : WT R tt et) (hee : WE R te ee) : WF R (tLc wi g tt te vs) (eLc ei eg et ee vs) := fun P env σ B H Q k E he q => by
  refine hi P env σ B H _ _ E he fun xs J n G B1 H1 hx s1 E1 hn hG hW D hD => ?_
  have nP : P ≠ some D := fresh_pot E1.pot hD
  have bD : B1 D = none := Evl.fresh_back E1.bh hD
  have hD0 : H D = none := fresh_backP s1.hh nP hD
  refine lc_it hW (fun i H' => ∃ B' done ws, H' D = some (.lst ws) ∧ B' D = none ∧ RpA R B' ws done ∧ Step P B1 H1 B' H' ∧ PotOk P H' ∧ done.length ≤ i ∧ lcGo (eLcF eg et ee (wipeE env vs)) (xs.drop i) (fun ys => k (done ++ ys))) ?_ ?_ ?_ ?_
  · obtain ⟨s0, E0⟩ := E1.allocU (o := .lst []) hD
    exact ⟨B1, [], [], upd_same, bD, .nil, s0, E0.pot, Nat.le_refl _, hx.2⟩
  · rintro i H' _ ⟨B', done, ws, hd, hbd, hr, s, po, hl, hk⟩
    exact hG _ (s.bb.trans s.bh)
  · rintro i x Ha Hb hin ⟨B', done, ws, hd, hbd, hr, s, po, hl, hk⟩ y
    have Ea := E1.step s po
    obtain ⟨d, B2, hxd, s2, E2, rx⟩ := yd_at Ea (y.mono s.bb)
    rw [drop_cons hxd] at hk
    have keep : ∀ {Bx By Hx Hy : Hp} {us : List V}, Step P Bx Hx By Hy → Bx D = none → Hx D = some (.lst us) → By D = none ∧ Hy D = some (.lst us) := fun {Bx By Hx Hy us} s b h => by
      refine ⟨?_, s.hh _ _ h nP⟩
      cases z : By D with
      | none => rfl
      | some o =>
        rcases s.nw D o z with w | w | w
        · rw [b] at w; cases w
        · rw [h] at w; cases w
        · have h1 := s.bh _ _ z
          rw [s.hh _ _ h nP] at h1
          cases h1
          exact w.elim
    obtain ⟨b2, d2⟩ := keep s2 hbd hd
    refine hg P _ _ B2 Hb x d _ _ (E2.wipe vs) rx hk fun env' σ' k' E3 w3 _ _ => ⟨?_, ?_⟩
    · rw [w3 vs hv]
      exact wipe_wipe σ vs
    · refine ht P env' σ' B2 Hb _ _ E3 k' fun b B3 H3 k3 s3 E4 => ?_
      obtain ⟨b3, d3⟩ := keep s3 b2 d2
      have s23 := s2.trans E2.pot s3
      cases b with
      | true =>
        refine iteT ?_
        refine hee P env' σ' B3 H3 _ _ E4 (by rw [if_pos rfl] at k3; exact k3) fun z v B4 H4 k4 s4 E5 r4 => ?_
        obtain ⟨b4, d4⟩ := keep s4 b3 d3
        have s24 := s23.trans E4.pot s4
        have e4 := s24.bb
        refine ⟨ws, d4, ?_, B4, done ++ [z], ws ++ [v], upd_same, b4, (hr.mono e4 done).app (.cons r4 .nil), ?_, ?_, ?_, ?_⟩
        · have := hr.len
          have := hx.1
          exact Evl.sz_lt (by omega)
        · have st := s.trans po s24
          exact ⟨st.bb, fun b o h => by
            rw [upd_ne (fun w => by rw [w, b4] at h; cases h)]
            exact st.bh b o h, fun b o h n => by
            rw [upd_ne (fun w => by rw [w, hD] at h; cases h)]
            exact st.hh b o h n, st.nw⟩
        · intro p hp
          have := E5.pot p hp
          obtain ⟨a, c, h, r⟩ := this
          exact ⟨a, c, by rw [upd_ne (fun w => nP (by rw [hp, w]))]; exact h, r⟩
        · simp; omega
        · have k5 : lcGo (eLcF eg et ee (wipeE env vs)) (xs.drop (i + 1)) fun ys => k (done ++ ((some z).toList ++ ys)) := k4
          simpa [List.append_assoc] using k5
      | false =>
        refine iteF ?_
        have k4 : lcGo (eLcF eg et ee (wipeE env vs)) (xs.drop (i + 1)) fun ys => k (done ++ ((none : Option DL.D).toList ++ ys)) := by rw [if_neg (by decide)] at k3; exact k3
        exact ⟨B3, done, ws, d3, b3, hr.mono s23.bb done, s.trans po s23, E4.pot, by omega, by simpa using k4⟩
  · rintro H' ⟨B', done, ws, hd, hbd, hr, s, po, hl, hk⟩
    rw [← hn, List.drop_length] at hk
    have hk : k (done ++ []) := hk
    rw [List.append_nil] at hk
    have st := s1.trans E1.pot s
    exact q done D ws B' H' hk st (E.step st po) hD0 hbd hd hr
end
end DL
set_option Elab.async false
set_option linter.all false
set_option maxRecDepth 100000
set_option maxHeartbeats 4000000
/-! statements, defs, calls -/
namespace DL
open PySem PySem.Spec PyProof.Rows L2
open Evl (Ex)
structure Kn where
  nx : Env → Prop
  rt : D → Prop
  rf : List D → Prop
  bk : Env → Prop := fun _ => False
  ct : Env → Prop := fun _ => False
abbrev ES := Env → Kn → Prop
/-- the slots of a def that was entered with the base B0 and the heap H0 -/
structure SOk (R : OR) (P : Option Addr) (B0 H0 : Hp) (env : Env) (σ : L2.St) (B H : Hp) : Prop where
  e : EnvOk R P env σ B H
  s : Step P B0 H0 B H
  fr : ∀ (i : Nat) (sv : SV) (p : Addr), env[i]? = some sv → isM sv = true → σ[i]? = some (some (V.ref p)) → H0 p = none
structure Kok (R : OR) (P : Option Addr) (B0 H0 : Hp) (k : Kn) (D : Ends) : Prop where
  nx : ∀ env σ B H, k.nx env → SOk R P B0 H0 env σ B H → D.nx σ H
  rt : ∀ d v B H, k.rt d → Step P B0 H0 B H → PotOk P H → Rp R B v d → D.rt v H
  rf : ∀ l p vs B H, k.rf l → Step P B0 H0 B H → PotOk P H → H0 p = none → B p = none → H p = some (.lst vs) → RpA R B vs l → D.rt (.ref p) H
  bk : ∀ env σ B H, k.bk env → SOk R P B0 H0 env σ B H → D.bk σ H
  ct : ∀ env σ B H, k.ct env → SOk R P B0 H0 env σ B H → D.ct σ H
def WB (R : OR) (ts : TS) (es : ES) : Prop := ∀ P B0 H0 env σ B H D k, SOk R P B0 H0 env σ B H → es env k → Kok R P B0 H0 k D → ts D σ H
section
variable {R : OR} {P : Option Addr} {B0 H0 : Hp} {env : Env} {σ : L2.St} {B H B' H' : Hp}
theorem SOk.step (S : SOk R P B0 H0 env σ B H) (s : Step P B H B' H') (E : EnvOk R P env σ B' H') : SOk R P B0 H0 env σ B' H' := ⟨E, S.s.trans S.e.pot s, S.fr⟩
theorem SOk.set (S : SOk R P B0 H0 env σ B H) (i : Nat) {v : V} {d : D} (r : Rp R B v d) : SOk R P B0 H0 (env.set i (.val d)) (σ.set i (some v)) B H := ⟨S.e.set i r, S.s, fun j sv p h m q => by
  by_cases e : i = j
  · subst e
    have hi : i < env.length := by
      have := (List.getElem?_eq_some_iff.mp h).1
      simpa using this
    rw [List.getElem?_set_self hi] at h
    cases h
    cases m
  · rw [List.getElem?_set_ne e] at h q
    exact S.fr j sv p h m q⟩
theorem SOk.forget (S : SOk R P B0 H0 env σ B H) (i : Nat) : SOk R P B0 H0 (env.set i .un) σ B H := ⟨S.e.forget i, S.s, fun j sv p h m q => by
  by_cases e : i = j
  · subst e
    have hi : i < env.length := by
      have := (List.getElem?_eq_some_iff.mp h).1
      simpa using this
    rw [List.getElem?_set_self hi] at h
    cases h
    cases m
  · rw [List.getElem?_set_ne e] at h
    exact S.fr j sv p h m q⟩
def forg (env : Env) : List Nat → Env
  | [] => env
  | i :: is => forg (env.set i .un) is
theorem SOk.forg (S : SOk R P B0 H0 env σ B H) (is : List Nat) : SOk R P B0 H0 (forg env is) σ B H := by
  induction is generalizing env with
  | nil => exact S
  | cons i is ih => exact ih (S.forget i)
/-- a slot gets a list, a dict under hand: new, not known -/
theorem EnvOk.setM (E : EnvOk R P env σ B H) (i : Nat) {p : Addr} {sv : SV} (hn : ∀ (j : Nat) (x : SV), env[j]? = some x → isM x = true → σ[j]? ≠ some (some (V.ref p))) (ok : ∀ σ' : L2.St, σ'[i]? = some (some (V.ref p)) → SlotOk R P σ' B H i sv) : EnvOk R P (env.set i sv) (σ.set i (some (.ref p))) B H where
  len := by rw [List.length_set, List.length_set]; exact E.len
  bh := E.bh
  pot := E.pot
  pb := E.pb
  sl := fun j sw h => by
    by_cases e : i = j
    · subst e
      have hi : i < env.length := by
        have := (List.getElem?_eq_some_iff.mp h).1
        simpa using this
      rw [List.getElem?_set_self hi] at h
      cases h
      exact ok _ (by rw [List.getElem?_set_self (by rw [E.len]; exact hi)])
    · rw [List.getElem?_set_ne e] at h
      have z := E.sl j sw h
      have q : (σ.set i (some (V.ref p)))[j]? = σ[j]? := List.getElem?_set_ne e
      cases sw <;> simp only [SlotOk, q] at z ⊢ <;> exact z
  nd := fun a b x y q ha hb mx my sa sb => by
    by_cases ea : i = a
    · by_cases eb : i = b
      · rw [← ea, ← eb]
      · subst ea
        rw [List.getElem?_set_ne eb] at hb sb
        have hi : i < σ.length := by
          have := (List.getElem?_eq_some_iff.mp sa).1
          simpa using this
        rw [List.getElem?_set_self hi] at sa
        have : V.ref p = V.ref q := Option.some.inj (Option.some.inj sa)
        cases this
        exact absurd sb (hn b y hb my)
    · rw [List.getElem?_set_ne ea] at ha sa
      by_cases eb : i = b
      · subst eb
        have hi : i < σ.length := by
          have := (List.getElem?_eq_some_iff.mp sb).1
          simpa using this
        rw [List.getElem?_set_self hi] at sb
        have : V.ref p = V.ref q := Option.some.inj (Option.some.inj sb)
        cases this
        exact absurd sa (hn a x ha mx)
      · rw [List.getElem?_set_ne eb] at hb sb
        exact E.nd a b x y q ha hb mx my sa sb
/-- a list under hand is not one that is new -/
theorem EnvOk.notNew (E : EnvOk R P env σ B H) {p : Addr} (hp : H p = none) : ∀ (j : Nat) (x : SV), env[j]? = some x → isM x = true → σ[j]? ≠ some (some (V.ref p)) := fun j x h m q => by
  have z := E.sl j x h
  cases x with
  | ml l =>
    obtain ⟨p', vs, a, b, _⟩ := z
    rw [a] at q
    cases q
    rw [hp] at b
    cases b
  | mt ks l =>
    obtain ⟨p', vs, a, b, _⟩ := z
    rw [a] at q
    cases q
    rw [hp] at b
    cases b
  | mk ks l =>
    obtain ⟨p', vs, a, b, _⟩ := z
    rw [a] at q
    cases q
    rw [hp] at b
    cases b
  | _ => cases m
/-- the list in slot i is changed -/
theorem EnvOk.mut (E : EnvOk R P env σ B H) {i : Nat} {p : Addr} {sv sw : SV} {o : HO} (hi : env[i]? = some sv) (hm : isM sv = true) (hs : σ[i]? = some (some (V.ref p))) (hb : B p = none) (hP : P ≠ some p) (ok : SlotOk R P σ B (upd H p o) i sw) : EnvOk R P (env.set i sw) σ B (upd H p o) where
  len := by rw [List.length_set]; exact E.len
  bh := Ex.mut E.bh hb
  pot := fun q hq => by
    obtain ⟨a, c, h, r⟩ := E.pot q hq
    exact ⟨a, c, by rw [upd_ne (fun w => hP (by rw [hq, w]))]; exact h, r⟩
  pb := E.pb
  sl := fun j sx h => by
    by_cases e : i = j
    · subst e
      have hl : i < env.length := (List.getElem?_eq_some_iff.mp hi).1
      rw [List.getElem?_set_self hl] at h
      cases h
      exact ok
    · rw [List.getElem?_set_ne e] at h
      have z := E.sl j sx h
      have ne : ∀ (q : Addr), isM sx = true → σ[j]? = some (some (V.ref q)) → q ≠ p := fun q m k w => by
        subst w
        exact e (E.nd i j sv sx q hi h hm m hs k)
      cases sx with
      | un => trivial
      | val d => exact z
      | pot => exact z
      | ml l =>
        obtain ⟨q, vs, a, b, c⟩ := z
        exact ⟨q, vs, a, by rw [upd_ne (ne q rfl a)]; exact b, c⟩
      | mt ks l =>
        obtain ⟨q, vs, a, b, c⟩ := z
        exact ⟨q, vs, a, by rw [upd_ne (ne q rfl a)]; exact b, c⟩
      | mk ks l =>
        obtain ⟨q, vs, a, b, c⟩ := z
        exact ⟨q, vs, a, by rw [upd_ne (ne q rfl a)]; exact b, c⟩
  nd := fun a b x y q ha hb mx my sa sb => by
    have key : ∀ (j : Nat) (z : SV), (env.set i sw)[j]? = some z → isM z = true → ∃ z', env[j]? = some z' ∧ isM z' = true := fun j z h m => by
      by_cases e : i = j
      · subst e
        exact ⟨sv, hi, hm⟩
      · rw [List.getElem?_set_ne e] at h
        exact ⟨z, h, m⟩
    obtain ⟨x', h1, m1⟩ := key a x ha mx
    obtain ⟨y', h2, m2⟩ := key b y hb my
    exact E.nd a b x' y' q h1 h2 m1 m2 sa sb
theorem SOk.mut (S : SOk R P B0 H0 env σ B H) {i : Nat} {p : Addr} {sv sw : SV} {o : HO} (hi : env[i]? = some sv) (hm : isM sv = true) (hs : σ[i]? = some (some (V.ref p))) (hb : B p = none) (hP : P ≠ some p) (ok : SlotOk R P σ B (upd H p o) i sw) : SOk R P B0 H0 (env.set i sw) σ B (upd H p o) where
  e := S.e.mut hi hm hs hb hP ok
  s := ⟨S.s.bb, Ex.mut S.s.bh hb, fun b u h n => by
    rw [upd_ne (fun w => by rw [w, S.fr i sv p hi hm hs] at h; cases h)]
    exact S.s.hh b u h n, S.s.nw⟩
  fr := fun j sx q h m k => by
    by_cases e : i = j
    · subst e
      exact S.fr i sv q hi hm k
    · rw [List.getElem?_set_ne e] at h
      exact S.fr j sx q h m k
end
/-! ### statements -/
section
variable {R : OR} {te ta tb : TE} {ee ea eb : EE}
def sNext : ES := fun env k => k.nx env
def sSeq (e f : ES) : ES := fun env k => e env { k with nx := fun env' => f env' k }
def sNever : ES := fun _ _ => False
theorem wb_next : WB R tNext sNext := fun P B0 H0 env σ B H D k S he K => K.nx env σ B H he S
theorem wb_never : WB R tNever sNever := fun P B0 H0 env σ B H D k S he K => he
theorem wb_seq {t u : TS} {e f : ES} (h : WB R t e) (g : WB R u f) : WB R (tSeq t u) (sSeq e f) := fun P B0 H0 env σ B H D k S he K =>
  h P B0 H0 env σ B H { D with nx := u D } _ S he ⟨fun env' σ' B' H' k' S' => g P B0 H0 env' σ' B' H' D k S' k' K, K.rt, K.rf, K.bk, K.ct⟩
def sAsg (ee : EE) (eg : EG) : ES := fun env k => ee env fun d => eg d env k.nx
theorem wb_asg {g : TG} {eg : EG} {ts : List Nat} (h : WE R te ee) (hg : WG R ts g eg) : WB R (tAsg te g) (sAsg ee eg) := fun P B0 H0 env σ B H D k S he K =>
  h P env σ B H _ _ S.e he fun d v B' H' kd s E r => hg P env σ B' H' v d _ _ E r kd fun env' σ' k' E' _ sm nm => K.nx env' σ' B' H' k' ⟨E', S.s.trans S.e.pot s, fun i sv p h m q => by
    by_cases n : i ∈ ts
    · rw [nm i n sv h] at m; cases m
    · rw [(sm i n).1] at h
      rw [(sm i n).2] at q
      exact S.fr i sv p h m q⟩
def sAsgF (i : Nat) (el : EL) : ES := fun env k => el env fun l => k.nx (env.set i (.ml l))
theorem wb_asgF {i : Nat} {el : EL} (h : WF R te el) : WB R (tAsg te (gName i)) (sAsgF i el) := fun P B0 H0 env σ B H D k S he K =>
  h P env σ B H _ _ S.e he fun l p vs B' H' kl s E hp hb hh a => by
    have nP := fresh_pot S.e.pot hp
    refine K.nx (env.set i (.ml l)) (σ.set i (some (.ref p))) B' H' kl ⟨E.setM i (S.e.notNew hp) (fun σ' q => ⟨p, vs, q, hh, hb, nP, a⟩), S.s.trans S.e.pot s, fun j sv q hj m w => ?_⟩
    by_cases e : i = j
    · subst e
      have hi : i < σ.length := by
        have := (List.getElem?_eq_some_iff.mp w).1
        simpa using this
      rw [List.getElem?_set_self hi] at w
      have : V.ref p = V.ref q := Option.some.inj (Option.some.inj w)
      cases this
      exact fresh_backP S.s.hh nP hp
    · rw [List.getElem?_set_ne e] at hj w
      exact S.fr j sv q hj m w
def sDrop (ee : EE) : ES := fun env k => ee env fun _ => k.nx env
theorem wb_drop (h : WO R te ee) : WB R (tDrop te) (sDrop ee) := fun P B0 H0 env σ B H D k S he K =>
  h P env σ B H _ _ S.e he fun d v B' H' kd s E r => K.nx env σ B' H' kd (S.step s E)
def sIf (e : EB) (f g : ES) : ES := fun env k => e env fun b => if b = true then f env k else g env k
theorem wb_if {t : TT} {e : EB} {u w : TS} {f g : ES} (h : WT R t e) (hf : WB R u f) (hg : WB R w g) : WB R (tIfS t u w) (sIf e f g) := fun P B0 H0 env σ B H D k S he K =>
  h P env σ B H _ _ S.e he fun b B' H' kb s E => by
    cases b with
    | true =>
      show u D σ H'
      exact hf P B0 H0 env σ B' H' D k (S.step s E) kb K
    | false =>
      show w D σ H'
      exact hg P B0 H0 env σ B' H' D k (S.step s E) kb K
def sRet (ee : EE) : ES := fun env k => ee env k.rt
def sRetF (el : EL) : ES := fun env k => el env k.rf
def sRetN : ES := fun _ k => k.rt .non
theorem wb_ret (h : WE R te ee) : WB R (tRet te) (sRet ee) := fun P B0 H0 env σ B H D k S he K =>
  h P env σ B H _ _ S.e he fun d v B' H' kd s E r => K.rt d v B' H' kd (S.s.trans S.e.pot s) E.pot r
theorem wb_retF {el : EL} (h : WF R te el) : WB R (tRet te) (sRetF el) := fun P B0 H0 env σ B H D k S he K =>
  h P env σ B H _ _ S.e he fun l p vs B' H' kl s E hp hb hh a => K.rf l p vs B' H' kl (S.s.trans S.e.pot s) E.pot (fresh_backP S.s.hh (fresh_pot S.e.pot hp) hp) hb hh a
theorem wb_retN : WB R tRetN sRetN := fun P B0 H0 env σ B H D k S he K => K.rt .non .non B H he S.s S.e.pot rp_non
/-- the list under hand is returned -/
def sRetM (i : Nat) : ES := fun env k => match env[i]? with
  | some (.ml l) => k.rf l
  | _ => False
theorem wb_retM {i : Nat} : WB R (tRet (tVar i)) (sRetM i) := fun P B0 H0 env σ B H D k S he K => by
  unfold sRetM at he
  split at he
  · next l h =>
    obtain ⟨p, vs, a, b, c, d, e⟩ := S.e.sl i _ h
    exact ⟨_, a, K.rf l p vs B H he S.s S.e.pot (S.fr i _ p h rfl a) c b e⟩
  · exact he.elim
/-- a list under hand is known from here on -/
def sKnow (i : Nat) (f : ES) : ES := fun env k => match env[i]? with
  | some (.ml l) => f (env.set i (.val (.lst l))) k
  | some (.mt ks l) => f (env.set i (.val (.dt ks l))) k
  | some (.mk ks l) => f (env.set i (.val (.dk ks l))) k
  | _ => False
theorem SOk.knowO {P : Option Addr} {B0 H0 : Hp} {env : Env} {σ : L2.St} {B H : Hp} (S : SOk R P B0 H0 env σ B H) {i : Nat} {p : Addr} {sv : SV} {d : D} {o : HO} (hi : env[i]? = some sv) (hm : isM sv = true) (hs : σ[i]? = some (some (V.ref p))) (hb : B p = none) (hP : P ≠ some p) (hh : H p = some o) (r : Rp R (upd B p o) (.ref p) d) : SOk R P B0 H0 (env.set i (.val d)) σ (upd B p o) H := by
  have e : Ex B (upd B p o) := Ex.new hb
  have bh : Ex (upd B p o) H := fun b u k => by
    by_cases n : b = p
    · subst n; rw [upd_same] at k; cases k; exact hh
    · rw [upd_ne n] at k; exact S.e.bh b u k
  refine ⟨{ len := by rw [List.length_set]; exact S.e.len, bh := bh, pot := S.e.pot, pb := fun q hq => ?_, sl := fun j sx h => ?_, nd := fun a b x y q ha hb mx my sa sb => ?_ }, ⟨S.s.bb.trans e, bh, S.s.hh, fun b u k => ?_⟩, fun j sx q h m k => ?_⟩
  · rw [upd_ne (fun w => hP (by rw [hq, w]))]
    exact S.e.pb q hq
  · by_cases n : i = j
    · subst n
      have hl : i < env.length := (List.getElem?_eq_some_iff.mp hi).1
      rw [List.getElem?_set_self hl] at h
      cases h
      exact ⟨_, hs, r⟩
    · rw [List.getElem?_set_ne n] at h
      have z := S.e.sl j sx h
      have ne : ∀ (q : Addr), isM sx = true → σ[j]? = some (some (V.ref q)) → q ≠ p := fun q m k w => by
        subst w
        exact n (S.e.nd i j sv sx q hi h hm m hs k)
      cases sx with
      | un => trivial
      | val d =>
        obtain ⟨v, a, b⟩ := z
        exact ⟨v, a, b.mono e d⟩
      | pot => exact z
      | ml l =>
        obtain ⟨q, vs, a, b, c, d, f⟩ := z
        exact ⟨q, vs, a, b, by rw [upd_ne (ne q rfl a)]; exact c, d, f.mono e l⟩
      | mt ks l =>
        obtain ⟨q, vs, a, b, c, d, f, g⟩ := z
        exact ⟨q, vs, a, b, c, by rw [upd_ne (ne q rfl a)]; exact d, f, g.mono e l⟩
      | mk ks l =>
        obtain ⟨q, vs, a, b, c, d, f, g⟩ := z
        exact ⟨q, vs, a, b, c, by rw [upd_ne (ne q rfl a)]; exact d, f, g.mono e l⟩
  · have key : ∀ (j : Nat) (z : SV), (env.set i (.val d))[j]? = some z → isM z = true → env[j]? = some z := fun j z h m => by
      by_cases e : i = j
      · subst e
        have hl : i < env.length := (List.getElem?_eq_some_iff.mp hi).1
        rw [List.getElem?_set_self hl] at h
        cases h
        cases m
      · rw [List.getElem?_set_ne e] at h
        exact h
    exact S.e.nd a b x y q (key a x ha mx) (key b y hb my) mx my sa sb
  · by_cases n : b = p
    · subst n
      exact .inr (.inl (S.fr i sv b hi hm hs))
    · rw [upd_ne n] at k
      exact S.s.nw b u k
  · by_cases e : i = j
    · subst e
      have hl : i < env.length := (List.getElem?_eq_some_iff.mp hi).1
      rw [List.getElem?_set_self hl] at h
      cases h
      cases m
    · rw [List.getElem?_set_ne e] at h
      exact S.fr j sx q h m k
theorem wb_know {i : Nat} {t : TS} {f : ES} (h : WB R t f) : WB R t (sKnow i f) := fun P B0 H0 env σ B H D k S he K => by
  unfold sKnow at he
  split at he
  · next l hi =>
    obtain ⟨p, vs, a, b, c, d, e⟩ := S.e.sl i _ hi
    exact h P B0 H0 _ σ _ H D k (S.knowO hi rfl a c d b (rp_lst upd_same (e.mono (Ex.new c) l))) he K
  · next ks l hi =>
    obtain ⟨p, vs, a, b, z, c, d, e⟩ := S.e.sl i _ hi
    exact h P B0 H0 _ σ _ H D k (S.knowO hi rfl a c d b (by simp only [Rp]; exact ⟨p, vs, rfl, upd_same, z, e.mono (Ex.new c) l⟩)) he K
  · next ks l hi =>
    obtain ⟨p, vs, a, b, z, c, d, e⟩ := S.e.sl i _ hi
    exact h P B0 H0 _ σ _ H D k (S.knowO hi rfl a c d b (by simp only [Rp]; exact ⟨p, vs, rfl, upd_same, z, e.mono (Ex.new c) l⟩)) he K
  · exact he.elim
end
end DL
set_option Elab.async false
set_option linter.all false
set_option maxRecDepth 100000
set_option maxHeartbeats 4000000
/-! lists under hand, loops, defs, calls -/
namespace DL
open PySem PySem.Spec PyProof.Rows L2
open Evl (Ex)
section
variable {R : OR} {K : PySem.W.Frag} {te ta tb : TE} {ee ea eb : EE}
theorem tyV_l {H : Hp} {p : Addr} {vs : List V} (h : H p = some (.lst vs)) : tyV K "list" (.ref p) H := .inl ⟨rfl, _, .inl (.inl h)⟩
/-- x.append(e) -/
def sApp (i : Nat) (ee : EE) : ES := fun env k => match env[i]? with
  | some (.ml l) => ee env fun d => l.length < 100000 ∧ k.nx (env.set i (.ml (l ++ [d])))
  | _ => False
theorem wb_app {i : Nat} (h : WE R te ee) : WB R (tDrop (tBM K "list" rAppend (tVar i) (tCons te tNil))) (sApp i ee) := fun P B0 H0 env σ B H D k S he Kk => by
  unfold sApp at he
  split at he
  · next l hi =>
    obtain ⟨p, vs, a, b, c, nP, r⟩ := S.e.sl i _ hi
    refine ⟨_, a, tyV_l b, h P env σ B H _ _ S.e he fun d v B' H' kd s E rd => ?_⟩
    have S' := S.step s E
    obtain ⟨p', vs', a', b', c', nP', r'⟩ := E.sl i _ hi
    have e1 : p = p' := by rw [a] at a'; cases a'; rfl
    subst e1
    refine ⟨p, vs', v, rfl, rfl, b', Evl.sz_lt (by rw [r'.len]; exact kd.1), ?_⟩
    exact Kk.nx _ σ B' _ kd.2 (S'.mut hi rfl a c' nP ⟨p, vs' ++ [v], a, upd_same, c', nP, r'.app (.cons rd .nil)⟩)
  · exact he.elim
/-- x.extend(e) -/
def sExt (i : Nat) (ee : EE) : ES := fun env k => match env[i]? with
  | some (.ml l) => ee env fun d => match d with
    | .lst m => l.length + m.length ≤ 100000 ∧ k.nx (env.set i (.ml (l ++ m)))
    | _ => False
  | _ => False
theorem wb_ext {i : Nat} (h : WE R te ee) : WB R (tDrop (tBM K "list" rExtend (tVar i) (tCons te tNil))) (sExt i ee) := fun P B0 H0 env σ B H D k S he Kk => by
  unfold sExt at he
  split at he
  · next l hi =>
    obtain ⟨p, vs, a, b, c, nP, r⟩ := S.e.sl i _ hi
    refine ⟨_, a, tyV_l b, h P env σ B H _ _ S.e he fun d v B' H' kd s E rd => ?_⟩
    cases d with
    | lst m =>
      have S' := S.step s E
      obtain ⟨p', vs', a', b', c', nP', r'⟩ := E.sl i _ hi
      have e1 : p = p' := by rw [a] at a'; cases a'; rfl
      subst e1
      simp only [Rp] at rd
      obtain ⟨q, us, rfl, hq, ru⟩ := rd
      have kd : l.length + m.length ≤ 100000 ∧ k.nx (env.set i (.ml (l ++ m))) := kd
      refine ⟨p, q, vs', us, rfl, rfl, b', E.bh _ _ hq, Evl.sz_of (by rw [r'.len, ru.len]; exact kd.1), ?_⟩
      exact Kk.nx _ σ B' _ kd.2 (S'.mut hi rfl a c' nP ⟨p, vs' ++ us, a, upd_same, c', nP, r'.app ru⟩)
    | _ => exact (show False from kd).elim
  · exact he.elim
/-- y = x.pop() -/
def sPop (i j : Nat) : ES := fun env k => match env[j]? with
  | some (.ml l) => match l.getLast? with
    | some d => k.nx ((env.set j (.ml l.dropLast)).set i (.val d))
    | none => False
  | _ => False
theorem RpA.dropLast {B : Hp} : ∀ {vs : List V} {ds : List D}, RpA R B vs ds → RpA R B vs.dropLast ds.dropLast := fun {vs ds} h => by
  rw [List.dropLast_eq_take, List.dropLast_eq_take, h.len]
  exact h.take _
theorem wb_pop {i j : Nat} : WB R (tAsg (tBM0 K "list" rPop (tVar j)) (gName i)) (sPop i j) := fun P B0 H0 env σ B H D k S he Kk => by
  unfold sPop at he
  split at he
  · next l hi =>
    split at he
    · next d hd =>
      obtain ⟨p, vs, a, b, c, nP, r⟩ := S.e.sl j _ hi
      have hd' : l[l.length - 1]? = some d := by rw [← List.getLast?_eq_getElem?]; exact hd
      obtain ⟨v, hv, rv⟩ := r.get hd'
      refine ⟨_, a, tyV_l b, p, vs, v, rfl, rfl, b, by rw [r.len]; exact hv, ?_⟩
      have S1 := S.mut (o := .lst vs.dropLast) hi rfl a c nP (sw := .ml l.dropLast) ⟨p, vs.dropLast, a, upd_same, c, nP, r.dropLast⟩
      exact Kk.nx _ _ B _ he (S1.set i rv)
    · exact he.elim
  · exact he.elim
/-- x[i] = e, x a list under hand -/
def sSetL (i : Nat) (ei ev : EE) : ES := fun env k => ev env fun d => match env[i]? with
  | some (.ml l) => ei env fun z => match z with
    | .int n => ∃ j, ixN l.length n = some j ∧ k.nx (env.set i (.ml (l.set j d)))
    | _ => False
  | _ => False
theorem RpA.setA {B : Hp} {v : V} {d : D} (r : Rp R B v d) : ∀ (j : Nat) {vs : List V} {ds : List D}, RpA R B vs ds → RpA R B (vs.set j v) (ds.set j d)
  | _, [], [], h => h
  | 0, _ :: vs, _ :: ds, h => by
    simp only [RpA] at h
    simp only [List.set_cons_zero, RpA]
    exact ⟨r, h.2⟩
  | j + 1, _ :: vs, _ :: ds, h => by
    simp only [RpA] at h
    simp only [List.set_cons_succ, RpA]
    exact ⟨h.1, RpA.setA r j h.2⟩
  | _, [], _ :: _, h => by simp only [RpA] at h
  | _, _ :: _, [], h => by simp only [RpA] at h
theorem wb_setL {i : Nat} {ti tv : TE} {ei ev : EE} (h : WE R tv ev) (g : WO R ti ei) : WB R (tAsg tv (gSub (tVar i) ti rSetL)) (sSetL i ei ev) := fun P B0 H0 env σ B H D k S he Kk =>
  h P env σ B H _ _ S.e he fun d v B1 H1 k1 s1 E1 r1 => by
    split at k1
    · next l hi =>
      obtain ⟨p, vs, a, b, c, nP, r⟩ := E1.sl i _ hi
      refine ⟨_, a, g P env σ B1 H1 _ _ E1 k1 fun z u B2 H2 k2 s2 E2 r2 => ?_⟩
      cases z with
      | int n =>
        have := r2.int
        subst this
        obtain ⟨j, hj, kj⟩ := k2
        have S2 := (S.step s1 E1).step s2 E2
        obtain ⟨p', vs', a', b', c', nP', r'⟩ := E2.sl i _ hi
        have e1 : p = p' := by rw [a] at a'; cases a'; rfl
        subst e1
        refine ⟨p, vs', n, j, rfl, rfl, b', by rw [r'.len]; exact hj, ?_⟩
        exact Kk.nx _ σ B2 _ kj (S2.mut hi rfl a c' nP ⟨p, _, a, upd_same, c', nP, RpA.setA (r1.mono s2.bb d) j r'⟩)
      | _ => exact (show False from k2).elim
    · exact k1.elim
/-! ### loops -/
def forGo (eg : EG) (eb : ES) (dead : List Nat) : List D → Env → Kn → Prop
  | [], env, k => k.nx env
  | x :: xs, env, k => eg x env fun env1 => eb env1 { nx := fun e => forGo eg eb dead xs (forg e dead) k, ct := fun e => forGo eg eb dead xs (forg e dead) k, bk := k.nx, rt := k.rt, rf := k.rf }
def sFor (ei : EL) (eg : EG) (eb : ES) (dead : List Nat) : ES := fun env k => ei env fun xs => forGo eg eb dead xs env k
theorem wb_for {wi : TI} {ei : EL} {g : TG} {eg : EG} {ts dead : List Nat} {t : TS} {e : ES} (hi : WI R wi ei) (hg : WG R ts g eg) (hb : WB R t e) : WB R (tFor wi g t) (sFor ei eg e dead) := fun P B0 H0 env σ B H D k S he Kk => by
  refine hi P env σ B H _ _ S.e he fun xs J n G B1 H1 hx s1 E1 hn hG hW => ?_
  have S1 := S.step s1 E1
  refine for_it hW (fun i σ' H' => ∃ env' B', SOk R P B0 H0 env' σ' B' H' ∧ Ex B1 B' ∧ forGo eg e dead (xs.drop i) env' k) ⟨env, B1, S1, Ex.refl _, hx⟩ (fun i σ' H' _ ⟨env', B', S', e', _⟩ => hG _ (e'.trans S'.e.bh)) ?_ ?_
  · rintro i x σ' Ha Hb hin ⟨env', B', S', e', hk⟩ y
    obtain ⟨d, B2, hxd, s2, E2, rx⟩ := yd_at S'.e (y.mono e')
    rw [drop_cons hxd] at hk
    have S2 := S'.step s2 E2
    refine hg P env' σ' B2 Hb x d _ _ E2 rx hk fun env3 σ3 k3 E3 _ sm nm => ?_
    have S3 : SOk R P B0 H0 env3 σ3 B2 Hb := ⟨E3, S2.s, fun j sv p h m q => by
      by_cases n : j ∈ ts
      · rw [nm j n sv h] at m; cases m
      · rw [(sm j n).1] at h
        rw [(sm j n).2] at q
        exact S2.fr j sv p h m q⟩
    -- the same, told of the base of now
    have re : SOk R P B2 H0 env3 σ3 B2 Hb := ⟨E3, ⟨Ex.refl _, S3.s.bh, S3.s.hh, fun b o h => .inl h⟩, S3.fr⟩
    have back : ∀ {B' H' : Hp}, Step P B2 H0 B' H' → Step P B0 H0 B' H' := fun s => ⟨S3.s.bb.trans s.bb, s.bh, s.hh, fun b o h => by
      rcases s.nw b o h with w | w
      · exact S3.s.nw b o w
      · exact .inr w⟩
    have go : ∀ env4 σ4 B4 H4, forGo eg e dead (xs.drop (i + 1)) (forg env4 dead) k → SOk R P B2 H0 env4 σ4 B4 H4 → ∃ env' B', SOk R P B0 H0 env' σ4 B' H4 ∧ Ex B1 B' ∧ forGo eg e dead (xs.drop (i + 1)) env' k := fun env4 σ4 B4 H4 k4 S4 =>
      ⟨_, B4, SOk.forg ⟨S4.e, back S4.s, S4.fr⟩ dead, (e'.trans s2.bb).trans S4.s.bb, k4⟩
    exact hb P B2 H0 env3 σ3 B2 Hb _ _ re k3 ⟨go, fun d v B H kd s po r => Kk.rt d v B H kd (back s) po r, fun l p vs B H kl s po hp hb hh r => Kk.rf l p vs B H kl (back s) po hp hb hh r, fun env σ B H kb S => Kk.nx env σ B H kb ⟨S.e, back S.s, S.fr⟩, go⟩
  · rintro σ' H' ⟨env', B', S', _, hk⟩
    rw [← hn, List.drop_length] at hk
    exact Kk.nx env' σ' B' H' hk S'
def sBrk : ES := fun env k => k.bk env
def sCnt : ES := fun env k => k.ct env
theorem wb_brk : WB R tBreak sBrk := fun P B0 H0 env σ B H D k S he K => K.bk env σ B H he S
theorem wb_cnt : WB R tCont sCnt := fun P B0 H0 env σ B H D k S he K => K.ct env σ B H he S
def sWhile (e : EB) (b : ES) : ES := fun env k => ∃ I : Nat → Env → Prop, (∃ m, I m env) ∧ ∀ m env, I m env → e env fun c => if c = true then b env { nx := fun env' => ∃ m', m' < m ∧ I m' env', ct := fun env' => ∃ m', m' < m ∧ I m' env', bk := k.nx, rt := k.rt, rf := k.rf } else k.nx env
theorem wb_while {t : TT} {u : TS} {e : EB} {b : ES} (h : WT R t e) (hb : WB R u b) : WB R (tWhile t u) (sWhile e b) := fun P B0 H0 env σ B H D k S he Kk => by
  obtain ⟨I, ⟨m, hm⟩, hI⟩ := he
  refine ⟨fun m σ H => ∃ env B, SOk R P B0 H0 env σ B H ∧ I m env, ⟨m, env, B, S, hm⟩, ?_⟩
  rintro m σ H ⟨env, B, S, hi⟩
  refine h P env σ B H _ _ S.e (hI m env hi) fun c B' H' kc s E => ?_
  have S' := S.step s E
  cases c with
  | true =>
    have kc : b env { nx := fun env' => ∃ m', m' < m ∧ I m' env', ct := fun env' => ∃ m', m' < m ∧ I m' env', bk := k.nx, rt := k.rt, rf := k.rf } := by simpa using kc
    refine iteT ?_
    refine ⟨fun σ' H' => ∃ m', m' < m ∧ ∃ env B, SOk R P B0 H0 env σ' B H' ∧ I m' env, fun σ' H' ⟨m', hl, q⟩ => ⟨m', hl, q⟩, ?_⟩
    have go : ∀ env4 σ4 B4 H4, (∃ m', m' < m ∧ I m' env4) → SOk R P B0 H0 env4 σ4 B4 H4 → ∃ m', m' < m ∧ ∃ env B, SOk R P B0 H0 env σ4 B H4 ∧ I m' env := fun env4 σ4 B4 H4 ⟨m', hl, q⟩ S4 => ⟨m', hl, env4, B4, S4, q⟩
    exact hb P B0 H0 env σ B' H' _ _ S' kc ⟨go, Kk.rt, Kk.rf, Kk.nx, go⟩
  | false =>
    have kc : k.nx env := by simpa using kc
    refine iteF ?_
    exact Kk.nx env σ B' H' kc S'
/-! ### defs -/
/-- a def that takes data; with pot = true the pot is ahead of it -/
def spE (R : OR) (pot : Bool) (n : Nat) (ef : List D → (D → Prop) → Prop) : Sp := fun vs H Q _ => ∃ P B us ds k, (P = none ∧ pot = false ∧ vs = us ∨ ∃ p, P = some p ∧ pot = true ∧ vs = .ref p :: us) ∧ PotOk P H ∧ (∀ p, P = some p → B p = none) ∧ Ex B H ∧ RpA R B us ds ∧ ds.length = n ∧ ef ds k ∧
  ∀ d v B' H', k d → Step P B H B' H' → PotOk P H' → Rp R B' v d → Q v H'
def spF (R : OR) (pot : Bool) (n : Nat) (ef : List D → (List D → Prop) → Prop) : Sp := fun vs H Q _ => ∃ P B us ds k, (P = none ∧ pot = false ∧ vs = us ∨ ∃ p, P = some p ∧ pot = true ∧ vs = .ref p :: us) ∧ PotOk P H ∧ (∀ p, P = some p → B p = none) ∧ Ex B H ∧ RpA R B us ds ∧ ds.length = n ∧ ef ds k ∧
  ∀ l p vs' B' H', k l → Step P B H B' H' → PotOk P H' → H p = none → B' p = none → H' p = some (.lst vs') → RpA R B' vs' l → Q (.ref p) H'
def eCall (n : Nat) (ef : List D → (D → Prop) → Prop) (ea : EL) : EE := fun env k => ea env fun ds => ds.length = n ∧ ef ds k
def eCallF (n : Nat) (ef : List D → (List D → Prop) → Prop) (ea : EL) : EL := fun env k => ea env fun ds => ds.length = n ∧ ef ds k
theorem Step.of0 {P : Option Addr} {B H B' H' : Hp} (s : Step none B H B' H') : Step P B H B' H' := ⟨s.bb, s.bh, fun b o h _ => s.hh b o h (fun z => nomatch z), s.nw⟩
theorem Step.ex0 {B H B' H' : Hp} (s : Step none B H B' H') : Ex H H' := fun b o h => s.hh b o h (fun z => nomatch z)
theorem we_call {n : Nat} {ef : List D → (D → Prop) → Prop} {tas : TA} {eas : EL} {E : XK} (h : WA R tas eas) : WE R (tCall (spE R false n ef) [] E tas) (eCall n ef eas) := fun P env σ B H Q k Ev he q =>
  h P env σ B H _ _ Ev he fun ds vs B1 H1 kd s1 E1 r1 => by
    rw [List.append_nil]
    refine ⟨none, B1, vs, ds, k, .inl ⟨rfl, rfl, rfl⟩, fun _ z => (nomatch z), fun _ z => (nomatch z), E1.bh, r1, kd.1, kd.2, fun d v B2 H2 k2 s2 _ r2 => ?_⟩
    have po := E1.pot.ex s2.ex0
    exact q d v B2 H2 k2 (s1.trans E1.pot s2.of0) (E1.step s2.of0 po) r2
theorem wf_call {n : Nat} {ef : List D → (List D → Prop) → Prop} {tas : TA} {eas : EL} {E : XK} (h : WA R tas eas) : WF R (tCall (spF R false n ef) [] E tas) (eCallF n ef eas) := fun P env σ B H Q k Ev he q =>
  h P env σ B H _ _ Ev he fun ds vs B1 H1 kd s1 E1 r1 => by
    rw [List.append_nil]
    refine ⟨none, B1, vs, ds, k, .inl ⟨rfl, rfl, rfl⟩, fun _ z => (nomatch z), fun _ z => (nomatch z), E1.bh, r1, kd.1, kd.2, fun l p vs' B2 H2 k2 s2 _ hp hb hh r2 => ?_⟩
    have po := E1.pot.ex s2.ex0
    exact q l p vs' B2 H2 k2 (s1.trans E1.pot s2.of0) (E1.step s2.of0 po) (fresh_backP s1.hh (fresh_pot E1.pot hp) hp) hb hh r2
/-- the pot is the i-th slot -/
def eCallP (i n : Nat) (ef : List D → (D → Prop) → Prop) (ea : EL) : EE := fun env k => env[i]? = some .pot ∧ ea env fun ds => ds.length = n ∧ ef ds k
def eCallPF (i n : Nat) (ef : List D → (List D → Prop) → Prop) (ea : EL) : EL := fun env k => env[i]? = some .pot ∧ ea env fun ds => ds.length = n ∧ ef ds k
theorem we_callP {i n : Nat} {ef : List D → (D → Prop) → Prop} {tas : TA} {eas : EL} {E : XK} (h : WA R tas eas) : WE R (tCall (spE R true n ef) [] E (tCons (tVar i) tas)) (eCallP i n ef eas) := fun P env σ B H Q k Ev he q => by
  obtain ⟨hi, he⟩ := he
  obtain ⟨p, hP, hs⟩ := Ev.sl i _ hi
  refine ⟨_, hs, h P env σ B H _ _ Ev he fun ds vs B1 H1 kd s1 E1 r1 => ?_⟩
  dsimp only
  rw [List.append_nil]
  exact ⟨P, B1, vs, ds, k, .inr ⟨p, hP, rfl, rfl⟩, E1.pot, E1.pb, E1.bh, r1, kd.1, kd.2, fun d v B2 H2 k2 s2 po r2 => q d v B2 H2 k2 (s1.trans E1.pot s2) (E1.step s2 po) r2⟩
theorem wf_callP {i n : Nat} {ef : List D → (List D → Prop) → Prop} {tas : TA} {eas : EL} {E : XK} (h : WA R tas eas) : WF R (tCall (spF R true n ef) [] E (tCons (tVar i) tas)) (eCallPF i n ef eas) := fun P env σ B H Q k Ev he q => by
  obtain ⟨hi, he⟩ := he
  obtain ⟨p, hP, hs⟩ := Ev.sl i _ hi
  refine ⟨_, hs, h P env σ B H _ _ Ev he fun ds vs B1 H1 kd s1 E1 r1 => ?_⟩
  dsimp only
  rw [List.append_nil]
  exact ⟨P, B1, vs, ds, k, .inr ⟨p, hP, rfl, rfl⟩, E1.pot, E1.pb, E1.bh, r1, kd.1, kd.2, fun l p vs' B2 H2 k2 s2 po hp hb hh r2 => q l p vs' B2 H2 k2 (s1.trans E1.pot s2) (E1.step s2 po) (fresh_backP s1.hh (fresh_pot E1.pot hp) hp) hb hh r2⟩
/-- the slots at a def's entry -/
def env0 (pot : Bool) (N : List Str) (ds : List D) : Env := (if pot then [SV.pot] else []) ++ ds.map SV.val ++ List.replicate (N.length - ((if pot then 1 else 0) + ds.length)) SV.un
def knE (k : D → Prop) : Kn := { nx := fun _ => k .non, rt := k, rf := fun l => k (.lst l) }
def knF (k : List D → Prop) : Kn := { nx := fun _ => False, rt := fun _ => False, rf := k }
theorem start_ok {P : Option Addr} {B H : Hp} {pot : Bool} {N : List Str} {vs us : List V} {ds : List D} (hP : P = none ∧ pot = false ∧ vs = us ∨ ∃ p, P = some p ∧ pot = true ∧ vs = .ref p :: us) (po : PotOk P H) (pb : ∀ p, P = some p → B p = none) (bh : Ex B H) (r : RpA R B us ds) : SOk R P B H (env0 pot N ds) (L2.start N vs) B H := by
  have hl := r.len
  have valAt : ∀ (i : Nat) (sv : SV), (ds.map SV.val)[i]? = some sv → ∃ d v, sv = SV.val d ∧ us[i]? = some v ∧ Rp R B v d := fun i sv h => by
    rw [List.getElem?_map] at h
    obtain ⟨d, hd, e⟩ := Option.map_eq_some_iff.mp h
    obtain ⟨v, hv, rv⟩ := r.get hd
    exact ⟨d, v, e.symm, hv, rv⟩
  have unAt : ∀ {n i : Nat} {sv : SV}, (List.replicate n SV.un)[i]? = some sv → sv = .un := fun h => (List.mem_replicate.mp (List.mem_of_getElem? h)).2
  have sl : ∀ i sv, (env0 pot N ds)[i]? = some sv → SlotOk R P (L2.start N vs) B H i sv ∧ isM sv = false := by
    intro i sv h
    rcases hP with ⟨rfl, rfl, rfl⟩ | ⟨p, rfl, rfl, rfl⟩
    · have h : (([] : Env) ++ ds.map SV.val ++ List.replicate (N.length - (0 + ds.length)) SV.un)[i]? = some sv := h
      rw [List.nil_append] at h
      by_cases hi : i < (ds.map SV.val).length
      · rw [List.getElem?_append_left hi] at h
        obtain ⟨d, v, rfl, hv, rv⟩ := valAt i sv h
        refine ⟨⟨v, ?_, rv⟩, rfl⟩
        unfold L2.start
        rw [List.getElem?_append_left (by rw [List.length_map, hl]; simpa using hi), List.getElem?_map, hv]
        rfl
      · rw [List.getElem?_append_right (by omega)] at h
        rw [unAt h]
        exact ⟨trivial, rfl⟩
    · have h : (([SV.pot] : Env) ++ ds.map SV.val ++ List.replicate (N.length - (1 + ds.length)) SV.un)[i]? = some sv := h
      cases i with
      | zero =>
        cases h
        refine ⟨⟨p, rfl, rfl⟩, rfl⟩
      | succ i =>
        have h : (ds.map SV.val ++ List.replicate (N.length - (1 + ds.length)) SV.un)[i]? = some sv := h
        by_cases hi : i < (ds.map SV.val).length
        · rw [List.getElem?_append_left hi] at h
          obtain ⟨d, v, rfl, hv, rv⟩ := valAt i sv h
          refine ⟨⟨v, ?_, rv⟩, rfl⟩
          show (((V.ref p :: us).map some) ++ _)[i + 1]? = _
          rw [List.map_cons, List.cons_append, List.getElem?_cons_succ, List.getElem?_append_left (by rw [List.length_map, hl]; simpa using hi), List.getElem?_map, hv]
          rfl
        · rw [List.getElem?_append_right (by omega)] at h
          rw [unAt h]
          exact ⟨trivial, rfl⟩
  refine ⟨{ len := ?_, bh := bh, pot := po, pb := pb, sl := fun i sv h => (sl i sv h).1, nd := fun a b x y q ha hb mx my sa sb => by rw [(sl a x ha).2] at mx; cases mx }, .refl bh, fun i sv p h m => by rw [(sl i sv h).2] at m; cases m⟩
  rcases hP with ⟨rfl, rfl, rfl⟩ | ⟨p, rfl, rfl, rfl⟩
  · unfold L2.start env0
    simp [hl]
  · unfold L2.start env0
    simp [hl, Nat.add_comm]
/-- a def's body, read -/
theorem body_E {t : TS} {es : ES} {pot : Bool} {N : List Str} {n : Nat} (w : WB R t es) {vs : List V} {H : Hp} {Q : VK} {E : XK} (h : spE R pot n (fun ds k => es (env0 pot N ds) (knE k)) vs H Q E) : t { nx := fun _ H' => Q .non H', rt := Q } (L2.start N vs) H := by
  obtain ⟨P, B, us, ds, k, hP, po, pb, bh, r, hn, he, q⟩ := h
  refine w P B H _ _ B H _ (knE k) (start_ok hP po pb bh r) he ⟨fun env σ B' H' kk S => q .non .non B' H' kk S.s S.e.pot rp_non, fun d v B' H' kk s po r => q d v B' H' kk s po r, fun l p vs B' H' kk s po hp hb hh r => ?_, fun _ _ _ _ z => z.elim, fun _ _ _ _ z => z.elim⟩
  have e : Ex B' (upd B' p (.lst vs)) := Ex.new hb
  refine q (.lst l) (.ref p) (upd B' p (.lst vs)) H' kk ⟨s.bb.trans e, fun b o k => ?_, s.hh, fun b o k => ?_⟩ po (rp_lst upd_same (r.mono e l))
  · by_cases n : b = p
    · subst n; rw [upd_same] at k; cases k; exact hh
    · rw [upd_ne n] at k; exact s.bh b o k
  · by_cases n : b = p
    · subst n; exact .inr (.inl hp)
    · rw [upd_ne n] at k; exact s.nw b o k
theorem body_F {t : TS} {es : ES} {pot : Bool} {N : List Str} {n : Nat} (w : WB R t es) {vs : List V} {H : Hp} {Q : VK} {E : XK} (h : spF R pot n (fun ds k => es (env0 pot N ds) (knF k)) vs H Q E) : t { nx := fun _ H' => Q .non H', rt := Q } (L2.start N vs) H := by
  obtain ⟨P, B, us, ds, k, hP, po, pb, bh, r, hn, he, q⟩ := h
  exact w P B H _ _ B H _ (knF k) (start_ok hP po pb bh r) he ⟨fun _ _ _ _ z => z.elim, fun _ _ _ _ z => z.elim, q, fun _ _ _ _ z => z.elim, fun _ _ _ _ z => z.elim⟩
theorem len_E {pot : Bool} {n : Nat} {ef : List D → (D → Prop) → Prop} {vs : List V} {H : Hp} {Q : VK} {E : XK} (h : spE R pot n ef vs H Q E) : vs.length = (if pot then 1 else 0) + n := by
  obtain ⟨P, B, us, ds, k, hP, po, pb, bh, r, hn, he, q⟩ := h
  rcases hP with ⟨rfl, rfl, rfl⟩ | ⟨p, rfl, rfl, rfl⟩
  · rw [r.len, hn]; simp
  · rw [List.length_cons, r.len, hn]; simp; omega
theorem len_F {pot : Bool} {n : Nat} {ef : List D → (List D → Prop) → Prop} {vs : List V} {H : Hp} {Q : VK} {E : XK} (h : spF R pot n ef vs H Q E) : vs.length = (if pot then 1 else 0) + n := by
  obtain ⟨P, B, us, ds, k, hP, po, pb, bh, r, hn, he, q⟩ := h
  rcases hP with ⟨rfl, rfl, rfl⟩ | ⟨p, rfl, rfl, rfl⟩
  · rw [r.len, hn]; simp
  · rw [List.length_cons, r.len, hn]; simp; omega
end
end DL
set_option Elab.async false
set_option linter.all false
set_option maxRecDepth 100000
set_option maxHeartbeats 4000000
/-! sorted(xs) of data of one shape: a new list, in the order of Python; R says what an item stands for, enc what it reads as -/
namespace SD
open PySem PySem.Spec PyProof.Rows L2 PySem.W
def rSortD (K : PySem.W.Frag) : List V → Hp → VK → Prop := fun vs H Q => ∃ (β : Type) (R : V → β → Prop) (enc : β → PyData) (a : Addr) (xs : List V) (bs : List β), vs = [V.ref a] ∧ SqL K H a xs ∧
  Paired R xs bs ∧ (∀ x b, R x b → Dp K H x (enc b)) ∧ AllAlike (bs.map enc) ∧ Sortable (bs.map enc) ∧ (∀ b ∈ bs, (enc b).depth ≤ 50) ∧
  ∀ ys p, Paired R ys (bs.mergeSort (dataLe false enc)) → H p = none → Q (.ref p) (upd H p (.lst ys))
def Rv {β : Type} (R : V → β → Prop) (v : Value) (b : β) : Prop := ∃ x, RelV x v ∧ R x b
theorem each_of {β : Type} {R : V → β → Prop} : ∀ {xs : List V} {us : List Value} {bs : List β}, Vals xs us → Paired R xs bs → EachIs (Rv R) us bs
  | _, _, _, .nil, .nil => .nil
  | _, _, _, .cons r t, .cons s u => .cons ⟨_, r, s⟩ (each_of t u)
theorem each_back {β : Type} {R : V → β → Prop} : ∀ {us : List Value} {bs : List β}, EachIs (Rv R) us bs → ∃ xs, Vals xs us ∧ Paired R xs bs
  | _, _, .nil => ⟨[], .nil, .nil⟩
  | _, _, .cons ⟨x, r, s⟩ t => by
    obtain ⟨xs, h1, h2⟩ := each_back t
    exact ⟨x :: xs, .cons r h1, .cons s h2⟩
section
variable {X : Cx}
theorem each_reads {β : Type} {R : V → β → Prop} {pins : List (Addr × Obj)} {σ : L2.St} {H : Hp} {s : Shared} (I : Inv X pins σ H s) (enc : β → PyData) (h : ∀ x b, R x b → Dp X.K H x (enc b)) : ∀ {us : List Value} {bs : List β}, EachIs (Rv R) us bs → EachIs (fun v b => ∃ as, Reads s.heap v (enc b) as) us bs
  | _, _, .nil => .nil
  | _, _, .cons ⟨x, r, q⟩ t => .cons (Dp.reads I _ _ _ (h _ _ q) r) (each_reads I enc h t)
theorem cr_sortD (hu : X.A.units + 64 < cLine) : CallR X (.builtin "sorted") (rSortD X.K) := by
  intro pins s σ H vs us Q I r h
  obtain ⟨β, R, enc, a, xs, bs, rfl, hs, hp, hd, hal, hk, hdp, q⟩ := h
  obtain ⟨its, rv, hl, hz⟩ := I.list hs
  rw [Vals.ref1 r]
  have e1 := each_of rv hp
  have lb : xs.length = bs.length := PySem.Paired.length hp
  refine sorted_data (R := Rv R) (bs := bs) (enc := enc) (vs := its) hl.isList e1 (each_reads I enc hd e1) hal hk (by rw [← lb]; exact hz) (fun x m => ?_) fun out ho he => ?_
  · have := hdp x m
    omega
  · have kp : ∀ b o, s.heap.get? b = some o → (sortedAll s.heap its out.toArray).get? b = some o := fun b o e => sortedAll_old e
    have sz : s.heap.objs.size ≤ s.heap.objs.size + 1 := Nat.le_succ _
    obtain ⟨n, hn⟩ := sortedAll_at s.heap its out.toArray
    obtain ⟨ys, rm, pm⟩ := each_back he
    have ly : ys.length = xs.length := by
      rw [PySem.Paired.length pm, List.length_mergeSort, lb]
    refine ⟨.ref _, upd H _ (.lst ys), I.laid (t' := s.toks) kp sz ⟨?_, out, n, rm, hn⟩, rfl, q ys _ pm (I.hok.fresh sz)⟩
    rw [ly]
    exact hz
end
end SD
set_option Elab.async false
set_option linter.all false
set_option maxRecDepth 100000
set_option maxHeartbeats 4000000
/-! defs that ask for a written form: run where no written form is under way; calls by keywords alone -/
namespace G8
open PySem PySem.Spec PyProof.Rows L2
structure FnOkG (P : Program) (w : World) (K : PySem.W.Frag) (mg : Str → Option Value) (base : Heap) (CX : CXT) (k : Nat) (f : Addr) (fd : FuncData) (ps : List Str) (sp : Sp) : Prop where
  len : ∀ vs H Q E, sp vs H Q E → vs.length = ps.length
  run : ∀ (A : Around) (outer : List Env) (s : Shared) (H : Hp) (args : Args) (us : List Value) (vs : List V) (Q : VK) (E : XK), Room k A → A.guards = some [] → Env0 P w K mg base A outer s H → BindsTo s fd args (ps.zip us) → Vals vs us → sp vs H Q E →
    codeAny (model P w) A (.call (.ref f) args) (CR CX outer P w H s Q E) s
section
variable {X : Cx} {CX : CXT} {k : Nat} {f : Addr} {fd : FuncData} {ps : List Str} {sp : Sp} {E : XK} {ds : List Value} {dvs : List V}
theorem run_fnG {pins : List (Addr × Obj)} {σ : L2.St} {H : Hp} {s : Shared} {Q : VK} {us : List Value} {vs : List V} (F : FnOkG X.prog X.w X.K X.mg X.base CX k f fd ps sp) (hr : Room k X.A) (hG : X.A.guards = some []) (hb : L2.Binds X.K fd ps ds) (hd : Vals dvs ds) (hx : Passes CX X E)
    (I : Inv X pins σ H s) (r : Vals vs us) (h : sp (vs ++ dvs) H Q E) : wpAny (model X.prog X.w) X.A (call (.ref f) us) (EP X pins σ Q) X.xe s := by
  have r2 : Vals (vs ++ dvs) (us ++ ds) := r.append hd
  have hl : (us ++ ds).length = ps.length := by rw [← r2.length]; exact F.len _ _ _ _ h
  refine wpAny_call (codeAny_mono (F.run X.A X.stack s H ⟨us, []⟩ (us ++ ds) (vs ++ dvs) Q E hr hG I.env0 (hb s us I.kIn hl) r2 h) fun r s' hq => ?_)
  cases r with
  | error e => exact hx pins σ H s e s' I hq
  | ok fl =>
    cases fl with
    | ret u => exact I.after hq
    | next => exact False.elim hq
    | brk => exact False.elim hq
    | cont => exact False.elim hq
theorem pe_callG {x : Str} {p pos : Pos} {e : Expr} {es : List Expr} {t : TA} (F : FnOkG X.prog X.w X.K X.mg X.base CX k f fd ps sp) (hr : Room k X.A) (hG : X.A.guards = some []) (hg : Gl X x) (hm : X.mg x = some (.ref f)) (hk : PySem.W.keepIn X.K (.ref f) = true) (hb : L2.Binds X.K fd ps ds) (hd : Vals dvs ds) (hx : Passes CX X E)
    (ha : PA X (e :: es) t) (hdb : (x == ("__debug__" : Str)) = false := by decide) (he : starEach (e :: es) X.env = (false, eval e X.env) :: starEach es X.env := by rfl) (hpl : (backTo pos (starEach es X.env)).any (·.1) = false := by rfl) :
    PE X (.Call (.Name x p) (e :: es) [] pos) (tCall sp dvs E t) := by
  refine ⟨fun pins s σ H Q I h => ?_⟩
  refine wpAny_Call_Name_kw (ld_glob I hg hm ?_ hdb)
  refine PySem.W.callWith_K (h₀ := X.base) I.ok.mod.kin hk (thn (ha.run pos pins s σ H _ I h) fun us s1 ⟨vs, H1, I1, r, q⟩ => ⟨I1.kIn, ?_⟩) he hpl
  exact run_fnG F hr hG hb hd hx I1 r q
/-- f(a = .., b = ..): no argument by place -/
theorem pe_callK0 {x : Str} {p pos : Pos} {kws : List Keyword} {ks : List Str} {tk : TA} {g : List Value → List Value → List Value} {gV : List V → List V → List V} (F : FnOk X.prog X.w X.K X.mg X.base CX k f fd ps sp) (hr : Room k X.A) (hg : Gl X x) (hm : X.mg x = some (.ref f)) (hk : PySem.W.keepIn X.K (.ref f) = true) (hb : KBinds X.K fd ps ks g gV) (hx : Passes CX X E)
    (hkw : PK X kws tk) (hall : (backToKw pos (keywordEach kws X.env)).all (·.1.isSome) = true := by rfl) (hks : (backToKw pos (keywordEach kws X.env)).filterMap (·.1) = ks := by rfl)
    (hdb : (x == ("__debug__" : Str)) = false := by decide)
    (hpl : ((backTo pos (starEach [] X.env)).any (·.1) || (backToKw pos (keywordEach kws X.env)).any (·.1.isNone)) = false := by rfl) :
    PE X (.Call (.Name x p) [] kws pos) (tCallK sp gV E tNil tk) := by
  refine ⟨fun pins s σ H Q I h => ?_⟩
  refine wpAny_Call_Name_kw (ld_glob I hg hm ?_ hdb)
  refine PySem.W.callWith_KW0 (h₀ := X.base) I.ok.mod.kin hk hall ?_ hpl
  refine thn (hkw.run pos pins s σ H _ I h) fun ws s2 ⟨zs, H2, I2, rz, q2⟩ => ⟨I2.kIn, ?_⟩
  rw [hks]
  exact run_fnk F hr hb hx I2 .nil rz q2
/-! ### a written form -/
def rRepr (K : PySem.W.Frag) : List V → Hp → VK → Prop := fun xs H Q => ∃ a d, xs = [.ref a] ∧ Dp K H (.ref a) d ∧ d.showable = true ∧ d.hasDict = false ∧ d.depth ≤ 60 ∧ d.shown.length ≤ sizeLine ∧ Q (.str d.shown) H
theorem cr_repr (hG : X.A.guards = some []) (hu : X.A.units + 64 < cLine) : CallR X (.builtin "repr") (rRepr X.K) := by
  intro pins s σ H xs us Q I r h
  obtain ⟨a, d, rfl, hD, hs, hh, hd, hz, q⟩ := h
  obtain ⟨u, rfl, ru⟩ := vals1 r
  obtain rfl : u = Value.ref a := ru
  obtain ⟨as, R⟩ := hD.reads I _ _ (Value.ref a) rfl
  refine repr_of_reads' R hs (PyData.noDict_hsm hh) hG (by omega) (fun _ _ e => e) (fun h' u tk hk => ?_) hz
  exact ⟨.str d.shown, H, I.kept hk, ⟨u, rfl⟩, q⟩
end
section
variable {P : Program} {w : World} {K : PySem.W.Frag} {mg : Str → Option Value} {base : Heap}
theorem okG {x qual : Str} {st : Stmt} {f : Addr} {fd : FuncData} {N ps : List Str} {k : Nat} {sp : Sp} (F : Fun K x qual st f fd) (S : FnScope N ps (defScope st)) (len : ∀ vs H Q E, sp vs H Q E → vs.length = ps.length)
    (hbody : ∀ (cdv : Value) (A : Around) (outer : List Env) (s : Shared) (H : Hp) (vs : List V) (Q : VK) (E : XK), Room k (A.deeper (envOfC qual (defScope st) s.heap.objs.size f cdv)) → (A.deeper (envOfC qual (defScope st) s.heap.objs.size f cdv)).guards = some [] → sp vs H Q E →
      ∃ t, PSs (cxOf CX0 P w K mg base N qual (defScope st) f cdv A outer s H E).nox (defBody st) t ∧ t { nx := fun _ H' => Q .non H', rt := Q } (start N vs) H) : FnOkG P w K mg base CX0 (k + 1) f fd ps sp := by
  obtain ⟨oc, od, kV, doc, pm, an, cdv, ct, osl, rfl, lk, hcd⟩ := F.ex
  refine ⟨len, fun A outer s H args us vs Q E hr hG e0 hb r hsp => ?_⟩
  -- what fn_of does, at A alone
  have hl := len _ _ _ _ hsp
  have KX : K.In s.heap := e0.mod.kin.keeps fun b o e => (e0.bs b o e).1
  have lim : s.heap.NoLimit := e0.mod.nolimit.keeps fun b o e => (e0.bs b o e).1
  have hkind : ∀ y ∈ ps.zip us, (defScope st).names.lookup y.1 = some .local ∨ ((defScope st).names.lookup y.1 = some .cell ∧ ((cellsFrom (s.heap.objs.size + 1) (defScope st).names []).lookup y.1).isSome = true) := fun ⟨n, v⟩ hy => by
    rcases S.par n (List.of_mem_zip hy).1 with q | q
    · exact .inl q
    · exact .inr ⟨q, PySem.W.cellsFrom_some _ _ _ (.inl q)⟩
  refine codeAny_call_function hr.depth (KX _ _ lk) rfl S.co S.gen rfl (PySem.W.codeRec_of KX hcd) (hb _ _ _ _ ?_)
  refine wpAny_newFunctionEnv_cells S.kind hkind fun env he s1 x => ?_
  subst he
  refine ⟨lim.keeps x.toInCall.keep, codeAny_func ?_⟩
  obtain ⟨t, ht, hq⟩ := hbody cdv A outer s H vs Q E (hr.deeper _) hG hsp
  have I : Inv (cxOf CX0 P w K mg base N qual (defScope st) f cdv A outer s H E) [] (start N vs) H s1 := inv_start S hr.hd e0 hl r x
  refine wpAny_mono (ht.nox.run [] s1 (start N vs) H _ I hq) (fun fl s' hs => ?_) fun e s' hs => hs
  have fin : ∀ {σ' : L2.St} {H' : Hp} {v : V} {u : Value}, Inv (cxOf CX0 P w K mg base N qual (defScope st) f cdv A outer s H E) [] σ' H' s' → RelV v u → Q v H' → CE outer P w H s Q u s' :=
    fun {σ' H' v u} J rv q => ⟨v, H', J.os, J.bare, J.base, J.hok, rv, q⟩
  cases fl with
  | ret u =>
    obtain ⟨v, σ', H', J, rv, q⟩ := hs
    exact fin J rv q
  | next =>
    obtain ⟨σ', H', J, q⟩ := hs
    exact fin (v := V.non) (u := Value.none) J rfl q
  | brk =>
    obtain ⟨_, _, _, q⟩ := hs
    exact False.elim q
  | cont =>
    obtain ⟨_, _, _, q⟩ := hs
    exact False.elim q
end
end G8
set_option Elab.async false
set_option linter.all false
set_option maxRecDepth 100000
set_option maxHeartbeats 4000000
/-! operators and builtins, told of data -/
namespace DL
open PySem PySem.Spec PyProof.Rows L2
open Evl (Ex)
/-! ### as the library's data -/
mutual
def toPy : D → PyData
  | .non => .none
  | .bl b => .bool b
  | .int i => .int i
  | .str s => .str s
  | .lst l => .list (toPys l)
  | .tup l => .tuple (toPys l)
  | .ty _ => .none
  | .dk _ _ => .none
  | .dt _ _ => .none
  | .ob _ => .none
  | .rg _ => .none
def toPys : List D → List PyData
  | [] => []
  | d :: ds => toPy d :: toPys ds
end
mutual
def isPy : D → Bool
  | .non => true
  | .bl _ => true
  | .int _ => true
  | .str _ => true
  | .lst l => isPys l
  | .tup l => isPys l
  | .ty _ => false
  | .dk _ _ => false
  | .dt _ _ => false
  | .ob _ => false
  | .rg _ => false
def isPys : List D → Bool
  | [] => true
  | d :: ds => isPy d && isPys ds
end
theorem toPys_map : ∀ l : List D, toPys l = l.map toPy
  | [] => by simp only [toPys, List.map_nil]
  | d :: l => by simp only [toPys, List.map_cons, toPys_map l]
theorem isPys_all : ∀ l : List D, isPys l = l.all isPy
  | [] => by simp only [isPys, List.all_nil]
  | d :: l => by simp only [isPys, List.all_cons, isPys_all l]
section
variable {R : OR} {K : PySem.W.Frag} {B H : Hp}
mutual
theorem dp_of (bh : Ex B H) : ∀ (d : D) {v : V}, Rp R B v d → isPy d = true → Dp K H v (toPy d)
  | .non, v, h, _ => by simp only [Rp] at h; subst h; simp only [toPy]; exact .non
  | .bl _, v, h, _ => by simp only [Rp] at h; subst h; simp only [toPy]; exact .bl _
  | .int _, v, h, _ => by simp only [Rp] at h; subst h; simp only [toPy]; exact .int _
  | .str _, v, h, _ => by simp only [Rp] at h; subst h; simp only [toPy]; exact .str _
  | .lst l, v, h, k => by
    simp only [Rp] at h
    simp only [isPy] at k
    obtain ⟨p, vs, rfl, hp, a⟩ := h
    simp only [toPy]
    exact .lst (Evl.sq_of (bh _ _ hp)) (dpa_of bh l a k)
  | .tup l, v, h, k => by
    simp only [Rp] at h
    simp only [isPy] at k
    obtain ⟨p, vs, rfl, hp, a⟩ := h
    simp only [toPy]
    exact .tup (Evl.st_of (bh _ _ hp)) (dpa_of bh l a k)
  | .ty _, _, _, k => by simp [isPy] at k
  | .dk _ _, _, _, k => by simp [isPy] at k
  | .dt _ _, _, _, k => by simp [isPy] at k
  | .ob _, _, _, k => by simp [isPy] at k
  | .rg _, _, _, k => by simp [isPy] at k
theorem dpa_of (bh : Ex B H) : ∀ (l : List D) {vs : List V}, RpA R B vs l → isPys l = true → DpAll K H vs (toPys l)
  | [], [], _, _ => by simp only [toPys]; exact .nil
  | d :: l, v :: vs, h, k => by
    simp only [RpA] at h
    simp only [isPys, Bool.and_eq_true] at k
    simp only [toPys]
    exact .cons (dp_of bh d h.1 k.1) (dpa_of bh l h.2 k.2)
  | [], _ :: _, h, _ => by simp only [RpA] at h
  | _ :: _, [], h, _ => by simp only [RpA] at h
end
theorem dp_w {P : Option Addr} {v : V} {d : D} (bh : Ex B H) (h : RpW R P B H v d) (k : isPy d = true) : Dp K H v (toPy d) := by
  cases d with
  | lst l =>
    obtain ⟨p, vs, rfl, hp, a⟩ := h.lst bh
    simp only [isPy] at k
    simp only [toPy]
    exact .lst (Evl.sq_of hp) (dpa_of bh l a k)
  | _ =>
    rcases h with h | h
    · exact dp_of bh _ h k
    · first
      | exact h.elim
      | (simp [isPy] at k)
end
/-! ### results -/
section
variable {R : OR} {K : PySem.W.Frag}
theorem res_same {P : Option Addr} {B H : Hp} {Q : VK} {k : DK} {d : D} {v : V} (bh : Ex B H) (po : PotOk P H) (hk : k d) (r : ∀ B, Rp R B v d) (q : ∀ d v B' H', k d → Step P B H B' H' → PotOk P H' → Rp R B' v d → Q v H') : Q v H := q d v B H hk (.refl bh) po (r B)
theorem res_lst {P : Option Addr} {B H : Hp} {Q : VK} {k : List D → Prop} {l : List D} {vs : List V} {p : Addr} (bh : Ex B H) (po : PotOk P H) (hk : k l) (r : RpA R B vs l) (hp : H p = none) (q : ∀ l p vs B' H', k l → Step P B H B' H' → PotOk P H' → H p = none → B' p = none → H' p = some (.lst vs) → RpA R B' vs l → Q (.ref p) H') : Q (.ref p) (upd H p (.lst vs)) :=
  q l p vs B _ hk ⟨Ex.refl _, bh.trans (Ex.new hp), ExP.of (Ex.new hp), fun _ _ h => .inl h⟩ (po.ex (Ex.new hp)) hp (Evl.fresh_back bh hp) upd_same r
theorem res_tup {P : Option Addr} {B H : Hp} {Q : VK} {k : DK} {l : List D} {vs : List V} {p : Addr} (bh : Ex B H) (po : PotOk P H) (hk : k (.tup l)) (r : RpA R B vs l) (hp : H p = none) (q : ∀ d v B' H', k d → Step P B H B' H' → PotOk P H' → Rp R B' v d → Q v H') : Q (.ref p) (upd H p (.tup vs)) := by
  have hb : B p = none := Evl.fresh_back bh hp
  refine q (.tup l) (.ref p) (upd B p (.tup vs)) _ hk ⟨Ex.new hb, fun b u k => ?_, ExP.of (Ex.new hp), fun b u k => ?_⟩ (po.ex (Ex.new hp)) (rp_tup upd_same (r.mono (Ex.new hb) l))
  · by_cases e : b = p
    · subst e; rw [upd_same] at k ⊢; exact k
    · rw [upd_ne e] at k ⊢; exact bh b u k
  · by_cases e : b = p
    · subst e; exact .inr (.inl hp)
    · rw [upd_ne e] at k; exact .inl k
/-! ### numbers -/
def fI (g : Int → Int → D) : D → D → DK → Prop := fun a b k => match a, b with
  | .int i, .int j => k (g i j)
  | _, _ => False
def fIc (C : Int → Int → Prop) (g : Int → Int → D) : D → D → DK → Prop := fun a b k => match a, b with
  | .int i, .int j => C i j ∧ k (g i j)
  | _, _ => False
theorem od_I0 {f : Int → Int → V} {g : Int → Int → D} (hg : ∀ i j B, Rp R B (f i j) (g i j)) : OpD R (rI0 f) (fI g) := fun P B H x y a b Q k bh po ra rb hf q => by
  cases a with
  | int i =>
    cases b with
    | int j =>
      have := ra.int
      have := rb.int
      subst x; subst y
      exact ⟨i, j, rfl, rfl, res_same bh po hf (hg i j) q⟩
    | _ => exact hf.elim
  | _ => exact hf.elim
theorem od_I {C : Int → Int → Prop} {f : Int → Int → V} {g : Int → Int → D} (hg : ∀ i j B, Rp R B (f i j) (g i j)) : OpD R (rI C f) (fIc C g) := fun P B H x y a b Q k bh po ra rb hf q => by
  cases a with
  | int i =>
    cases b with
    | int j =>
      have := ra.int
      have := rb.int
      subst x; subst y
      exact ⟨i, j, rfl, rfl, hf.1, res_same bh po hf.2 (hg i j) q⟩
    | _ => exact hf.elim
  | _ => exact hf.elim
def subD : D → D → DK → Prop := fI fun i j => .int (i - j)
def ltD : D → D → DK → Prop := fI fun i j => .bl (decide (i < j))
def leD : D → D → DK → Prop := fI fun i j => .bl (decide (i ≤ j))
def gtD : D → D → DK → Prop := fI fun i j => .bl (decide (j < i))
def geD : D → D → DK → Prop := fI fun i j => .bl (decide (j ≤ i))
def modD : D → D → DK → Prop := fIc (fun _ j => j ≠ 0) fun i j => .int (i.fmod j)
def fdivD : D → D → DK → Prop := fIc CDivN fun i j => .int (i.fdiv j)
theorem od_sub : OpD R (rI0 fun i j => .int (i - j)) subD := od_I0 fun _ _ _ => rp_int
theorem od_lt : OpD R (rI0 fun i j => .bl (decide (i < j))) ltD := od_I0 fun _ _ _ => rp_bl
theorem od_le : OpD R (rI0 fun i j => .bl (decide (i ≤ j))) leD := od_I0 fun _ _ _ => rp_bl
theorem od_gt : OpD R (rI0 fun i j => .bl (decide (j < i))) gtD := od_I0 fun _ _ _ => rp_bl
theorem od_ge : OpD R (rI0 fun i j => .bl (decide (j ≤ i))) geD := od_I0 fun _ _ _ => rp_bl
theorem od_mod : OpD R (rI (fun _ j => j ≠ 0) fun i j => .int (i.fmod j)) modD := od_I fun _ _ _ => rp_int
theorem od_fdiv : OpD R (rI CDivN fun i j => .int (i.fdiv j)) fdivD := od_I fun _ _ _ => rp_int
def negD : D → DK → Prop := fun a k => match a with
  | .int i => k (.int (-i))
  | _ => False
theorem ud_neg : UnD R (rU fun i => .int (-i)) negD := fun P B H x a Q k bh po ra hf q => by
  cases a with
  | int i =>
    have := ra.int
    subst x
    exact ⟨i, rfl, res_same bh po hf (fun _ => rp_int) q⟩
  | _ => exact hf.elim
/-! ### + -/
def rStrAdd : R2 := fun x y H Q => ∃ i j, x = .str i ∧ y = .str j ∧ i.length + j.length ≤ sizeLine ∧ Q (.str (i ++ j)) H
def rAddU (K : PySem.W.Frag) : R2 := fun x y H Q => rI0 (fun i j => .int (i + j)) x y H Q ∨ (rCat x y H Q ∨ (rCatA K x y H Q ∨ rStrAdd x y H Q))
theorem op_addU {X : Cx} : OpR X (binaryOp .Add) (rAddU X.K) := op_add.or (op_cat.or (op_catA.or op_add_str))
def addD : D → D → DK → Prop := fun a b k => match a, b with
  | .int i, .int j => k (.int (i + j))
  | .tup l, .tup m => l.length + m.length ≤ 100000 ∧ k (.tup (l ++ m))
  | .str i, .str j => i.length + j.length ≤ 100000 ∧ k (.str (i ++ j))
  | _, _ => False
def catD : D → D → (List D → Prop) → Prop := fun a b k => match a, b with
  | .lst l, .lst m => l.length + m.length ≤ 100000 ∧ k (l ++ m)
  | _, _ => False
theorem od_add : OpD R (rAddU K) addD := fun P B H x y a b Q k bh po ra rb hf q => by
  cases a with
  | int i =>
    cases b with
    | int j => exact .inl (od_I0 (R := R) (g := fun i j => .int (i + j)) (fun _ _ _ => rp_int) P B H x y (.int i) (.int j) Q k bh po ra rb hf q)
    | _ => exact hf.elim
  | tup l =>
    cases b with
    | tup m =>
      obtain ⟨p, vs, rfl, hbp, hp, al⟩ := ra.tup bh
      obtain ⟨p', vs', rfl, hbp', hp', am⟩ := rb.tup bh
      have hf : l.length + m.length ≤ 100000 ∧ k (.tup (l ++ m)) := hf
      refine .inr (.inr (.inl ⟨p, p', vs, vs', rfl, rfl, Evl.st_of hp, Evl.st_of hp', Evl.sz_of (by rw [al.len, am.len]; exact hf.1), fun e => ?_, fun _ e => ?_, fun _ _ c hc => res_tup bh po hf.2 (al.app am) hc q⟩))
      · have : l = [] := by
          have := al.len
          rw [e] at this
          exact List.length_eq_zero_iff.mp this.symm
        subst this
        exact q _ _ B H hf.2 (.refl bh) po (rp_tup hbp' am)
      · have : m = [] := by
          have := am.len
          rw [e] at this
          exact List.length_eq_zero_iff.mp this.symm
        subst this
        rw [List.append_nil] at hf
        exact q _ _ B H hf.2 (.refl bh) po (rp_tup hbp al)
    | _ => exact hf.elim
  | str i =>
    cases b with
    | str j =>
      have := ra.str
      have := rb.str
      subst x; subst y
      have hf : i.length + j.length ≤ 100000 ∧ k (.str (i ++ j)) := hf
      exact .inr (.inr (.inr ⟨i, j, rfl, rfl, Evl.sz_of hf.1, res_same bh po hf.2 (fun _ => rp_str) q⟩))
    | _ => exact hf.elim
  | _ => exact hf.elim
theorem of_cat : OpF R (rAddU K) catD := fun P B H x y a b Q k bh po ra rb hf q => by
  cases a with
  | lst l =>
    cases b with
    | lst m =>
      obtain ⟨p, vs, rfl, hp, al⟩ := ra.lst bh
      obtain ⟨p', vs', rfl, hp', am⟩ := rb.lst bh
      have hf : l.length + m.length ≤ 100000 ∧ k (l ++ m) := hf
      exact .inr (.inl ⟨p, p', vs, vs', rfl, rfl, hp, hp', Evl.sz_of (by rw [al.len, am.len]; exact hf.1), fun c hc => res_lst bh po hf.2 (al.app am) hc q⟩)
    | _ => exact hf.elim
  | _ => exact hf.elim
/-! ### == != is in -/
def eqD : D → D → DK → Prop := fun a b k => (isPy a = true ∧ isPy b = true ∧ SeqAt.shaped (toPy a) = true ∧ SeqAt.shaped (toPy b) = true) ∧ k (.bl (PyData.eqv (toPy a) (toPy b)))
def neD : D → D → DK → Prop := fun a b k => (isPy a = true ∧ isPy b = true ∧ SeqAt.shaped (toPy a) = true ∧ SeqAt.shaped (toPy b) = true) ∧ k (.bl (!PyData.eqv (toPy a) (toPy b)))
theorem od_eq : OpD R (rEqD K) eqD := fun P B H x y a b Q k bh po ra rb hf q =>
  ⟨_, _, dp_w bh ra hf.1.1, dp_w bh rb hf.1.2.1, hf.1.2.2.1, hf.1.2.2.2, res_same bh po hf.2 (fun _ => rp_bl) q⟩
theorem od_ne : OpD R (rNeD K) neD := fun P B H x y a b Q k bh po ra rb hf q =>
  ⟨_, _, dp_w bh ra hf.1.1, dp_w bh rb hf.1.2.1, hf.1.2.2.1, hf.1.2.2.2, res_same bh po hf.2 (fun _ => rp_bl) q⟩
def isNonD : D → Bool
  | .non => true
  | _ => false
def rIsN : R2 := fun x y H Q => y = .non ∧ Q (.bl (decide (x = .non))) H
def rNotN : R2 := fun x y H Q => y = .non ∧ Q (.bl (!decide (x = .non))) H
/-- what has no None for an object of the program's own -/
def plainD : D → Bool
  | .ob _ => false
  | _ => true
def isD : D → D → DK → Prop := fun a b k => b = .non ∧ plainD a = true ∧ k (.bl (isNonD a))
def notD : D → D → DK → Prop := fun a b k => b = .non ∧ plainD a = true ∧ k (.bl (!isNonD a))
theorem non_iff {P : Option Addr} {B H : Hp} {v : V} {d : D} (bh : Ex B H) (r : RpW R P B H v d) (h : plainD d = true) : decide (v = .non) = isNonD d := by
  cases d with
  | non => rw [r.non]; rfl
  | bl b => rw [r.bl]; rfl
  | int b => rw [r.int]; rfl
  | str b => rw [r.str]; rfl
  | ty n =>
    rcases r with r | r
    · simp only [Rp] at r; subst r; rfl
    · exact r.elim
  | lst l => obtain ⟨p, vs, rfl, _⟩ := r.lst bh; rfl
  | tup l => obtain ⟨p, vs, rfl, _⟩ := r.tup bh; rfl
  | dk ks l =>
    rcases r with r | r
    · simp only [Rp] at r; obtain ⟨p, vs, rfl, _⟩ := r; rfl
    · obtain ⟨p, vs, rfl, _⟩ := r; rfl
  | dt ks l =>
    rcases r with r | r
    · simp only [Rp] at r; obtain ⟨p, vs, rfl, _⟩ := r; rfl
    · obtain ⟨p, vs, rfl, _⟩ := r; rfl
  | ob o => cases h
  | rg n =>
    rcases r with r | r
    · simp only [Rp] at r; obtain ⟨p, rfl, _⟩ := r; rfl
    · exact r.elim
theorem od_is : OpD R rIsN isD := fun P B H x y a b Q k bh po ra rb hf q => by
  obtain ⟨rfl, h, hk⟩ := hf
  refine ⟨rb.non, ?_⟩
  rw [non_iff bh ra h]
  exact res_same bh po hk (fun _ => rp_bl) q
theorem od_not : OpD R rNotN notD := fun P B H x y a b Q k bh po ra rb hf q => by
  obtain ⟨rfl, h, hk⟩ := hf
  refine ⟨rb.non, ?_⟩
  rw [non_iff bh ra h]
  exact res_same bh po hk (fun _ => rp_bl) q
def isBlD (neg : Bool) : D → D → DK → Prop := fun a b k => match a, b with
  | .bl i, .bl j => k (.bl (if neg then !decide (i = j) else decide (i = j)))
  | _, _ => False
theorem od_isB : OpD R rIsB (isBlD false) := fun P B H x y a b Q k bh po ra rb hf q => by
  cases a with
  | bl i =>
    cases b with
    | bl j =>
      have := ra.bl
      have := rb.bl
      subst x; subst y
      exact ⟨i, j, rfl, rfl, res_same bh po hf (fun _ => rp_bl) q⟩
    | _ => exact hf.elim
  | _ => exact hf.elim
theorem od_notB : OpD R rNotB (isBlD true) := fun P B H x y a b Q k bh po ra rb hf q => by
  cases a with
  | bl i =>
    cases b with
    | bl j =>
      have := ra.bl
      have := rb.bl
      subst x; subst y
      exact ⟨i, j, rfl, rfl, res_same bh po hf (fun _ => rp_bl) q⟩
    | _ => exact hf.elim
  | _ => exact hf.elim
def flV : D → Option V
  | .non => some .non
  | .bl b => some (.bl b)
  | .int i => some (.int i)
  | .str s => some (.str s)
  | _ => none
theorem flV_rp {B : Hp} {v u : V} {d : D} (h : flV d = some u) (r : Rp R B v d) : v = u ∧ flatV u = true := by
  cases d <;> simp only [flV, Option.some.injEq, reduceCtorEq] at h <;> subst h <;> simp only [Rp] at r <;> exact ⟨r, rfl⟩
theorem flVs_rp {B : Hp} : ∀ {vs us : List V} {ds : List D}, ds.map flV = us.map some → RpA R B vs ds → vs = us ∧ us.all flatV = true
  | [], [], [], _, _ => ⟨rfl, rfl⟩
  | v :: vs, u :: us, d :: ds, h, r => by
    simp only [List.map_cons, List.cons.injEq] at h
    simp only [RpA] at r
    obtain ⟨e1, f1⟩ := flV_rp h.1 r.1
    obtain ⟨e2, f2⟩ := flVs_rp h.2 r.2
    exact ⟨by rw [e1, e2], by rw [List.all_cons, f1, f2]; rfl⟩
  | _, [], d :: ds, h, _ => by simp at h
  | _, u :: us, [], h, _ => by simp at h
  | [], _ :: _, d :: ds, _, r => by simp only [RpA] at r
  | _ :: _, _, [], _, r => by simp only [RpA] at r
/-- x in a list or a tuple: of flat values, or of data in a list -/
def inD (neg : Bool) : D → D → DK → Prop := fun a b k => ∃ l, seqD b = some l ∧ ((∃ u us, flV a = some u ∧ l.map flV = us.map some ∧ k (.bl (if neg then !inV u us else inV u us))) ∨
  (b = .lst l ∧ (isPy a = true ∧ isPys l = true ∧ SeqAt.shaped (toPy a) = true ∧ SeqAt.shaped (.list (toPys l)) = true) ∧ k (.bl (if neg then !((toPys l).any fun z => PyData.eqv z (toPy a)) else (toPys l).any fun z => PyData.eqv z (toPy a)))))
def rInU (K : PySem.W.Frag) (neg : Bool) : R2 := fun x y H Q => rIn K neg x y H Q ∨ (if neg then rNotInD K x y H Q else rInD K x y H Q)
theorem op_inU {X : Cx} (hu : X.A.units + 65 < cLine) : OpR X (compareOp .In) (rInU X.K false) := op_in_seq.or (op_inD hu)
theorem op_notInU {X : Cx} (hu : X.A.units + 65 < cLine) : OpR X (compareOp .NotIn) (rInU X.K true) := op_notIn_seq.or (op_notInD hu)
theorem od_in {neg : Bool} : OpD R (rInU K neg) (inD neg) := fun P B H x y a b Q k bh po ra rb hf q => by
  obtain ⟨l, hl, h⟩ := hf
  obtain ⟨p, vs, rfl, hp, al⟩ := rb.seq bh hl
  rcases h with ⟨u, us, h1, h2, hk⟩ | ⟨rfl, h, hk⟩
  · have ra' : Rp R B x a := by
      rcases ra with r | r
      · exact r
      · cases a <;> simp [flV] at h1 <;> exact r.elim
    obtain ⟨rfl, f1⟩ := flV_rp h1 ra'
    obtain ⟨rfl, f2⟩ := flVs_rp h2 al
    refine .inl ⟨p, vs, rfl, ?_, f1, f2, res_same bh po hk (fun _ => rp_bl) q⟩
    rcases hp with hp | hp
    · exact .inl (Evl.sq_of hp)
    · exact .inr (Evl.st_of hp)
  · refine .inr ?_
    have d1 := dp_w (K := K) bh ra h.1
    have d2 := dp_w (K := K) bh rb (show isPy (.lst l) = true by simp only [isPy]; exact h.2.1)
    simp only [toPy] at d2
    cases neg with
    | false => exact ⟨_, _, d1, d2, h.2.2.1, h.2.2.2, res_same bh po hk (fun _ => rp_bl) q⟩
    | true => exact ⟨_, _, d1, d2, h.2.2.1, h.2.2.2, res_same bh po hk (fun _ => rp_bl) q⟩
/-! ### a[i], slices -/
theorem RpA.atI {B : Hp} {vs : List V} {l : List D} {i : Int} {d : D} (r : RpA R B vs l) (h : L2.atI l i = some d) : ∃ v, L2.atI vs i = some v ∧ Rp R B v d := by
  unfold L2.atI at h ⊢
  rw [r.len]
  cases e : ixN l.length i with
  | none => rw [e] at h; cases h
  | some j =>
    rw [e] at h
    exact r.get h
def ixD : D → D → DK → Prop := fun a b k => match a, b with
  | .lst l, .int i => ∃ d, L2.atI l i = some d ∧ k d
  | .tup l, .int i => ∃ d, L2.atI l i = some d ∧ k d
  | .str s, .int i => s.length ≤ 100000 ∧ ∃ c, L2.atI s.cps.toList i = some c ∧ k (.str ⟨#[c]⟩)
  | _, _ => False
theorem od_ix : OpD R (rIx K) ixD := fun P B H x y a b Q k bh po ra rb hf q => by
  cases b with
  | int i =>
    have := rb.int
    subst y
    cases a with
    | lst l =>
      obtain ⟨p, vs, rfl, hp, al⟩ := ra.lst bh
      obtain ⟨d, hd, hk⟩ := hf
      obtain ⟨v, hv, rv⟩ := al.atI hd
      exact .inl ⟨p, vs, i, v, rfl, rfl, Evl.sq_of hp, hv, q d v B H hk (.refl bh) po rv⟩
    | tup l =>
      obtain ⟨p, vs, rfl, _, hp, al⟩ := ra.tup bh
      obtain ⟨d, hd, hk⟩ := hf
      obtain ⟨v, hv, rv⟩ := al.atI hd
      exact .inr (.inl ⟨p, vs, i, v, rfl, rfl, Evl.st_of hp, hv, q d v B H hk (.refl bh) po rv⟩)
    | str s =>
      have := ra.str
      subst x
      obtain ⟨hl, c, hc, hk⟩ := hf
      exact .inr (.inr ⟨s, i, c, rfl, rfl, Evl.sz_of hl, hc, res_same bh po hk (fun _ => rp_str) q⟩)
    | _ => exact hf.elim
  | _ => cases a <;> exact hf.elim
def cutD (l : List D) (lo hi : Option Int) : List D := (l.drop (HT.sIx l.length 0 lo)).take (HT.sIx l.length l.length hi - HT.sIx l.length 0 lo)
theorem RpA.cut {B : Hp} {vs : List V} {l : List D} (r : RpA R B vs l) (lo hi : Option Int) : RpA R B (cutV vs lo hi) (cutD l lo hi) := by
  unfold cutV cutD
  rw [r.len]
  exact (r.drop _).take _
def rSlU (K : PySem.W.Frag) : V → Option Int → Option Int → Hp → VK → Prop := fun x lo hi H Q => rSlL K x lo hi H Q ∨ rSlA K x lo hi H Q
theorem sl_U {X : Cx} : SlR X (rSlU X.K) := sl_list.or sl_tupA
def slF : D → Option Int → Option Int → (List D → Prop) → Prop := fun a lo hi k => match a with
  | .lst l => k (cutD l lo hi)
  | _ => False
def slD : D → Option Int → Option Int → DK → Prop := fun a lo hi k => match a with
  | .tup l => k (.tup (cutD l lo hi))
  | _ => False
theorem sf_sl : SlF R (rSlU K) slF := fun P B H x a lo hi Q k bh po ra hf q => by
  cases a with
  | lst l =>
    obtain ⟨p, vs, rfl, hp, al⟩ := ra.lst bh
    exact .inl ⟨p, vs, rfl, Evl.sq_of hp, fun c hc => res_lst bh po hf (al.cut lo hi) hc q⟩
  | _ => exact hf.elim
theorem sd_sl : SlD R (rSlU K) slD := fun P B H x a lo hi Q k bh po ra hf q => by
  cases a with
  | tup l =>
    obtain ⟨p, vs, rfl, hbp, hp, al⟩ := ra.tup bh
    refine .inr ⟨p, vs, rfl, Evl.st_of hp, fun ⟨e1, e2⟩ => ?_, fun _ c hc => res_tup bh po hf (al.cut lo hi) hc q⟩
    refine q _ _ B H hf (.refl bh) po (rp_tup hbp ?_)
    have : cutV vs lo hi = vs := by
      unfold cutV
      rw [e1, e2]
      simp
    have z := al.cut lo hi
    rw [this] at z
    exact z
  | _ => exact hf.elim
def revF : D → (List D → Prop) → Prop := fun a k => match a with
  | .lst l => k l.reverse
  | _ => False
theorem wf_rev {te : TE} {ee : EE} (h : WO R te ee) : WF R (tRevL K te) (eUnF revF ee) := fun P env σ B H Q k E he q =>
  h P env σ B H _ _ E he fun d v B1 H1 kd s1 E1 r1 => by
    cases d with
    | lst l =>
      obtain ⟨p, vs, rfl, hp, al⟩ := r1.lst E1.bh
      refine ⟨p, vs, rfl, Evl.sq_of hp, fun c hc => ?_⟩
      refine res_lst (Q := Q) E1.bh E1.pot kd al.rev hc fun l p vs B' H' kl s po hp hb hh r => ?_
      exact q l p vs B' H' kl (s1.trans E1.pot s) (E.step (s1.trans E1.pot s) po) (fresh_backP s1.hh (fresh_pot E1.pot hp) hp) hb hh r
    | _ => exact kd.elim
/-! ### builtins -/
def lenD : D → DK → Prop := fun a k => match a with
  | .lst l => k (.int (l.length : Int))
  | .tup l => k (.int (l.length : Int))
  | .str s => s.length ≤ 100000 ∧ k (.int (s.length : Int))
  | _ => False
theorem ud_len : UnD R (fun x H Q => Ep.rLenA K [x] H Q) lenD := fun P B H x a Q k bh po ra hf q => by
  cases a with
  | lst l =>
    obtain ⟨p, vs, rfl, hp, al⟩ := ra.lst bh
    refine ⟨_, vs.length, rfl, .inl ⟨vs, Evl.sq_of hp, rfl⟩, ?_⟩
    rw [al.len]
    exact res_same bh po hf (fun _ => rp_int) q
  | tup l =>
    obtain ⟨p, vs, rfl, _, hp, al⟩ := ra.tup bh
    refine ⟨_, vs.length, rfl, .inr ⟨vs, Evl.st_of hp, rfl⟩, ?_⟩
    rw [al.len]
    exact res_same bh po hf (fun _ => rp_int) q
  | str s =>
    have := ra.str
    subst x
    exact ⟨_, s.length, rfl, ⟨Evl.sz_of hf.1, rfl⟩, res_same bh po hf.2 (fun _ => rp_int) q⟩
  | _ => exact hf.elim
def sumD : D → DK → Prop := fun a k => ∃ ns : List Int, a = .lst (ns.map .int) ∧ k (.int ns.sum)
def anyD : D → DK → Prop := fun a k => ∃ bs : List Bool, a = .lst (bs.map .bl) ∧ k (.bl (bs.any id))
def allD : D → DK → Prop := fun a k => ∃ bs : List Bool, a = .lst (bs.map .bl) ∧ k (.bl (bs.all id))
theorem ud_sum : UnD R (fun x H Q => rSum K [x] H Q) sumD := fun P B H x a Q k bh po ra hf q => by
  obtain ⟨ns, rfl, hk⟩ := hf
  obtain ⟨p, vs, rfl, hp, al⟩ := ra.lst bh
  rw [al.ints] at hp
  exact ⟨p, ns, rfl, Evl.sq_of hp, res_same bh po hk (fun _ => rp_int) q⟩
theorem ud_any : UnD R (fun x H Q => rAny K [x] H Q) anyD := fun P B H x a Q k bh po ra hf q => by
  obtain ⟨ns, rfl, hk⟩ := hf
  obtain ⟨p, vs, rfl, hp, al⟩ := ra.lst bh
  rw [al.bls] at hp
  exact ⟨p, ns, rfl, Evl.sq_of hp, res_same bh po hk (fun _ => rp_bl) q⟩
theorem ud_all : UnD R (fun x H Q => rAll K [x] H Q) allD := fun P B H x a Q k bh po ra hf q => by
  obtain ⟨ns, rfl, hk⟩ := hf
  obtain ⟨p, vs, rfl, hp, al⟩ := ra.lst bh
  rw [al.bls] at hp
  exact ⟨p, ns, rfl, Evl.sq_of hp, res_same bh po hk (fun _ => rp_bl) q⟩
def isMaxI (m : Int) (ns : List Int) : Prop := m ∈ ns ∧ ∀ y ∈ ns, y ≤ m
def isMinI (m : Int) (ns : List Int) : Prop := m ∈ ns ∧ ∀ y ∈ ns, m ≤ y
def maxD : D → DK → Prop := fun a k => ∃ ns : List Int, a = .lst (ns.map .int) ∧ 0 < ns.length ∧ ∀ m, isMaxI m ns → k (.int m)
def minD1 : D → DK → Prop := fun a k => ∃ ns : List Int, a = .lst (ns.map .int) ∧ 0 < ns.length ∧ ∀ m, isMinI m ns → k (.int m)
theorem ud_max : UnD R (fun x H Q => rMax K [x] H Q) maxD := fun P B H x a Q k bh po ra hf q => by
  obtain ⟨ns, rfl, hn, hk⟩ := hf
  obtain ⟨p, vs, rfl, hp, al⟩ := ra.lst bh
  rw [al.ints] at hp
  exact ⟨p, ns, rfl, Evl.sq_of hp, hn, fun m h1 h2 => res_same bh po (hk m ⟨h1, h2⟩) (fun _ => rp_int) q⟩
theorem ud_min : UnD R (fun x H Q => rMin K [x] H Q) minD1 := fun P B H x a Q k bh po ra hf q => by
  obtain ⟨ns, rfl, hn, hk⟩ := hf
  obtain ⟨p, vs, rfl, hp, al⟩ := ra.lst bh
  rw [al.ints] at hp
  exact ⟨p, ns, rfl, Evl.sq_of hp, hn, fun m h1 h2 => res_same bh po (hk m ⟨h1, h2⟩) (fun _ => rp_int) q⟩
def max2D : D → D → DK → Prop := fI fun i j => .int (if j > i then j else i)
def min2D : D → D → DK → Prop := fI fun i j => .int (if j < i then j else i)
def rMax2 : List V → Hp → VK → Prop := fun xs H Q => ∃ i j, xs = [.int i, .int j] ∧ Q (.int (if j > i then j else i)) H
def rMin2 : List V → Hp → VK → Prop := fun xs H Q => ∃ i j, xs = [.int i, .int j] ∧ Q (.int (if j < i then j else i)) H
theorem od_max2 : OpD R (fun x y => rMax2 [x, y]) max2D := fun P B H x y a b Q k bh po ra rb hf q => by
  cases a with
  | int i =>
    cases b with
    | int j =>
      have := ra.int
      have := rb.int
      subst x; subst y
      exact ⟨i, j, rfl, res_same bh po hf (fun _ => rp_int) q⟩
    | _ => exact hf.elim
  | _ => exact hf.elim
theorem od_min2 : OpD R (fun x y => rMin2 [x, y]) min2D := fun P B H x y a b Q k bh po ra rb hf q => by
  cases a with
  | int i =>
    cases b with
    | int j =>
      have := ra.int
      have := rb.int
      subst x; subst y
      exact ⟨i, j, rfl, res_same bh po hf (fun _ => rp_int) q⟩
    | _ => exact hf.elim
  | _ => exact hf.elim
/-- list(x) -/
def listF : D → (List D → Prop) → Prop := fun a k => match a with
  | .lst l => k l
  | .tup l => k l
  | _ => False
theorem uf_list : UnF R (fun x H Q => Ep.rListOf K [x] H Q) listF := fun P B H x a Q k bh po ra hf q => by
  have go : ∀ l, seqD a = some l → k l → Ep.rListOf K [x] H Q := fun l e hk => by
    obtain ⟨p, vs, rfl, hp, al⟩ := ra.seq bh e
    refine ⟨p, vs, rfl, ?_, fun c hc => res_lst bh po hk al hc q⟩
    rcases hp with hp | hp
    · exact .inl (Evl.sq_of hp)
    · exact .inr (Evl.st_of hp)
  cases a with
  | lst l => exact go l rfl hf
  | tup l => exact go l rfl hf
  | _ => exact hf.elim
/-- tuple(x) -/
def tupD : D → DK → Prop := fun a k => match a with
  | .lst l => k (.tup l)
  | .tup l => k (.tup l)
  | _ => False
theorem ud_tup : UnD R (fun x H Q => Ep.rTupOf K [x] H Q) tupD := fun P B H x a Q k bh po ra hf q => by
  cases a with
  | lst l =>
    obtain ⟨p, vs, rfl, hp, al⟩ := ra.lst bh
    exact ⟨p, vs, rfl, .inl ⟨Evl.sq_of hp, fun c hc => res_tup bh po hf al hc q⟩⟩
  | tup l =>
    obtain ⟨p, vs, rfl, hbp, hp, al⟩ := ra.tup bh
    exact ⟨p, vs, rfl, .inr ⟨Evl.st_of hp, q _ _ B H hf (.refl bh) po (rp_tup hbp al)⟩⟩
  | _ => exact hf.elim
/-- sorted(x), data of one kind -/
def sortF : D → (List D → Prop) → Prop := fun a k => match a with
  | .lst l => (isPys l = true ∧ PySem.W.AllAlike (l.map toPy) ∧ PySem.W.Sortable (l.map toPy) ∧ ∀ b ∈ l, (toPy b).depth ≤ 50) ∧ k (l.mergeSort (PySem.W.dataLe false toPy))
  | _ => False
theorem RpA.paired {B : Hp} : ∀ {vs : List V} {l : List D}, RpA R B vs l → Paired (Rp R B) vs l
  | [], [], _ => .nil
  | v :: vs, d :: l, h => by
    simp only [RpA] at h
    exact .cons h.1 (RpA.paired h.2)
  | [], _ :: _, h => by simp only [RpA] at h
  | _ :: _, [], h => by simp only [RpA] at h
theorem rpa_of {B : Hp} {vs : List V} {l : List D} (h : Paired (Rp R B) vs l) : RpA R B vs l := by
  induction h with
  | nil => exact .nil
  | cons r _ ih => exact .cons r ih
theorem uf_sort : UnF R (fun x H Q => SD.rSortD K [x] H Q) sortF := fun P B H x a Q k bh po ra hf q => by
  cases a with
  | lst l =>
    obtain ⟨p, vs, rfl, hp, al⟩ := ra.lst bh
    obtain ⟨⟨h1, h2, h3, h4⟩, hk⟩ := hf
    have py : ∀ d ∈ l, isPy d = true := fun d hd => by
      rw [isPys_all] at h1
      exact List.all_eq_true.mp h1 d hd
    refine ⟨D, fun v d => Rp R B v d ∧ isPy d = true, toPy, p, vs, l, rfl, Evl.sq_of hp, ?_, fun v d r => dp_of bh d r.1 r.2, h2, h3, h4, fun ys c hy hc => ?_⟩
    · have : ∀ {vs : List V} {l : List D}, RpA R B vs l → (∀ d ∈ l, isPy d = true) → Paired (fun v d => Rp R B v d ∧ isPy d = true) vs l := by
        intro vs l
        induction l generalizing vs with
        | nil =>
          intro h _
          cases vs with
          | nil => exact .nil
          | cons _ _ => simp only [RpA] at h
        | cons d l ih =>
          intro h g
          cases vs with
          | nil => simp only [RpA] at h
          | cons v vs =>
            simp only [RpA] at h
            exact .cons ⟨h.1, g d List.mem_cons_self⟩ (ih h.2 fun e he => g e (List.mem_cons_of_mem _ he))
      exact this al py
    · have : RpA R B ys (l.mergeSort (PySem.W.dataLe false toPy)) := by
        generalize l.mergeSort (PySem.W.dataLe false toPy) = m at hy
        induction hy with
        | nil => exact .nil
        | cons r _ ih => exact .cons r.1 ih
      exact res_lst bh po hk this hc q
  | _ => exact hf.elim
end
end DL
set_option Elab.async false
set_option linter.all false
set_option maxRecDepth 100000
set_option maxHeartbeats 4000000
/-! a def's promise holds with a part of the heap, and the rest stays: so what it makes is of that part, or new -/
namespace DL
open PySem PySem.Spec PyProof.Rows L2
open Evl (Ex)
def insLike : HO → Bool
  | .ins _ _ _ => true
  | .frz _ u => insLike u
  | _ => false
/-- B is a part of H that a def may be given: with all tuples, and the dicts of just its own instances -/
structure Clo (H B : Hp) : Prop where
  ex : Ex B H
  tup : ∀ b xs, H b = some (.tup xs) → B b = some (.tup xs)
  own1 : ∀ b a o, H b = some (.own a) → H a = some o → insLike o = true → B a = none → B b = none
  own2 : ∀ b a o, H b = some (.own a) → H a = some o → insLike o = true → B a ≠ none → B b = some (.own a)
theorem obj_move {P : Program} {w : World} {H H' : Hp} {h h' : Heap} {a : Addr} {o : HO} (x : ObjOk P w H h a o) (ka : ∀ u, h.get? a = some u → h'.get? a = some u) (ht : ∀ b xs, H b = some (.tup xs) → H' b = some (.tup xs))
    (ho : insLike o = true → ∀ b, H b = some (.own a) → H' b = some (.own a) ∧ ∀ u, h.get? b = some u → h'.get? b = some u) : ObjOk P w H' h' a o := by
  induction o with
  | lst xs => obtain ⟨z, its, n, r, e⟩ := x; exact ⟨z, its, n, r, ka _ e⟩
  | tup xs => obtain ⟨z, its, r, ob, e, c⟩ := x; exact ⟨z, its, r, ob, ka _ e, c⟩
  | dK kvs => obtain ⟨z, y, vs, r, ob, es, ep, e, c⟩ := x; exact ⟨z, y, vs, r, ob, es, ep, ka _ e, c⟩
  | dT kvs =>
    obtain ⟨z, y, xs, r, ob, es, ep, e, c⟩ := x
    exact ⟨z, y, xs, L2.Paired.mapP r fun p q z => ⟨z.1, ht _ _ z.2.1, z.2.2⟩, ob, es, ep, ka _ e, c⟩
  | set S n => obtain ⟨ob, es, ep, t, e, c⟩ := x; exact ⟨ob, es, ep, t, ka _ e, c⟩
  | ins C dx fs =>
    obtain ⟨d, z, ne, e, mA, ⟨od, es, ep, e2, c⟩, r⟩ := x
    exact ⟨(ho rfl _ d).1, z, ne, ka _ e, mA, ⟨od, es, ep, (ho rfl _ d).2 _ e2, c⟩, r⟩
  | own y => obtain ⟨ob, e⟩ := x; exact ⟨ob, ka _ e⟩
  | xd fs => obtain ⟨mA, ⟨od, es, ep, e, c⟩, r⟩ := x; exact ⟨mA, ⟨od, es, ep, ka _ e, c⟩, r⟩
  | rng lo hi => obtain ⟨t, u, v, e⟩ := x; exact ⟨t, u, v, ka _ e⟩
  | frz ob u ih => obtain ⟨e, q⟩ := x; exact ⟨ka _ e, ih q fun z => ho z⟩
  | tbl ps => exact ka _ (show h.get? a = some { cls := .none, data := .fields ps } from x)
  | met f y => exact ka _ (show h.get? a = some (PySem.W.methodObj (.ref f) (.ref y)) from x)
  | ext φ => obtain ⟨p, ⟨o, e⟩, st⟩ := x; exact ⟨st _ _ p fun o q => ka _ q, ⟨o, ka _ e⟩, st⟩
def spFr (sp : Sp) : Sp := fun vs H Q E => ∃ B, Clo H B ∧ sp vs B (fun v B' => ∀ H', Ex B' H' → (∀ b o, H b = some o → B b = none → H' b = some o) → (∀ b o, B' b = some o → B b ≠ none ∨ H b = none) → Q v H') E
theorem obj_there {P : Program} {w : World} {H : Hp} {h : Heap} {a : Addr} {o : HO} (x : ObjOk P w H h a o) : ∃ ob, h.get? a = some ob := by
  cases o with
  | lst xs => obtain ⟨_, _, _, _, e⟩ := x; exact ⟨_, e⟩
  | tup xs => obtain ⟨_, _, _, ob, e, _⟩ := x; exact ⟨_, e⟩
  | dK kvs => obtain ⟨_, _, _, _, o, _, _, e, _⟩ := x; exact ⟨_, e⟩
  | dT kvs => obtain ⟨_, _, _, _, o, _, _, e, _⟩ := x; exact ⟨_, e⟩
  | set S n => obtain ⟨o, _, _, _, e, _⟩ := x; exact ⟨_, e⟩
  | ins C dx fs => obtain ⟨_, _, _, e, _⟩ := x; exact ⟨_, e⟩
  | own y => exact x
  | xd fs => obtain ⟨_, ⟨_, _, _, e, _⟩, _⟩ := x; exact ⟨_, e⟩
  | rng lo hi => obtain ⟨_, _, _, e⟩ := x; exact ⟨_, e⟩
  | frz ob u => exact ⟨_, x.1⟩
  | tbl ps => exact ⟨_, x⟩
  | met f y => exact ⟨_, x⟩
  | ext φ => exact x.2.1
theorem fn_frame {P : Program} {w : World} {K : PySem.W.Frag} {mg : Str → Option Value} {base : Heap} {k : Nat} {f : Addr} {fd : FuncData} {ps : List Str} {sp : Sp} (F : FnOk P w K mg base CX0 k f fd ps sp) : FnOk P w K mg base CX0 k f fd ps (spFr sp) := by
  refine ⟨fun vs H Q E ⟨B, _, h⟩ => F.len _ _ _ _ h, fun A outer s H args us vs Q E hr he hb hv ⟨B, c, h⟩ => ?_⟩
  have bn : ∀ {b}, H b = none → B b = none := fun z => Evl.fresh_back c.ex z
  have e2 : Env0 P w K mg base A outer s B := ⟨he.frames, he.mod, fun b o z => ⟨(he.bs b o z).1, bn (he.bs b o z).2⟩, he.bsz, he.funs, fun b z => bn (he.frf b z), fun a o z =>
    obj_move (he.hok a o (c.ex a o z)) (fun u q => q) (fun b xs q => c.tup b xs q) (fun hi b q => ⟨c.own2 b a o q (c.ex a o z) hi (fun w => by rw [z] at w; cases w), fun u q => q⟩), he.bare⟩
  refine codeAny_mono (F.run A outer s B args us vs _ E hr e2 hb hv h) fun r s' hq => ?_
  match r, hq with
  | .ok (.ret u), hq =>
    obtain ⟨v, B', os, bare, un, hok, r, q⟩ := hq
    let H' : Hp := fun b => match B' b with
      | some o => some o
      | none => match B b with
        | some _ => none
        | none => H b
    have h1 : ∀ b o, B' b = some o → H' b = some o := fun b o z => by
      show (match B' b with | some o => some o | none => match B b with | some _ => none | none => H b) = _
      rw [z]
    have h2 : ∀ b, B' b = none → B b = none → H' b = H b := fun b z w => by
      show (match B' b with | some o => some o | none => match B b with | some _ => none | none => H b) = _
      rw [z, w]
    have old : ∀ b o, H b = some o → B b = none → B' b = none := fun b o z w => by
      obtain ⟨ob, hob⟩ := obj_there (he.hok b o z)
      exact un.free b ob hob w (by simp)
    have h3 : ∀ b o, H b = some o → B b = none → H' b = some o := fun b o z w => by rw [h2 b (old b o z w) w]; exact z
    have hnew : ∀ b o, B' b = some o → B b ≠ none ∨ H b = none := fun b o z => by
      cases w : B b with
      | some u => exact .inl (fun y => nomatch y)
      | none =>
        cases y : H b with
        | none => exact .inr rfl
        | some u => rw [old b u y w] at z; cases z
    refine ⟨v, H', os, bare, ⟨fun b o q n x y => un.keep b o q (bn n) x y, fun b o q n x y => un.slot b o q (bn n) x y, fun b o q n y => ?_, un.there, fun b xs q => ?_, fun b o u q => ?_, fun b pt q => ?_⟩, fun a o q => ?_, r, q H' h1 h3 hnew⟩
    · rw [h2 b (un.free b o q (bn n) y) (bn n)]
      exact n
    · exact h1 _ _ (un.tups b xs (c.tup b xs q))
    · cases z : B b with
      | none => exact h3 b _ q z
      | some o2 =>
        have := c.ex b o2 z
        rw [q] at this
        cases this
        exact h1 _ _ (un.frzs b o u z)
    · cases z : B b with
      | none => exact ⟨#[], by rw [h3 b _ q z]; simp⟩
      | some o2 =>
        have := c.ex b o2 z
        rw [q] at this
        cases this
        obtain ⟨more, hm⟩ := un.tbls b pt z
        exact ⟨more, h1 _ _ hm⟩
    · cases z : B' a with
      | some o2 =>
        have := h1 a o2 z
        rw [q] at this
        cases this
        exact obj_move (hok a o z) (fun u q => q) (fun b xs q => h1 _ _ q) (fun _ b q => ⟨h1 _ _ q, fun u q => q⟩)
      | none =>
        have ba : B a = none := by
          cases y : B a with
          | none => rfl
          | some u =>
            have : (match B' a with | some o => some o | none => match B a with | some _ => none | none => H a) = some o := q
            rw [z, y] at this
            cases this
        rw [h2 a z ba] at q
        have fr : a ∉ frs outer := fun m => by rw [he.frf a m] at q; cases q
        refine obj_move (he.hok a o q) (fun u hu => un.keep a u hu ba fr (by simp)) (fun b xs hb => h1 _ _ (un.tups b xs (c.tup b xs hb))) fun hi b hb => ?_
        have bb := c.own1 b a o hb q hi ba
        refine ⟨h3 b _ hb bb, fun u hu => un.keep b u hu bb (fun m => ?_) (by simp)⟩
        rw [he.frf b m] at hb
        cases hb
  | .ok .next, hq => exact hq.elim
  | .ok .brk, hq => exact hq.elim
  | .ok .cont, hq => exact hq.elim
  | .error e, hq => exact hq.elim
end DL
set_option linter.all false
/-! a country with other numbers. Plain Lean. -/
namespace TM
section
variable {vs : List Nat} {L : Lanes} {f : Nat → Nat}
theorem adj_ren {a b : Nat} : Adj (ren f L) a b ↔ ∃ x y, Adj L x y ∧ f x = a ∧ f y = b := by
  have one : ∀ {a b : Nat}, (a, b) ∈ ren f L ↔ ∃ x y, (x, y) ∈ L ∧ f x = a ∧ f y = b := by
    intro a b
    unfold ren
    rw [List.mem_map]
    constructor
    · rintro ⟨⟨x, y⟩, h, e⟩
      injection e with e1 e2
      exact ⟨x, y, h, e1, e2⟩
    · rintro ⟨x, y, h, e1, e2⟩
      exact ⟨(x, y), h, by rw [e1, e2]⟩
  unfold Adj
  rw [one, one]
  constructor
  · rintro (⟨x, y, h, e1, e2⟩ | ⟨x, y, h, e1, e2⟩)
    · exact ⟨x, y, .inl h, e1, e2⟩
    · exact ⟨y, x, .inr h, e2, e1⟩
  · rintro ⟨x, y, h | h, e1, e2⟩
    · exact .inl ⟨x, y, h, e1, e2⟩
    · exact .inr ⟨y, x, h, e2, e1⟩
theorem Chain.ren : ∀ {W : List Nat}, Chain L W → Chain (TM.ren f L) (W.map f)
  | [], _ => trivial
  | [_], _ => trivial
  | x :: y :: r, h => ⟨adj_ren.mpr ⟨x, y, h.1, rfl, rfl⟩, Chain.ren (W := y :: r) h.2⟩
theorem Path.ren (inj : ∀ a ∈ vs, ∀ b ∈ vs, f a = f b → a = b) {s t : Nat} {W : List Nat} (P : Path L s t W) (h : ∀ x ∈ W, x ∈ vs) : Path (TM.ren f L) (f s) (f t) (W.map f) where
  ch := P.ch.ren
  nd := List.pairwise_map.mpr (List.Pairwise.imp_of_mem (fun {a b} ha hb n e => n (inj a (h a ha) b (h b hb) e)) P.nd)
  hd := by rw [List.head?_map, P.hd]; rfl
  lt := by rw [List.getLast?_map, P.lt]; rfl
theorem unren (ends : ∀ {a b : Nat}, Adj L a b → a ∈ vs ∧ b ∈ vs) (inj : ∀ a ∈ vs, ∀ b ∈ vs, f a = f b → a = b) : ∀ {V : List Nat} {s : Nat}, s ∈ vs → Chain (TM.ren f L) (f s :: V) → ∃ W, V = W.map f ∧ Chain L (s :: W) ∧ ∀ x ∈ W, x ∈ vs
  | [], s, _, _ => ⟨[], rfl, trivial, fun _ h => nomatch h⟩
  | b :: V, s, hs, h => by
    obtain ⟨x, y, a, e1, e2⟩ := adj_ren.mp h.1
    have := inj x (ends a).1 s hs e1
    subst this
    obtain ⟨W, e, c, k⟩ := unren ends inj (V := V) (s := y) (ends a).2 (by rw [e2]; exact h.2)
    refine ⟨y :: W, by rw [List.map_cons, ← e, e2], ⟨a, c⟩, fun z hz => ?_⟩
    rcases List.mem_cons.mp hz with e | hz
    · exact e ▸ (ends a).2
    · exact k z hz
theorem inj_list (inj : ∀ a ∈ vs, ∀ b ∈ vs, f a = f b → a = b) {W : List Nat} (h : ∀ x ∈ W, x ∈ vs) (nd : (W.map f).Nodup) : W.Nodup := by
  have := List.pairwise_map.mp nd
  exact this.imp fun n e => n (congrArg f e)
theorem Path.unren (ends : ∀ {a b : Nat}, Adj L a b → a ∈ vs ∧ b ∈ vs) (inj : ∀ a ∈ vs, ∀ b ∈ vs, f a = f b → a = b) {s b : Nat} {V : List Nat} (hs : s ∈ vs) (P : Path (TM.ren f L) (f s) b V) : ∃ W t, V = W.map f ∧ b = f t ∧ t ∈ vs ∧ Path L s t W ∧ ∀ x ∈ W, x ∈ vs := by
  cases V with
  | nil => have := P.hd; cases this
  | cons a V =>
    have e : a = f s := Option.some.inj P.hd
    subst e
    obtain ⟨W, e, c, k⟩ := TM.unren ends inj hs P.ch
    have ks : ∀ x ∈ s :: W, x ∈ vs := fun x hx => by
      rcases List.mem_cons.mp hx with e | hx
      · exact e ▸ hs
      · exact k x hx
    have eV : f s :: V = (s :: W).map f := by rw [List.map_cons, ← e]
    obtain ⟨t, ht⟩ : ∃ t, (s :: W).getLast? = some t := by
      cases h : (s :: W).getLast? with
      | none => simp at h
      | some t => exact ⟨t, rfl⟩
    have lt := P.lt
    rw [eV, List.getLast?_map, ht] at lt
    refine ⟨s :: W, t, eV, (Option.some.inj lt).symm, ks t (List.mem_of_getLast? ht), ⟨c, inj_list inj ks (eV ▸ P.nd), rfl, ht⟩, ks⟩
theorem Tr.ren (G : Tr vs L) (inj : ∀ a ∈ vs, ∀ b ∈ vs, f a = f b → a = b) (off : ∀ i, i ∉ vs.map f → nb (TM.ren f L) i = []) : Tr (vs.map f) (TM.ren f L) where
  ends := fun {a b} h => by
    obtain ⟨x, y, k, e1, e2⟩ := adj_ren.mp h
    exact ⟨List.mem_map.mpr ⟨x, (G.ends k).1, e1⟩, List.mem_map.mpr ⟨y, (G.ends k).2, e2⟩⟩
  irrefl := fun {a} h => by
    obtain ⟨x, y, k, e1, e2⟩ := adj_ren.mp h
    have := inj x (G.ends k).1 y (G.ends k).2 (e1.trans e2.symm)
    exact G.irrefl (this ▸ k)
  unique := fun {s t p q} P Q => by
    by_cases h : s ∈ vs.map f
    · obtain ⟨x, hx, e⟩ := List.mem_map.mp h
      subst e
      obtain ⟨W, u, e1, e2, hu, PW, _⟩ := P.unren G.ends inj hx
      obtain ⟨W', u', e1', e2', hu', PW', _⟩ := Q.unren G.ends inj hx
      have := inj u hu u' hu' (e2.symm.trans e2')
      subst this
      rw [e1, e1', G.unique PW PW']
    · have alone : ∀ {p : List Nat}, Path (TM.ren f L) s t p → p = [s] := fun {p} P => by
        cases p with
        | nil => have := P.hd; cases this
        | cons a p =>
          have e : a = s := Option.some.inj P.hd
          subst e
          cases p with
          | nil => rfl
          | cons b p =>
            obtain ⟨x, y, k, e1, _⟩ := adj_ren.mp P.ch.1
            exact absurd (List.mem_map.mpr ⟨x, (G.ends k).1, e1⟩) h
      rw [alone P, alone Q]
  conn := fun {s t} hs ht => by
    obtain ⟨x, hx, e1⟩ := List.mem_map.mp hs
    obtain ⟨y, hy, e2⟩ := List.mem_map.mp ht
    obtain ⟨p, P, k⟩ := G.conn hx hy
    subst e1; subst e2
    exact ⟨p.map f, P.ren inj k, fun z hz => by
      obtain ⟨u, hu, e⟩ := List.mem_map.mp hz
      exact List.mem_map.mpr ⟨u, k u hu, e⟩⟩
  nbnd := fun i => by
    by_cases h : i ∈ vs.map f
    · obtain ⟨x, hx, e⟩ := List.mem_map.mp h
      subst e
      rw [nb_ren (vs := vs) (fun p hp => G.ends (.inl hp)) inj hx]
      exact List.pairwise_map.mpr (List.Pairwise.imp_of_mem (fun {a b} ha hb n e => n (inj a (G.ends (mem_nb.mp ha)).2 b (G.ends (mem_nb.mp hb)).2 e)) (G.nbnd x))
    · rw [off i h]
      exact List.nodup_nil
  length := by rw [List.length_map, G.length]; unfold TM.ren; rw [List.length_map]
  nodup := List.pairwise_map.mpr (List.Pairwise.imp_of_mem (fun {a b} ha hb n e => n (inj a ha b hb e)) G.nodup)
theorem nb_off (ends : ∀ {a b : Nat}, Adj L a b → a ∈ vs ∧ b ∈ vs) {i : Nat} (h : i ∉ vs.map f) : nb (ren f L) i = [] := by
  cases e : nb (ren f L) i with
  | nil => rfl
  | cons y r =>
    have m : y ∈ nb (ren f L) i := by rw [e]; exact List.mem_cons_self
    obtain ⟨x, z, k, e1, _⟩ := adj_ren.mp (mem_nb.mp m)
    exact absurd (List.mem_map.mpr ⟨x, (ends k).1, e1⟩) h
theorem ren_len : (ren f L).length = L.length := by unfold ren; rw [List.length_map]
theorem ren_adj (G : Tr vs L) (inj : ∀ a ∈ vs, ∀ b ∈ vs, f a = f b → a = b) {i : Nat} (hi : i ∈ vs) : adj (ren f L) (f i) = isort ((adj L i).map f) := by
  unfold adj
  rw [nb_ren (vs := vs) (fun p hp => G.ends (.inl hp)) inj hi]
  exact isort_congr ((isort_perm (nb L i)).map f).symm
/-- numbers for all places, each once -/
structure Num (L : Lanes) (f : Nat → Nat) : Prop where
  lt : ∀ i, i < L.length + 1 → f i < L.length + 1
  inj : ∀ i j, i < L.length + 1 → j < L.length + 1 → f i = f j → i = j
theorem Num.on (m : Num L f) (G : Good vs L) : ∀ a ∈ vs, ∀ b ∈ vs, f a = f b → a = b := fun a ha b hb => m.inj a b ((G.vs_ a).mp ha) ((G.vs_ b).mp hb)
theorem yards_ren (m : Num L f) (G : Good vs L) (on : ∀ v, v ∈ vs.map f ↔ v < L.length + 1) : (yardsL (ren f L)).Perm ((yardsL L).map f) := by
  have inj := m.on G
  have nd : ((yardsL L).map f).Nodup := List.pairwise_map.mpr (List.Pairwise.imp_of_mem (fun {a b} ha hb n e => n (inj a (yard_vs G ha) b (yard_vs G hb) e)) (yards_nodup L))
  refine (List.perm_ext_iff_of_nodup (yards_nodup _) nd).mpr fun u => ?_
  rw [mem_yards, ren_len]
  have ends : ∀ p ∈ L, p.1 ∈ vs ∧ p.2 ∈ vs := fun p hp => G.tr.ends (.inl hp)
  constructor
  · rintro ⟨h1, h2⟩
    obtain ⟨x, hx, e⟩ := List.mem_map.mp ((on u).mpr h1)
    subst e
    rw [nb_ren (vs := vs) ends inj hx, List.length_map] at h2
    exact List.mem_map.mpr ⟨x, mem_yards.mpr ⟨(G.vs_ x).mp hx, h2⟩, rfl⟩
  · intro h
    obtain ⟨x, hx, e⟩ := List.mem_map.mp h
    subst e
    obtain ⟨h1, h2⟩ := mem_yards.mp hx
    have hv := (G.vs_ x).mpr h1
    refine ⟨(on _).mp (List.mem_map.mpr ⟨x, hv, rfl⟩), ?_⟩
    rw [nb_ren (vs := vs) ends inj hv, List.length_map]
    exact h2
theorem Num.all (m : Num L f) (G : Good vs L) : ∀ v, v ∈ vs.map f ↔ v < L.length + 1 := by
  have sub : ∀ v ∈ vs.map f, v ∈ List.range (L.length + 1) := fun v hv => by
    obtain ⟨x, hx, e⟩ := List.mem_map.mp hv
    exact List.mem_range.mpr (e ▸ m.lt x ((G.vs_ x).mp hx))
  have nd : (vs.map f).Nodup := List.pairwise_map.mpr (List.Pairwise.imp_of_mem (fun {a b} ha hb n e => n (m.on G a ha b hb e)) G.tr.nodup)
  refine fun v => ⟨fun h => List.mem_range.mp (sub v h), fun h => ?_⟩
  by_cases c : v ∈ vs.map f
  · exact c
  · have := nodup_len (List.nodup_cons.mpr ⟨c, nd⟩) (m := List.range (L.length + 1)) fun x hx => by
      rcases List.mem_cons.mp hx with e | hx
      · rw [e]
        exact List.mem_range.mpr h
      · exact sub x hx
    rw [List.length_cons, List.length_map, G.tr.length, List.length_range] at this
    omega
/-- THE COUNTRY WITH OTHER NUMBERS IS ONE -/
theorem Good.ren (G : Good vs L) (m : Num L f) : Good (vs.map f) (TM.ren f L) where
  tr := G.tr.ren (m.on G) fun i h => nb_off G.tr.ends h
  vs_ := fun v => by rw [ren_len]; exact m.all G v
  deg := fun i => by
    by_cases h : i ∈ vs.map f
    · obtain ⟨x, hx, e⟩ := List.mem_map.mp h
      subst e
      rw [ren_adj G.tr (m.on G) hx, isort_length, List.length_map]
      exact G.deg x
    · unfold adj
      rw [nb_off G.tr.ends h]
      exact Nat.zero_le _
  least := by rw [(yards_ren m G (m.all G)).length_eq, List.length_map]; exact G.least
  most := by rw [(yards_ren m G (m.all G)).length_eq, List.length_map]; exact G.most
  small := by rw [ren_len]; exact G.small
end
end TM
set_option linter.all false
/-! other numbers, once more: what is led. Plain Lean. -/
namespace TM
section
variable {vs : List Nat} {L M : Lanes} {f g : Nat → Nat}
theorem norm_ren_norm (f : Nat → Nat) (L : Lanes) : norm (ren f (norm L)) = norm (ren f L) := by
  unfold norm ren
  rw [List.map_map, List.map_map, List.map_map]
  refine List.map_congr_left fun p _ => ?_
  show norm1 (f (min p.1 p.2), f (max p.1 p.2)) = norm1 (f p.1, f p.2)
  unfold norm1
  by_cases h : p.1 ≤ p.2
  · rw [Nat.min_eq_left h, Nat.max_eq_right h]
  · have h2 : p.2 ≤ p.1 := by omega
    rw [Nat.min_eq_right h2, Nat.max_eq_left h2]
    simp only [Nat.min_comm, Nat.max_comm]
theorem ren_perm (h : L.Perm M) : (ren f L).Perm (ren f M) := h.map _
theorem norm_perm (h : L.Perm M) : (norm L).Perm (norm M) := h.map _
/-- the same lanes, otherwise told -/
def Same (L M : Lanes) : Prop := (norm L).Perm (norm M)
instance : Decidable (Same L M) := inferInstanceAs (Decidable ((norm L).Perm (norm M)))
theorem Same.refl (L : Lanes) : Same L L := List.Perm.refl _
theorem Same.symm (h : Same L M) : Same M L := List.Perm.symm h
theorem Same.nb (h : Same L M) (i : Nat) : (nb L i).Perm (nb M i) := (nb_norm L i).symm.trans ((nb_perm h i).trans (nb_norm M i))
theorem Same.len (h : Same L M) : L.length = M.length := by
  have := List.Perm.length_eq h
  unfold norm at this
  rw [List.length_map, List.length_map] at this
  exact this
theorem norm_norm (L : Lanes) : norm (norm L) = norm L := by
  unfold norm
  rw [List.map_map]
  refine List.map_congr_left fun p _ => ?_
  show norm1 (norm1 p) = norm1 p
  unfold norm1
  simp only
  rw [Nat.min_eq_left (by omega), Nat.max_eq_right (by omega)]
theorem same_of (h : M.Perm (norm L)) : Same M L := by
  have := norm_perm h
  rw [norm_norm] at this
  exact this
theorem same_ren (h : M.Perm (norm L)) : Same (ren f M) (ren f L) := by
  have := norm_perm (ren_perm (f := f) h)
  rw [norm_ren_norm] at this
  exact this
theorem lex_eq {M1 M2 N1 N2 : Lanes} (p1 : M1.Perm N1) (s1 : LexS M1) (p2 : M2.Perm N2) (s2 : LexS M2) : M1 = M2 ↔ N1.Perm N2 :=
  ⟨fun e => p1.symm.trans (e ▸ p2), fun h => lex_unique (p1.trans (h.trans p2.symm)) s1 s2⟩
theorem gates_nodup (L : Lanes) : (gatesL L).Nodup := List.nodup_range.filter _
theorem gates_sorted (L : Lanes) : (gatesL L).Pairwise (· ≤ ·) := by
  unfold gatesL
  refine List.Pairwise.filter _ ?_
  exact List.pairwise_lt_range.imp fun h => Nat.le_of_lt h
theorem mem_gates {u : Nat} : u ∈ gatesL L ↔ u < L.length + 1 ∧ (nb L u).length = 1 := by
  unfold gatesL
  rw [List.mem_filter, List.mem_range, decide_eq_true_iff, adj_length]
theorem gates_ren (m : Num L f) (G : Good vs L) (on : ∀ v, v ∈ vs.map f ↔ v < L.length + 1) : (gatesL (ren f L)).Perm ((gatesL L).map f) := by
  have inj := m.on G
  have gv : ∀ {u : Nat}, u ∈ gatesL L → u ∈ vs := fun h => (G.vs_ _).mpr (mem_gates.mp h).1
  have nd : ((gatesL L).map f).Nodup := List.pairwise_map.mpr (List.Pairwise.imp_of_mem (fun {a b} ha hb n e => n (inj a (gv ha) b (gv hb) e)) (gates_nodup L))
  refine (List.perm_ext_iff_of_nodup (gates_nodup _) nd).mpr fun u => ?_
  rw [mem_gates, ren_len]
  have ends : ∀ p ∈ L, p.1 ∈ vs ∧ p.2 ∈ vs := fun p hp => G.tr.ends (.inl hp)
  constructor
  · rintro ⟨h1, h2⟩
    obtain ⟨x, hx, e⟩ := List.mem_map.mp ((on u).mpr h1)
    subst e
    rw [nb_ren (vs := vs) ends inj hx, List.length_map] at h2
    exact List.mem_map.mpr ⟨x, mem_gates.mpr ⟨(G.vs_ x).mp hx, h2⟩, rfl⟩
  · intro h
    obtain ⟨x, hx, e⟩ := List.mem_map.mp h
    subst e
    obtain ⟨h1, h2⟩ := mem_gates.mp hx
    have hv := (G.vs_ x).mpr h1
    refine ⟨(on _).mp (List.mem_map.mpr ⟨x, hv, rfl⟩), ?_⟩
    rw [nb_ren (vs := vs) ends inj hv, List.length_map]
    exact h2
theorem yards_led (m : Num L f) (G : Good vs L) : isort ((yardsL L).map f) = yardsL (ren f L) :=
  (isort_eq (yards_ren m G (m.all G)) (yards_sorted _)).symm
theorem gates_led (m : Num L f) (G : Good vs L) : isort ((gatesL L).map f) = gatesL (ren f L) :=
  (isort_eq (gates_ren m G (m.all G)) (gates_sorted _)).symm
theorem ren_in {x : Nat} (m : Num L f) (G : Good vs L) (hx : x ∈ vs) : f x ∈ vs.map f := List.mem_map.mpr ⟨x, hx, rfl⟩
theorem path_led (m : Num L f) (G : Good vs L) {s t : Nat} {W : List Nat} (hs : s ∈ vs) (ht : t ∈ vs) (P : Path L s t W) : Path (ren f L) (f s) (f t) (W.map f) := by
  obtain ⟨q, Q, k⟩ := G.tr.conn hs ht
  have := G.tr.unique P Q
  subst this
  exact P.ren (m.on G) k
theorem yard_led (m : Num L f) (G : Good vs L) {y : Nat} (h : y ∈ yardsL L) : f y ∈ yardsL (ren f L) :=
  (yards_ren m G (m.all G)).mem_iff.mpr (List.mem_map.mpr ⟨y, h, rfl⟩)
theorem adj_led (m : Num L f) (G : Good vs L) {y t : Nat} (h : t ∈ adj L y) : f t ∈ adj (ren f L) (f y) := mem_adj.mpr (adj_ren.mpr ⟨y, t, mem_adj.mp h, rfl, rfl⟩)
theorem bh_led (m : Num L f) (G : Good vs L) {N N' : Nat → Nat → Nat} (I : IsNext vs L N) (I' : IsNext (vs.map f) (ren f L) N') {y t : Nat} (hy : y ∈ yardsL L) (ht : t ∈ adj L y) :
    isort ((bh L N y t).map f) = bh (ren f L) N' (f y) (f t) := by
  have inj := m.on G
  have G' := G.ren m
  have be : ∀ {u : Nat}, u ∈ yardsL L → beh N' (f y) (f t) (f u) = beh N y t u := fun {u} hu => by
    unfold beh
    by_cases c : u = y
    · subst c
      simp
    · have hyv := yard_vs G hy
      have huv := yard_vs G hu
      obtain ⟨r, P⟩ := I u y huv hyv (fun e => c e.symm)
      have P' := path_led m G hyv huv P
      have e := next_of G'.tr I' (h := f (N u y)) (r := r.map f) P'
      rw [e]
      have c' : ¬ f u = f y := fun z => c (inj u huv y hyv z)
      rw [decide_eq_false c, decide_eq_false c']
      have hn : N u y ∈ vs := (G.tr.ends P.ch.1).2
      have htv := adj_vs G ht
      congr 2
      exact decide_eq_decide.mpr ⟨fun z => inj _ hn _ htv z, fun z => congrArg f z⟩
  refine ((isort_eq ?_ ?_)).symm
  · have nd : ((bh L N y t).map f).Nodup := List.pairwise_map.mpr (List.Pairwise.imp_of_mem (fun {a b} ha hb n e => n (inj a (yard_vs G (mem_bh.mp ha).1) b (yard_vs G (mem_bh.mp hb).1) e)) (bh_nodup y t))
    refine (List.perm_ext_iff_of_nodup (bh_nodup _ _) nd).mpr fun u => ?_
    rw [mem_bh]
    constructor
    · rintro ⟨h1, h2⟩
      obtain ⟨x, hx, e⟩ := List.mem_map.mp ((yards_ren m G (m.all G)).mem_iff.mp h1)
      subst e
      rw [be hx] at h2
      exact List.mem_map.mpr ⟨x, mem_bh.mpr ⟨hx, h2⟩, rfl⟩
    · intro h
      obtain ⟨x, hx, e⟩ := List.mem_map.mp h
      subst e
      obtain ⟨h1, h2⟩ := mem_bh.mp hx
      exact ⟨yard_led m G h1, by rw [be h1]; exact h2⟩
  · exact (yards_sorted _).filter _
theorem Mixed.num {ps : List Nat} (m : Mixed (L.length + 1) ps) : Num L (fun i => ps.getD i 0) where
  lt := fun i hi => m.lt (List.mem_of_getElem? (getD_at (by rw [m.len]; exact hi)))
  inj := fun i j hi hj e => m.inj hi hj e
theorem ren_congr {f g : Nat → Nat} (h : ∀ p ∈ L, f p.1 = g p.1 ∧ f p.2 = g p.2) : ren f L = ren g L := by
  unfold ren
  exact List.map_congr_left fun p hp => by rw [(h p hp).1, (h p hp).2]
theorem ren_ren (f g : Nat → Nat) (L : Lanes) : ren g (ren f L) = ren (fun i => g (f i)) L := by
  unfold ren
  rw [List.map_map]
  rfl
theorem ren_id (h : ∀ p ∈ L, f p.1 = p.1 ∧ f p.2 = p.2) : ren f L = L := by
  have := ren_congr (L := L) (f := f) (g := fun i => i) h
  rw [this]
  unfold ren
  exact List.map_id' L
theorem Good.lt (G : Good vs L) {p : Nat × Nat} (hp : p ∈ L) : p.1 < L.length + 1 ∧ p.2 < L.length + 1 :=
  ⟨(G.vs_ _).mp (G.tr.ends (.inl hp)).1, (G.vs_ _).mp (G.tr.ends (.inl hp)).2⟩
theorem getD_map {l : List Nat} {g : Nat → Nat} {i : Nat} (h : i < l.length) : (l.map g).getD i 0 = g (l.getD i 0) := by
  rw [List.getD_eq_getElem?_getD, List.getElem?_map, List.getElem?_eq_getElem h, List.getD_eq_getElem?_getD, List.getElem?_eq_getElem h]
  rfl
theorem getD_range {n i : Nat} (h : i < n) : (List.range n).getD i 0 = i := by
  rw [List.getD_eq_getElem?_getD, List.getElem?_range h]
  rfl
theorem Mixed.range (n : Nat) : Mixed n (List.range n) := ⟨by simp, List.Perm.refl _⟩
theorem mixed_of {n : Nat} {ps : List Nat} (hl : ps.length = n) (nd : ps.Nodup) (hs : ∀ x ∈ ps, x < n) : Mixed n ps := by
  refine ⟨hl, ?_⟩
  refine (List.perm_ext_iff_of_nodup nd List.nodup_range).mpr fun x => ⟨fun h => List.mem_range.mpr (hs x h), fun h => ?_⟩
  by_cases c : x ∈ ps
  · exact c
  · have := nodup_len (List.nodup_cons.mpr ⟨c, nd⟩) (m := List.range n) fun y hy => by
      rcases List.mem_cons.mp hy with e | hy
      · rw [e]
        exact h
      · exact List.mem_range.mpr (hs y hy)
    rw [List.length_cons, hl, List.length_range] at this
    omega
/-- one renaming behind another one -/
theorem Mixed.comp {n : Nat} {ps ms : List Nat} (m : Mixed n ps) (k : Mixed n ms) : Mixed n (ps.map fun x => ms.getD x 0) := by
  refine mixed_of (by rw [List.length_map, m.len]) ?_ fun x hx => ?_
  · exact List.pairwise_map.mpr (List.Pairwise.imp_of_mem (fun {a b} ha hb ne e => ne (k.inj (m.lt ha) (m.lt hb) e)) m.nd)
  · obtain ⟨y, hy, e⟩ := List.mem_map.mp hx
    subst e
    exact k.lt (List.mem_of_getElem? (getD_at (by rw [k.len]; exact m.lt hy)))
theorem ren_comp (G : Good vs L) {ps ms : List Nat} (m : Mixed (L.length + 1) ps) : ren (fun i => ms.getD i 0) (ren (fun i => ps.getD i 0) L) = ren (fun i => (ps.map fun x => ms.getD x 0).getD i 0) L := by
  rw [ren_ren]
  refine ren_congr fun p hp => ?_
  have := G.lt hp
  exact ⟨(getD_map (g := fun x => ms.getD x 0) (by rw [m.len]; exact this.1)).symm, (getD_map (g := fun x => ms.getD x 0) (by rw [m.len]; exact this.2)).symm⟩
/-- two exchanged -/
theorem swapped {n i j : Nat} (hi : i < n) (hj : j < n) : Mixed n (((List.range n).set i j).set j i) := by
  have at_ : ∀ k, k < n → (((List.range n).set i j).set j i)[k]? = some (if j = k then i else if i = k then j else k) := fun k hk => by
    rw [List.getElem?_set, List.getElem?_set, List.length_set, List.length_range, List.getElem?_range hk]
    by_cases a : j = k
    · rw [if_pos a, if_pos a, if_pos hj]
    · rw [if_neg a, if_neg a]
      by_cases b : i = k
      · rw [if_pos b, if_pos b, if_pos hi]
      · rw [if_neg b, if_neg b]
  have hl : (((List.range n).set i j).set j i).length = n := by rw [List.length_set, List.length_set, List.length_range]
  refine mixed_of hl ?_ fun x hx => ?_
  · refine List.pairwise_iff_getElem.mpr fun a b ha hb hab e => ?_
    have h1 := at_ a (by omega)
    have h2 := at_ b (by omega)
    rw [List.getElem?_eq_getElem ha] at h1
    rw [List.getElem?_eq_getElem hb, ← e] at h2
    have h := (Option.some.inj h1).symm.trans (Option.some.inj h2)
    split at h <;> split at h <;> (try split at h) <;> (try split at h) <;> omega
  · obtain ⟨k, hk, e⟩ := List.mem_iff_getElem.mp hx
    have h1 := at_ k (by omega)
    rw [List.getElem?_eq_getElem hk, e] at h1
    have := Option.some.inj h1
    split at this <;> (try split at this) <;> omega
/-- the numbers turned about -/
theorem Mixed.back {n : Nat} {ps : List Nat} (m : Mixed n ps) : Mixed n ((List.range n).map fun k => ps.idxOf k) ∧ ∀ i, i < n → ((List.range n).map fun k => ps.idxOf k).getD (ps.getD i 0) 0 = i := by
  have mem : ∀ k, k < n → k ∈ ps := fun k hk => m.perm.mem_iff.mpr (List.mem_range.mpr hk)
  have il : ∀ k, k < n → ps.idxOf k < n := fun k hk => by rw [← m.len]; exact List.idxOf_lt_length_of_mem (mem k hk)
  have ia : ∀ k, k < n → ps.getD (ps.idxOf k) 0 = k := fun k hk => by
    rw [List.getD_eq_getElem?_getD, List.getElem?_eq_getElem (by rw [m.len]; exact il k hk), List.getElem_idxOf]
    rfl
  refine ⟨mixed_of (by simp) ?_ fun x hx => ?_, fun i hi => ?_⟩
  · refine List.pairwise_map.mpr (List.Pairwise.imp_of_mem (fun {a b} ha hb ne e => ne ?_) List.nodup_range)
    rw [← ia a (List.mem_range.mp ha), ← ia b (List.mem_range.mp hb), e]
  · obtain ⟨k, hk, e⟩ := List.mem_map.mp hx
    exact e ▸ il k (List.mem_range.mp hk)
  · have hx : ps.getD i 0 < n := m.lt (List.mem_of_getElem? (getD_at (by rw [m.len]; exact hi)))
    rw [getD_map (by rw [List.length_range]; exact hx), getD_range hx]
    exact m.inj (il _ hx) hi (ia _ hx)
theorem ren_back (G : Good vs L) {ps : List Nat} (m : Mixed (L.length + 1) ps) : ren (fun i => ((List.range (L.length + 1)).map fun k => ps.idxOf k).getD i 0) (ren (fun i => ps.getD i 0) L) = L := by
  rw [ren_ren]
  exact ren_id fun p hp => ⟨m.back.2 _ (G.lt hp).1, m.back.2 _ (G.lt hp).2⟩
theorem ren_range (G : Good vs L) : ren (fun i => (List.range (L.length + 1)).getD i 0) L = L :=
  ren_id fun p hp => ⟨getD_range (G.lt hp).1, getD_range (G.lt hp).2⟩
end
end TM
set_option linter.all false
/-! bounds, books, loads. Plain Lean. -/
namespace TM
abbrev Bd := Option Nat × Option Nat × Nat
abbrev Alt := Nat × List Bd
abbrev Bk := List Alt
abbrev Ent := Nat × Nat × Nat
abbrev Ld := List Ent
def okO : Option Nat → Nat → Bool
  | none, _ => true
  | some y, x => decide (y = x)
def carts (l : Ld) (o t : Option Nat) : Nat := ((l.filter fun e => okO o e.1 && okO t e.2.1).map fun e => e.2.2).sum
def keeps (l : Ld) (b : Bd) : Bool := decide (carts l b.1 b.2.1 ≤ b.2.2)
def standsA (l : Ld) (a : Alt) : Bool := decide (carts l none none ≤ a.1) && a.2.all (keeps l)
def standsB (B : Bk) (l : Ld) : Bool := B.any (standsA l)
theorem carts_app (l m : Ld) (o t : Option Nat) : carts (l ++ m) o t = carts l o t + carts m o t := by
  unfold carts
  rw [List.filter_append, List.map_append, List.sum_append]
theorem carts_perm {l m : Ld} (h : l.Perm m) (o t : Option Nat) : carts l o t = carts m o t := ((h.filter _).map _).sum_nat
theorem carts_one (e : Ent) (o t : Option Nat) : carts [e] o t = if okO o e.1 && okO t e.2.1 then e.2.2 else 0 := by
  unfold carts
  rw [List.filter_cons]
  split <;> simp
theorem carts_cons (e : Ent) (l : Ld) (o t : Option Nat) : carts (e :: l) o t = (if okO o e.1 && okO t e.2.1 then e.2.2 else 0) + carts l o t := by
  have := carts_app [e] l o t
  rw [carts_one] at this
  exact this
theorem carts_nil (o t : Option Nat) : carts [] o t = 0 := rfl
/-- at most, however counted -/
def AtM (l m : Ld) : Prop := ∀ o t, carts l o t ≤ carts m o t
theorem AtM.keeps {l m : Ld} (h : AtM l m) {b : Bd} (k : keeps m b = true) : TM.keeps l b = true := by
  unfold TM.keeps at k ⊢
  have := h b.1 b.2.1
  exact decide_eq_true (Nat.le_trans this (of_decide_eq_true k))
theorem AtM.standsA {l m : Ld} (h : AtM l m) {a : Alt} (k : standsA m a = true) : TM.standsA l a = true := by
  unfold TM.standsA at k ⊢
  rw [Bool.and_eq_true] at k ⊢
  refine ⟨decide_eq_true (Nat.le_trans (h none none) (of_decide_eq_true k.1)), ?_⟩
  rw [List.all_eq_true]
  exact fun b hb => h.keeps (List.all_eq_true.mp k.2 b hb)
theorem AtM.stands {l m : Ld} (h : AtM l m) {B : Bk} (k : standsB B m = true) : standsB B l = true := by
  unfold standsB at k ⊢
  obtain ⟨a, ha, s⟩ := List.any_eq_true.mp k
  exact List.any_eq_true.mpr ⟨a, ha, h.standsA s⟩
theorem atM_mid {A B : Ld} {X : Ld} {e : Ent} (h : AtM X [e]) : AtM (A ++ X ++ B) (A ++ e :: B) := fun o t => by
  rw [carts_app, carts_app, carts_app, carts_cons]
  have := h o t
  rw [carts_one] at this
  omega
/-- one cart less -/
def less1 (e : Ent) : Ld := if 1 < e.2.2 then [(e.1, e.2.1, e.2.2 - 1)] else []
theorem less1_atM (e : Ent) : AtM (less1 e) [e] := fun o t => by
  unfold less1
  rw [carts_one]
  split
  · rw [carts_one]
    dsimp only
    split <;> omega
  · rw [carts_nil]
    omega
theorem stands_empty (B : Bk) {N : List Nat} (h : ∃ e : Ent, standsB B [e] = true) : standsB B [] = true := by
  obtain ⟨e, h⟩ := h
  exact AtM.stands (fun o t => by rw [carts_nil]; omega) h
/-! ### sorted loads -/
def c3 (e : Ent) : Nat := (e.1 * 2048 + e.2.1) * 2048 + e.2.2
def Sm (e : Ent) : Prop := e.1 < 2048 ∧ e.2.1 < 2048 ∧ e.2.2 < 2048
theorem c3_inj {e f : Ent} (a : Sm e) (b : Sm f) (h : c3 e = c3 f) : e = f := by
  obtain ⟨e1, e2, e3⟩ := e
  obtain ⟨f1, f2, f3⟩ := f
  unfold Sm at a b
  unfold c3 at h
  simp only at a b h
  have h1 : e1 = f1 := by omega
  have h2 : e2 = f2 := by omega
  have h3 : e3 = f3 := by omega
  rw [h1, h2, h3]
def Srt3 (l : Ld) : Prop := l.Pairwise fun e f => c3 e ≤ c3 f
theorem srt3_unique : ∀ {l m : Ld}, l.Perm m → (∀ e ∈ l, Sm e) → Srt3 l → Srt3 m → l = m
  | [], m, p, _, _, _ => (List.nil_perm.mp p).symm
  | a :: l, [], p, _, _, _ => absurd (List.perm_nil.mp p) (by simp)
  | a :: l, b :: m, p, s, h1, h2 => by
    obtain ⟨a1, a2⟩ := List.pairwise_cons.mp h1
    obtain ⟨b1, b2⟩ := List.pairwise_cons.mp h2
    have sm : ∀ e ∈ b :: m, Sm e := fun e he => s e (p.mem_iff.mpr he)
    have e : a = b := by
      have ma : a ∈ b :: m := p.mem_iff.mp List.mem_cons_self
      have mb : b ∈ a :: l := p.mem_iff.mpr List.mem_cons_self
      refine c3_inj (s a List.mem_cons_self) (sm b List.mem_cons_self) ?_
      rcases List.mem_cons.mp ma with e | ma
      · rw [e]
      · rcases List.mem_cons.mp mb with e | mb
        · rw [e]
        · exact Nat.le_antisymm (a1 b mb) (b1 a ma)
    subst e
    rw [srt3_unique (List.Perm.cons_inv p) (fun e he => s e (List.mem_cons_of_mem _ he)) a2 b2]
def tsort (l : Ld) : Ld := l.mergeSort fun e f => decide (c3 e ≤ c3 f)
theorem tsort_perm (l : Ld) : (tsort l).Perm l := List.mergeSort_perm l _
theorem tsort_srt (l : Ld) : Srt3 (tsort l) := by
  have := List.pairwise_mergeSort (le := fun e f : Ent => decide (c3 e ≤ c3 f)) (fun a b c h1 h2 => decide_eq_true (Nat.le_trans (of_decide_eq_true h1) (of_decide_eq_true h2))) (fun a b => by
    rcases Nat.le_total (c3 a) (c3 b) with h | h
    · simp [h]
    · simp [h]) l
  exact this.imp fun h => of_decide_eq_true h
theorem tsort_of {l m : Ld} (p : m.Perm l) (s : Srt3 m) (b : ∀ e ∈ l, Sm e) : m = tsort l :=
  srt3_unique (p.trans (tsort_perm l).symm) (fun e he => b e (p.mem_iff.mp he)) s (tsort_srt l)
theorem tsort_congr {l m : Ld} (p : l.Perm m) (b : ∀ e ∈ l, Sm e) : tsort l = tsort m :=
  tsort_of ((tsort_perm l).trans p) (tsort_srt l) (fun e he => b e (p.mem_iff.mpr he))
theorem tsort_self {l : Ld} (s : Srt3 l) (b : ∀ e ∈ l, Sm e) : tsort l = l := (tsort_of (List.Perm.refl l) s b).symm
/-- one cart more -/
def others (l : Ld) (o t : Nat) : Ld := l.filter fun e => !(decide (e.1 = o) && decide (e.2.1 = t))
def addL (l : Ld) (o t : Nat) : Ld := tsort (others l o t ++ [(o, t, carts l (some o) (some t) + 1)])
theorem carts_others (l : Ld) (o t : Nat) (a b : Option Nat) : carts l a b = carts (others l o t) a b + (if okO a o && okO b t then carts l (some o) (some t) else 0) := by
  induction l with
  | nil => simp [carts, others]
  | cons e l ih =>
    by_cases h : e.1 = o ∧ e.2.1 = t
    · obtain ⟨h1, h2⟩ := h
      have ef : others (e :: l) o t = others l o t := by
        unfold others
        rw [List.filter_cons, if_neg (by simp [h1, h2])]
      have e2 : carts (e :: l) (some o) (some t) = e.2.2 + carts l (some o) (some t) := by
        rw [carts_cons, if_pos (by simp [okO, h1, h2])]
      rw [ef, e2, carts_cons, h1, h2, ih]
      split <;> omega
    · have hn : (decide (e.1 = o) && decide (e.2.1 = t)) = false := by
        rw [Bool.and_eq_false_iff]
        by_cases c : e.1 = o
        · exact .inr (decide_eq_false fun z => h ⟨c, z⟩)
        · exact .inl (decide_eq_false c)
      have ef : others (e :: l) o t = e :: others l o t := by
        unfold others
        rw [List.filter_cons, if_pos (by rw [hn]; rfl)]
      have hn2 : (okO (some o) e.1 && okO (some t) e.2.1) = false := by
        show (decide (o = e.1) && decide (t = e.2.1)) = false
        rw [Bool.and_eq_false_iff] at hn ⊢
        exact hn.imp (fun z => decide_eq_false fun y => of_decide_eq_false z y.symm) (fun z => decide_eq_false fun y => of_decide_eq_false z y.symm)
      have e2 : carts (e :: l) (some o) (some t) = carts l (some o) (some t) := by
        rw [carts_cons, hn2, if_neg (by decide), Nat.zero_add]
      rw [ef, e2, carts_cons, carts_cons, ih]
      omega
theorem carts_add (l : Ld) (o t : Nat) (a b : Option Nat) : carts (addL l o t) a b = carts l a b + (if okO a o && okO b t then 1 else 0) := by
  unfold addL
  rw [carts_perm (tsort_perm _), carts_app, carts_one, carts_others l o t a b]
  dsimp only
  split <;> omega
theorem add_more (l : Ld) (o t : Nat) : AtM l (addL l o t) := fun a b => by rw [carts_add]; omega
/-- a load is at most another one: pair by pair -/
def withinL (l m : Ld) : Bool := l.all fun e => decide (e.2.2 ≤ carts m (some e.1) (some e.2.1))
theorem carts_mem {l : Ld} {e : Ent} (h : e ∈ l) : e.2.2 ≤ carts l (some e.1) (some e.2.1) := by
  induction l with
  | nil => cases h
  | cons x l ih =>
    rw [carts_cons]
    rcases List.mem_cons.mp h with c | c
    · subst c
      simp [okO]
    · have := ih c
      omega
theorem within_add (l : Ld) (o t : Nat) : withinL l (addL l o t) = true := by
  unfold withinL
  rw [List.all_eq_true]
  intro e he
  have := carts_mem he
  have := add_more l o t (some e.1) (some e.2.1)
  exact decide_eq_true (by omega)
theorem add_within (l : Ld) (o t : Nat) : withinL (addL l o t) l = false := by
  unfold withinL
  rw [List.all_eq_false]
  refine ⟨(o, t, carts l (some o) (some t) + 1), ?_, ?_⟩
  · unfold addL
    rw [(tsort_perm _).mem_iff]
    simp
  · simp
/-! ### what is a book, what is a load -/
def pairsN (N : List Nat) : List (Nat × Nat) := N.flatMap fun o => (N.filter fun t => !decide (o = t)).map fun t => (o, t)
theorem mem_pairs {N : List Nat} {o t : Nat} : (o, t) ∈ pairsN N ↔ o ∈ N ∧ t ∈ N ∧ o ≠ t := by
  unfold pairsN
  rw [List.mem_flatMap]
  constructor
  · rintro ⟨x, hx, h⟩
    obtain ⟨y, hy, e⟩ := List.mem_map.mp h
    injection e with e1 e2
    subst e1; subst e2
    obtain ⟨h1, h2⟩ := List.mem_filter.mp hy
    exact ⟨hx, h1, fun z => by subst z; simp at h2⟩
  · rintro ⟨h1, h2, h3⟩
    exact ⟨o, h1, List.mem_map.mpr ⟨t, List.mem_filter.mpr ⟨h2, by simp [h3]⟩, rfl⟩⟩
structure GoodB (N : List Nat) (b : Bd) : Prop where
  some_ : b.1 ≠ none ∨ b.2.1 ≠ none
  or_ : ∀ o, b.1 = some o → o ∈ N
  tg : ∀ t, b.2.1 = some t → t ∈ N
  ne : ∀ o t, b.1 = some o → b.2.1 = some t → o ≠ t
  most : b.2.2 ≤ 6
structure GoodA (N : List Nat) (a : Alt) : Prop where
  least : 1 ≤ a.1
  most : a.1 ≤ 6
  few : a.2.length ≤ 6
  bs : ∀ b ∈ a.2, GoodB N b
structure GoodBk (N : List Nat) (B : Bk) : Prop where
  least : 1 ≤ B.length
  most : B.length ≤ 4
  as_ : ∀ a ∈ B, GoodA N a
  single : ∀ o t, (o, t) ∈ pairsN N → standsB B [(o, t, 1)] = true
/-- pairs in their order -/
def lt2 (e f : Ent) : Prop := e.1 < f.1 ∨ (e.1 = f.1 ∧ e.2.1 < f.2.1)
structure GoodL (N : List Nat) (l : Ld) : Prop where
  pr : ∀ e ∈ l, (e.1, e.2.1) ∈ pairsN N
  pos : ∀ e ∈ l, 0 < e.2.2
  srt : l.Pairwise lt2
theorem GoodL.nil (N : List Nat) : GoodL N [] := ⟨fun _ h => (nomatch h), fun _ h => (nomatch h), .nil⟩
theorem lt2_trans {e f g : Ent} (h1 : lt2 e f) (h2 : lt2 f g) : lt2 e g := by
  unfold lt2 at h1 h2 ⊢
  omega
theorem lt2_c3 {e f : Ent} (a : Sm e) (b : Sm f) (h : lt2 e f) : c3 e ≤ c3 f := by
  unfold lt2 at h
  unfold Sm at a b
  unfold c3
  omega
theorem c3_lt2 {e f : Ent} (a : Sm e) (b : Sm f) (h : c3 e ≤ c3 f) (ne : ¬ (e.1 = f.1 ∧ e.2.1 = f.2.1)) : lt2 e f := by
  unfold Sm at a b
  unfold c3 at h
  unfold lt2
  omega
/-- sorted anew, where the pairs are unlike -/
theorem srt_lt2 {l : Ld} (b : ∀ e ∈ l, Sm e) (nd : l.Pairwise fun e f => ¬ (e.1 = f.1 ∧ e.2.1 = f.2.1)) : (tsort l).Pairwise lt2 := by
  have sy : ∀ {l : Ld}, l.Pairwise (fun e f => ¬ (e.1 = f.1 ∧ e.2.1 = f.2.1)) → ∀ {m : Ld}, m.Perm l → m.Pairwise fun e f => ¬ (e.1 = f.1 ∧ e.2.1 = f.2.1) := fun h m p => (p.symm.pairwise_iff fun {x y} h z => h ⟨z.1.symm, z.2.symm⟩).mp h
  have h1 := sy nd (tsort_perm l)
  have h2 := tsort_srt l
  exact (List.Pairwise.imp_of_mem (fun {x y} hx hy h => c3_lt2 (b x ((tsort_perm l).mem_iff.mp hx)) (b y ((tsort_perm l).mem_iff.mp hy)) h.2 h.1) (h1.and h2))
theorem GoodL.unlike {N : List Nat} {l : Ld} (g : GoodL N l) : l.Pairwise fun e f => ¬ (e.1 = f.1 ∧ e.2.1 = f.2.1) := g.srt.imp fun h z => by
  unfold lt2 at h
  omega
/-- small places, few carts -/
def SmL (l : Ld) : Prop := ∀ e ∈ l, Sm e
theorem others_sub (l : Ld) (o t : Nat) : (others l o t).Sublist l := List.filter_sublist
theorem mem_others {l : Ld} {o t : Nat} {e : Ent} (h : e ∈ others l o t) : e ∈ l ∧ ¬ (e.1 = o ∧ e.2.1 = t) := by
  obtain ⟨h1, h2⟩ := List.mem_filter.mp h
  refine ⟨h1, fun z => ?_⟩
  simp [z.1, z.2] at h2
theorem add_sm {N : List Nat} {l : Ld} {o t : Nat} (sN : ∀ x ∈ N, x < 1024) (s : SmL l) (p : (o, t) ∈ pairsN N) (k : carts l (some o) (some t) < 2000) : SmL (others l o t ++ [(o, t, carts l (some o) (some t) + 1)]) := fun e he => by
  rcases List.mem_append.mp he with h | h
  · exact s e (mem_others h).1
  · rw [List.mem_singleton.mp h]
    obtain ⟨a, b, _⟩ := mem_pairs.mp p
    have := sN o a
    have := sN t b
    unfold Sm
    simp only
    omega
theorem GoodL.add {N : List Nat} {l : Ld} (g : GoodL N l) {o t : Nat} (sN : ∀ x ∈ N, x < 1024) (s : SmL l) (p : (o, t) ∈ pairsN N) (k : carts l (some o) (some t) < 2000) : GoodL N (addL l o t) := by
  have sm := add_sm sN s p k
  refine ⟨fun e he => ?_, fun e he => ?_, srt_lt2 sm ?_⟩
  · rcases List.mem_append.mp ((tsort_perm _).mem_iff.mp he) with h | h
    · exact g.pr e (mem_others h).1
    · rw [List.mem_singleton.mp h]
      exact p
  · rcases List.mem_append.mp ((tsort_perm _).mem_iff.mp he) with h | h
    · exact g.pos e (mem_others h).1
    · rw [List.mem_singleton.mp h]
      exact Nat.succ_pos _
  · refine List.pairwise_append.mpr ⟨g.unlike.sublist (others_sub l o t), List.pairwise_singleton _ _, fun e he f hf => ?_⟩
    rw [List.mem_singleton.mp hf]
    exact (mem_others he).2
theorem GoodL.less {N : List Nat} {A B : Ld} {e : Ent} (g : GoodL N (A ++ e :: B)) : GoodL N (A ++ less1 e ++ B) := by
  have sub : ∀ f ∈ A ++ less1 e ++ B, (∃ f' ∈ A ++ e :: B, f.1 = f'.1 ∧ f.2.1 = f'.2.1) ∧ 0 < f.2.2 := fun f hf => by
    rcases List.mem_append.mp hf with hf | hf
    · rcases List.mem_append.mp hf with hf | hf
      · exact ⟨⟨f, by simp [hf], rfl, rfl⟩, g.pos f (by simp [hf])⟩
      · unfold less1 at hf
        split at hf
        · rw [List.mem_singleton.mp hf]
          exact ⟨⟨e, by simp, rfl, rfl⟩, by simp only; omega⟩
        · cases hf
    · exact ⟨⟨f, by simp [hf], rfl, rfl⟩, g.pos f (by simp [hf])⟩
  refine ⟨fun f hf => ?_, fun f hf => (sub f hf).2, ?_⟩
  · obtain ⟨⟨f', h1, h2, h3⟩, _⟩ := sub f hf
    rw [h2, h3]
    exact g.pr f' h1
  · have s := g.srt
    obtain ⟨sA, sB, sAB⟩ := List.pairwise_append.mp s
    obtain ⟨e1, sB⟩ := List.pairwise_cons.mp sB
    unfold less1
    split
    · rw [List.append_assoc]
      refine List.pairwise_append.mpr ⟨sA, List.pairwise_cons.mpr ⟨fun f hf => e1 f hf, sB⟩, fun x hx y hy => ?_⟩
      rcases List.mem_cons.mp hy with h | h
      · rw [h]
        exact sAB x hx e List.mem_cons_self
      · exact sAB x hx y (List.mem_cons_of_mem _ h)
    · rw [List.append_nil]
      exact List.pairwise_append.mpr ⟨sA, sB, fun x hx y hy => sAB x hx y (List.mem_cons_of_mem _ hy)⟩
theorem length_carts {l : Ld} (h : ∀ e ∈ l, 0 < e.2.2) : l.length ≤ carts l none none := by
  induction l with
  | nil => exact Nat.zero_le _
  | cons e l ih =>
    rw [carts_cons, List.length_cons]
    have h1 := h e List.mem_cons_self
    have h2 := ih fun x hx => h x (List.mem_cons_of_mem _ hx)
    simp only [okO, Bool.and_self, if_true]
    omega
theorem one_carts {l : Ld} {e : Ent} (h : e ∈ l) : e.2.2 ≤ carts l none none := by
  induction l with
  | nil => cases h
  | cons x l ih =>
    rw [carts_cons]
    simp only [okO, Bool.and_self, if_true]
    rcases List.mem_cons.mp h with c | c
    · subst c
      omega
    · have := ih c
      omega
theorem carts_le (l : Ld) (o t : Option Nat) : carts l o t ≤ carts l none none := by
  induction l with
  | nil => exact Nat.le_refl _
  | cons x l ih =>
    have h0 : (okO none x.1 && okO none x.2.1) = true := rfl
    rw [carts_cons, carts_cons x l none none, if_pos h0]
    split <;> omega
theorem all_in {α : Type} {f g : α → Bool} : ∀ {l : List α}, (∀ a ∈ l, f a = g a) → l.all f = l.all g
  | [], _ => rfl
  | a :: l, h => by rw [List.all_cons, List.all_cons, h a List.mem_cons_self, all_in fun b hb => h b (List.mem_cons_of_mem _ hb)]
theorem any_in {α : Type} {f g : α → Bool} : ∀ {l : List α}, (∀ a ∈ l, f a = g a) → l.any f = l.any g
  | [], _ => rfl
  | a :: l, h => by rw [List.any_cons, List.any_cons, h a List.mem_cons_self, any_in fun b hb => h b (List.mem_cons_of_mem _ hb)]
theorem GoodL.smL {N : List Nat} {l : Ld} (g : GoodL N l) (sN : ∀ x ∈ N, x < 1024) (k : carts l none none < 2000) : SmL l := fun e he => by
  obtain ⟨a, b, _⟩ := mem_pairs.mp (g.pr e he)
  have := sN _ a
  have := sN _ b
  have := one_carts he
  unfold Sm
  omega
/-- other names for the places of a book, of a load -/
def ren1 (f : Nat → Nat) (b : Bd) : Bd := (b.1.map f, b.2.1.map f, b.2.2)
def renB (f : Nat → Nat) (B : Bk) : Bk := B.map fun a => (a.1, a.2.map (ren1 f))
def renE (f : Nat → Nat) (e : Ent) : Ent := (f e.1, f e.2.1, e.2.2)
def renL (f : Nat → Nat) (l : Ld) : Ld := l.map (renE f)
theorem okO_ren {f : Nat → Nat} {N : List Nat} (inj : ∀ a ∈ N, ∀ b ∈ N, f a = f b → a = b) {o : Option Nat} {x : Nat} (ho : ∀ y, o = some y → y ∈ N) (hx : x ∈ N) : okO (o.map f) (f x) = okO o x := by
  cases o with
  | none => rfl
  | some y =>
    show decide (f y = f x) = decide (y = x)
    exact decide_eq_decide.mpr ⟨fun z => inj y (ho y rfl) x hx z, fun z => congrArg f z⟩
theorem carts_ren {f : Nat → Nat} {N : List Nat} (inj : ∀ a ∈ N, ∀ b ∈ N, f a = f b → a = b) {o t : Option Nat} (ho : ∀ y, o = some y → y ∈ N) (ht : ∀ y, t = some y → y ∈ N) : ∀ {l : Ld}, (∀ e ∈ l, e.1 ∈ N ∧ e.2.1 ∈ N) → carts (renL f l) (o.map f) (t.map f) = carts l o t
  | [], _ => rfl
  | e :: l, h => by
    have ih := carts_ren inj ho ht (l := l) fun x hx => h x (List.mem_cons_of_mem _ hx)
    obtain ⟨h1, h2⟩ := h e List.mem_cons_self
    show carts (renE f e :: renL f l) _ _ = _
    rw [carts_cons, carts_cons, ih]
    show (if okO (o.map f) (f e.1) && okO (t.map f) (f e.2.1) then e.2.2 else 0) + _ = _
    rw [okO_ren inj ho h1, okO_ren inj ht h2]
theorem GoodB.in_ {N : List Nat} {b : Bd} (g : GoodB N b) : (∀ y, b.1 = some y → y ∈ N) ∧ (∀ y, b.2.1 = some y → y ∈ N) := ⟨g.or_, g.tg⟩
theorem stands_ren {f : Nat → Nat} {N : List Nat} (inj : ∀ a ∈ N, ∀ b ∈ N, f a = f b → a = b) {B : Bk} (gB : ∀ a ∈ B, GoodA N a) {l : Ld} (hl : ∀ e ∈ l, e.1 ∈ N ∧ e.2.1 ∈ N) : standsB (renB f B) (renL f l) = standsB B l := by
  unfold standsB renB
  rw [List.any_map]
  refine any_in fun a ha => ?_
  show standsA (renL f l) (a.1, a.2.map (ren1 f)) = standsA l a
  unfold standsA
  have h0 : carts (renL f l) none none = carts l none none := carts_ren (o := none) (t := none) inj (fun _ h => nomatch h) (fun _ h => nomatch h) hl
  rw [h0]
  congr 1
  rw [List.all_map]
  refine all_in fun b hb => ?_
  show keeps (renL f l) (ren1 f b) = keeps l b
  unfold keeps
  have g := ((gB a ha).bs b hb).in_
  have e : carts (renL f l) (ren1 f b).1 (ren1 f b).2.1 = carts l b.1 b.2.1 := carts_ren inj g.1 g.2 hl
  rw [e]
  rfl
theorem stands_sort (B : Bk) {l m : Ld} (p : l.Perm m) : standsB B l = standsB B m := by
  unfold standsB
  refine any_in fun a _ => ?_
  unfold standsA
  rw [carts_perm p]
  congr 1
  refine all_in fun b _ => ?_
  unfold keeps
  rw [carts_perm p]
theorem GoodL.in_ {N : List Nat} {l : Ld} (g : GoodL N l) : ∀ e ∈ l, e.1 ∈ N ∧ e.2.1 ∈ N := fun e he => ⟨(mem_pairs.mp (g.pr e he)).1, (mem_pairs.mp (g.pr e he)).2.1⟩
theorem GoodB.ren {f : Nat → Nat} {N N' : List Nat} (inj : ∀ a ∈ N, ∀ b ∈ N, f a = f b → a = b) (on : ∀ x ∈ N, f x ∈ N') {b : Bd} (g : GoodB N b) : GoodB N' (ren1 f b) := by
  obtain ⟨o, t, n⟩ := b
  refine ⟨?_, fun o' h => ?_, fun t' h => ?_, fun o' t' h1 h2 => ?_, g.most⟩
  · rcases g.some_ with h | h
    · left
      cases o with
      | none => exact absurd rfl h
      | some o => exact fun z => nomatch z
    · right
      cases t with
      | none => exact absurd rfl h
      | some t => exact fun z => nomatch z
  · cases o with
    | none => cases h
    | some o => cases h; exact on o (g.or_ o rfl)
  · cases t with
    | none => cases h
    | some t => cases h; exact on t (g.tg t rfl)
  · cases o with
    | none => cases h1
    | some o =>
      cases t with
      | none => cases h2
      | some t =>
        cases h1; cases h2
        exact fun z => g.ne o t rfl rfl (inj o (g.or_ o rfl) t (g.tg t rfl) z)
theorem GoodA.ren {f : Nat → Nat} {N N' : List Nat} (inj : ∀ a ∈ N, ∀ b ∈ N, f a = f b → a = b) (on : ∀ x ∈ N, f x ∈ N') {a : Alt} (g : GoodA N a) : GoodA N' (a.1, a.2.map (ren1 f)) :=
  ⟨g.least, g.most, by rw [List.length_map]; exact g.few, fun b hb => by
    obtain ⟨c, hc, e⟩ := List.mem_map.mp hb
    exact e ▸ (g.bs c hc).ren inj on⟩
/-- a book with other names is one -/
theorem GoodBk.ren {f : Nat → Nat} {N N' : List Nat} (inj : ∀ a ∈ N, ∀ b ∈ N, f a = f b → a = b) (on : ∀ x ∈ N, f x ∈ N') (off : ∀ y ∈ N', ∃ x ∈ N, f x = y) {B : Bk} (g : GoodBk N B) : GoodBk N' (renB f B) := by
  refine ⟨by unfold renB; rw [List.length_map]; exact g.least, by unfold renB; rw [List.length_map]; exact g.most, fun a ha => ?_, fun o t h => ?_⟩
  · obtain ⟨c, hc, e⟩ := List.mem_map.mp ha
    exact e ▸ (g.as_ c hc).ren inj on
  · obtain ⟨ho, ht, ne⟩ := mem_pairs.mp h
    obtain ⟨o', ho', rfl⟩ := off o ho
    obtain ⟨t', ht', rfl⟩ := off t ht
    have := stands_ren inj g.as_ (l := [(o', t', 1)]) (fun e he => by rw [List.mem_singleton.mp he]; exact ⟨ho', ht'⟩)
    rw [show renL f [(o', t', 1)] = [(f o', f t', 1)] from rfl] at this
    rw [this]
    exact g.single o' t' (mem_pairs.mpr ⟨ho', ht', fun z => ne (congrArg f z)⟩)
theorem GoodL.ren {f : Nat → Nat} {N N' : List Nat} (inj : ∀ a ∈ N, ∀ b ∈ N, f a = f b → a = b) (on : ∀ x ∈ N, f x ∈ N') {l : Ld} (g : GoodL N l) (sm : ∀ e ∈ renL f l, Sm e) : GoodL N' (tsort (renL f l)) := by
  have mem : ∀ {e : Ent}, e ∈ tsort (renL f l) → ∃ c ∈ l, renE f c = e := fun h => List.mem_map.mp ((tsort_perm _).mem_iff.mp h)
  refine ⟨fun e he => ?_, fun e he => ?_, srt_lt2 sm ?_⟩
  · obtain ⟨c, hc, rfl⟩ := mem he
    obtain ⟨h1, h2, h3⟩ := mem_pairs.mp (g.pr c hc)
    exact mem_pairs.mpr ⟨on _ h1, on _ h2, fun z => h3 (inj _ h1 _ h2 z)⟩
  · obtain ⟨c, hc, rfl⟩ := mem he
    exact g.pos c hc
  · unfold renL
    refine List.pairwise_map.mpr (List.Pairwise.imp_of_mem (fun {a b} ha hb h z => ?_) g.unlike)
    obtain ⟨a1, a2⟩ := g.in_ a ha
    obtain ⟨b1, b2⟩ := g.in_ b hb
    exact h ⟨inj _ a1 _ b1 z.1, inj _ a2 _ b2 z.2⟩
end TM
set_option Elab.async false
set_option linter.all false
set_option maxRecDepth 100000
set_option maxHeartbeats 4000000
/-! what is made of the known and of the new -/
namespace Nw
open PySem PySem.Spec PyProof.Rows L2 Ep
open Evl (Ex Ev EvT EvA EvL EvU)
abbrev Rep (β : Type) := Hp → V → β → Prop
def Mono {β : Type} (S : Rep β) : Prop := ∀ H H' v b, Ex H H' → S H v b → S H' v b
/-- Hn: of the base H0, and of what is new since H1 -/
def Mk (H0 H1 H2 Hn : Hp) : Prop := ∀ b o, Hn b = some o → H2 b = some o ∧ (H0 b = some o ∨ H1 b = none)
def NewR {β : Type} (S : Rep β) (H0 : Hp) (x : β) : VP := fun v H1 H2 => ∃ Hn, Mk H0 H1 H2 Hn ∧ S Hn v x
section
variable {β : Type} {S : Rep β} {H0 H0' H1 H2 H3 Hn : Hp} {x : β} {v : V}
theorem Mk.ex (h : Mk H0 H1 H2 Hn) : Ex Hn H2 := fun b o k => (h b o k).1
theorem Mk.on (h : Mk H0 H1 H2 Hn) (e : Ex H2 H3) : Mk H0 H1 H3 Hn := fun b o k => ⟨e _ _ (h b o k).1, (h b o k).2⟩
theorem Mk.back {Ha : Hp} (h : Mk H0 H1 H2 Hn) (e : Ex Ha H1) : Mk H0 Ha H2 Hn := fun b o k => ⟨(h b o k).1, (h b o k).2.imp id (Evl.fresh_back e)⟩
theorem Mk.base (h : Mk H0 H1 H2 Hn) (e : Ex H0 H0') : Mk H0' H1 H2 Hn := fun b o k => ⟨(h b o k).1, (h b o k).2.imp (e _ _) id⟩
theorem NewR.on (h : NewR S H0 x v H1 H2) (e : Ex H2 H3) : NewR S H0 x v H1 H3 := by
  obtain ⟨Hn, m, s⟩ := h
  exact ⟨Hn, m.on e, s⟩
theorem NewR.back {Ha : Hp} (h : NewR S H0 x v H1 H2) (e : Ex Ha H1) : NewR S H0 x v Ha H2 := by
  obtain ⟨Hn, m, s⟩ := h
  exact ⟨Hn, m.back e, s⟩
theorem NewR.at_ (mo : Mono S) (h : NewR S H0 x v H1 H2) : S H2 v x := by
  obtain ⟨Hn, m, s⟩ := h
  exact mo _ _ _ _ m.ex s
/-- a change at something that was there, but not of the base -/
theorem Mk.mut (h : Mk H0 H1 H2 Hn) {D : Addr} {o : HO} (h0 : H0 D = none) (h1 : H1 D ≠ none) : Ex Hn (upd H2 D o) := fun b u k => by
  have n : b ≠ D := fun z => by
    rcases (h b u k).2 with a | a
    · rw [z, h0] at a
      cases a
    · exact h1 (z ▸ a)
  rw [upd_ne n]
  exact (h b u k).1
theorem newR_old (h : S H0 v x) (e : Ex H0 H2) : NewR S H0 x v H1 H2 := ⟨H0, fun b o k => ⟨e _ _ k, .inl k⟩, h⟩
end
/-- two parts together -/
def join (Ha Hb : Hp) : Hp := fun b => match Ha b with
  | some o => some o
  | none => Hb b
theorem Mk.join {H0 H1 H2 Ha Hb : Hp} (a : Mk H0 H1 H2 Ha) (b : Mk H0 H1 H2 Hb) : Mk H0 H1 H2 (join Ha Hb) ∧ Ex Ha (Nw.join Ha Hb) ∧ Ex Hb (Nw.join Ha Hb) := by
  refine ⟨fun c o k => ?_, fun c o k => ?_, fun c o k => ?_⟩
  · unfold Nw.join at k
    cases e : Ha c with
    | some u => rw [e] at k; exact a c o (e.trans k)
    | none => rw [e] at k; exact b c o k
  · unfold Nw.join
    rw [k]
  · unfold Nw.join
    cases e : Ha c with
    | some u =>
      have h1 := (a c u e).1
      have h2 := (b c o k).1
      rw [h1] at h2
      exact h2
    | none => exact k
theorem Mk.put {H0 H1 H2 Ha : Hp} (a : Mk H0 H1 H2 Ha) {p : Addr} {o : HO} (f : H2 p = none) (f1 : H1 p = none) : Mk H0 H1 (upd H2 p o) (upd Ha p o) ∧ Ex Ha (upd Ha p o) := by
  have fa : Ha p = none := by
    cases e : Ha p with
    | none => rfl
    | some u => rw [(a p u e).1] at f; cases f
  refine ⟨fun c u k => ?_, Ex.new fa⟩
  by_cases n : c = p
  · subst n
    rw [upd_same] at k ⊢
    exact ⟨k, .inr f1⟩
  · rw [upd_ne n] at k ⊢
    exact a c u k
/-! ### lists of such -/
def LstOf {β : Type} (S : Rep β) : Rep (List β) := fun H v l => ∃ p vs, v = .ref p ∧ H p = some (.lst vs) ∧ Paired (S H) vs l
def TupOf {β : Type} (S : Rep β) : Rep (List β) := fun H v l => ∃ p vs, v = .ref p ∧ H p = some (.tup vs) ∧ Paired (S H) vs l
theorem pimp {α β : Type} {R S : α → β → Prop} (k : ∀ a b, R a b → S a b) : ∀ {xs : List α} {ys : List β}, Paired R xs ys → Paired S xs ys
  | _, _, .nil => .nil
  | _, _, .cons h t => .cons (k _ _ h) (pimp k t)
theorem pix {α β : Type} {R : α → β → Prop} : ∀ {xs : List α} {ys : List β} {i : Nat} {x : α}, Paired R xs ys → xs[i]? = some x → ∃ y, ys[i]? = some y ∧ R x y
  | _, _, _, _, .nil, e => by simp at e
  | _, _, 0, _, .cons r _, e => by simp at e; subst e; exact ⟨_, rfl, r⟩
  | _, _, i + 1, x, .cons _ t, e => by
    obtain ⟨u, h1, h2⟩ := pix (i := i) (x := x) t (by simpa using e)
    exact ⟨u, by simpa using h1, h2⟩
theorem piy {α β : Type} {R : α → β → Prop} : ∀ {xs : List α} {ys : List β} {i : Nat} {y : β}, Paired R xs ys → ys[i]? = some y → ∃ x, xs[i]? = some x ∧ R x y
  | _, _, _, _, .nil, e => by simp at e
  | _, _, 0, _, .cons r _, e => by simp at e; subst e; exact ⟨_, rfl, r⟩
  | _, _, i + 1, x, .cons _ t, e => by
    obtain ⟨u, h1, h2⟩ := piy (i := i) (y := x) t (by simpa using e)
    exact ⟨u, by simpa using h1, h2⟩
theorem papp {α β : Type} {R : α → β → Prop} : ∀ {xs us : List α} {ys ws : List β}, Paired R xs ys → Paired R us ws → Paired R (xs ++ us) (ys ++ ws)
  | _, _, _, _, .nil, h => h
  | _, _, _, _, .cons h t, k => .cons h (papp t k)
theorem Mono.paired {β : Type} {S : Rep β} (mo : Mono S) {H H' : Hp} (e : Ex H H') {vs : List V} {l : List β} (h : Paired (S H) vs l) : Paired (S H') vs l := pimp (fun a b k => mo _ _ _ _ e k) h
theorem Mono.lst {β : Type} {S : Rep β} (mo : Mono S) : Mono (LstOf S) := fun H H' v b e ⟨p, vs, r, k, h⟩ => ⟨p, vs, r, e _ _ k, mo.paired e h⟩
theorem Mono.tup {β : Type} {S : Rep β} (mo : Mono S) : Mono (TupOf S) := fun H H' v b e ⟨p, vs, r, k, h⟩ => ⟨p, vs, r, e _ _ k, mo.paired e h⟩
section
variable {K : PySem.W.Frag} {σ : L2.St} {H : Hp}
def NewLst {β : Type} (S : Rep β) (H0 : Hp) (l : List β) : VP := fun v H1 H2 => ∃ p vs Hn, v = .ref p ∧ H1 p = none ∧ Mk H0 H1 H2 Hn ∧ Hn p = some (.lst vs) ∧ Paired (S Hn) vs l
theorem NewLst.r {β : Type} {S : Rep β} {H0 H1 H2 : Hp} {l : List β} {v : V} (h : NewLst S H0 l v H1 H2) : NewR (LstOf S) H0 l v H1 H2 := by
  obtain ⟨p, vs, Hn, r, _, m, k, h⟩ := h
  exact ⟨Hn, m, p, vs, r, k, h⟩
theorem NewLst.back {β : Type} {S : Rep β} {H0 H1 H2 Ha : Hp} {l : List β} {v : V} (h : NewLst S H0 l v H1 H2) (e : Ex Ha H1) : NewLst S H0 l v Ha H2 := by
  obtain ⟨p, vs, Hn, r, f, m, k, h⟩ := h
  exact ⟨p, vs, Hn, r, Evl.fresh_back e f, m.back e, k, h⟩
theorem NewLst.on {β : Type} {S : Rep β} {H0 H1 H2 H3 : Hp} {l : List β} {v : V} (h : NewLst S H0 l v H1 H2) (e : Ex H2 H3) : NewLst S H0 l v H1 H3 := by
  obtain ⟨p, vs, Hn, r, f, m, k, h⟩ := h
  exact ⟨p, vs, Hn, r, f, m.on e, k, h⟩
theorem NewLst.base {β : Type} {S : Rep β} {H0 H0' H1 H2 : Hp} {l : List β} {v : V} (h : NewLst S H0 l v H1 H2) (e : Ex H0 H0') : NewLst S H0' l v H1 H2 := by
  obtain ⟨p, vs, Hn, r, f, m, k, h⟩ := h
  exact ⟨p, vs, Hn, r, f, m.base e, k, h⟩
/-- a comprehension, its word told of the heap where it begins -/
theorem lcJ {wi : TI} {g : TG} {tt : TT} {te : TE} {vs : List Nat} {n : Nat} {X : Nat → V → Prop} (s : Src wi σ H n X) (hn : n ≤ 50000) (st : Nat → V → L2.St) (hw : ∀ i x, wipe (st i x) vs = wipe σ vs) (I : Hp → Addr → Nat → List V → Hp → Prop)
    (hg : ∀ i x H1 Q, Ex H H1 → i < n → X i x → Q (st i x) H1 → g x (wipe σ vs) H1 Q) (f : Nat → Bool)
    (ht : ∀ i x H1, Ex H H1 → i < n → X i x → EvT tt (st i x) H1 (f i)) (P : Nat → VP)
    (he : ∀ i x H1, Ex H H1 → i < n → X i x → f i = true → EvP te (st i x) H1 (P i))
    (i0 : ∀ Hs D H1, Ex H Hs → Ex Hs H1 → Hs D = none → I Hs D 0 [] H1) (iE : ∀ Hs D i ys Ha Hb, Ex Ha Hb → I Hs D i ys Ha → I Hs D i ys Hb)
    (iY : ∀ Hs D i ys v Ha Hb, Ex H Hs → Ex Hs Ha → Hs D = none → Ex Ha Hb → Ha D = some (.lst ys) → i < n → f i = true → I Hs D i ys Ha → P i v Ha Hb → ∀ xs, I Hs D (i + 1) (ys ++ [v]) (upd Hb D (.lst xs))) (iN : ∀ Hs D i ys Ha, Ex H Ha → i < n → f i = false → I Hs D i ys Ha → I Hs D (i + 1) ys Ha) :
    EvP (tLc wi g tt te vs) σ H (fun v H1 H2 => ∃ p ys, v = .ref p ∧ H1 p = none ∧ H2 p = some (.lst ys) ∧ ys.length ≤ n ∧ I H1 p n ys H2) := fun H0 e0 Q q => by
  refine s H0 e0 _ fun J H1 G e1 hG hW D hD => ?_
  have f0 := Evl.fresh_back e1 hD
  have iE0 : ∀ o, Ex H1 (upd H1 D o) := fun o => Ex.new hD
  refine lc_it hW (fun i H' => ∃ ys, Ex H1 H' ∧ I H0 D i ys H' ∧ ys.length ≤ i ∧ H' D = some (.lst ys)) ⟨[], iE0 _, i0 H0 D _ e0 (e1.trans (iE0 _)) f0, Nat.le_refl _, upd_same⟩
    (fun i H' _ ⟨ys, a, _, _, _⟩ => hG _ a) (fun i x Ha Hb hi ⟨ys, a, hI, hl, c⟩ y => ?_) (fun H' ⟨ys, a, hI, hl, c⟩ => q (.ref D) H' (e1.trans a) ⟨D, ys, rfl, f0, c, hl, hI⟩)
  obtain ⟨rfl, hX⟩ := y
  have eA : Ex H Hb := (e0.trans e1).trans a
  refine hg i x Hb _ eA hi hX ⟨hw i x, ?_⟩
  refine ht i x Hb eA hi hX Hb (Ex.refl _) _ fun Hc ec => ?_
  cases hf : f i with
  | true =>
    refine iteT ?_
    refine he i x Hb eA hi hX hf Hc ec _ fun v Hd ed p => ?_
    refine ⟨ys, ed _ _ (ec _ _ c), Nat.lt_of_le_of_lt hl (Nat.lt_of_lt_of_le hi (Nat.le_trans hn (by decide))), ys ++ [v], ?_, ?_, ?_, upd_same⟩
    · exact Ex.mut ((a.trans ec).trans ed) hD
    · exact iY H0 D i ys v Hc Hd e0 ((e1.trans a).trans ec) f0 ed (ec _ _ c) hi hf (iE _ _ _ _ _ _ ec hI) p _
    · simp
      exact hl
  | false =>
    refine iteF ?_
    exact ⟨ys, a.trans ec, iN H0 D i ys Hc (eA.trans ec) hi hf (iE _ _ _ _ _ _ ec hI), Nat.le_succ_of_le hl, ec _ _ c⟩
theorem tk_more {α : Type} : ∀ {l : List α} {i : Nat} {x : α}, l[i]? = some x → l.take (i + 1) = l.take i ++ [x]
  | [], i, x, h => by simp at h
  | a :: l, 0, x, h => by
    have e : a = x := Option.some.inj h
    subst e
    rfl
  | a :: l, i + 1, x, h => by
    have ih := tk_more (l := l) (i := i) (x := x) h
    show a :: l.take (i + 1) = a :: l.take i ++ [x]
    rw [ih]
    rfl
/-- [F a for a in L if f a]: what is made of each stands of the base and of the new -/
theorem lcG {α β : Type} [Inhabited α] {R : Rep α} {S : Rep β} (mR : Mono R) (mS : Mono S) {wi : TI} {g : TG} {tt : TT} {te : TE} {vs : List Nat} {ls : List V} {L : List α} (s : Src wi σ H ls.length (fun i v => ls[i]? = some v)) (hp : Paired (R H) ls L) (hn : L.length ≤ 50000) (st : α → V → L2.St) (hw : ∀ a x, wipe (st a x) vs = wipe σ vs)
    (hg : ∀ a x H1 Q, a ∈ L → Ex H H1 → R H x a → R H1 x a → Q (st a x) H1 → g x (wipe σ vs) H1 Q) (f : α → Bool)
    (ht : ∀ a x, a ∈ L → R H x a → EvT tt (st a x) H (f a)) (F : α → β)
    (he : ∀ a x, a ∈ L → R H x a → f a = true → EvP te (st a x) H (NewR S H (F a))) :
    EvP (tLc wi g tt te vs) σ H (NewLst S H ((L.filter f).map F)) := by
  have hll : ls.length = L.length := PySem.Paired.length hp
  have at_ : ∀ {i : Nat} {x : V} {H1 : Hp}, ls[i]? = some x → Ex H H1 → R H1 x (L.getD i default) ∧ L.getD i default ∈ L ∧ L[i]? = some (L.getD i default) := fun {i x H1} hx e => by
    obtain ⟨q, hq, r⟩ := pix hp hx
    have : L.getD i default = q := by rw [List.getD_eq_getElem?_getD, hq]; rfl
    exact ⟨this ▸ mR _ _ _ _ e r, this ▸ List.mem_of_getElem? hq, this ▸ hq⟩
  refine EvP.imp (lcJ s (by omega) (fun i x => st (L.getD i default) x) (fun _ _ => hw _ _) (fun Hs D i ys H' => ∃ Hn, Mk H Hs H' Hn ∧ Hn D = none ∧ Paired (S Hn) ys (((L.take i).filter f).map F)) (fun i x H1 Q e hi hx q => ?_) (fun i => f (L.getD i default)) (fun i x H1 e hi hx => ?_) (fun i => NewR S H (F (L.getD i default)))
    (fun i x H1 e hi hx hf => ?_) (fun Hs D H1 e e2 hD => ?_) (fun Hs D i ys Ha Hb e h => ?_) (fun Hs D i ys v Ha Hb e0 es hs eab hD hi hf h hv xs => ?_) (fun Hs D i ys Ha e hi hf h => ?_)) (fun v Ha Hb ea eb h => ?_)
  · obtain ⟨r, m, _⟩ := at_ hx e
    exact hg _ _ _ _ m e (at_ hx (Ex.refl H)).1 r q
  · obtain ⟨r, m, _⟩ := at_ hx (Ex.refl H)
    exact (ht _ _ m r).mono e
  · obtain ⟨r, m, _⟩ := at_ hx (Ex.refl H)
    exact (he _ _ m r hf).mono e
  · exact ⟨H, fun b o k => ⟨e2 _ _ (e _ _ k), .inl k⟩, Evl.fresh_back e hD, .nil⟩
  · obtain ⟨Hn, m, d, p⟩ := h
    exact ⟨Hn, m.on e, d, p⟩
  · obtain ⟨Hn, m, d, p⟩ := h
    obtain ⟨Hv, mv, sv⟩ := hv
    have h0 : H D = none := Evl.fresh_back e0 hs
    have dv : Hv D = none := by
      cases c : Hv D with
      | none => rfl
      | some o =>
        rcases (mv D o c).2 with z | z
        · rw [h0] at z; cases z
        · rw [hD] at z; cases z
    have mv2 : Mk H Hs Hb Hv := mv.back es
    obtain ⟨mj, ja, jb⟩ := (m.on eab).join mv2
    have dj : join Hn Hv D = none := by
      unfold join
      rw [d]
      exact dv
    refine ⟨join Hn Hv, fun b o k => ?_, dj, ?_⟩
    · have n : b ≠ D := fun z => by rw [z, dj] at k; cases k
      rw [upd_ne n]
      exact mj b o k
    · have hi2 : i < L.length := by omega
      have hx : L[i]? = some (L.getD i default) := by rw [List.getD_eq_getElem?_getD, List.getElem?_eq_getElem hi2]; rfl
      rw [tk_more hx, List.filter_append, List.map_append]
      refine papp (mS.paired ja p) ?_
      have ef : (List.filter f [L.getD i default]).map F = [F (L.getD i default)] := by
        rw [List.filter_cons, if_pos hf]
        rfl
      rw [ef]
      exact .cons (mS _ _ _ _ jb sv) .nil
  · obtain ⟨Hn, m, d, p⟩ := h
    refine ⟨Hn, m, d, ?_⟩
    have hi2 : i < L.length := by omega
    have hx : L[i]? = some (L.getD i default) := by rw [List.getD_eq_getElem?_getD, List.getElem?_eq_getElem hi2]; rfl
    rw [tk_more hx, List.filter_append, List.map_append]
    have ef : (List.filter f [L.getD i default]).map F = [] := by
      rw [List.filter_cons, if_neg (by rw [hf]; decide)]
      rfl
    rw [ef, List.append_nil]
    exact p
  · obtain ⟨D, ys, rfl, fD, hD, _, Hn, m, d, p⟩ := h
    rw [hll, List.take_length] at p
    refine ⟨D, ys, upd Hn D (.lst ys), rfl, fD, fun b o k => ?_, upd_same, mS.paired (Ex.new d) p⟩
    by_cases n : b = D
    · subst n
      rw [upd_same] at k
      exact ⟨hD.trans k, .inr fD⟩
    · rw [upd_ne n] at k
      exact m b o k
/-- a tuple of known values -/
theorem evp_tupN {ta : TA} {xs : List V} (h : EvA ta σ H xs) (hl : xs.length ≤ 100000) : EvP (tTup ta) σ H (fun v H1 H2 => ∃ p Hn, v = .ref p ∧ Mk H H1 H2 Hn ∧ Hn p = some (.tup xs) ∧ Ex H Hn) := fun H1 e Q q =>
  Evl.eu_tup h hl H1 e Q fun p H2 fp e2 k => q _ H2 e2 ⟨p, upd H p (.tup xs), rfl, fun b o kb => by
    by_cases n : b = p
    · subst n
      rw [upd_same] at kb
      exact ⟨k.trans kb, .inr fp⟩
    · rw [upd_ne n] at kb
      exact ⟨e2 _ _ (e _ _ kb), .inl kb⟩, upd_same, Ex.new (Evl.fresh_back e fp)⟩
/-- all([..]) and any([..]) of bools that are known -/
theorem paired_len {α β : Type} {R : α → β → Prop} {xs : List α} {ys : List β} (h : Paired R xs ys) : xs.length = ys.length := PySem.Paired.length h
/-- [v a for a in L if f a], plain values -/
theorem lcW {α : Type} [Inhabited α] {R : Rep α} (mR : Mono R) {wi : TI} {g : TG} {tt : TT} {te : TE} {vs : List Nat} {ls : List V} {L : List α} (s : Src wi σ H ls.length (fun i v => ls[i]? = some v)) (hp : Paired (R H) ls L) (hn : L.length ≤ 50000) (st : α → V → L2.St) (hw : ∀ a x, wipe (st a x) vs = wipe σ vs)
    (hg : ∀ a x H1 Q, a ∈ L → Ex H H1 → R H x a → R H1 x a → Q (st a x) H1 → g x (wipe σ vs) H1 Q) (f : α → Bool)
    (ht : ∀ a x, a ∈ L → R H x a → EvT tt (st a x) H (f a)) (v : α → V)
    (he : ∀ a x, a ∈ L → R H x a → f a = true → Ev te (st a x) H (v a)) :
    EvP (tLc wi g tt te vs) σ H (NewL ((L.filter f).map v)) := by
  refine (lcG mR (S := fun _ x y => x = y) (fun _ _ _ _ _ h => h) s hp hn st hw hg f ht v (fun a x ha r hf => (evp_ev (he a x ha r hf)).imp fun z Ha Hb ec eb h => ⟨H, fun b o k => ⟨eb _ _ (ec _ _ k), .inl k⟩, h⟩)).imp fun z Ha Hb ea eb h => ?_
  · obtain ⟨p, ws, Hn, rfl, fp, m, hp, hh⟩ := h
    have go : ∀ {xs ys : List V}, Paired (fun x y : V => x = y) xs ys → xs = ys := by
      intro xs ys h
      induction h with
      | nil => rfl
      | cons r _ ih => rw [r, ih]
    have e := go hh
    subst e
    exact ⟨p, rfl, fp, (m p _ hp).1⟩
/-- what is walked stands in the base -/
def SrcB (wi : TI) (σ : L2.St) (H H1 : Hp) (n : Nat) (X : Nat → V → Prop) : Prop := ∀ R : It → Hp → Prop, (∀ J (G : Hp → Prop), (∀ H3, Ex H H3 → G H3) → Walk J n G (fun i H v H' => H' = H ∧ X i v) → R J H1) → wi σ H1 R
theorem srcB_list {i : Nat} {σ : L2.St} {H H1 : Hp} {p : Addr} {xs : List V} (h : σ[i]? = some (some (.ref p))) (hp : H p = some (.lst xs)) (e : Ex H H1) : SrcB (iList K (tVar i)) σ H H1 xs.length (fun i v => xs[i]? = some v) := fun R k =>
  ⟨_, h, p, rfl, ⟨xs, Evl.sq_of (e _ _ hp)⟩, k _ (fun H => SqL K H p xs) (fun H3 e3 => Evl.sq_of (e3 _ _ hp)) walk_list⟩
/-- [F a b for a in L for b in M a if f a b] -/
theorem lcG2 {α β γ : Type} [Inhabited α] [Inhabited β] {R : Rep α} {R' : Rep β} {S : Rep γ} (mR : Mono R) (mR' : Mono R') (mS : Mono S) {wi wi1 : TI} {g g1 : TG} {tt1 : TT} {te : TE} {vs vs1 : List Nat} {ls : List V} {L : List α} (M : α → List β) (s : Src wi σ H ls.length (fun i v => ls[i]? = some v)) (hp : Paired (R H) ls L) (k : Nat) (hn : L.length * k ≤ 50000) (hk : ∀ a ∈ L, (M a).length ≤ k)
    (st : α → V → L2.St) (hw : ∀ a x, wipe (st a x) vs = wipe σ vs) (hg : ∀ a x H1 Q, a ∈ L → Ex H H1 → R H1 x a → Q (st a x) H1 → g x (wipe σ vs) H1 Q)
    (s1 : ∀ a x H1, a ∈ L → Ex H H1 → R H1 x a → ∃ ms : List V, SrcB wi1 (st a x) H H1 ms.length (fun i v => ms[i]? = some v) ∧ Paired (R' H) ms (M a))
    (st1 : α → V → β → V → L2.St) (hw1 : ∀ a x b y, wipe (st1 a x b y) vs1 = wipe (st a x) vs1) (hg1 : ∀ a x b y H1 Q, a ∈ L → b ∈ M a → Ex H H1 → R' H1 y b → Q (st1 a x b y) H1 → g1 y (wipe (st a x) vs1) H1 Q)
    (f : α → β → Bool) (ht : ∀ a x b y, a ∈ L → b ∈ M a → R H x a → R' H y b → EvT tt1 (st1 a x b y) H (f a b)) (F : α → β → γ)
    (he : ∀ a x b y, a ∈ L → b ∈ M a → R H x a → R' H y b → f a b = true → EvP te (st1 a x b y) H (NewR S H (F a b))) :
    EvP (tLc2 wi g tYes wi1 g1 tt1 te vs vs1) σ H (NewLst S H (L.flatMap fun a => ((M a).filter (f a)).map (F a))) := fun H0 e0 Q q => by
  have hll : ls.length = L.length := PySem.Paired.length hp
  have at_ : ∀ {i : Nat} {x : V} {H1 : Hp}, ls[i]? = some x → Ex H H1 → R H1 x (L.getD i default) ∧ L.getD i default ∈ L ∧ L[i]? = some (L.getD i default) := fun {i x H1} hx e => by
    obtain ⟨q, hq, r⟩ := pix hp hx
    have : L.getD i default = q := by rw [List.getD_eq_getElem?_getD, hq]; rfl
    exact ⟨this ▸ mR _ _ _ _ e r, this ▸ List.mem_of_getElem? hq, this ▸ hq⟩
  refine s H0 e0 _ fun J H1 G e1 hG hW D hD => ?_
  have fD := Evl.fresh_back e1 hD
  have h0 : H D = none := Evl.fresh_back e0 fD
  let Part : List γ → Hp → Prop := fun cs H' => ∃ Hn ys, Ex H1 H' ∧ Mk H H0 H' Hn ∧ Hn D = none ∧ H' D = some (.lst ys) ∧ Paired (S Hn) ys cs
  have pE : ∀ {cs Ha Hb}, Ex Ha Hb → Part cs Ha → Part cs Hb := fun e ⟨Hn, ys, a, m, d, h, p⟩ => ⟨Hn, ys, a.trans e, m.on e, d, e _ _ h, p⟩
  have bound : ∀ (i : Nat), (((L.take i).flatMap fun a => ((M a).filter (f a)).map (F a))).length ≤ i * k := by
    intro i
    induction i with
    | zero => simp
    | succ i ih =>
      by_cases hi : i < L.length
      · have hx : L[i]? = some L[i] := List.getElem?_eq_getElem hi
        rw [tk_more hx, List.flatMap_append, List.length_append]
        have h2 : (List.flatMap (fun a => ((M a).filter (f a)).map (F a)) [L[i]]).length ≤ k := by
          rw [List.flatMap_cons, List.flatMap_nil, List.append_nil, List.length_map]
          exact Nat.le_trans (List.length_filter_le _ _) (hk _ (List.getElem_mem hi))
        rw [Nat.succ_mul]
        omega
      · have e2 : L.take (i + 1) = L.take i := by rw [List.take_of_length_le (by omega), List.take_of_length_le (by omega)]
        rw [e2, Nat.succ_mul]
        omega
  refine ⟨fun i m H' => m = ls.length - i ∧ i ≤ ls.length ∧ Part ((L.take i).flatMap fun a => ((M a).filter (f a)).map (F a)) H', ⟨ls.length, by simp, Nat.zero_le _, H, [], Ex.new hD, fun b o z => ⟨Ex.new hD _ _ (e1 _ _ (e0 _ _ z)), .inl z⟩, h0, upd_same, .nil⟩, ?_⟩
  rintro i m Ha ⟨rfl, hin, hP⟩
  have hx1 : Ex H1 Ha := by
    obtain ⟨_, _, a, _⟩ := hP
    exact a
  by_cases hi : i < ls.length
  · refine .inr ⟨hW.goes i Ha hi (hG _ hx1), fun H' => Part ((L.take (i + 1)).flatMap fun a => ((M a).filter (f a)).map (F a)) H', fun H' p' => ⟨ls.length - (i + 1), by omega, rfl, hi, p'⟩, fun x Hb y => ?_⟩
    obtain ⟨rfl, hX⟩ := hW.yields i Ha x Hb hi (hG _ hx1) y
    have eA : Ex H Hb := (e0.trans e1).trans hx1
    obtain ⟨r, mem, hat⟩ := at_ hX eA
    have r0 := (at_ hX (Ex.refl H)).1
    generalize L.getD i default = a at r r0 mem hat
    refine hg a x Hb _ mem eA r ⟨hw _ _, ?_⟩
    have step : (L.take (i + 1)).flatMap (fun a => ((M a).filter (f a)).map (F a)) = ((L.take i).flatMap fun a => ((M a).filter (f a)).map (F a)) ++ ((M a).filter (f a)).map (F a) := by
      rw [tk_more hat, List.flatMap_append, List.flatMap_cons, List.flatMap_nil, List.append_nil]
    rw [step]
    have bd := bound i
    have bk := hk a mem
    have hik : i * k + k ≤ 50000 := by
      have : (i + 1) * k ≤ L.length * k := Nat.mul_le_mul_right k (by omega)
      rw [Nat.succ_mul] at this
      omega
    generalize (L.take i).flatMap (fun a => ((M a).filter (f a)).map (F a)) = C at hP step bd ⊢
    obtain ⟨ms, sr, hpm⟩ := s1 a x Hb mem eA r
    have hml : ms.length = (M a).length := PySem.Paired.length hpm
    refine yes_go ?_
    dsimp only
    rw [if_pos rfl]
    refine sr _ fun J1 G1 hG1 hW1 => ?_
    have aH : ∀ {cs H'}, Part cs H' → Ex H H' := fun ⟨_, _, z, _⟩ => (e0.trans e1).trans z
    refine ⟨fun j l H' => l = ms.length - j ∧ j ≤ ms.length ∧ Part (C ++ (((M a).take j).filter (f a)).map (F a)) H', ⟨ms.length, by simp, Nat.zero_le _, by simpa using hP⟩, ?_⟩
    rintro j l Hd ⟨rfl, hjn, hQ⟩
    by_cases hj : j < ms.length
    · refine .inr ⟨hW1.goes j Hd hj (hG1 _ (aH hQ)), fun H' => Part (C ++ (((M a).take (j + 1)).filter (f a)).map (F a)) H', fun H' p' => ⟨ms.length - (j + 1), by omega, rfl, hj, p'⟩, fun y He z => ?_⟩
      obtain ⟨rfl, hY⟩ := hW1.yields j Hd y He hj (hG1 _ (aH hQ)) z
      obtain ⟨b, hb, rb⟩ := pix hpm hY
      have eB := aH hQ
      have memb := List.mem_of_getElem? hb
      have rb' := mR' _ _ _ _ eB rb
      have r' : R He x a := mR _ _ _ _ eB r0
      refine hg1 a x b y He _ mem memb eB rb' ⟨hw1 _ _ _ _, ?_⟩
      refine ht a x b y mem memb r0 rb He eB _ fun Hf ef => ?_
      have eBf := eB.trans ef
      have step1 : ((M a).take (j + 1)).filter (f a) = ((M a).take j).filter (f a) ++ [b].filter (f a) := by rw [tk_more hb, List.filter_append]
      rw [step1]
      cases hf : f a b with
      | true =>
        refine iteT ?_
        refine he a x b y mem memb r0 rb hf Hf eBf _ fun v Hg eg hv => ?_
        obtain ⟨Hn, ys, a1, mm, d, h, p⟩ := pE ef hQ
        obtain ⟨Hv, mv, sv⟩ := hv
        have fl : Hf D ≠ none := by rw [h]; exact fun z => nomatch z
        have dv : Hv D = none := by
          cases c : Hv D with
          | none => rfl
          | some o =>
            rcases (mv D o c).2 with z | z
            · rw [h0] at z; cases z
            · exact absurd z fl
        have mv2 : Mk H H0 Hg Hv := mv.back (e1.trans a1)
        obtain ⟨mj, ja, jb⟩ := (mm.on eg).join mv2
        have dj : join Hn Hv D = none := by
          unfold join
          rw [d]
          exact dv
        have hlen : ys.length ≤ i * k + k := by
          rw [PySem.Paired.length p, List.length_append, List.length_map]
          have h1 := List.length_filter_le (f a) ((M a).take j)
          have h2 : ((M a).take j).length ≤ (M a).length := by rw [List.length_take]; omega
          omega
        refine ⟨ys, eg _ _ h, Nat.lt_of_le_of_lt hlen (Nat.lt_of_le_of_lt hik (by decide)), join Hn Hv, ys ++ [v], Ex.mut (a1.trans eg) hD, fun c o z => ?_, dj, upd_same, ?_⟩
        · have n : c ≠ D := fun w => by rw [w, dj] at z; cases z
          rw [upd_ne n]
          exact mj c o z
        · rw [List.map_append, ← List.append_assoc]
          refine papp (mS.paired ja p) ?_
          have ef : (List.filter (f a) [b]).map (F a) = [F a b] := by
            rw [List.filter_cons, if_pos hf]
            rfl
          rw [ef]
          exact .cons (mS _ _ _ _ jb sv) .nil
      | false =>
        refine iteF ?_
        have e3 : ([b].filter (f a)) = [] := by rw [List.filter_cons, if_neg (by rw [hf]; decide)]; rfl
        rw [e3, List.append_nil]
        exact pE ef hQ
    · have e : j = ms.length := by omega
      subst e
      rw [hml, List.take_length] at hQ
      exact .inl ⟨hW1.stops Hd (hG1 _ (aH hQ)), hQ⟩
  · have e : i = ls.length := by omega
    subst e
    obtain ⟨Hn, ys, a, mm, d, h, p⟩ := hP
    rw [hll, List.take_length] at p
    refine .inl ⟨hW.stops Ha (hG _ hx1), q (.ref D) Ha (e1.trans a) ⟨D, ys, upd Hn D (.lst ys), rfl, fD, fun b o z => ?_, upd_same, mS.paired (Ex.new d) p⟩⟩
    by_cases n : b = D
    · subst n
      rw [upd_same] at z
      exact ⟨h.trans z, .inr fD⟩
    · rw [upd_ne n] at z
      exact mm b o z
end
end Nw
set_option Elab.async false
set_option linter.all false
set_option maxRecDepth 100000
set_option maxHeartbeats 4000000
/-! the state of a country that is being drawn -/
namespace Pr
open PySem PySem.Spec PyProof.Rows L2 TM
open Evl (Ex)
structure St1 (H0 H : Hp) (p tt ll : Addr) (rs : List Addr) (lsv : List V) (L : Lanes) (ln : Nat → Nat) : Prop where
  pot : PotAt H p
  ex : ExB p H0 H
  ht : H tt = some (.lst (rs.map V.ref))
  hl : H ll = some (.lst lsv)
  pr : Paired (PairAt H) lsv L
  row : ∀ (j : Nat) (r : Addr), rs[j]? = some r → ∃ xs, H r = some (.lst xs) ∧ xs.length = ln j
  nd : rs.Nodup
  ft : H0 tt = none
  fl : H0 ll = none
  fr : ∀ r ∈ rs, H0 r = none
  ntp : tt ≠ p
  nlp : ll ≠ p
  ntl : tt ≠ ll
  nr : ∀ r ∈ rs, r ≠ p ∧ r ≠ tt ∧ r ≠ ll
section
variable {H0 H H' : Hp} {p tt ll : Addr} {rs : List Addr} {lsv : List V} {L : Lanes} {ln : Nat → Nat}
theorem PairAt.exB {v : V} {q : Nat × Nat} (hp : PotAt H p) (e : ExB p H H') (h : PairAt H v q) : PairAt H' v q := by
  obtain ⟨t, r, k⟩ := h
  exact ⟨t, r, e _ _ k (hp.ne k (fun _ _ z => nomatch z))⟩
theorem St1.byPot (S : St1 H0 H p tt ll rs lsv L ln) (e : ExB p H H') (hp : PotAt H' p) : St1 H0 H' p tt ll rs lsv L ln where
  pot := hp
  ex := S.ex.trans e
  ht := e _ _ S.ht S.ntp
  hl := e _ _ S.hl S.nlp
  pr := paired_imp (fun _ _ z => z.exB S.pot e) S.pr
  row := fun j r h => by
    obtain ⟨xs, a, b⟩ := S.row j r h
    exact ⟨xs, e _ _ a (S.nr r (List.mem_of_getElem? h)).1, b⟩
  nd := S.nd
  ft := S.ft
  fl := S.fl
  fr := S.fr
  ntp := S.ntp
  nlp := S.nlp
  ntl := S.ntl
  nr := S.nr
theorem St1.byEx (S : St1 H0 H p tt ll rs lsv L ln) (e : Ex H H') : St1 H0 H' p tt ll rs lsv L ln := S.byPot (.of e) (S.pot.ex e)
theorem St1.free (S : St1 H0 H p tt ll rs lsv L ln) {q : Addr} (h : H q = none) : H0 q = none ∧ q ≠ p := by
  have n : q ≠ p := fun e => by
    obtain ⟨a, b, hp, _⟩ := S.pot
    rw [e, hp] at h
    cases h
  exact ⟨S.ex.free h n, n⟩
/-- an object that H0 does not know is stored anew -/
theorem ExB.mut {q : Addr} {o : HO} (e : ExB p H0 H) (h : H0 q = none) : ExB p H0 (upd H q o) := fun b u hb n => by
  rw [upd_ne (ne_of_none hb h)]
  exact e b u hb n
theorem PotAt.put {q : Addr} {o : HO} (h : PotAt H p) (n : q ≠ p) : PotAt (upd H q o) p := by
  obtain ⟨a, b, h, r⟩ := h
  exact ⟨a, b, by rw [upd_ne n.symm]; exact h, r⟩
theorem PairAt.put {v : V} {q : Nat × Nat} {x : Addr} {xs ys : List V} (hx : H x = some (.lst xs)) (h : PairAt H v q) : PairAt (upd H x (.lst ys)) v q := by
  obtain ⟨t, r, k⟩ := h
  exact ⟨t, r, by rw [upd_ne (ne_of k hx (fun z => nomatch z))]; exact k⟩
/-- one row more -/
theorem St1.push (S : St1 H0 H p tt ll rs lsv L ln) {r : Addr} {xs : List V} (hr : H r = none) : St1 H0 (upd (upd H r (.lst xs)) tt (.lst (rs.map V.ref ++ [.ref r]))) p tt ll (rs ++ [r]) lsv L (fun j => if j = rs.length then xs.length else ln j) := by
  obtain ⟨h0, np⟩ := S.free hr
  have nt : r ≠ tt := fun e => by rw [e, S.ht] at hr; cases hr
  have nl : r ≠ ll := fun e => by rw [e, S.hl] at hr; cases hr
  have S1 := S.byEx (H' := upd H r (.lst xs)) (Ex.new hr)
  have nrs : r ∉ rs := fun m => by
    obtain ⟨j, hj⟩ := List.getElem?_of_mem m
    obtain ⟨ys, h, _⟩ := S.row j r hj
    rw [hr] at h
    cases h
  refine ⟨S1.pot.put S.ntp, S1.ex.mut S.ft, by rw [upd_same, List.map_append]; rfl, by rw [upd_ne S.ntl.symm]; exact S1.hl, paired_imp (fun _ _ z => z.put S1.ht) S1.pr, fun j q h => ?_, ?_, S.ft, S.fl, fun q hq => ?_, S.ntp, S.nlp, S.ntl, fun q hq => ?_⟩
  · by_cases hj : j < rs.length
    · rw [List.getElem?_append_left hj] at h
      obtain ⟨ys, a, b⟩ := S1.row j q h
      refine ⟨ys, by rw [upd_ne (S.nr q (List.mem_of_getElem? h)).2.1]; exact a, ?_⟩
      rw [if_neg (by omega)]
      exact b
    · rw [List.getElem?_append_right (by omega)] at h
      have e0 : j - rs.length = 0 := by
        have := (List.getElem?_eq_some_iff.mp h).1
        simp at this
        omega
      rw [e0] at h
      have : r = q := Option.some.inj h
      subst this
      exact ⟨xs, by rw [upd_ne nt, upd_same], by rw [if_pos (by omega)]⟩
  · exact List.nodup_append.mpr ⟨S.nd, by simp, fun x hx y hy e => by
      have : y = r := by simpa using hy
      subst this
      subst e
      exact nrs hx⟩
  · rcases List.mem_append.mp hq with hq | hq
    · exact S.fr q hq
    · have : q = r := by simpa using hq
      subst this
      exact h0
  · rcases List.mem_append.mp hq with hq | hq
    · exact S.nr q hq
    · have : q = r := by simpa using hq
      subst this
      exact ⟨np, nt, nl⟩
/-- a row grows -/
theorem St1.grow (S : St1 H0 H p tt ll rs lsv L ln) {o : Nat} {r : Addr} {xs : List V} {v : V} (h : rs[o]? = some r) (hx : H r = some (.lst xs)) : St1 H0 (upd H r (.lst (xs ++ [v]))) p tt ll rs lsv L (fun j => ln j + if o = j then 1 else 0) := by
  obtain ⟨np, nt, nl⟩ := S.nr r (List.mem_of_getElem? h)
  refine ⟨S.pot.put np, S.ex.mut (S.fr r (List.mem_of_getElem? h)), by rw [upd_ne nt.symm]; exact S.ht, by rw [upd_ne nl.symm]; exact S.hl, paired_imp (fun _ _ z => z.put hx) S.pr, fun j q hq => ?_, S.nd, S.ft, S.fl, S.fr, S.ntp, S.nlp, S.ntl, S.nr⟩
  obtain ⟨ys, a, b⟩ := S.row j q hq
  by_cases e : o = j
  · subst e
    have : r = q := Option.some.inj (h.symm.trans hq)
    subst this
    rw [hx] at a
    cases a
    exact ⟨xs ++ [v], upd_same, by rw [if_pos rfl, List.length_append, b]; rfl⟩
  · have : q ≠ r := fun z => e (TM.nodup_ix S.nd h (z ▸ hq))
    exact ⟨ys, by rw [upd_ne this]; exact a, by rw [if_neg e, b]; rfl⟩
/-- one lane more -/
theorem St1.lane (S : St1 H0 H p tt ll rs lsv L ln) {t : Addr} {a b : Nat} (ht : H t = none) : St1 H0 (upd (upd H t (.tup [vI a, vI b])) ll (.lst (lsv ++ [.ref t]))) p tt ll rs (lsv ++ [.ref t]) (L ++ [(a, b)]) ln := by
  have S1 := S.byEx (H' := upd H t (.tup [vI a, vI b])) (Ex.new ht)
  have ntl : t ≠ ll := fun e => by rw [e, S.hl] at ht; cases ht
  refine ⟨S1.pot.put S.nlp, S1.ex.mut S.fl, by rw [upd_ne S.ntl]; exact S1.ht, upd_same, Paired.snoc (paired_imp (fun _ _ z => z.put S1.hl) S1.pr) ⟨t, rfl, by rw [upd_ne ntl, upd_same]⟩, fun j q hq => ?_, S.nd, S.ft, S.fl, S.fr, S.ntp, S.nlp, S.ntl, S.nr⟩
  obtain ⟨ys, a, b⟩ := S1.row j q hq
  exact ⟨ys, by rw [upd_ne (S.nr q (List.mem_of_getElem? hq)).2.2]; exact a, b⟩
theorem St1.lens (S : St1 H0 H p tt ll rs lsv L ln) {ln' : Nat → Nat} (e : ∀ j, j < rs.length → ln j = ln' j) : St1 H0 H p tt ll rs lsv L ln' :=
  have row' : ∀ (j : Nat) (r : Addr), rs[j]? = some r → ∃ xs, H r = some (.lst xs) ∧ xs.length = ln' j := fun j r h => by
    obtain ⟨xs, a, b⟩ := S.row j r h
    exact ⟨xs, a, by rw [b]; exact e j (List.getElem?_eq_some_iff.mp h).1⟩
  { S with row := row' }
/-- what stays of it: the lanes -/
structure St2 (H0 H : Hp) (p ll lf pl : Addr) (lsv : List V) (L : Lanes) (l q : List Nat) : Prop where
  pot : PotAt H p
  ex : ExB p H0 H
  hl : H ll = some (.lst lsv)
  pr : Paired (PairAt H) lsv L
  hf : H lf = some (.lst (vIs l))
  hp : H pl = some (.lst (vIs q))
  fl : H0 ll = none
  ff : H0 lf = none
  fp : H0 pl = none
  nlp : ll ≠ p
  nfp : lf ≠ p
  npp : pl ≠ p
  nlf : ll ≠ lf
  nlq : ll ≠ pl
  nfq : lf ≠ pl
theorem St2.byPot {lf pl : Addr} {l q : List Nat} (S : St2 H0 H p ll lf pl lsv L l q) (e : ExB p H H') (hp : PotAt H' p) : St2 H0 H' p ll lf pl lsv L l q :=
  { S with pot := hp, ex := S.ex.trans e, hl := e _ _ S.hl S.nlp, pr := paired_imp (fun _ _ z => z.exB S.pot e) S.pr, hf := e _ _ S.hf S.nfp, hp := e _ _ S.hp S.npp }
theorem St2.byEx {lf pl : Addr} {l q : List Nat} (S : St2 H0 H p ll lf pl lsv L l q) (e : Ex H H') : St2 H0 H' p ll lf pl lsv L l q := S.byPot (.of e) (S.pot.ex e)
theorem St2.pop {lf pl : Addr} {l l' q : List Nat} (S : St2 H0 H p ll lf pl lsv L l q) : St2 H0 (upd H lf (.lst (vIs l'))) p ll lf pl lsv L l' q :=
  { S with pot := S.pot.put S.nfp, ex := S.ex.mut S.ff, hl := by rw [upd_ne S.nlf]; exact S.hl, pr := paired_imp (fun _ _ z => z.put S.hf) S.pr, hf := upd_same, hp := by rw [upd_ne S.nfq.symm]; exact S.hp }
theorem St2.put {lf pl : Addr} {l q q' : List Nat} (S : St2 H0 H p ll lf pl lsv L l q) : St2 H0 (upd H pl (.lst (vIs q'))) p ll lf pl lsv L l q' :=
  { S with pot := S.pot.put S.npp, ex := S.ex.mut S.fp, hl := by rw [upd_ne S.nlq]; exact S.hl, pr := paired_imp (fun _ _ z => z.put S.hp) S.pr, hp := upd_same, hf := by rw [upd_ne S.nfq]; exact S.hf }
end
def spDrawn : Sp := fun vs H Q _ => ∃ p m, vs = [.ref p, vI m] ∧ PotAt H p ∧ 1 ≤ m ∧ m ≤ 7 ∧ ∀ a L vt H', Good vt L → LanesAt H' a L → H a = none → ExB p H H' → PotAt H' p → Q (.ref a) H'
end Pr
set_option Elab.async false
set_option linter.all false
set_option maxRecDepth 100000
set_option maxHeartbeats 4000000
/-! lists of places as data: compared, written -/
namespace Pr
open PySem PySem.Spec PyProof.Rows L2 TM
open Evl (Ex Ev EvT)
def dNs (l : List Nat) : List PyData := l.map fun (n : Nat) => .int (n : Int)
def dN (l : List Nat) : PyData := .list (dNs l)
theorem dp_all {K : PySem.W.Frag} {H : Hp} : ∀ l : List Nat, DpAll K H (vIs l) (dNs l)
  | [] => .nil
  | a :: l => .cons (.int a) (dp_all l)
theorem dp_N {K : PySem.W.Frag} {H : Hp} {a : Addr} {l : List Nat} (h : SqL K H a (vIs l)) : Dp K H (.ref a) (dN l) := .lst h (dp_all l)
theorem depth_Ns : ∀ l : List Nat, PyData.depthAll (dNs l) = 0
  | [] => by simp [dNs, PyData.depthAll]
  | a :: l => by
    have ih := depth_Ns l
    unfold dNs at ih ⊢
    simp [PyData.depthAll, PyData.depth, ih]
theorem depth_N (l : List Nat) : (dN l).depth = 1 := by
  unfold dN
  simp [PyData.depth, depth_Ns]
theorem canLay_Ns : ∀ l : List Nat, PyData.canLayAll0 (dNs l) = true
  | [] => by simp [dNs, PyData.canLayAll0]
  | a :: l => by
    have ih := canLay_Ns l
    unfold dNs at ih ⊢
    simp [PyData.canLayAll0, PyData.canLay0, ih]
theorem shaped_N (l : List Nat) : SeqAt.shaped (dN l) = true := by
  unfold SeqAt.shaped
  rw [depth_N]
  unfold dN
  simp [PyData.canLay0, canLay_Ns]
theorem eqv_Ns : ∀ l m : List Nat, PyData.eqvAll (dNs l) (dNs m) = decide (l = m)
  | [], [] => by simp [dNs, PyData.eqvAll]
  | [], b :: m => by simp [dNs, PyData.eqvAll]
  | a :: l, [] => by simp [dNs, PyData.eqvAll]
  | a :: l, b :: m => by
    have ih := eqv_Ns l m
    unfold dNs at ih ⊢
    simp only [List.map_cons, PyData.eqvAll, PyData.eqv, ih]
    by_cases h : a = b
    · subst h
      simp
    · have : ((a : Int) == (b : Int)) = false := by
        rw [beq_eq_false_iff_ne]
        omega
      simp [this, h]
theorem eqv_N (l m : List Nat) : PyData.eqv (dN l) (dN m) = decide (l = m) := by
  unfold dN
  simp only [PyData.eqv]
  exact eqv_Ns l m
theorem showable_Ns : ∀ l : List Nat, (∀ x ∈ l, x < 1024) → PyData.showableAll (dNs l) = true
  | [], _ => by simp [dNs, PyData.showableAll]
  | a :: l, h => by
    have ih := showable_Ns l fun x hx => h x (List.mem_cons_of_mem _ hx)
    have ha := h a List.mem_cons_self
    unfold dNs at ih ⊢
    have : (a : Int).natAbs.log2 < 1920 := by
      have h1 : (a : Int).natAbs = a := Int.natAbs_natCast a
      rw [h1]
      by_cases z : a = 0
      · subst z; decide
      · have := (Nat.log2_lt z (k := 10)).mpr (by omega)
        omega
    simp only [List.map_cons, PyData.showableAll, PyData.showable, ih, this, decide_true, Bool.and_self]
theorem hasDict_Ns : ∀ l : List Nat, PyData.hasDictAll (dNs l) = false
  | [] => by simp [dNs, PyData.hasDictAll]
  | a :: l => by
    have ih := hasDict_Ns l
    unfold dNs at ih ⊢
    simp [PyData.hasDictAll, PyData.hasDict, ih]
theorem weight_Ns : ∀ l : List Nat, (∀ x ∈ l, x < 1024) → PyData.weightAll (dNs l) ≤ 11 * l.length
  | [], _ => by simp [dNs, PyData.weightAll]
  | a :: l, h => by
    have ih := weight_Ns l fun x hx => h x (List.mem_cons_of_mem _ hx)
    have ha := h a List.mem_cons_self
    unfold dNs at ih ⊢
    simp only [List.map_cons, PyData.weightAll, PyData.weight, List.length_cons]
    have : (if ((a : Int) == 0) = true then 0 else (a : Int).natAbs.log2 + 1) ≤ 10 := by
      split
      · omega
      · rename_i z
        have z' : a ≠ 0 := fun e => z (by rw [e]; rfl)
        rw [Int.natAbs_natCast]
        have := (Nat.log2_lt z' (k := 10)).mpr (by omega)
        omega
    omega
def smallShow : ∀ n : Nat, n < 1024 → (PyData.shown (.int (n : Int))).length ≤ 8 := by decide +kernel
theorem leaves_Ns : ∀ l : List Nat, (∀ x ∈ l, x < 1024) → PyData.leavesShortAll 8 (dNs l) = true
  | [], _ => by simp [dNs, PyData.leavesShortAll]
  | a :: l, h => by
    have ih := leaves_Ns l fun x hx => h x (List.mem_cons_of_mem _ hx)
    have ha := smallShow a (h a List.mem_cons_self)
    unfold dNs at ih ⊢
    simp only [List.map_cons, PyData.leavesShortAll, PyData.leavesShort, ih, ha, decide_true, Bool.and_self]
/-- a list of small places is written -/
theorem repr_N {K : PySem.W.Frag} {H : Hp} {a : Addr} {l : List Nat} {Q : VK} (h : SqL K H a (vIs l)) (hs : ∀ x ∈ l, x < 1024) (hl : l.length ≤ 1001) (q : Q (.str (dN l).shown) H) : G8.rRepr K [.ref a] H Q := by
  refine ⟨a, dN l, rfl, dp_N h, ?_, ?_, by rw [depth_N]; decide, ?_, q⟩
  · unfold dN
    simp only [PyData.showable]
    exact showable_Ns l hs
  · unfold dN
    simp only [PyData.hasDict]
    exact hasDict_Ns l
  · refine PyData.shown_fits (B := 8) (by decide) (by decide) ?_ ?_
    · unfold dN
      simp only [PyData.leavesShort]
      exact leaves_Ns l hs
    · have := weight_Ns l hs
      unfold dN
      simp only [PyData.weight]
      omega
open Ep in
/-- new pairs, one a lane -/
theorem lcT {wi : TI} {g : TG} {te : TE} {vs : List Nat} {σ : L2.St} {H : Hp} {ls : List V} {L : Lanes} (s : Src wi σ H ls.length (fun i v => ls[i]? = some v)) (hp : Paired (PairAt H) ls L) (hn : L.length ≤ 50000) (st : Nat × Nat → L2.St) (hw : ∀ q, wipe (st q) vs = wipe σ vs)
    (hg : ∀ q t H1 Q, Ex H H1 → H1 t = some (.tup [vI q.1, vI q.2]) → Q (st q) H1 → g (.ref t) (wipe σ vs) H1 Q) (F : Nat × Nat → Nat × Nat)
    (he : ∀ q H1, q ∈ L → Ex H H1 → EvP te (st q) H1 (fun v Ha Hb => ∃ t, v = .ref t ∧ Ha t = none ∧ Hb t = some (.tup [vI (F q).1, vI (F q).2]))) :
    EvP (tLc wi g tYes te vs) σ H (fun v Ha Hb => ∃ p, v = .ref p ∧ Ha p = none ∧ LanesAt Hb p (L.map F)) := by
  have hll : ls.length = L.length := PySem.Paired.length hp
  have at_ : ∀ {i : Nat} {x : V}, ls[i]? = some x → ∃ t, x = .ref t ∧ H t = some (.tup [vI (L.getD i (0, 0)).1, vI (L.getD i (0, 0)).2]) ∧ L[i]? = some (L.getD i (0, 0)) := fun {i x} hx => by
    obtain ⟨q, hq, t, r, k⟩ := paired_ix hp hx
    have : L.getD i (0, 0) = q := by rw [List.getD_eq_getElem?_getD, hq]; rfl
    exact ⟨t, r, this ▸ k, this ▸ hq⟩
  refine EvP.imp (lcI s (by omega) (fun i _ => st (L.getD i (0, 0))) (fun _ _ => hw _) (fun D i ys H' => Paired (fun v q => ∃ t, t ≠ D ∧ v = .ref t ∧ H' t = some (.tup [vI q.1, vI q.2])) ys ((L.take i).map F)) (fun i x H1 Q e _ hx q => ?_) (fun _ => true) (fun _ _ _ _ _ _ => fun H1 e Q q => q H1 (Ex.refl _))
    (fun i v Ha Hb => ∃ q t, L[i]? = some q ∧ v = .ref t ∧ Ha t = none ∧ Hb t = some (.tup [vI (F q).1, vI (F q).2])) (fun i x Ha ea hi hx _ => ?_) (fun D Ha _ _ => .nil) (fun D i ys Ha Hb e h => ?_) (fun D i ys Ha xs _ h => ?_) (fun D i ys v Ha Hb _ eab hD hi _ h hq xs => ?_) (fun _ _ _ _ _ _ h => nomatch h)) (fun v Ha Hb _ _ h => ?_)
  · obtain ⟨t, rfl, k, _⟩ := at_ hx
    exact hg _ t H1 Q e (e _ _ k) q
  · obtain ⟨t, rfl, k, m⟩ := at_ hx
    refine (he _ Ha (List.mem_of_getElem? m) ea).imp fun v H1 H2 _ _ h => ?_
    obtain ⟨t', a, b, c⟩ := h
    exact ⟨_, t', m, a, b, c⟩
  · exact paired_imp (fun v q ⟨t, n, r, h⟩ => ⟨t, n, r, e _ _ h⟩) h
  · exact paired_imp (fun v q ⟨t, n, r, h⟩ => ⟨t, n, r, by rw [upd_ne n]; exact h⟩) h
  · obtain ⟨q, t, hq1, rfl, ht1, ht2⟩ := hq
    have nt : t ≠ D := fun z => by rw [z, hD] at ht1; cases ht1
    rw [take_more hq1, List.map_append]
    exact Paired.snoc (paired_imp (fun v q ⟨t', n, r, h⟩ => ⟨t', n, r, by rw [upd_ne n]; exact eab _ _ h⟩) h) ⟨t, nt, rfl, by rw [upd_ne nt]; exact ht2⟩
  · obtain ⟨D, ys, rfl, hD0, hD, _, h⟩ := h
    rw [hll, List.take_length] at h
    exact ⟨D, rfl, hD0, ys, hD, paired_imp (fun v q ⟨t, _, r, h⟩ => ⟨t, r, h⟩) h⟩
theorem seqIx {d n : Nat} (h : d < n) : seqIndex? (d : Int) n = some d := by
  unfold seqIndex?
  have h1 : ¬ ((d : Int) < 0) := by omega
  have h2 : (0 : Int) ≤ (d : Int) := by omega
  have h3 : (d : Int) < (n : Int) := by omega
  simp [h1, h2, h3, h]
theorem rgV_N (n : Nat) : rgV 0 (n : Int) = vIs (List.range n) := by
  unfold rgV
  have : ((n : Int) - 0).toNat = n := by omega
  rw [this]
  refine List.map_congr_left fun i _ => ?_
  show V.int (0 + (i : Int)) = V.int (i : Int)
  rw [Int.zero_add]
theorem erase_perm : ∀ {l : List Nat} {d : Nat} {x : Nat}, l[d]? = some x → l.Perm (x :: l.eraseIdx d)
  | [], d, x, h => by simp at h
  | a :: l, 0, x, h => by
    have : a = x := Option.some.inj h
    subst this
    exact List.Perm.refl _
  | a :: l, d + 1, x, h => by
    have ih := erase_perm (l := l) (d := d) (x := x) (by simpa using h)
    exact (ih.cons a).trans (List.Perm.swap x a _)
theorem erase_vIs : ∀ (l : List Nat) (d : Nat), (vIs l).eraseIdx d = vIs (l.eraseIdx d)
  | [], d => rfl
  | a :: l, 0 => rfl
  | a :: l, d + 1 => by
    show vI a :: (vIs l).eraseIdx d = vI a :: vIs (l.eraseIdx d)
    rw [erase_vIs l d]
end Pr
set_option Elab.async false
set_option linter.all false
set_option maxRecDepth 100000
set_option maxHeartbeats 4000000
namespace Pr
open PySem PySem.Spec PyProof.Rows L2 TM Ep
open Evl (Ex Ev EvT EvA EvL)
def spSide (C : Addr) : Sp := fun vs H Q _ => ∃ L vt N c a ya y t, vs = [.ref c, .ref a, .ref ya, vI y, vI t] ∧ CAt C H c L ∧ LanesAt H a L ∧ H ya = some (.lst (vIs (yardsL L))) ∧ Good vt L ∧ IsNext vt L N ∧ y ∈ yardsL L ∧ t ∈ adj L y ∧ ∀ H', Ex H H' → Q (.bl true) H'
section
variable {K : PySem.W.Frag} {σ : L2.St} {H : Hp} {te ta tb : TE} {P : VP} {x y z : V}
theorem ev_opP {r : R2} (ha : EvP ta σ H P) (hb : Ev tb σ H y) (hr : ∀ v H1 H2, Ex H H1 → Ex H1 H2 → P v H1 H2 → Evl.RV r v y H2 z) : Ev (tOp r ta tb) σ H z := fun H0 e Q q =>
  ha H0 e _ fun v H1 e1 p => hb H1 (e.trans e1) _ fun H2 e2 => hr v H0 H1 e e1 p H2 e2 Q fun H3 e3 => q H3 ((e1.trans e2).trans e3)
theorem ev_repr {a : Addr} {l : List Nat} (h : Ev te σ H (.ref a)) (ho : H a = some (.lst (vIs l))) (hs : ∀ x ∈ l, x < 1024) (hl : l.length ≤ 1001) : Ev (tCB (G8.rRepr K) (tCons te tNil)) σ H (.str (dN l).shown) :=
  ev_cb1 h fun H1 e Q q => repr_N (Evl.sq_of (e _ _ ho)) hs hl q
theorem ev_reprP {l : List Nat} (h : EvP te σ H (NewL (vIs l))) (hs : ∀ x ∈ l, x < 1024) (hl : l.length ≤ 1001) : Ev (tCB (G8.rRepr K) (tCons te tNil)) σ H (.str (dN l).shown) := fun H1 e Q q =>
  h H1 e _ fun v H2 e2 ⟨p, r, _, k⟩ => by
    subst r
    exact repr_N (Evl.sq_of k) hs hl (q H2 e2)
theorem rv_eqN {a b : Addr} {l m : List Nat} (h1 : H a = some (.lst (vIs l))) (h2 : H b = some (.lst (vIs m))) : Evl.RV (rEqD K) (.ref a) (.ref b) H (.bl (decide (l = m))) := fun H1 e Q q =>
  ⟨dN l, dN m, dp_N (Evl.sq_of (e _ _ h1)), dp_N (Evl.sq_of (e _ _ h2)), shaped_N _, shaped_N _, by rw [eqv_N]; exact q H1 (Ex.refl _)⟩
theorem rv_neN {a b : Addr} {l m : List Nat} (h1 : H a = some (.lst (vIs l))) (h2 : H b = some (.lst (vIs m))) : Evl.RV (rNeD K) (.ref a) (.ref b) H (.bl (!decide (l = m))) := fun H1 e Q q =>
  ⟨dN l, dN m, dp_N (Evl.sq_of (e _ _ h1)), dp_N (Evl.sq_of (e _ _ h2)), shaped_N _, shaped_N _, by rw [eqv_N]; exact q H1 (Ex.refl _)⟩
theorem ev_beh {C : Addr} {L : Lanes} {vt : List Nat} {N : Nat → Nat → Nat} {c : Addr} {y t : Nat} {ts : TA} (hC : CAt C H c L) (G : Good vt L) (I : IsNext vt L N) (hy : y ∈ yardsL L) (ht : t ∈ adj L y) (h : EvA ts σ H [.ref c, vI y, vI t]) : EvP (tCall (spBehind C) [] E0 ts) σ H (NewL (vIs (bh L N y t))) :=
  evp_callA h (fun H2 e2 Q q => ⟨L, vt, N, c, y, t, rfl, hC.ex e2, G, I, hy, ht, fun q' H3 e3 hq hq' => q _ H3 e3 ⟨q', rfl, hq, hq'⟩⟩) (fun v H1 H2 H3 _ e12 _ h => newL_back e12 h)
theorem ev_sortN {l : List Nat} (h : EvP te σ H (fun v _ Hb => ∃ p, v = .ref p ∧ Hb p = some (.lst (vIs l)))) : EvP (tCB (rSortedI K) (tCons te tNil)) σ H (NewL (vIs (isort l))) :=
  evp_cb1 h fun v Ha Hb _ eab h Q' q => by
    obtain ⟨p, rfl, hp⟩ := h
    refine ⟨p, l.map fun (n : Nat) => (n : Int), rfl, ?_, fun ns' c perm srt hc => ?_⟩
    · rw [← vIs_int]
      exact Evl.sq_of hp
    · have := int_sorted perm srt
      subst this
      rw [← vIs_int]
      exact q _ _ (Ex.new hc) ⟨c, rfl, Evl.fresh_back eab hc, upd_same⟩
theorem ev_catN {a : Addr} {l m : List Nat} (h : Ev ta σ H (.ref a)) (ho : H a = some (.lst (vIs l))) (h2 : EvP tb σ H (NewL (vIs m))) (hs : l.length + m.length ≤ 100000) : EvP (tOp rCat ta tb) σ H (fun v _ Hb => ∃ p, v = .ref p ∧ Hb p = some (.lst (vIs (l ++ m)))) := fun H1 e Q q =>
  h H1 e _ fun H2 e2 => h2 H2 (e.trans e2) _ fun v H3 e3 ⟨p, r, hp, k⟩ => by
    subst r
    refine ⟨a, p, vIs l, vIs m, rfl, rfl, ((e.trans e2).trans e3) _ _ ho, k, ?_, fun c hc => q _ _ ((e2.trans e3).trans (Ex.new hc)) ⟨c, rfl, ?_⟩⟩
    · rw [List.length_map, List.length_map]
      exact szL hs
    · rw [upd_same]
      unfold vIs
      rw [List.map_append]
theorem small_bh {vt : List Nat} {L : Lanes} (G : Good vt L) {N : Nat → Nat → Nat} {y t : Nat} : ∀ x ∈ bh L N y t, x < 1024 := fun x hx => by
  have := (mem_yards.mp (mem_bh.mp hx).1).1
  have := G.small
  omega
end
end Pr
namespace Pr
open PySem PySem.Spec PyProof.Rows L2 TM Ep
open Evl (Ex Ev EvT EvA EvL EvO)
def spRight : Sp := fun vs H Q _ => ∃ p, vs = [.ref p] ∧ PotAt H p ∧ ∀ H', Q (.bl true) H'
def spLaw (K : PySem.W.Frag) : Sp := fun vs H Q _ => ∃ (a : Addr) (ns : List Int), vs = [.ref a] ∧ SqL K H a (ns.map V.int) ∧ ∀ H', Q (.bl true) H'
theorem but_exB {p : Addr} {H H' : Hp} (e : ExB p H H') : Ex (but H p) (but H' p) := fun b o h => by
  unfold but at h ⊢
  split at h
  · cases h
  · rename_i n
    rw [if_neg n]
    exact e b o h n
/-- all but what is locked -/
def Nf (H H' : Hp) : Prop := ∀ b o, H b = some o → (∀ od u, o ≠ HO.frz od u) → H' b = some o
theorem Nf.but {H : Hp} {p : Addr} {od : Obj} {u : HO} (h : H p = some (.frz od u)) (v : HO) : Nf H (but (upd H p v) p) := fun b o hb n => by
  have nb : b ≠ p := fun z => by
    rw [z, h] at hb
    exact n od u (Option.some.inj hb).symm
  exact but_ne (by rw [upd_ne nb]; exact hb) nb
theorem LanesAt.nf {H H' : Hp} {a : Addr} {L : Lanes} (e : Nf H H') (h : LanesAt H a L) : LanesAt H' a L := by
  obtain ⟨vs, r, k⟩ := h
  exact ⟨vs, e _ _ r (fun _ _ z => nomatch z), paired_imp (fun _ _ ⟨t, q, z⟩ => ⟨t, q, e _ _ z (fun _ _ z => nomatch z)⟩) k⟩
theorem CAt.nf {C : Addr} {H H' : Hp} {p : Addr} {L : Lanes} (x : Nf H H') (h : CAt C H p L) : CAt C H' p L := by
  obtain ⟨dx, l, d, e, y, g, rs, qs, a, b⟩ := h
  refine ⟨dx, l, d, e, y, g, rs, qs, x _ _ a (fun _ _ z => nomatch z), ?_, x _ _ b.d_ (fun _ _ z => nomatch z), ⟨b.r_.len, fun i r k => x _ _ (b.r_.at_ i r k) (fun _ _ z => nomatch z)⟩, x _ _ b.e_ (fun _ _ z => nomatch z), b.ql, fun i q k => ?_, x _ _ b.y_ (fun _ _ z => nomatch z), x _ _ b.g_ (fun _ _ z => nomatch z)⟩
  · obtain ⟨M, u, v, sv⟩ := b.l_
    exact ⟨M, u.nf x, v, sv⟩
  · obtain ⟨kvs, u, v⟩ := b.q_ i q k
    exact ⟨kvs, u, x _ _ v (fun _ _ z => nomatch z)⟩
theorem LanesAt.exB {H H' : Hp} {p a : Addr} {L : Lanes} (e : ExB p H H') (hp : PotAt H p) (n : a ≠ p) (h : LanesAt H a L) : LanesAt H' a L := by
  obtain ⟨vs, r, k⟩ := h
  exact ⟨vs, e _ _ r n, paired_imp (fun _ _ ⟨t, q, z⟩ => ⟨t, q, e _ _ z (hp.ne z (fun _ _ z => nomatch z))⟩) k⟩
theorem mem_cutV {x : V} {xs : List V} {lo hi : Option Int} (h : x ∈ cutV xs lo hi) : x ∈ xs := List.mem_of_mem_drop (List.mem_of_mem_take h)
theorem cutV_len {xs : List V} {lo hi : Option Int} : (cutV xs lo hi).length ≤ xs.length := by
  unfold cutV
  rw [List.length_take, List.length_drop]
  omega
section
variable {K : PySem.W.Frag} {σ : L2.St} {H : Hp} {te ta tb : TE}
def OldL (xs : List V) : VP := fun v _ H2 => ∃ p, v = .ref p ∧ H2 p = some (.lst xs)
theorem oldL {xs : List V} (h : EvP te σ H (NewL xs)) : EvP te σ H (OldL xs) := h.imp fun v _ _ _ _ ⟨p, r, _, k⟩ => ⟨p, r, k⟩
theorem evp_sl {tl th : TO} {xs : List V} {lo hi : Option Int} (h : EvP te σ H (OldL xs)) (h1 : EvO tl σ H lo) (h2 : EvO th σ H hi) : EvP (tSl (rSlL K) te tl th) σ H (NewL (cutV xs lo hi)) := fun H1 e Q q =>
  h H1 e _ fun v H2 e2 ⟨p, r, k⟩ => h1 H2 (e.trans e2) _ fun H3 e3 => h2 H3 ((e.trans e2).trans e3) _ fun H4 e4 =>
    ⟨p, xs, r, Evl.sq_of ((e3.trans e4) _ _ k), fun c hc => q _ _ (((e2.trans e3).trans e4).trans (Ex.new hc)) ⟨c, rfl, Evl.fresh_back ((e2.trans e3).trans e4) hc, upd_same⟩⟩
theorem evp_cat {xs ys : List V} (h : EvP ta σ H (OldL xs)) (h2 : EvP tb σ H (OldL ys)) (hs : xs.length + ys.length ≤ 100000) : EvP (tOp rCat ta tb) σ H (NewL (xs ++ ys)) := fun H1 e Q q =>
  h H1 e _ fun v H2 e2 ⟨a, r, k⟩ => h2 H2 (e.trans e2) _ fun u H3 e3 ⟨b, r', k'⟩ =>
    ⟨a, b, xs, ys, r, r', e3 _ _ k, k', szL hs, fun c hc => q _ _ ((e2.trans e3).trans (Ex.new hc)) ⟨c, rfl, Evl.fresh_back (e2.trans e3) hc, upd_same⟩⟩
end
end Pr
set_option Elab.async false
set_option linter.all false
set_option maxRecDepth 100000
set_option maxHeartbeats 4000000
/-! one text, two readings (a list or a tuple): the reader of the goal chooses, at each turn anew -/
namespace Ei
open PySem PySem.Spec PyProof.Rows L2
def eE (a b : TE) : TE := fun σ H Q => a σ H Q ∨ b σ H Q
def eG (a b : TG) : TG := fun v σ H Q => a v σ H Q ∨ b v σ H Q
def eI (a b : TI) : TI := fun σ H R => a σ H R ∨ b σ H R
def eT (a b : TT) : TT := fun σ H Q => a σ H Q ∨ b σ H Q
section
variable {X : Cx} {e tg : Expr}
theorem pe_ei {a b : TE} (h1 : PE X e a) (h2 : PE X e b) : PE X e (eE a b) := ⟨fun pins s σ H Q I h => h.elim (h1.run pins s σ H Q I) (h2.run pins s σ H Q I)⟩
theorem pt_ei {a b : TT} (h1 : PT X e a) (h2 : PT X e b) : PT X e (eT a b) := ⟨fun pins s σ H Q I h => h.elim (h1.run pins s σ H Q I) (h2.run pins s σ H Q I)⟩
theorem pg_ei {a b : TG} (h1 : PG X tg a) (h2 : PG X tg b) : PG X tg (eG a b) := ⟨fun pins s σ H v u Q I r h => h.elim (h1.run pins s σ H v u Q I r) (h2.run pins s σ H v u Q I r)⟩
theorem pi_ei {a b : TI} (h1 : PI X tg e a) (h2 : PI X tg e b) : PI X tg e (eI a b) := ⟨fun pins s σ H R I h => h.elim (h1.run pins s σ H R I) (h2.run pins s σ H R I)⟩
end
end Ei
set_option Elab.async false
set_option linter.all false
set_option maxRecDepth 100000
set_option maxHeartbeats 4000000
/-! bounds, books and loads in the heap -/
namespace Pr
open PySem PySem.Spec PyProof.Rows L2 TM Ep Nw
open Evl (Ex Ev EvT EvA EvL EvU EvO)
def oV : Option Nat → V
  | none => .non
  | some n => vI n
def BdR : Rep Bd := fun H v b => ∃ t, v = .ref t ∧ H t = some (.tup [oV b.1, oV b.2.1, vI b.2.2])
def EntR : Rep Ent := fun H v e => ∃ t, v = .ref t ∧ H t = some (.tup [vI e.1, vI e.2.1, vI e.2.2])
def PrR : Rep (Nat × Nat) := fun H v p => ∃ t, v = .ref t ∧ H t = some (.tup [vI p.1, vI p.2])
def SeqR {β : Type} (S : Rep β) : Rep (List β) := fun H v l => ∃ p vs, v = .ref p ∧ (H p = some (.lst vs) ∨ H p = some (.tup vs)) ∧ Paired (S H) vs l
def AltR : Rep Alt := fun H v a => ∃ t w, v = .ref t ∧ H t = some (.tup [vI a.1, w]) ∧ SeqR BdR H w a.2
def AltL : Rep Alt := fun H v a => ∃ t w, v = .ref t ∧ H t = some (.tup [vI a.1, w]) ∧ LstOf BdR H w a.2
abbrev BkR : Rep Bk := SeqR AltR
abbrev LdR : Rep Ld := SeqR EntR
theorem moB : Mono BdR := fun H H' v b e ⟨t, r, k⟩ => ⟨t, r, e _ _ k⟩
theorem moE : Mono EntR := fun H H' v b e ⟨t, r, k⟩ => ⟨t, r, e _ _ k⟩
theorem moP : Mono PrR := fun H H' v b e ⟨t, r, k⟩ => ⟨t, r, e _ _ k⟩
theorem moSeq {β : Type} {S : Rep β} (mo : Mono S) : Mono (SeqR S) := fun H H' v b e ⟨p, vs, r, k, h⟩ => ⟨p, vs, r, k.imp (e _ _) (e _ _), mo.paired e h⟩
theorem moA : Mono AltR := fun H H' v b e ⟨t, w, r, k, h⟩ => ⟨t, w, r, e _ _ k, moSeq moB _ _ _ _ e h⟩
theorem moAL : Mono AltL := fun H H' v b e ⟨t, w, r, k, h⟩ => ⟨t, w, r, e _ _ k, moB.lst _ _ _ _ e h⟩
theorem moBk : Mono BkR := moSeq moA
theorem moLd : Mono LdR := moSeq moE
theorem seq_of {β : Type} {S : Rep β} {H : Hp} {v : V} {l : List β} (h : LstOf S H v l) : SeqR S H v l := by
  obtain ⟨p, vs, r, k, h⟩ := h
  exact ⟨p, vs, r, .inl k, h⟩
theorem altL_R {H : Hp} {v : V} {a : Alt} (h : AltL H v a) : AltR H v a := by
  obtain ⟨t, w, r, k, h⟩ := h
  exact ⟨t, w, r, k, seq_of h⟩
theorem bkL_R {H : Hp} {v : V} {B : Bk} (h : LstOf AltL H v B) : BkR H v B := by
  obtain ⟨p, vs, r, k, h⟩ := h
  exact ⟨p, vs, r, .inl k, pimp (fun _ _ z => altL_R z) h⟩
theorem bkS_R {H : Hp} {v : V} {B : Bk} (h : SeqR AltL H v B) : BkR H v B := by
  obtain ⟨p, vs, r, k, h⟩ := h
  exact ⟨p, vs, r, k, pimp (fun _ _ z => altL_R z) h⟩
theorem oV_eq {a b : Option Nat} (h : oV a = oV b) : a = b := by
  cases a <;> cases b
  · rfl
  · cases h
  · cases h
  · have h2 : V.int _ = V.int _ := h
    injection h2 with h
    exact congrArg some (by omega)
theorem ok_in {o : Option Nat} {x : Nat} : inV (oV o) [.non, vI x] = okO o x := by
  cases o with
  | none => rfl
  | some y =>
    show (eqV .non (vI y) || (eqV (vI x) (vI y) || false)) = decide (y = x)
    show (false || ((((x : Int) == (y : Int)) : Bool) || false)) = decide (y = x)
    by_cases h : y = x
    · subst h
      simp
    · rw [decide_eq_false h, Bool.false_or, Bool.or_false, beq_eq_false_iff_ne]
      omega
theorem flat_o (o : Option Nat) : flatV (oV o) = true := by cases o <;> rfl
theorem sum_cast : ∀ l : List Nat, (l.map fun (n : Nat) => (n : Int)).sum = ((l.sum : Nat) : Int)
  | [] => rfl
  | a :: l => by rw [List.map_cons, List.sum_cons, List.sum_cons, sum_cast l]; omega
section
variable {K : PySem.W.Frag} {σ : L2.St} {H : Hp} {te ta tb tc : TE} {x y z : V}
theorem go_3 {i j l : Nat} {t : Addr} {a b c : V} {Q : L2.St → Hp → Prop} (h : H t = some (.tup [a, b, c])) (k : Q (((σ.set i (some a)).set j (some b)).set l (some c)) H) : gTup K 3 (gCons (gName i) (gCons (gName j) (gCons (gName l) gNil))) (.ref t) σ H Q :=
  ⟨t, _, rfl, Evl.st_of h, rfl, _, _, rfl, _, _, rfl, _, _, rfl, rfl, k⟩
theorem go_2 {i j : Nat} {t : Addr} {a b : V} {Q : L2.St → Hp → Prop} (h : H t = some (.tup [a, b])) (k : Q ((σ.set i (some a)).set j (some b)) H) : gTup K 2 (gCons (gName i) (gCons (gName j) gNil)) (.ref t) σ H Q :=
  ⟨t, _, rfl, Evl.st_of h, rfl, _, _, rfl, _, _, rfl, rfl, k⟩
theorem ev_isTup {t : Addr} {xs : List V} (h : Ev te σ H (.ref t)) (ht : H t = some (.tup xs)) : Ev (tCB (rIsi K) (tCons te (tCons (tC (.ty "tuple")) tNil))) σ H (.bl true) :=
  ev_cb2 h Evl.ev_c fun H1 e Q q => ⟨_, _, _, _, true, rfl, .ty _, .base (.tup (e _ _ ht)), rfl, q⟩
theorem ev_lenT {t : Addr} {xs : List V} (h : Ev te σ H (.ref t)) (ht : H t = some (.tup xs)) : Ev (tCB (rLenA K) (tCons te tNil)) σ H (.int (xs.length : Int)) := fun H1 e Q q =>
  h H1 e _ fun H2 e2 => ⟨_, _, rfl, .inr ⟨xs, Evl.st_of ((e.trans e2) _ _ ht), rfl⟩, q H2 e2⟩
theorem ev_lenS {β : Type} {S : Rep β} {v : V} {l : List β} (h : Ev te σ H v) (hs : SeqR S H v l) : Ev (tCB (rLenA K) (tCons te tNil)) σ H (vI l.length) := fun H1 e Q q =>
  h H1 e _ fun H2 e2 => by
    obtain ⟨p, vs, rfl, k, hp⟩ := hs
    have hl : vs.length = l.length := PySem.Paired.length hp
    refine ⟨_, l.length, rfl, ?_, q H2 e2⟩
    rcases k with k | k
    · exact .inl ⟨vs, Evl.sq_of ((e.trans e2) _ _ k), hl.symm⟩
    · exact .inr ⟨vs, Evl.st_of ((e.trans e2) _ _ k), hl.symm⟩
theorem ev_chain {r r' : R2} {w : V} (ha : Ev ta σ H x) (hb : Ev tb σ H y) (h1 : Evl.RV r x y H (.bl true)) (hc : Ev tc σ H z) (h2 : Evl.RV r' y z H w) : Ev (tChain r r' ta tb tc) σ H w := fun H1 e1 Q q =>
  ha H1 e1 _ fun H2 e2 => hb H2 (e1.trans e2) _ fun H3 e3 => h1 H3 ((e1.trans e2).trans e3) _ fun H4 e4 => ⟨true, rfl, iteT (hc H4 (((e1.trans e2).trans e3).trans e4) _ fun H5 e5 => h2 H5 ((((e1.trans e2).trans e3).trans e4).trans e5) _ fun H6 e6 => q H6 ((((e2.trans e3).trans e4).trans e5).trans e6))⟩
theorem ev_all {bs : List Bool} (h : EvP te σ H (NewL (bs.map V.bl))) : Ev (tCB (rAll K) (tCons te tNil)) σ H (.bl (bs.all id)) := fun H1 e Q q =>
  h H1 e _ fun v H2 e2 ⟨p, r, _, k⟩ => by
    subst r
    exact ⟨p, bs, rfl, Evl.sq_of k, q H2 e2⟩
theorem ev_any {bs : List Bool} (h : EvP te σ H (NewL (bs.map V.bl))) : Ev (tCB (rAny K) (tCons te tNil)) σ H (.bl (bs.any id)) := fun H1 e Q q =>
  h H1 e _ fun v H2 e2 ⟨p, r, _, k⟩ => by
    subst r
    exact ⟨p, bs, rfl, Evl.sq_of k, q H2 e2⟩
theorem ev_sumN {l : List Nat} (h : EvP te σ H (NewL (vIs l))) : Ev (tCB (rSum K) (tCons te tNil)) σ H (vI l.sum) := fun H1 e Q q =>
  h H1 e _ fun v H2 e2 ⟨p, r, _, k⟩ => by
    subst r
    refine ⟨p, l.map fun (n : Nat) => (n : Int), rfl, by rw [← vIs_int]; exact Evl.sq_of k, ?_⟩
    rw [sum_cast]
    exact q H2 e2
theorem ev_inO {o : Option Nat} {s : Nat} (h : Ev ta σ H (oV o)) (h2 : Ev tb σ H (vI s)) : Ev (tOp (rIn K false) ta (tTup (tCons (tC .non) (tCons tb tNil)))) σ H (.bl (okO o s)) :=
  Evl.ev_is (Evl.ev_inU h (Evl.eu_tup (vs := [.non, vI s]) (Evl.ea_cons Evl.ev_c (Evl.ea_cons h2 Evl.ea_nil)) (by show 2 ≤ 100000; decide)) (flat_o o) rfl) (by rw [ok_in])
theorem rv_isN {o : Option Nat} : Evl.RV (fun x y H Q => y = .non ∧ Q (.bl (decide (x = .non))) H) (oV o) .non H (.bl o.isNone) := fun H1 _ Q q => ⟨rfl, by
  cases o with
  | none => exact q H1 (Ex.refl _)
  | some n => exact q H1 (Ex.refl _)⟩
theorem ev_count {ts : TA} {n : Nat} (h : EvA ts σ H [vI n]) : Ev (tCall spCount [] E0 ts) σ H (.bl true) :=
  ev_evp (evp_callA h (fun H2 e2 Q q => ⟨n, rfl, by rw [decide_eq_true (Int.natCast_nonneg n)]; exact q _ H2 (Ex.refl _) rfl⟩) (fun _ _ _ _ _ _ _ h => h))
theorem ev_isRow {β : Type} {S : Rep β} {ts : TA} {v : V} {l : List β} (h : EvA ts σ H [v]) (hs : SeqR S H v l) : Ev (tCall (spRow K) [] E0 ts) σ H (.bl true) :=
  ev_evp (evp_callA h (fun H2 e2 Q q => by
    obtain ⟨p, vs, rfl, k, _⟩ := hs
    exact ⟨p, vs, rfl, k.imp (e2 _ _) (e2 _ _), fun H3 e3 => q _ H3 e3 rfl⟩) (fun _ _ _ _ _ _ _ h => h))
/-- one argument of its own making, and one that is known -/
theorem evp_call2 {sp : Sp} {E : XK} {P1 P : VP} (h1 : EvP ta σ H P1) (h2 : Ev tb σ H y) (hs : ∀ v H1 H2 H3, Ex H H1 → Ex H1 H2 → Ex H2 H3 → P1 v H1 H2 → ∀ Q : VK, (∀ z H4, Ex H3 H4 → P z H1 H4 → Q z H4) → sp [v, y] H3 Q E) : EvP (tCall sp [] E (tCons ta (tCons tb tNil))) σ H P := fun H1 e Q q =>
  h1 H1 e _ fun v H2 e2 p => h2 H2 (e.trans e2) _ fun H3 e3 => hs v H1 H2 H3 e e2 e3 p Q fun z H4 e4 p4 => q z H4 ((e2.trans e3).trans e4) p4
theorem evp_call2' {sp : Sp} {E : XK} {P1 P : VP} (h2 : Ev ta σ H y) (h1 : EvP tb σ H P1) (hs : ∀ v H1 H2 H3, Ex H H1 → Ex H1 H2 → Ex H2 H3 → P1 v H2 H3 → ∀ Q : VK, (∀ z H4, Ex H3 H4 → P z H1 H4 → Q z H4) → sp [y, v] H3 Q E) : EvP (tCall sp [] E (tCons ta (tCons tb tNil))) σ H P := fun H1 e Q q =>
  h2 H1 e _ fun H2 e2 => h1 H2 (e.trans e2) _ fun v H3 e3 p => hs v H1 H2 H3 e e2 e3 p Q fun z H4 e4 p4 => q z H4 ((e2.trans e3).trans e4) p4
/-- what is walked: a list or a tuple of such -/
theorem src_seq {v : V} {p : Addr} {vs : List V} (h : Ev te σ H (.ref p)) (hx : H p = some (.lst vs) ∨ H p = some (.tup vs)) : Src (Ei.eI (iList K te) (iTup K te)) σ H vs.length (fun i v => vs[i]? = some v) := fun H1 e R k => by
  rcases hx with hx | hx
  · exact .inl (src_list h (Evl.sq_of hx) H1 e R k)
  · exact .inr (src_tup h (Evl.st_of hx) H1 e R k)
/-- list(x), x a list or a tuple -/
theorem evp_listS {β : Type} {S : Rep β} (mo : Mono S) {v : V} {l : List β} (h : Ev te σ H v) (hs : SeqR S H v l) : EvP (tCB (rListOf K) (tCons te tNil)) σ H (NewLst S H l) := fun H1 e Q q =>
  h H1 e _ fun H2 e2 => by
    obtain ⟨p, vs, rfl, k, hp⟩ := hs
    have k2 := k.imp ((e.trans e2) p _) ((e.trans e2) p _)
    refine ⟨p, vs, rfl, k2.imp Evl.sq_of Evl.st_of, fun c hc => ?_⟩
    have f1 := Evl.fresh_back e2 hc
    refine q _ _ (e2.trans (Ex.new hc)) ⟨c, vs, upd H c (.lst vs), rfl, f1, fun b o z => ?_, upd_same, mo.paired (Ex.new (Evl.fresh_back e f1)) hp⟩
    by_cases n : b = c
    · subst n
      rw [upd_same] at z ⊢
      exact ⟨z, .inr f1⟩
    · rw [upd_ne n] at z ⊢
      exact ⟨(e.trans e2) _ _ z, .inl z⟩
/-- (x, [..]) -/
theorem evp_tup2 {β : Type} {S : Rep β} (mo : Mono S) {l : List β} (h : Ev ta σ H x) (h2 : EvP tb σ H (NewLst S H l)) : EvP (tTup (tCons ta (tCons tb tNil))) σ H (fun v H1 H2 => ∃ t w Hn, v = .ref t ∧ H1 t = none ∧ Mk H H1 H2 Hn ∧ Hn t = some (.tup [x, w]) ∧ LstOf S Hn w l) := fun H1 e Q q =>
  h H1 e _ fun H2 e2 => h2 H2 (e.trans e2) _ fun w H3 e3 ⟨p, vs, Hn, r, fp, m, k, hp⟩ => ⟨(by show 2 ≤ sizeLine; decide), fun t ht => by
    subst r
    have ft := Evl.fresh_back (e2.trans e3) ht
    obtain ⟨m2, ex2⟩ := (m.back e2).put (o := .tup [x, .ref p]) ht ft
    exact q _ _ ((e2.trans e3).trans (Ex.new ht)) ⟨t, .ref p, _, rfl, ft, m2, upd_same, p, vs, rfl, ex2 _ _ k, mo.paired ex2 hp⟩⟩
/-- xs + ys -/
theorem evp_catS {β : Type} {S : Rep β} (mo : Mono S) {l m : List β} (h : EvP ta σ H (NewLst S H l)) (h2 : EvP tb σ H (NewLst S H m)) (hs : l.length + m.length ≤ 100000) : EvP (tOp rCat ta tb) σ H (NewLst S H (l ++ m)) := fun H1 e Q q =>
  h H1 e _ fun v H2 e2 ⟨p, vs, Hn, r, fp, mk, k, hp⟩ => h2 H2 (e.trans e2) _ fun u H3 e3 ⟨p', vs', Hn', r', fp', mk', k', hp'⟩ => by
    subst r; subst r'
    have l1 : vs.length = l.length := PySem.Paired.length hp
    have l2 : vs'.length = m.length := PySem.Paired.length hp'
    refine ⟨p, p', vs, vs', rfl, rfl, e3 _ _ (mk _ _ k).1, (mk' _ _ k').1, szL (by omega), fun c hc => ?_⟩
    have f1 := Evl.fresh_back (e2.trans e3) hc
    obtain ⟨mj, ja, jb⟩ := (mk.on e3).join (mk'.back e2)
    obtain ⟨m2, ex2⟩ := mj.put (o := .lst (vs ++ vs')) hc f1
    exact q _ _ ((e2.trans e3).trans (Ex.new hc)) ⟨c, _, _, rfl, f1, m2, upd_same, papp (mo.paired (ja.trans ex2) hp) (mo.paired (jb.trans ex2) hp')⟩
end
theorem evp_nbsM {K : PySem.W.Frag} {σ : L2.St} {H : Hp} {te ta : TE} {C : Addr} {L : Lanes} {p i : Nat} (h : Ev te σ H (.ref p)) (h2 : Ev ta σ H (vI i)) (hC : CAt C H p L) (hi : i < L.length + 1) : EvP (tMeth C "neighbours" (spNbs C) [] E0 te (tCons ta tNil)) σ H (NewL (vIs (adj L i))) := fun H1 e Q q =>
  h H1 e _ fun H2 e2 => by
    have hC2 := hC.ex (e.trans e2)
    obtain ⟨dx, l, d, ee, yy, g, rs, qs, ho, _⟩ := id hC2
    refine ⟨p, dx, _, rfl, ho, fl_no (by rfl), ?_⟩
    refine h2 H2 (e.trans e2) _ fun H3 e3 => ?_
    exact ⟨L, p, i, rfl, hC2.ex e3, hi, fun q' H4 e4 fq hq => q _ H4 ((e2.trans e3).trans e4) ⟨q', rfl, Evl.fresh_back (e2.trans e3) fq, hq⟩⟩
end Pr
set_option Elab.async false
set_option linter.all false
set_option maxRecDepth 100000
set_option maxHeartbeats 4000000
/-! countries and webs as data; promises told of the heap, told of data -/
namespace DL
open PySem PySem.Spec PyProof.Rows L2 TM Pr Ep Nw
open Evl (Ex)
theorem LanesAt.exo {H H' : Hp} {a : Addr} {L : Lanes} (e : Exo H H') (h : LanesAt H a L) : LanesAt H' a L := by
  obtain ⟨vs, r, k⟩ := h
  exact ⟨vs, e _ _ r (fun _ z => nomatch z), paired_imp (fun _ _ ⟨t, q, z⟩ => ⟨t, q, e _ _ z (fun _ z => nomatch z)⟩) k⟩
theorem CPart.exo {H H' : Hp} {L : Lanes} {l d e y g : Addr} {rs qs : List Addr} (x : Exo H H') (h : CPart H L l d e y g rs qs) : CPart H' L l d e y g rs qs :=
  have lst : ∀ {b xs}, H b = some (.lst xs) → H' b = some (.lst xs) := fun k => x _ _ k (fun _ z => nomatch z)
  have dk : ∀ {b xs}, H b = some (.dK xs) → H' b = some (.dK xs) := fun k => x _ _ k (fun _ z => nomatch z)
  { h with
    l_ := by
      obtain ⟨M, a, b⟩ := h.l_
      exact ⟨M, LanesAt.exo x a, b⟩
    d_ := dk h.d_
    r_ := ⟨h.r_.len, fun i r k => lst (h.r_.at_ i r k)⟩
    e_ := dk h.e_
    q_ := fun i q k => by
      obtain ⟨kvs, a, b⟩ := h.q_ i q k
      exact ⟨kvs, a, dk b⟩
    y_ := lst h.y_
    g_ := lst h.g_ }
theorem CAt.exo {C : Addr} {H H' : Hp} {p : Addr} {L : Lanes} (x : Exo H H') (h : CAt C H p L) : CAt C H' p L := by
  obtain ⟨dx, l, d, e, y, g, rs, qs, a, b⟩ := h
  exact ⟨dx, l, d, e, y, g, rs, qs, x _ _ a (fun _ z => nomatch z), CPart.exo x b⟩
theorem altL_exo {H H' : Hp} {v : V} {B : Bk} (x : Exo H H') (h : LstOf AltL H v B) : LstOf AltL H' v B := by
  obtain ⟨q, vs, rfl, hq, hp⟩ := h
  refine ⟨q, vs, rfl, x _ _ hq (fun _ z => nomatch z), pimp (fun u a h => ?_) hp⟩
  obtain ⟨t, w, rfl, ht, q2, us, rfl, hq2, hp2⟩ := h
  refine ⟨t, _, rfl, x _ _ ht (fun _ z => nomatch z), q2, us, rfl, x _ _ hq2 (fun _ z => nomatch z), pimp (fun u a h => ?_) hp2⟩
  obtain ⟨t, rfl, ht⟩ := h
  exact ⟨t, rfl, x _ _ ht (fun _ z => nomatch z)⟩
def wfD (c d : Addr) : List (Str × V) := [("_country", .ref c), ("_books", .ref d)]
def WAtD (CW C : Addr) (H : Hp) (p : Addr) (L : Lanes) (Bs : List Bk) : Prop := ∃ dx c d ws, H p = some (.ins CW dx (wfD c d)) ∧ CAt C H c L ∧ H d = some (.dK (((yardsL L).map keyN).zip ws)) ∧ Paired (LstOf AltL H) ws Bs ∧ Bs.length = (yardsL L).length
theorem WAtD.exo {CW C : Addr} {H H' : Hp} {p : Addr} {L : Lanes} {Bs : List Bk} (x : Exo H H') (h : WAtD CW C H p L Bs) : WAtD CW C H' p L Bs := by
  obtain ⟨dx, c, d, ws, a, b, k, r, l⟩ := h
  exact ⟨dx, c, d, ws, x _ _ a (fun _ z => nomatch z), CAt.exo x b, x _ _ k (fun _ z => nomatch z), pimp (fun _ _ h => altL_exo x h) r, l⟩
def oRr (C CW : Addr) : Hp → V → Ob → Prop := fun H v o => match o with
  | .cty L => ∃ p, v = .ref p ∧ CAt C H p L ∧ ∃ vt, Good vt L
  | .web L Bs => ∃ p, v = .ref p ∧ WAtD CW C H p L Bs ∧ ∃ vt, Good vt L
def oR (C CW : Addr) : OR := ⟨oRr C CW, fun H H' v o x h => by
  cases o with
  | cty L =>
    obtain ⟨p, r, a, g⟩ := h
    exact ⟨p, r, CAt.exo x a, g⟩
  | web L Bs =>
    obtain ⟨p, r, a, g⟩ := h
    exact ⟨p, r, WAtD.exo x a, g⟩⟩
/-! ### the part of the heap that a def is given -/
def cloB (P : Option Addr) (B H : Hp) : Hp := fun b => match H b with
  | none => none
  | some (.tup xs) => some (.tup xs)
  | some (.own a) => match H a with
    | some o => if insLike o = true ∧ (B a).isSome = true then some (.own a) else none
    | none => none
  | some o => if P = some b then some o else B b
section
variable {P : Option Addr} {B H : Hp}
theorem clo_at {b : Addr} {o : HO} (bh : Ex B H) (h : B b = some o) (no : ∀ a, o ≠ .own a) : cloB P B H b = some o := by
  have hh := bh b o h
  unfold cloB
  rw [hh]
  cases o with
  | own a => exact absurd rfl (no a)
  | tup xs => rfl
  | _ =>
    dsimp only
    split
    · rfl
    · exact h
theorem clo_exo (bh : Ex B H) : Exo B (cloB P B H) := fun b o h no => clo_at bh h no
theorem clo_ins {a : Addr} {o : HO} (bh : Ex B H) (po : PotOk P H) (h : H a = some o) (hi : insLike o = true) : cloB P B H a = B a := by
  unfold cloB
  rw [h]
  have nP : P ≠ some a := fun e => by
    obtain ⟨x, y, k, _⟩ := po a e
    rw [h] at k
    cases k
    cases hi
  cases o with
  | ins C dx fs =>
    dsimp only
    rw [if_neg nP]
  | frz ob u =>
    dsimp only
    rw [if_neg nP]
  | _ => cases hi
theorem clo_ok (bh : Ex B H) (po : PotOk P H) : Clo H (cloB P B H) where
  ex := fun b o h => by
    unfold cloB at h
    split at h
    · cases h
    · next q => cases h; exact q
    · next a q =>
      split at h
      · split at h
        · cases h; exact q
        · cases h
      · cases h
    · next o' _ _ q =>
      split at h
      · cases h; exact q
      · exact bh b o h
  tup := fun b xs h => by unfold cloB; rw [h]
  own1 := fun b a o h ha hi hn => by
    rw [clo_ins bh po ha hi] at hn
    unfold cloB
    rw [h]
    dsimp only
    rw [ha]
    dsimp only
    rw [if_neg (fun z => by rw [hn] at z; cases z.2)]
  own2 := fun b a o h ha hi hn => by
    rw [clo_ins bh po ha hi] at hn
    unfold cloB
    rw [h]
    dsimp only
    rw [ha]
    dsimp only
    rw [if_pos ⟨hi, by cases z : B a with
      | none => exact absurd z hn
      | some u => rfl⟩]
theorem clo_pot {p : Addr} (po : PotOk P H) (e : P = some p) : cloB P B H p = H p := by
  obtain ⟨a, b, h, _⟩ := po p e
  unfold cloB
  rw [h]
  dsimp only
  rw [if_pos e]
theorem clo_potok (po : PotOk P H) : PotOk P (cloB P B H) := fun p e => by
  have := clo_pot (B := B) po e
  obtain ⟨a, b, h, r⟩ := po p e
  exact ⟨a, b, by rw [this]; exact h, r⟩
theorem clo_nw {b : Addr} {o : HO} (h : cloB P B H b = some o) : B b = some o ∨ Imm o ∨ P = some b := by
  unfold cloB at h
  split at h
  · cases h
  · cases h; exact .inr (.inl trivial)
  · split at h
    · split at h
      · cases h; exact .inr (.inl trivial)
      · cases h
    · cases h
  · split at h
    · next e => exact .inr (.inr e)
    · exact .inl h
def butP (P : Option Addr) (H : Hp) : Hp := fun b => if P = some b then none else H b
theorem butP_ex {P : Option Addr} {H : Hp} : Ex (butP P H) H := fun b o h => by
  unfold butP at h
  split at h
  · cases h
  · exact h
/-- what comes of a call with a part of the heap: known is X of what is known there -/
theorem res_fr {B' H' X : Hp} (bh : Ex B H) (po : PotOk P H) (pb : ∀ p, P = some p → B p = none) (e : ExP P (cloB P B H) B') (po' : PotOk P B') (x1 : Ex B' H') (x2 : ∀ b o, H b = some o → cloB P B H b = none → H' b = some o) (x3 : ∀ b o, B' b = some o → cloB P B H b ≠ none ∨ H b = none)
    (hX : Ex X (butP P B')) : ∃ B2, Step P B H B2 H' ∧ PotOk P H' ∧ Exo X B2 ∧ ∀ b, B b = none → X b = none → B2 b = none := by
  let B2 : Hp := fun b => match B b with
    | some o => some o
    | none => X b
  have h1 : ∀ b o, B b = some o → B2 b = some o := fun b o h => by
    show (match B b with | some o => some o | none => X b) = _
    rw [h]
  have h2 : ∀ b, B b = none → B2 b = X b := fun b h => by
    show (match B b with | some o => some o | none => X b) = _
    rw [h]
  have hh : ExP P H H' := fun b o h n => by
    cases z : cloB P B H b with
    | none => exact x2 b o h z
    | some u =>
      have := (clo_ok bh po).ex b u z
      rw [h] at this
      cases this
      exact x1 b _ (e b _ z n)
  have bP : ∀ b o, B b = some o → P ≠ some b := fun b o h z => by rw [pb b z] at h; cases h
  refine ⟨B2, ⟨fun b o h => h1 b o h, fun b o h => ?_, hh, fun b o h => ?_⟩, po'.ex x1, fun b o h no => ?_, fun b n m => by rw [h2 b n]; exact m⟩
  · cases z : B b with
    | some u =>
      rw [h1 b u z] at h
      cases h
      exact hh b _ (bh b _ z) (bP b _ z)
    | none =>
      rw [h2 b z] at h
      exact x1 b o (butP_ex b o (hX b o h))
  · cases z : B b with
    | some u => rw [h1 b u z] at h; cases h; exact .inl rfl
    | none =>
      rw [h2 b z] at h
      have h := hX b o h
      have hb := butP_ex b o h
      rcases x3 b o hb with w | w
      · cases y : cloB P B H b with
        | none => exact absurd y w
        | some u =>
          have nP : P ≠ some b := fun q => by
            unfold butP at h
            rw [if_pos q] at h
            cases h
          have := e b u y nP
          rw [hb] at this
          cases this
          rcases clo_nw y with q | q | q
          · rw [z] at q; cases q
          · exact .inr (.inr q)
          · exact absurd q nP
      · exact .inr (.inl w)
  · cases z : B b with
    | some u =>
      have hb := butP_ex b o (hX b o h)
      -- what is known stays what it is
      by_cases w : ∃ a, u = .own a
      · obtain ⟨a, rfl⟩ := w
        have g1 := hh b _ (bh b _ z) (bP b _ z)
        rw [x1 b o hb] at g1
        cases g1
        exact absurd rfl (no a)
      · have g1 := e b u (clo_at bh z fun a q => w ⟨a, q⟩) (bP b _ z)
        rw [hb] at g1
        cases g1
        exact h1 b _ z
    | none => rw [h2 b z]; exact h
end
/-- the shape of every bridge: data to the heap -/
theorem br_E {R : OR} {pot : Bool} {n : Nat} {ef : List D → (D → Prop) → Prop} {sp : Sp} (h : ∀ P (B : Hp) vs us ds k (Q : VK), (P = none ∧ pot = false ∧ vs = us ∨ ∃ p, P = some p ∧ pot = true ∧ vs = .ref p :: us) → PotOk P B → ds.length = n → RpA R (butP P B) us ds → ef ds k → (∀ d v B', k d → ExP P B B' → PotOk P B' → Rp R (butP P B') v d → Q v B') → ∀ E, sp vs B Q E) :
    ∀ vs H Q E, spE R pot n ef vs H Q E → spFr sp vs H Q E := fun vs H Q E ⟨P, B, us, ds, k, hP, po, pb, bh, r, hn, he, q⟩ => by
  refine ⟨cloB P B H, clo_ok bh po, h P _ vs us ds k _ hP (clo_potok po) hn (RpA.monoO (fun b o hb no => ?_) ds r) he (fun d v B' kd e po' r' H' x1 x2 x3 => ?_) E⟩
  · have := clo_at (P := P) bh hb no
    unfold butP
    rw [if_neg fun z => by rw [pb b z] at hb; cases hb]
    exact this
  · obtain ⟨B2, s, po2, r2, _⟩ := res_fr bh po pb e po' x1 x2 x3 (Ex.refl _)
    exact q d v B2 H' kd s po2 (Rp.monoO r2 d r')
def but1 (p : Addr) (H : Hp) : Hp := fun b => if b = p then none else H b
theorem br_F {R : OR} {pot : Bool} {n : Nat} {ef : List D → (List D → Prop) → Prop} {sp : Sp} (h : ∀ P (B : Hp) vs us ds k (Q : VK), (P = none ∧ pot = false ∧ vs = us ∨ ∃ p, P = some p ∧ pot = true ∧ vs = .ref p :: us) → PotOk P B → ds.length = n → RpA R (butP P B) us ds → ef ds k → (∀ l p ws B', k l → ExP P B B' → PotOk P B' → B p = none → B' p = some (.lst ws) → RpA R (but1 p (butP P B')) ws l → Q (.ref p) B') → ∀ E, sp vs B Q E) :
    ∀ vs H Q E, spF R pot n ef vs H Q E → spFr sp vs H Q E := fun vs H Q E ⟨P, B, us, ds, k, hP, po, pb, bh, r, hn, he, q⟩ => by
  refine ⟨cloB P B H, clo_ok bh po, h P _ vs us ds k _ hP (clo_potok po) hn (RpA.monoO (fun b o hb no => ?_) ds r) he (fun l p ws B' kl e po' hp hp' r' H' x1 x2 x3 => ?_) E⟩
  · have := clo_at (P := P) bh hb no
    unfold butP
    rw [if_neg fun z => by rw [pb b z] at hb; cases hb]
    exact this
  · have ex1 : Ex (but1 p (butP P B')) (butP P B') := fun b o hb => by
      unfold but1 at hb
      split at hb
      · cases hb
      · exact hb
    obtain ⟨B2, s, po2, r2, fr⟩ := res_fr bh po pb e po' x1 x2 x3 ex1
    have hn : H p = none := by
      rcases x3 p _ hp' with w | w
      · exact absurd hp w
      · exact w
    exact q l p ws B2 H' kl s po2 hn (fr p (Evl.fresh_back bh hn) (by unfold but1; rw [if_pos rfl])) (x1 _ _ hp') (RpA.monoO r2 l r')
end DL
set_option Elab.async false
set_option linter.all false
set_option maxRecDepth 100000
set_option maxHeartbeats 4000000
/-! kinds of values; written forms; several names at once; what a country, a web tells -/
namespace DL
open PySem PySem.Spec PyProof.Rows L2 TM Pr Ep Nw
open Evl (Ex)
/-! ### isinstance -/
def tyD : D → Option String
  | .non => some "NoneType"
  | .bl _ => some "bool"
  | .int _ => some "int"
  | .str _ => some "str"
  | .lst _ => some "list"
  | .tup _ => some "tuple"
  | .dk _ _ => some "dict"
  | .dt _ _ => some "dict"
  | .ty _ => none
  | .ob _ => none
  | .rg _ => none
section
variable {R : OR} {K : PySem.W.Frag}
theorem ty_of {P : Option Addr} {B H : Hp} {v : V} {d : D} {T : String} (bh : Ex B H) (r : RpW R P B H v d) (h : tyD d = some T) : TyX K H v (.type T) := by
  cases d with
  | non => cases h; rw [r.non]; exact .base .non
  | bl b => cases h; rw [r.bl]; exact .base (.bl _)
  | int b => cases h; rw [r.int]; exact .base (.int _)
  | str b => cases h; rw [r.str]; exact .base (.str _)
  | lst l => cases h; obtain ⟨p, vs, rfl, e, _⟩ := r.lst bh; exact .base (.lst e)
  | tup l => cases h; obtain ⟨p, vs, rfl, _, e, _⟩ := r.tup bh; exact .base (.tup e)
  | dk ks l =>
    cases h
    rcases r with r | r
    · simp only [Rp] at r; obtain ⟨p, vs, rfl, e, _⟩ := r; exact .base (.dK (bh _ _ e))
    · obtain ⟨p, vs, rfl, e, _⟩ := r; exact .base (.dK e)
  | dt ks l =>
    cases h
    rcases r with r | r
    · simp only [Rp] at r; obtain ⟨p, vs, rfl, e, _⟩ := r; exact .base (.dT (bh _ _ e))
    · obtain ⟨p, vs, rfl, e, _⟩ := r; exact .base (.dT e)
  | ty n => cases h
  | ob o => cases h
  | rg n => cases h
/-- isinstance(x, T) -/
def isiD (T : String) : D → DK → Prop := fun d k => ∃ a b, tyD d = some a ∧ kitB a T = some b ∧ k (.bl b)
def eIsi (T : String) (ea : EE) : EE := fun env k => ea env fun d => isiD T d k
theorem we_isi {te : TE} {ee : EE} {T : String} (h : WO R te ee) : WE R (tCB (rIsi K) (tCons te (tCons (tC (.ty T)) tNil))) (eIsi T ee) := fun P env σ B H Q k E he q =>
  h P env σ B H _ _ E he fun d v B1 H1 kd s1 E1 r1 => by
    obtain ⟨a, b, h1, h2, hk⟩ := kd
    exact ⟨v, .ty T, .type a, .type T, b, rfl, .ty T, ty_of E1.bh r1 h1, kit_ty h2, q _ _ B1 H1 hk s1 E1 rp_bl⟩
/-- isinstance(x, (T, U)) -/
def isi2D (T U : String) : D → DK → Prop := fun d k => ∃ a b c, tyD d = some a ∧ kitB a T = some b ∧ kitB a U = some c ∧ k (.bl (b || c))
def eIsi2 (T U : String) (ea : EE) : EE := fun env k => ea env fun d => isi2D T U d k
theorem we_isi2 {te : TE} {ee : EE} {T U : String} (h : WO R te ee) : WE R (tCB (rIsiT K) (tCons te (tCons (tTup (tCons (tC (.ty T)) (tCons (tC (.ty U)) tNil))) tNil))) (eIsi2 T U ee) := fun P env σ B H Q k E he q =>
  h P env σ B H _ _ E he fun d v B1 H1 kd s1 E1 r1 => ⟨by show 2 ≤ sizeLine; decide, fun p hp => by
    obtain ⟨a, b, c, h1, h2, h3, hk⟩ := kd
    obtain ⟨s2, E2⟩ := E1.allocU (o := .tup [.ty T, .ty U]) hp
    refine ⟨v, p, [.ty T, .ty U], .type a, [.type T, .type U], b || c, rfl, upd_same, .cons (.ty T) (.cons (.ty U) .nil), ty_of E2.bh (r1.step s2) h1, ?_, q _ _ B1 _ hk (s1.trans E1.pot s2) E2 rp_bl⟩
    refine kitAny_cons (kit_ty h2) (fun hb => kitAny_cons (kit_ty h3) (fun hc => ?_) (fun hc => ?_)) (fun hb => by rw [hb]; rfl)
    · rw [hb, hc]; rfl
    · rw [hb, hc]; rfl⟩
/-! ### written forms -/
def rReprU (K : PySem.W.Frag) : List V → Hp → VK → Prop := fun xs H Q => G8.rRepr K xs H Q ∨ (∃ b, xs = [.bl b] ∧ Q (.str (if b then "True" else "False")) H) ∨ xs = [.non] ∧ Q (.str "None") H
theorem cr_reprU {X : Cx} (hG : X.A.guards = some []) (hu : X.A.units + 64 < cLine) : CallR X (.builtin "repr") (rReprU X.K) := by
  intro pins s σ H xs us Q I r h
  rcases h with h | ⟨b, rfl, q⟩ | ⟨rfl, q⟩
  · exact G8.cr_repr hG hu pins s σ H xs us Q I r h
  · obtain ⟨u, rfl, ru⟩ := vals1 r
    obtain rfl : u = Value.bool b := ru
    exact PySem.P.repr_of_bool ⟨.str _, H, I.tok _, ⟨_, rfl⟩, q⟩
  · obtain ⟨u, rfl, ru⟩ := vals1 r
    obtain rfl : u = Value.none := ru
    exact PySem.P.repr_of_none ⟨.str _, H, I.tok _, ⟨_, rfl⟩, q⟩
/-- what can be written: its depth and its size are within bounds -/
def wrD (d : D) : Prop := isPy d = true ∧ (toPy d).showable = true ∧ (toPy d).hasDict = false ∧ (toPy d).depth ≤ 60 ∧ (toPy d).shown.length ≤ 16777216
def isRef : D → Bool
  | .lst _ => true
  | .tup _ => true
  | _ => false
/-- repr, told by the thing that is written -/
def reprD : D → DK → Prop := fun d k => match d with
  | .bl b => k (.str (if b then "True" else "False"))
  | .non => k (.str "None")
  | .lst l => wrD (.lst l) ∧ k (.str (toPy (.lst l)).shown)
  | .tup l => wrD (.tup l) ∧ k (.str (toPy (.tup l)).shown)
  | _ => False
theorem ud_repr : UnD R (fun x H Q => rReprU K [x] H Q) reprD := fun P B H x a Q k bh po ra hf q => by
  have go : ∀ p, x = .ref p → wrD a → k (.str (toPy a).shown) → rReprU K [x] H Q := fun p e w hk => by
    subst e
    exact .inl ⟨p, toPy a, rfl, dp_w bh ra w.1, w.2.1, w.2.2.1, w.2.2.2.1, by rw [sizeLine_eq]; exact w.2.2.2.2, res_same bh po hk (fun _ => rp_str) q⟩
  cases a with
  | bl b =>
    have := ra.bl
    subst x
    exact .inr (.inl ⟨b, rfl, res_same bh po hf (fun _ => rp_str) q⟩)
  | non =>
    have := ra.non
    subst x
    exact .inr (.inr ⟨rfl, res_same bh po hf (fun _ => rp_str) q⟩)
  | lst l =>
    obtain ⟨p, vs, e, _⟩ := ra.lst bh
    exact go p e hf.1 hf.2
  | tup l =>
    obtain ⟨p, vs, e, _⟩ := ra.tup bh
    exact go p e hf.1 hf.2
  | _ => exact hf.elim
/-! ### a, b = e, f -/
abbrev EM := Env → (SV → Prop) → Prop
def ItOk (R : OR) (P : Option Addr) (B' H' H : Hp) (v : V) : SV → Prop
  | .val d => Rp R B' v d
  | .ml l => ∃ p vs, v = .ref p ∧ H p = none ∧ B' p = none ∧ H' p = some (.lst vs) ∧ RpA R B' vs l
  | _ => False
def WM (R : OR) (te : TE) (em : EM) : Prop := ∀ P env σ B H (Q : VK) k, EnvOk R P env σ B H → em env k → (∀ sv v B' H', k sv → Step P B H B' H' → EnvOk R P env σ B' H' → ItOk R P B' H' H v sv → Q v H') → te σ H Q
def emE (ee : EE) : EM := fun env k => ee env fun d => k (.val d)
def emF (el : EL) : EM := fun env k => el env fun l => k (.ml l)
theorem wm_E {te : TE} {ee : EE} (h : WE R te ee) : WM R te (emE ee) := fun P env σ B H Q k E he q => h P env σ B H _ _ E he fun d v B' H' kd s E' r => q (.val d) v B' H' kd s E' r
theorem wm_F {te : TE} {el : EL} (h : WF R te el) : WM R te (emF el) := fun P env σ B H Q k E he q => h P env σ B H _ _ E he fun l p vs B' H' kl s E' hp hb hh r => q (.ml l) (.ref p) B' H' kl s E' ⟨p, vs, rfl, hp, hb, hh, r⟩
theorem ItOk.step {P : Option Addr} {B H B1 H1 B2 H2 : Hp} {v : V} {sv : SV} (h : ItOk R P B1 H1 H v sv) (po : PotOk P H) (s1 : Step P B H B1 H1) (s2 : Step P B1 H1 B2 H2) : ItOk R P B2 H2 H v sv := by
  cases sv with
  | val d => exact Rp.mono s2.bb d h
  | ml l =>
    obtain ⟨p, vs, r, hp, hb, hh, a⟩ := h
    have nP := fresh_pot po hp
    refine ⟨p, vs, r, hp, ?_, s2.hh _ _ hh nP, a.mono s2.bb l⟩
    cases z : B2 p with
    | none => rfl
    | some o =>
      rcases s2.nw p o z with w | w | w
      · rw [hb] at w; cases w
      · rw [hh] at w; cases w
      · have h1 := s2.bh _ _ z
        rw [s2.hh _ _ hh nP] at h1
        cases h1
        exact w.elim
  | _ => exact h.elim
/-- a slot gets what was made -/
theorem SOk.item {P : Option Addr} {B0 H0 : Hp} {env : Env} {σ : L2.St} {B H : Hp} (S : SOk R P B0 H0 env σ B H) (i : Nat) {v : V} {sv : SV} {Ha : Hp} (h : ItOk R P B H Ha v sv) (h0 : ∀ p, Ha p = none → H0 p = none) (nn : ∀ (j : Nat) (x : SV) (p : Addr), v = .ref p → Ha p = none → env[j]? = some x → isM x = true → σ[j]? ≠ some (some (V.ref p))) (nP : ∀ p, Ha p = none → P ≠ some p) : SOk R P B0 H0 (env.set i sv) (σ.set i (some v)) B H := by
  cases sv with
  | val d => exact S.set i h
  | ml l =>
    obtain ⟨p, vs, rfl, hp, hb, hh, a⟩ := h
    refine ⟨S.e.setM i (fun j x hj m => nn j x p rfl hp hj m) (fun σ' q => ⟨p, vs, q, hh, hb, nP p hp, a⟩), S.s, fun j sv q hj m w => ?_⟩
    by_cases e : i = j
    · subst e
      have hi : i < σ.length := by
        have := (List.getElem?_eq_some_iff.mp w).1
        simpa using this
      rw [List.getElem?_set_self hi] at w
      have : V.ref p = V.ref q := Option.some.inj (Option.some.inj w)
      cases this
      exact h0 p hp
    · rw [List.getElem?_set_ne e] at hj w
      exact S.fr j sv q hj m w
  | _ => exact h.elim
def sPar (i j : Nat) (a b : EM) : ES := fun env k => a env fun x => b env fun y => k.nx ((env.set i x).set j y)
theorem wb_par {ta tb : TE} {a b : EM} {i j : Nat} (ha : WM R ta a) (hb : WM R tb b) : WB R (tPar i j (tCons ta (tCons tb tNil))) (sPar i j a b) := fun P B0 H0 env σ B H D k S he K =>
  ha P env σ B H _ _ S.e he fun x v B1 H1 k1 s1 E1 r1 => hb P env σ B1 H1 _ _ E1 k1 fun y u B2 H2 k2 s2 E2 r2 => by
    have S2 := (S.step s1 E1).step s2 E2
    have h0 : ∀ p, H p = none → H0 p = none := fun p z => fresh_backP S.s.hh (fresh_pot S.e.pot z) z
    have h01 : ∀ p, H1 p = none → H0 p = none := fun p z => h0 p (fresh_backP s1.hh (fresh_pot E1.pot z) z)
    have S3 := S2.item i (r1.step S.e.pot s1 s2) h0 (fun j x p _ hp hj m => S.e.notNew hp j x hj m) (fun p z => fresh_pot S.e.pot z)
    refine ⟨v, u, rfl, K.nx _ _ B2 H2 k2 (S3.item j r2 h01 (fun j' x' p e hp hj m w => ?_) (fun p z => fresh_pot E1.pot z))⟩
    by_cases e2 : i = j'
    · subst e2
      have hi : i < σ.length := by
        have := (List.getElem?_eq_some_iff.mp w).1
        simpa using this
      rw [List.getElem?_set_self hi] at w
      have hv : v = V.ref p := Option.some.inj (Option.some.inj w)
      have hi2 : i < env.length := by rw [← S.e.len]; exact hi
      rw [List.getElem?_set_self hi2] at hj
      cases hj
      cases x with
      | ml l =>
        obtain ⟨p', vs, e3, _, _, hh, _⟩ := r1
        rw [hv] at e3
        cases e3
        rw [hp] at hh
        cases hh
      | val d => cases m
      | _ => exact r1.elim
    · rw [List.getElem?_set_ne e2] at hj w
      exact E1.notNew hp j' x' hj m w
end
end DL
set_option Elab.async false
set_option linter.all false
set_option maxRecDepth 100000
set_option maxHeartbeats 4000000
/-! objects: what they tell, how they are made; calls by keywords; operators of several kinds -/
namespace DL
open PySem PySem.Spec PyProof.Rows L2 TM Pr Ep Nw
open Evl (Ex)
def isCty : D → Bool
  | .ob (.cty _) => true
  | _ => false
def isWeb : D → Bool
  | .ob (.web _ _) => true
  | _ => false
/-- an instance of the class at C -/
def InsOf (R : OR) (C : Addr) (is : D → Bool) (m : Str) : Prop := ∀ H v d, is d = true → Rp R H v d → ∃ a dx fs, v = .ref a ∧ H a = some (.ins C dx fs) ∧ fs.lookup m = none
theorem ins_cty {C CW : Addr} {m : Str} (h : ([("_lanes", ()), ("_around", ()), ("_ahead", ()), ("_yards", ()), ("_gates", ())] : List (Str × Unit)).lookup m = none) : InsOf (oR C CW) C isCty m := fun H v d hd r => by
  cases d with
  | ob o =>
    cases o with
    | cty L =>
      simp only [Rp, oR, oRr] at r
      obtain ⟨p, rfl, ⟨dx, l, d, e, y, g, rs, qs, a, _⟩, _⟩ := r
      exact ⟨p, dx, _, rfl, a, fl_no h⟩
    | web L Bs => cases hd
  | _ => cases hd
theorem ins_web {C CW : Addr} {m : Str} (h1 : ∀ c d : Addr, (wfD c d).lookup m = none) : InsOf (oR C CW) CW isWeb m := fun H v d hd r => by
  cases d with
  | ob o =>
    cases o with
    | web L Bs =>
      simp only [Rp, oR, oRr] at r
      obtain ⟨p, rfl, ⟨dx, c, d, ws, a, _⟩, _⟩ := r
      exact ⟨p, dx, _, rfl, a, h1 c d⟩
    | cty L => cases hd
  | _ => cases hd
section
variable {R : OR} {K : PySem.W.Frag} {C : Addr} {is : D → Bool} {m : Str} {ta tb : TE} {ea eb : EE} {E : XK}
def eProp (is : D → Bool) (ef : List D → (D → Prop) → Prop) (ea : EE) : EE := fun env k => ea env fun d => is d = true ∧ ef [d] k
def ePropF (is : D → Bool) (ef : List D → (List D → Prop) → Prop) (ea : EE) : EL := fun env k => ea env fun d => is d = true ∧ ef [d] k
theorem we_prop {ef : List D → (D → Prop) → Prop} (hC : InsOf R C is m) (h : WE R ta ea) : WE R (tProp C (spE R false 1 ef) [] E ta) (eProp is ef ea) := fun P env σ B H Q k Ev he q =>
  h P env σ B H _ _ Ev he fun d v B1 H1 kd s1 E1 r1 => by
    obtain ⟨a, dx, fs, rfl, ho, _⟩ := hC _ _ _ kd.1 r1
    refine ⟨a, dx, fs, rfl, E1.bh _ _ ho, none, B1, [.ref a], [d], k, .inl ⟨rfl, rfl, rfl⟩, fun _ z => (nomatch z), fun _ z => (nomatch z), E1.bh, .cons r1 .nil, rfl, kd.2, fun d v B2 H2 k2 s2 _ r2 => ?_⟩
    have po := E1.pot.ex s2.ex0
    exact q d v B2 H2 k2 (s1.trans E1.pot s2.of0) (E1.step s2.of0 po) r2
theorem wf_prop {ef : List D → (List D → Prop) → Prop} (hC : InsOf R C is m) (h : WE R ta ea) : WF R (tProp C (spF R false 1 ef) [] E ta) (ePropF is ef ea) := fun P env σ B H Q k Ev he q =>
  h P env σ B H _ _ Ev he fun d v B1 H1 kd s1 E1 r1 => by
    obtain ⟨a, dx, fs, rfl, ho, _⟩ := hC _ _ _ kd.1 r1
    refine ⟨a, dx, fs, rfl, E1.bh _ _ ho, none, B1, [.ref a], [d], k, .inl ⟨rfl, rfl, rfl⟩, fun _ z => (nomatch z), fun _ z => (nomatch z), E1.bh, .cons r1 .nil, rfl, kd.2, fun l p vs' B2 H2 k2 s2 _ hp hb hh r2 => ?_⟩
    have po := E1.pot.ex s2.ex0
    exact q l p vs' B2 H2 k2 (s1.trans E1.pot s2.of0) (E1.step s2.of0 po) (fresh_backP s1.hh (fresh_pot E1.pot hp) hp) hb hh r2
def eMeth (is : D → Bool) (n : Nat) (ef : List D → (D → Prop) → Prop) (ea : EE) (es : EL) : EE := fun env k => ea env fun d => is d = true ∧ es env fun ds => (d :: ds).length = n ∧ ef (d :: ds) k
def eMethF (is : D → Bool) (n : Nat) (ef : List D → (List D → Prop) → Prop) (ea : EE) (es : EL) : EL := fun env k => ea env fun d => is d = true ∧ es env fun ds => (d :: ds).length = n ∧ ef (d :: ds) k
theorem we_meth {n : Nat} {ef : List D → (D → Prop) → Prop} {ts : TA} {es : EL} (hC : InsOf R C is m) (h : WE R ta ea) (hs : WA R ts es) : WE R (tMeth C m (spE R false n ef) [] E ta ts) (eMeth is n ef ea es) := fun P env σ B H Q k Ev he q =>
  h P env σ B H _ _ Ev he fun d v B1 H1 kd s1 E1 r1 => by
    obtain ⟨a, dx, fs, rfl, ho, hm⟩ := hC _ _ _ kd.1 r1
    refine ⟨a, dx, fs, rfl, E1.bh _ _ ho, hm, hs P env σ B1 H1 _ _ E1 kd.2 fun ds vs B2 H2 k2 s2 E2 r2 => ?_⟩
    rw [List.append_nil]
    refine ⟨none, B2, _, d :: ds, k, .inl ⟨rfl, rfl, rfl⟩, fun _ z => (nomatch z), fun _ z => (nomatch z), E2.bh, .cons (r1.mono s2.bb d) r2, k2.1, k2.2, fun d v B3 H3 k3 s3 _ r3 => ?_⟩
    have po := E2.pot.ex s3.ex0
    exact q d v B3 H3 k3 ((s1.trans E1.pot s2).trans E2.pot s3.of0) (E2.step s3.of0 po) r3
theorem wf_meth {n : Nat} {ef : List D → (List D → Prop) → Prop} {ts : TA} {es : EL} (hC : InsOf R C is m) (h : WE R ta ea) (hs : WA R ts es) : WF R (tMeth C m (spF R false n ef) [] E ta ts) (eMethF is n ef ea es) := fun P env σ B H Q k Ev he q =>
  h P env σ B H _ _ Ev he fun d v B1 H1 kd s1 E1 r1 => by
    obtain ⟨a, dx, fs, rfl, ho, hm⟩ := hC _ _ _ kd.1 r1
    refine ⟨a, dx, fs, rfl, E1.bh _ _ ho, hm, hs P env σ B1 H1 _ _ E1 kd.2 fun ds vs B2 H2 k2 s2 E2 r2 => ?_⟩
    rw [List.append_nil]
    refine ⟨none, B2, _, d :: ds, k, .inl ⟨rfl, rfl, rfl⟩, fun _ z => (nomatch z), fun _ z => (nomatch z), E2.bh, .cons (r1.mono s2.bb d) r2, k2.1, k2.2, fun l p vs' B3 H3 k3 s3 _ hp hb hh r3 => ?_⟩
    have po := E2.pot.ex s3.ex0
    have s12 := s1.trans E1.pot s2
    exact q l p vs' B3 H3 k3 (s12.trans E2.pot s3.of0) (E2.step s3.of0 po) (fresh_backP s12.hh (fresh_pot E2.pot hp) hp) hb hh r3
/-! ### calls by keywords alone, the last parameter first -/
def kgRD : List Value → List Value → List Value
  | [], ws => ws.reverse
  | _, _ => []
def kgRVD : List V → List V → List V
  | [], zs => zs.reverse
  | _, _ => []
theorem vals_revD {zs : List V} {ws : List Value} (h : Vals zs ws) : Vals zs.reverse ws.reverse := by
  induction h with
  | nil => exact .nil
  | cons a _ ih =>
    rw [List.reverse_cons, List.reverse_cons]
    exact ih.append (.cons a .nil)
theorem kgRD_rel {vs : List V} {us : List Value} {zs : List V} {ws : List Value} (r1 : Vals vs us) (r2 : Vals zs ws) : Vals (kgRVD vs zs) (kgRD us ws) := by
  cases r1 with
  | nil => exact vals_revD r2
  | cons a r => exact .nil
theorem RpA.revV {B : Hp} {vs : List V} {ds : List D} (h : RpA R B vs ds) : RpA R B vs.reverse ds.reverse := h.rev
def eCallR (n : Nat) (ef : List D → (D → Prop) → Prop) (ea : EL) : EE := fun env k => ea env fun ds => ds.length = n ∧ ef ds.reverse k
def eCallRF (n : Nat) (ef : List D → (List D → Prop) → Prop) (ea : EL) : EL := fun env k => ea env fun ds => ds.length = n ∧ ef ds.reverse k
theorem we_callR {n : Nat} {ef : List D → (D → Prop) → Prop} {tas : TA} {eas : EL} (h : WA R tas eas) : WE R (tCallK (spE R false n ef) kgRVD E tNil tas) (eCallR n ef eas) := fun P env σ B H Q k Ev he q =>
  h P env σ B H _ _ Ev he fun ds vs B1 H1 kd s1 E1 r1 => by
    show spE R false n ef vs.reverse H1 Q E
    refine ⟨none, B1, _, ds.reverse, k, .inl ⟨rfl, rfl, rfl⟩, fun _ z => (nomatch z), fun _ z => (nomatch z), E1.bh, r1.rev, by rw [List.length_reverse]; exact kd.1, kd.2, fun d v B2 H2 k2 s2 _ r2 => ?_⟩
    have po := E1.pot.ex s2.ex0
    exact q d v B2 H2 k2 (s1.trans E1.pot s2.of0) (E1.step s2.of0 po) r2
theorem wf_callR {n : Nat} {ef : List D → (List D → Prop) → Prop} {tas : TA} {eas : EL} (h : WA R tas eas) : WF R (tCallK (spF R false n ef) kgRVD E tNil tas) (eCallRF n ef eas) := fun P env σ B H Q k Ev he q =>
  h P env σ B H _ _ Ev he fun ds vs B1 H1 kd s1 E1 r1 => by
    show spF R false n ef vs.reverse H1 Q E
    refine ⟨none, B1, _, ds.reverse, k, .inl ⟨rfl, rfl, rfl⟩, fun _ z => (nomatch z), fun _ z => (nomatch z), E1.bh, r1.rev, by rw [List.length_reverse]; exact kd.1, kd.2, fun l p vs' B2 H2 k2 s2 _ hp hb hh r2 => ?_⟩
    have po := E1.pot.ex s2.ex0
    exact q l p vs' B2 H2 k2 (s1.trans E1.pot s2.of0) (E1.step s2.of0 po) (fresh_backP s1.hh (fresh_pot E1.pot hp) hp) hb hh r2
/-! ### operators of several kinds -/
def addU : D → D → DK → Prop := fun a b k => match a, b with
  | .int i, .int j => k (.int (i + j))
  | .tup l, .tup m => l.length + m.length ≤ 100000 ∧ k (.tup (l ++ m))
  | .lst l, .lst m => l.length + m.length ≤ 100000 ∧ k (.lst (l ++ m))
  | .str i, .str j => i.length + j.length ≤ 100000 ∧ k (.str (i ++ j))
  | _, _ => False
/-- what is new and under hand becomes known -/
theorem know_res {P : Option Addr} {B H B' H' : Hp} {Q : VK} {k : DK} {p : Addr} {vs : List V} {l : List D} (kl : k (.lst l)) (s : Step P B H B' H') (po : PotOk P H') (hp : H p = none) (hb : B' p = none) (hh : H' p = some (.lst vs)) (r : RpA R B' vs l) (q : ∀ d v B' H', k d → Step P B H B' H' → PotOk P H' → Rp R B' v d → Q v H') : Q (.ref p) H' := by
  have e : Ex B' (upd B' p (.lst vs)) := Ex.new hb
  refine q (.lst l) (.ref p) (upd B' p (.lst vs)) H' kl ⟨s.bb.trans e, fun b o z => ?_, s.hh, fun b o z => ?_⟩ po (rp_lst upd_same (r.mono e l))
  · by_cases n : b = p
    · subst n; rw [upd_same] at z; cases z; exact hh
    · rw [upd_ne n] at z; exact s.bh b o z
  · by_cases n : b = p
    · subst n; exact .inr (.inl hp)
    · rw [upd_ne n] at z; exact s.nw b o z
theorem od_addU : OpD R (rAddU K) addU := fun P B H x y a b Q k bh po ra rb hf q => by
  cases a with
  | lst l =>
    cases b with
    | lst m => exact of_cat (R := R) P B H x y (.lst l) (.lst m) Q (fun l => k (.lst l)) bh po ra rb hf fun l p vs B' H' kl s po' hp hb hh r => know_res kl s po' hp hb hh r q
    | _ => exact (show False from hf).elim
  | int i => cases b <;> first | exact (show False from hf).elim | exact od_add P B H x y _ _ Q k bh po ra rb hf q
  | tup l => cases b <;> first | exact (show False from hf).elim | exact od_add P B H x y _ _ Q k bh po ra rb hf q
  | str i => cases b <;> first | exact (show False from hf).elim | exact od_add P B H x y _ _ Q k bh po ra rb hf q
  | _ => exact (show False from hf).elim
def slU : D → Option Int → Option Int → DK → Prop := fun a lo hi k => match a with
  | .tup l => k (.tup (cutD l lo hi))
  | .lst l => k (.lst (cutD l lo hi))
  | _ => False
theorem sd_slU : SlD R (rSlU K) slU := fun P B H x a lo hi Q k bh po ra hf q => by
  cases a with
  | lst l => exact sf_sl (R := R) P B H x (.lst l) lo hi Q (fun l => k (.lst l)) bh po ra hf fun l p vs B' H' kl s po' hp hb hh r => know_res kl s po' hp hb hh r q
  | tup l => exact sd_sl P B H x _ lo hi Q k bh po ra hf q
  | _ => exact (show False from hf).elim
/-- * -/
def rMulU : R2 := fun x y H Q => rI CMul (fun i j => .int (i * j)) x y H Q ∨ rRep x y H Q
theorem op_mulU {X : Cx} : OpR X (binaryOp .Mult) rMulU := op_mul.or op_rep
def mulU : D → D → DK → Prop := fun a b k => match a, b with
  | .int i, .int j => CMul i j ∧ k (.int (i * j))
  | .lst l, .int n => 0 ≤ n ∧ n ≤ 100000 ∧ l.length * n.toNat ≤ 100000 ∧ k (.lst (List.replicate n.toNat l).flatten)
  | _, _ => False
theorem RpA.rep {B : Hp} {vs : List V} {l : List D} (h : RpA R B vs l) : ∀ n, RpA R B (List.replicate n vs).flatten (List.replicate n l).flatten
  | 0 => .nil
  | n + 1 => by
    rw [List.replicate_succ, List.replicate_succ, List.flatten_cons, List.flatten_cons]
    exact h.app (RpA.rep h n)
def mulF : D → D → (List D → Prop) → Prop := fun a b k => match a, b with
  | .lst l, .int n => 0 ≤ n ∧ n ≤ 100000 ∧ l.length * n.toNat ≤ 100000 ∧ k (List.replicate n.toNat l).flatten
  | _, _ => False
theorem of_mul : OpF R rMulU mulF := fun P B H x y a b Q k bh po ra rb hf q => by
  cases a with
  | lst l =>
    cases b with
    | int n =>
      obtain ⟨p, vs, rfl, hp, al⟩ := ra.lst bh
      have := rb.int
      subst y
      have hf : 0 ≤ n ∧ n ≤ 100000 ∧ l.length * n.toNat ≤ 100000 ∧ k (List.replicate n.toNat l).flatten := hf
      exact .inr ⟨p, n, vs, rfl, rfl, hp, by omega, by omega, Evl.sz_of (by rw [al.len]; exact hf.2.2.1), fun c hc => res_lst bh po hf.2.2.2 (al.rep _) hc q⟩
    | _ => exact hf.elim
  | _ => exact hf.elim
theorem od_mulU : OpD R rMulU mulU := fun P B H x y a b Q k bh po ra rb hf q => by
  cases a with
  | int i =>
    cases b with
    | int j => exact .inl (od_I (R := R) (g := fun i j => .int (i * j)) (fun _ _ _ => rp_int) P B H x y (.int i) (.int j) Q k bh po ra rb hf q)
    | _ => exact (show False from hf).elim
  | lst l =>
    cases b with
    | int n => exact of_mul (R := R) P B H x y (.lst l) (.int n) Q (fun l => k (.lst l)) bh po ra rb hf fun l p vs B' H' kl s po' hp hb hh r => know_res kl s po' hp hb hh r q
    | _ => exact (show False from hf).elim
  | _ => exact (show False from hf).elim
/-- < of ints, of tuples of ints -/
def rLtU (K : PySem.W.Frag) : R2 := fun x y H Q => rI0 (fun i j => .bl (decide (i < j))) x y H Q ∨ rLtT K x y H Q
theorem op_ltU {X : Cx} (hu : X.A.units < cLine) : OpR X (compareOp .Lt) (rLtU X.K) := op_lt.or (op_ltT hu)
def ltU : D → D → DK → Prop := fun a b k => match a, b with
  | .int i, .int j => k (.bl (decide (i < j)))
  | .tup l, .tup m => ∃ ns ms : List Int, l = ns.map D.int ∧ m = ms.map D.int ∧ k (.bl (HT.lexLt ns ms))
  | _, _ => False
theorem od_ltU : OpD R (rLtU K) ltU := fun P B H x y a b Q k bh po ra rb hf q => by
  cases a with
  | int i =>
    cases b with
    | int j => exact .inl (od_lt (R := R) P B H x y (.int i) (.int j) Q k bh po ra rb hf q)
    | _ => exact (show False from hf).elim
  | tup l =>
    cases b with
    | tup m =>
      obtain ⟨ns, ms, rfl, rfl, hk⟩ := hf
      obtain ⟨p, vs, rfl, _, hp, al⟩ := ra.tup bh
      obtain ⟨p', vs', rfl, _, hp', am⟩ := rb.tup bh
      rw [al.ints] at hp
      rw [am.ints] at hp'
      exact .inr ⟨p, p', ns, ms, rfl, rfl, Evl.st_of hp, Evl.st_of hp', res_same bh po hk (fun _ => rp_bl) q⟩
    | _ => exact (show False from hf).elim
  | _ => exact (show False from hf).elim
/-- list(range(..)) -/
def eLr1 (ea : EE) : EL := fun env k => ea env fun d => match d with
  | .int n => n ≤ 100000 ∧ -100000 ≤ n ∧ k (rgD n)
  | _ => False
theorem wf_lr1 (h : WE R ta ea) : WF R (tLstRg (tRg1 ta)) (eLr1 ea) := fun P env σ B H Q k E he q =>
  h P env σ B H _ _ E he fun d v B1 H1 kd s1 E1 r1 => by
    cases d with
    | int n =>
      simp only [Rp] at r1
      subst r1
      have kd : n ≤ 100000 ∧ -100000 ≤ n ∧ k (rgD n) := kd
      refine ⟨n, rfl, ⟨by omega, by omega, by omega, by omega, by omega⟩, fun c hc => ?_⟩
      have e : RpA R B1 (rgV 0 n) (rgD n) := by
        have h1 : rgV 0 n = ((List.range n.toNat).map fun (i : Nat) => (i : Int)).map V.int := by
          unfold rgV
          rw [List.map_map, Int.sub_zero]
          refine List.map_congr_left fun i _ => ?_
          show V.int (0 + (i : Int)) = V.int (i : Int)
          rw [Int.zero_add]
        have h2 : rgD n = ((List.range n.toNat).map fun (i : Nat) => (i : Int)).map D.int := by
          unfold rgD
          rw [List.map_map]
          rfl
        rw [h1, h2]
        exact RpA.ofInts
      refine res_lst (Q := Q) E1.bh E1.pot kd.2.2 e hc fun l p vs B' H' kl s po hp hb hh r => ?_
      exact q l p vs B' H' kl (s1.trans E1.pot s) (E.step (s1.trans E1.pot s) po) (fresh_backP s1.hh (fresh_pot E1.pot hp) hp) hb hh r
    | _ => exact kd.elim
/-- truth of a value -/
def truD : D → Option Bool
  | .non => some false
  | .bl b => some b
  | .int i => some (i != 0)
  | .lst l => some !l.isEmpty
  | .tup l => some !l.isEmpty
  | _ => none
def tTru (K : PySem.W.Frag) (ta : TE) : TT := fun σ H Q => ta σ H fun x H' => ∃ k, TruV K x H' k ∧ Q k H'
def eTru (ea : EE) : EB := fun env k => ea env fun d => ∃ b, truD d = some b ∧ k b
theorem isE {B : Hp} {vs : List V} {l : List D} (r : RpA R B vs l) : vs.isEmpty = l.isEmpty := by
  have := r.len
  cases vs <;> cases l <;> simp at this ⊢
theorem wt_tru (h : WO R ta ea) : WT R (tTru K ta) (eTru ea) := fun P env σ B H Q k E he q =>
  h P env σ B H _ _ E he fun d v B1 H1 kd s1 E1 r1 => by
    obtain ⟨b, hb, hk⟩ := kd
    refine ⟨b, ?_, q b B1 H1 hk s1 E1⟩
    cases d with
    | non => cases hb; rw [r1.non]; rfl
    | bl c => cases hb; rw [r1.bl]; rfl
    | int i => cases hb; rw [r1.int]; rfl
    | lst l =>
      cases hb
      obtain ⟨p, vs, rfl, e, al⟩ := r1.lst E1.bh
      exact .inl ⟨vs, Evl.sq_of e, by rw [isE al]⟩
    | tup l =>
      cases hb
      obtain ⟨p, vs, rfl, _, e, al⟩ := r1.tup E1.bh
      exact .inr (.inl ⟨vs, Evl.st_of e, by rw [isE al]⟩)
    | _ => cases hb
/-- x.index(y) -/
def idxD (l : List D) : D → DK → Prop := fun b k => match b with
  | .int n => ∃ ns : List Int, l = ns.map D.int ∧ n ∈ ns ∧ k (.int (ns.idxOf n : Nat))
  | _ => False
def eIdx (ea eb : EE) : EE := fun env k => ea env fun a => match a with
  | .lst l => eb env fun b => idxD l b k
  | _ => False
theorem eqV_I {i j : Int} : eqV (.int i) (.int j) = (i == j) := rfl
theorem we_idx (h : WO R ta ea) (g : WO R tb eb) : WE R (tBM K "list" (rIndex K) ta (tCons tb tNil)) (eIdx ea eb) := fun P env σ B H Q k E he q =>
  h P env σ B H _ _ E he fun a x B1 H1 k1 s1 E1 r1 => by
    cases a with
    | lst l =>
      obtain ⟨p, vs, rfl, hp, al⟩ := r1.lst E1.bh
      refine ⟨.inl ⟨rfl, _, .inl (.inl hp)⟩, g P env σ B1 H1 _ _ E1 k1 fun b y B2 H2 k2 s2 E2 r2 => ?_⟩
      cases b with
      | int n =>
        obtain ⟨ns, rfl, hn, hk⟩ := k2
        have := r2.int
        subst y
        obtain ⟨p', vs', e, hp', al'⟩ := (r1.step s2).lst E2.bh
        cases e
        rw [al'.ints] at hp'
        have hi : ns.idxOf n < ns.length := List.idxOf_lt_length_of_mem hn
        have fl : (ns.map V.int).all flatV = true := by
          rw [List.all_eq_true]
          intro x hx
          obtain ⟨i, _, rfl⟩ := List.mem_map.mp hx
          rfl
        refine ⟨p, ns.map V.int, .int n, ns.idxOf n, .int n, rfl, rfl, Evl.sq_of hp', rfl, fl, ?_, ?_, fun j z hj hz => ?_, q _ _ B2 H2 hk (s1.trans E1.pot s2) E2 rp_int⟩
        · rw [List.getElem?_map, List.getElem?_eq_getElem hi, List.getElem_idxOf]
          rfl
        · rw [eqV_I]
          simp
        · have hj2 : j < ns.length := by omega
          rw [List.getElem?_map, List.getElem?_eq_getElem hj2] at hz
          cases hz
          rw [eqV_I]
          have first := List.not_of_lt_findIdx (p := (· == n)) (xs := ns) hj
          simpa using first
      | _ => exact (show False from k2).elim
    | _ => exact k1.elim
end
end DL
set_option Elab.async false
set_option linter.all false
set_option maxRecDepth 100000
set_option maxHeartbeats 4000000
/-! comprehensions of two clauses; a country made -/
namespace DL
open PySem PySem.Spec PyProof.Rows L2 TM Pr Ep Nw
open Evl (Ex)
theorem it0 {J : It} {n : Nat} {G : Hp → Prop} {Y : Nat → Hp → V → Hp → Prop} (w : Walk J n G Y) {H1 : Hp} {Qd : Hp → Prop} {Body : V → Hp → (Hp → Prop) → Prop} (Pv : Nat → Hp → Prop) (h0 : Pv 0 H1) (hG : ∀ i H, i ≤ n → Pv i H → G H)
    (hs : ∀ i x H H', i < n → Pv i H → Y i H x H' → Body x H' (Pv (i + 1))) (hd : ∀ H, Pv n H → Qd H) :
    ∃ W : Nat → Nat → Hp → Prop, (∃ m, W 0 m H1) ∧ ∀ i m H, W i m H → (J.stop i H ∧ Qd H) ∨ (J.go i H ∧ ∃ Nx : Hp → Prop, (∀ H', Nx H' → ∃ m', m' < m ∧ W (i + 1) m' H') ∧ ∀ x H', J.yld i H x H' → Body x H' Nx) := by
  refine ⟨fun i m H => m = n - i ∧ i ≤ n ∧ Pv i H, ⟨n, by simp, Nat.zero_le _, h0⟩, ?_⟩
  rintro i m H ⟨rfl, hi, p⟩
  have q := hG i H hi p
  by_cases hlt : i < n
  · exact .inr ⟨w.goes i H hlt q, Pv (i + 1), fun H' p' => ⟨n - (i + 1), by omega, rfl, hlt, p'⟩, fun x H' y => hs i x H H' hlt p (w.yields i H x H' hlt q y)⟩
  · have e : i = n := by omega
    subst e
    exact .inl ⟨w.stops H q, hd H p⟩
theorem EnvOk.off {R : OR} {P : Option Addr} {env : Env} {σ : L2.St} {B H : Hp} (E : EnvOk R P env σ B H) {D : Addr} {o : HO} (hb : B D = none) (nP : P ≠ some D) (nd0 : ∀ (i : Nat) (sv : SV) (q : Addr), env[i]? = some sv → isM sv = true → σ[i]? = some (some (V.ref q)) → q ≠ D) : EnvOk R P env σ B (upd H D o) where
  len := E.len
  bh := Ex.mut E.bh hb
  pot := fun p hp => by
    obtain ⟨a, c, h, r⟩ := E.pot p hp
    exact ⟨a, c, by rw [upd_ne (fun w => nP (by rw [hp, w]))]; exact h, r⟩
  pb := E.pb
  nd := E.nd
  sl := fun i sv h => by
    have z := E.sl i sv h
    cases sv with
    | un => trivial
    | val d => exact z
    | pot => exact z
    | ml l =>
      obtain ⟨q, vs, a, b, c⟩ := z
      exact ⟨q, vs, a, by rw [upd_ne (nd0 i _ q h rfl a)]; exact b, c⟩
    | mt ks l =>
      obtain ⟨q, vs, a, b, c⟩ := z
      exact ⟨q, vs, a, by rw [upd_ne (nd0 i _ q h rfl a)]; exact b, c⟩
    | mk ks l =>
      obtain ⟨q, vs, a, b, c⟩ := z
      exact ⟨q, vs, a, by rw [upd_ne (nd0 i _ q h rfl a)]; exact b, c⟩
def lcGo2 (f : D → (List D → Prop) → Prop) : List D → (List D → Prop) → Prop
  | [], k => k []
  | x :: xs, k => f x fun ys => lcGo2 f xs fun zs => k (ys ++ zs)
def eLc2F (eg : EG) (et : EB) (ei1 : EL) (eg1 : EG) (et1 : EB) (ee : EE) (vs1 : List Nat) (env : Env) : D → (List D → Prop) → Prop := fun x kk => eg x env fun env1 => et env1 fun b => if b = true then ei1 env1 fun us => us.length ≤ 300 ∧ lcGo (eLcF eg1 et1 ee (wipeE env1 vs1)) us kk else kk []
def eLc2 (ei : EL) (eg : EG) (et : EB) (ei1 : EL) (eg1 : EG) (et1 : EB) (ee : EE) (vs vs1 : List Nat) : EL := fun env k => ei env fun xs => xs.length ≤ 300 ∧ lcGo2 (eLc2F eg et ei1 eg1 et1 ee vs1 (wipeE env vs)) xs k
section
variable {R : OR} {K : PySem.W.Frag} {te : TE} {ee : EE}
theorem wf_lc2 {wi wi1 : TI} {ei ei1 : EL} {g g1 : TG} {eg eg1 : EG} {ts vs ts1 vs1 : List Nat} {tt tt1 : TT} {et et1 : EB} (hi : WI R wi ei) (hg : WG R ts g eg) (hv : ∀ i ∈ ts, i ∈ vs) (ht : WT R tt et) (hi1 : WI R wi1 ei1) (hg1 : WG R ts1 g1 eg1) (hv1 : ∀ i ∈ ts1, i ∈ vs1) (ht1 : WT R tt1 et1) (hee : WE R te ee) :
    WF R (tLc2 wi g tt wi1 g1 tt1 te vs vs1) (eLc2 ei eg et ei1 eg1 et1 ee vs vs1) := fun P env σ B H Q k E he q => by
  refine hi P env σ B H _ _ E he fun xs J n G B1 H1 hx s1 E1 hn hG hW D hD => ?_
  have nP : P ≠ some D := fresh_pot E1.pot hD
  have bD : B1 D = none := Evl.fresh_back E1.bh hD
  have hD0 : H D = none := fresh_backP s1.hh nP hD
  have keep : ∀ {Bx By Hx Hy : Hp} {us : List V}, Step P Bx Hx By Hy → Bx D = none → Hx D = some (.lst us) → By D = none ∧ Hy D = some (.lst us) := fun {Bx By Hx Hy us} s b h => by
    refine ⟨?_, s.hh _ _ h nP⟩
    cases z : By D with
    | none => rfl
    | some o =>
      rcases s.nw D o z with w | w | w
      · rw [b] at w; cases w
      · rw [h] at w; cases w
      · have h1 := s.bh _ _ z
        rw [s.hh _ _ h nP] at h1
        cases h1
        exact w.elim
  let F := eLc2F eg et ei1 eg1 et1 ee vs1 (wipeE env vs)
  -- what holds between two turns, of the one walk and of the other
  let Pv : Nat → Hp → Prop := fun i H' => ∃ B' done ws, H' D = some (.lst ws) ∧ B' D = none ∧ RpA R B' ws done ∧ Step P B1 H1 B' H' ∧ PotOk P H' ∧ done.length ≤ i * 300 ∧ lcGo2 F (xs.drop i) (fun ys => k (done ++ ys))
  have E1s : ∀ {B' H'}, Step P B1 H1 B' H' → PotOk P H' → EnvOk R P env σ B' H' := fun s po => E1.step s po
  have app : ∀ {B4 H4 : Hp} {ws : List V} {done : List DL.D} {v : V} {z : DL.D}, Step P B1 H1 B4 H4 → PotOk P H4 → B4 D = none → H4 D = some (.lst ws) → RpA R B4 ws done → Rp R B4 v z → Step P B1 H1 B4 (upd H4 D (.lst (ws ++ [v]))) ∧ PotOk P (upd H4 D (.lst (ws ++ [v]))) ∧ RpA R B4 (ws ++ [v]) (done ++ [z]) := fun {B4 H4 ws done v z} st po b4 d4 hr r4 => by
    refine ⟨⟨st.bb, fun b o h => ?_, fun b o h n => ?_, st.nw⟩, fun p hp => ?_, hr.app (.cons r4 .nil)⟩
    · rw [upd_ne (fun w => by rw [w, b4] at h; cases h)]
      exact st.bh b o h
    · rw [upd_ne (fun w => by rw [w, hD] at h; cases h)]
      exact st.hh b o h n
    · obtain ⟨a, c, h, r⟩ := po p hp
      exact ⟨a, c, by rw [upd_ne (fun w => nP (by rw [hp, w]))]; exact h, r⟩
  refine it0 (Body := fun x H' Nx => g x (wipe σ vs) H' fun σ2 H2 => wipe σ2 vs = wipe σ vs ∧ tt σ2 H2 fun b H3 => if b = true then wi1 σ2 H3 fun J1 H4 => ∃ W1 : Nat → Nat → Hp → Prop, (∃ m, W1 0 m H4) ∧ ∀ j k H, W1 j k H →
      (J1.stop j H ∧ Nx H) ∨ (J1.go j H ∧ ∃ Nx1 : Hp → Prop, (∀ H', Nx1 H' → ∃ k', k' < k ∧ W1 (j + 1) k' H') ∧ ∀ x H', J1.yld j H x H' → g1 x (wipe σ2 vs1) H' fun σ3 H5 => wipe σ3 vs1 = wipe σ2 vs1 ∧ tt1 σ3 H5 fun b H6 =>
        if b = true then te σ3 H6 fun y H7 => ∃ acc, H7 D = some (.lst acc) ∧ acc.length < sizeLine ∧ Nx1 (upd H7 D (.lst (acc ++ [y]))) else Nx1 H6) else Nx H3) hW Pv ?_ ?_ ?_ ?_
  · obtain ⟨s0, E0⟩ := E1.allocU (o := .lst []) hD
    exact ⟨B1, [], [], upd_same, bD, .nil, s0, E0.pot, Nat.zero_le _, hx.2⟩
  · rintro i H' _ ⟨B', done, ws, hd, hbd, hr, s, po, hl, hk⟩
    exact hG _ (s.bb.trans s.bh)
  · rintro i x Ha Hb hin ⟨B', done, ws, hd, hbd, hr, s, po, hl, hk⟩ y
    obtain ⟨d, B2, hxd, s2, E2, rx⟩ := yd_at (E1s s po) (y.mono s.bb)
    rw [drop_cons hxd] at hk
    obtain ⟨b2, d2⟩ := keep s2 hbd hd
    refine hg P _ _ B2 Hb x d _ _ (E2.wipe vs) rx hk fun env' σ' k' E3 w3 sm nm => ⟨?_, ?_⟩
    · rw [w3 vs hv]
      exact wipe_wipe σ vs
    · refine ht P env' σ' B2 Hb _ _ E3 k' fun b B3 H3 k3 s3 E4 => ?_
      obtain ⟨b3, d3⟩ := keep s3 b2 d2
      have s23 := s2.trans E2.pot s3
      have st3 := s.trans po s23
      -- the list that is made is none of the slots' own
      have nd0 : ∀ (i : Nat) (sv : SV) (q : Addr), env'[i]? = some sv → isM sv = true → σ'[i]? = some (some (V.ref q)) → q ≠ D := fun i sv q h m a e => by
        have n : i ∉ ts := fun z => by rw [nm i z sv h] at m; cases m
        rw [(sm i n).1] at h
        rw [(sm i n).2] at a
        have z := (E1.wipe vs).sl i sv h
        have go : ∀ (q' : Addr) (o : HO), (L2.wipe σ vs)[i]? = some (some (V.ref q')) → H1 q' = some o → False := fun q' o a' b => by
          rw [a] at a'
          cases a'
          rw [e, hD] at b
          cases b
        cases sv with
        | ml l =>
          obtain ⟨q', ws, a', b, _⟩ := z
          exact go q' _ a' b
        | mt ks l =>
          obtain ⟨q', ws, a', b, _⟩ := z
          exact go q' _ a' b
        | mk ks l =>
          obtain ⟨q', ws, a', b, _⟩ := z
          exact go q' _ a' b
        | _ => cases m
      cases b with
      | false =>
        refine iteF ?_
        rw [if_neg (by decide)] at k3
        exact ⟨B3, done, ws, d3, b3, hr.mono s23.bb done, st3, E4.pot, by rw [Nat.succ_mul]; omega, k3⟩
      | true =>
        refine iteT ?_
        rw [if_pos rfl] at k3
        refine hi1 P env' σ' B3 H3 _ _ E4 k3 fun us J1 n1 G1 B4 H4 hu s4 E5 hn1 hG1 hW1 => ?_
        obtain ⟨b4, d4⟩ := keep s4 b3 d3
        have st4 := st3.trans E4.pot s4
        have e4 := (s23.trans E4.pot s4).bb
        refine it0 (Body := fun x H' Nx1 => g1 x (wipe σ' vs1) H' fun σ3 H5 => wipe σ3 vs1 = wipe σ' vs1 ∧ tt1 σ3 H5 fun b H6 => if b = true then te σ3 H6 fun y H7 => ∃ acc, H7 D = some (.lst acc) ∧ acc.length < sizeLine ∧ Nx1 (upd H7 D (.lst (acc ++ [y]))) else Nx1 H6) hW1
          (fun j H' => ∃ B' more ws', H' D = some (.lst ws') ∧ B' D = none ∧ RpA R B' ws' (done ++ more) ∧ Step P B1 H1 B' H' ∧ Ex B4 B' ∧ PotOk P H' ∧ EnvOk R P env' σ' B' H' ∧ more.length ≤ j ∧ lcGo (eLcF eg1 et1 ee (wipeE env' vs1)) (us.drop j) (fun ys => lcGo2 F (xs.drop (i + 1)) fun zs => k (done ++ ((more ++ ys) ++ zs)))) ?_ ?_ ?_ ?_
        · exact ⟨B4, [], ws, d4, b4, by rw [List.append_nil]; exact hr.mono e4 done, st4, Ex.refl _, E5.pot, E5, Nat.le_refl _, hu.2⟩
        · rintro j H' _ ⟨B', more, ws', hd', hbd', hr', s', ex', _, _, _, _⟩
          exact hG1 _ (ex'.trans s'.bh)
        · rintro j x1 Hc Hd hj ⟨B5, more, ws', hd5, hbd5, hr5, s5, ex5, po5, E6, hl5, hk5⟩ y1
          obtain ⟨d1, B6, hxd1, s6, E7, rx1⟩ := yd_at E6 (y1.mono ex5)
          rw [drop_cons hxd1] at hk5
          obtain ⟨b6, d6⟩ := keep s6 hbd5 hd5
          refine hg1 P _ _ B6 Hd x1 d1 _ _ (E7.wipe vs1) rx1 hk5 fun env3 σ3 k6 E8 w8 _ _ => ⟨?_, ?_⟩
          · rw [w8 vs1 hv1]
            exact wipe_wipe σ' vs1
          · refine ht1 P env3 σ3 B6 Hd _ _ E8 k6 fun b B7 H7 k7 s7 E9 => ?_
            obtain ⟨b7, d7⟩ := keep s7 b6 d6
            have s67 := s6.trans E7.pot s7
            have st7 := s5.trans po5 s67
            cases b with
            | true =>
              refine iteT ?_
              refine hee P env3 σ3 B7 H7 _ _ E9 (by rw [if_pos rfl] at k7; exact k7) fun z v B8 H8 k8 s8 E10 r8 => ?_
              obtain ⟨b8, d8⟩ := keep s8 b7 d7
              have s68 := s67.trans E9.pot s8
              have st8 := s5.trans po5 s68
              obtain ⟨a1, a2, a3⟩ := app st8 E10.pot b8 d8 (hr5.mono s68.bb _) r8
              refine ⟨ws', d8, ?_, B8, more ++ [z], ws' ++ [v], upd_same, b8, by rw [← List.append_assoc]; exact a3, a1, ex5.trans s68.bb, a2, ?_, by simp; omega, ?_⟩
              · have e1 := hr5.len
                have h1 := hx.1
                have h2 := hu.1
                have : i * 300 ≤ 299 * 300 := Nat.mul_le_mul_right _ (by omega)
                rw [List.length_append] at e1
                exact Evl.sz_lt (by omega)
              · exact (E6.step s68 E10.pot).off b8 nP nd0
              · have k9 : lcGo (eLcF eg1 et1 ee (wipeE env' vs1)) (us.drop (j + 1)) fun ys => lcGo2 F (xs.drop (i + 1)) fun zs => k (done ++ ((more ++ ((some z).toList ++ ys)) ++ zs)) := k8
                simpa [List.append_assoc] using k9
            | false =>
              refine iteF ?_
              have k9 : lcGo (eLcF eg1 et1 ee (wipeE env' vs1)) (us.drop (j + 1)) fun ys => lcGo2 F (xs.drop (i + 1)) fun zs => k (done ++ ((more ++ ((none : Option DL.D).toList ++ ys)) ++ zs)) := by rw [if_neg (by decide)] at k7; exact k7
              exact ⟨B7, more, ws', d7, b7, hr5.mono s67.bb _, st7, ex5.trans s67.bb, E9.pot, E6.step s67 E9.pot, by omega, by simpa using k9⟩
        · rintro H' ⟨B', more, ws', hd', hbd', hr', s', ex', po', E', hl', hk'⟩
          rw [← hn1, List.drop_length] at hk'
          have hk2 : lcGo2 F (xs.drop (i + 1)) fun zs => k (done ++ ((more ++ []) ++ zs)) := hk'
          refine ⟨B', done ++ more, ws', hd', hbd', hr', s', po', ?_, ?_⟩
          · rw [List.length_append, Nat.succ_mul]
            have := hu.1
            omega
          · simpa [List.append_assoc] using hk2
  · rintro H' ⟨B', done, ws, hd, hbd, hr, s, po, hl, hk⟩
    rw [← hn, List.drop_length] at hk
    have hk : k (done ++ []) := hk
    rw [List.append_nil] at hk
    have st := s1.trans E1.pot s
    exact q done D ws B' H' hk st (E.step st po) hD0 hbd hd hr
end
end DL
theorem L2.Room.u65 {k : Nat} {A : PySem.Around} (r : L2.Room k A) : A.units + 65 < PySem.cLine := by have := r.un; omega
set_option Elab.async false
set_option linter.all false
set_option maxRecDepth 100000
set_option maxHeartbeats 4000000
/-! a dict comprehension whose keys are tuples -/
namespace DC
open PySem PySem.Spec PyProof.Rows L2
section
variable {X : Cx}
theorem set_tup {pins : List (Addr × Obj)} {σ : L2.St} {G : Hp} {s : Shared} {E : Value → Shared → Prop} {Q : Unit → Shared → Prop} {D b : Addr} {kvs : List (List Key × V)} {k : List Key} {v : V} {r : Value}
    (hu : X.A.units + 1 < cLine) (I : Inv X pins σ G s) (eD : G D = some (.dT kvs)) (eb : G b = some (.tup (k.map kV))) (few : kvs.length < sizeLine) (rv : RelV v r)
    (go : ∀ t, Inv X pins σ (upd G D (.dT (putK kvs k v))) t → Q () t) : wpAny (model X.prog X.w) X.A (dictSet D (.ref b) r) Q E s := by
  obtain ⟨z, off, es, pr, isd⟩ := dt_of I.hok eD
  have lenA : es.length ≤ sizeLine := (Paired.length pr) ▸ z
  have lenB : (putK kvs k v).length ≤ sizeLine := Nat.le_trans (length_putK kvs k v) few
  refine wpAny_dictSet_heap (hsz := lenA) (Nat.lt_of_succ_lt hu) (key_of I.hok eb) isd fun h2 isd2 rest => go _ ?_
  obtain ⟨o2, ent, used, at2, b2, b3, b4, b5⟩ := isd2
  have nb : b ≠ D := ne_of eb eD fun y => nomatch y
  refine d_write I (eD ▸ True.intro) rest ⟨o2, at2⟩ ⟨lenB, off, _, (pr.put k eb rv).keeps fun c ys ec => ?_, o2, ent, used, at2, b2, b3, b4, b5.2⟩
  rw [upd_ne (ne_of ec eD fun y => nomatch y)]
  exact ec
/-- what one turn of the walk asks: D is the dict that is made -/
def turnT (D : Addr) (g : TG) (tt : TT) (tk tv : TE) (vs : List Nat) (σ : L2.St) (Nx : Hp → Prop) (x : V) (Hx : Hp) : Prop :=
  g x (wipe σ vs) Hx fun σg Hg => wipe σg vs = wipe σ vs ∧ tt σg Hg fun ok Ht => if ok = true then tk σg Ht fun y Hk => tv σg Hk fun z Hv =>
    ∃ kvs k b, y = .ref b ∧ Hv b = some (.tup (k.map kV)) ∧ Hv D = some (.dT kvs) ∧ kvs.length < sizeLine ∧ Nx (upd Hv D (.dT (putK kvs k z))) else Nx Ht
def tDcT (wi : TI) (g : TG) (tt : TT) (tk tv : TE) (vs : List Nat) : TE := fun σ H Q => wi σ H fun J Ha => ∀ D, Ha D = none → ∃ W : Nat → Nat → Hp → Prop, (∃ m, W 0 m (upd Ha D (.dT []))) ∧ ∀ i m Hi, W i m Hi →
  (J.stop i Hi ∧ Q (.ref D) Hi) ∨ (J.go i Hi ∧ ∃ Nx : Hp → Prop, (∀ Hn, Nx Hn → ∃ m2, m2 < m ∧ W (i + 1) m2 Hn) ∧ ∀ x Hx, J.yld i Hi x Hx → turnT D g tt tk tv vs σ Nx x Hx)
/-- the walk, in the block's own context -/
theorem loopT {sb : Shared} {Hb : Hp} {scope : Scope} {ce : Env} {fp : List Addr} {kx vx tg iter : Expr} {ifs : List Expr} {pos : Pos} {g : TG} {tt : TT} {tk tv : TE} {vs : List Nat} {σ : L2.St} {J : It} {it D : Addr} {tn : Nat → Heap → Prop} {W : Nat → Nat → Hp → Prop} {Qd : Hp → Prop} {R : Result → Shared → Prop} {m0 : Nat} {s0 : Shared}
    (hu : X.A.units + 1 < cLine) (hc : X.calm = true) (T : Turn X.prog X.w X.K tg J fp it tn) (pg : PG (X.blk sb Hb scope ce fp) tg g) (pt : PTs (X.blk sb Hb scope ce fp) ifs tt) (pk : PE (X.blk sb Hb scope ce fp) kx tk) (pv : PE (X.blk sb Hb scope ce fp) vx tv)
    (turn : ∀ i m Hi, W i m Hi → (J.stop i Hi ∧ Qd Hi) ∨ (J.go i Hi ∧ ∃ Nx : Hp → Prop, (∀ Hn, Nx Hn → ∃ m2, m2 < m ∧ W (i + 1) m2 Hn) ∧ ∀ x Hx, J.yld i Hi x Hx → turnT D g tt tk tv vs σ Nx x Hx))
    (out : ∀ Hs ss, Inv (X.blk sb Hb scope ce fp) [] (wipe σ vs) Hs ss → Qd Hs → R (.ok .next) ss)
    (I0 : Inv (X.blk sb Hb scope ce fp) [] (wipe σ vs) Hb s0) (t0 : tn 0 s0.heap) (n0 : ∀ b ∈ fp, Hb b = none) (w0 : W 0 m0 Hb) :
    codeAny (model X.prog X.w) X.A (.compLoop (.DictComp kx vx [⟨tg, iter, ifs, 0⟩] scope pos) 0 (.ref it) (.ref D) ce) R s0 := by
  have own : ∀ {σ' : L2.St} {H' : Hp} {s' : Shared}, Inv (X.blk sb Hb scope ce fp) [] σ' H' s' → (∀ b ∈ fp, H' b = none) → ∀ b ∈ fp, FpOk (X.blk sb Hb scope ce fp) [] H' b := fun J' off b m =>
    ⟨off b m, (J'.ok.exf b m).1, J'.ok.exfs b m, .inl m, fun y c e => (J'.ok.exf b m).2 y c e, fun p m => nomatch (show p ∈ ([] : List (Addr × Obj)) from (List.append_nil [] ▸ m : p ∈ ([] : List (Addr × Obj))))⟩
  refine compLoop_anyD (fun n t => ∃ i Hi, Inv (X.blk sb Hb scope ce fp) [] (wipe σ vs) Hi t ∧ tn i t.heap ∧ (∀ b ∈ fp, Hi b = none) ∧ W i n Hi) ?_ m0 ⟨0, Hb, I0, t0, n0, w0⟩
  intro n s1 ⟨i, H1, I1, t1, n1, w1⟩
  rcases turn i n H1 w1 with ⟨stop, qd⟩ | ⟨go, Nx, less, step⟩
  · refine thnF (T.done (X.blk sb Hb scope ce fp) rfl rfl rfl hc i [] s1 _ H1 (fun _ _ => False) I1 (own I1 n1) t1 stop) fun r s2 h2 => ?_
    rw [h2.1]
    exact out _ _ h2.2 qd
  refine thnF (T.item (X.blk sb Hb scope ce fp) rfl rfl rfl hc i [] s1 _ H1 (fun _ _ => False) I1 (own I1 n1) t1 go) fun r s2 ⟨u, er, h2⟩ => ?_
  rw [er]
  refine thnF h2 fun _ s3 ⟨x, H3, I3, r3, y3, t3, n3⟩ => ?_
  -- the iterator's own things stay as they are while the turn runs
  have P3 := I3.pinned (own I3 n3) (T.obj _ _ t3)
  refine thnF (pg.run _ s3 _ H3 x u _ P3 r3 (step x H3 y3)) fun _ s4 ⟨σ4, H4, I4, e4, q4⟩ => ?_
  refine thnF (pt.run _ s4 σ4 H4 _ I4 q4) fun ok s5 ⟨H5, I5, q5⟩ => ?_
  have len : (wipe σ vs).length = σ4.length := by
    rw [← e4]
    exact wipe_length _ _
  have next : ∀ {s' : Shared} {H' : Hp}, Inv (X.blk sb Hb scope ce fp) ([] ++ pinsAt fp s3.heap) σ4 H' s' → Nx H' → ∃ m, m < n ∧ ∃ j Hj, Inv (X.blk sb Hb scope ce fp) [] (wipe σ vs) Hj s' ∧ tn j s'.heap ∧ (∀ b ∈ fp, Hj b = none) ∧ W j m Hj := fun {s' H'} I' nx => by
    obtain ⟨m2, lt, w2⟩ := less H' nx
    have stay : ∀ b ∈ fp, ∀ o, s3.heap.get? b = some o → s'.heap.get? b = some o ∧ H' b = none := fun b m o e => by
      have z := I'.pin (b, o) (List.mem_append_right _ (List.mem_append_right _ (mem_pinsAt m e)))
      exact ⟨z.1, z.2.1⟩
    refine ⟨m2, lt, i + 1, H', I'.unpinned.weak len fun j v e => ?_, T.keep _ _ _ t3 fun b m o e => (stay b m o e).1, fun b m => ?_, w2⟩
    · rw [← e4] at e
      exact (wipe_some e).1
    · exact (T.obj _ _ t3 b m).elim fun o e => (stay b m o e.1).2
  cases ok with
  | false =>
    rw [if_neg (by decide)] at q5 ⊢
    exact next I5 q5
  | true =>
    rw [if_pos rfl] at q5 ⊢
    refine thnF (pk.run _ s5 σ4 H5 _ I5 q5) fun a s6 ⟨y, H6, I6, r6, q6⟩ => thnF (pv.run _ s6 σ4 H6 _ I6 q6) fun c s7 ⟨z, H7, I7, r7, kvs, k, b, ey, eb, eD, few, nx⟩ => ?_
    rw [ey] at r6
    cases (show a = Value.ref b from r6)
    exact set_tup (X := X.blk sb Hb scope ce fp) hu I7 eD eb few r7 fun s8 I8 => next I8 nx
theorem pe_dcT {kx vx tg iter : Expr} {ifs : List Expr} {scope : Scope} {own : List (Str × Nat)} {pos : Pos} {wi : TI} {g : TG} {tt : TT} {tk tv : TE} (hu : X.A.units + 1 < cLine) (hc : X.calm = true) (hN : X.N.Nodup) (hi : PI X tg iter wi) (bo : BlkOk X.N X.env.scope scope own)
    (hg : ∀ s H C cl fp, PG (X.blk s H scope (compEnvC scope cl C X.env) fp) tg g) (ht : ∀ s H C cl fp, PTs (X.blk s H scope (compEnvC scope cl C X.env) fp) ifs tt)
    (hk : ∀ s H C cl fp, PE (X.blk s H scope (compEnvC scope cl C X.env) fp) kx tk) (he : ∀ s H C cl fp, PE (X.blk s H scope (compEnvC scope cl C X.env) fp) vx tv) (hs : ∀ x, foldedSetIterable iter X.env x = pure x := by intro _; rfl) :
    PE X (.DictComp kx vx [⟨tg, iter, ifs, 0⟩] scope pos) (tDcT wi g tt tk tv (own.map (·.2))) := ⟨fun pins s σ H Q I h => by
  rw [arm_eval_DictComp]
  have seen : ∀ y ∈ scope.names, y.2 = .free → ∃ c, X.env.cells.lookup y.1 = some c := fun y hy e =>
    I.ok.has _ <| (bo.free y hy e).elim (fun k => .inl k) fun k => .inr k
  refine wpAny_comprehension_free rfl hs (closure_ok seen) bo.kind (fun y hy e => by rw [bo.uniq y hy, e]) (thn (hi.run pins s σ H _ I h) fun _ _ hx => thn hx fun _ sa ha => ?_)
  obtain ⟨it, fp, tn, J, Ha, rfl, Ia, T, ta, fa, q⟩ := ha
  refine wpAny_newObj_type (newEnv_comp ?_)
  have newD : Ha sa.heap.objs.size = none := Ia.hok.fresh (Nat.le_refl _)
  obtain ⟨W, ⟨m0, w0⟩, turn⟩ := q _ newD
  have below : ∀ b ∈ fp, b < sa.heap.objs.size := fun b hb => (T.obj _ _ ta b hb).elim fun o e => Heap.lt_size e.1
  have big := Heap.size_push sa.heap { cls := .type "dict", data := .dict #[] }
  have kept : ∀ b o, sa.heap.get? b = some o → (sa.heap.push { cls := .type "dict", data := .dict #[] }).get? b = some o := fun b o e => Heap.get?_push_of_some _ e
  have Ib : Inv X pins σ (upd Ha sa.heap.objs.size (.dT [])) { sa with heap := sa.heap.push { cls := .type "dict", data := .dict #[] } } := Ia.laid (t' := sa.toks) kept (Nat.le_refl _) (dt_empty sa.heap Ia.big)
  have fb : ∀ b ∈ fp, FpOk X pins (upd Ha sa.heap.objs.size (.dT [])) b ∧ b < (sa.heap.push { cls := .type "dict", data := .dict #[] }).objs.size := fun b m =>
    ⟨⟨(upd_ne (Nat.ne_of_lt (below b m))).trans (fa b m).1, (fa b m).2⟩, by rw [big]; exact Nat.lt_succ_of_lt (below b m)⟩
  have tb := T.keep _ _ _ ta fun b _ o e => kept b o e
  have Ic := block_start Ib bo hN fb
  have td := T.keep _ _ _ tb fun b _ o e => pushCells_keeps scope.names _ b o (Heap.get?_push_of_some { cls := .type "dict", data := .dict #[] } e)
  have walk := loopT (R := compPost (model X.prog X.w) X.A X.xe none (fun v t => ∃ x H1, Inv X pins σ H1 t ∧ RelV x v ∧ Q x H1) (.ref sa.heap.objs.size) (sa.heap.push { cls := .type "dict", data := .dict #[] }).objs.size) (kx := kx) (vx := vx) (iter := iter) (pos := pos) hu hc T (hg _ _ _ _ fp) (ht _ _ _ _ fp) (hk _ _ _ _ fp) (he _ _ _ _ fp) turn (fun Hs ss Is qd => ?_) Ic td (fun b m => (fb b m).1.1) w0
  · exact codeAny_compStart_dict walk (T.self X.A 0 _ _ _ td walk)
  · have If : Inv X pins σ Hs ss := Ib.call' (ch := fp) Is.os Is.base Is.hok Is.bare fun b m => ⟨(fb b m).1.2.2.2.1, (fb b m).1.2.1, (fb b m).1.2.2.2.2.1, (fb b m).1.2.2.2.2.2⟩
    obtain ⟨names, at_, _⟩ := Is.loc
    obtain ⟨f0, f1, f2, f3, f4, f5⟩ := Ib.fpOk (H' := Hs) (Nat.le_refl _) Is.free
    exact ⟨names, at_, fun h2 same => ⟨.ref sa.heap.objs.size, Hs, If.turned (t' := ss.toks) (fun b o nb e => (same.2 b nb).trans e) f0 f1 f3 f4 f5, rfl, qd⟩⟩⟩
end
end DC
set_option Elab.async false
set_option linter.all false
set_option maxRecDepth 100000
set_option maxHeartbeats 4000000
/-! dicts whose keys are tuples; defs that hand back a new list or something else; names known for a while -/
namespace DL
open PySem PySem.Spec PyProof.Rows L2
open Evl (Ex)
def keyD : D → Option Key
  | .int i => some (.inl i)
  | .str s => some (.inr s)
  | _ => none
def keysA : List D → Option (List Key)
  | [] => some []
  | d :: ds => match keyD d, keysA ds with
    | some k, some ks => some (k :: ks)
    | _, _ => none
def keysD : D → Option (List Key)
  | .tup l => keysA l
  | _ => none
section
variable {R : OR} {K : PySem.W.Frag}
theorem key_rp {B : Hp} {v : V} {d : D} {k : Key} (h : keyD d = some k) (r : Rp R B v d) : v = kV k := by
  cases d <;> simp only [keyD, Option.some.injEq, reduceCtorEq] at h <;> subst h <;> simp only [Rp] at r <;> exact r
theorem keysA_rp {B : Hp} : ∀ {vs : List V} {ds : List D} {ks : List Key}, keysA ds = some ks → RpA R B vs ds → vs = ks.map kV
  | [], [], ks, h, _ => by
    cases h
    rfl
  | v :: vs, d :: ds, ks, h, r => by
    simp only [RpA] at r
    simp only [keysA] at h
    cases h1 : keyD d with
    | none => rw [h1] at h; cases h
    | some k =>
      cases h2 : keysA ds with
      | none => rw [h1, h2] at h; cases h
      | some ks' =>
        rw [h1, h2] at h
        cases h
        rw [List.map_cons, key_rp h1 r.1, keysA_rp h2 r.2]
  | [], _ :: _, _, _, r => by simp only [RpA] at r
  | _ :: _, [], _, _, r => by simp only [RpA] at r
theorem keys_rp {P : Option Addr} {B H : Hp} {v : V} {d : D} {ks : List Key} (bh : Ex B H) (h : keysD d = some ks) (r : Rp R B v d) : ∃ b, v = .ref b ∧ H b = some (.tup (ks.map kV)) := by
  cases d with
  | tup l =>
    simp only [Rp] at r
    obtain ⟨p, vs, rfl, hp, a⟩ := r
    exact ⟨p, rfl, by rw [← keysA_rp h a]; exact bh _ _ hp⟩
  | _ => cases h
/-- d.get(k, x) -/
def getD {κ : Type} [DecidableEq κ] (ks : List κ) (l : List D) (k : κ) : Option D := ((ks.zip l).find? fun kv => decide (kv.1 = k)).map (·.2)
theorem get_rp {κ : Type} [DecidableEq κ] {B : Hp} (k : κ) : ∀ {ks : List κ} {vs : List V} {l : List D}, RpA R B vs l → (∃ d v, DL.getD ks l k = some d ∧ valV (ks.zip vs) k = some v ∧ Rp R B v d) ∨ (DL.getD ks l k = none ∧ valV (ks.zip vs) k = none)
  | [], _, _, _ => .inr ⟨rfl, rfl⟩
  | _ :: _, [], [], _ => .inr ⟨rfl, rfl⟩
  | a :: ks, v :: vs, d :: l, h => by
    simp only [RpA] at h
    by_cases e : a = k
    · refine .inl ⟨d, v, ?_, valV_pos e, h.1⟩
      simp [DL.getD, List.find?_cons, e]
    · have h1 : valV ((a, v) :: ks.zip vs) k = valV (ks.zip vs) k := valV_neg e
      have h2 : DL.getD (a :: ks) (d :: l) k = DL.getD ks l k := by simp [DL.getD, List.find?_cons, e]
      rw [List.zip_cons_cons, h1, h2]
      exact get_rp k h.2
  | _ :: _, [], _ :: _, h => by simp only [RpA] at h
  | _ :: _, _ :: _, [], h => by simp only [RpA] at h
def eGet2 (ed ek ex : EE) : EE := fun env k => ed env fun d => match d with
  | .dt ks l => ek env fun y => ∃ key, keysD y = some key ∧ ex env fun z => k ((DL.getD ks l key).getD z)
  | .dk ks l => ek env fun y => ∃ key, keyD y = some key ∧ ex env fun z => k ((DL.getD ks l key).getD z)
  | _ => False
theorem RpW.dt {P : Option Addr} {B H : Hp} {v : V} {ks : List (List Key)} {l : List D} (bh : Ex B H) (h : RpW R P B H v (.dt ks l)) : ∃ p vs, v = .ref p ∧ H p = some (.dT (ks.zip vs)) ∧ RpA R B vs l ∧ ks.length = l.length := by
  rcases h with h | h
  · simp only [Rp] at h
    obtain ⟨p, vs, r, k, z, a⟩ := h
    exact ⟨p, vs, r, bh _ _ k, a, z⟩
  · obtain ⟨p, vs, r, k, z, _, a⟩ := h
    exact ⟨p, vs, r, k, a, z⟩
theorem RpW.dk {P : Option Addr} {B H : Hp} {v : V} {ks : List Key} {l : List D} (bh : Ex B H) (h : RpW R P B H v (.dk ks l)) : ∃ p vs, v = .ref p ∧ H p = some (.dK (ks.zip vs)) ∧ RpA R B vs l ∧ ks.length = l.length := by
  rcases h with h | h
  · simp only [Rp] at h
    obtain ⟨p, vs, r, k, z, a⟩ := h
    exact ⟨p, vs, r, bh _ _ k, a, z⟩
  · obtain ⟨p, vs, r, k, z, _, a⟩ := h
    exact ⟨p, vs, r, k, a, z⟩
theorem we_get2 {td ty tx : TE} {ed ek ex : EE} (h : WO R td ed) (hk : WE R ty ek) (hx : WE R tx ex) : WE R (tDGet2 td ty tx) (eGet2 ed ek ex) := fun P env σ B H Q k E he q =>
  h P env σ B H _ _ E he fun d v B1 H1 k1 s1 E1 r1 => by
    cases d with
    | dt ks l =>
      obtain ⟨p, vs, rfl, hp, al, _⟩ := r1.dt E1.bh
      refine ⟨p, rfl, .inr ⟨_, .inl hp⟩, hk P env σ B1 H1 _ _ E1 k1 fun y u B2 H2 k2 s2 E2 r2 => ?_⟩
      obtain ⟨key, hkey, k2⟩ := k2
      refine hx P env σ B2 H2 _ _ E2 k2 fun z w B3 H3 k3 s3 E3 r3 => ?_
      obtain ⟨b, rfl, hb⟩ := keys_rp (P := P) E3.bh hkey (r2.mono s3.bb y)
      obtain ⟨p', vs', e, hp', al', _⟩ := ((r1.step s2).step s3).dt E3.bh
      cases e
      refine ⟨valV (ks.zip vs') key, DGet.t hp' hb, ?_⟩
      have st := (s1.trans E1.pot s2).trans E2.pot s3
      rcases get_rp (R := R) (B := B3) key (ks := ks) al' with ⟨d, v, g1, g2, r⟩ | ⟨g1, g2⟩
      · rw [g1] at k3
        rw [g2]
        exact q d v B3 H3 k3 st E3 r
      · rw [g1] at k3
        rw [g2]
        exact q z w B3 H3 k3 st E3 r3
    | dk ks l =>
      obtain ⟨p, vs, rfl, hp, al, _⟩ := r1.dk E1.bh
      refine ⟨p, rfl, .inl ⟨_, .inl hp⟩, hk P env σ B1 H1 _ _ E1 k1 fun y u B2 H2 k2 s2 E2 r2 => ?_⟩
      obtain ⟨key, hkey, k2⟩ := k2
      refine hx P env σ B2 H2 _ _ E2 k2 fun z w B3 H3 k3 s3 E3 r3 => ?_
      have e0 := key_rp hkey (r2.mono s3.bb y)
      subst e0
      obtain ⟨p', vs', e, hp', al', _⟩ := ((r1.step s2).step s3).dk E3.bh
      cases e
      refine ⟨valV (ks.zip vs') key, DGet.k hp', ?_⟩
      have st := (s1.trans E1.pot s2).trans E2.pot s3
      rcases get_rp (R := R) (B := B3) key (ks := ks) al' with ⟨d, v, g1, g2, r⟩ | ⟨g1, g2⟩
      · rw [g1] at k3
        rw [g2]
        exact q d v B3 H3 k3 st E3 r
      · rw [g1] at k3
        rw [g2]
        exact q z w B3 H3 k3 st E3 r3
    | _ => exact k1.elim
theorem yesGo {F : Bool → Hp → Prop} {σ : L2.St} {H : Hp} (h : F true H) : tYes σ H F := h
/-! ### {(..): v for x in xs}, no key twice -/
def dcGo (f : D → (List Key → D → Prop) → Prop) : List D → List (List Key) → List D → (List (List Key) → List D → Prop) → Prop
  | [], ks, l, k => k ks l
  | x :: xs, ks, l, k => f x fun key d => key ∉ ks ∧ dcGo f xs (ks ++ [key]) (l ++ [d]) k
def eDcF (eg : EG) (ek ev : EE) (env : Env) : D → (List Key → D → Prop) → Prop := fun x kk => eg x env fun env1 => ek env1 fun y => ∃ key, keysD y = some key ∧ ev env1 fun z => kk key z
def eDcT (ei : EL) (eg : EG) (ek ev : EE) (vs : List Nat) : EE := fun env k => ei env fun xs => xs.length ≤ 100000 ∧ dcGo (eDcF eg ek ev (wipeE env vs)) xs [] [] fun ks l => k (.dt ks l)
theorem we_dcT {wi : TI} {ei : EL} {g : TG} {eg : EG} {ts vs : List Nat} {tk tv : TE} {ek ev : EE} (hi : WI R wi ei) (hg : WG R ts g eg) (hv : ∀ i ∈ ts, i ∈ vs) (hk : WE R tk ek) (hev : WE R tv ev) : WE R (DC.tDcT wi g tYes tk tv vs) (eDcT ei eg ek ev vs) := fun P env σ B H Q k E he q => by
  refine hi P env σ B H _ _ E he fun xs J n G B1 H1 hx s1 E1 hn hG hW D hD => ?_
  have nP : P ≠ some D := fresh_pot E1.pot hD
  have bD : B1 D = none := Evl.fresh_back E1.bh hD
  have hD0 : H D = none := fresh_backP s1.hh nP hD
  have keep : ∀ {Bx By Hx Hy : Hp} {us : List (List Key × V)}, Step P Bx Hx By Hy → Bx D = none → Hx D = some (.dT us) → By D = none ∧ Hy D = some (.dT us) := fun {Bx By Hx Hy us} s b h => by
    refine ⟨?_, s.hh _ _ h nP⟩
    cases z : By D with
    | none => rfl
    | some o =>
      rcases s.nw D o z with w | w | w
      · rw [b] at w; cases w
      · rw [h] at w; cases w
      · have h1 := s.bh _ _ z
        rw [s.hh _ _ h nP] at h1
        cases h1
        exact w.elim
  refine it0 (Body := fun x H' Nx => DC.turnT D g tYes tk tv vs σ Nx x H') hW (fun i H' => ∃ B' ks done ws, H' D = some (.dT (ks.zip ws)) ∧ ks.length = done.length ∧ B' D = none ∧ RpA R B' ws done ∧ Step P B1 H1 B' H' ∧ PotOk P H' ∧ done.length ≤ i ∧ dcGo (eDcF eg ek ev (wipeE env vs)) (xs.drop i) ks done (fun ks l => k (.dt ks l))) ?_ ?_ ?_ ?_
  · obtain ⟨s0, E0⟩ := E1.allocU (o := .dT []) hD
    exact ⟨B1, [], [], [], upd_same, rfl, bD, .nil, s0, E0.pot, Nat.le_refl _, hx.2⟩
  · rintro i H' _ ⟨B', ks, done, ws, hd, hkl, hbd, hr, s, po, hl, hk⟩
    exact hG _ (s.bb.trans s.bh)
  · rintro i x Ha Hb hin ⟨B', ks, done, ws, hd, hkl, hbd, hr, s, po, hl, hdc⟩ y
    have Ea := E1.step s po
    obtain ⟨d, B2, hxd, s2, E2, rx⟩ := yd_at Ea (y.mono s.bb)
    rw [drop_cons hxd] at hdc
    obtain ⟨b2, d2⟩ := keep s2 hbd hd
    refine hg P _ _ B2 Hb x d _ _ (E2.wipe vs) rx hdc fun env' σ' k' E3 w3 _ _ => ⟨?_, ?_⟩
    · rw [w3 vs hv]
      exact wipe_wipe σ vs
    · refine yesGo ?_
      refine iteT ?_
      refine hk P env' σ' B2 Hb _ _ E3 k' fun yk yv B3 H3 k3 s3 E4 r3 => ?_
      obtain ⟨key, hkey, k3⟩ := k3
      obtain ⟨b3, d3⟩ := keep s3 b2 d2
      have s23 := s2.trans E2.pot s3
      refine hev P env' σ' B3 H3 _ _ E4 k3 fun z v B4 H4 k4 s4 E5 r4 => ?_
      obtain ⟨b4, d4⟩ := keep s4 b3 d3
      have s24 := s23.trans E4.pot s4
      obtain ⟨b, rfl, hb⟩ := keys_rp (P := P) E5.bh hkey (r3.mono s4.bb yk)
      have e4 := s24.bb
      have lw := hr.len
      have nk : valV (ks.zip ws) key = none := by
        cases e : valV (ks.zip ws) key with
        | none => rfl
        | some u =>
          obtain ⟨pr, hpr, e2⟩ := List.mem_map.mp (valV_in e)
          have := (List.of_mem_zip (a := pr.1) (b := pr.2) hpr).1
          rw [e2] at this
          exact absurd this k4.1
      refine ⟨ks.zip ws, key, b, rfl, hb, d4, ?_, B4, ks ++ [key], done ++ [z], ws ++ [v], ?_, by simp [hkl], b4, (hr.mono e4 done).app (.cons r4 .nil), ?_, ?_, ?_, k4.2⟩
      · rw [List.length_zip]
        have := hx.1
        exact Evl.sz_lt (by omega)
      · rw [upd_same, putK_new v nk, List.zip_append (by rw [hkl, lw])]
        rfl
      · have st := s.trans po s24
        exact ⟨st.bb, fun b o h => by
          rw [upd_ne (fun w => by rw [w, b4] at h; cases h)]
          exact st.bh b o h, fun b o h n => by
          rw [upd_ne (fun w => by rw [w, hD] at h; cases h)]
          exact st.hh b o h n, st.nw⟩
      · intro p hp
        obtain ⟨a, c, h, r⟩ := E5.pot p hp
        exact ⟨a, c, by rw [upd_ne (fun w => nP (by rw [hp, w]))]; exact h, r⟩
      · simp; omega
  · rintro H' ⟨B', ks, done, ws, hd, hkl, hbd, hr, s, po, hl, hk⟩
    rw [← hn, List.drop_length] at hk
    have hk : k (.dt ks done) := hk
    have st := s1.trans E1.pot s
    have e : Ex B' (upd B' D (.dT (ks.zip ws))) := Ex.new hbd
    have s2 : Step P B H (upd B' D (.dT (ks.zip ws))) H' := ⟨st.bb.trans e, fun b o z => by
      by_cases n : b = D
      · subst n; rw [upd_same] at z; cases z; exact hd
      · rw [upd_ne n] at z; exact st.bh b o z, st.hh, fun b o z => by
      by_cases n : b = D
      · subst n; exact .inr (.inl hD0)
      · rw [upd_ne n] at z; exact st.nw b o z⟩
    refine q (.dt ks done) (.ref D) _ H' hk s2 (E.step s2 po) ?_
    simp only [Rp]
    exact ⟨D, ws, rfl, upd_same, hkl, hr.mono e done⟩
/-! ### a def that hands back a new list, or something else -/
def spG (R : OR) (pot : Bool) (n : Nat) (ef : List D → Kn → Prop) : Sp := fun vs H Q _ => ∃ P B us ds k kf, (P = none ∧ pot = false ∧ vs = us ∨ ∃ p, P = some p ∧ pot = true ∧ vs = .ref p :: us) ∧ PotOk P H ∧ (∀ p, P = some p → B p = none) ∧ Ex B H ∧ RpA R B us ds ∧ ds.length = n ∧ ef ds { nx := fun _ => k .non, rt := k, rf := kf } ∧
  (∀ d v B' H', k d → Step P B H B' H' → PotOk P H' → Rp R B' v d → Q v H') ∧ ∀ l p vs' B' H', kf l → Step P B H B' H' → PotOk P H' → H p = none → B' p = none → H' p = some (.lst vs') → RpA R B' vs' l → Q (.ref p) H'
theorem body_G {t : TS} {es : ES} {pot : Bool} {N : List Str} {n : Nat} (w : WB R t es) {vs : List V} {H : Hp} {Q : VK} {E : XK} (h : spG R pot n (fun ds k => es (env0 pot N ds) k) vs H Q E) : t { nx := fun _ H' => Q .non H', rt := Q } (L2.start N vs) H := by
  obtain ⟨P, B, us, ds, k, kf, hP, po, pb, bh, r, hn, he, q, qf⟩ := h
  exact w P B H _ _ B H _ _ (start_ok hP po pb bh r) he ⟨fun env σ B' H' kk S => q .non .non B' H' kk S.s S.e.pot rp_non, q, qf, fun _ _ _ _ z => z.elim, fun _ _ _ _ z => z.elim⟩
theorem len_G {pot : Bool} {n : Nat} {ef : List D → Kn → Prop} {vs : List V} {H : Hp} {Q : VK} {E : XK} (h : spG R pot n ef vs H Q E) : vs.length = (if pot then 1 else 0) + n := by
  obtain ⟨P, B, us, ds, k, kf, hP, po, pb, bh, r, hn, he, q, _⟩ := h
  rcases hP with ⟨rfl, rfl, rfl⟩ | ⟨p, rfl, rfl, rfl⟩
  · rw [r.len, hn]; simp
  · rw [List.length_cons, r.len, hn]; simp; omega
def knG (k : SV → Prop) : Kn := { nx := fun _ => k (.val .non), rt := fun d => k (.val d), rf := fun l => k (.ml l) }
def emG (n : Nat) (ef : List D → Kn → Prop) (ea : EL) : EM := fun env k => ea env fun ds => ds.length = n ∧ ef ds (knG k)
theorem wm_G {n : Nat} {ef : List D → Kn → Prop} {tas : TA} {eas : EL} {E : XK} (h : WA R tas eas) : WM R (tCall (spG R false n ef) [] E tas) (emG n ef eas) := fun P env σ B H Q k Ev he q =>
  h P env σ B H _ _ Ev he fun ds vs B1 H1 kd s1 E1 r1 => by
    rw [List.append_nil]
    refine ⟨none, B1, vs, ds, fun d => k (.val d), fun l => k (.ml l), .inl ⟨rfl, rfl, rfl⟩, fun _ z => (nomatch z), fun _ z => (nomatch z), E1.bh, r1, kd.1, kd.2, fun d v B2 H2 k2 s2 _ r2 => ?_, fun l p vs' B2 H2 k2 s2 _ hp hb hh r2 => ?_⟩
    · have po := E1.pot.ex s2.ex0
      exact q (.val d) v B2 H2 k2 (s1.trans E1.pot s2.of0) (E1.step s2.of0 po) r2
    · have po := E1.pot.ex s2.ex0
      exact q (.ml l) (.ref p) B2 H2 k2 (s1.trans E1.pot s2.of0) (E1.step s2.of0 po) ⟨p, vs', rfl, fresh_backP s1.hh (fresh_pot E1.pot hp) hp, hb, hh, r2⟩
/-- its result known at once -/
def knE' (k : D → Prop) : Kn := { nx := fun _ => k .non, rt := k, rf := fun l => k (.lst l) }
def eM (em : EM) : EE := fun env k => em env fun sv => match sv with
  | .val d => k d
  | .ml l => k (.lst l)
  | _ => False
theorem we_M {te : TE} {em : EM} (h : WM R te em) : WE R te (eM em) := fun P env σ B H Q k E he q =>
  h P env σ B H _ _ E he fun sv v B' H' kv s E' r => by
    cases sv with
    | val d => exact q d v B' H' kv s E' r
    | ml l =>
      obtain ⟨p, vs, rfl, hp, hb, hh, a⟩ := r
      obtain ⟨s2, E2, r2⟩ := E.know s E'.pot hp hb hh a
      exact q _ _ _ _ kv s2 E2 r2
    | _ => exact kv.elim
/-- return e, whatever it is -/
def sRetG (em : EM) : ES := fun env k => em env fun sv => match sv with
  | .val d => k.rt d
  | .ml l => k.rf l
  | _ => False
theorem wb_retG {te : TE} {em : EM} (h : WM R te em) : WB R (tRet te) (sRetG em) := fun P B0 H0 env σ B H D k S he K =>
  h P env σ B H _ _ S.e he fun sv v B' H' kv s E r => by
    cases sv with
    | val d => exact K.rt d v B' H' kv (S.s.trans S.e.pot s) E.pot r
    | ml l =>
      obtain ⟨p, vs, rfl, hp, hb, hh, a⟩ := r
      exact K.rf l p vs B' H' kv (S.s.trans S.e.pot s) E.pot (fresh_backP S.s.hh (fresh_pot S.e.pot hp) hp) hb hh a
    | _ => exact kv.elim
/-- name = e, whatever it is -/
def sAsgM (i : Nat) (em : EM) : ES := fun env k => em env fun sv => k.nx (env.set i sv)
theorem wb_asgM {te : TE} {i : Nat} {em : EM} (h : WM R te em) : WB R (tAsg te (gName i)) (sAsgM i em) := fun P B0 H0 env σ B H D k S he K =>
  h P env σ B H _ _ S.e he fun sv v B' H' kv s E r => K.nx _ _ B' H' kv ((S.step s E).item i r (fun p z => fresh_backP S.s.hh (fresh_pot S.e.pot z) z) (fun j x p _ hp hj m => S.e.notNew hp j x hj m) (fun p z => fresh_pot S.e.pot z))
/-! ### a list under hand, known while an expression is read that leaves nothing of it -/
def tmp (env : Env) (i : Nat) : Env := match env[i]? with
  | some (.ml l) => env.set i (.val (.lst l))
  | _ => env
theorem tmp_ok {P : Option Addr} {env : Env} {σ : L2.St} {B H : Hp} (E : EnvOk R P env σ B H) (i : Nat) : ∃ B1, Ex B B1 ∧ EnvOk R P (tmp env i) σ B1 H := by
  unfold tmp
  split
  · next l hi =>
    obtain ⟨p, vs, a, b, c, d, e⟩ := E.sl i _ hi
    have S : SOk R P B (fun b => @ite _ (∃ j sv, env[j]? = some sv ∧ isM sv = true ∧ σ[j]? = some (some (V.ref b))) (Classical.propDecidable _) none (H b)) env σ B H := ⟨E, ⟨.refl _, E.bh, fun b o h n => by
      split at h
      · cases h
      · exact h, fun b o h => .inl h⟩, fun j sv q h m k => if_pos ⟨j, sv, h, m, k⟩⟩
    exact ⟨_, .new c, (S.knowO hi rfl a c d b (rp_lst upd_same (e.mono (Ex.new c) l))).e⟩
  · exact ⟨B, Ex.refl _, E⟩
end
end DL
set_option Elab.async false
set_option linter.all false
set_option maxRecDepth 100000
set_option maxHeartbeats 4000000
/-! ranges as values; the least of a list of data; two places of a list written at once; lists under hand that are read -/
namespace DL
open PySem PySem.Spec PyProof.Rows L2
open Evl (Ex)
/-! ### ranges as values -/
def rRg1 : List V → Hp → VK → Prop := fun vs H Q => ∃ n : Nat, vs = [V.int (n : Int)] ∧ ∀ p, H p = none → Q (.ref p) (upd H p (.rng 0 (n : Int)))
theorem cr_range1 {X : Cx} : CallR X (.type "range") rRg1 := by
  intro pins s σ H vs us Q I r h
  obtain ⟨n, rfl, q⟩ := h
  cases r with
  | cons r rr =>
    cases rr
    obtain ⟨t, rfl⟩ := r
    refine call_range_1 ⟨.ref s.heap.objs.size, upd H s.heap.objs.size (.rng 0 (n : Int)), I.laid (t' := s.toks + 1 + 1) (fun b o e => Heap.get?_push_of_some _ e) (Nat.le_refl _) ?_, rfl, q _ (I.hok.fresh (Nat.le_refl _))⟩
    exact ⟨s.toks, t, s.toks + 1, Heap.get?_push_size _ rfl⟩
def iRgo (tl : TE) : TI := fun σ H R => tl σ H fun x H1 => ∃ (a : Addr) (n : Nat), x = .ref a ∧ H1 a = some (.rng 0 (n : Int)) ∧ n ≤ 100000 ∧ R (Itr 0 n) H1
theorem pi_rgo {X : Cx} {tg l : Expr} {tl : TE} (hl : PE X l tl) : PI X tg l (iRgo tl) := by
  refine ⟨fun pins s σ H R I h => ?_⟩
  refine thn (hl.run pins s σ H _ I h) fun v s1 ⟨x, H1, I1, r1, q1⟩ => ?_
  obtain ⟨a, n, e, hq, hn, q⟩ := q1
  subst e
  cases r1
  obtain ⟨t1, t2, t3, ho⟩ := I1.hok a _ hq
  refine wpAny_pyIter_range (show IsRange s1.heap a 0 (n : Int) 1 t1 t2 t3 from ho) (small_one (by omega) (by omega) (by omega) (by omega)) ?_
  refine pi_one (tk := s1.toks) I1 _ (turn_range _ 0 n) ?_ q
  have e2 : ((n : Nat) : Int) - ((0 : Nat) : Int) = Builtin.Range.rangeSize 0 n 1 := by rw [rangeSize_one]; split <;> omega
  show IsRangeIter _ _ (0 + ((0 : Nat) : Int) * 1) ((n : Int) - ((0 : Nat) : Int)) 1
  rw [e2]
  exact Heap.get?_push_size _ rfl
section
variable {R : OR} {K : PySem.W.Frag}
def rgU : D → DK → Prop := fun a k => match a with
  | .int i => 0 ≤ i ∧ k (.rg i.toNat)
  | _ => False
theorem res_new {P : Option Addr} {B H : Hp} {Q : VK} {k : DK} {d : D} {o : HO} {p : Addr} (bh : Ex B H) (po : PotOk P H) (hk : k d) (r : Rp R (upd B p o) (.ref p) d) (hp : H p = none) (q : ∀ d v B' H', k d → Step P B H B' H' → PotOk P H' → Rp R B' v d → Q v H') : Q (.ref p) (upd H p o) := by
  have hb : B p = none := Evl.fresh_back bh hp
  refine q d (.ref p) (upd B p o) _ hk ⟨Ex.new hb, fun b u k => ?_, ExP.of (Ex.new hp), fun b u k => ?_⟩ (po.ex (Ex.new hp)) r
  · by_cases e : b = p
    · subst e; rw [upd_same] at k ⊢; exact k
    · rw [upd_ne e] at k ⊢; exact bh b u k
  · by_cases e : b = p
    · subst e; exact .inr (.inl hp)
    · rw [upd_ne e] at k; exact .inl k
theorem ud_rg : UnD R (fun x H Q => rRg1 [x] H Q) rgU := fun P B H x a Q k bh po ra hf q => by
  cases a with
  | int i =>
    obtain ⟨h0, hk⟩ := hf
    have e : V.int i = V.int ((i.toNat : Nat) : Int) := by rw [Int.toNat_of_nonneg h0]
    refine ⟨i.toNat, by rw [ra.int, ← e], fun p hp => res_new bh po hk ?_ hp q⟩
    simp only [Rp]
    exact ⟨p, rfl, upd_same⟩
  | _ => exact hf.elim
def eRgo (ee : EE) : EL := fun env k => ee env fun d => match d with
  | .rg n => n ≤ 100000 ∧ k (rgD n)
  | _ => False
theorem wi_rgo {te : TE} {ee : EE} (h : WE R te ee) : WI R (iRgo te) (eRgo ee) := fun P env σ B H Rk k E he q =>
  h P env σ B H _ _ E he fun d v B' H' kd s E' r => by
    cases d with
    | rg n =>
      simp only [Rp] at r
      obtain ⟨p, rfl, hp⟩ := r
      refine ⟨p, n, rfl, E'.bh _ _ hp, kd.1, q (rgD n) _ n (fun _ => True) B' H' kd.2 s E' (by unfold rgD; simp) (fun _ _ => trivial) ?_⟩
      exact walk_range.mono (fun _ h => h) fun i H x H' hi _ y => ⟨.int (i : Int), by unfold rgD; rw [List.getElem?_map, List.getElem?_range (by simpa using hi)]; rfl, .inl ⟨y.1, by rw [y.2]; show Rp R B' (V.int (0 + (i : Int))) _; rw [show (0 : Int) + (i : Int) = (i : Int) by omega]; exact rp_int⟩⟩
    | _ => exact kd.elim
/-! ### the least of a list of data -/
mutual
theorem toPy_inj : ∀ {a b : D}, isPy a = true → isPy b = true → toPy a = toPy b → a = b := by
  intro a b ha hb e
  cases a <;> cases b <;> simp only [isPy, toPy, reduceCtorEq, PyData.bool.injEq, PyData.int.injEq, PyData.str.injEq, PyData.list.injEq, PyData.tuple.injEq] at ha hb e ⊢ <;> first | rfl | (rw [e]) | (rw [toPys_inj ha hb e])
theorem toPys_inj : ∀ {l m : List D}, isPys l = true → isPys m = true → toPys l = toPys m → l = m := by
  intro l m hl hm e
  cases l <;> cases m <;> simp only [isPys, toPys, reduceCtorEq, List.cons.injEq, Bool.and_eq_true] at hl hm e ⊢ <;> first | rfl | exact ⟨toPy_inj hl.1 hm.1 e.1, toPys_inj hl.2 hm.2 e.2⟩
end
def minLD (x : D) (xs : List D) : D := xs.foldl (fun a y => if PySem.W.dataLt (toPy y) (toPy a) then y else a) x
theorem toPy_min : ∀ (xs : List D) (x : D), toPy (minLD x xs) = PySem.W.minD (toPy x) (xs.map toPy)
  | [], _ => rfl
  | y :: ys, x => by
    unfold minLD PySem.W.minD
    rw [List.foldl_cons, List.map_cons, List.foldl_cons]
    have := toPy_min ys (if PySem.W.dataLt (toPy y) (toPy x) then y else x)
    unfold minLD PySem.W.minD at this
    rw [this]
    congr 1
    split <;> rfl
theorem min_mem : ∀ (xs : List D) (x : D), minLD x xs ∈ x :: xs
  | [], _ => by simp [minLD]
  | y :: ys, x => by
    have := min_mem ys (if PySem.W.dataLt (toPy y) (toPy x) then y else x)
    show (ys.foldl _ _) ∈ _
    unfold minLD at this
    rcases List.mem_cons.mp this with e | e
    · rw [e]; split <;> simp
    · simp [e]
def rMinL (K : PySem.W.Frag) : List V → Hp → VK → Prop := fun vs H Q => ∃ (a : Addr) (xs : List V) (x : PyData) (ds : List PyData), vs = [V.ref a] ∧ SqL K H a xs ∧ DpAll K H xs (x :: ds) ∧ PySem.W.AlikeAll (x :: ds) ∧ PyData.depthAll (x :: ds) ≤ 50 ∧
  ∀ (i : Nat) (v : V), xs[i]? = some v → (x :: ds)[i]? = some (PySem.W.minD x ds) → Q v H
end
theorem cr_minL {X : Cx} (hc : X.calm = true) (hu : X.A.units + 64 < cLine) : CallR X (.builtin "min") (rMinL X.K) := by
  intro pins s σ H vs us Q I r h
  obtain ⟨a, xs, x, ds, rfl, hs, hd, hal, hdp, q⟩ := h
  obtain ⟨its, rv, hl, _⟩ := I.list hs
  rw [Vals.ref1 r]
  obtain ⟨as, hr⟩ := Dp.readsAll I _ _ _ hd rv
  refine PySem.W.min_list_data (I.ok.hd hc) (vs := its.toArray) hl.isList hr hal (by omega) fun i v h' tk bs hv hr' hk => ?_
  have hv' : its[i]? = some v := by simpa using hv
  obtain ⟨bs', hi, hlt, _, _⟩ := PySem.W.readsAll_at hr i v hv'
  have hx : i < xs.length := by
    have := (List.getElem?_eq_some_iff.mp hv').1
    have := rv.length
    omega
  obtain ⟨u, hu', ru⟩ := rv.get (List.getElem?_eq_getElem hx)
  rw [hv'] at hu'
  cases hu'
  have e := (reads_det (fun b o z _ => hk b o z) hi hr').1
  refine ⟨xs[i], H, I.kept hk, ru, q i _ (List.getElem?_eq_getElem hx) ?_⟩
  rw [e, List.getElem?_eq_getElem hlt, List.getD_eq_getElem?_getD, List.getElem?_eq_getElem hlt]
  rfl
section
variable {R : OR} {K : PySem.W.Frag}
def minDL : D → DK → Prop := fun a k => match a with
  | .lst (x :: l) => (isPys (x :: l) = true ∧ PySem.W.AlikeAll ((x :: l).map toPy) ∧ PyData.depthAll ((x :: l).map toPy) ≤ 50) ∧ k (minLD x l)
  | _ => False
theorem ud_minL : UnD R (fun x H Q => rMinL K [x] H Q) minDL := fun P B H x a Q k bh po ra hf q => by
  cases a with
  | lst l =>
    cases l with
    | nil => exact hf.elim
    | cons d l =>
      obtain ⟨p, vs, rfl, hp, al⟩ := ra.lst bh
      obtain ⟨⟨h1, h2, h3⟩, hk⟩ := hf
      have py : ∀ e ∈ d :: l, isPy e = true := fun e he => by
        rw [isPys_all] at h1
        exact List.all_eq_true.mp h1 e he
      refine ⟨p, vs, toPy d, l.map toPy, rfl, Evl.sq_of hp, ?_, h2, h3, fun i v hv he => ?_⟩
      · have : ∀ {vs : List V} {l : List D}, RpA R B vs l → (∀ d ∈ l, isPy d = true) → DpAll K H vs (l.map toPy) := by
          intro vs l
          induction l generalizing vs with
          | nil =>
            intro h _
            cases vs with
            | nil => exact .nil
            | cons _ _ => simp only [RpA] at h
          | cons d l ih =>
            intro h hp
            cases vs with
            | nil => simp only [RpA] at h
            | cons v vs =>
              simp only [RpA] at h
              exact .cons (dp_of bh d h.1 (hp d (List.mem_cons_self ..))) (ih h.2 fun e he => hp e (List.mem_cons_of_mem _ he))
        exact this al py
      · obtain ⟨e, he2, re⟩ := al.getV hv
        have e1 : toPy e = toPy (minLD d l) := by
          rw [toPy_min]
          rw [show toPy d :: l.map toPy = (d :: l).map toPy from rfl, List.getElem?_map, he2] at he
          exact Option.some.inj he
        have e2 : e = minLD d l := toPy_inj (py e (List.mem_of_getElem? he2)) (py _ (min_mem l d)) e1
        subst e2
        exact q _ v B H hk (.refl bh) po re
  | _ => exact hf.elim
/-! ### the sum of a list or a tuple -/
def rSumA (K : PySem.W.Frag) : List V → Hp → VK → Prop := fun vs H Q => ∃ (a : Addr) (ns : List Int), vs = [V.ref a] ∧ (SqL K H a (ns.map V.int) ∨ SqT K H a (ns.map V.int)) ∧ Q (.int ns.sum) H
theorem cr_sumA {X : Cx} (hc : X.calm = true) : CallR X (.builtin "sum") (rSumA X.K) := by
  intro pins s σ H vs us Q I r h
  obtain ⟨a, ns, rfl, hs | hs, q⟩ := h
  · exact cr_sum hc pins s σ H _ us Q I r ⟨a, ns, rfl, hs, q⟩
  · obtain ⟨its, rv, hl, _⟩ := I.tuple hs
    rw [Vals.ref1 r]
    obtain ⟨xs, e⟩ := rv.ints.allInts.items
    have hn : numsOf (intItems xs).toList = ns := by rw [← e]; exact rv.ints.numsOf
    rw [nums_intItems] at hn
    rw [e] at hl
    refine PySem.W.ktm_sumG (I.ok.hd hc) hl fun h' tk t' hk => ?_
    have : preSum (numAt xs) xs.size = ns.sum := by rw [preSum_eq, List.take_of_length_le (by simp), hn]
    rw [this]
    exact ⟨.int _, H, I.kept hk, ⟨_, rfl⟩, q⟩
def sumU : D → DK → Prop := fun a k => ∃ ns : List Int, (a = .lst (ns.map .int) ∨ a = .tup (ns.map .int)) ∧ k (.int ns.sum)
theorem ud_sumU : UnD R (fun x H Q => rSumA K [x] H Q) sumU := fun P B H x a Q k bh po ra hf q => by
  obtain ⟨ns, rfl | rfl, hk⟩ := hf
  · obtain ⟨p, vs, rfl, hp, al⟩ := ra.lst bh
    rw [al.ints] at hp
    exact ⟨p, ns, rfl, .inl (Evl.sq_of hp), res_same bh po hk (fun _ => rp_int) q⟩
  · obtain ⟨p, vs, rfl, _, hp, al⟩ := ra.tup bh
    rw [al.ints] at hp
    exact ⟨p, ns, rfl, .inr (Evl.st_of hp), res_same bh po hk (fun _ => rp_int) q⟩
/-! ### calls by keywords alone, in any sequence -/
def kgP (π : List Nat) : List Value → List Value → List Value
  | [], ws => if ws.length = π.length then π.map fun i => ws.getD i .none else []
  | _, _ => []
def kgPV (π : List Nat) : List V → List V → List V
  | [], zs => if zs.length = π.length then π.map fun i => zs.getD i .non else []
  | _, _ => []
theorem vals_getD {zs : List V} {ws : List Value} (h : Vals zs ws) : ∀ i, RelV (zs.getD i .non) (ws.getD i .none) := by
  induction h with
  | nil => exact fun i => by simp; rfl
  | cons a _ ih =>
    intro i
    cases i with
    | zero => exact a
    | succ i => simpa using ih i
theorem vals_map {zs : List V} {ws : List Value} (h : Vals zs ws) : ∀ π : List Nat, Vals (π.map fun i => zs.getD i .non) (π.map fun i => ws.getD i .none)
  | [] => .nil
  | i :: π => .cons (vals_getD h i) (vals_map h π)
theorem kgP_rel {π : List Nat} {vs : List V} {us : List Value} {zs : List V} {ws : List Value} (r1 : Vals vs us) (r2 : Vals zs ws) : Vals (kgPV π vs zs) (kgP π us ws) := by
  cases r1 with
  | nil =>
    have := r2.length
    show Vals (if zs.length = π.length then π.map fun i => zs.getD i .non else []) (if ws.length = π.length then π.map fun i => ws.getD i .none else [])
    by_cases e : zs.length = π.length
    · rw [if_pos e, if_pos (by omega)]; exact vals_map r2 π
    · rw [if_neg e, if_neg (by omega)]; exact .nil
  | cons a r => exact .nil
def perD (π : List Nat) (ds : List D) : List D := π.map fun i => ds.getD i .non
theorem rp_getD {B : Hp} : ∀ {vs : List V} {ds : List D}, RpA R B vs ds → ∀ i, Rp R B (vs.getD i .non) (ds.getD i .non)
  | [], [], _, i => by simp [Rp]
  | v :: vs, d :: ds, h, 0 => by simp only [RpA] at h; exact h.1
  | v :: vs, d :: ds, h, i + 1 => by simp only [RpA] at h; simpa using rp_getD h.2 i
  | [], _ :: _, h, _ => by simp only [RpA] at h
  | _ :: _, [], h, _ => by simp only [RpA] at h
theorem rp_per {B : Hp} {vs : List V} {ds : List D} (h : RpA R B vs ds) : ∀ π : List Nat, RpA R B (π.map fun i => vs.getD i .non) (perD π ds)
  | [] => .nil
  | i :: π => .cons (rp_getD h i) (rp_per h π)
def eCallW (π : List Nat) (n : Nat) (ef : List D → (D → Prop) → Prop) (ea : EL) : EE := fun env k => ea env fun ds => ds.length = n ∧ ef (perD π ds) k
def eCallWF (π : List Nat) (n : Nat) (ef : List D → (List D → Prop) → Prop) (ea : EL) : EL := fun env k => ea env fun ds => ds.length = n ∧ ef (perD π ds) k
theorem we_callW {π : List Nat} {n : Nat} {ef : List D → (D → Prop) → Prop} {tas : TA} {eas : EL} {E : XK} (hn : π.length = n) (h : WA R tas eas) : WE R (tCallK (spE R false n ef) (kgPV π) E tNil tas) (eCallW π n ef eas) := fun P env σ B H Q k Ev he q =>
  h P env σ B H _ _ Ev he fun ds vs B1 H1 kd s1 E1 r1 => by
    show spE R false n ef (if vs.length = π.length then π.map fun i => vs.getD i .non else []) H1 Q E
    rw [if_pos (by rw [r1.len, kd.1, hn])]
    refine ⟨none, B1, _, perD π ds, k, .inl ⟨rfl, rfl, rfl⟩, fun _ z => (nomatch z), fun _ z => (nomatch z), E1.bh, rp_per r1 π, by unfold perD; rw [List.length_map]; exact hn, kd.2, fun d v B2 H2 k2 s2 _ r2 => ?_⟩
    have po := E1.pot.ex s2.ex0
    exact q d v B2 H2 k2 (s1.trans E1.pot s2.of0) (E1.step s2.of0 po) r2
theorem wf_callW {π : List Nat} {n : Nat} {ef : List D → (List D → Prop) → Prop} {tas : TA} {eas : EL} {E : XK} (hn : π.length = n) (h : WA R tas eas) : WF R (tCallK (spF R false n ef) (kgPV π) E tNil tas) (eCallWF π n ef eas) := fun P env σ B H Q k Ev he q =>
  h P env σ B H _ _ Ev he fun ds vs B1 H1 kd s1 E1 r1 => by
    show spF R false n ef (if vs.length = π.length then π.map fun i => vs.getD i .non else []) H1 Q E
    rw [if_pos (by rw [r1.len, kd.1, hn])]
    refine ⟨none, B1, _, perD π ds, k, .inl ⟨rfl, rfl, rfl⟩, fun _ z => (nomatch z), fun _ z => (nomatch z), E1.bh, rp_per r1 π, by unfold perD; rw [List.length_map]; exact hn, kd.2, fun l p vs' B2 H2 k2 s2 _ hp hb hh r2 => ?_⟩
    have po := E1.pot.ex s2.ex0
    exact q l p vs' B2 H2 k2 (s1.trans E1.pot s2.of0) (E1.step s2.of0 po) (fresh_backP s1.hh (fresh_pot E1.pot hp) hp) hb hh r2
/-! ### a list under hand, known while an expression is read that leaves nothing of it -/
def scal : D → Bool
  | .non => true
  | .bl _ => true
  | .int _ => true
  | .str _ => true
  | _ => false
def eTmp (i : Nat) (ee : EE) : EE := fun env k => ee (tmp env i) fun d => scal d = true ∧ k d
def eTmpT (i : Nat) (eb : EB) : EB := fun env k => eb (tmp env i) k
theorem Step.base {P : Option Addr} {B B1 H B' H' : Hp} (e : Ex B B1) (s : Step P B1 H B' H') : Step P B H B H' :=
  ⟨Ex.refl _, (e.trans s.bb).trans s.bh, s.hh, fun _ _ h => .inl h⟩
theorem wt_tmp {i : Nat} {t : TT} {eb : EB} (h : WT R t eb) : WT R t (eTmpT i eb) := fun P env σ B H Q k E he q => by
  obtain ⟨B1, e, E1⟩ := tmp_ok E i
  exact h P _ σ B1 H _ _ E1 he fun b B' H' kb s E' => q b B H' kb (.base e s) (E.step (.base e s) E'.pot)
theorem we_tmp {i : Nat} {t : TE} {ee : EE} (h : WE R t ee) : WE R t (eTmp i ee) := fun P env σ B H Q k E he q => by
  obtain ⟨B1, e, E1⟩ := tmp_ok E i
  refine h P _ σ B1 H _ _ E1 he fun d v B' H' kd s E' r => q d v B H' kd.2 (.base e s) (E.step (.base e s) E'.pot) ?_
  have := kd.1
  cases d <;> first | (simp only [Rp] at r ⊢; exact r) | cases this
/-! ### two places of lists written at once -/
def setK (i : Nat) (x : EE) (d : D) (env : Env) (kk : Env → Prop) : Prop := match env[i]? with
  | some (.ml l) => x env fun z => match z with
    | .int n => ∃ j, ixN l.length n = some j ∧ kk (env.set i (.ml (l.set j d)))
    | _ => False
  | _ => False
theorem set_one {P : Option Addr} {B0 H0 : Hp} {env : Env} {σ : L2.St} {B H : Hp} {i : Nat} {ti : TE} {ei : EE} {d : D} {v : V} {kk : Env → Prop} {Q : L2.St → Hp → Prop} (g : WO R ti ei) (S : SOk R P B0 H0 env σ B H) (r : Rp R B v d) (he : setK i ei d env kk)
    (q : ∀ env' B' H', kk env' → Ex B B' → SOk R P B0 H0 env' σ B' H' → Q σ H') : gSub (tVar i) ti rSetL v σ H Q := by
  unfold setK at he
  split at he
  · next l hi =>
    obtain ⟨p, vs, a, b, c, nP, rr⟩ := S.e.sl i _ hi
    refine ⟨_, a, g P env σ B H _ _ S.e he fun z u B2 H2 k2 s2 E2 r2 => ?_⟩
    cases z with
    | int n =>
      have := r2.int
      subst this
      obtain ⟨j, hj, kj⟩ := k2
      have S2 := S.step s2 E2
      obtain ⟨p', vs', a', b', c', nP', r'⟩ := E2.sl i _ hi
      have e1 : p = p' := by rw [a] at a'; cases a'; rfl
      subst e1
      refine ⟨p, vs', n, j, rfl, rfl, b', by rw [r'.len]; exact hj, ?_⟩
      exact q _ B2 _ kj s2.bb (S2.mut hi rfl a c' nP ⟨p, _, a, upd_same, c', nP, RpA.setA (r.mono s2.bb d) j r'⟩)
    | _ => exact (show False from k2).elim
  · exact he.elim
def sSet2 (i : Nat) (x1 : EE) (j : Nat) (x2 ev : EE) : ES := fun env k => ev env fun d => match d with
  | .tup [a, b] => setK i x1 a env fun env1 => setK j x2 b env1 k.nx
  | _ => False
theorem wb_set2 {i j : Nat} {t1 t2 tv : TE} {x1 x2 ev : EE} (h : WE R tv ev) (g1 : WO R t1 x1) (g2 : WO R t2 x2) : WB R (tAsg tv (gTup K 2 (gCons (gSub (tVar i) t1 rSetL) (gCons (gSub (tVar j) t2 rSetL) gNil)))) (sSet2 i x1 j x2 ev) := fun P B0 H0 env σ B H D k S he Kk =>
  h P env σ B H _ _ S.e he fun d v B1 H1 k1 s1 E1 r1 => by
    match d, k1, r1 with
    | .tup [a, b], k1, r1 =>
      simp only [Rp] at r1
      obtain ⟨p, vs, rfl, hp, al⟩ := r1
      match vs, al with
      | [va, vb], al =>
        simp only [RpA] at al
        refine ⟨p, _, rfl, Evl.st_of (E1.bh _ _ hp), rfl, va, [vb], rfl, ?_⟩
        refine set_one g1 (S.step s1 E1) al.1 k1 fun env1 B2 H2 k2 e2 S2 => ?_
        refine ⟨vb, [], rfl, ?_⟩
        exact set_one g2 S2 (al.2.1.mono e2 b) k2 fun env2 B3 H3 k3 e3 S3 => ⟨rfl, Kk.nx _ _ _ _ k3 S3⟩
/-! ### three names at once -/
theorem nn_set {P : Option Addr} {B1 H1 Ha : Hp} {env : Env} {σ : L2.St} {i : Nat} {x : SV} {v : V} {p : Addr} (hl : σ.length = env.length) (r1 : ItOk R P B1 H1 Ha v x) (hp : H1 p = none)
    (nn : ∀ (j : Nat) (y : SV), env[j]? = some y → isM y = true → σ[j]? ≠ some (some (V.ref p))) : ∀ (j : Nat) (y : SV), (env.set i x)[j]? = some y → isM y = true → (σ.set i (some v))[j]? ≠ some (some (V.ref p)) := fun j' x' hj m w => by
  by_cases e2 : i = j'
  · subst e2
    have hi : i < σ.length := by
      have := (List.getElem?_eq_some_iff.mp w).1
      simpa using this
    rw [List.getElem?_set_self hi] at w
    have hv : v = V.ref p := Option.some.inj (Option.some.inj w)
    have hi2 : i < env.length := by rw [← hl]; exact hi
    rw [List.getElem?_set_self hi2] at hj
    cases hj
    cases x with
    | ml l =>
      obtain ⟨p', vs, e3, _, _, hh, _⟩ := r1
      rw [hv] at e3
      cases e3
      rw [hp] at hh
      cases hh
    | val d => cases m
    | _ => exact r1.elim
  · rw [List.getElem?_set_ne e2] at hj w
    exact nn j' x' hj m w
def sPar3 (i j l : Nat) (a b c : EM) : ES := fun env k => a env fun x => b env fun y => c env fun z => k.nx (((env.set i x).set j y).set l z)
theorem wb_par3 {ta tb tc : TE} {a b c : EM} {i j l : Nat} (ha : WM R ta a) (hb : WM R tb b) (hc : WM R tc c) : WB R (tPar3 i j l (tCons ta (tCons tb (tCons tc tNil)))) (sPar3 i j l a b c) := fun P B0 H0 env σ B H D k S he K =>
  ha P env σ B H _ _ S.e he fun x v B1 H1 k1 s1 E1 r1 => hb P env σ B1 H1 _ _ E1 k1 fun y u B2 H2 k2 s2 E2 r2 => hc P env σ B2 H2 _ _ E2 k2 fun z w B3 H3 k3 s3 E3 r3 => by
    have S3 := ((S.step s1 E1).step s2 E2).step s3 E3
    have h0 : ∀ p, H p = none → H0 p = none := fun p z => fresh_backP S.s.hh (fresh_pot S.e.pot z) z
    have h01 : ∀ p, H1 p = none → H0 p = none := fun p z => h0 p (fresh_backP s1.hh (fresh_pot E1.pot z) z)
    have h02 : ∀ p, H2 p = none → H0 p = none := fun p z => h01 p (fresh_backP s2.hh (fresh_pot E2.pot z) z)
    have ra := (r1.step S.e.pot s1 s2)
    have ra3 := ra.step S.e.pot (s1.trans E1.pot s2) s3
    have rb3 := r2.step E1.pot s2 s3
    have T1 := S3.item i ra3 h0 (fun j x p _ hp hj m => S.e.notNew hp j x hj m) (fun p z => fresh_pot S.e.pot z)
    have T2 := T1.item j rb3 h01 (fun j' x' p e hp hj m w => nn_set S.e.len r1 hp (fun j y hj m => E1.notNew hp j y hj m) j' x' hj m w) (fun p z => fresh_pot E1.pot z)
    refine ⟨v, u, w, rfl, K.nx _ _ B3 H3 k3 (T2.item l r3 h02 (fun j' x' p e hp hj m w => ?_) (fun p z => fresh_pot E2.pot z))⟩
    exact nn_set (by rw [List.length_set, List.length_set]; exact S.e.len) r2 hp (nn_set S.e.len ra hp (fun j y hj m => E2.notNew hp j y hj m)) j' x' hj m w
/-- the same by a tuple -/
theorem wb_asg3 {ta tb tc : TE} {a b c : EM} {i j l : Nat} (ha : WM R ta a) (hb : WM R tb b) (hc : WM R tc c) : WB R (tAsg (tTup (tCons ta (tCons tb (tCons tc tNil)))) (gTup K 3 (gCons (gName i) (gCons (gName j) (gCons (gName l) gNil))))) (sPar3 i j l a b c) := fun P B0 H0 env σ B H D k S he Kk =>
  ha P env σ B H _ _ S.e he fun x v B1 H1 k1 s1 E1 r1 => hb P env σ B1 H1 _ _ E1 k1 fun y u B2 H2 k2 s2 E2 r2 => hc P env σ B2 H2 _ _ E2 k2 fun z w B3 H3 k3 s3 E3 r3 => by
    refine ⟨by show 3 ≤ sizeLine; decide, fun q hq => ?_⟩
    obtain ⟨s4, E4⟩ := E3.allocU (o := .tup [v, u, w]) hq
    refine ⟨q, _, rfl, Evl.st_of upd_same, rfl, v, _, rfl, u, _, rfl, w, _, rfl, rfl, ?_⟩
    have S3 := (((S.step s1 E1).step s2 E2).step s3 E3).step s4 E4
    have h0 : ∀ p, H p = none → H0 p = none := fun p z => fresh_backP S.s.hh (fresh_pot S.e.pot z) z
    have h01 : ∀ p, H1 p = none → H0 p = none := fun p z => h0 p (fresh_backP s1.hh (fresh_pot E1.pot z) z)
    have h02 : ∀ p, H2 p = none → H0 p = none := fun p z => h01 p (fresh_backP s2.hh (fresh_pot E2.pot z) z)
    have ra := (r1.step S.e.pot s1 s2)
    have ra3 := ra.step S.e.pot (s1.trans E1.pot s2) (s3.trans E3.pot s4)
    have rb3 := r2.step E1.pot s2 (s3.trans E3.pot s4)
    have rc3 := r3.step E2.pot s3 s4
    have T1 := S3.item i ra3 h0 (fun j x p _ hp hj m => S.e.notNew hp j x hj m) (fun p z => fresh_pot S.e.pot z)
    have T2 := T1.item j rb3 h01 (fun j' x' p e hp hj m w => nn_set S.e.len r1 hp (fun j y hj m => E1.notNew hp j y hj m) j' x' hj m w) (fun p z => fresh_pot E1.pot z)
    refine Kk.nx _ _ B3 _ k3 (T2.item l rc3 h02 (fun j' x' p e hp hj m w => ?_) (fun p z => fresh_pot E2.pot z))
    exact nn_set (by rw [List.length_set, List.length_set]; exact S.e.len) r2 hp (nn_set S.e.len ra hp (fun j y hj m => E2.notNew hp j y hj m)) j' x' hj m w
theorem wb_asg2 {ta tb : TE} {a b : EM} {i j : Nat} (ha : WM R ta a) (hb : WM R tb b) : WB R (tAsg (tTup (tCons ta (tCons tb tNil))) (gTup K 2 (gCons (gName i) (gCons (gName j) gNil)))) (sPar i j a b) := fun P B0 H0 env σ B H D k S he Kk =>
  ha P env σ B H _ _ S.e he fun x v B1 H1 k1 s1 E1 r1 => hb P env σ B1 H1 _ _ E1 k1 fun y u B2 H2 k2 s2 E2 r2 => by
    refine ⟨by show 2 ≤ sizeLine; decide, fun q hq => ?_⟩
    obtain ⟨s4, E4⟩ := E2.allocU (o := .tup [v, u]) hq
    refine ⟨q, _, rfl, Evl.st_of upd_same, rfl, v, _, rfl, u, _, rfl, rfl, ?_⟩
    have S3 := ((S.step s1 E1).step s2 E2).step s4 E4
    have h0 : ∀ p, H p = none → H0 p = none := fun p z => fresh_backP S.s.hh (fresh_pot S.e.pot z) z
    have h01 : ∀ p, H1 p = none → H0 p = none := fun p z => h0 p (fresh_backP s1.hh (fresh_pot E1.pot z) z)
    have ra3 := r1.step S.e.pot s1 (s2.trans E2.pot s4)
    have rb3 := r2.step E1.pot s2 s4
    have T1 := S3.item i ra3 h0 (fun j x p _ hp hj m => S.e.notNew hp j x hj m) (fun p z => fresh_pot S.e.pot z)
    refine Kk.nx _ _ B2 _ k2 (T1.item j rb3 h01 (fun j' x' p e hp hj m w => ?_) (fun p z => fresh_pot E1.pot z))
    exact nn_set S.e.len r1 hp (fun j y hj m => E1.notNew hp j y hj m) j' x' hj m w
end
end DL
set_option Elab.async false
set_option linter.all false
set_option maxRecDepth 100000
set_option maxHeartbeats 4000000
/-! defs whose last parameter is the pot -/
namespace DL
open PySem PySem.Spec PyProof.Rows L2
open Evl (Ex)
section
variable {R : OR} {K : PySem.W.Frag}
def spL (R : OR) (n : Nat) (ef : List D → (D → Prop) → Prop) : Sp := fun vs H Q _ => ∃ p B us ds k, vs = us ++ [V.ref p] ∧ PotOk (some p) H ∧ B p = none ∧ Ex B H ∧ RpA R B us ds ∧ ds.length = n ∧ ef ds k ∧
  ∀ d v B' H', k d → Step (some p) B H B' H' → PotOk (some p) H' → Rp R B' v d → Q v H'
def env0L (N : List Str) (ds : List D) : Env := ds.map SV.val ++ (SV.pot :: List.replicate (N.length - (1 + ds.length)) SV.un)
theorem start_okL {p : Addr} {B H : Hp} {N : List Str} {us : List V} {ds : List D} (po : PotOk (some p) H) (pb : B p = none) (bh : Ex B H) (r : RpA R B us ds) : SOk R (some p) B H (env0L N ds) (L2.start N (us ++ [V.ref p])) B H := by
  have hl := r.len
  have unAt : ∀ {n i : Nat} {sv : SV}, (List.replicate n SV.un)[i]? = some sv → sv = .un := fun h => (List.mem_replicate.mp (List.mem_of_getElem? h)).2
  have sl : ∀ i sv, (env0L N ds)[i]? = some sv → SlotOk R (some p) (L2.start N (us ++ [V.ref p])) B H i sv ∧ isM sv = false := by
    intro i sv h
    unfold env0L at h
    by_cases hi : i < (ds.map SV.val).length
    · rw [List.getElem?_append_left hi, List.getElem?_map] at h
      obtain ⟨d, hd, e⟩ := Option.map_eq_some_iff.mp h
      obtain ⟨v, hv, rv⟩ := r.get hd
      subst e
      refine ⟨⟨v, ?_, rv⟩, rfl⟩
      unfold L2.start
      have hi2 : i < us.length := by rw [hl]; simpa using hi
      rw [List.getElem?_append_left (by rw [List.length_map, List.length_append]; omega), List.getElem?_map, List.getElem?_append_left hi2, hv]
      rfl
    · rw [List.getElem?_append_right (by omega)] at h
      have hi3 : us.length ≤ i := by rw [hl]; simpa using hi
      cases hj : i - (ds.map SV.val).length with
      | zero =>
        rw [hj] at h
        cases h
        have e : i = us.length := by rw [hl]; rw [List.length_map] at hj hi; omega
        refine ⟨⟨p, rfl, ?_⟩, rfl⟩
        subst e
        unfold L2.start
        rw [List.getElem?_append_left (by rw [List.length_map, List.length_append]; simp), List.getElem?_map, List.getElem?_append_right (Nat.le_refl _), Nat.sub_self]
        rfl
      | succ j =>
        rw [hj, List.getElem?_cons_succ] at h
        rw [unAt h]
        exact ⟨trivial, rfl⟩
  refine ⟨{ len := ?_, bh := bh, pot := po, pb := fun q e => by cases e; exact pb, sl := fun i sv h => (sl i sv h).1, nd := fun a b x y q ha hb mx my sa sb => by rw [(sl a x ha).2] at mx; cases mx }, .refl bh, fun i sv p h m => by rw [(sl i sv h).2] at m; cases m⟩
  unfold env0L L2.start
  simp [hl]
  omega
theorem body_L {t : TS} {es : ES} {N : List Str} {n : Nat} (w : WB R t es) {vs : List V} {H : Hp} {Q : VK} {E : XK} (h : spL R n (fun ds k => es (env0L N ds) (knE k)) vs H Q E) : t { nx := fun _ H' => Q .non H', rt := Q } (L2.start N vs) H := by
  obtain ⟨p, B, us, ds, k, rfl, po, pb, bh, r, hn, he, q⟩ := h
  refine w (some p) B H _ _ B H _ (knE k) (start_okL po pb bh r) he ⟨fun env σ B' H' kk S => q .non .non B' H' kk S.s S.e.pot rp_non, fun d v B' H' kk s po r => q d v B' H' kk s po r, fun l p vs B' H' kk s po hp hb hh r => ?_, fun _ _ _ _ z => z.elim, fun _ _ _ _ z => z.elim⟩
  have e : Ex B' (upd B' p (.lst vs)) := Ex.new hb
  refine q (.lst l) (.ref p) (upd B' p (.lst vs)) H' kk ⟨s.bb.trans e, fun b o k => ?_, s.hh, fun b o k => ?_⟩ po (rp_lst upd_same (r.mono e l))
  · by_cases n : b = p
    · subst n; rw [upd_same] at k; cases k; exact hh
    · rw [upd_ne n] at k; exact s.bh b o k
  · by_cases n : b = p
    · subst n; exact .inr (.inl hp)
    · rw [upd_ne n] at k; exact s.nw b o k
theorem len_L {n : Nat} {ef : List D → (D → Prop) → Prop} {vs : List V} {H : Hp} {Q : VK} {E : XK} (h : spL R n ef vs H Q E) : vs.length = n + 1 := by
  obtain ⟨p, B, us, ds, k, rfl, po, pb, bh, r, hn, he, q⟩ := h
  rw [List.length_append, r.len, hn]; rfl
def WAL (R : OR) (i : Nat) (ta : TA) (ea : EL) : Prop := ∀ P env σ B H (Q : List V → Hp → Prop) k (p : Addr), EnvOk R P env σ B H → σ[i]? = some (some (V.ref p)) → ea env k → (∀ ds vs B' H', k ds → Step P B H B' H' → EnvOk R P env σ B' H' → RpA R B' vs ds → Q (vs ++ [V.ref p]) H') → ta σ H Q
theorem wal_nil {i : Nat} : WAL R i (tCons (tVar i) tNil) eaNil := fun P env σ B H Q k p E hs he q => ⟨_, hs, q [] [] B H he (.refl E.bh) E .nil⟩
theorem wal_cons {i : Nat} {t : TE} {ta : TA} {e : EE} {ea : EL} (h : WE R t e) (hs : WAL R i ta ea) : WAL R i (tCons t ta) (eaCons e ea) := fun P env σ B H Q k p E hp he q =>
  h P env σ B H _ _ E he fun d v B1 H1 k1 s1 E1 r1 => hs P env σ B1 H1 _ _ p E1 hp k1 fun ds vs B2 H2 k2 s2 E2 r2 =>
    q (d :: ds) (v :: vs) B2 H2 k2 (s1.trans E1.pot s2) E2 (.cons (r1.mono s2.bb d) r2)
def eCallL (i n : Nat) (ef : List D → (D → Prop) → Prop) (ea : EL) : EE := fun env k => env[i]? = some .pot ∧ ea env fun ds => ds.length = n ∧ ef ds k
theorem we_callL {i n : Nat} {ef : List D → (D → Prop) → Prop} {tas : TA} {eas : EL} {E : XK} (h : WAL R i tas eas) : WE R (tCall (spL R n ef) [] E tas) (eCallL i n ef eas) := fun P env σ B H Q k Ev he q => by
  obtain ⟨hi, he⟩ := he
  obtain ⟨p, hP, hs⟩ := Ev.sl i _ hi
  subst hP
  refine h (some p) env σ B H _ _ p Ev hs he fun ds vs B1 H1 kd s1 E1 r1 => ?_
  rw [List.append_nil]
  exact ⟨p, B1, vs, ds, k, rfl, E1.pot, E1.pb p rfl, E1.bh, r1, kd.1, kd.2, fun d v B2 H2 k2 s2 po r2 => q d v B2 H2 k2 (s1.trans E1.pot s2) (E1.step s2 po) r2⟩
end
end DL
set_option Elab.async false
set_option linter.all false
set_option maxRecDepth 100000
set_option maxHeartbeats 4000000
namespace K75
open PySem PySem.Spec PyProof.Rows L2
def topS (i : Nat) : Stmt := PySem.Challenge.pw_lanekeepers_k75_whole_rounds_all_stands.main.body.getD i (.Pass ⟨0, 0, 0, 0⟩)
abbrev s_is_count : Stmt := topS 6
abbrev n_is_count : List Str := ["value"]
theorem sc_is_count : FnScope n_is_count ["value"] (defScope s_is_count) := ⟨rfl, rfl, rfl, by decide +kernel, rfl, by decide +kernel, by decide +kernel⟩
abbrev s_is_row : Stmt := topS 7
abbrev n_is_row : List Str := ["value"]
theorem sc_is_row : FnScope n_is_row ["value"] (defScope s_is_row) := ⟨rfl, rfl, rfl, by decide +kernel, rfl, by decide +kernel, by decide +kernel⟩
abbrev s_round_fewest : Stmt := topS 12
abbrev n_round_fewest : List Str := ["places", "forward", "backward"]
theorem sc_round_fewest : FnScope n_round_fewest ["places", "forward", "backward"] (defScope s_round_fewest) := ⟨rfl, rfl, rfl, by decide +kernel, rfl, by decide +kernel, by decide +kernel⟩
abbrev s_round_stand : Stmt := topS 13
abbrev n_round_stand : List Str := ["places", "forward", "backward", "found", "first", "last", "bound", "stand"]
theorem sc_round_stand : FnScope n_round_stand ["places", "forward", "backward"] (defScope s_round_stand) := ⟨rfl, rfl, rfl, by decide +kernel, rfl, by decide +kernel, by decide +kernel⟩
abbrev s_is_round_stuck : Stmt := topS 14
abbrev n_is_round_stuck : List Str := ["places", "forward", "backward", "value"]
theorem sc_is_round_stuck : FnScope n_is_round_stuck ["places", "forward", "backward", "value"] (defScope s_is_round_stuck) := ⟨rfl, rfl, rfl, by decide +kernel, rfl, by decide +kernel, by decide +kernel⟩
abbrev s_check_round : Stmt := topS 15
abbrev n_check_round : List Str := ["places", "forward", "backward", "many"]
theorem sc_check_round : FnScope n_check_round ["places", "forward", "backward"] (defScope s_check_round) := ⟨rfl, rfl, rfl, by decide +kernel, rfl, by decide +kernel, by decide +kernel⟩
abbrev s_are_round_bounds : Stmt := topS 16
abbrev n_are_round_bounds : List Str := ["places", "value", "bound", "most"]
theorem sc_are_round_bounds : FnScope n_are_round_bounds ["places", "value"] (defScope s_are_round_bounds) := ⟨rfl, rfl, rfl, by decide +kernel, rfl, by decide +kernel, by decide +kernel⟩
abbrev s_carts_in_all : Stmt := topS 17
abbrev n_carts_in_all : List Str := ["stand", "onward", "back"]
theorem sc_carts_in_all : FnScope n_carts_in_all ["stand"] (defScope s_carts_in_all) := ⟨rfl, rfl, rfl, by decide +kernel, rfl, by decide +kernel, by decide +kernel⟩
abbrev s_round_pairs : Stmt := topS 18
abbrev n_round_pairs : List Str := ["places", "forward", "backward", "yards", "first", "last"]
theorem sc_round_pairs : FnScope n_round_pairs ["places", "forward", "backward"] (defScope s_round_pairs) := ⟨rfl, rfl, rfl, by decide +kernel, rfl, by decide +kernel, by decide +kernel⟩
abbrev s_stand_between : Stmt := topS 19
abbrev n_stand_between : List Str := ["places", "forward", "backward", "first", "last", "stand", "at", "_"]
theorem sc_stand_between : FnScope n_stand_between ["places", "forward", "backward", "first", "last"] (defScope s_stand_between) := ⟨rfl, rfl, rfl, by decide +kernel, rfl, by decide +kernel, by decide +kernel⟩
abbrev s_is_round_stand : Stmt := topS 20
abbrev n_is_round_stand : List Str := ["places", "forward", "backward", "value", "pair", "at"]
theorem sc_is_round_stand : FnScope n_is_round_stand ["places", "forward", "backward", "value"] (defScope s_is_round_stand) := ⟨rfl, rfl, rfl, by decide +kernel, rfl, by decide +kernel, by decide +kernel⟩
abbrev s_is_pair_of_counts : Stmt := topS 21
abbrev n_is_pair_of_counts : List Str := ["value"]
theorem sc_is_pair_of_counts : FnScope n_is_pair_of_counts ["value"] (defScope s_is_pair_of_counts) := ⟨rfl, rfl, rfl, by decide +kernel, rfl, by decide +kernel, by decide +kernel⟩
abbrev s_is_stuck_round : Stmt := topS 22
abbrev n_is_stuck_round : List Str := ["places", "forward", "backward", "stand", "at", "ahead", "back"]
theorem sc_is_stuck_round : FnScope n_is_stuck_round ["places", "forward", "backward", "stand"] (defScope s_is_stuck_round) := ⟨rfl, rfl, rfl, by decide +kernel, rfl, by decide +kernel, by decide +kernel⟩
abbrev s_l_pot : Stmt := topS 24
abbrev n_l_pot : List Str := ["_law_script", "_law_k", "_law_cell"]
theorem sc_l_pot : FnScope n_l_pot ["_law_script", "_law_k"] (defScope s_l_pot) := ⟨rfl, rfl, rfl, by decide +kernel, rfl, by decide +kernel, by decide +kernel⟩
abbrev s_l_draw : Stmt := topS 25
abbrev n_l_draw : List Str := ["_law_pot_here", "_law_many", "_law_digit"]
theorem sc_l_draw : FnScope n_l_draw ["_law_pot_here", "_law_many"] (defScope s_l_draw) := ⟨rfl, rfl, rfl, by decide +kernel, rfl, by decide +kernel, by decide +kernel⟩
abbrev s_l_pick : Stmt := topS 26
abbrev n_l_pick : List Str := ["_law_pot_here", "_law_some"]
theorem sc_l_pick : FnScope n_l_pick ["_law_pot_here", "_law_some"] (defScope s_l_pick) := ⟨rfl, rfl, rfl, by decide +kernel, rfl, by decide +kernel, by decide +kernel⟩
abbrev s_l_all : Stmt := topS 27
abbrev n_l_all : List Str := ["_law_places", "_law_forward", "_law_backward", "_law_found", "_law_at", "_law_some", "_law_on", "_law_back"]
theorem sc_l_all : FnScope n_l_all ["_law_places", "_law_forward", "_law_backward"] (defScope s_l_all) := ⟨rfl, rfl, rfl, by decide +kernel, rfl, by decide +kernel, by decide +kernel⟩
abbrev s_l_longer : Stmt := topS 28
abbrev n_l_longer : List Str := ["_law_found", "_law_some", "_law_later", "_law_stand", "_law_one"]
theorem sc_l_longer : FnScope n_l_longer ["_law_found", "_law_some"] (defScope s_l_longer) := ⟨rfl, rfl, rfl, by decide +kernel, rfl, by decide +kernel, by decide +kernel⟩
abbrev s_l_is_stuck : Stmt := topS 29
abbrev n_l_is_stuck : List Str := ["_law_places", "_law_forward", "_law_backward", "_law_stand", "_law_many", "_law_at", "_law_one", "_law_ahead", "_law_behind"]
theorem sc_l_is_stuck : FnScope n_l_is_stuck ["_law_places", "_law_forward", "_law_backward", "_law_stand"] (defScope s_l_is_stuck) := ⟨rfl, rfl, rfl, by decide +kernel, rfl, by decide +kernel, by decide +kernel⟩
abbrev s_l_judged_right : Stmt := topS 30
abbrev n_l_judged_right : List Str := ["_law_places", "_law_forward", "_law_backward", "_law_stands", "_law_pot_here", "_law_turn", "_law_stand", "_law_given", "_law_due"]
theorem sc_l_judged_right : FnScope n_l_judged_right ["_law_places", "_law_forward", "_law_backward", "_law_stands", "_law_pot_here"] (defScope s_l_judged_right) := ⟨rfl, rfl, rfl, by decide +kernel, rfl, by decide +kernel, by decide +kernel⟩
abbrev s_l_right : Stmt := topS 31
abbrev n_l_right : List Str := ["_law_pot_here", "_law_many", "_law_places", "_law_forward", "_law_backward", "_law_at", "_law_shown", "_law_stands", "_law_stuck", "_law_least", "_law_told", "_law_step", "_law_stand", "_law_one"]
theorem sc_l_right : FnScope n_l_right ["_law_pot_here"] (defScope s_l_right) := ⟨rfl, rfl, rfl, by decide +kernel, rfl, by decide +kernel, by decide +kernel⟩
abbrev s_law : Stmt := topS 32
abbrev n_law : List Str := ["_law_script"]
theorem sc_law : FnScope n_law ["_law_script"] (defScope s_law) := ⟨rfl, rfl, rfl, by decide +kernel, rfl, by decide +kernel, by decide +kernel⟩
structure Adr where
  is_count : Addr
  is_count_fd : FuncData
  is_row : Addr
  is_row_fd : FuncData
  round_fewest : Addr
  round_fewest_fd : FuncData
  round_stand : Addr
  round_stand_fd : FuncData
  is_round_stuck : Addr
  is_round_stuck_fd : FuncData
  check_round : Addr
  check_round_fd : FuncData
  are_round_bounds : Addr
  are_round_bounds_fd : FuncData
  carts_in_all : Addr
  carts_in_all_fd : FuncData
  round_pairs : Addr
  round_pairs_fd : FuncData
  stand_between : Addr
  stand_between_fd : FuncData
  is_round_stand : Addr
  is_round_stand_fd : FuncData
  is_pair_of_counts : Addr
  is_pair_of_counts_fd : FuncData
  is_stuck_round : Addr
  is_stuck_round_fd : FuncData
  l_pot : Addr
  l_pot_fd : FuncData
  l_draw : Addr
  l_draw_fd : FuncData
  l_pick : Addr
  l_pick_fd : FuncData
  l_all : Addr
  l_all_fd : FuncData
  l_longer : Addr
  l_longer_fd : FuncData
  l_is_stuck : Addr
  l_is_stuck_fd : FuncData
  l_judged_right : Addr
  l_judged_right_fd : FuncData
  l_right : Addr
  l_right_fd : FuncData
  law : Addr
  law_fd : FuncData
structure Txt (K : PySem.W.Frag) (mg : Str → Option Value) (A : Adr) : Prop where
  F_is_count : Fun K "is_count" "is_count" s_is_count A.is_count A.is_count_fd
  b_is_count : L2.Binds K A.is_count_fd ["value"] []
  m_is_count : mg "is_count" = some (.ref A.is_count)
  F_is_row : Fun K "is_row" "is_row" s_is_row A.is_row A.is_row_fd
  b_is_row : L2.Binds K A.is_row_fd ["value"] []
  m_is_row : mg "is_row" = some (.ref A.is_row)
  F_round_fewest : Fun K "round_fewest" "round_fewest" s_round_fewest A.round_fewest A.round_fewest_fd
  b_round_fewest : L2.Binds K A.round_fewest_fd ["places", "forward", "backward"] []
  m_round_fewest : mg "round_fewest" = some (.ref A.round_fewest)
  F_round_stand : Fun K "round_stand" "round_stand" s_round_stand A.round_stand A.round_stand_fd
  b_round_stand : L2.Binds K A.round_stand_fd ["places", "forward", "backward"] []
  m_round_stand : mg "round_stand" = some (.ref A.round_stand)
  F_is_round_stuck : Fun K "is_round_stuck" "is_round_stuck" s_is_round_stuck A.is_round_stuck A.is_round_stuck_fd
  b_is_round_stuck : L2.Binds K A.is_round_stuck_fd ["places", "forward", "backward", "value"] []
  m_is_round_stuck : mg "is_round_stuck" = some (.ref A.is_round_stuck)
  F_check_round : Fun K "check_round" "check_round" s_check_round A.check_round A.check_round_fd
  b_check_round : L2.Binds K A.check_round_fd ["places", "forward", "backward"] []
  m_check_round : mg "check_round" = some (.ref A.check_round)
  F_are_round_bounds : Fun K "are_round_bounds" "are_round_bounds" s_are_round_bounds A.are_round_bounds A.are_round_bounds_fd
  b_are_round_bounds : L2.Binds K A.are_round_bounds_fd ["places", "value"] []
  m_are_round_bounds : mg "are_round_bounds" = some (.ref A.are_round_bounds)
  F_carts_in_all : Fun K "carts_in_all" "carts_in_all" s_carts_in_all A.carts_in_all A.carts_in_all_fd
  b_carts_in_all : L2.Binds K A.carts_in_all_fd ["stand"] []
  m_carts_in_all : mg "carts_in_all" = some (.ref A.carts_in_all)
  F_round_pairs : Fun K "round_pairs" "round_pairs" s_round_pairs A.round_pairs A.round_pairs_fd
  b_round_pairs : L2.Binds K A.round_pairs_fd ["places", "forward", "backward"] []
  m_round_pairs : mg "round_pairs" = some (.ref A.round_pairs)
  F_stand_between : Fun K "stand_between" "stand_between" s_stand_between A.stand_between A.stand_between_fd
  b_stand_between : L2.Binds K A.stand_between_fd ["places", "forward", "backward", "first", "last"] []
  m_stand_between : mg "stand_between" = some (.ref A.stand_between)
  F_is_round_stand : Fun K "is_round_stand" "is_round_stand" s_is_round_stand A.is_round_stand A.is_round_stand_fd
  b_is_round_stand : L2.Binds K A.is_round_stand_fd ["places", "forward", "backward", "value"] []
  m_is_round_stand : mg "is_round_stand" = some (.ref A.is_round_stand)
  F_is_pair_of_counts : Fun K "is_pair_of_counts" "is_pair_of_counts" s_is_pair_of_counts A.is_pair_of_counts A.is_pair_of_counts_fd
  b_is_pair_of_counts : L2.Binds K A.is_pair_of_counts_fd ["value"] []
  m_is_pair_of_counts : mg "is_pair_of_counts" = some (.ref A.is_pair_of_counts)
  F_is_stuck_round : Fun K "is_stuck_round" "is_stuck_round" s_is_stuck_round A.is_stuck_round A.is_stuck_round_fd
  b_is_stuck_round : L2.Binds K A.is_stuck_round_fd ["places", "forward", "backward", "stand"] []
  m_is_stuck_round : mg "is_stuck_round" = some (.ref A.is_stuck_round)
  F_l_pot : Fun K "_law_pot" "_law_pot" s_l_pot A.l_pot A.l_pot_fd
  b_l_pot : L2.Binds K A.l_pot_fd ["_law_script", "_law_k"] []
  m_l_pot : mg "_law_pot" = some (.ref A.l_pot)
  F_l_draw : Fun K "_law_draw" "_law_draw" s_l_draw A.l_draw A.l_draw_fd
  b_l_draw : L2.Binds K A.l_draw_fd ["_law_pot_here", "_law_many"] []
  m_l_draw : mg "_law_draw" = some (.ref A.l_draw)
  F_l_pick : Fun K "_law_pick" "_law_pick" s_l_pick A.l_pick A.l_pick_fd
  b_l_pick : L2.Binds K A.l_pick_fd ["_law_pot_here", "_law_some"] []
  m_l_pick : mg "_law_pick" = some (.ref A.l_pick)
  F_l_all : Fun K "_law_all" "_law_all" s_l_all A.l_all A.l_all_fd
  b_l_all : L2.Binds K A.l_all_fd ["_law_places", "_law_forward", "_law_backward"] []
  m_l_all : mg "_law_all" = some (.ref A.l_all)
  F_l_longer : Fun K "_law_longer" "_law_longer" s_l_longer A.l_longer A.l_longer_fd
  b_l_longer : L2.Binds K A.l_longer_fd ["_law_found", "_law_some"] []
  m_l_longer : mg "_law_longer" = some (.ref A.l_longer)
  F_l_is_stuck : Fun K "_law_is_stuck" "_law_is_stuck" s_l_is_stuck A.l_is_stuck A.l_is_stuck_fd
  b_l_is_stuck : L2.Binds K A.l_is_stuck_fd ["_law_places", "_law_forward", "_law_backward", "_law_stand"] []
  m_l_is_stuck : mg "_law_is_stuck" = some (.ref A.l_is_stuck)
  F_l_judged_right : Fun K "_law_judged_right" "_law_judged_right" s_l_judged_right A.l_judged_right A.l_judged_right_fd
  b_l_judged_right : L2.Binds K A.l_judged_right_fd ["_law_places", "_law_forward", "_law_backward", "_law_stands", "_law_pot_here"] []
  m_l_judged_right : mg "_law_judged_right" = some (.ref A.l_judged_right)
  F_l_right : Fun K "_law_right" "_law_right" s_l_right A.l_right A.l_right_fd
  b_l_right : L2.Binds K A.l_right_fd ["_law_pot_here"] []
  m_l_right : mg "_law_right" = some (.ref A.l_right)
  F_law : Fun K "law" "law" s_law A.law A.law_fd
  b_law : L2.Binds K A.law_fd ["_law_script"] []
  m_law : mg "law" = some (.ref A.law)
  g_MOST_PLACES : ∃ t, mg "MOST_PLACES" = some (.int 6 t)
  g_FEWEST_IN_A_ROUND : ∃ t, mg "FEWEST_IN_A_ROUND" = some (.int 3 t)
  g_MOST_IN_A_ROUND : ∃ t, mg "MOST_IN_A_ROUND" = some (.int 7 t)
  n_abs : mg "abs" = none
  n_all : mg "all" = none
  n_any : mg "any" = none
  n_bool : mg "bool" = none
  n_divmod : mg "divmod" = none
  n_enumerate : mg "enumerate" = none
  n_int : mg "int" = none
  n_isinstance : mg "isinstance" = none
  n_len : mg "len" = none
  n_list : mg "list" = none
  n_max : mg "max" = none
  n_min : mg "min" = none
  n_range : mg "range" = none
  n_repr : mg "repr" = none
  n_sum : mg "sum" = none
  n_tuple : mg "tuple" = none
  n_zip : mg "zip" = none
end K75


set_option Elab.async false
set_option linter.all false
set_option maxRecDepth 100000
set_option maxHeartbeats 4000000
namespace K75
open PySem PySem.Spec PyProof.Rows L2 TM Pr Ep Nw
open Evl (Ex Ev EvT EvA EvL EvU EvO)
section
variable {P : Program} {w : World} {K : PySem.W.Frag} {mg : Str → Option Value} {base : Heap} {A : Adr}
/-- as spDraw, with a wider bound -/
def spDrawM : Sp := fun vs H Q _ => ∃ p m, vs = [.ref p, vI m] ∧ PotAt H p ∧ 0 < m ∧ m ≤ 1000000 ∧ ∀ d H', d < m → PotAt H' p → ExB p H H' → Q (vI d) H'
theorem ok_l_pot (T : Txt K mg A) : FnOk P w K mg base CX0 1 A.l_pot A.l_pot_fd ["_law_script", "_law_k"] (spPot K) := by
  refine T.F_l_pot.ok sc_l_pot (fun vs H Q E h => ?_) (fun cdv A' outer s H vs Q E hr h => ?_)
  · obtain ⟨a, ns, k, rfl, _⟩ := h
    rfl
  · obtain ⟨a, ns, k, rfl, hS, hk, q⟩ := h
    refine ⟨_, (pss_cons (ps_set (i := 2) sc_l_pot.nd rfl (Or.inl rfl) (pe_ifExp (pt_cmpR op_lt (pv 1) (show PE _ _ (tCB (rLenA K) _) from (pe_callB (id := "len") call_len (by rfl) T.n_len (by decide +kernel) (pa_cons (pv 0) pa_nil))) (nomark _)) (pe_callB (id := "abs") call_abs (by rfl) T.n_abs (by decide +kernel) (pa_cons (show PE _ _ (tOp (rIxL K) _ _) from pe_ix ix_list (pv 0) (pv 1) (fun _ _ => rfl)) pa_nil)) (pe_op op_add (pe_op op_mul pe_int (pv 1)) pe_int))) (pss_one (ps_ret (pe_lst (pa_cons (pe_callB (id := "max") (call_max2 rfl) (by rfl) T.n_max (by decide +kernel) (pa_cons pe_int (pa_cons (pe_op op_sub (pv 2) (pe_op op_pow pe_int pe_int)) pa_nil))) (pa_cons (pe_op op_add (pe_op op_modN (pe_callTy (T := "int") call_int1 (by rfl) T.n_int (by decide +kernel) (pa_cons (pe_op op_add (pe_op op_add (pe_op op_mul (pe_op op_modN (pe_callTy (T := "int") call_int1 (by rfl) T.n_int (by decide +kernel) (pa_cons (pv 2) pa_nil)) pe_int) pe_int) (pe_op op_mul pe_int (pv 1))) pe_int) pa_nil)) pe_int) pe_int) pa_nil)))))), ?_⟩
    have hcell : EvP (tIf (tTest (tOp (rI0 fun i j => V.bl (decide (i < j))) (tVar 1) (tCB (rLenA K) (tCons (tVar 0) tNil)))) (tCB (fun xs H Q => ∃ i, xs = [.int i] ∧ Q (.int (if i < 0 then -i else i)) H) (tCons (tOp (rIxL K) (tVar 0) (tVar 1)) tNil)) (tOp (rI0 fun i j => V.int (i + j)) (tOp (rI CMul fun i j => V.int (i * j)) (tC (.int 641)) (tVar 1)) (tC (.int 593)))) [some (.ref a), some (vI k), none] H (fun v _ _ => ∃ c : Int, v = .int c ∧ 0 ≤ c) := by
      intro H1 e1 Q' q'
      have hS1 := Evl.ex_l e1 hS
      refine ⟨_, rfl, _, rfl, .ref a, _, rfl, .inl ⟨_, hS1, rfl⟩, _, _, rfl, rfl, _, rfl, ?_⟩
      refine ite2 (fun hc => ?_) (fun hc => ?_)
      · have hlt : k < ns.length := by
          have := of_decide_eq_true hc
          rw [List.length_map] at this
          omega
        refine ⟨_, rfl, _, rfl, a, _, _, .int ns[k], rfl, rfl, hS1, at_of rfl (by rw [List.getElem?_map, List.getElem?_eq_getElem hlt]; rfl), ns[k], rfl, q' _ H1 (Ex.refl _) ⟨_, rfl, ?_⟩⟩
        split <;> omega
      · refine ⟨_, rfl, _, _, rfl, rfl, .inl ⟨by decide, by decide⟩, _, _, rfl, rfl, q' _ H1 (Ex.refl _) ⟨_, rfl, ?_⟩⟩
        omega
    refine p_asg hcell fun v H1 e1 hv => ?_
    obtain ⟨c, rfl, hc⟩ := hv
    refine ⟨_, rfl, _, _, rfl, rfl, (by exact ⟨by decide, by decide, by decide⟩), _, _, rfl, rfl, _, _, rfl, ?_⟩
    refine ⟨_, rfl, .inl ⟨c, rfl, c, _, rfl, rfl, (by show (2147483549 : Int) ≠ 0; decide), _, _, rfl, rfl, .inr ⟨by decide, by decide⟩, _, rfl, _, _, rfl, rfl, .inl ⟨by decide, by decide⟩, _, _, rfl, rfl, _, _, rfl, rfl, .inl ⟨_, rfl, _, _, rfl, rfl, (by show (2147483563 : Int) ≠ 0; decide), _, _, rfl, rfl, ?_⟩⟩⟩
    refine ⟨(by show 2 ≤ sizeLine; decide), fun p hp => ?_⟩
    refine q p _ (e1.trans (Ex.new hp)) (Evl.fresh_back e1 hp) ⟨_, _, upd_same, ?_, ?_, ?_⟩
    · split <;> omega
    · have := Int.fmod_nonneg_of_pos ((c.fmod 2147483549) * 41081 + 4021 * (k : Int) + 601) (b := 2147483563) (by decide)
      omega
    · have := Int.fmod_lt_of_pos ((c.fmod 2147483549) * 41081 + 4021 * (k : Int) + 601) (b := 2147483563) (by decide)
      omega
theorem ok_l_draw (T : Txt K mg A) : FnOk P w K mg base CX0 1 A.l_draw A.l_draw_fd ["_law_pot_here", "_law_many"] spDrawM := by
  refine T.F_l_draw.ok sc_l_draw (fun vs H Q E h => ?_) (fun cdv A' outer s H vs Q E hr h => ?_)
  · obtain ⟨p, m, rfl, _⟩ := h
    rfl
  · obtain ⟨p, m, rfl, ⟨a, b, hp, ha, hb, hb2⟩, hm, hm2, k⟩ := h
    refine ⟨_, (pss_cons (ps_if (pt_cmpR op_gt (show PE _ _ (tOp (rIxL K) _ _) from pe_ix ix_list (pv 0) pe_int (fun _ _ => rfl)) pe_int (nomark _)) (pss_cons (ps_asg (pe_callB (id := "divmod") call_divmod (by rfl) T.n_divmod (by decide +kernel) (pa_cons (show PE _ _ (tOp (rIxL K) _ _) from pe_ix ix_list (pv 0) pe_int (fun _ _ => rfl)) (pa_cons (pv 1) pa_nil))) (show PG _ _ (gTup K 2 _) from pg_tup rfl (pgs_cons (pg_sub (pv 0) pe_int set_list) (pgs_cons (pg_name (i := 2) sc_l_draw.nd rfl (Or.inl rfl)) pgs_nil)))) (pss_one (ps_ret (pv 2)))) pss_nil) (pss_cons (ps_asg (pe_op op_modN (pe_callTy (T := "int") call_int1 (by rfl) T.n_int (by decide +kernel) (pa_cons (pe_op op_add (pe_op op_mul (show PE _ _ (tOp (rIxL K) _ _) from pe_ix ix_list (pv 0) pe_int (fun _ _ => rfl)) pe_int) pe_int) pa_nil)) pe_int) (pg_sub (pv 0) pe_int set_list)) (pss_one (ps_ret (pe_op op_modN (pe_callTy (T := "int") call_int1 (by rfl) T.n_int (by decide +kernel) (pa_cons (pe_op op_fdiv (pe_op op_modN (pe_callTy (T := "int") call_int1 (by rfl) T.n_int (by decide +kernel) (pa_cons (pe_op op_mul (show PE _ _ (tOp (rIxL K) _ _) from pe_ix ix_list (pv 0) pe_int (fun _ _ => rfl)) (show PE _ _ (tOp (rIxL K) _ _) from pe_ix ix_list (pv 0) pe_int (fun _ _ => rfl))) pa_nil)) pe_int) pe_int) pa_nil)) (pv 1)))))), ?_⟩
    have hc : ∀ (z : Int), CDiv z (m : Int) := fun z => ⟨by omega, by omega⟩
    have item : ∀ {H1 : Hp} {xs : List V} {j : Nat} {v : V}, H1 p = some (.lst xs) → xs[j]? = some v → Ev (tOp (rIxL K) (tVar 0) (tC (.int (j : Int)))) [some (.ref p), some (vI m), none] H1 v := fun h g => Evl.ev_op (Evl.ev_var rfl) Evl.ev_c (Evl.rv_ixL (Evl.sq_of h) (at_of rfl g))
    refine Evl.q_when (Evl.et_test (Evl.ev_op (item (j := 0) hp rfl) Evl.ev_c rv_I0P)) (fun _ H0 e0 => ?_) (fun _ H0 e0 => ?_)
    all_goals
      have hp := e0 _ _ hp
      have k : ∀ (d : Nat) (H' : Hp), d < m → PotAt H' p → ExB p H0 H' → Q (vI d) H' := fun d H' h1 h2 h3 => k d H' h1 h2 ((ExB.of e0).trans h3)
    · -- a digit
      refine ⟨_, rfl, p, _, 0, .int a, rfl, rfl, Evl.sq_of hp, at_of (j := 0) rfl rfl, _, rfl, a, m, rfl, hc a, fun t ht => ?_⟩
      have npt : p ≠ t := ne_of_none hp ht
      refine ⟨t, _, rfl, Evl.st_of upd_same, rfl, _, _, rfl, _, rfl, p, _, 0, 0, rfl, rfl, (by rw [upd_ne npt]; exact hp), (Evl.ixN_nat (j := 0) (by show 0 < 2; decide)), _, _, rfl, rfl, ?_⟩
      have hmod := Int.emod_nonneg a (b := (m : Int)) (by omega)
      have hlt := Int.emod_lt_of_pos a (b := (m : Int)) (by omega)
      refine ⟨_, rfl, ?_⟩
      have e : a % (m : Int) = ((a % (m : Int)).toNat : Int) := by omega
      have z := k (a % (m : Int)).toNat (upd (upd H0 t (.tup [.int (a / m), .int (a % m)])) p (.lst [.int (a / m), .int b])) (by omega) ⟨_, _, upd_same, Int.ediv_nonneg ha (by omega), hb, hb2⟩ (fun c o h n => by rw [upd_ne n, upd_ne (ne_of_none h ht)]; exact h)
      have ev : vI (a % (m : Int)).toNat = V.int (a % (m : Int)) := by show V.int _ = _; rw [← e]
      rw [ev] at z
      exact z
    · -- a number of its own
      have hn := Int.fmod_nonneg_of_pos (b * 40014 + 1109) (b := 2147483563) (by decide)
      have hl := Int.fmod_lt_of_pos (b * 40014 + 1109) (b := 2147483563) (by decide)
      refine Evl.q_setL (l := p) (xs := [.int a, .int b]) (j := 1) (v := .int ((b * 40014 + 1109).fmod 2147483563)) hp (Evl.ev_op (ev_cb1 (Evl.ev_op (Evl.ev_op (item (j := 1) hp rfl) Evl.ev_c (Evl.rv_I (.inr ⟨by decide, by decide⟩))) Evl.ev_c rv_I0P) fun _ _ _ q => .inl ⟨_, rfl, q⟩) Evl.ev_c (Evl.rv_I (by show (2147483563 : Int) ≠ 0; decide))) (Evl.ev_var rfl) Evl.ev_c (by show 1 < 2; decide) fun H1 e1 => ?_
      have es : ([V.int a, V.int b]).set 1 (V.int ((b * 40014 + 1109).fmod 2147483563)) = [V.int a, V.int ((b * 40014 + 1109).fmod 2147483563)] := by rfl
      rw [es]
      generalize (b * 40014 + 1109).fmod 2147483563 = c at hn hl ⊢
      have hp2 : (upd H1 p (.lst [.int a, .int c])) p = some (.lst [.int a, .int c]) := upd_same
      refine ⟨_, rfl, p, _, 1, .int c, rfl, rfl, Evl.sq_of hp2, at_of (j := 1) rfl rfl, _, rfl, p, _, 1, .int c, rfl, rfl, Evl.sq_of hp2, at_of (j := 1) rfl rfl, _, _, rfl, rfl, .inl ⟨by omega, by omega⟩, .inl ⟨_, rfl, _, _, rfl, rfl, (by show (2147483587 : Int) ≠ 0; decide), _, _, rfl, rfl, ⟨by decide, by decide⟩, .inl ⟨_, rfl, _, rfl, _, _, rfl, rfl, (by show (m : Int) ≠ 0; omega), ?_⟩⟩⟩
      have hn2 := Int.fmod_nonneg_of_pos ((c * c).fmod 2147483587 / 21) (b := (m : Int)) (by omega)
      have hl2 := Int.fmod_lt_of_pos ((c * c).fmod 2147483587 / 21) (b := (m : Int)) (by omega)
      have e : ((c * c).fmod 2147483587 / 21).fmod (m : Int) = ((((c * c).fmod 2147483587 / 21).fmod (m : Int)).toNat : Int) := by omega
      have z := k (((c * c).fmod 2147483587 / 21).fmod (m : Int)).toNat (upd H1 p (.lst [.int a, .int c])) (by omega) ⟨_, _, upd_same, ha, hn, by omega⟩ (fun d o h n => by rw [upd_ne n]; exact e1 _ _ h)
      have ev : vI (((c * c).fmod 2147483587 / 21).fmod (m : Int)).toNat = V.int (((c * c).fmod 2147483587 / 21).fmod (m : Int)) := by show V.int _ = _; rw [← e]
      rw [ev] at z
      exact z
end
end K75

set_option Elab.async false
set_option linter.all false
set_option maxRecDepth 100000
set_option maxHeartbeats 4000000
/-! what is drawn, told of data -/
namespace DL
open PySem PySem.Spec PyProof.Rows L2 Pr Ep Nw
open Evl (Ex)
abbrev dN (n : Nat) : D := .int (n : Int)
abbrev dNs (l : List Nat) : List D := l.map dN
def b_none : List D → (D → Prop) → Prop := fun _ _ => False
def b_draw : List D → (D → Prop) → Prop := fun ds k => ∃ m, ds = [dN m] ∧ 0 < m ∧ m ≤ 1000000 ∧ ∀ d, d < m → k (dN d)
theorem rpa_nats {R : OR} {B : Hp} : ∀ {l : List Nat}, RpA R B (vIs l) (dNs l)
  | [] => .nil
  | _ :: _ => .cons rp_int rpa_nats
end DL
namespace K75
open PySem PySem.Spec PyProof.Rows L2 Pr Ep Nw DL
section
variable {P : Program} {w : World} {K : PySem.W.Frag} {mg : Str → Option Value} {base : Heap} {A : Adr}
abbrev oRA (A : Adr) : OR := oR 0 0
theorem okb_l_draw (T : Txt K mg A) : FnOk P w K mg base CX0 1 A.l_draw A.l_draw_fd ["_law_pot_here", "_law_many"] (spE (oRA A) true 1 b_draw) := (fn_frame (ok_l_draw T)).imp (br_E fun P B vs us ds k Q hP po hn r he q E => by
  obtain ⟨m, rfl, h0, hm, hk⟩ := he
  rcases hP with ⟨_, z, _⟩ | ⟨p, rfl, _, rfl⟩
  · cases z
  · match us, r with
    | [u], r =>
      simp only [RpA, Rp] at r
      obtain ⟨rfl, _⟩ := r
      exact ⟨p, m, rfl, po p rfl, h0, by omega, fun d H' hd hp' e => q _ _ H' (hk d hd) (fun b o hb n => e b o hb fun z => n (by rw [z])) (fun p' z => by cases z; exact hp') rp_int⟩)
end
end K75


set_option Elab.async false
set_option linter.all false
set_option maxRecDepth 100000
set_option maxHeartbeats 4000000
namespace K75
open PySem PySem.Spec PyProof.Rows L2 TM Pr Ep Nw DL
section
variable {P : Program} {w : World} {K : PySem.W.Frag} {mg : Str → Option Value} {base : Heap} {A : Adr}
def e_is_count : ES := (sRet (eAnd (eIsi "int" (eVar 0)) (eAnd (eNot (eIsi "bool" (eVar 0))) (eOp geD (eVar 0) (eC (.int 0))))))
def d_is_count : List D → (D → Prop) → Prop := fun ds k => e_is_count (env0 false n_is_count ds) (knE k)
theorem okd_is_count (T : Txt K mg A) : FnOk P w K mg base CX0 1 A.is_count A.is_count_fd ["value"] (spE (oRA A) false 1 d_is_count) := by
  refine T.F_is_count.ok sc_is_count (fun vs H Q E h => len_E h) (fun cdv A' outer s H vs Q E hr h => ?_)
  have hu := hu_of hr
  refine ⟨_, (pss_one (ps_ret (pe_and (show PE _ _ (tCB (rIsi K) _) from (pe_callB (id := "isinstance") call_isi (by rfl) T.n_isinstance (by decide +kernel) (pa_cons (pv 0) (pa_cons (pe_bltn (v := .ty "int") (by rfl) T.n_int (by decide +kernel) rfl) pa_nil)))) (pe_and (pe_not (show PE _ _ (tCB (rIsi K) _) from (pe_callB (id := "isinstance") call_isi (by rfl) T.n_isinstance (by decide +kernel) (pa_cons (pv 0) (pa_cons (pe_bltn (v := .ty "bool") (by rfl) T.n_bool (by decide +kernel) rfl) pa_nil))))) (pe_one (show PE _ _ (tOp (rI0 fun i j => V.bl (decide (j ≤ i))) _ _) from pe_cmpR op_ge (pv 0) pe_int (nomark _))))))), ?_⟩
  exact body_E (es := e_is_count) ((wb_ret (we_and (we_isi (wo_of we_var)) (we_and (we_not (we_isi (wo_of we_var))) (we_op od_ge (wo_of we_var) (wo_of we_int)))))) h

end
end K75


set_option Elab.async false
set_option linter.all false
set_option maxRecDepth 100000
set_option maxHeartbeats 4000000
namespace K75
open PySem PySem.Spec PyProof.Rows L2 TM Pr Ep Nw DL
section
variable {P : Program} {w : World} {K : PySem.W.Frag} {mg : Str → Option Value} {base : Heap} {A : Adr}
def e_is_row : ES := (sRet (eIsi2 "list" "tuple" (eVar 0)))
def d_is_row : List D → (D → Prop) → Prop := fun ds k => e_is_row (env0 false n_is_row ds) (knE k)
theorem okd_is_row (T : Txt K mg A) : FnOk P w K mg base CX0 1 A.is_row A.is_row_fd ["value"] (spE (oRA A) false 1 d_is_row) := by
  refine T.F_is_row.ok sc_is_row (fun vs H Q E h => len_E h) (fun cdv A' outer s H vs Q E hr h => ?_)
  have hu := hu_of hr
  refine ⟨_, (pss_one (ps_ret (show PE _ _ (tCB (rIsiT K) _) from (pe_callB (id := "isinstance") call_isiT (by rfl) T.n_isinstance (by decide +kernel) (pa_cons (pv 0) (pa_cons (pe_tup (pa_cons (pe_bltn (v := .ty "list") (by rfl) T.n_list (by decide +kernel) rfl) (pa_cons (pe_bltn (v := .ty "tuple") (by rfl) T.n_tuple (by decide +kernel) rfl) pa_nil))) pa_nil)))))), ?_⟩
  exact body_E (es := e_is_row) ((wb_ret (we_isi2 (wo_of we_var)))) h

end
end K75

set_option Elab.async false
set_option linter.all false
set_option maxRecDepth 100000
set_option maxHeartbeats 4000000
namespace K75
open PySem PySem.Spec PyProof.Rows L2 TM Pr Ep Nw DL
section
variable {P : Program} {w : World} {K : PySem.W.Frag} {mg : Str → Option Value} {base : Heap} {A : Adr}
def e_are_round_bounds : ES := (sSeq (sIf (eOrT (eNotT (eB (eCall 1 d_is_row (eaCons (eVar 1) eaNil)))) (eB (eOp neD (eUn lenD (eVar 1)) (eUn lenD (eVar 0))))) (sRet (eC (.bl false))) sNext) (sRet (eUn allD (eF (eLc (eZip (eVar 1) (eVar 0)) (egTup 2 (egCons (egName 2) (egCons (egName 3) egNil))) eYes (eAnd (eCall 1 d_is_count (eaCons (eVar 2) eaNil)) (eChain leD leD (eC (.int 1)) (eVar 2) (eVar 3))) [2, 3])))))
def d_are_round_bounds : List D → (D → Prop) → Prop := fun ds k => e_are_round_bounds (env0 false n_are_round_bounds ds) (knE k)
theorem okd_are_round_bounds (T : Txt K mg A) : FnOk P w K mg base CX0 2 A.are_round_bounds A.are_round_bounds_fd ["places", "value"] (spE (oRA A) false 2 d_are_round_bounds) := by
  refine T.F_are_round_bounds.ok sc_are_round_bounds (fun vs H Q E h => len_E h) (fun cdv A' outer s H vs Q E hr h => ?_)
  have hu := hu_of hr
  refine ⟨_, (pss_cons (ps_if (PW.pt (pw_or (pt_not (pt_val (pe_call (okd_is_row T) (hr.mono (by decide)) (by rfl) T.m_is_row T.F_is_row.kp T.b_is_row .nil pass0 (pa_cons (pv 1) pa_nil)))) (pw_or1 (show PT _ _ (tTest (tOp (rNeD K) _ _)) from pt_cmpR (op_neD hr.units) (show PE _ _ (tCB (rLenA K) _) from (pe_callB (id := "len") call_len (by rfl) T.n_len (by decide +kernel) (pa_cons (pv 1) pa_nil))) (show PE _ _ (tCB (rLenA K) _) from (pe_callB (id := "len") call_len (by rfl) T.n_len (by decide +kernel) (pa_cons (pv 0) pa_nil))) (nomark _))))) (pss_one (ps_ret pe_bl)) pss_nil) (pss_one (ps_ret (show PE _ _ (tCB (rAll K) _) from (pe_callB (id := "all") (cr_all rfl) (by rfl) T.n_all (by decide +kernel) (pa_cons (pe_lc (own := [("bound", 2), ("most", 3)]) rfl sc_are_round_bounds.nd (ZM.pi_zipM (by rfl) T.n_zip (pa_cons (pv 1) (pa_cons (pv 0) pa_nil))) (blkOk_by (N := n_are_round_bounds) (sc := defScope s_are_round_bounds) (by decide +kernel)) (fun _ _ _ _ _ => (show PG _ _ (gTup K 2 _) from pg_tup rfl (pgs_cons (pg_name (i := 2) sc_are_round_bounds.nd rfl (Or.inl rfl)) (pgs_cons (pg_name (i := 3) sc_are_round_bounds.nd rfl (Or.inl rfl)) pgs_nil)))) (fun _ _ _ _ _ => pts_nil) (fun _ _ _ _ _ => (pe_and (pe_call (okd_is_count T) (hr.mono (by decide)) (by rfl) T.m_is_count T.F_is_count.kp T.b_is_count .nil pass0 (pa_cons (pv 2) pa_nil)) (pe_one (show PE _ _ (tChain (rI0 fun i j => V.bl (decide (i ≤ j))) (rI0 fun i j => V.bl (decide (i ≤ j))) _ _ _) from pe_chain op_le op_le pe_int (pv 2) (pv 3)))))) pa_nil)))))), ?_⟩
  exact body_E (es := e_are_round_bounds) ((wb_seq (wb_if (wt_or (wt_not (wt_B (we_call (wa_cons we_var wa_nil)))) (wt_test (we_op od_ne (wo_of (we_cb1 ud_len (wo_of we_var))) (wo_of (we_cb1 ud_len (wo_of we_var)))))) (wb_ret we_bl) wb_next) (wb_ret (we_cb1 ud_all (wo_of (we_of_wf (wf_lc (wi_zip we_var we_var) (wg_tup (wgs_cons wg_name (wgs_cons wg_name wgs_nil))) (by decide) wt_yes (we_and (we_call (wa_cons we_var wa_nil)) (we_chain od_le od_le (wo_of we_int) (wo_of we_var) (wo_of we_var)))))))))) h

end
end K75


set_option Elab.async false
set_option linter.all false
set_option maxRecDepth 100000
set_option maxHeartbeats 4000000
namespace K75
open PySem PySem.Spec PyProof.Rows L2 TM Pr Ep Nw DL
section
variable {P : Program} {w : World} {K : PySem.W.Frag} {mg : Str → Option Value} {base : Heap} {A : Adr}
def e_carts_in_all : ES := (sRet (eUn sumU (eF (eLc (eSeq (eVar 0)) (egTup 2 (egCons (egName 1) (egCons (egName 2) egNil))) eYes (eOp addU (eVar 1) (eVar 2)) [1, 2]))))
def d_carts_in_all : List D → (D → Prop) → Prop := fun ds k => e_carts_in_all (env0 false n_carts_in_all ds) (knE k)
theorem okd_carts_in_all (T : Txt K mg A) : FnOk P w K mg base CX0 1 A.carts_in_all A.carts_in_all_fd ["stand"] (spE (oRA A) false 1 d_carts_in_all) := by
  refine T.F_carts_in_all.ok sc_carts_in_all (fun vs H Q E h => len_E h) (fun cdv A' outer s H vs Q E hr h => ?_)
  have hu := hu_of hr
  refine ⟨_, (pss_one (ps_ret (show PE _ _ (tCB (rSumA K) _) from (pe_callB (id := "sum") (cr_sumA rfl) (by rfl) T.n_sum (by decide +kernel) (pa_cons (pe_lc (own := [("onward", 1), ("back", 2)]) rfl sc_carts_in_all.nd (show PI _ _ _ (iSeq K _) from pi_seqU (pv 0)) (blkOk_by (N := n_carts_in_all) (sc := defScope s_carts_in_all) (by decide +kernel)) (fun _ _ _ _ _ => (show PG _ _ (gTup K 2 _) from pg_tup rfl (pgs_cons (pg_name (i := 1) sc_carts_in_all.nd rfl (Or.inl rfl)) (pgs_cons (pg_name (i := 2) sc_carts_in_all.nd rfl (Or.inl rfl)) pgs_nil)))) (fun _ _ _ _ _ => pts_nil) (fun _ _ _ _ _ => (show PE _ _ (tOp (rAddU K) _ _) from pe_op op_addU (pv 1) (pv 2)))) pa_nil))))), ?_⟩
  exact body_E (es := e_carts_in_all) ((wb_ret (we_cb1 ud_sumU (wo_of (we_of_wf (wf_lc (wi_seq we_var) (wg_tup (wgs_cons wg_name (wgs_cons wg_name wgs_nil))) (by decide) wt_yes (we_op od_addU (wo_of we_var) (wo_of we_var)))))))) h

end
end K75

set_option Elab.async false
set_option linter.all false
set_option maxRecDepth 100000
set_option maxHeartbeats 4000000
namespace K75
open PySem PySem.Spec PyProof.Rows L2 TM Pr Ep Nw DL
section
variable {P : Program} {w : World} {K : PySem.W.Frag} {mg : Str → Option Value} {base : Heap} {A : Adr}
def e_check_round : ES := (sSeq (sIf (eOrT (eNotT (eB (eCall 1 d_is_row (eaCons (eVar 0) eaNil)))) (eNotT (eB (eChain leD leD (eC (.int 3)) (eUn lenD (eVar 0)) (eC (.int 7)))))) sNever sNext) (sSeq (sIf (eNotT (eB (eUn allD (eF (eLc (eSeq (eVar 0)) (egName 3) eYes (eAnd (eCall 1 d_is_count (eaCons (eVar 3) eaNil)) (eChain leD leD (eC (.int 1)) (eVar 3) (eC (.int 6)))) [3]))))) sNever sNext) (sSeq (sIf (eNotT (eB (eCall 2 d_are_round_bounds (eaCons (eVar 0) (eaCons (eVar 1) eaNil))))) sNever sNext) (sIf (eNotT (eB (eCall 2 d_are_round_bounds (eaCons (eVar 0) (eaCons (eVar 2) eaNil))))) sNever sNext))))
def d_check_round : List D → (D → Prop) → Prop := fun ds k => e_check_round (env0 false n_check_round ds) (knE k)
theorem okd_check_round (T : Txt K mg A) : FnOk P w K mg base CX0 3 A.check_round A.check_round_fd ["places", "forward", "backward"] (spE (oRA A) false 3 d_check_round) := by
  refine T.F_check_round.ok sc_check_round (fun vs H Q E h => len_E h) (fun cdv A' outer s H vs Q E hr h => ?_)
  have hu := hu_of hr
  refine ⟨_, (pss_cons (ps_if (PW.pt (pw_or (pt_not (pt_val (pe_call (okd_is_row T) (hr.mono (by decide)) (by rfl) T.m_is_row T.F_is_row.kp T.b_is_row .nil pass0 (pa_cons (pv 0) pa_nil)))) (pw_or1 (pt_not (show PT _ _ (tTest (tChain (rI0 fun i j => V.bl (decide (i ≤ j))) (rI0 fun i j => V.bl (decide (i ≤ j))) _ _ _)) from pt_chain op_le op_le (pe_globI rfl T.g_FEWEST_IN_A_ROUND) (show PE _ _ (tCB (rLenA K) _) from (pe_callB (id := "len") call_len (by rfl) T.n_len (by decide +kernel) (pa_cons (pv 0) pa_nil))) (pe_globI rfl T.g_MOST_IN_A_ROUND)))))) (pss_one ps_never) pss_nil) (pss_cons (ps_if (pt_not (pt_val (show PE _ _ (tCB (rAll K) _) from (pe_callB (id := "all") (cr_all rfl) (by rfl) T.n_all (by decide +kernel) (pa_cons (pe_lc (own := [("many", 3)]) rfl sc_check_round.nd (show PI _ _ _ (iSeq K _) from pi_seqU (pv 0)) (blkOk_by (N := n_check_round) (sc := defScope s_check_round) (by decide +kernel)) (fun _ _ _ _ _ => (pg_name (i := 3) sc_check_round.nd rfl (Or.inl rfl))) (fun _ _ _ _ _ => pts_nil) (fun _ _ _ _ _ => (pe_and (pe_call (okd_is_count T) (hr.mono (by decide)) (by rfl) T.m_is_count T.F_is_count.kp T.b_is_count .nil pass0 (pa_cons (pv 3) pa_nil)) (pe_one (show PE _ _ (tChain (rI0 fun i j => V.bl (decide (i ≤ j))) (rI0 fun i j => V.bl (decide (i ≤ j))) _ _ _) from pe_chain op_le op_le pe_int (pv 3) (pe_globI rfl T.g_MOST_PLACES)))))) pa_nil))))) (pss_one ps_never) pss_nil) (pss_cons (ps_if (pt_not (pt_val (pe_call (okd_are_round_bounds T) (hr.mono (by decide)) (by rfl) T.m_are_round_bounds T.F_are_round_bounds.kp T.b_are_round_bounds .nil pass0 (pa_cons (pv 0) (pa_cons (pv 1) pa_nil))))) (pss_one ps_never) pss_nil) (pss_one (ps_if (pt_not (pt_val (pe_call (okd_are_round_bounds T) (hr.mono (by decide)) (by rfl) T.m_are_round_bounds T.F_are_round_bounds.kp T.b_are_round_bounds .nil pass0 (pa_cons (pv 0) (pa_cons (pv 2) pa_nil))))) (pss_one ps_never) pss_nil))))), ?_⟩
  exact body_E (es := e_check_round) ((wb_seq (wb_if (wt_or (wt_not (wt_B (we_call (wa_cons we_var wa_nil)))) (wt_not (wt_test (we_chain od_le od_le (wo_of we_int) (wo_of (we_cb1 ud_len (wo_of we_var))) (wo_of we_int))))) wb_never wb_next) (wb_seq (wb_if (wt_not (wt_B (we_cb1 ud_all (wo_of (we_of_wf (wf_lc (wi_seq we_var) wg_name (by decide) wt_yes (we_and (we_call (wa_cons we_var wa_nil)) (we_chain od_le od_le (wo_of we_int) (wo_of we_var) (wo_of we_int))))))))) wb_never wb_next) (wb_seq (wb_if (wt_not (wt_B (we_call (wa_cons we_var (wa_cons we_var wa_nil))))) wb_never wb_next) (wb_if (wt_not (wt_B (we_call (wa_cons we_var (wa_cons we_var wa_nil))))) wb_never wb_next))))) h

end
end K75

set_option Elab.async false
set_option linter.all false
set_option maxRecDepth 100000
set_option maxHeartbeats 4000000
namespace K75
open PySem PySem.Spec PyProof.Rows L2 TM Pr Ep Nw DL
section
variable {P : Program} {w : World} {K : PySem.W.Frag} {mg : Str → Option Value} {base : Heap} {A : Adr}
def e_is_pair_of_counts : ES := (sRet (eAnd (eIsi "tuple" (eVar 0)) (eAnd (eOp eqD (eUn lenD (eVar 0)) (eC (.int 2))) (eAnd (eCall 1 d_is_count (eaCons (eOp ixD (eVar 0) (eC (.int 0))) eaNil)) (eCall 1 d_is_count (eaCons (eOp ixD (eVar 0) (eC (.int 1))) eaNil))))))
def d_is_pair_of_counts : List D → (D → Prop) → Prop := fun ds k => e_is_pair_of_counts (env0 false n_is_pair_of_counts ds) (knE k)
theorem okd_is_pair_of_counts (T : Txt K mg A) : FnOk P w K mg base CX0 2 A.is_pair_of_counts A.is_pair_of_counts_fd ["value"] (spE (oRA A) false 1 d_is_pair_of_counts) := by
  refine T.F_is_pair_of_counts.ok sc_is_pair_of_counts (fun vs H Q E h => len_E h) (fun cdv A' outer s H vs Q E hr h => ?_)
  have hu := hu_of hr
  refine ⟨_, (pss_one (ps_ret (pe_and (show PE _ _ (tCB (rIsi K) _) from (pe_callB (id := "isinstance") call_isi (by rfl) T.n_isinstance (by decide +kernel) (pa_cons (pv 0) (pa_cons (pe_bltn (v := .ty "tuple") (by rfl) T.n_tuple (by decide +kernel) rfl) pa_nil)))) (pe_and (show PE _ _ (tOp (rEqD K) _ _) from pe_cmpR (op_eqD hr.units) (show PE _ _ (tCB (rLenA K) _) from (pe_callB (id := "len") call_len (by rfl) T.n_len (by decide +kernel) (pa_cons (pv 0) pa_nil))) pe_int (nomark _)) (pe_and (pe_call (okd_is_count T) (hr.mono (by decide)) (by rfl) T.m_is_count T.F_is_count.kp T.b_is_count .nil pass0 (pa_cons (show PE _ _ (tOp (rIx K) _ _) from pe_ix ix_seq (pv 0) pe_int (fun _ _ => rfl)) pa_nil)) (pe_one (pe_call (okd_is_count T) (hr.mono (by decide)) (by rfl) T.m_is_count T.F_is_count.kp T.b_is_count .nil pass0 (pa_cons (show PE _ _ (tOp (rIx K) _ _) from pe_ix ix_seq (pv 0) pe_int (fun _ _ => rfl)) pa_nil)))))))), ?_⟩
  exact body_E (es := e_is_pair_of_counts) ((wb_ret (we_and (we_isi (wo_of we_var)) (we_and (we_op od_eq (wo_of (we_cb1 ud_len (wo_of we_var))) (wo_of we_int)) (we_and (we_call (wa_cons (we_op od_ix (wo_of we_var) (wo_of we_int)) wa_nil)) (we_call (wa_cons (we_op od_ix (wo_of we_var) (wo_of we_int)) wa_nil))))))) h

end
end K75

set_option Elab.async false
set_option linter.all false
set_option maxRecDepth 100000
set_option maxHeartbeats 4000000
namespace K75
open PySem PySem.Spec PyProof.Rows L2 TM Pr Ep Nw DL
section
variable {P : Program} {w : World} {K : PySem.W.Frag} {mg : Str → Option Value} {base : Heap} {A : Adr}
def e_is_round_stand : ES := (sSeq (sIf (eOrT (eNotT (eB (eCall 1 d_is_row (eaCons (eVar 3) eaNil)))) (eOrT (eB (eOp neD (eUn lenD (eVar 3)) (eUn lenD (eVar 0)))) (eNotT (eB (eUn allD (eF (eLc (eSeq (eVar 3)) (egName 4) eYes (eCall 1 d_is_pair_of_counts (eaCons (eVar 4) eaNil)) [4]))))))) (sRet (eC (.bl false))) sNext) (sRet (eUn allD (eF (eLc (eRng1 (eUn lenD (eVar 0))) (egName 5) eYes (eAnd (eOp leD (eOp ixD (eOp ixD (eVar 3) (eVar 5)) (eC (.int 0))) (eOp ixD (eVar 1) (eVar 5))) (eAnd (eOp leD (eOp ixD (eOp ixD (eVar 3) (eVar 5)) (eC (.int 1))) (eOp ixD (eVar 2) (eVar 5))) (eOp leD (eUn sumU (eOp ixD (eVar 3) (eVar 5))) (eOp ixD (eVar 0) (eVar 5))))) [5])))))
def d_is_round_stand : List D → (D → Prop) → Prop := fun ds k => e_is_round_stand (env0 false n_is_round_stand ds) (knE k)
theorem okd_is_round_stand (T : Txt K mg A) : FnOk P w K mg base CX0 3 A.is_round_stand A.is_round_stand_fd ["places", "forward", "backward", "value"] (spE (oRA A) false 4 d_is_round_stand) := by
  refine T.F_is_round_stand.ok sc_is_round_stand (fun vs H Q E h => len_E h) (fun cdv A' outer s H vs Q E hr h => ?_)
  have hu := hu_of hr
  refine ⟨_, (pss_cons (ps_if (PW.pt (pw_or (pt_not (pt_val (pe_call (okd_is_row T) (hr.mono (by decide)) (by rfl) T.m_is_row T.F_is_row.kp T.b_is_row .nil pass0 (pa_cons (pv 3) pa_nil)))) (pw_or (show PT _ _ (tTest (tOp (rNeD K) _ _)) from pt_cmpR (op_neD hr.units) (show PE _ _ (tCB (rLenA K) _) from (pe_callB (id := "len") call_len (by rfl) T.n_len (by decide +kernel) (pa_cons (pv 3) pa_nil))) (show PE _ _ (tCB (rLenA K) _) from (pe_callB (id := "len") call_len (by rfl) T.n_len (by decide +kernel) (pa_cons (pv 0) pa_nil))) (nomark _)) (pw_or1 (pt_not (pt_val (show PE _ _ (tCB (rAll K) _) from (pe_callB (id := "all") (cr_all rfl) (by rfl) T.n_all (by decide +kernel) (pa_cons (pe_lc (own := [("pair", 4)]) rfl sc_is_round_stand.nd (show PI _ _ _ (iSeq K _) from pi_seqU (pv 3)) (blkOk_by (N := n_is_round_stand) (sc := defScope s_is_round_stand) (by decide +kernel)) (fun _ _ _ _ _ => (pg_name (i := 4) sc_is_round_stand.nd rfl (Or.inl rfl))) (fun _ _ _ _ _ => pts_nil) (fun _ _ _ _ _ => (pe_call (okd_is_pair_of_counts T) (hr.mono (by decide)) (by rfl) T.m_is_pair_of_counts T.F_is_pair_of_counts.kp T.b_is_pair_of_counts .nil pass0 (pa_cons (pv 4) pa_nil)))) pa_nil))))))))) (pss_one (ps_ret pe_bl)) pss_nil) (pss_one (ps_ret (show PE _ _ (tCB (rAll K) _) from (pe_callB (id := "all") (cr_all rfl) (by rfl) T.n_all (by decide +kernel) (pa_cons (pe_lc (own := [("at", 5)]) rfl sc_is_round_stand.nd (pi_range1 (by rfl) T.n_range (pa_cons (show PE _ _ (tCB (rLenA K) _) from (pe_callB (id := "len") call_len (by rfl) T.n_len (by decide +kernel) (pa_cons (pv 0) pa_nil))) pa_nil)) (blkOk_by (N := n_is_round_stand) (sc := defScope s_is_round_stand) (by decide +kernel)) (fun _ _ _ _ _ => (pg_name (i := 5) sc_is_round_stand.nd rfl (Or.inl rfl))) (fun _ _ _ _ _ => pts_nil) (fun _ _ _ _ _ => (pe_and (show PE _ _ (tOp (rI0 fun i j => V.bl (decide (i ≤ j))) _ _) from pe_cmpR op_le (show PE _ _ (tOp (rIx K) _ _) from pe_ix ix_seq (show PE _ _ (tOp (rIx K) _ _) from pe_ix ix_seq (pv 3) (pv 5) (fun _ _ => rfl)) pe_int (fun _ _ => rfl)) (show PE _ _ (tOp (rIx K) _ _) from pe_ix ix_seq (pv 1) (pv 5) (fun _ _ => rfl)) (nomark _)) (pe_and (show PE _ _ (tOp (rI0 fun i j => V.bl (decide (i ≤ j))) _ _) from pe_cmpR op_le (show PE _ _ (tOp (rIx K) _ _) from pe_ix ix_seq (show PE _ _ (tOp (rIx K) _ _) from pe_ix ix_seq (pv 3) (pv 5) (fun _ _ => rfl)) pe_int (fun _ _ => rfl)) (show PE _ _ (tOp (rIx K) _ _) from pe_ix ix_seq (pv 2) (pv 5) (fun _ _ => rfl)) (nomark _)) (pe_one (show PE _ _ (tOp (rI0 fun i j => V.bl (decide (i ≤ j))) _ _) from pe_cmpR op_le (show PE _ _ (tCB (rSumA K) _) from (pe_callB (id := "sum") (cr_sumA rfl) (by rfl) T.n_sum (by decide +kernel) (pa_cons (show PE _ _ (tOp (rIx K) _ _) from pe_ix ix_seq (pv 3) (pv 5) (fun _ _ => rfl)) pa_nil))) (show PE _ _ (tOp (rIx K) _ _) from pe_ix ix_seq (pv 0) (pv 5) (fun _ _ => rfl)) (nomark _))))))) pa_nil)))))), ?_⟩
  exact body_E (es := e_is_round_stand) ((wb_seq (wb_if (wt_or (wt_not (wt_B (we_call (wa_cons we_var wa_nil)))) (wt_or (wt_test (we_op od_ne (wo_of (we_cb1 ud_len (wo_of we_var))) (wo_of (we_cb1 ud_len (wo_of we_var))))) (wt_not (wt_B (we_cb1 ud_all (wo_of (we_of_wf (wf_lc (wi_seq we_var) wg_name (by decide) wt_yes (we_call (wa_cons we_var wa_nil)))))))))) (wb_ret we_bl) wb_next) (wb_ret (we_cb1 ud_all (wo_of (we_of_wf (wf_lc (wi_rng1 (we_cb1 ud_len (wo_of we_var))) wg_name (by decide) wt_yes (we_and (we_op od_le (wo_of (we_op od_ix (wo_of (we_op od_ix (wo_of we_var) (wo_of we_var))) (wo_of we_int))) (wo_of (we_op od_ix (wo_of we_var) (wo_of we_var)))) (we_and (we_op od_le (wo_of (we_op od_ix (wo_of (we_op od_ix (wo_of we_var) (wo_of we_var))) (wo_of we_int))) (wo_of (we_op od_ix (wo_of we_var) (wo_of we_var)))) (we_op od_le (wo_of (we_cb1 ud_sumU (wo_of (we_op od_ix (wo_of we_var) (wo_of we_var))))) (wo_of (we_op od_ix (wo_of we_var) (wo_of we_var))))))))))))) h

end
end K75

set_option Elab.async false
set_option linter.all false
set_option maxRecDepth 100000
set_option maxHeartbeats 4000000
namespace K75
open PySem PySem.Spec PyProof.Rows L2 TM Pr Ep Nw DL
section
variable {P : Program} {w : World} {K : PySem.W.Frag} {mg : Str → Option Value} {base : Heap} {A : Adr}
def e_is_stuck_round : ES := (sSeq (sIf (eB (eOp eqD (eCall 1 d_carts_in_all (eaCons (eVar 3) eaNil)) (eC (.int 0)))) (sRet (eC (.bl false))) sNext) (sSeq (sFor (eRng1 (eUn lenD (eVar 0))) (egName 4) (sSeq (sPar 5 6 (emE (eOp modD (eOp addU (eVar 4) (eC (.int 1))) (eUn lenD (eVar 0)))) (emE (eOp subD (eVar 4) (eC (.int 1))))) (sSeq (sIf (eAndT (eB (eOp gtD (eOp ixD (eOp ixD (eVar 3) (eVar 4)) (eC (.int 0))) (eC (.int 0)))) (eAndT (eB (eOp ltU (eUn sumU (eOp ixD (eVar 3) (eVar 5))) (eOp ixD (eVar 0) (eVar 5)))) (eB (eOp ltU (eOp ixD (eOp ixD (eVar 3) (eVar 5)) (eC (.int 0))) (eOp ixD (eVar 1) (eVar 5)))))) (sRet (eC (.bl false))) sNext) (sIf (eAndT (eB (eOp gtD (eOp ixD (eOp ixD (eVar 3) (eVar 4)) (eC (.int 1))) (eC (.int 0)))) (eAndT (eB (eOp ltU (eUn sumU (eOp ixD (eVar 3) (eVar 6))) (eOp ixD (eVar 0) (eVar 6)))) (eB (eOp ltU (eOp ixD (eOp ixD (eVar 3) (eVar 6)) (eC (.int 1))) (eOp ixD (eVar 2) (eVar 6)))))) (sRet (eC (.bl false))) sNext))) [4, 5, 6]) (sRet (eC (.bl true)))))
def d_is_stuck_round : List D → (D → Prop) → Prop := fun ds k => e_is_stuck_round (env0 false n_is_stuck_round ds) (knE k)
theorem okd_is_stuck_round (T : Txt K mg A) : FnOk P w K mg base CX0 2 A.is_stuck_round A.is_stuck_round_fd ["places", "forward", "backward", "stand"] (spE (oRA A) false 4 d_is_stuck_round) := by
  refine T.F_is_stuck_round.ok sc_is_stuck_round (fun vs H Q E h => len_E h) (fun cdv A' outer s H vs Q E hr h => ?_)
  have hu := hu_of hr
  refine ⟨_, (pss_cons (ps_if (show PT _ _ (tTest (tOp (rEqD K) _ _)) from pt_cmpR (op_eqD hr.units) (pe_call (okd_carts_in_all T) (hr.mono (by decide)) (by rfl) T.m_carts_in_all T.F_carts_in_all.kp T.b_carts_in_all .nil pass0 (pa_cons (pv 3) pa_nil)) pe_int (nomark _)) (pss_one (ps_ret pe_bl)) pss_nil) (pss_cons (ps_for PassesOwn.never rfl (pi_range1 (by rfl) T.n_range (pa_cons (show PE _ _ (tCB (rLenA K) _) from (pe_callB (id := "len") call_len (by rfl) T.n_len (by decide +kernel) (pa_cons (pv 0) pa_nil))) pa_nil)) (pg_name (i := 4) sc_is_stuck_round.nd rfl (Or.inl rfl)) (pss_cons (ps_par (i := 5) (j := 6) (by rfl) sc_is_stuck_round.nd rfl rfl (by decide) rfl rfl (pa_cons (pe_op op_modN (show PE _ _ (tOp (rAddU K) _ _) from pe_op op_addU (pv 4) pe_int) (show PE _ _ (tCB (rLenA K) _) from (pe_callB (id := "len") call_len (by rfl) T.n_len (by decide +kernel) (pa_cons (pv 0) pa_nil)))) (pa_cons (pe_op op_sub (pv 4) pe_int) pa_nil)) (by rfl)) (pss_cons (ps_if (PW.pt (pw_and (show PT _ _ (tTest (tOp (rI0 fun i j => V.bl (decide (j < i))) _ _)) from pt_cmpR op_gt (show PE _ _ (tOp (rIx K) _ _) from pe_ix ix_seq (show PE _ _ (tOp (rIx K) _ _) from pe_ix ix_seq (pv 3) (pv 4) (fun _ _ => rfl)) pe_int (fun _ _ => rfl)) pe_int (nomark _)) (pw_and (show PT _ _ (tTest (tOp (rLtU K) _ _)) from pt_cmpR (op_ltU (Nat.lt_of_succ_lt hu)) (show PE _ _ (tCB (rSumA K) _) from (pe_callB (id := "sum") (cr_sumA rfl) (by rfl) T.n_sum (by decide +kernel) (pa_cons (show PE _ _ (tOp (rIx K) _ _) from pe_ix ix_seq (pv 3) (pv 5) (fun _ _ => rfl)) pa_nil))) (show PE _ _ (tOp (rIx K) _ _) from pe_ix ix_seq (pv 0) (pv 5) (fun _ _ => rfl)) (nomark _)) (pw_and1 (show PT _ _ (tTest (tOp (rLtU K) _ _)) from pt_cmpR (op_ltU (Nat.lt_of_succ_lt hu)) (show PE _ _ (tOp (rIx K) _ _) from pe_ix ix_seq (show PE _ _ (tOp (rIx K) _ _) from pe_ix ix_seq (pv 3) (pv 5) (fun _ _ => rfl)) pe_int (fun _ _ => rfl)) (show PE _ _ (tOp (rIx K) _ _) from pe_ix ix_seq (pv 1) (pv 5) (fun _ _ => rfl)) (nomark _)))))) (pss_one (ps_ret pe_bl)) pss_nil) (pss_one (ps_if (PW.pt (pw_and (show PT _ _ (tTest (tOp (rI0 fun i j => V.bl (decide (j < i))) _ _)) from pt_cmpR op_gt (show PE _ _ (tOp (rIx K) _ _) from pe_ix ix_seq (show PE _ _ (tOp (rIx K) _ _) from pe_ix ix_seq (pv 3) (pv 4) (fun _ _ => rfl)) pe_int (fun _ _ => rfl)) pe_int (nomark _)) (pw_and (show PT _ _ (tTest (tOp (rLtU K) _ _)) from pt_cmpR (op_ltU (Nat.lt_of_succ_lt hu)) (show PE _ _ (tCB (rSumA K) _) from (pe_callB (id := "sum") (cr_sumA rfl) (by rfl) T.n_sum (by decide +kernel) (pa_cons (show PE _ _ (tOp (rIx K) _ _) from pe_ix ix_seq (pv 3) (pv 6) (fun _ _ => rfl)) pa_nil))) (show PE _ _ (tOp (rIx K) _ _) from pe_ix ix_seq (pv 0) (pv 6) (fun _ _ => rfl)) (nomark _)) (pw_and1 (show PT _ _ (tTest (tOp (rLtU K) _ _)) from pt_cmpR (op_ltU (Nat.lt_of_succ_lt hu)) (show PE _ _ (tOp (rIx K) _ _) from pe_ix ix_seq (show PE _ _ (tOp (rIx K) _ _) from pe_ix ix_seq (pv 3) (pv 6) (fun _ _ => rfl)) pe_int (fun _ _ => rfl)) (show PE _ _ (tOp (rIx K) _ _) from pe_ix ix_seq (pv 2) (pv 6) (fun _ _ => rfl)) (nomark _)))))) (pss_one (ps_ret pe_bl)) pss_nil))))) (pss_one (ps_ret pe_bl)))), ?_⟩
  exact body_E (es := e_is_stuck_round) ((wb_seq (wb_if (wt_test (we_op od_eq (wo_of (we_call (wa_cons we_var wa_nil))) (wo_of we_int))) (wb_ret we_bl) wb_next) (wb_seq (wb_for (wi_rng1 (we_cb1 ud_len (wo_of we_var))) wg_name (wb_seq (wb_par (wm_E (we_op od_mod (wo_of (we_op od_addU (wo_of we_var) (wo_of we_int))) (wo_of (we_cb1 ud_len (wo_of we_var))))) (wm_E (we_op od_sub (wo_of we_var) (wo_of we_int)))) (wb_seq (wb_if (wt_and (wt_test (we_op od_gt (wo_of (we_op od_ix (wo_of (we_op od_ix (wo_of we_var) (wo_of we_var))) (wo_of we_int))) (wo_of we_int))) (wt_and (wt_test (we_op od_ltU (wo_of (we_cb1 ud_sumU (wo_of (we_op od_ix (wo_of we_var) (wo_of we_var))))) (wo_of (we_op od_ix (wo_of we_var) (wo_of we_var))))) (wt_test (we_op od_ltU (wo_of (we_op od_ix (wo_of (we_op od_ix (wo_of we_var) (wo_of we_var))) (wo_of we_int))) (wo_of (we_op od_ix (wo_of we_var) (wo_of we_var))))))) (wb_ret we_bl) wb_next) (wb_if (wt_and (wt_test (we_op od_gt (wo_of (we_op od_ix (wo_of (we_op od_ix (wo_of we_var) (wo_of we_var))) (wo_of we_int))) (wo_of we_int))) (wt_and (wt_test (we_op od_ltU (wo_of (we_cb1 ud_sumU (wo_of (we_op od_ix (wo_of we_var) (wo_of we_var))))) (wo_of (we_op od_ix (wo_of we_var) (wo_of we_var))))) (wt_test (we_op od_ltU (wo_of (we_op od_ix (wo_of (we_op od_ix (wo_of we_var) (wo_of we_var))) (wo_of we_int))) (wo_of (we_op od_ix (wo_of we_var) (wo_of we_var))))))) (wb_ret we_bl) wb_next)))) (wb_ret we_bl)))) h

end
end K75

set_option Elab.async false
set_option linter.all false
set_option maxRecDepth 100000
set_option maxHeartbeats 4000000
namespace K75
open PySem PySem.Spec PyProof.Rows L2 TM Pr Ep Nw DL
section
variable {P : Program} {w : World} {K : PySem.W.Frag} {mg : Str → Option Value} {base : Heap} {A : Adr}
def e_is_round_stuck : ES := (sSeq (sDrop (eCall 3 d_check_round (eaCons (eVar 0) (eaCons (eVar 1) (eaCons (eVar 2) eaNil))))) (sRet (eAnd (eCall 4 d_is_round_stand (eaCons (eVar 0) (eaCons (eVar 1) (eaCons (eVar 2) (eaCons (eVar 3) eaNil))))) (eCall 4 d_is_stuck_round (eaCons (eVar 0) (eaCons (eVar 1) (eaCons (eVar 2) (eaCons (eVar 3) eaNil))))))))
def d_is_round_stuck : List D → (D → Prop) → Prop := fun ds k => e_is_round_stuck (env0 false n_is_round_stuck ds) (knE k)
theorem okd_is_round_stuck (T : Txt K mg A) : FnOk P w K mg base CX0 4 A.is_round_stuck A.is_round_stuck_fd ["places", "forward", "backward", "value"] (spE (oRA A) false 4 d_is_round_stuck) := by
  refine T.F_is_round_stuck.ok sc_is_round_stuck (fun vs H Q E h => len_E h) (fun cdv A' outer s H vs Q E hr h => ?_)
  have hu := hu_of hr
  refine ⟨_, (pss_cons (ps_expr (pe_call (okd_check_round T) (hr.mono (by decide)) (by rfl) T.m_check_round T.F_check_round.kp T.b_check_round .nil pass0 (pa_cons (pv 0) (pa_cons (pv 1) (pa_cons (pv 2) pa_nil))))) (pss_one (ps_ret (pe_and (pe_call (okd_is_round_stand T) (hr.mono (by decide)) (by rfl) T.m_is_round_stand T.F_is_round_stand.kp T.b_is_round_stand .nil pass0 (pa_cons (pv 0) (pa_cons (pv 1) (pa_cons (pv 2) (pa_cons (pv 3) pa_nil))))) (pe_one (pe_call (okd_is_stuck_round T) (hr.mono (by decide)) (by rfl) T.m_is_stuck_round T.F_is_stuck_round.kp T.b_is_stuck_round .nil pass0 (pa_cons (pv 0) (pa_cons (pv 1) (pa_cons (pv 2) (pa_cons (pv 3) pa_nil)))))))))), ?_⟩
  exact body_E (es := e_is_round_stuck) ((wb_seq (wb_drop (wo_of (we_call (wa_cons we_var (wa_cons we_var (wa_cons we_var wa_nil)))))) (wb_ret (we_and (we_call (wa_cons we_var (wa_cons we_var (wa_cons we_var (wa_cons we_var wa_nil))))) (we_call (wa_cons we_var (wa_cons we_var (wa_cons we_var (wa_cons we_var wa_nil))))))))) h

end
end K75


set_option Elab.async false
set_option linter.all false
set_option maxRecDepth 100000
set_option maxHeartbeats 4000000
namespace K75
open PySem PySem.Spec PyProof.Rows L2 TM Pr Ep Nw DL
section
variable {P : Program} {w : World} {K : PySem.W.Frag} {mg : Str → Option Value} {base : Heap} {A : Adr}
def e_l_longer : ES := (sSeq (sAsgF 2 (eLst eaNil)) (sSeq (sFor (eSeq (eVar 0)) (egName 3) (sExt 2 (eF (eLc (eSeq (eVar 1)) (egName 4) eYes (eOp addU (eVar 3) (eF (eLst (eaCons (eVar 4) eaNil)))) [4]))) [3]) (sRetM 2)))
def d_l_longer : List D → (List D → Prop) → Prop := fun ds k => e_l_longer (env0 false n_l_longer ds) (knF k)
theorem okd_l_longer (T : Txt K mg A) : FnOk P w K mg base CX0 1 A.l_longer A.l_longer_fd ["_law_found", "_law_some"] (spF (oRA A) false 2 d_l_longer) := by
  refine T.F_l_longer.ok sc_l_longer (fun vs H Q E h => len_F h) (fun cdv A' outer s H vs Q E hr h => ?_)
  have hu := hu_of hr
  refine ⟨_, (pss_cons (ps_set (i := 2) sc_l_longer.nd rfl (Or.inl rfl) (pe_lst pa_nil)) (pss_cons (ps_for PassesOwn.never rfl (show PI _ _ _ (iSeq K _) from pi_seqU (pv 0)) (pg_name (i := 3) sc_l_longer.nd rfl (Or.inr rfl)) (pss_one (ps_expr (show PE _ _ (tBM K "list" rExtend _ _) from pe_bm PySem.F.plainAttrs_list PySem.F.slot_list_extend PySem.F.type_list_extend mt_extend (pv 2) (pa_cons (pe_lc (own := [("_law_one", 4)]) rfl sc_l_longer.nd (show PI _ _ _ (iSeq K _) from pi_seqU (pv 1)) (blkOk_by (N := n_l_longer) (sc := defScope s_l_longer) (by decide +kernel)) (fun _ _ _ _ _ => (pg_name (i := 4) sc_l_longer.nd rfl (Or.inl rfl))) (fun _ _ _ _ _ => pts_nil) (fun _ _ _ _ _ => (show PE _ _ (tOp (rAddU K) _ _) from pe_op op_addU (pv 3) (pe_lst (pa_cons (pv 4) pa_nil))))) pa_nil))))) (pss_one (ps_ret (pv 2))))), ?_⟩
  exact body_F (es := e_l_longer) ((wb_seq (wb_asgF (wf_lst wa_nil)) (wb_seq (wb_for (wi_seq we_var) wg_name (wb_ext (we_of_wf (wf_lc (wi_seq we_var) wg_name (by decide) wt_yes (we_op od_addU (wo_of we_var) (wo_of (we_of_wf (wf_lst (wa_cons we_var wa_nil))))))))) wb_retM))) h

end
end K75

set_option Elab.async false
set_option linter.all false
set_option maxRecDepth 100000
set_option maxHeartbeats 4000000
namespace K75
open PySem PySem.Spec PyProof.Rows L2 TM Pr Ep Nw DL
section
variable {P : Program} {w : World} {K : PySem.W.Frag} {mg : Str → Option Value} {base : Heap} {A : Adr}
def e_l_all : ES := (sSeq (sAsg (eF (eLst (eaCons (eF (eLst eaNil)) eaNil))) (egName 3)) (sSeq (sFor (eRng1 (eUn lenD (eVar 0))) (egName 4) (sSeq (sAsgF 5 (eLst eaNil)) (sSeq (sFor (eRng1 (eOp addU (eOp ixD (eVar 1) (eVar 4)) (eC (.int 1)))) (egName 6) (sExt 5 (eF (eLc (eRng1 (eOp addU (eOp min2D (eOp ixD (eVar 2) (eVar 4)) (eOp subD (eOp ixD (eVar 0) (eVar 4)) (eVar 6))) (eC (.int 1)))) (egName 7) eYes (eTup (eaCons (eVar 6) (eaCons (eVar 7) eaNil))) [7]))) [6]) (sKnow 5 (sAsg (eF (eCallF 2 d_l_longer (eaCons (eVar 3) (eaCons (eVar 5) eaNil)))) (egName 3))))) [4, 5, 6]) (sRet (eVar 3))))
def d_l_all : List D → (D → Prop) → Prop := fun ds k => e_l_all (env0 false n_l_all ds) (knE k)
theorem okd_l_all (T : Txt K mg A) : FnOk P w K mg base CX0 2 A.l_all A.l_all_fd ["_law_places", "_law_forward", "_law_backward"] (spE (oRA A) false 3 d_l_all) := by
  refine T.F_l_all.ok sc_l_all (fun vs H Q E h => len_E h) (fun cdv A' outer s H vs Q E hr h => ?_)
  have hu := hu_of hr
  refine ⟨_, (pss_cons (ps_set (i := 3) sc_l_all.nd rfl (Or.inl rfl) (pe_lst (pa_cons (pe_lst pa_nil) pa_nil))) (pss_cons (ps_for PassesOwn.never rfl (pi_range1 (by rfl) T.n_range (pa_cons (show PE _ _ (tCB (rLenA K) _) from (pe_callB (id := "len") call_len (by rfl) T.n_len (by decide +kernel) (pa_cons (pv 0) pa_nil))) pa_nil)) (pg_name (i := 4) sc_l_all.nd rfl (Or.inl rfl)) (pss_cons (ps_set (i := 5) sc_l_all.nd rfl (Or.inl rfl) (pe_lst pa_nil)) (pss_cons (ps_for PassesOwn.never rfl (pi_range1 (by rfl) T.n_range (pa_cons (show PE _ _ (tOp (rAddU K) _ _) from pe_op op_addU (show PE _ _ (tOp (rIx K) _ _) from pe_ix ix_seq (pv 1) (pv 4) (fun _ _ => rfl)) pe_int) pa_nil)) (pg_name (i := 6) sc_l_all.nd rfl (Or.inr rfl)) (pss_one (ps_expr (show PE _ _ (tBM K "list" rExtend _ _) from pe_bm PySem.F.plainAttrs_list PySem.F.slot_list_extend PySem.F.type_list_extend mt_extend (pv 5) (pa_cons (pe_lc (own := [("_law_back", 7)]) rfl sc_l_all.nd (pi_range1 (by rfl) T.n_range (pa_cons (show PE _ _ (tOp (rAddU K) _ _) from pe_op op_addU (show PE _ _ (tCB (DL.rMin2) _) from (pe_callB (id := "min") (call_min2 rfl) (by rfl) T.n_min (by decide +kernel) (pa_cons (show PE _ _ (tOp (rIx K) _ _) from pe_ix ix_seq (pv 2) (pv 4) (fun _ _ => rfl)) (pa_cons (pe_op op_sub (show PE _ _ (tOp (rIx K) _ _) from pe_ix ix_seq (pv 0) (pv 4) (fun _ _ => rfl)) (pv 6)) pa_nil)))) pe_int) pa_nil)) (blkOk_by (N := n_l_all) (sc := defScope s_l_all) (by decide +kernel)) (fun _ _ _ _ _ => (pg_name (i := 7) sc_l_all.nd rfl (Or.inl rfl))) (fun _ _ _ _ _ => pts_nil) (fun _ _ _ _ _ => (pe_tup (pa_cons (pv 6) (pa_cons (pv 7) pa_nil))))) pa_nil))))) (pss_one (ps_set (i := 3) sc_l_all.nd rfl (Or.inl rfl) (pe_call (okd_l_longer T) (hr.mono (by decide)) (by rfl) T.m_l_longer T.F_l_longer.kp T.b_l_longer .nil pass0 (pa_cons (pv 3) (pa_cons (pv 5) pa_nil)))))))) (pss_one (ps_ret (pv 3))))), ?_⟩
  exact body_E (es := e_l_all) ((wb_seq (wb_asg (we_of_wf (wf_lst (wa_cons (we_of_wf (wf_lst wa_nil)) wa_nil))) wg_name) (wb_seq (wb_for (wi_rng1 (we_cb1 ud_len (wo_of we_var))) wg_name (wb_seq (wb_asgF (wf_lst wa_nil)) (wb_seq (wb_for (wi_rng1 (we_op od_addU (wo_of (we_op od_ix (wo_of we_var) (wo_of we_var))) (wo_of we_int))) wg_name (wb_ext (we_of_wf (wf_lc (wi_rng1 (we_op od_addU (wo_of (we_cb2 od_min2 (wo_of (we_op od_ix (wo_of we_var) (wo_of we_var))) (wo_of (we_op od_sub (wo_of (we_op od_ix (wo_of we_var) (wo_of we_var))) (wo_of we_var))))) (wo_of we_int))) wg_name (by decide) wt_yes (we_tup (wa_cons we_var (wa_cons we_var wa_nil))))))) (wb_know (i := 5) (wb_asg (we_of_wf (wf_call (wa_cons we_var (wa_cons we_var wa_nil)))) wg_name))))) (wb_ret we_var)))) h

end
end K75


set_option Elab.async false
set_option linter.all false
set_option maxRecDepth 100000
set_option maxHeartbeats 4000000
namespace K75
open PySem PySem.Spec PyProof.Rows L2 TM Pr Ep Nw DL
section
variable {P : Program} {w : World} {K : PySem.W.Frag} {mg : Str → Option Value} {base : Heap} {A : Adr}
def e_l_is_stuck : ES := (sSeq (sAsg (eUn lenD (eVar 0)) (egName 4)) (sSeq (sFor (eEnum (eVar 3)) (egTup 2 (egCons (egName 5) (egCons (egName 6) egNil))) (sSeq (sPar 7 8 (emE (eOp modD (eOp addU (eVar 5) (eC (.int 1))) (eVar 4))) (emE (eOp modD (eOp subD (eOp addU (eVar 5) (eVar 4)) (eC (.int 1))) (eVar 4)))) (sSeq (sIf (eAndT (eB (eOp gtD (eOp ixD (eVar 6) (eC (.int 0))) (eC (.int 0)))) (eAndT (eB (eOp ltU (eOp ixD (eOp ixD (eVar 3) (eVar 7)) (eC (.int 0))) (eOp ixD (eVar 1) (eVar 7)))) (eB (eOp ltU (eUn sumU (eOp ixD (eVar 3) (eVar 7))) (eOp ixD (eVar 0) (eVar 7)))))) (sRet (eC (.bl false))) sNext) (sIf (eAndT (eB (eOp gtD (eOp ixD (eVar 6) (eC (.int 1))) (eC (.int 0)))) (eAndT (eB (eOp ltU (eOp ixD (eOp ixD (eVar 3) (eVar 8)) (eC (.int 1))) (eOp ixD (eVar 2) (eVar 8)))) (eB (eOp ltU (eUn sumU (eOp ixD (eVar 3) (eVar 8))) (eOp ixD (eVar 0) (eVar 8)))))) (sRet (eC (.bl false))) sNext))) [5, 7, 8]) (sRet (eUn anyD (eF (eLc (eSeq (eVar 3)) (egName 6) eYes (eOp neD (eVar 6) (eTup (eaCons (eC (.int 0)) (eaCons (eC (.int 0)) eaNil)))) [6]))))))
def d_l_is_stuck : List D → (D → Prop) → Prop := fun ds k => e_l_is_stuck (env0 false n_l_is_stuck ds) (knE k)
theorem okd_l_is_stuck (T : Txt K mg A) : FnOk P w K mg base CX0 1 A.l_is_stuck A.l_is_stuck_fd ["_law_places", "_law_forward", "_law_backward", "_law_stand"] (spE (oRA A) false 4 d_l_is_stuck) := by
  refine T.F_l_is_stuck.ok sc_l_is_stuck (fun vs H Q E h => len_E h) (fun cdv A' outer s H vs Q E hr h => ?_)
  have hu := hu_of hr
  refine ⟨_, (pss_cons (ps_set (i := 4) sc_l_is_stuck.nd rfl (Or.inl rfl) (show PE _ _ (tCB (rLenA K) _) from (pe_callB (id := "len") call_len (by rfl) T.n_len (by decide +kernel) (pa_cons (pv 0) pa_nil)))) (pss_cons (ps_for PassesOwn.never rfl (pi_enum (by rfl) T.n_enumerate (pa_cons (pv 3) pa_nil)) (show PG _ _ (gTup K 2 _) from pg_tup rfl (pgs_cons (pg_name (i := 5) sc_l_is_stuck.nd rfl (Or.inl rfl)) (pgs_cons (pg_name (i := 6) sc_l_is_stuck.nd rfl (Or.inl rfl)) pgs_nil))) (pss_cons (ps_par (i := 7) (j := 8) (by rfl) sc_l_is_stuck.nd rfl rfl (by decide) rfl rfl (pa_cons (pe_op op_modN (show PE _ _ (tOp (rAddU K) _ _) from pe_op op_addU (pv 5) pe_int) (pv 4)) (pa_cons (pe_op op_modN (pe_op op_sub (show PE _ _ (tOp (rAddU K) _ _) from pe_op op_addU (pv 5) (pv 4)) pe_int) (pv 4)) pa_nil)) (by rfl)) (pss_cons (ps_if (PW.pt (pw_and (show PT _ _ (tTest (tOp (rI0 fun i j => V.bl (decide (j < i))) _ _)) from pt_cmpR op_gt (show PE _ _ (tOp (rIx K) _ _) from pe_ix ix_seq (pv 6) pe_int (fun _ _ => rfl)) pe_int (nomark _)) (pw_and (show PT _ _ (tTest (tOp (rLtU K) _ _)) from pt_cmpR (op_ltU (Nat.lt_of_succ_lt hu)) (show PE _ _ (tOp (rIx K) _ _) from pe_ix ix_seq (show PE _ _ (tOp (rIx K) _ _) from pe_ix ix_seq (pv 3) (pv 7) (fun _ _ => rfl)) pe_int (fun _ _ => rfl)) (show PE _ _ (tOp (rIx K) _ _) from pe_ix ix_seq (pv 1) (pv 7) (fun _ _ => rfl)) (nomark _)) (pw_and1 (show PT _ _ (tTest (tOp (rLtU K) _ _)) from pt_cmpR (op_ltU (Nat.lt_of_succ_lt hu)) (show PE _ _ (tCB (rSumA K) _) from (pe_callB (id := "sum") (cr_sumA rfl) (by rfl) T.n_sum (by decide +kernel) (pa_cons (show PE _ _ (tOp (rIx K) _ _) from pe_ix ix_seq (pv 3) (pv 7) (fun _ _ => rfl)) pa_nil))) (show PE _ _ (tOp (rIx K) _ _) from pe_ix ix_seq (pv 0) (pv 7) (fun _ _ => rfl)) (nomark _)))))) (pss_one (ps_ret pe_bl)) pss_nil) (pss_one (ps_if (PW.pt (pw_and (show PT _ _ (tTest (tOp (rI0 fun i j => V.bl (decide (j < i))) _ _)) from pt_cmpR op_gt (show PE _ _ (tOp (rIx K) _ _) from pe_ix ix_seq (pv 6) pe_int (fun _ _ => rfl)) pe_int (nomark _)) (pw_and (show PT _ _ (tTest (tOp (rLtU K) _ _)) from pt_cmpR (op_ltU (Nat.lt_of_succ_lt hu)) (show PE _ _ (tOp (rIx K) _ _) from pe_ix ix_seq (show PE _ _ (tOp (rIx K) _ _) from pe_ix ix_seq (pv 3) (pv 8) (fun _ _ => rfl)) pe_int (fun _ _ => rfl)) (show PE _ _ (tOp (rIx K) _ _) from pe_ix ix_seq (pv 2) (pv 8) (fun _ _ => rfl)) (nomark _)) (pw_and1 (show PT _ _ (tTest (tOp (rLtU K) _ _)) from pt_cmpR (op_ltU (Nat.lt_of_succ_lt hu)) (show PE _ _ (tCB (rSumA K) _) from (pe_callB (id := "sum") (cr_sumA rfl) (by rfl) T.n_sum (by decide +kernel) (pa_cons (show PE _ _ (tOp (rIx K) _ _) from pe_ix ix_seq (pv 3) (pv 8) (fun _ _ => rfl)) pa_nil))) (show PE _ _ (tOp (rIx K) _ _) from pe_ix ix_seq (pv 0) (pv 8) (fun _ _ => rfl)) (nomark _)))))) (pss_one (ps_ret pe_bl)) pss_nil))))) (pss_one (ps_ret (show PE _ _ (tCB (rAny K) _) from (pe_callB (id := "any") (cr_any rfl) (by rfl) T.n_any (by decide +kernel) (pa_cons (pe_lc (own := [("_law_one", 6)]) rfl sc_l_is_stuck.nd (show PI _ _ _ (iSeq K _) from pi_seqU (pv 3)) (blkOk_by (N := n_l_is_stuck) (sc := defScope s_l_is_stuck) (by decide +kernel)) (fun _ _ _ _ _ => (pg_name (i := 6) sc_l_is_stuck.nd rfl (Or.inl rfl))) (fun _ _ _ _ _ => pts_nil) (fun _ _ _ _ _ => (show PE _ _ (tOp (rNeD K) _ _) from pe_cmpR (op_neD hr.units) (pv 6) (pe_tup (pa_cons pe_int (pa_cons pe_int pa_nil))) (nomark _)))) pa_nil))))))), ?_⟩
  exact body_E (es := e_l_is_stuck) ((wb_seq (wb_asg (we_cb1 ud_len (wo_of we_var)) wg_name) (wb_seq (wb_for (wi_enum we_var) (wg_tup (wgs_cons wg_name (wgs_cons wg_name wgs_nil))) (wb_seq (wb_par (wm_E (we_op od_mod (wo_of (we_op od_addU (wo_of we_var) (wo_of we_int))) (wo_of we_var))) (wm_E (we_op od_mod (wo_of (we_op od_sub (wo_of (we_op od_addU (wo_of we_var) (wo_of we_var))) (wo_of we_int))) (wo_of we_var)))) (wb_seq (wb_if (wt_and (wt_test (we_op od_gt (wo_of (we_op od_ix (wo_of we_var) (wo_of we_int))) (wo_of we_int))) (wt_and (wt_test (we_op od_ltU (wo_of (we_op od_ix (wo_of (we_op od_ix (wo_of we_var) (wo_of we_var))) (wo_of we_int))) (wo_of (we_op od_ix (wo_of we_var) (wo_of we_var))))) (wt_test (we_op od_ltU (wo_of (we_cb1 ud_sumU (wo_of (we_op od_ix (wo_of we_var) (wo_of we_var))))) (wo_of (we_op od_ix (wo_of we_var) (wo_of we_var))))))) (wb_ret we_bl) wb_next) (wb_if (wt_and (wt_test (we_op od_gt (wo_of (we_op od_ix (wo_of we_var) (wo_of we_int))) (wo_of we_int))) (wt_and (wt_test (we_op od_ltU (wo_of (we_op od_ix (wo_of (we_op od_ix (wo_of we_var) (wo_of we_var))) (wo_of we_int))) (wo_of (we_op od_ix (wo_of we_var) (wo_of we_var))))) (wt_test (we_op od_ltU (wo_of (we_cb1 ud_sumU (wo_of (we_op od_ix (wo_of we_var) (wo_of we_var))))) (wo_of (we_op od_ix (wo_of we_var) (wo_of we_var))))))) (wb_ret we_bl) wb_next)))) (wb_ret (we_cb1 ud_any (wo_of (we_of_wf (wf_lc (wi_seq we_var) wg_name (by decide) wt_yes (we_op od_ne (wo_of we_var) (wo_of (we_tup (wa_cons we_int (wa_cons we_int wa_nil))))))))))))) h

end
end K75


set_option Elab.async false
set_option linter.all false
set_option maxRecDepth 100000
set_option maxHeartbeats 4000000
namespace K75
open PySem PySem.Spec PyProof.Rows L2 TM Pr Ep Nw DL
section
variable {P : Program} {w : World} {K : PySem.W.Frag} {mg : Str → Option Value} {base : Heap} {A : Adr}
def e_l_pick : ES := (sRet (eOp ixD (eVar 1) (eCallP 0 1 b_draw (eaCons (eUn lenD (eVar 1)) eaNil))))
def d_l_pick : List D → (D → Prop) → Prop := fun ds k => e_l_pick (env0 true n_l_pick ds) (knE k)
theorem okd_l_pick (T : Txt K mg A) : FnOk P w K mg base CX0 2 A.l_pick A.l_pick_fd ["_law_pot_here", "_law_some"] (spE (oRA A) true 1 d_l_pick) := by
  refine T.F_l_pick.ok sc_l_pick (fun vs H Q E h => len_E h) (fun cdv A' outer s H vs Q E hr h => ?_)
  have hu := hu_of hr
  refine ⟨_, (pss_one (ps_ret (show PE _ _ (tOp (rIx K) _ _) from pe_ix ix_seq (pv 1) (pe_call (okb_l_draw T) (hr.mono (by decide)) (by rfl) T.m_l_draw T.F_l_draw.kp T.b_l_draw .nil pass0 (pa_cons (pv 0) (pa_cons (show PE _ _ (tCB (rLenA K) _) from (pe_callB (id := "len") call_len (by rfl) T.n_len (by decide +kernel) (pa_cons (pv 1) pa_nil))) pa_nil))) (fun _ _ => rfl)))), ?_⟩
  exact body_E (es := e_l_pick) ((wb_ret (we_op od_ix (wo_of we_var) (wo_of (we_callP (wa_cons (we_cb1 ud_len (wo_of we_var)) wa_nil)))))) h

end
end K75

set_option Elab.async false
set_option linter.all false
set_option maxRecDepth 100000
set_option maxHeartbeats 4000000
namespace K75
open PySem PySem.Spec PyProof.Rows L2 TM Pr Ep Nw DL
section
variable {P : Program} {w : World} {K : PySem.W.Frag} {mg : Str → Option Value} {base : Heap} {A : Adr}
theorem KB_is_round_stuck_3210_l_judged_right (T : Txt K mg A) : KBinds K A.is_round_stuck_fd ["places", "forward", "backward", "value"] ["value", "backward", "forward", "places"] (kgP [3, 2, 1, 0]) (kgPV [3, 2, 1, 0]) := by
  obtain ⟨oc, od, kV, doc, pm, an, cdv, ct, osl, e, lk, hcd⟩ := T.F_is_round_stuck.ex
  refine ⟨fun s us ws hk hl => ?_, kgP_rel⟩
  cases us with
  | cons u us => cases hl
  | nil =>
    have t2 : ws.length = 4 := by
      by_cases z : ws.length = ([3, 2, 1, 0] : List Nat).length
      · exact z
      · have hl : (if ws.length = ([3, 2, 1, 0] : List Nat).length then ([3, 2, 1, 0] : List Nat).map (fun i => ws.getD i .none) else []).length = 4 := hl
        rw [if_neg z] at hl
        cases hl
    match ws, t2 with
    | [w0, w1, w2, w3], _ =>
      rw [e]
      exact BindsTo.of_eq rfl
def e_l_judged_right : ES := (sSeq (sFor (eRng1 (eC (.int 12))) (egName 5) (sSeq (sAsg (eCallP 4 1 d_l_pick (eaCons (eVar 3) eaNil)) (egName 6)) (sSeq (sAsg (eIf (eB (eOp eqD (eOp mulU (eOp fdivD (eVar 5) (eC (.int 2))) (eC (.int 2))) (eVar 5))) (eUn tupD (eVar 6)) (eVar 6)) (egName 7)) (sSeq (sAsg (eCall 4 d_l_is_stuck (eaCons (eVar 0) (eaCons (eVar 1) (eaCons (eVar 2) (eaCons (eVar 6) eaNil))))) (egName 8)) (sIf (eOrT (eB (eOp neD (eUn reprD (eCall 4 d_is_round_stuck (eaCons (eVar 0) (eaCons (eVar 1) (eaCons (eVar 2) (eaCons (eVar 7) eaNil)))))) (eUn reprD (eVar 8)))) (eB (eOp neD (eUn reprD (eCallW [3, 2, 1, 0] 4 d_is_round_stuck (eaCons (eVar 6) (eaCons (eVar 2) (eaCons (eVar 1) (eaCons (eVar 0) eaNil)))))) (eUn reprD (eVar 8))))) (sRet (eC (.bl false))) sNext)))) [5, 6, 7, 8]) (sRet (eC (.bl true))))
def d_l_judged_right : List D → (D → Prop) → Prop := fun ds k => e_l_judged_right (env0L n_l_judged_right ds) (knE k)
theorem okd_l_judged_right (T : Txt K mg A) : G8.FnOkG P w K mg base CX0 5 A.l_judged_right A.l_judged_right_fd ["_law_places", "_law_forward", "_law_backward", "_law_stands", "_law_pot_here"] (spL (oRA A) 4 d_l_judged_right) := by
  refine G8.okG T.F_l_judged_right sc_l_judged_right (fun vs H Q E h => len_L h) (fun cdv A' outer s H vs Q E hr hG h => ?_)
  have hu := hu_of hr
  refine ⟨_, (pss_cons (ps_for PassesOwn.never rfl (pi_range1 (by rfl) T.n_range (pa_cons pe_int pa_nil)) (pg_name (i := 5) sc_l_judged_right.nd rfl (Or.inl rfl)) (pss_cons (ps_set (i := 6) sc_l_judged_right.nd rfl (Or.inl rfl) (pe_call (okd_l_pick T) (hr.mono (by decide)) (by rfl) T.m_l_pick T.F_l_pick.kp T.b_l_pick .nil pass0 (pa_cons (pv 4) (pa_cons (pv 3) pa_nil)))) (pss_cons (ps_set (i := 7) sc_l_judged_right.nd rfl (Or.inl rfl) (pe_ifExp (show PT _ _ (tTest (tOp (rEqD K) _ _)) from pt_cmpR (op_eqD hr.units) (show PE _ _ (tOp (rMulU) _ _) from pe_op op_mulU (pe_op op_fdivN (pv 5) pe_int) pe_int) (pv 5) (nomark _)) (show PE _ _ (tCB (rTupOf K) _) from (pe_callTy (T := "tuple") call_tuple_of (by rfl) T.n_tuple (by decide +kernel) (pa_cons (pv 6) pa_nil))) (pv 6))) (pss_cons (ps_set (i := 8) sc_l_judged_right.nd rfl (Or.inl rfl) (pe_call (okd_l_is_stuck T) (hr.mono (by decide)) (by rfl) T.m_l_is_stuck T.F_l_is_stuck.kp T.b_l_is_stuck .nil pass0 (pa_cons (pv 0) (pa_cons (pv 1) (pa_cons (pv 2) (pa_cons (pv 6) pa_nil)))))) (pss_one (ps_if (PW.pt (pw_or (show PT _ _ (tTest (tOp (rNeD K) _ _)) from pt_cmpR (op_neD hr.units) (show PE _ _ (tCB (rReprU K) _) from (pe_callB (id := "repr") (cr_reprU hG hr.units) (by rfl) T.n_repr (by decide +kernel) (pa_cons (pe_call (okd_is_round_stuck T) (hr.mono (by decide)) (by rfl) T.m_is_round_stuck T.F_is_round_stuck.kp T.b_is_round_stuck .nil pass0 (pa_cons (pv 0) (pa_cons (pv 1) (pa_cons (pv 2) (pa_cons (pv 7) pa_nil))))) pa_nil))) (show PE _ _ (tCB (rReprU K) _) from (pe_callB (id := "repr") (cr_reprU hG hr.units) (by rfl) T.n_repr (by decide +kernel) (pa_cons (pv 8) pa_nil))) (nomark _)) (pw_or1 (show PT _ _ (tTest (tOp (rNeD K) _ _)) from pt_cmpR (op_neD hr.units) (show PE _ _ (tCB (rReprU K) _) from (pe_callB (id := "repr") (cr_reprU hG hr.units) (by rfl) T.n_repr (by decide +kernel) (pa_cons (G8.pe_callK0 (okd_is_round_stuck T) (hr.mono (by decide)) (by rfl) T.m_is_round_stuck T.F_is_round_stuck.kp (KB_is_round_stuck_3210_l_judged_right T) pass0 (pk_cons (pv 6) (pk_cons (pv 2) (pk_cons (pv 1) (pk_cons (pv 0) pk_nil))))) pa_nil))) (show PE _ _ (tCB (rReprU K) _) from (pe_callB (id := "repr") (cr_reprU hG hr.units) (by rfl) T.n_repr (by decide +kernel) (pa_cons (pv 8) pa_nil))) (nomark _))))) (pss_one (ps_ret pe_bl)) pss_nil)))))) (pss_one (ps_ret pe_bl))), ?_⟩
  exact body_L (es := e_l_judged_right) ((wb_seq (wb_for (wi_rng1 we_int) wg_name (wb_seq (wb_asg (we_callP (wa_cons we_var wa_nil)) wg_name) (wb_seq (wb_asg (we_if (wt_test (we_op od_eq (wo_of (we_op od_mulU (wo_of (we_op od_fdiv (wo_of we_var) (wo_of we_int))) (wo_of we_int))) (wo_of we_var))) (we_cb1 ud_tup (wo_of we_var)) we_var) wg_name) (wb_seq (wb_asg (we_call (wa_cons we_var (wa_cons we_var (wa_cons we_var (wa_cons we_var wa_nil))))) wg_name) (wb_if (wt_or (wt_test (we_op od_ne (wo_of (we_cb1 ud_repr (wo_of (we_call (wa_cons we_var (wa_cons we_var (wa_cons we_var (wa_cons we_var wa_nil)))))))) (wo_of (we_cb1 ud_repr (wo_of we_var))))) (wt_test (we_op od_ne (wo_of (we_cb1 ud_repr (wo_of (we_callW rfl (wa_cons we_var (wa_cons we_var (wa_cons we_var (wa_cons we_var wa_nil)))))))) (wo_of (we_cb1 ud_repr (wo_of we_var)))))) (wb_ret we_bl) wb_next))))) (wb_ret we_bl))) h

end
end K75


set_option Elab.async false
set_option linter.all false
set_option maxRecDepth 100000
set_option maxHeartbeats 4000000
namespace K75
open PySem PySem.Spec PyProof.Rows L2 TM Pr Ep Nw DL
section
variable {P : Program} {w : World} {K : PySem.W.Frag} {mg : Str → Option Value} {base : Heap} {A : Adr}
def e_round_pairs : ES := (sSeq (sAsg (eUn rgU (eUn lenD (eVar 0))) (egName 3)) (sRetF (eLc2 (eRgo (eVar 3)) (egName 4) eYes (eRgo (eVar 3)) (egName 5) (eAndT (eB (eOp neD (eVar 4) (eVar 5))) (eAndT (eB (eOp eqD (eOp ixD (eVar 1) (eVar 4)) (eOp ixD (eVar 0) (eVar 4)))) (eB (eOp eqD (eOp ixD (eVar 2) (eVar 5)) (eOp ixD (eVar 0) (eVar 5)))))) (eTup (eaCons (eVar 4) (eaCons (eVar 5) eaNil))) [4, 5] [5])))
def d_round_pairs : List D → (List D → Prop) → Prop := fun ds k => e_round_pairs (env0 false n_round_pairs ds) (knF k)
theorem okd_round_pairs (T : Txt K mg A) : FnOk P w K mg base CX0 1 A.round_pairs A.round_pairs_fd ["places", "forward", "backward"] (spF (oRA A) false 3 d_round_pairs) := by
  refine T.F_round_pairs.ok sc_round_pairs (fun vs H Q E h => len_F h) (fun cdv A' outer s H vs Q E hr h => ?_)
  have hu := hu_of hr
  refine ⟨_, (pss_cons (ps_set (i := 3) sc_round_pairs.nd rfl (Or.inr rfl) (show PE _ _ (tCB (rRg1) _) from (pe_callTy (T := "range") cr_range1 (by rfl) T.n_range (by decide +kernel) (pa_cons (show PE _ _ (tCB (rLenA K) _) from (pe_callB (id := "len") call_len (by rfl) T.n_len (by decide +kernel) (pa_cons (pv 0) pa_nil))) pa_nil)))) (pss_one (ps_ret (pe_lc2 (own := [("first", 4), ("last", 5)]) (vs1 := [5]) rfl sc_round_pairs.nd (pi_rgo (pv 3)) (blkOk_by (N := n_round_pairs) (sc := defScope s_round_pairs) (by decide +kernel)) (by decide) (fun _ _ _ _ _ => (pg_name (i := 4) sc_round_pairs.nd rfl (Or.inl rfl))) (fun _ _ _ _ _ => pts_nil) (fun _ _ _ _ _ => (pi_rgo (pv 3))) (fun _ _ _ _ _ => (pg_name (i := 5) sc_round_pairs.nd rfl (Or.inl rfl))) (fun _ _ _ _ _ => (pts_one (PW.pt (pw_and (show PT _ _ (tTest (tOp (rNeD K) _ _)) from pt_cmpR (op_neD hr.units) (pv 4) (pv 5) (nomark _)) (pw_and (show PT _ _ (tTest (tOp (rEqD K) _ _)) from pt_cmpR (op_eqD hr.units) (show PE _ _ (tOp (rIx K) _ _) from pe_ix ix_seq (pv 1) (pv 4) (fun _ _ => rfl)) (show PE _ _ (tOp (rIx K) _ _) from pe_ix ix_seq (pv 0) (pv 4) (fun _ _ => rfl)) (nomark _)) (pw_and1 (show PT _ _ (tTest (tOp (rEqD K) _ _)) from pt_cmpR (op_eqD hr.units) (show PE _ _ (tOp (rIx K) _ _) from pe_ix ix_seq (pv 2) (pv 5) (fun _ _ => rfl)) (show PE _ _ (tOp (rIx K) _ _) from pe_ix ix_seq (pv 0) (pv 5) (fun _ _ => rfl)) (nomark _)))))))) (fun _ _ _ _ _ => (pe_tup (pa_cons (pv 4) (pa_cons (pv 5) pa_nil)))))))), ?_⟩
  exact body_F (es := e_round_pairs) ((wb_seq (wb_asg (we_cb1 ud_rg (wo_of (we_cb1 ud_len (wo_of we_var)))) wg_name) (wb_retF (wf_lc2 (wi_rgo we_var) wg_name (by decide) wt_yes (wi_rgo we_var) wg_name (by decide) (wt_and (wt_test (we_op od_ne (wo_of we_var) (wo_of we_var))) (wt_and (wt_test (we_op od_eq (wo_of (we_op od_ix (wo_of we_var) (wo_of we_var))) (wo_of (we_op od_ix (wo_of we_var) (wo_of we_var))))) (wt_test (we_op od_eq (wo_of (we_op od_ix (wo_of we_var) (wo_of we_var))) (wo_of (we_op od_ix (wo_of we_var) (wo_of we_var))))))) (we_tup (wa_cons we_var (wa_cons we_var wa_nil))))))) h

end
end K75


set_option Elab.async false
set_option linter.all false
set_option maxRecDepth 100000
set_option maxHeartbeats 4000000
namespace K75
open PySem PySem.Spec PyProof.Rows L2 TM Pr Ep Nw DL
section
variable {P : Program} {w : World} {K : PySem.W.Frag} {mg : Str → Option Value} {base : Heap} {A : Adr}
def e_stand_between : ES := (sSeq (sAsgF 5 (eLc (eSeq (eVar 0)) (egName 7) eYes (eTup (eaCons (eC (.int 0)) (eaCons (eC (.int 0)) eaNil))) [7])) (sSeq (sSet2 5 (eVar 3) 5 (eVar 4) (eTup (eaCons (eTup (eaCons (eOp ixD (eVar 0) (eVar 3)) (eaCons (eC (.int 0)) eaNil))) (eaCons (eTup (eaCons (eC (.int 0)) (eaCons (eOp ixD (eVar 0) (eVar 4)) eaNil))) eaNil)))) (sSeq (sAsg (eOp modD (eOp addU (eVar 3) (eC (.int 1))) (eUn lenD (eVar 0))) (egName 6)) (sSeq (sWhile (eB (eOp neD (eVar 6) (eVar 4))) (sSeq (sSetL 5 (eVar 6) (eTup (eaCons (eOp ixD (eVar 1) (eVar 6)) (eaCons (eOp min2D (eOp ixD (eVar 2) (eVar 6)) (eOp subD (eOp ixD (eVar 0) (eVar 6)) (eOp ixD (eVar 1) (eVar 6)))) eaNil)))) (sAsg (eOp modD (eOp addU (eVar 6) (eC (.int 1))) (eUn lenD (eVar 0))) (egName 6)))) (sRetM 5)))))
def d_stand_between : List D → (List D → Prop) → Prop := fun ds k => e_stand_between (env0 false n_stand_between ds) (knF k)
theorem okd_stand_between (T : Txt K mg A) : FnOk P w K mg base CX0 1 A.stand_between A.stand_between_fd ["places", "forward", "backward", "first", "last"] (spF (oRA A) false 5 d_stand_between) := by
  refine T.F_stand_between.ok sc_stand_between (fun vs H Q E h => len_F h) (fun cdv A' outer s H vs Q E hr h => ?_)
  have hu := hu_of hr
  refine ⟨_, (pss_cons (ps_setLc (i := 5) (own := [("_", 7)]) rfl sc_stand_between.nd rfl rfl (sw_true rfl rfl rfl (by decide +kernel)) (show PI _ _ _ (iSeq K _) from pi_seqU (pv 0)) (blkOk_by (N := n_stand_between) (sc := defScope s_stand_between) (by decide +kernel)) (fun _ _ _ _ _ => (pg_name (i := 7) sc_stand_between.nd rfl (Or.inl rfl))) (fun _ _ _ _ _ => pts_nil) (fun _ _ _ _ _ => (pe_tup (pa_cons pe_int (pa_cons pe_int pa_nil))))) (pss_cons (ps_asg (pe_tup (pa_cons (pe_tup (pa_cons (show PE _ _ (tOp (rIx K) _ _) from pe_ix ix_seq (pv 0) (pv 3) (fun _ _ => rfl)) (pa_cons pe_int pa_nil))) (pa_cons (pe_tup (pa_cons pe_int (pa_cons (show PE _ _ (tOp (rIx K) _ _) from pe_ix ix_seq (pv 0) (pv 4) (fun _ _ => rfl)) pa_nil))) pa_nil))) (show PG _ _ (gTup K 2 _) from pg_tup rfl (pgs_cons (show PG _ _ (gSub _ _ rSetL) from pg_sub (pv 5) (pv 3) set_list) (pgs_cons (show PG _ _ (gSub _ _ rSetL) from pg_sub (pv 5) (pv 4) set_list) pgs_nil)))) (pss_cons (ps_set (i := 6) sc_stand_between.nd rfl (Or.inl rfl) (pe_op op_modN (show PE _ _ (tOp (rAddU K) _ _) from pe_op op_addU (pv 3) pe_int) (show PE _ _ (tCB (rLenA K) _) from (pe_callB (id := "len") call_len (by rfl) T.n_len (by decide +kernel) (pa_cons (pv 0) pa_nil))))) (pss_cons (ps_while PassesOwn.never (show PT _ _ (tTest (tOp (rNeD K) _ _)) from pt_cmpR (op_neD hr.units) (pv 6) (pv 4) (nomark _)) (pss_cons (ps_asg (pe_tup (pa_cons (show PE _ _ (tOp (rIx K) _ _) from pe_ix ix_seq (pv 1) (pv 6) (fun _ _ => rfl)) (pa_cons (show PE _ _ (tCB (DL.rMin2) _) from (pe_callB (id := "min") (call_min2 rfl) (by rfl) T.n_min (by decide +kernel) (pa_cons (show PE _ _ (tOp (rIx K) _ _) from pe_ix ix_seq (pv 2) (pv 6) (fun _ _ => rfl)) (pa_cons (pe_op op_sub (show PE _ _ (tOp (rIx K) _ _) from pe_ix ix_seq (pv 0) (pv 6) (fun _ _ => rfl)) (show PE _ _ (tOp (rIx K) _ _) from pe_ix ix_seq (pv 1) (pv 6) (fun _ _ => rfl))) pa_nil)))) pa_nil))) (show PG _ _ (gSub _ _ rSetL) from pg_sub (pv 5) (pv 6) set_list)) (pss_one (ps_set (i := 6) sc_stand_between.nd rfl (Or.inl rfl) (pe_op op_modN (show PE _ _ (tOp (rAddU K) _ _) from pe_op op_addU (pv 6) pe_int) (show PE _ _ (tCB (rLenA K) _) from (pe_callB (id := "len") call_len (by rfl) T.n_len (by decide +kernel) (pa_cons (pv 0) pa_nil)))))))) (pss_one (ps_ret (pv 5))))))), ?_⟩
  exact body_F (es := e_stand_between) ((wb_seq (wb_asgF (wf_lc (wi_seq we_var) wg_name (by decide) wt_yes (we_tup (wa_cons we_int (wa_cons we_int wa_nil))))) (wb_seq (wb_set2 (we_tup (wa_cons (we_tup (wa_cons (we_op od_ix (wo_of we_var) (wo_of we_var)) (wa_cons we_int wa_nil))) (wa_cons (we_tup (wa_cons we_int (wa_cons (we_op od_ix (wo_of we_var) (wo_of we_var)) wa_nil))) wa_nil))) (wo_of we_var) (wo_of we_var)) (wb_seq (wb_asg (we_op od_mod (wo_of (we_op od_addU (wo_of we_var) (wo_of we_int))) (wo_of (we_cb1 ud_len (wo_of we_var)))) wg_name) (wb_seq (wb_while (wt_test (we_op od_ne (wo_of we_var) (wo_of we_var))) (wb_seq (wb_setL (we_tup (wa_cons (we_op od_ix (wo_of we_var) (wo_of we_var)) (wa_cons (we_cb2 od_min2 (wo_of (we_op od_ix (wo_of we_var) (wo_of we_var))) (wo_of (we_op od_sub (wo_of (we_op od_ix (wo_of we_var) (wo_of we_var))) (wo_of (we_op od_ix (wo_of we_var) (wo_of we_var)))))) wa_nil))) (wo_of we_var)) (wb_asg (we_op od_mod (wo_of (we_op od_addU (wo_of we_var) (wo_of we_int))) (wo_of (we_cb1 ud_len (wo_of we_var)))) wg_name))) wb_retM))))) h

end
end K75

set_option Elab.async false
set_option linter.all false
set_option maxRecDepth 100000
set_option maxHeartbeats 4000000
namespace K75
open PySem PySem.Spec PyProof.Rows L2 TM Pr Ep Nw DL
section
variable {P : Program} {w : World} {K : PySem.W.Frag} {mg : Str → Option Value} {base : Heap} {A : Adr}
def e_round_stand : ES := (sSeq (sDrop (eCall 3 d_check_round (eaCons (eVar 0) (eaCons (eVar 1) (eaCons (eVar 2) eaNil))))) (sSeq (sAsgF 3 (eLst (eaCons (eF (eLc (eSeq (eVar 1)) (egName 6) eYes (eTup (eaCons (eVar 6) (eaCons (eC (.int 0)) eaNil))) [6])) (eaCons (eF (eLc (eSeq (eVar 2)) (egName 6) eYes (eTup (eaCons (eC (.int 0)) (eaCons (eVar 6) eaNil))) [6])) eaNil)))) (sSeq (sFor (eSeq (eF (eCallF 3 d_round_pairs (eaCons (eVar 0) (eaCons (eVar 1) (eaCons (eVar 2) eaNil)))))) (egTup 2 (egCons (egName 4) (egCons (egName 5) egNil))) (sApp 3 (eF (eCallF 5 d_stand_between (eaCons (eVar 0) (eaCons (eVar 1) (eaCons (eVar 2) (eaCons (eVar 4) (eaCons (eVar 5) eaNil)))))))) [4, 5]) (sKnow 3 (sRet (eOp ixD (eUn minDL (eF (eLc (eSeq (eVar 3)) (egName 7) eYes (eTup (eaCons (eCall 1 d_carts_in_all (eaCons (eVar 7) eaNil)) (eaCons (eVar 7) eaNil))) [7]))) (eC (.int 1))))))))
def d_round_stand : List D → (D → Prop) → Prop := fun ds k => e_round_stand (env0 false n_round_stand ds) (knE k)
theorem okd_round_stand (T : Txt K mg A) : FnOk P w K mg base CX0 4 A.round_stand A.round_stand_fd ["places", "forward", "backward"] (spE (oRA A) false 3 d_round_stand) := by
  refine T.F_round_stand.ok sc_round_stand (fun vs H Q E h => len_E h) (fun cdv A' outer s H vs Q E hr h => ?_)
  have hu := hu_of hr
  refine ⟨_, (pss_cons (ps_expr (pe_call (okd_check_round T) (hr.mono (by decide)) (by rfl) T.m_check_round T.F_check_round.kp T.b_check_round .nil pass0 (pa_cons (pv 0) (pa_cons (pv 1) (pa_cons (pv 2) pa_nil))))) (pss_cons (ps_set (i := 3) sc_round_stand.nd rfl (Or.inl rfl) (pe_lst (pa_cons (pe_lc (own := [("bound", 6)]) rfl sc_round_stand.nd (show PI _ _ _ (iSeq K _) from pi_seqU (pv 1)) (blkOk_by (N := n_round_stand) (sc := defScope s_round_stand) (by decide +kernel)) (fun _ _ _ _ _ => (pg_name (i := 6) sc_round_stand.nd rfl (Or.inl rfl))) (fun _ _ _ _ _ => pts_nil) (fun _ _ _ _ _ => (pe_tup (pa_cons (pv 6) (pa_cons pe_int pa_nil))))) (pa_cons (pe_lc (own := [("bound", 6)]) rfl sc_round_stand.nd (show PI _ _ _ (iSeq K _) from pi_seqU (pv 2)) (blkOk_by (N := n_round_stand) (sc := defScope s_round_stand) (by decide +kernel)) (fun _ _ _ _ _ => (pg_name (i := 6) sc_round_stand.nd rfl (Or.inl rfl))) (fun _ _ _ _ _ => pts_nil) (fun _ _ _ _ _ => (pe_tup (pa_cons pe_int (pa_cons (pv 6) pa_nil))))) pa_nil)))) (pss_cons (ps_for PassesOwn.never rfl (show PI _ _ _ (iSeq K _) from pi_seqU (pe_call (okd_round_pairs T) (hr.mono (by decide)) (by rfl) T.m_round_pairs T.F_round_pairs.kp T.b_round_pairs .nil pass0 (pa_cons (pv 0) (pa_cons (pv 1) (pa_cons (pv 2) pa_nil))))) (show PG _ _ (gTup K 2 _) from pg_tup rfl (pgs_cons (pg_name (i := 4) sc_round_stand.nd rfl (Or.inl rfl)) (pgs_cons (pg_name (i := 5) sc_round_stand.nd rfl (Or.inl rfl)) pgs_nil))) (pss_one (ps_expr (show PE _ _ (tBM K "list" rAppend _ _) from pe_bm PySem.F.plainAttrs_list PySem.F.slot_list_append PySem.F.type_list_append mt_append (pv 3) (pa_cons (pe_call (okd_stand_between T) (hr.mono (by decide)) (by rfl) T.m_stand_between T.F_stand_between.kp T.b_stand_between .nil pass0 (pa_cons (pv 0) (pa_cons (pv 1) (pa_cons (pv 2) (pa_cons (pv 4) (pa_cons (pv 5) pa_nil)))))) pa_nil))))) (pss_one (ps_ret (show PE _ _ (tOp (rIx K) _ _) from pe_ix ix_seq (show PE _ _ (tCB (rMinL K) _) from (pe_callB (id := "min") (cr_minL rfl hr.units) (by rfl) T.n_min (by decide +kernel) (pa_cons (pe_lc (own := [("stand", 7)]) rfl sc_round_stand.nd (show PI _ _ _ (iSeq K _) from pi_seqU (pv 3)) (blkOk_by (N := n_round_stand) (sc := defScope s_round_stand) (by decide +kernel)) (fun _ _ _ _ _ => (pg_name (i := 7) sc_round_stand.nd rfl (Or.inl rfl))) (fun _ _ _ _ _ => pts_nil) (fun _ _ _ _ _ => (pe_tup (pa_cons (pe_call (okd_carts_in_all T) (hr.mono (by decide)) (by rfl) T.m_carts_in_all T.F_carts_in_all.kp T.b_carts_in_all .nil pass0 (pa_cons (pv 7) pa_nil)) (pa_cons (pv 7) pa_nil))))) pa_nil))) pe_int (fun _ _ => rfl))))))), ?_⟩
  exact body_E (es := e_round_stand) ((wb_seq (wb_drop (wo_of (we_call (wa_cons we_var (wa_cons we_var (wa_cons we_var wa_nil)))))) (wb_seq (wb_asgF (wf_lst (wa_cons (we_of_wf (wf_lc (wi_seq we_var) wg_name (by decide) wt_yes (we_tup (wa_cons we_var (wa_cons we_int wa_nil))))) (wa_cons (we_of_wf (wf_lc (wi_seq we_var) wg_name (by decide) wt_yes (we_tup (wa_cons we_int (wa_cons we_var wa_nil))))) wa_nil)))) (wb_seq (wb_for (wi_seq (we_of_wf (wf_call (wa_cons we_var (wa_cons we_var (wa_cons we_var wa_nil)))))) (wg_tup (wgs_cons wg_name (wgs_cons wg_name wgs_nil))) (wb_app (we_of_wf (wf_call (wa_cons we_var (wa_cons we_var (wa_cons we_var (wa_cons we_var (wa_cons we_var wa_nil))))))))) (wb_know (i := 3) (wb_ret (we_op od_ix (wo_of (we_cb1 ud_minL (wo_of (we_of_wf (wf_lc (wi_seq we_var) wg_name (by decide) wt_yes (we_tup (wa_cons (we_call (wa_cons we_var wa_nil)) (wa_cons we_var wa_nil)))))))) (wo_of we_int)))))))) h

end
end K75

set_option Elab.async false
set_option linter.all false
set_option maxRecDepth 100000
set_option maxHeartbeats 4000000
/-! round_stand tells a list that is new -/
namespace K75
open PySem PySem.Spec PyProof.Rows L2 Pr Ep Nw DL
open Evl (Ex)
section
variable {P : Program} {w : World} {K : PySem.W.Frag} {mg : Str → Option Value} {base : Heap} {A : Adr}
def dPr (p : Nat × Nat) : D := .tup [dN p.1, dN p.2]
/-- counts, as a list or a tuple -/
def Sqn (d : D) : Prop := ∃ l : List Nat, d = .lst (DL.dNs l) ∨ d = .tup (DL.dNs l)
def b_round_stand : List D → (List D → Prop) → Prop := fun ds k => (∃ a b c : D, ds = [a, b, c] ∧ Sqn a ∧ Sqn b ∧ Sqn c) ∧ d_round_stand ds fun d => ∃ l : List (Nat × Nat), d = .lst (l.map dPr) ∧ l ≠ [] ∧ k (l.map dPr)
theorem rpa_ints {R : OR} {B B' : Hp} : ∀ {a : List Nat} {vs : List V}, RpA R B vs (DL.dNs a) → RpA R B' vs (DL.dNs a)
  | [], [], _ => .nil
  | x :: a, v :: vs, al => by
    simp only [DL.dNs, List.map_cons, RpA] at al
    exact .cons (by have := al.1; simp only [Rp] at this ⊢; exact this) (rpa_ints al.2)
  | [], _ :: _, h => by simp only [DL.dNs, List.map_nil, RpA] at h
  | _ :: _, [], h => by simp only [DL.dNs, List.map_cons, RpA] at h
theorem rp_ints {R : OR} {B B' : Hp} {p : Addr} {d : D} {v : V} (hd : Sqn d) (h : Rp R B v d) (hv : v = .ref p) (e : ∀ o, B p = some o → B' p = some o) : Rp R B' v d := by
  obtain ⟨a, rfl | rfl⟩ := hd
  all_goals
    simp only [Rp] at h ⊢
    obtain ⟨q, vs, r, hq, al⟩ := h
    rw [hv] at r
    cases r
    exact ⟨_, vs, hv, e _ hq, rpa_ints al⟩
theorem prs_move {R : OR} {B B' : Hp} {p : Addr} (hp : ∀ o, B p = some o → ∃ vs, o = .lst vs) (e : ∀ b o, b ≠ p → B b = some o → B' b = some o) : ∀ (l : List (Nat × Nat)) {vs : List V}, RpA R B vs (l.map dPr) → RpA R B' vs (l.map dPr)
  | [], [], _ => .nil
  | x :: l, v :: vs, h => by
    simp only [List.map_cons, RpA] at h
    refine .cons ?_ (prs_move hp e l h.2)
    have h1 := h.1
    simp only [dPr, Rp] at h1 ⊢
    obtain ⟨q, us, r, hq, al⟩ := h1
    refine ⟨q, us, r, e _ _ (fun z => ?_) hq, ?_⟩
    · subst z
      obtain ⟨vs, e⟩ := hp _ hq
      cases e
    · match us, al with
      | [a, b], al =>
        simp only [RpA, Rp] at al ⊢
        exact al
  | [], _ :: _, h => by simp only [List.map_nil, RpA] at h
  | _ :: _, [], h => by simp only [List.map_cons, RpA] at h
theorem okb_round_stand (T : Txt K mg A) : FnOk P w K mg base CX0 4 A.round_stand A.round_stand_fd ["places", "forward", "backward"] (spF (oRA A) false 3 b_round_stand) := (okd_round_stand T).imp fun vs H Q E h => by
  obtain ⟨P, B, us, ds, k, hP, po, pb, bh, r, hn, ⟨⟨a, b, c, rfl, sa, sb, sc⟩, he⟩, q⟩ := h
  rcases hP with ⟨rfl, _, rfl⟩ | ⟨_, _, z, _⟩
  · match vs, r with
    | [u1, u2, u3], r =>
      have r0 := r
      simp only [RpA] at r0
      obtain ⟨r1, r2, r3, _⟩ := r0
      have ad : ∀ {v : V} {d : D}, Sqn d → Rp (oRA A) B v d → ∃ (p : Addr) (ws : List V) (l : List Nat), v = .ref p ∧ (B p = some (.lst ws) ∨ B p = some (.tup ws)) ∧ RpA (oRA A) B ws (DL.dNs l) := fun {v d} hd h => by
        obtain ⟨a, rfl | rfl⟩ := hd
        · simp only [Rp] at h
          obtain ⟨p, ws, e, hp, al⟩ := h
          exact ⟨p, ws, a, e, .inl hp, al⟩
        · simp only [Rp] at h
          obtain ⟨p, ws, e, hp, al⟩ := h
          exact ⟨p, ws, a, e, .inr hp, al⟩
      obtain ⟨p1, w1, l1, rfl, h1, a1⟩ := ad sa r1
      obtain ⟨p2, w2, l2, rfl, h2, a2⟩ := ad sb r2
      obtain ⟨p3, w3, l3, rfl, h3, a3⟩ := ad sc r3
      let B0 : Hp := fun x => if x = p1 ∨ x = p2 ∨ x = p3 then B x else none
      have b0 : ∀ x o, B0 x = some o → B x = some o ∧ (x = p1 ∨ x = p2 ∨ x = p3) := fun x o z => by
        by_cases e : x = p1 ∨ x = p2 ∨ x = p3
        · have : B0 x = B x := if_pos e
          rw [this] at z
          exact ⟨z, e⟩
        · have : B0 x = none := if_neg e
          rw [this] at z; cases z
      have bi : ∀ x, (x = p1 ∨ x = p2 ∨ x = p3) → ∀ o, B x = some o → B0 x = some o := fun x e o z => by
        have : B0 x = B x := if_pos e
        rw [this]; exact z
      refine ⟨none, B0, _, _, _, .inl ⟨rfl, rfl, rfl⟩, po, fun _ z => (nomatch z), fun x o z => bh _ _ (b0 x o z).1, .cons (rp_ints sa r1 rfl (bi _ (.inl rfl))) (.cons (rp_ints sb r2 rfl (bi _ (.inr (.inl rfl)))) (.cons (rp_ints sc r3 rfl (bi _ (.inr (.inr rfl)))) .nil)), rfl, he, fun d v B' H' ⟨l, hd, hne, hk⟩ s po' rv => ?_⟩
      subst hd
      simp only [Rp] at rv
      obtain ⟨p, ws, rfl, hp, al⟩ := rv
      -- p is none of the three lists
      have nb : B0 p = none := by
        cases z : B0 p with
        | none => rfl
        | some o =>
          exfalso
          have hp2 := s.bb _ _ z
          rw [hp] at hp2
          cases hp2
          have bad : ∀ {l' : List Nat} {w' : List V}, (B p = some (.lst w') ∨ B p = some (.tup w')) → RpA (oRA A) B w' (DL.dNs l') → False := fun {l' w'} hb ha => by
            have ew : w' = ws := by
              have e := (b0 _ _ z).1
              rcases hb with hb | hb
              · rw [hb] at e
                exact HO.lst.inj (Option.some.inj e)
              · rw [hb] at e
                cases e
            rw [ew] at ha
            cases l with
            | nil => exact hne rfl
            | cons x l =>
              cases ws with
              | nil => simp only [List.map_cons, RpA] at al
              | cons v w' =>
                cases l' with
                | nil => simp only [DL.dNs, List.map_nil, RpA] at ha
                | cons y l' =>
                  simp only [List.map_cons, RpA, dPr, Rp, DL.dNs] at al ha
                  obtain ⟨⟨t, ts, e1, _⟩, _⟩ := al
                  have e2 := ha.1
                  rw [e1] at e2
                  cases e2
          rcases (b0 _ _ z).2 with e | e | e
          · subst e; exact bad h1 a1
          · subst e; exact bad h2 a2
          · subst e; exact bad h3 a3
      have hnew : H p = none := by
        rcases s.nw p _ hp with z | z | z
        · rw [nb] at z; cases z
        · exact z
        · exact z.elim
      have bn : B p = none := Evl.fresh_back bh hnew
      let B3 : Hp := fun x => if x = p then none else match B x with
        | some o => some o
        | none => B' x
      have e3 : ∀ x o, B x = some o → B3 x = some o := fun x o z => by
        have : x ≠ p := fun e => by subst e; rw [bn] at z; cases z
        show (if x = p then none else match B x with | some o => some o | none => B' x) = _
        rw [if_neg this, z]
      have f3 : ∀ x o, B3 x = some o → x ≠ p ∧ (B x = some o ∨ B' x = some o) := fun x o z => by
        by_cases e : x = p
        · have : B3 x = none := if_pos e
          rw [this] at z; cases z
        · have t : B3 x = match B x with | some o => some o | none => B' x := if_neg e
          rw [t] at z
          cases zb : B x with
          | none => rw [zb] at z; exact ⟨e, .inr z⟩
          | some o' => rw [zb] at z; exact ⟨e, .inl z⟩
      have hh : Ex H H' := fun x o z => s.hh x o z (fun y => nomatch y)
      refine q _ p ws B3 H' hk ⟨e3, fun x o z => ?_, s.hh, fun x o z => ?_⟩ po' hnew (if_pos rfl) (s.bh _ _ hp) (prs_move (p := p) (fun o z => ⟨ws, by rw [hp] at z; cases z; rfl⟩) (fun x o ne z => ?_) l al)
      · rcases (f3 x o z).2 with z | z
        · exact hh _ _ (bh _ _ z)
        · exact s.bh _ _ z
      · rcases (f3 x o z).2 with z | z
        · exact .inl z
        · rcases s.nw x o z with y | y | y
          · exact .inl (b0 _ _ y).1
          · exact .inr (.inl y)
          · exact .inr (.inr y)
      · show (if x = p then none else match B x with | some o => some o | none => B' x) = _
        rw [if_neg ne]
        cases zb : B x with
        | none => exact z
        | some o' =>
          have y1 := hh _ _ (bh _ _ zb)
          rw [s.bh _ _ z] at y1
          cases y1
          rfl
  · cases z
end
end K75

set_option Elab.async false
set_option linter.all false
set_option maxRecDepth 100000
set_option maxHeartbeats 4000000
namespace K75
open PySem PySem.Spec PyProof.Rows L2 TM Pr Ep Nw DL
section
variable {P : Program} {w : World} {K : PySem.W.Frag} {mg : Str → Option Value} {base : Heap} {A : Adr}
def e_round_fewest : ES := (sRet (eCall 1 d_carts_in_all (eaCons (eF (eCallF 3 b_round_stand (eaCons (eVar 0) (eaCons (eVar 1) (eaCons (eVar 2) eaNil))))) eaNil)))
def d_round_fewest : List D → (D → Prop) → Prop := fun ds k => e_round_fewest (env0 false n_round_fewest ds) (knE k)
theorem okd_round_fewest (T : Txt K mg A) : FnOk P w K mg base CX0 5 A.round_fewest A.round_fewest_fd ["places", "forward", "backward"] (spE (oRA A) false 3 d_round_fewest) := by
  refine T.F_round_fewest.ok sc_round_fewest (fun vs H Q E h => len_E h) (fun cdv A' outer s H vs Q E hr h => ?_)
  have hu := hu_of hr
  refine ⟨_, (pss_one (ps_ret (pe_call (okd_carts_in_all T) (hr.mono (by decide)) (by rfl) T.m_carts_in_all T.F_carts_in_all.kp T.b_carts_in_all .nil pass0 (pa_cons (pe_call (okb_round_stand T) (hr.mono (by decide)) (by rfl) T.m_round_stand T.F_round_stand.kp T.b_round_stand .nil pass0 (pa_cons (pv 0) (pa_cons (pv 1) (pa_cons (pv 2) pa_nil)))) pa_nil)))), ?_⟩
  exact body_E (es := e_round_fewest) ((wb_ret (we_call (wa_cons (we_of_wf (wf_call (wa_cons we_var (wa_cons we_var (wa_cons we_var wa_nil))))) wa_nil)))) h

end
end K75

set_option Elab.async false
set_option linter.all false
set_option maxRecDepth 100000
set_option maxHeartbeats 4000000
namespace K75
open PySem PySem.Spec PyProof.Rows L2 TM Pr Ep Nw DL
section
variable {P : Program} {w : World} {K : PySem.W.Frag} {mg : Str → Option Value} {base : Heap} {A : Adr}
theorem KB_round_fewest_120_l_right (T : Txt K mg A) : KBinds K A.round_fewest_fd ["places", "forward", "backward"] ["backward", "places", "forward"] (kgP [1, 2, 0]) (kgPV [1, 2, 0]) := by
  obtain ⟨oc, od, kV, doc, pm, an, cdv, ct, osl, e, lk, hcd⟩ := T.F_round_fewest.ex
  refine ⟨fun s us ws hk hl => ?_, kgP_rel⟩
  cases us with
  | cons u us => cases hl
  | nil =>
    have t2 : ws.length = 3 := by
      by_cases z : ws.length = ([1, 2, 0] : List Nat).length
      · exact z
      · have hl : (if ws.length = ([1, 2, 0] : List Nat).length then ([1, 2, 0] : List Nat).map (fun i => ws.getD i .none) else []).length = 3 := hl
        rw [if_neg z] at hl
        cases hl
    match ws, t2 with
    | [w0, w1, w2], _ =>
      rw [e]
      exact BindsTo.of_eq rfl
theorem KB_round_stand_201_l_right (T : Txt K mg A) : KBinds K A.round_stand_fd ["places", "forward", "backward"] ["forward", "backward", "places"] (kgP [2, 0, 1]) (kgPV [2, 0, 1]) := by
  obtain ⟨oc, od, kV, doc, pm, an, cdv, ct, osl, e, lk, hcd⟩ := T.F_round_stand.ex
  refine ⟨fun s us ws hk hl => ?_, kgP_rel⟩
  cases us with
  | cons u us => cases hl
  | nil =>
    have t2 : ws.length = 3 := by
      by_cases z : ws.length = ([2, 0, 1] : List Nat).length
      · exact z
      · have hl : (if ws.length = ([2, 0, 1] : List Nat).length then ([2, 0, 1] : List Nat).map (fun i => ws.getD i .none) else []).length = 3 := hl
        rw [if_neg z] at hl
        cases hl
    match ws, t2 with
    | [w0, w1, w2], _ =>
      rw [e]
      exact BindsTo.of_eq rfl
def e_l_right : ES := (sSeq (sAsg (eOp addU (eC (.int 3)) (eIf (eB (eOp eqD (eCallP 0 1 b_draw (eaCons (eC (.int 4)) eaNil)) (eC (.int 0)))) (eC (.int 1)) (eC (.int 0)))) (egName 1)) (sSeq (sPar3 2 3 4 (emF (eLst eaNil)) (emF (eLst eaNil)) (emF (eLst eaNil))) (sSeq (sFor (eRng1 (eVar 1)) (egName 5) (sSeq (sApp 2 (eOp addU (eC (.int 1)) (eCallP 0 1 b_draw (eaCons (eC (.int 2)) eaNil)))) (sSeq (sApp 3 (eOp addU (eC (.int 1)) (eCallP 0 1 b_draw (eaCons (eOp ixD (eVarO 2) (eUn negD (eC (.int 1)))) eaNil)))) (sApp 4 (eOp addU (eC (.int 1)) (eCallP 0 1 b_draw (eaCons (eOp ixD (eVarO 2) (eUn negD (eC (.int 1)))) eaNil)))))) [5]) (sKnow 4 (sKnow 3 (sKnow 2 (sSeq (sIf (eAndT (eB (eOp eqD (eVar 1) (eC (.int 4)))) (eB (eOp eqD (eCallP 0 1 b_draw (eaCons (eC (.int 2)) eaNil)) (eC (.int 0))))) (sSeq (sAsg (eF (eLst (eaCons (eOp ixD (eVar 2) (eC (.int 0))) (eaCons (eC (.int 3)) (eaCons (eOp ixD (eVar 2) (eC (.int 2))) (eaCons (eC (.int 3)) eaNil)))))) (egName 2)) (sPar 3 4 (emE (eF (eLst (eaCons (eOp ixD (eVar 3) (eC (.int 0))) (eaCons (eC (.int 1)) (eaCons (eOp ixD (eVar 3) (eC (.int 2))) (eaCons (eC (.int 2)) eaNil))))))) (emE (eF (eLst (eaCons (eOp ixD (eVar 4) (eC (.int 0))) (eaCons (eC (.int 1)) (eaCons (eOp ixD (eVar 4) (eC (.int 2))) (eaCons (eC (.int 2)) eaNil))))))))) sNext) (sSeq (sPar 6 7 (emE (eUn reprD (eF (eLst (eaCons (eVar 2) (eaCons (eVar 3) (eaCons (eVar 4) eaNil))))))) (emE (eCall 3 d_l_all (eaCons (eVar 2) (eaCons (eVar 3) (eaCons (eVar 4) eaNil)))))) (sSeq (sAsg (eF (eLc (eSeq (eVar 7)) (egName 12) (eB (eCall 4 d_l_is_stuck (eaCons (eVar 2) (eaCons (eVar 3) (eaCons (eVar 4) (eaCons (eVar 12) eaNil)))))) (eVar 12) [12])) (egName 8)) (sSeq (sAsg (eUn minDL (eF (eLc (eSeq (eVar 8)) (egName 12) eYes (eUn sumU (eF (eLc (eSeq (eVar 12)) (egName 13) eYes (eOp addU (eOp ixD (eVar 13) (eC (.int 0))) (eOp ixD (eVar 13) (eC (.int 1)))) [13]))) [12]))) (egName 9)) (sSeq (sAsgF 10 (eCallF 3 b_round_stand (eaCons (eVar 2) (eaCons (eVar 3) (eaCons (eVar 4) eaNil))))) (sSeq (sIf (eOrT (eB (eOp neD (eCall 3 d_round_fewest (eaCons (eVar 2) (eaCons (eVar 3) (eaCons (eVar 4) eaNil)))) (eVar 9))) (eOrT (eTmpT 10 (eB (eOp neD (eUn sumU (eF (eLc (eSeq (eVar 10)) (egName 13) eYes (eOp addU (eOp ixD (eVar 13) (eC (.int 0))) (eOp ixD (eVar 13) (eC (.int 1)))) [13]))) (eVar 9)))) (eB (eOp (inD true) (eVarO 10) (eVar 8))))) (sRet (eC (.bl false))) sNext) (sSeq (sAsg (eCallP 0 1 b_draw (eaCons (eVar 1) eaNil)) (egName 11)) (sSeq (sIf (eB (eOp neD (eCall 3 d_round_fewest (eaCons (eF (eUnF revF (eVar 2))) (eaCons (eF (eUnF revF (eVar 4))) (eaCons (eF (eUnF revF (eVar 3))) eaNil)))) (eVar 9))) (sRet (eC (.bl false))) sNext) (sSeq (sIf (eB (eOp neD (eCallW [1, 2, 0] 3 d_round_fewest (eaCons (eOp addU (eSl slU (eVar 4) (eP (eVar 11)) eNoP) (eSl slU (eVar 4) eNoP (eP (eVar 11)))) (eaCons (eOp addU (eSl slU (eVar 2) (eP (eVar 11)) eNoP) (eSl slU (eVar 2) eNoP (eP (eVar 11)))) (eaCons (eUn tupD (eOp addU (eSl slU (eVar 3) (eP (eVar 11)) eNoP) (eSl slU (eVar 3) eNoP (eP (eVar 11))))) eaNil)))) (eVar 9))) (sRet (eC (.bl false))) sNext) (sSeq (sApp 10 (eC .non)) (sSeq (sIf (eOrT (eNotT (eB (eCallL 0 4 d_l_judged_right (eaCons (eVar 2) (eaCons (eVar 3) (eaCons (eVar 4) (eaCons (eOp addU (eVar 7) (eVar 8)) eaNil))))))) (eNotT (eB (eCallL 0 4 d_l_judged_right (eaCons (eVar 2) (eaCons (eVar 3) (eaCons (eVar 4) (eaCons (eVar 8) eaNil)))))))) (sRet (eC (.bl false))) sNext) (sRet (eAnd (eOp (inD false) (eF (eCallWF [2, 0, 1] 3 b_round_stand (eaCons (eVar 3) (eaCons (eVar 4) (eaCons (eVar 2) eaNil))))) (eVar 8)) (eOp eqD (eUn reprD (eF (eLst (eaCons (eVar 2) (eaCons (eVar 3) (eaCons (eVar 4) eaNil)))))) (eVar 6)))))))))))))))))))))
def d_l_right : List D → (D → Prop) → Prop := fun ds k => e_l_right (env0 true n_l_right ds) (knE k)
theorem okd_l_right (T : Txt K mg A) : G8.FnOkG P w K mg base CX0 6 A.l_right A.l_right_fd ["_law_pot_here"] (spE (oRA A) true 0 d_l_right) := by
  refine G8.okG T.F_l_right sc_l_right (fun vs H Q E h => len_E h) (fun cdv A' outer s H vs Q E hr hG h => ?_)
  have hu := hu_of hr
  refine ⟨_, (pss_cons (ps_set (i := 1) sc_l_right.nd rfl (Or.inl rfl) (show PE _ _ (tOp (rAddU K) _ _) from pe_op op_addU pe_int (pe_ifExp (show PT _ _ (tTest (tOp (rEqD K) _ _)) from pt_cmpR (op_eqD hr.units) (pe_call (okb_l_draw T) (hr.mono (by decide)) (by rfl) T.m_l_draw T.F_l_draw.kp T.b_l_draw .nil pass0 (pa_cons (pv 0) (pa_cons pe_int pa_nil))) pe_int (nomark _)) pe_int pe_int))) (pss_cons (ps_asg (pe_tup (pa_cons (pe_lst pa_nil) (pa_cons (pe_lst pa_nil) (pa_cons (pe_lst pa_nil) pa_nil)))) (show PG _ _ (gTup K 3 _) from pg_tup rfl (pgs_cons (pg_name (i := 2) sc_l_right.nd rfl (Or.inr rfl)) (pgs_cons (pg_name (i := 3) sc_l_right.nd rfl (Or.inr rfl)) (pgs_cons (pg_name (i := 4) sc_l_right.nd rfl (Or.inr rfl)) pgs_nil))))) (pss_cons (ps_for PassesOwn.never rfl (pi_range1 (by rfl) T.n_range (pa_cons (pv 1) pa_nil)) (pg_name (i := 5) sc_l_right.nd rfl (Or.inl rfl)) (pss_cons (ps_expr (show PE _ _ (tBM K "list" rAppend _ _) from pe_bm PySem.F.plainAttrs_list PySem.F.slot_list_append PySem.F.type_list_append mt_append (pv 2) (pa_cons (show PE _ _ (tOp (rAddU K) _ _) from pe_op op_addU pe_int (pe_call (okb_l_draw T) (hr.mono (by decide)) (by rfl) T.m_l_draw T.F_l_draw.kp T.b_l_draw .nil pass0 (pa_cons (pv 0) (pa_cons pe_int pa_nil)))) pa_nil))) (pss_cons (ps_expr (show PE _ _ (tBM K "list" rAppend _ _) from pe_bm PySem.F.plainAttrs_list PySem.F.slot_list_append PySem.F.type_list_append mt_append (pv 3) (pa_cons (show PE _ _ (tOp (rAddU K) _ _) from pe_op op_addU pe_int (pe_call (okb_l_draw T) (hr.mono (by decide)) (by rfl) T.m_l_draw T.F_l_draw.kp T.b_l_draw .nil pass0 (pa_cons (pv 0) (pa_cons (show PE _ _ (tOp (rIx K) _ _) from pe_ix ix_seq (pv 2) (pe_un un_neg pe_int) (fun _ _ => rfl)) pa_nil)))) pa_nil))) (pss_one (ps_expr (show PE _ _ (tBM K "list" rAppend _ _) from pe_bm PySem.F.plainAttrs_list PySem.F.slot_list_append PySem.F.type_list_append mt_append (pv 4) (pa_cons (show PE _ _ (tOp (rAddU K) _ _) from pe_op op_addU pe_int (pe_call (okb_l_draw T) (hr.mono (by decide)) (by rfl) T.m_l_draw T.F_l_draw.kp T.b_l_draw .nil pass0 (pa_cons (pv 0) (pa_cons (show PE _ _ (tOp (rIx K) _ _) from pe_ix ix_seq (pv 2) (pe_un un_neg pe_int) (fun _ _ => rfl)) pa_nil)))) pa_nil))))))) (pss_cons (ps_if (PW.pt (pw_and (show PT _ _ (tTest (tOp (rEqD K) _ _)) from pt_cmpR (op_eqD hr.units) (pv 1) pe_int (nomark _)) (pw_and1 (show PT _ _ (tTest (tOp (rEqD K) _ _)) from pt_cmpR (op_eqD hr.units) (pe_call (okb_l_draw T) (hr.mono (by decide)) (by rfl) T.m_l_draw T.F_l_draw.kp T.b_l_draw .nil pass0 (pa_cons (pv 0) (pa_cons pe_int pa_nil))) pe_int (nomark _))))) (pss_cons (ps_set (i := 2) sc_l_right.nd rfl (Or.inr rfl) (pe_lst (pa_cons (show PE _ _ (tOp (rIx K) _ _) from pe_ix ix_seq (pv 2) pe_int (fun _ _ => rfl)) (pa_cons pe_int (pa_cons (show PE _ _ (tOp (rIx K) _ _) from pe_ix ix_seq (pv 2) pe_int (fun _ _ => rfl)) (pa_cons pe_int pa_nil)))))) (pss_one (ps_asg (pe_tup (pa_cons (pe_lst (pa_cons (show PE _ _ (tOp (rIx K) _ _) from pe_ix ix_seq (pv 3) pe_int (fun _ _ => rfl)) (pa_cons pe_int (pa_cons (show PE _ _ (tOp (rIx K) _ _) from pe_ix ix_seq (pv 3) pe_int (fun _ _ => rfl)) (pa_cons pe_int pa_nil))))) (pa_cons (pe_lst (pa_cons (show PE _ _ (tOp (rIx K) _ _) from pe_ix ix_seq (pv 4) pe_int (fun _ _ => rfl)) (pa_cons pe_int (pa_cons (show PE _ _ (tOp (rIx K) _ _) from pe_ix ix_seq (pv 4) pe_int (fun _ _ => rfl)) (pa_cons pe_int pa_nil))))) pa_nil))) (show PG _ _ (gTup K 2 _) from pg_tup rfl (pgs_cons (pg_name (i := 3) sc_l_right.nd rfl (Or.inr rfl)) (pgs_cons (pg_name (i := 4) sc_l_right.nd rfl (Or.inr rfl)) pgs_nil)))))) pss_nil) (pss_cons (ps_par (i := 6) (j := 7) (by rfl) sc_l_right.nd rfl rfl (by decide) rfl rfl (pa_cons (show PE _ _ (tCB (rReprU K) _) from (pe_callB (id := "repr") (cr_reprU hG hr.units) (by rfl) T.n_repr (by decide +kernel) (pa_cons (pe_lst (pa_cons (pv 2) (pa_cons (pv 3) (pa_cons (pv 4) pa_nil)))) pa_nil))) (pa_cons (pe_call (okd_l_all T) (hr.mono (by decide)) (by rfl) T.m_l_all T.F_l_all.kp T.b_l_all .nil pass0 (pa_cons (pv 2) (pa_cons (pv 3) (pa_cons (pv 4) pa_nil)))) pa_nil)) (by rfl)) (pss_cons (ps_setLc (i := 8) (own := [("_law_stand", 12)]) rfl sc_l_right.nd rfl rfl (sw_true rfl rfl rfl (by decide +kernel)) (show PI _ _ _ (iSeq K _) from pi_seqU (pv 7)) (blkOk_by (N := n_l_right) (sc := defScope s_l_right) (by decide +kernel)) (fun _ _ _ _ _ => (pg_name (i := 12) sc_l_right.nd rfl (Or.inl rfl))) (fun _ _ _ _ _ => (pts_one (pt_val (pe_call (okd_l_is_stuck T) (hr.mono (by decide)) (by rfl) T.m_l_is_stuck T.F_l_is_stuck.kp T.b_l_is_stuck .nil pass0 (pa_cons (pv 2) (pa_cons (pv 3) (pa_cons (pv 4) (pa_cons (pv 12) pa_nil)))))))) (fun _ _ _ _ _ => (pv 12))) (pss_cons (ps_set (i := 9) sc_l_right.nd rfl (Or.inl rfl) (show PE _ _ (tCB (rMinL K) _) from (pe_callB (id := "min") (cr_minL rfl hr.units) (by rfl) T.n_min (by decide +kernel) (pa_cons (pe_lc (own := [("_law_stand", 12)]) rfl sc_l_right.nd (show PI _ _ _ (iSeq K _) from pi_seqU (pv 8)) (blkOk_by (N := n_l_right) (sc := defScope s_l_right) (by decide +kernel)) (fun _ _ _ _ _ => (pg_name (i := 12) sc_l_right.nd rfl (Or.inl rfl))) (fun _ _ _ _ _ => pts_nil) (fun _ _ _ _ _ => (show PE _ _ (tCB (rSumA K) _) from (pe_callB (id := "sum") (cr_sumA rfl) (by rfl) T.n_sum (by decide +kernel) (pa_cons (pe_lc (own := [("_law_one", 13)]) rfl sc_l_right.nd (show PI _ _ _ (iSeq K _) from pi_seqU (pv 12)) (blkOk_by (N := n_l_right) (sc := (relS ({ kind := PySem.ScopeKind.function, names := [ (PySem.Str.ofString ".0", PySem.NameKind.local), (PySem.Str.ofString "_law_stand", PySem.NameKind.local), (PySem.Str.ofString "sum", PySem.NameKind.globalImplicit)], isGenerator := false, isCoroutine := false, more := [] : PySem.Scope }) (defScope s_l_right))) (by decide +kernel)) (fun _ _ _ _ _ => (pg_name (i := 13) sc_l_right.nd rfl (Or.inl rfl))) (fun _ _ _ _ _ => pts_nil) (fun _ _ _ _ _ => (show PE _ _ (tOp (rAddU K) _ _) from pe_op op_addU (show PE _ _ (tOp (rIx K) _ _) from pe_ix ix_seq (pv 13) pe_int (fun _ _ => rfl)) (show PE _ _ (tOp (rIx K) _ _) from pe_ix ix_seq (pv 13) pe_int (fun _ _ => rfl))))) pa_nil))))) pa_nil)))) (pss_cons (ps_set (i := 10) sc_l_right.nd rfl (Or.inl rfl) (pe_call (okb_round_stand T) (hr.mono (by decide)) (by rfl) T.m_round_stand T.F_round_stand.kp T.b_round_stand .nil pass0 (pa_cons (pv 2) (pa_cons (pv 3) (pa_cons (pv 4) pa_nil))))) (pss_cons (ps_if (PW.pt (pw_or (show PT _ _ (tTest (tOp (rNeD K) _ _)) from pt_cmpR (op_neD hr.units) (pe_call (okd_round_fewest T) (hr.mono (by decide)) (by rfl) T.m_round_fewest T.F_round_fewest.kp T.b_round_fewest .nil pass0 (pa_cons (pv 2) (pa_cons (pv 3) (pa_cons (pv 4) pa_nil)))) (pv 9) (nomark _)) (pw_or (show PT _ _ (tTest (tOp (rNeD K) _ _)) from pt_cmpR (op_neD hr.units) (show PE _ _ (tCB (rSumA K) _) from (pe_callB (id := "sum") (cr_sumA rfl) (by rfl) T.n_sum (by decide +kernel) (pa_cons (pe_lc (own := [("_law_one", 13)]) rfl sc_l_right.nd (show PI _ _ _ (iSeq K _) from pi_seqU (pv 10)) (blkOk_by (N := n_l_right) (sc := defScope s_l_right) (by decide +kernel)) (fun _ _ _ _ _ => (pg_name (i := 13) sc_l_right.nd rfl (Or.inl rfl))) (fun _ _ _ _ _ => pts_nil) (fun _ _ _ _ _ => (show PE _ _ (tOp (rAddU K) _ _) from pe_op op_addU (show PE _ _ (tOp (rIx K) _ _) from pe_ix ix_seq (pv 13) pe_int (fun _ _ => rfl)) (show PE _ _ (tOp (rIx K) _ _) from pe_ix ix_seq (pv 13) pe_int (fun _ _ => rfl))))) pa_nil))) (pv 9) (nomark _)) (pw_or1 (show PT _ _ (tTest (tOp (rInU K true) _ _)) from pt_cmpR (op_notInU hr.u65) (pv 10) (pv 8) (by rfl)))))) (pss_one (ps_ret pe_bl)) pss_nil) (pss_cons (ps_set (i := 11) sc_l_right.nd rfl (Or.inl rfl) (pe_call (okb_l_draw T) (hr.mono (by decide)) (by rfl) T.m_l_draw T.F_l_draw.kp T.b_l_draw .nil pass0 (pa_cons (pv 0) (pa_cons (pv 1) pa_nil)))) (pss_cons (ps_if (show PT _ _ (tTest (tOp (rNeD K) _ _)) from pt_cmpR (op_neD hr.units) (pe_call (okd_round_fewest T) (hr.mono (by decide)) (by rfl) T.m_round_fewest T.F_round_fewest.kp T.b_round_fewest .nil pass0 (pa_cons (show PE _ _ (tRevL K _) from pe_revL (pv 2)) (pa_cons (show PE _ _ (tRevL K _) from pe_revL (pv 4)) (pa_cons (show PE _ _ (tRevL K _) from pe_revL (pv 3)) pa_nil)))) (pv 9) (nomark _)) (pss_one (ps_ret pe_bl)) pss_nil) (pss_cons (ps_if (show PT _ _ (tTest (tOp (rNeD K) _ _)) from pt_cmpR (op_neD hr.units) (G8.pe_callK0 (okd_round_fewest T) (hr.mono (by decide)) (by rfl) T.m_round_fewest T.F_round_fewest.kp (KB_round_fewest_120_l_right T) pass0 (pk_cons (show PE _ _ (tOp (rAddU K) _ _) from pe_op op_addU (show PE _ _ (tSl (rSlU K) _ _ _) from pe_slice sl_U (pv 4) (po_some (pv 11)) po_none) (show PE _ _ (tSl (rSlU K) _ _ _) from pe_slice sl_U (pv 4) po_none (po_some (pv 11)))) (pk_cons (show PE _ _ (tOp (rAddU K) _ _) from pe_op op_addU (show PE _ _ (tSl (rSlU K) _ _ _) from pe_slice sl_U (pv 2) (po_some (pv 11)) po_none) (show PE _ _ (tSl (rSlU K) _ _ _) from pe_slice sl_U (pv 2) po_none (po_some (pv 11)))) (pk_cons (show PE _ _ (tCB (rTupOf K) _) from (pe_callTy (T := "tuple") call_tuple_of (by rfl) T.n_tuple (by decide +kernel) (pa_cons (show PE _ _ (tOp (rAddU K) _ _) from pe_op op_addU (show PE _ _ (tSl (rSlU K) _ _ _) from pe_slice sl_U (pv 3) (po_some (pv 11)) po_none) (show PE _ _ (tSl (rSlU K) _ _ _) from pe_slice sl_U (pv 3) po_none (po_some (pv 11)))) pa_nil))) pk_nil)))) (pv 9) (nomark _)) (pss_one (ps_ret pe_bl)) pss_nil) (pss_cons (ps_expr (show PE _ _ (tBM K "list" rAppend _ _) from pe_bm PySem.F.plainAttrs_list PySem.F.slot_list_append PySem.F.type_list_append mt_append (pv 10) (pa_cons pe_non pa_nil))) (pss_cons (ps_if (PW.pt (pw_or (pt_not (pt_val (G8.pe_callG (okd_l_judged_right T) (hr.mono (by decide)) hG (by rfl) T.m_l_judged_right T.F_l_judged_right.kp T.b_l_judged_right .nil pass0 (pa_cons (pv 2) (pa_cons (pv 3) (pa_cons (pv 4) (pa_cons (show PE _ _ (tOp (rAddU K) _ _) from pe_op op_addU (pv 7) (pv 8)) (pa_cons (pv 0) pa_nil)))))))) (pw_or1 (pt_not (pt_val (G8.pe_callG (okd_l_judged_right T) (hr.mono (by decide)) hG (by rfl) T.m_l_judged_right T.F_l_judged_right.kp T.b_l_judged_right .nil pass0 (pa_cons (pv 2) (pa_cons (pv 3) (pa_cons (pv 4) (pa_cons (pv 8) (pa_cons (pv 0) pa_nil))))))))))) (pss_one (ps_ret pe_bl)) pss_nil) (pss_one (ps_ret (pe_and (show PE _ _ (tOp (rInU K false) _ _) from pe_cmpR (op_inU hr.u65) (G8.pe_callK0 (okb_round_stand T) (hr.mono (by decide)) (by rfl) T.m_round_stand T.F_round_stand.kp (KB_round_stand_201_l_right T) pass0 (pk_cons (pv 3) (pk_cons (pv 4) (pk_cons (pv 2) pk_nil)))) (pv 8) (by rfl)) (pe_one (show PE _ _ (tOp (rEqD K) _ _) from pe_cmpR (op_eqD hr.units) (show PE _ _ (tCB (rReprU K) _) from (pe_callB (id := "repr") (cr_reprU hG hr.units) (by rfl) T.n_repr (by decide +kernel) (pa_cons (pe_lst (pa_cons (pv 2) (pa_cons (pv 3) (pa_cons (pv 4) pa_nil)))) pa_nil))) (pv 6) (nomark _)))))))))))))))))))), ?_⟩
  exact body_E (es := e_l_right) ((wb_seq (wb_asg (we_op od_addU (wo_of we_int) (wo_of (we_if (wt_test (we_op od_eq (wo_of (we_callP (wa_cons we_int wa_nil))) (wo_of we_int))) we_int we_int))) wg_name) (wb_seq (wb_asg3 (wm_F (wf_lst wa_nil)) (wm_F (wf_lst wa_nil)) (wm_F (wf_lst wa_nil))) (wb_seq (wb_for (wi_rng1 we_var) wg_name (wb_seq (wb_app (we_op od_addU (wo_of we_int) (wo_of (we_callP (wa_cons we_int wa_nil))))) (wb_seq (wb_app (we_op od_addU (wo_of we_int) (wo_of (we_callP (wa_cons (we_op od_ix wo_var (wo_of (we_un ud_neg (wo_of we_int)))) wa_nil))))) (wb_app (we_op od_addU (wo_of we_int) (wo_of (we_callP (wa_cons (we_op od_ix wo_var (wo_of (we_un ud_neg (wo_of we_int)))) wa_nil)))))))) (wb_know (i := 4) (wb_know (i := 3) (wb_know (i := 2) (wb_seq (wb_if (wt_and (wt_test (we_op od_eq (wo_of we_var) (wo_of we_int))) (wt_test (we_op od_eq (wo_of (we_callP (wa_cons we_int wa_nil))) (wo_of we_int)))) (wb_seq (wb_asg (we_of_wf (wf_lst (wa_cons (we_op od_ix (wo_of we_var) (wo_of we_int)) (wa_cons we_int (wa_cons (we_op od_ix (wo_of we_var) (wo_of we_int)) (wa_cons we_int wa_nil)))))) wg_name) (wb_asg2 (wm_E (we_of_wf (wf_lst (wa_cons (we_op od_ix (wo_of we_var) (wo_of we_int)) (wa_cons we_int (wa_cons (we_op od_ix (wo_of we_var) (wo_of we_int)) (wa_cons we_int wa_nil))))))) (wm_E (we_of_wf (wf_lst (wa_cons (we_op od_ix (wo_of we_var) (wo_of we_int)) (wa_cons we_int (wa_cons (we_op od_ix (wo_of we_var) (wo_of we_int)) (wa_cons we_int wa_nil))))))))) wb_next) (wb_seq (wb_par (wm_E (we_cb1 ud_repr (wo_of (we_of_wf (wf_lst (wa_cons we_var (wa_cons we_var (wa_cons we_var wa_nil)))))))) (wm_E (we_call (wa_cons we_var (wa_cons we_var (wa_cons we_var wa_nil)))))) (wb_seq (wb_asg (we_of_wf (wf_lc (wi_seq we_var) wg_name (by decide) (wt_B (we_call (wa_cons we_var (wa_cons we_var (wa_cons we_var (wa_cons we_var wa_nil)))))) we_var)) wg_name) (wb_seq (wb_asg (we_cb1 ud_minL (wo_of (we_of_wf (wf_lc (wi_seq we_var) wg_name (by decide) wt_yes (we_cb1 ud_sumU (wo_of (we_of_wf (wf_lc (wi_seq we_var) wg_name (by decide) wt_yes (we_op od_addU (wo_of (we_op od_ix (wo_of we_var) (wo_of we_int))) (wo_of (we_op od_ix (wo_of we_var) (wo_of we_int)))))))))))) wg_name) (wb_seq (wb_asgF (wf_call (wa_cons we_var (wa_cons we_var (wa_cons we_var wa_nil))))) (wb_seq (wb_if (wt_or (wt_test (we_op od_ne (wo_of (we_call (wa_cons we_var (wa_cons we_var (wa_cons we_var wa_nil))))) (wo_of we_var))) (wt_or (wt_tmp (i := 10) (wt_test (we_op od_ne (wo_of (we_cb1 ud_sumU (wo_of (we_of_wf (wf_lc (wi_seq we_var) wg_name (by decide) wt_yes (we_op od_addU (wo_of (we_op od_ix (wo_of we_var) (wo_of we_int))) (wo_of (we_op od_ix (wo_of we_var) (wo_of we_int))))))))) (wo_of we_var)))) (wt_test (we_op od_in wo_var (wo_of we_var))))) (wb_ret we_bl) wb_next) (wb_seq (wb_asg (we_callP (wa_cons we_var wa_nil)) wg_name) (wb_seq (wb_if (wt_test (we_op od_ne (wo_of (we_call (wa_cons (we_of_wf (wf_rev (wo_of we_var))) (wa_cons (we_of_wf (wf_rev (wo_of we_var))) (wa_cons (we_of_wf (wf_rev (wo_of we_var))) wa_nil))))) (wo_of we_var))) (wb_ret we_bl) wb_next) (wb_seq (wb_if (wt_test (we_op od_ne (wo_of (we_callW rfl (wa_cons (we_op od_addU (wo_of (we_sl sd_slU (wo_of we_var) (wp_some we_var) wp_none)) (wo_of (we_sl sd_slU (wo_of we_var) wp_none (wp_some we_var)))) (wa_cons (we_op od_addU (wo_of (we_sl sd_slU (wo_of we_var) (wp_some we_var) wp_none)) (wo_of (we_sl sd_slU (wo_of we_var) wp_none (wp_some we_var)))) (wa_cons (we_cb1 ud_tup (wo_of (we_op od_addU (wo_of (we_sl sd_slU (wo_of we_var) (wp_some we_var) wp_none)) (wo_of (we_sl sd_slU (wo_of we_var) wp_none (wp_some we_var)))))) wa_nil))))) (wo_of we_var))) (wb_ret we_bl) wb_next) (wb_seq (wb_app we_non) (wb_seq (wb_if (wt_or (wt_not (wt_B (we_callL (wal_cons we_var (wal_cons we_var (wal_cons we_var (wal_cons (we_op od_addU (wo_of we_var) (wo_of we_var)) wal_nil))))))) (wt_not (wt_B (we_callL (wal_cons we_var (wal_cons we_var (wal_cons we_var (wal_cons we_var wal_nil)))))))) (wb_ret we_bl) wb_next) (wb_ret (we_and (we_op od_in (wo_of (we_of_wf (wf_callW rfl (wa_cons we_var (wa_cons we_var (wa_cons we_var wa_nil)))))) (wo_of we_var)) (we_op od_eq (wo_of (we_cb1 ud_repr (wo_of (we_of_wf (wf_lst (wa_cons we_var (wa_cons we_var (wa_cons we_var wa_nil)))))))) (wo_of we_var)))))))))))))))))))))) h

end
end K75

set_option Elab.async false
set_option linter.all false
set_option maxRecDepth 100000
set_option maxHeartbeats 4000000
/-! facts of data alone: comprehensions, loops, items -/
namespace DL
open PySem PySem.Spec PyProof.Rows L2
theorem lc_map {α : Type} {c g : α → D} {f : D → (Option D → Prop) → Prop} : ∀ {xs : List α} {k : List D → Prop}, (∀ a ∈ xs, ∀ kk, kk (some (g a)) → f (c a) kk) → k (xs.map g) → lcGo f (xs.map c) k
  | [], k, _, hk => hk
  | x :: xs, k, h, hk => h x (List.mem_cons_self ..) _ (lc_map (xs := xs) (fun a ha => h a (List.mem_cons_of_mem _ ha)) hk)
theorem lc_filter {α : Type} {c g : α → D} {p : α → Bool} {f : D → (Option D → Prop) → Prop} : ∀ {xs : List α} {k : List D → Prop}, (∀ a ∈ xs, ∀ kk, kk (if p a = true then some (g a) else none) → f (c a) kk) → k ((xs.filter p).map g) → lcGo f (xs.map c) k
  | [], k, _, hk => hk
  | x :: xs, k, h, hk => h x (List.mem_cons_self ..) _ (lc_filter (xs := xs) (fun a ha => h a (List.mem_cons_of_mem _ ha)) (by
    cases e : p x with
    | true =>
      rw [List.filter_cons_of_pos e] at hk
      rw [if_pos rfl]; exact hk
    | false =>
      rw [List.filter_cons_of_neg (by rw [e]; decide)] at hk
      rw [if_neg (by decide)]; exact hk))
/-- a loop that comes back to the same at each turn, or ends the def -/
theorem for_first {α : Type} {c : α → D} {p : α → Bool} {eg : EG} {eb : ES} {dead : List Nat} {env : Env} {r : D} : ∀ {xs : List α} {k : Kn},
    (∀ a ∈ xs, ∀ K' : Kn, (p a = true → K'.rt r) → (p a = false → ∀ e, forg e dead = env → K'.nx e ∧ K'.ct e) → eg (c a) env fun env1 => eb env1 K') →
    (xs.any p = true → k.rt r) → (xs.any p = false → k.nx env) → forGo eg eb dead (xs.map c) env k
  | [], k, _, _, h2 => h2 rfl
  | x :: xs, k, h, h1, h2 => h x (List.mem_cons_self ..) _ (fun e => h1 (by rw [List.any_cons, e]; rfl)) fun e e2 he => by
    have : forGo eg eb dead (xs.map c) env k := for_first (xs := xs) (fun a ha => h a (List.mem_cons_of_mem _ ha)) (fun z => h1 (by rw [List.any_cons, e, z]; rfl)) (fun z => h2 (by rw [List.any_cons, e, z]; rfl))
    rw [← he] at this
    exact ⟨this, this⟩
/-- the same, with what is left of the turns ahead -/
theorem for_firstE {α : Type} {c : α → D} {p : α → Bool} {eg : EG} {eb : ES} {dead : List Nat} {E : List α → Env} {r : D} {k : Kn} : ∀ {xs done : List α},
    (∀ d a, ∀ K' : Kn, (∃ u, d ++ a :: u = done ++ xs) → (p a = true → K'.rt r) → (p a = false → ∀ e, forg e dead = E (d ++ [a]) → K'.nx e ∧ K'.ct e) → eg (c a) (E d) fun env1 => eb env1 K') →
    (xs.any p = true → k.rt r) → (xs.any p = false → k.nx (E (done ++ xs))) → forGo eg eb dead (xs.map c) (E done) k
  | [], done, _, _, h2 => by have := h2 rfl; rw [List.append_nil] at this; exact this
  | x :: xs, done, h, h1, h2 => h done x _ ⟨xs, rfl⟩ (fun e => h1 (by rw [List.any_cons, e]; rfl)) fun e e2 he => by
    have : forGo eg eb dead (xs.map c) (forg e2 dead) k := by
      rw [he]
      exact for_firstE (xs := xs) (done := done ++ [x]) (fun d a K' ⟨u, hu⟩ => h d a K' ⟨u, by rw [hu]; simp⟩) (fun z => h1 (by rw [List.any_cons, e, z]; rfl)) (fun z => by simpa using h2 (by rw [List.any_cons, e, z]; rfl))
    exact ⟨this, this⟩
/-- a loop that leaves what its turns ahead make it leave -/
theorem for_det {α : Type} {c : α → D} {eg : EG} {eb : ES} {dead : List Nat} {E : List α → Env} {k : Kn} : ∀ {xs done : List α},
    (∀ d a, ∀ K' : Kn, (∀ e, forg e dead = E (d ++ [a]) → K'.nx e) → (∃ u, d ++ a :: u = done ++ xs) → eg (c a) (E d) fun env1 => eb env1 K') → k.nx (E (done ++ xs)) → forGo eg eb dead (xs.map c) (E done) k
  | [], done, _, hk => by rw [List.append_nil] at hk; exact hk
  | x :: xs, done, h, hk => h done x _ (fun e he => by
    show forGo eg eb dead (xs.map c) (forg e dead) k
    rw [he]
    exact for_det (xs := xs) (done := done ++ [x]) (fun d a K' z ⟨u, hu⟩ => h d a K' z ⟨u, by rw [hu]; simp⟩) (by simpa using hk)) ⟨xs, rfl⟩
theorem ix_lst {l : List D} {d : D} {i : Nat} {k : DK} (h : l[i]? = some d) (hk : k d) : ixD (.lst l) (.int (i : Int)) k := by
  refine ⟨d, ?_, hk⟩
  unfold L2.atI L2.ixN
  have := (List.getElem?_eq_some_iff.mp h).1
  rw [if_pos (by omega), if_pos (by omega)]
  simpa using h
theorem ix_tup {l : List D} {d : D} {i : Nat} {k : DK} (h : l[i]? = some d) (hk : k d) : ixD (.tup l) (.int (i : Int)) k := by
  refine ⟨d, ?_, hk⟩
  unfold L2.atI L2.ixN
  have := (List.getElem?_eq_some_iff.mp h).1
  rw [if_pos (by omega), if_pos (by omega)]
  simpa using h
theorem ix_last {l : List D} {d : D} {k : DK} (h : l[l.length - 1]? = some d) (hk : k d) : ixD (.lst l) (.int (-1)) k := by
  refine ⟨d, ?_, hk⟩
  unfold L2.atI L2.ixN
  have := (List.getElem?_eq_some_iff.mp h).1
  rw [if_neg (by omega), if_pos (by omega)]
  rw [show ((-1 : Int) + (l.length : Int)).toNat = l.length - 1 by omega]
  simpa using h
theorem ix_last_t {l : List D} {d : D} {k : DK} (h : l[l.length - 1]? = some d) (hk : k d) : ixD (.tup l) (.int (-1)) k := by
  refine ⟨d, ?_, hk⟩
  unfold L2.atI L2.ixN
  have := (List.getElem?_eq_some_iff.mp h).1
  rw [if_neg (by omega), if_pos (by omega)]
  rw [show ((-1 : Int) + (l.length : Int)).toNat = l.length - 1 by omega]
  simpa using h
theorem eq_int {i j : Int} {k : DK} (hk : k (.bl (decide (i = j)))) : eqD (.int i) (.int j) k := by
  refine ⟨⟨rfl, rfl, rfl, rfl⟩, ?_⟩
  have : PyData.eqv (toPy (.int i)) (toPy (.int j)) = decide (i = j) := by
    simp only [toPy, PyData.eqv]
    exact Bool.beq_eq_decide_eq i j
  rw [this]; exact hk
theorem ne_int {i j : Int} {k : DK} (hk : k (.bl (!decide (i = j)))) : neD (.int i) (.int j) k := by
  refine ⟨⟨rfl, rfl, rfl, rfl⟩, ?_⟩
  have : PyData.eqv (toPy (.int i)) (toPy (.int j)) = decide (i = j) := by
    simp only [toPy, PyData.eqv]
    exact Bool.beq_eq_decide_eq i j
  rw [this]; exact hk
theorem sum_lst {ns : List Nat} {k : DK} (hk : k (.int (ns.sum : Nat))) : sumU (.lst (ns.map fun (n : Nat) => D.int (n : Int))) k := by
  refine ⟨ns.map fun (n : Nat) => (n : Int), .inl (by rw [List.map_map]; rfl), ?_⟩
  have : ∀ ns : List Nat, (ns.map fun (n : Nat) => (n : Int)).sum = ((ns.sum : Nat) : Int) := fun ns => by
    induction ns with
    | nil => rfl
    | cons a l ih => simp [ih]
  rw [this]; exact hk
theorem all_lst {bs : List Bool} {k : DK} (hk : k (.bl (bs.all id))) : allD (.lst (bs.map .bl)) k := ⟨bs, rfl, hk⟩
theorem any_lst {bs : List Bool} {k : DK} (hk : k (.bl (bs.any id))) : anyD (.lst (bs.map .bl)) k := ⟨bs, rfl, hk⟩
theorem rg_map (n : Nat) : rgD (n : Int) = (List.range n).map fun (i : Nat) => D.int (i : Int) := by unfold rgD; rw [Int.toNat_natCast]
end DL

set_option Elab.async false
set_option linter.all false
set_option maxRecDepth 100000
set_option maxHeartbeats 4000000
/-! what the defs tell of data: rounds and their stands -/
namespace K75
open PySem PySem.Spec PyProof.Rows L2 DL
abbrev Std := List (Nat × Nat)
def dSt (s : Std) : D := .lst (s.map dPr)
/-- counts, as a tuple (t) or a list -/
def sq (t : Bool) (l : List Nat) : D := match t with
  | true => .tup (DL.dNs l)
  | false => .lst (DL.dNs l)
theorem p_is_count {n : Nat} {k : DK} (hk : k (.bl true)) : d_is_count [dN n] k := by
  unfold d_is_count e_is_count
  simp only [env0, env0L, knE, knF, sSeq, sAsg, sAsgF, sIf, sRet, sRetF, sRetM, sRetN, sDrop, sNext, sFor, sPar, sPar3, emE, emF, sKnow, sApp, sExt, eVar, eVarO, eC, eF, eOp, eOpF, eUn, eUnF, eB, eNotT, eAndT, eOrT, eAnd, eOr, eNot, eIf, eaNil, eaCons, eTup, eLst, eYes, eChain, eCall, eCallF, eCallP, eCallL, eCallW, eCallWF, eIsi, eIsi2, isiD, isi2D, eLc, eLcF, eSeq, eRng1, eEnum, eRgo, egName, egTup, egNil, egCons, wipeE, forg, List.map_cons, List.map_nil, List.cons_append, List.nil_append, List.append_nil, List.getElem?_cons_zero, List.getElem?_cons_succ, List.set_cons_zero, List.set_cons_succ, List.length_cons, List.length_nil, if_true, if_false, Nat.reduceAdd, Nat.reduceSub, Nat.reduceLeDiff, Bool.false_eq_true, List.replicate, true_and, and_true, Bool.not_true, Bool.not_false, Nat.zero_add, Nat.add_zero, Nat.sub_zero]
  refine ⟨"int", true, rfl, by decide +kernel, ?_⟩
  simp only [env0, env0L, knE, knF, sSeq, sAsg, sAsgF, sIf, sRet, sRetF, sRetM, sRetN, sDrop, sNext, sFor, sPar, sPar3, emE, emF, sKnow, sApp, sExt, eVar, eVarO, eC, eF, eOp, eOpF, eUn, eUnF, eB, eNotT, eAndT, eOrT, eAnd, eOr, eNot, eIf, eaNil, eaCons, eTup, eLst, eYes, eChain, eCall, eCallF, eCallP, eCallL, eCallW, eCallWF, eIsi, eIsi2, isiD, isi2D, eLc, eLcF, eSeq, eRng1, eEnum, eRgo, egName, egTup, egNil, egCons, wipeE, forg, List.map_cons, List.map_nil, List.cons_append, List.nil_append, List.append_nil, List.getElem?_cons_zero, List.getElem?_cons_succ, List.set_cons_zero, List.set_cons_succ, List.length_cons, List.length_nil, if_true, if_false, Nat.reduceAdd, Nat.reduceSub, Nat.reduceLeDiff, Bool.false_eq_true, List.replicate, true_and, and_true, Bool.not_true, Bool.not_false, Nat.zero_add, Nat.add_zero, Nat.sub_zero]
  refine ⟨"int", false, rfl, by decide +kernel, ?_⟩
  simp only [env0, env0L, knE, knF, sSeq, sAsg, sAsgF, sIf, sRet, sRetF, sRetM, sRetN, sDrop, sNext, sFor, sPar, sPar3, emE, emF, sKnow, sApp, sExt, eVar, eVarO, eC, eF, eOp, eOpF, eUn, eUnF, eB, eNotT, eAndT, eOrT, eAnd, eOr, eNot, eIf, eaNil, eaCons, eTup, eLst, eYes, eChain, eCall, eCallF, eCallP, eCallL, eCallW, eCallWF, eIsi, eIsi2, isiD, isi2D, eLc, eLcF, eSeq, eRng1, eEnum, eRgo, egName, egTup, egNil, egCons, wipeE, forg, List.map_cons, List.map_nil, List.cons_append, List.nil_append, List.append_nil, List.getElem?_cons_zero, List.getElem?_cons_succ, List.set_cons_zero, List.set_cons_succ, List.length_cons, List.length_nil, if_true, if_false, Nat.reduceAdd, Nat.reduceSub, Nat.reduceLeDiff, Bool.false_eq_true, List.replicate, true_and, and_true, Bool.not_true, Bool.not_false, Nat.zero_add, Nat.add_zero, Nat.sub_zero]
  show k (.bl (decide _))
  rw [decide_eq_true (by omega)]
  exact hk
theorem p_row_l {l : List D} {k : DK} (hk : k (.bl true)) : d_is_row [.lst l] k := by
  unfold d_is_row e_is_row
  simp only [env0, env0L, knE, knF, sSeq, sAsg, sAsgF, sIf, sRet, sRetF, sRetM, sRetN, sDrop, sNext, sFor, sPar, sPar3, emE, emF, sKnow, sApp, sExt, eVar, eVarO, eC, eF, eOp, eOpF, eUn, eUnF, eB, eNotT, eAndT, eOrT, eAnd, eOr, eNot, eIf, eaNil, eaCons, eTup, eLst, eYes, eChain, eCall, eCallF, eCallP, eCallL, eCallW, eCallWF, eIsi, eIsi2, isiD, isi2D, eLc, eLcF, eSeq, eRng1, eEnum, eRgo, egName, egTup, egNil, egCons, wipeE, forg, List.map_cons, List.map_nil, List.cons_append, List.nil_append, List.append_nil, List.getElem?_cons_zero, List.getElem?_cons_succ, List.set_cons_zero, List.set_cons_succ, List.length_cons, List.length_nil, if_true, if_false, Nat.reduceAdd, Nat.reduceSub, Nat.reduceLeDiff, Bool.false_eq_true, List.replicate, true_and, and_true, Bool.not_true, Bool.not_false, Nat.zero_add, Nat.add_zero, Nat.sub_zero]
  exact ⟨"list", true, false, rfl, by decide +kernel, by decide +kernel, hk⟩
theorem p_row_t {l : List D} {k : DK} (hk : k (.bl true)) : d_is_row [.tup l] k := by
  unfold d_is_row e_is_row
  simp only [env0, env0L, knE, knF, sSeq, sAsg, sAsgF, sIf, sRet, sRetF, sRetM, sRetN, sDrop, sNext, sFor, sPar, sPar3, emE, emF, sKnow, sApp, sExt, eVar, eVarO, eC, eF, eOp, eOpF, eUn, eUnF, eB, eNotT, eAndT, eOrT, eAnd, eOr, eNot, eIf, eaNil, eaCons, eTup, eLst, eYes, eChain, eCall, eCallF, eCallP, eCallL, eCallW, eCallWF, eIsi, eIsi2, isiD, isi2D, eLc, eLcF, eSeq, eRng1, eEnum, eRgo, egName, egTup, egNil, egCons, wipeE, forg, List.map_cons, List.map_nil, List.cons_append, List.nil_append, List.append_nil, List.getElem?_cons_zero, List.getElem?_cons_succ, List.set_cons_zero, List.set_cons_succ, List.length_cons, List.length_nil, if_true, if_false, Nat.reduceAdd, Nat.reduceSub, Nat.reduceLeDiff, Bool.false_eq_true, List.replicate, true_and, and_true, Bool.not_true, Bool.not_false, Nat.zero_add, Nat.add_zero, Nat.sub_zero]
  exact ⟨"tuple", false, true, rfl, by decide +kernel, by decide +kernel, hk⟩
theorem p_row {t : Bool} {l : List Nat} {k : DK} (hk : k (.bl true)) : d_is_row [sq t l] k := by
  cases t with
  | true => exact p_row_t hk
  | false => exact p_row_l hk
theorem len_sq {t : Bool} {l : List Nat} {k : DK} (hk : k (dN l.length)) : lenD (sq t l) k := by
  cases t with
  | true => show k (.int ((DL.dNs l).length : Int)); simpa [DL.dNs] using hk
  | false => show k (.int ((DL.dNs l).length : Int)); simpa [DL.dNs] using hk
theorem ix_sq {t : Bool} {l : List Nat} {i a : Nat} {k : DK} (h : l[i]? = some a) (hk : k (dN a)) : ixD (sq t l) (dN i) k := by
  have h2 : (DL.dNs l)[i]? = some (dN a) := by unfold DL.dNs; rw [List.getElem?_map, h]; rfl
  cases t with
  | true => exact ix_tup h2 hk
  | false => exact ix_lst h2 hk
theorem seq_sq {t : Bool} {l : List Nat} : seqD (sq t l) = some (DL.dNs l) := by cases t <;> rfl
theorem p_pair {p : Nat × Nat} {k : DK} (hk : k (.bl true)) : d_is_pair_of_counts [dPr p] k := by
  unfold d_is_pair_of_counts e_is_pair_of_counts
  simp only [env0, env0L, knE, knF, sSeq, sAsg, sAsgF, sIf, sRet, sRetF, sRetM, sRetN, sDrop, sNext, sFor, sPar, sPar3, emE, emF, sKnow, sApp, sExt, eVar, eVarO, eC, eF, eOp, eOpF, eUn, eUnF, eB, eNotT, eAndT, eOrT, eAnd, eOr, eNot, eIf, eaNil, eaCons, eTup, eLst, eYes, eChain, eCall, eCallF, eCallP, eCallL, eCallW, eCallWF, eIsi, eIsi2, isiD, isi2D, eLc, eLcF, eSeq, eRng1, eEnum, eRgo, egName, egTup, egNil, egCons, wipeE, forg, List.map_cons, List.map_nil, List.cons_append, List.nil_append, List.append_nil, List.getElem?_cons_zero, List.getElem?_cons_succ, List.set_cons_zero, List.set_cons_succ, List.length_cons, List.length_nil, if_true, if_false, Nat.reduceAdd, Nat.reduceSub, Nat.reduceLeDiff, Bool.false_eq_true, List.replicate, true_and, and_true, Bool.not_true, Bool.not_false, Nat.zero_add, Nat.add_zero, Nat.sub_zero]
  refine ⟨"tuple", true, rfl, by decide +kernel, ?_⟩
  simp only [env0, env0L, knE, knF, sSeq, sAsg, sAsgF, sIf, sRet, sRetF, sRetM, sRetN, sDrop, sNext, sFor, sPar, sPar3, emE, emF, sKnow, sApp, sExt, eVar, eVarO, eC, eF, eOp, eOpF, eUn, eUnF, eB, eNotT, eAndT, eOrT, eAnd, eOr, eNot, eIf, eaNil, eaCons, eTup, eLst, eYes, eChain, eCall, eCallF, eCallP, eCallL, eCallW, eCallWF, eIsi, eIsi2, isiD, isi2D, eLc, eLcF, eSeq, eRng1, eEnum, eRgo, egName, egTup, egNil, egCons, wipeE, forg, List.map_cons, List.map_nil, List.cons_append, List.nil_append, List.append_nil, List.getElem?_cons_zero, List.getElem?_cons_succ, List.set_cons_zero, List.set_cons_succ, List.length_cons, List.length_nil, if_true, if_false, Nat.reduceAdd, Nat.reduceSub, Nat.reduceLeDiff, Bool.false_eq_true, List.replicate, true_and, and_true, Bool.not_true, Bool.not_false, Nat.zero_add, Nat.add_zero, Nat.sub_zero]
  unfold dPr
  simp only [lenD, List.length_cons, List.length_nil]
  refine DL.eq_int ?_
  rw [show decide (((0 + 1 + 1 : Nat) : Int) = 2) = true from rfl]
  simp only [env0, env0L, knE, knF, sSeq, sAsg, sAsgF, sIf, sRet, sRetF, sRetM, sRetN, sDrop, sNext, sFor, sPar, sPar3, emE, emF, sKnow, sApp, sExt, eVar, eVarO, eC, eF, eOp, eOpF, eUn, eUnF, eB, eNotT, eAndT, eOrT, eAnd, eOr, eNot, eIf, eaNil, eaCons, eTup, eLst, eYes, eChain, eCall, eCallF, eCallP, eCallL, eCallW, eCallWF, eIsi, eIsi2, isiD, isi2D, eLc, eLcF, eSeq, eRng1, eEnum, eRgo, egName, egTup, egNil, egCons, wipeE, forg, List.map_cons, List.map_nil, List.cons_append, List.nil_append, List.append_nil, List.getElem?_cons_zero, List.getElem?_cons_succ, List.set_cons_zero, List.set_cons_succ, List.length_cons, List.length_nil, if_true, if_false, Nat.reduceAdd, Nat.reduceSub, Nat.reduceLeDiff, Bool.false_eq_true, List.replicate, true_and, and_true, Bool.not_true, Bool.not_false, Nat.zero_add, Nat.add_zero, Nat.sub_zero]
  refine ix_tup (i := 0) rfl ?_
  refine p_is_count ?_
  simp only [env0, env0L, knE, knF, sSeq, sAsg, sAsgF, sIf, sRet, sRetF, sRetM, sRetN, sDrop, sNext, sFor, sPar, sPar3, emE, emF, sKnow, sApp, sExt, eVar, eVarO, eC, eF, eOp, eOpF, eUn, eUnF, eB, eNotT, eAndT, eOrT, eAnd, eOr, eNot, eIf, eaNil, eaCons, eTup, eLst, eYes, eChain, eCall, eCallF, eCallP, eCallL, eCallW, eCallWF, eIsi, eIsi2, isiD, isi2D, eLc, eLcF, eSeq, eRng1, eEnum, eRgo, egName, egTup, egNil, egCons, wipeE, forg, List.map_cons, List.map_nil, List.cons_append, List.nil_append, List.append_nil, List.getElem?_cons_zero, List.getElem?_cons_succ, List.set_cons_zero, List.set_cons_succ, List.length_cons, List.length_nil, if_true, if_false, Nat.reduceAdd, Nat.reduceSub, Nat.reduceLeDiff, Bool.false_eq_true, List.replicate, true_and, and_true, Bool.not_true, Bool.not_false, Nat.zero_add, Nat.add_zero, Nat.sub_zero]
  refine ix_tup (i := 1) rfl ?_
  exact p_is_count hk
def dStT (t : Bool) (s : Std) : D := match t with
  | true => .tup (s.map dPr)
  | false => .lst (s.map dPr)
def carts (s : Std) : Nat := (s.map fun p => p.1 + p.2).sum
theorem p_carts {t : Bool} {s : Std} {k : DK} (hs : s.length ≤ 100000) (hk : k (dN (carts s))) : d_carts_in_all [dStT t s] k := by
  have main : (s.map dPr).length ≤ 100000 ∧ lcGo (eLcF (egTup 2 (egCons (egName 1) (egCons (egName 2) egNil))) eYes (eOp addU (eVar 1) (eVar 2)) [SV.val (dStT t s), SV.un, SV.un]) (s.map dPr) fun l => sumU (D.lst l) k := by
    refine ⟨by simpa using hs, lc_map (g := fun p => dN (p.1 + p.2)) (fun p _ kk h => ?_) ?_⟩
    · unfold dPr
      simp only [env0, env0L, knE, knF, sSeq, sAsg, sAsgF, sIf, sRet, sRetF, sRetM, sRetN, sDrop, sNext, sFor, sPar, sPar3, emE, emF, sKnow, sApp, sExt, eVar, eVarO, eC, eF, eOp, eOpF, eUn, eUnF, eB, eNotT, eAndT, eOrT, eAnd, eOr, eNot, eIf, eaNil, eaCons, eTup, eLst, eYes, eChain, eCall, eCallF, eCallP, eCallL, eCallW, eCallWF, eIsi, eIsi2, isiD, isi2D, eLc, eLcF, eSeq, eRng1, eEnum, eRgo, egName, egTup, egNil, egCons, wipeE, forg, List.map_cons, List.map_nil, List.cons_append, List.nil_append, List.append_nil, List.getElem?_cons_zero, List.getElem?_cons_succ, List.set_cons_zero, List.set_cons_succ, List.length_cons, List.length_nil, if_true, if_false, Nat.reduceAdd, Nat.reduceSub, Nat.reduceLeDiff, Bool.false_eq_true, List.replicate, true_and, and_true, Bool.not_true, Bool.not_false, Nat.zero_add, Nat.add_zero, Nat.sub_zero]
      show kk (some (.int ((p.1 : Int) + (p.2 : Int))))
      rw [← Int.natCast_add]
      exact h
    · have e : s.map (fun p => dN (p.1 + p.2)) = (s.map fun p => p.1 + p.2).map fun (n : Nat) => D.int (n : Int) := by rw [List.map_map]; rfl
      rw [e]
      exact sum_lst hk
  unfold d_carts_in_all e_carts_in_all
  simp only [env0, env0L, knE, knF, sSeq, sAsg, sAsgF, sIf, sRet, sRetF, sRetM, sRetN, sDrop, sNext, sFor, sPar, sPar3, emE, emF, sKnow, sApp, sExt, eVar, eVarO, eC, eF, eOp, eOpF, eUn, eUnF, eB, eNotT, eAndT, eOrT, eAnd, eOr, eNot, eIf, eaNil, eaCons, eTup, eLst, eYes, eChain, eCall, eCallF, eCallP, eCallL, eCallW, eCallWF, eIsi, eIsi2, isiD, isi2D, eLc, eLcF, eSeq, eRng1, eEnum, eRgo, egName, egTup, egNil, egCons, wipeE, forg, List.map_cons, List.map_nil, List.cons_append, List.nil_append, List.append_nil, List.getElem?_cons_zero, List.getElem?_cons_succ, List.set_cons_zero, List.set_cons_succ, List.length_cons, List.length_nil, if_true, if_false, Nat.reduceAdd, Nat.reduceSub, Nat.reduceLeDiff, Bool.false_eq_true, List.replicate, true_and, and_true, Bool.not_true, Bool.not_false, Nat.zero_add, Nat.add_zero, Nat.sub_zero]
  cases t with
  | true => exact main
  | false => exact main
theorem le_N {i j : Nat} {k : DK} (h : i ≤ j) (hk : k (.bl true)) : leD (dN i) (dN j) k := by
  show k (.bl (decide _))
  rw [decide_eq_true (by omega)]
  exact hk
theorem p_bounds {t : Bool} {p f : List Nat} {k : DK} (hl : f.length = p.length) (hs : p.length ≤ 100000) (h : ∀ (i a b : Nat), f[i]? = some a → p[i]? = some b → 1 ≤ a ∧ a ≤ b) (hk : k (.bl true)) : d_are_round_bounds [.lst (DL.dNs p), sq t f] k := by
  unfold d_are_round_bounds e_are_round_bounds
  simp only [env0, env0L, knE, knF, sSeq, sAsg, sAsgF, sIf, sRet, sRetF, sRetM, sRetN, sDrop, sNext, sFor, sPar, sPar3, emE, emF, sKnow, sApp, sExt, eVar, eVarO, eC, eF, eOp, eOpF, eUn, eUnF, eB, eNotT, eAndT, eOrT, eAnd, eOr, eNot, eIf, eaNil, eaCons, eTup, eLst, eYes, eChain, eCall, eCallF, eCallP, eCallL, eCallW, eCallWF, eIsi, eIsi2, isiD, isi2D, eLc, eLcF, eSeq, eRng1, eEnum, eRgo, egName, egTup, egNil, egCons, wipeE, forg, List.map_cons, List.map_nil, List.cons_append, List.nil_append, List.append_nil, List.getElem?_cons_zero, List.getElem?_cons_succ, List.set_cons_zero, List.set_cons_succ, List.length_cons, List.length_nil, if_true, if_false, Nat.reduceAdd, Nat.reduceSub, Nat.reduceLeDiff, Bool.false_eq_true, List.replicate, true_and, and_true, Bool.not_true, Bool.not_false, Nat.zero_add, Nat.add_zero, Nat.sub_zero]
  refine p_row ?_
  simp only [env0, env0L, knE, knF, sSeq, sAsg, sAsgF, sIf, sRet, sRetF, sRetM, sRetN, sDrop, sNext, sFor, sPar, sPar3, emE, emF, sKnow, sApp, sExt, eVar, eVarO, eC, eF, eOp, eOpF, eUn, eUnF, eB, eNotT, eAndT, eOrT, eAnd, eOr, eNot, eIf, eaNil, eaCons, eTup, eLst, eYes, eChain, eCall, eCallF, eCallP, eCallL, eCallW, eCallWF, eIsi, eIsi2, isiD, isi2D, eLc, eLcF, eSeq, eRng1, eEnum, eRgo, egName, egTup, egNil, egCons, wipeE, forg, List.map_cons, List.map_nil, List.cons_append, List.nil_append, List.append_nil, List.getElem?_cons_zero, List.getElem?_cons_succ, List.set_cons_zero, List.set_cons_succ, List.length_cons, List.length_nil, if_true, if_false, Nat.reduceAdd, Nat.reduceSub, Nat.reduceLeDiff, Bool.false_eq_true, List.replicate, true_and, and_true, Bool.not_true, Bool.not_false, Nat.zero_add, Nat.add_zero, Nat.sub_zero]
  refine len_sq ?_
  refine (show lenD (sq false p) _ from len_sq ?_)
  refine DL.ne_int ?_
  rw [hl, decide_eq_true rfl]
  simp only [env0, env0L, knE, knF, sSeq, sAsg, sAsgF, sIf, sRet, sRetF, sRetM, sRetN, sDrop, sNext, sFor, sPar, sPar3, emE, emF, sKnow, sApp, sExt, eVar, eVarO, eC, eF, eOp, eOpF, eUn, eUnF, eB, eNotT, eAndT, eOrT, eAnd, eOr, eNot, eIf, eaNil, eaCons, eTup, eLst, eYes, eChain, eCall, eCallF, eCallP, eCallL, eCallW, eCallWF, eIsi, eIsi2, isiD, isi2D, eLc, eLcF, eSeq, eRng1, eEnum, eRgo, egName, egTup, egNil, egCons, wipeE, forg, List.map_cons, List.map_nil, List.cons_append, List.nil_append, List.append_nil, List.getElem?_cons_zero, List.getElem?_cons_succ, List.set_cons_zero, List.set_cons_succ, List.length_cons, List.length_nil, if_true, if_false, Nat.reduceAdd, Nat.reduceSub, Nat.reduceLeDiff, Bool.false_eq_true, List.replicate, true_and, and_true, Bool.not_true, Bool.not_false, Nat.zero_add, Nat.add_zero, Nat.sub_zero]
  unfold eZip
  simp only [env0, env0L, knE, knF, sSeq, sAsg, sAsgF, sIf, sRet, sRetF, sRetM, sRetN, sDrop, sNext, sFor, sPar, sPar3, emE, emF, sKnow, sApp, sExt, eVar, eVarO, eC, eF, eOp, eOpF, eUn, eUnF, eB, eNotT, eAndT, eOrT, eAnd, eOr, eNot, eIf, eaNil, eaCons, eTup, eLst, eYes, eChain, eCall, eCallF, eCallP, eCallL, eCallW, eCallWF, eIsi, eIsi2, isiD, isi2D, eLc, eLcF, eSeq, eRng1, eEnum, eRgo, egName, egTup, egNil, egCons, wipeE, forg, List.map_cons, List.map_nil, List.cons_append, List.nil_append, List.append_nil, List.getElem?_cons_zero, List.getElem?_cons_succ, List.set_cons_zero, List.set_cons_succ, List.length_cons, List.length_nil, if_true, if_false, Nat.reduceAdd, Nat.reduceSub, Nat.reduceLeDiff, Bool.false_eq_true, List.replicate, true_and, and_true, Bool.not_true, Bool.not_false, Nat.zero_add, Nat.add_zero, Nat.sub_zero]
  rw [seq_sq]
  show (_ ∧ _)
  have e : zipD (DL.dNs f) (DL.dNs p) = (f.zip p).map fun q => D.tup [dN q.1, dN q.2] := by
    unfold zipD DL.dNs
    rw [List.zip_map, List.map_map]
    rfl
  rw [e]
  refine ⟨by simp; omega, lc_map (g := fun _ => .bl true) (fun q hq kk hkk => ?_) ?_⟩
  · simp only [env0, env0L, knE, knF, sSeq, sAsg, sAsgF, sIf, sRet, sRetF, sRetM, sRetN, sDrop, sNext, sFor, sPar, sPar3, emE, emF, sKnow, sApp, sExt, eVar, eVarO, eC, eF, eOp, eOpF, eUn, eUnF, eB, eNotT, eAndT, eOrT, eAnd, eOr, eNot, eIf, eaNil, eaCons, eTup, eLst, eYes, eChain, eCall, eCallF, eCallP, eCallL, eCallW, eCallWF, eIsi, eIsi2, isiD, isi2D, eLc, eLcF, eSeq, eRng1, eEnum, eRgo, egName, egTup, egNil, egCons, wipeE, forg, List.map_cons, List.map_nil, List.cons_append, List.nil_append, List.append_nil, List.getElem?_cons_zero, List.getElem?_cons_succ, List.set_cons_zero, List.set_cons_succ, List.length_cons, List.length_nil, if_true, if_false, Nat.reduceAdd, Nat.reduceSub, Nat.reduceLeDiff, Bool.false_eq_true, List.replicate, true_and, and_true, Bool.not_true, Bool.not_false, Nat.zero_add, Nat.add_zero, Nat.sub_zero]
    refine p_is_count ?_
    simp only [env0, env0L, knE, knF, sSeq, sAsg, sAsgF, sIf, sRet, sRetF, sRetM, sRetN, sDrop, sNext, sFor, sPar, sPar3, emE, emF, sKnow, sApp, sExt, eVar, eVarO, eC, eF, eOp, eOpF, eUn, eUnF, eB, eNotT, eAndT, eOrT, eAnd, eOr, eNot, eIf, eaNil, eaCons, eTup, eLst, eYes, eChain, eCall, eCallF, eCallP, eCallL, eCallW, eCallWF, eIsi, eIsi2, isiD, isi2D, eLc, eLcF, eSeq, eRng1, eEnum, eRgo, egName, egTup, egNil, egCons, wipeE, forg, List.map_cons, List.map_nil, List.cons_append, List.nil_append, List.append_nil, List.getElem?_cons_zero, List.getElem?_cons_succ, List.set_cons_zero, List.set_cons_succ, List.length_cons, List.length_nil, if_true, if_false, Nat.reduceAdd, Nat.reduceSub, Nat.reduceLeDiff, Bool.false_eq_true, List.replicate, true_and, and_true, Bool.not_true, Bool.not_false, Nat.zero_add, Nat.add_zero, Nat.sub_zero]
    obtain ⟨i, hi⟩ := List.mem_iff_getElem?.mp hq
    obtain ⟨h1, h2⟩ := List.getElem?_zip_eq_some.mp hi
    have := h i _ _ h1 h2
    refine (show leD (dN 1) (dN q.1) _ from le_N this.1 ?_)
    exact le_N this.2 hkk
  · have e : (f.zip p).map (fun _ => D.bl true) = (List.replicate (f.zip p).length true).map D.bl := by rw [List.map_replicate, List.map_const']
    rw [e]
    refine all_lst ?_
    rw [show (List.replicate (f.zip p).length true).all id = true by simp]
    exact hk
/-- what the law draws -/
structure Rok (p f b : List Nat) : Prop where
  p1 : 3 ≤ p.length
  p2 : p.length ≤ 7
  pp : ∀ x ∈ p, 1 ≤ x ∧ x ≤ 6
  fl : f.length = p.length
  bl : b.length = p.length
  fb : ∀ (i x y : Nat), f[i]? = some x → p[i]? = some y → 1 ≤ x ∧ x ≤ y
  bb : ∀ (i x y : Nat), b[i]? = some x → p[i]? = some y → 1 ≤ x ∧ x ≤ y
theorem p_check {t : Bool} {p f b : List Nat} {k : DK} (o : Rok p f b) (hk : k .non) : d_check_round [.lst (DL.dNs p), sq t f, .lst (DL.dNs b)] k := by
  unfold d_check_round e_check_round
  simp only [env0, env0L, knE, knF, sSeq, sAsg, sAsgF, sIf, sRet, sRetF, sRetM, sRetN, sDrop, sNext, sFor, sPar, sPar3, emE, emF, sKnow, sApp, sExt, eVar, eVarO, eC, eF, eOp, eOpF, eUn, eUnF, eB, eNotT, eAndT, eOrT, eAnd, eOr, eNot, eIf, eaNil, eaCons, eTup, eLst, eYes, eChain, eCall, eCallF, eCallP, eCallL, eCallW, eCallWF, eIsi, eIsi2, isiD, isi2D, eLc, eLcF, eSeq, eRng1, eEnum, eRgo, egName, egTup, egNil, egCons, wipeE, forg, List.map_cons, List.map_nil, List.cons_append, List.nil_append, List.append_nil, List.getElem?_cons_zero, List.getElem?_cons_succ, List.set_cons_zero, List.set_cons_succ, List.length_cons, List.length_nil, if_true, if_false, Nat.reduceAdd, Nat.reduceSub, Nat.reduceLeDiff, Bool.false_eq_true, List.replicate, true_and, and_true, Bool.not_true, Bool.not_false, Nat.zero_add, Nat.add_zero, Nat.sub_zero]
  refine p_row_l ?_
  simp only [env0, env0L, knE, knF, sSeq, sAsg, sAsgF, sIf, sRet, sRetF, sRetM, sRetN, sDrop, sNext, sFor, sPar, sPar3, emE, emF, sKnow, sApp, sExt, eVar, eVarO, eC, eF, eOp, eOpF, eUn, eUnF, eB, eNotT, eAndT, eOrT, eAnd, eOr, eNot, eIf, eaNil, eaCons, eTup, eLst, eYes, eChain, eCall, eCallF, eCallP, eCallL, eCallW, eCallWF, eIsi, eIsi2, isiD, isi2D, eLc, eLcF, eSeq, eRng1, eEnum, eRgo, egName, egTup, egNil, egCons, wipeE, forg, List.map_cons, List.map_nil, List.cons_append, List.nil_append, List.append_nil, List.getElem?_cons_zero, List.getElem?_cons_succ, List.set_cons_zero, List.set_cons_succ, List.length_cons, List.length_nil, if_true, if_false, Nat.reduceAdd, Nat.reduceSub, Nat.reduceLeDiff, Bool.false_eq_true, List.replicate, true_and, and_true, Bool.not_true, Bool.not_false, Nat.zero_add, Nat.add_zero, Nat.sub_zero]
  have h1 := o.p1
  have h2 := o.p2
  refine (show lenD (sq false p) _ from len_sq ?_)
  refine (show leD (dN 3) (dN p.length) _ from le_N h1 ?_)
  refine (show leD (dN p.length) (dN 7) _ from le_N h2 ?_)
  simp only [env0, env0L, knE, knF, sSeq, sAsg, sAsgF, sIf, sRet, sRetF, sRetM, sRetN, sDrop, sNext, sFor, sPar, sPar3, emE, emF, sKnow, sApp, sExt, eVar, eVarO, eC, eF, eOp, eOpF, eUn, eUnF, eB, eNotT, eAndT, eOrT, eAnd, eOr, eNot, eIf, eaNil, eaCons, eTup, eLst, eYes, eChain, eCall, eCallF, eCallP, eCallL, eCallW, eCallWF, eIsi, eIsi2, isiD, isi2D, eLc, eLcF, eSeq, eRng1, eEnum, eRgo, egName, egTup, egNil, egCons, wipeE, forg, List.map_cons, List.map_nil, List.cons_append, List.nil_append, List.append_nil, List.getElem?_cons_zero, List.getElem?_cons_succ, List.set_cons_zero, List.set_cons_succ, List.length_cons, List.length_nil, if_true, if_false, Nat.reduceAdd, Nat.reduceSub, Nat.reduceLeDiff, Bool.false_eq_true, List.replicate, true_and, and_true, Bool.not_true, Bool.not_false, Nat.zero_add, Nat.add_zero, Nat.sub_zero]
  refine ⟨by simp [DL.dNs]; omega, ?_⟩
  refine (show lcGo _ (p.map dN) _ from lc_map (g := fun _ => .bl true) (fun q hq kk hkk => ?_) ?_)
  · simp only [env0, env0L, knE, knF, sSeq, sAsg, sAsgF, sIf, sRet, sRetF, sRetM, sRetN, sDrop, sNext, sFor, sPar, sPar3, emE, emF, sKnow, sApp, sExt, eVar, eVarO, eC, eF, eOp, eOpF, eUn, eUnF, eB, eNotT, eAndT, eOrT, eAnd, eOr, eNot, eIf, eaNil, eaCons, eTup, eLst, eYes, eChain, eCall, eCallF, eCallP, eCallL, eCallW, eCallWF, eIsi, eIsi2, isiD, isi2D, eLc, eLcF, eSeq, eRng1, eEnum, eRgo, egName, egTup, egNil, egCons, wipeE, forg, List.map_cons, List.map_nil, List.cons_append, List.nil_append, List.append_nil, List.getElem?_cons_zero, List.getElem?_cons_succ, List.set_cons_zero, List.set_cons_succ, List.length_cons, List.length_nil, if_true, if_false, Nat.reduceAdd, Nat.reduceSub, Nat.reduceLeDiff, Bool.false_eq_true, List.replicate, true_and, and_true, Bool.not_true, Bool.not_false, Nat.zero_add, Nat.add_zero, Nat.sub_zero]
    refine p_is_count ?_
    simp only [env0, env0L, knE, knF, sSeq, sAsg, sAsgF, sIf, sRet, sRetF, sRetM, sRetN, sDrop, sNext, sFor, sPar, sPar3, emE, emF, sKnow, sApp, sExt, eVar, eVarO, eC, eF, eOp, eOpF, eUn, eUnF, eB, eNotT, eAndT, eOrT, eAnd, eOr, eNot, eIf, eaNil, eaCons, eTup, eLst, eYes, eChain, eCall, eCallF, eCallP, eCallL, eCallW, eCallWF, eIsi, eIsi2, isiD, isi2D, eLc, eLcF, eSeq, eRng1, eEnum, eRgo, egName, egTup, egNil, egCons, wipeE, forg, List.map_cons, List.map_nil, List.cons_append, List.nil_append, List.append_nil, List.getElem?_cons_zero, List.getElem?_cons_succ, List.set_cons_zero, List.set_cons_succ, List.length_cons, List.length_nil, if_true, if_false, Nat.reduceAdd, Nat.reduceSub, Nat.reduceLeDiff, Bool.false_eq_true, List.replicate, true_and, and_true, Bool.not_true, Bool.not_false, Nat.zero_add, Nat.add_zero, Nat.sub_zero]
    refine (show leD (dN 1) (dN q) _ from le_N (o.pp q hq).1 ?_)
    exact (show leD (dN q) (dN 6) _ from le_N (o.pp q hq).2 hkk)
  · have e : p.map (fun _ => D.bl true) = (List.replicate p.length true).map D.bl := by rw [List.map_replicate, List.map_const']
    rw [e]
    refine all_lst ?_
    rw [show (List.replicate p.length true).all id = true by simp]
    simp only [env0, env0L, knE, knF, sSeq, sAsg, sAsgF, sIf, sRet, sRetF, sRetM, sRetN, sDrop, sNext, sFor, sPar, sPar3, emE, emF, sKnow, sApp, sExt, eVar, eVarO, eC, eF, eOp, eOpF, eUn, eUnF, eB, eNotT, eAndT, eOrT, eAnd, eOr, eNot, eIf, eaNil, eaCons, eTup, eLst, eYes, eChain, eCall, eCallF, eCallP, eCallL, eCallW, eCallWF, eIsi, eIsi2, isiD, isi2D, eLc, eLcF, eSeq, eRng1, eEnum, eRgo, egName, egTup, egNil, egCons, wipeE, forg, List.map_cons, List.map_nil, List.cons_append, List.nil_append, List.append_nil, List.getElem?_cons_zero, List.getElem?_cons_succ, List.set_cons_zero, List.set_cons_succ, List.length_cons, List.length_nil, if_true, if_false, Nat.reduceAdd, Nat.reduceSub, Nat.reduceLeDiff, Bool.false_eq_true, List.replicate, true_and, and_true, Bool.not_true, Bool.not_false, Nat.zero_add, Nat.add_zero, Nat.sub_zero]
    refine p_bounds o.fl (by omega) o.fb ?_
    simp only [env0, env0L, knE, knF, sSeq, sAsg, sAsgF, sIf, sRet, sRetF, sRetM, sRetN, sDrop, sNext, sFor, sPar, sPar3, emE, emF, sKnow, sApp, sExt, eVar, eVarO, eC, eF, eOp, eOpF, eUn, eUnF, eB, eNotT, eAndT, eOrT, eAnd, eOr, eNot, eIf, eaNil, eaCons, eTup, eLst, eYes, eChain, eCall, eCallF, eCallP, eCallL, eCallW, eCallWF, eIsi, eIsi2, isiD, isi2D, eLc, eLcF, eSeq, eRng1, eEnum, eRgo, egName, egTup, egNil, egCons, wipeE, forg, List.map_cons, List.map_nil, List.cons_append, List.nil_append, List.append_nil, List.getElem?_cons_zero, List.getElem?_cons_succ, List.set_cons_zero, List.set_cons_succ, List.length_cons, List.length_nil, if_true, if_false, Nat.reduceAdd, Nat.reduceSub, Nat.reduceLeDiff, Bool.false_eq_true, List.replicate, true_and, and_true, Bool.not_true, Bool.not_false, Nat.zero_add, Nat.add_zero, Nat.sub_zero]
    exact (show d_are_round_bounds [_, sq false b] _ from p_bounds o.bl (by omega) o.bb hk)
end K75

set_option Elab.async false
set_option linter.all false
set_option maxRecDepth 100000
set_option maxHeartbeats 4000000
/-! which stands are stuck -/
namespace K75
open PySem PySem.Spec PyProof.Rows L2 DL
def at2 (s : Std) (i : Nat) : Nat × Nat := s.getD i (0, 0)
/-- someone at i can go on -/
def mv (p f b : List Nat) (s : Std) (i : Nat) : Bool :=
  (decide (0 < (at2 s i).1) && (decide ((at2 s ((i + 1) % p.length)).1 + (at2 s ((i + 1) % p.length)).2 < p.getD ((i + 1) % p.length) 0) && decide ((at2 s ((i + 1) % p.length)).1 < f.getD ((i + 1) % p.length) 0))) ||
  (decide (0 < (at2 s i).2) && (decide ((at2 s ((i + p.length - 1) % p.length)).1 + (at2 s ((i + p.length - 1) % p.length)).2 < p.getD ((i + p.length - 1) % p.length) 0) && decide ((at2 s ((i + p.length - 1) % p.length)).2 < b.getD ((i + p.length - 1) % p.length) 0)))
def stk (p f b : List Nat) (s : Std) : Bool := !decide (carts s = 0) && !(List.range p.length).any (mv p f b s)
theorem t_and {e f : EB} {env : DL.Env} {k : Bool → Prop} {x y : Bool} (he : ∀ kk : Bool → Prop, kk x → e env kk) (hf : ∀ kk : Bool → Prop, kk y → f env kk) (hk : k (x && y)) : eAndT e f env k := by
  refine he _ ?_
  cases x with
  | true => exact hf _ hk
  | false => exact hk
theorem gt_N {a : Nat} {k : DK} (hk : k (.bl (decide (0 < a)))) : gtD (dN a) (.int 0) k := by
  show k (.bl (decide _))
  rw [show decide ((0 : Int) < (a : Int)) = decide (0 < a) from decide_eq_decide.mpr (by omega)]
  exact hk
theorem lt_N {a c : Nat} {k : DK} (hk : k (.bl (decide (a < c)))) : ltU (dN a) (dN c) k := by
  show k (.bl (decide _))
  rw [show decide ((a : Int) < (c : Int)) = decide (a < c) from decide_eq_decide.mpr (by omega)]
  exact hk
theorem add_N {a c : Nat} {k : DK} (hk : k (dN (a + c))) : addU (dN a) (dN c) k := by
  show k (.int ((a : Int) + (c : Int)))
  rw [← Int.natCast_add]
  exact hk
theorem mod_N {a c : Nat} {k : DK} (h : 0 < c) (hk : k (dN (a % c))) : modD (dN a) (dN c) k := by
  refine ⟨by omega, ?_⟩
  show k (.int ((a : Int).fmod (c : Int)))
  rw [Int.fmod_eq_emod_of_nonneg _ (by omega), ← Int.natCast_emod]
  exact hk
theorem sum_pr {q : Nat × Nat} {k : DK} (hk : k (dN (q.1 + q.2))) : sumU (dPr q) k := by
  refine ⟨[(q.1 : Int), (q.2 : Int)], .inr rfl, ?_⟩
  show k (.int ((q.1 : Int) + ((q.2 : Int) + 0)))
  rw [show (q.1 : Int) + ((q.2 : Int) + 0) = ((q.1 + q.2 : Nat) : Int) by omega]
  exact hk
theorem ix_st {t : Bool} {s : Std} {i : Nat} {k : DK} (h : i < s.length) (hk : k (dPr (at2 s i))) : ixD (dStT t s) (dN i) k := by
  have h2 : (s.map dPr)[i]? = some (dPr (at2 s i)) := by unfold at2; rw [List.getElem?_map, List.getD_eq_getElem?_getD, List.getElem?_eq_getElem h]; rfl
  cases t with
  | true => exact ix_tup h2 hk
  | false => exact ix_lst h2 hk
theorem ix_back {l : List D} {d : D} {i : Nat} {k : DK} (hi : i < l.length) (h : l[(i + l.length - 1) % l.length]? = some d) (hk : k d) : ixD (.lst l) (.int ((i : Int) - 1)) k ∧ ixD (.tup l) (.int ((i : Int) - 1)) k := by
  cases i with
  | zero =>
    rw [show 0 + l.length - 1 = l.length - 1 by omega, Nat.mod_eq_of_lt (by omega)] at h
    rw [show ((0 : Nat) : Int) - 1 = -1 by omega]
    exact ⟨ix_last h hk, ix_last_t h hk⟩
  | succ i =>
    rw [show i + 1 + l.length - 1 = i + l.length by omega, Nat.add_mod_right, Nat.mod_eq_of_lt (by omega)] at h
    rw [show ((i + 1 : Nat) : Int) - 1 = (i : Int) by omega]
    exact ⟨ix_lst h hk, ix_tup h hk⟩
theorem ix_stb {t : Bool} {s : Std} {i : Nat} {k : DK} (h : i < s.length) (hk : k (dPr (at2 s ((i + s.length - 1) % s.length)))) : ixD (dStT t s) (.int ((i : Int) - 1)) k := by
  have hz : (i + s.length - 1) % s.length < s.length := Nat.mod_lt _ (by omega)
  have h2 : (s.map dPr)[(i + (s.map dPr).length - 1) % (s.map dPr).length]? = some (dPr (at2 s ((i + s.length - 1) % s.length))) := by unfold at2; rw [List.length_map, List.getElem?_map, List.getD_eq_getElem?_getD, List.getElem?_eq_getElem hz]; rfl
  have := ix_back (by simpa using h) h2 hk
  cases t with
  | true => exact this.2
  | false => exact this.1
theorem ix_sqD {t : Bool} {l : List Nat} {i : Nat} {k : DK} (h : i < l.length) (hk : k (dN (l.getD i 0))) : ixD (sq t l) (dN i) k :=
  ix_sq (a := l.getD i 0) (by rw [List.getD_eq_getElem?_getD, List.getElem?_eq_getElem h]; rfl) hk
theorem ix_sqb {t : Bool} {l : List Nat} {i : Nat} {k : DK} (h : i < l.length) (hk : k (dN (l.getD ((i + l.length - 1) % l.length) 0))) : ixD (sq t l) (.int ((i : Int) - 1)) k := by
  have hz : (i + l.length - 1) % l.length < l.length := Nat.mod_lt _ (by omega)
  have e : (DL.dNs l).length = l.length := by simp [DL.dNs]
  have h2 : (DL.dNs l)[(i + (DL.dNs l).length - 1) % (DL.dNs l).length]? = some (dN (l.getD ((i + l.length - 1) % l.length) 0)) := by
    rw [e]; unfold DL.dNs; rw [List.getElem?_map, List.getD_eq_getElem?_getD, List.getElem?_eq_getElem hz]; rfl
  have := ix_back (by rw [e]; exact h) h2 hk
  cases t with
  | true => exact this.2
  | false => exact this.1
theorem fst_pr {q : Nat × Nat} {k : DK} (hk : k (dN q.1)) : ixD (dPr q) (.int 0) k := ix_tup (i := 0) rfl hk
theorem snd_pr {q : Nat × Nat} {k : DK} (hk : k (dN q.2)) : ixD (dPr q) (.int 1) k := ix_tup (i := 1) rfl hk
theorem p_is_stuck {t u : Bool} {p f b : List Nat} {s : Std} {k : DK} (o : Rok p f b) (hs : s.length = p.length) (hk : k (.bl (stk p f b s))) : d_is_stuck_round [.lst (DL.dNs p), sq u f, .lst (DL.dNs b), dStT t s] k := by
  have h2 := o.p2
  have h1 := o.p1
  unfold d_is_stuck_round e_is_stuck_round
  simp only [env0, env0L, knE, knF, sSeq, sAsg, sAsgF, sIf, sRet, sRetF, sRetM, sRetN, sDrop, sNext, sFor, sPar, sPar3, emE, emF, sKnow, sApp, sExt, eVar, eVarO, eC, eF, eOp, eOpF, eUn, eUnF, eB, eNotT, eAndT, eOrT, eAnd, eOr, eNot, eIf, eaNil, eaCons, eTup, eLst, eYes, eChain, eCall, eCallF, eCallP, eCallL, eCallW, eCallWF, eIsi, eIsi2, isiD, isi2D, eLc, eLcF, eSeq, eRng1, eEnum, eRgo, egName, egTup, egNil, egCons, wipeE, forg, List.map_cons, List.map_nil, List.cons_append, List.nil_append, List.append_nil, List.getElem?_cons_zero, List.getElem?_cons_succ, List.set_cons_zero, List.set_cons_succ, List.length_cons, List.length_nil, if_true, if_false, Nat.reduceAdd, Nat.reduceSub, Nat.reduceLeDiff, Bool.false_eq_true, List.replicate, true_and, and_true, Bool.not_true, Bool.not_false, Nat.zero_add, Nat.add_zero, Nat.sub_zero]
  refine p_carts (by omega) ?_
  refine DL.eq_int ?_
  rw [show decide (((carts s : Nat) : Int) = 0) = decide (carts s = 0) from decide_eq_decide.mpr (by omega)]
  by_cases hc : carts s = 0
  · rw [decide_eq_true hc]
    simp only [env0, env0L, knE, knF, sSeq, sAsg, sAsgF, sIf, sRet, sRetF, sRetM, sRetN, sDrop, sNext, sFor, sPar, sPar3, emE, emF, sKnow, sApp, sExt, eVar, eVarO, eC, eF, eOp, eOpF, eUn, eUnF, eB, eNotT, eAndT, eOrT, eAnd, eOr, eNot, eIf, eaNil, eaCons, eTup, eLst, eYes, eChain, eCall, eCallF, eCallP, eCallL, eCallW, eCallWF, eIsi, eIsi2, isiD, isi2D, eLc, eLcF, eSeq, eRng1, eEnum, eRgo, egName, egTup, egNil, egCons, wipeE, forg, List.map_cons, List.map_nil, List.cons_append, List.nil_append, List.append_nil, List.getElem?_cons_zero, List.getElem?_cons_succ, List.set_cons_zero, List.set_cons_succ, List.length_cons, List.length_nil, if_true, if_false, Nat.reduceAdd, Nat.reduceSub, Nat.reduceLeDiff, Bool.false_eq_true, List.replicate, true_and, and_true, Bool.not_true, Bool.not_false, Nat.zero_add, Nat.add_zero, Nat.sub_zero]
    have : stk p f b s = false := by unfold stk; rw [decide_eq_true hc]; rfl
    rw [this] at hk
    exact hk
  · rw [decide_eq_false hc]
    simp only [env0, env0L, knE, knF, sSeq, sAsg, sAsgF, sIf, sRet, sRetF, sRetM, sRetN, sDrop, sNext, sFor, sPar, sPar3, emE, emF, sKnow, sApp, sExt, eVar, eVarO, eC, eF, eOp, eOpF, eUn, eUnF, eB, eNotT, eAndT, eOrT, eAnd, eOr, eNot, eIf, eaNil, eaCons, eTup, eLst, eYes, eChain, eCall, eCallF, eCallP, eCallL, eCallW, eCallWF, eIsi, eIsi2, isiD, isi2D, eLc, eLcF, eSeq, eRng1, eEnum, eRgo, egName, egTup, egNil, egCons, wipeE, forg, List.map_cons, List.map_nil, List.cons_append, List.nil_append, List.append_nil, List.getElem?_cons_zero, List.getElem?_cons_succ, List.set_cons_zero, List.set_cons_succ, List.length_cons, List.length_nil, if_true, if_false, Nat.reduceAdd, Nat.reduceSub, Nat.reduceLeDiff, Bool.false_eq_true, List.replicate, true_and, and_true, Bool.not_true, Bool.not_false, Nat.zero_add, Nat.add_zero, Nat.sub_zero]
    refine (show lenD (sq false p) _ from len_sq ?_)
    refine ⟨by omega, by omega, ?_⟩
    rw [rg_map]
    refine for_first (p := mv p f b s) (r := .bl false) (fun i hi K' hr hn => ?_) (fun h => ?_) (fun h => ?_)
    · have hi : i < p.length := List.mem_range.mp hi
      have hp0 : 0 < p.length := by omega
      have ha : (i + 1) % p.length < p.length := Nat.mod_lt _ hp0
      have hz : (i + p.length - 1) % p.length < p.length := Nat.mod_lt _ hp0
      simp only [env0, env0L, knE, knF, sSeq, sAsg, sAsgF, sIf, sRet, sRetF, sRetM, sRetN, sDrop, sNext, sFor, sPar, sPar3, emE, emF, sKnow, sApp, sExt, eVar, eVarO, eC, eF, eOp, eOpF, eUn, eUnF, eB, eAnd, eOr, eNot, eIf, eaNil, eaCons, eTup, eLst, eYes, eChain, eCall, eCallF, eCallP, eCallL, eCallW, eCallWF, eIsi, eIsi2, isiD, isi2D, eLc, eLcF, eSeq, eRng1, eEnum, eRgo, egName, egTup, egNil, egCons, wipeE, forg, List.map_cons, List.map_nil, List.cons_append, List.nil_append, List.append_nil, List.getElem?_cons_zero, List.getElem?_cons_succ, List.set_cons_zero, List.set_cons_succ, List.length_cons, List.length_nil, if_true, if_false, Nat.reduceAdd, Nat.reduceSub, Nat.reduceLeDiff, Bool.false_eq_true, List.replicate, true_and, and_true, Bool.not_true, Bool.not_false, Nat.zero_add, Nat.add_zero, Nat.sub_zero]
      refine (show addU (dN i) (dN 1) _ from add_N ?_)
      refine (show lenD (sq false p) _ from len_sq ?_)
      refine mod_N hp0 ?_
      simp only [subD, fI]
      refine t_and (x := decide (0 < (at2 s i).1)) (y := decide ((at2 s ((i + 1) % p.length)).1 + (at2 s ((i + 1) % p.length)).2 < p.getD ((i + 1) % p.length) 0) && decide ((at2 s ((i + 1) % p.length)).1 < f.getD ((i + 1) % p.length) 0)) (fun kk h => ?_) (fun kk h => t_and (x := decide ((at2 s ((i + 1) % p.length)).1 + (at2 s ((i + 1) % p.length)).2 < p.getD ((i + 1) % p.length) 0)) (y := decide ((at2 s ((i + 1) % p.length)).1 < f.getD ((i + 1) % p.length) 0)) (fun kk h => ?_) (fun kk h => ?_) h) ?_
      · simp only [env0, env0L, knE, knF, sSeq, sAsg, sAsgF, sIf, sRet, sRetF, sRetM, sRetN, sDrop, sNext, sFor, sPar, sPar3, emE, emF, sKnow, sApp, sExt, eVar, eVarO, eC, eF, eOp, eOpF, eUn, eUnF, eB, eAnd, eOr, eNot, eIf, eaNil, eaCons, eTup, eLst, eYes, eChain, eCall, eCallF, eCallP, eCallL, eCallW, eCallWF, eIsi, eIsi2, isiD, isi2D, eLc, eLcF, eSeq, eRng1, eEnum, eRgo, egName, egTup, egNil, egCons, wipeE, forg, List.map_cons, List.map_nil, List.cons_append, List.nil_append, List.append_nil, List.getElem?_cons_zero, List.getElem?_cons_succ, List.set_cons_zero, List.set_cons_succ, List.length_cons, List.length_nil, if_true, if_false, Nat.reduceAdd, Nat.reduceSub, Nat.reduceLeDiff, Bool.false_eq_true, List.replicate, true_and, and_true, Bool.not_true, Bool.not_false, Nat.zero_add, Nat.add_zero, Nat.sub_zero]
        refine ix_st (by omega) ?_
        refine fst_pr ?_
        exact gt_N h
      · simp only [env0, env0L, knE, knF, sSeq, sAsg, sAsgF, sIf, sRet, sRetF, sRetM, sRetN, sDrop, sNext, sFor, sPar, sPar3, emE, emF, sKnow, sApp, sExt, eVar, eVarO, eC, eF, eOp, eOpF, eUn, eUnF, eB, eAnd, eOr, eNot, eIf, eaNil, eaCons, eTup, eLst, eYes, eChain, eCall, eCallF, eCallP, eCallL, eCallW, eCallWF, eIsi, eIsi2, isiD, isi2D, eLc, eLcF, eSeq, eRng1, eEnum, eRgo, egName, egTup, egNil, egCons, wipeE, forg, List.map_cons, List.map_nil, List.cons_append, List.nil_append, List.append_nil, List.getElem?_cons_zero, List.getElem?_cons_succ, List.set_cons_zero, List.set_cons_succ, List.length_cons, List.length_nil, if_true, if_false, Nat.reduceAdd, Nat.reduceSub, Nat.reduceLeDiff, Bool.false_eq_true, List.replicate, true_and, and_true, Bool.not_true, Bool.not_false, Nat.zero_add, Nat.add_zero, Nat.sub_zero]
        refine ix_st (by omega) ?_
        refine sum_pr ?_
        refine (show ixD (sq false p) _ _ from ix_sqD ha ?_)
        exact lt_N h
      · simp only [env0, env0L, knE, knF, sSeq, sAsg, sAsgF, sIf, sRet, sRetF, sRetM, sRetN, sDrop, sNext, sFor, sPar, sPar3, emE, emF, sKnow, sApp, sExt, eVar, eVarO, eC, eF, eOp, eOpF, eUn, eUnF, eB, eAnd, eOr, eNot, eIf, eaNil, eaCons, eTup, eLst, eYes, eChain, eCall, eCallF, eCallP, eCallL, eCallW, eCallWF, eIsi, eIsi2, isiD, isi2D, eLc, eLcF, eSeq, eRng1, eEnum, eRgo, egName, egTup, egNil, egCons, wipeE, forg, List.map_cons, List.map_nil, List.cons_append, List.nil_append, List.append_nil, List.getElem?_cons_zero, List.getElem?_cons_succ, List.set_cons_zero, List.set_cons_succ, List.length_cons, List.length_nil, if_true, if_false, Nat.reduceAdd, Nat.reduceSub, Nat.reduceLeDiff, Bool.false_eq_true, List.replicate, true_and, and_true, Bool.not_true, Bool.not_false, Nat.zero_add, Nat.add_zero, Nat.sub_zero]
        refine ix_st (by omega) ?_
        refine fst_pr ?_
        refine ix_sqD (by rw [o.fl]; exact ha) ?_
        exact lt_N h
      split
      · next h1 => exact hr (by unfold mv; rw [h1]; rfl)
      · next h1 =>
        have h1 := Bool.eq_false_iff.mpr h1
        refine t_and (x := decide (0 < (at2 s i).2)) (y := decide ((at2 s ((i + p.length - 1) % p.length)).1 + (at2 s ((i + p.length - 1) % p.length)).2 < p.getD ((i + p.length - 1) % p.length) 0) && decide ((at2 s ((i + p.length - 1) % p.length)).2 < b.getD ((i + p.length - 1) % p.length) 0)) (fun kk h => ?_) (fun kk h => t_and (x := decide ((at2 s ((i + p.length - 1) % p.length)).1 + (at2 s ((i + p.length - 1) % p.length)).2 < p.getD ((i + p.length - 1) % p.length) 0)) (y := decide ((at2 s ((i + p.length - 1) % p.length)).2 < b.getD ((i + p.length - 1) % p.length) 0)) (fun kk h => ?_) (fun kk h => ?_) h) ?_
        · simp only [env0, env0L, knE, knF, sSeq, sAsg, sAsgF, sIf, sRet, sRetF, sRetM, sRetN, sDrop, sNext, sFor, sPar, sPar3, emE, emF, sKnow, sApp, sExt, eVar, eVarO, eC, eF, eOp, eOpF, eUn, eUnF, eB, eAnd, eOr, eNot, eIf, eaNil, eaCons, eTup, eLst, eYes, eChain, eCall, eCallF, eCallP, eCallL, eCallW, eCallWF, eIsi, eIsi2, isiD, isi2D, eLc, eLcF, eSeq, eRng1, eEnum, eRgo, egName, egTup, egNil, egCons, wipeE, forg, List.map_cons, List.map_nil, List.cons_append, List.nil_append, List.append_nil, List.getElem?_cons_zero, List.getElem?_cons_succ, List.set_cons_zero, List.set_cons_succ, List.length_cons, List.length_nil, if_true, if_false, Nat.reduceAdd, Nat.reduceSub, Nat.reduceLeDiff, Bool.false_eq_true, List.replicate, true_and, and_true, Bool.not_true, Bool.not_false, Nat.zero_add, Nat.add_zero, Nat.sub_zero]
          refine ix_st (by omega) ?_
          refine snd_pr ?_
          exact gt_N h
        · simp only [env0, env0L, knE, knF, sSeq, sAsg, sAsgF, sIf, sRet, sRetF, sRetM, sRetN, sDrop, sNext, sFor, sPar, sPar3, emE, emF, sKnow, sApp, sExt, eVar, eVarO, eC, eF, eOp, eOpF, eUn, eUnF, eB, eAnd, eOr, eNot, eIf, eaNil, eaCons, eTup, eLst, eYes, eChain, eCall, eCallF, eCallP, eCallL, eCallW, eCallWF, eIsi, eIsi2, isiD, isi2D, eLc, eLcF, eSeq, eRng1, eEnum, eRgo, egName, egTup, egNil, egCons, wipeE, forg, List.map_cons, List.map_nil, List.cons_append, List.nil_append, List.append_nil, List.getElem?_cons_zero, List.getElem?_cons_succ, List.set_cons_zero, List.set_cons_succ, List.length_cons, List.length_nil, if_true, if_false, Nat.reduceAdd, Nat.reduceSub, Nat.reduceLeDiff, Bool.false_eq_true, List.replicate, true_and, and_true, Bool.not_true, Bool.not_false, Nat.zero_add, Nat.add_zero, Nat.sub_zero]
          refine ix_stb (by omega) ?_
          rw [hs]
          refine sum_pr ?_
          refine (show ixD (sq false p) _ _ from ix_sqb hi ?_)
          exact lt_N h
        · simp only [env0, env0L, knE, knF, sSeq, sAsg, sAsgF, sIf, sRet, sRetF, sRetM, sRetN, sDrop, sNext, sFor, sPar, sPar3, emE, emF, sKnow, sApp, sExt, eVar, eVarO, eC, eF, eOp, eOpF, eUn, eUnF, eB, eAnd, eOr, eNot, eIf, eaNil, eaCons, eTup, eLst, eYes, eChain, eCall, eCallF, eCallP, eCallL, eCallW, eCallWF, eIsi, eIsi2, isiD, isi2D, eLc, eLcF, eSeq, eRng1, eEnum, eRgo, egName, egTup, egNil, egCons, wipeE, forg, List.map_cons, List.map_nil, List.cons_append, List.nil_append, List.append_nil, List.getElem?_cons_zero, List.getElem?_cons_succ, List.set_cons_zero, List.set_cons_succ, List.length_cons, List.length_nil, if_true, if_false, Nat.reduceAdd, Nat.reduceSub, Nat.reduceLeDiff, Bool.false_eq_true, List.replicate, true_and, and_true, Bool.not_true, Bool.not_false, Nat.zero_add, Nat.add_zero, Nat.sub_zero]
          refine ix_stb (by omega) ?_
          rw [hs]
          refine snd_pr ?_
          refine (show ixD (sq false b) _ _ from ix_sqb (by rw [o.bl]; exact hi) ?_)
          rw [o.bl]
          exact lt_N h
        split
        · next h2 => exact hr (by unfold mv; rw [h1, h2]; rfl)
        · next h2 =>
          have h2 := Bool.eq_false_iff.mpr h2
          exact (hn (by unfold mv; rw [h1, h2]; rfl) _ rfl).1
    · have : stk p f b s = false := by unfold stk; rw [h]; simp
      rw [this] at hk
      exact hk
    · have : stk p f b s = true := by unfold stk; rw [h, decide_eq_false hc]; rfl
      rw [this] at hk
      simp only [env0, env0L, knE, knF, sSeq, sAsg, sAsgF, sIf, sRet, sRetF, sRetM, sRetN, sDrop, sNext, sFor, sPar, sPar3, emE, emF, sKnow, sApp, sExt, eVar, eVarO, eC, eF, eOp, eOpF, eUn, eUnF, eB, eNotT, eAndT, eOrT, eAnd, eOr, eNot, eIf, eaNil, eaCons, eTup, eLst, eYes, eChain, eCall, eCallF, eCallP, eCallL, eCallW, eCallWF, eIsi, eIsi2, isiD, isi2D, eLc, eLcF, eSeq, eRng1, eEnum, eRgo, egName, egTup, egNil, egCons, wipeE, forg, List.map_cons, List.map_nil, List.cons_append, List.nil_append, List.append_nil, List.getElem?_cons_zero, List.getElem?_cons_succ, List.set_cons_zero, List.set_cons_succ, List.length_cons, List.length_nil, if_true, if_false, Nat.reduceAdd, Nat.reduceSub, Nat.reduceLeDiff, Bool.false_eq_true, List.replicate, true_and, and_true, Bool.not_true, Bool.not_false, Nat.zero_add, Nat.add_zero, Nat.sub_zero]
      exact hk
end K75

set_option Elab.async false
set_option linter.all false
set_option maxRecDepth 100000
set_option maxHeartbeats 4000000
/-! the law's own look -/
namespace K75
open PySem PySem.Spec PyProof.Rows L2 DL
theorem ne_pr {q r : Nat × Nat} {k : DK} (hk : k (.bl (!decide (q = r)))) : neD (dPr q) (dPr r) k := by
  refine ⟨⟨rfl, rfl, rfl, rfl⟩, ?_⟩
  have : PyData.eqv (toPy (dPr q)) (toPy (dPr r)) = decide (q = r) := by
    obtain ⟨a, b⟩ := q
    obtain ⟨c, d⟩ := r
    simp only [dPr, toPy, toPys, PyData.eqv, PyData.eqvAll]
    rw [show ((a : Int) == (c : Int)) = decide (a = c) by rw [Bool.beq_eq_decide_eq]; exact decide_eq_decide.mpr (by omega), show ((b : Int) == (d : Int)) = decide (b = d) by rw [Bool.beq_eq_decide_eq]; exact decide_eq_decide.mpr (by omega)]
    simp [Prod.mk.injEq, Bool.decide_and]
  rw [this]; exact hk
theorem sub1_N {a : Nat} {k : DK} (h : 0 < a) (hk : k (dN (a - 1))) : subD (dN a) (.int 1) k := by
  show k (.int ((a : Int) - 1))
  rw [show (a : Int) - 1 = ((a - 1 : Nat) : Int) by omega]
  exact hk
theorem carts_any : ∀ s : Std, s.any (fun q => !decide (q = (0, 0))) = !decide (carts s = 0)
  | [] => rfl
  | (a, b) :: s => by
    have := carts_any s
    rw [List.any_cons, this]
    unfold carts
    simp only [List.map_cons, List.sum_cons]
    by_cases h1 : a = 0 <;> by_cases h2 : b = 0 <;> by_cases h3 : (s.map fun p => p.1 + p.2).sum = 0 <;> simp [h1, h2, h3] <;> omega
def lastE (d : List ((Nat × Nat) × Nat)) : SV := match d.getLast? with
  | some q => .val (dPr q.1)
  | none => .un
theorem p_l_stuck {p f b : List Nat} {s : Std} {k : DK} (o : Rok p f b) (hs : s.length = p.length) (hk : k (.bl (stk p f b s))) : d_l_is_stuck [.lst (DL.dNs p), .lst (DL.dNs f), .lst (DL.dNs b), .lst (s.map dPr)] k := by
  have h2 := o.p2
  have h1 := o.p1
  unfold d_l_is_stuck e_l_is_stuck
  simp only [env0, env0L, knE, knF, sSeq, sAsg, sAsgF, sIf, sRet, sRetF, sRetM, sRetN, sDrop, sNext, sFor, sPar, sPar3, emE, emF, sKnow, sApp, sExt, eVar, eVarO, eC, eF, eOp, eOpF, eUn, eUnF, eB, eNotT, eAndT, eOrT, eAnd, eOr, eNot, eIf, eaNil, eaCons, eTup, eLst, eYes, eChain, eCall, eCallF, eCallP, eCallL, eCallW, eCallWF, eIsi, eIsi2, isiD, isi2D, eLc, eLcF, eSeq, eRng1, eEnum, eRgo, egName, egTup, egNil, egCons, wipeE, forg, List.map_cons, List.map_nil, List.cons_append, List.nil_append, List.append_nil, List.getElem?_cons_zero, List.getElem?_cons_succ, List.set_cons_zero, List.set_cons_succ, List.length_cons, List.length_nil, if_true, if_false, Nat.reduceAdd, Nat.reduceSub, Nat.reduceLeDiff, Bool.false_eq_true, List.replicate, true_and, and_true, Bool.not_true, Bool.not_false, Nat.zero_add, Nat.add_zero, Nat.sub_zero]
  refine (show lenD (sq false p) _ from len_sq ?_)
  show forGo _ _ _ (enumD (s.map dPr)) _ _
  have e : enumD (s.map dPr) = s.zipIdx.map fun q => D.tup [dN q.2, dPr q.1] := by
    unfold enumD
    rw [List.zipIdx_map, List.map_map]
    rfl
  rw [e]
  refine for_firstE (E := fun d => [SV.val (D.lst (DL.dNs p)), SV.val (D.lst (DL.dNs f)), SV.val (D.lst (DL.dNs b)), SV.val (.lst (s.map dPr)), SV.val (dN p.length), SV.un, lastE d, SV.un, SV.un]) (p := fun q => mv p f b s q.2) (r := .bl false) (done := []) (fun d q K' hu hr hn => ?_) (fun h => ?_) (fun h => ?_)
  · obtain ⟨u, hu⟩ := hu
    have hq : q ∈ s.zipIdx := by
      have : s.zipIdx = d ++ q :: u := hu.symm
      rw [this]; simp
    obtain ⟨q, i⟩ := q
    have hsi : s[i]? = some q := by
      have := List.mem_zipIdx_iff_getElem?.mp hq
      simpa using this
    have hi : i < p.length := by rw [← hs]; exact (List.getElem?_eq_some_iff.mp hsi).1
    have hq2 : q = at2 s i := by unfold at2; rw [List.getD_eq_getElem?_getD, hsi]; rfl
    have hp0 : 0 < p.length := by omega
    have ha : (i + 1) % p.length < p.length := Nat.mod_lt _ hp0
    have hz : (i + p.length - 1) % p.length < p.length := Nat.mod_lt _ hp0
    simp only [env0, env0L, knE, knF, sSeq, sAsg, sAsgF, sIf, sRet, sRetF, sRetM, sRetN, sDrop, sNext, sFor, sPar, sPar3, emE, emF, sKnow, sApp, sExt, eVar, eVarO, eC, eF, eOp, eOpF, eUn, eUnF, eB, eAnd, eOr, eNot, eIf, eaNil, eaCons, eTup, eLst, eYes, eChain, eCall, eCallF, eCallP, eCallL, eCallW, eCallWF, eIsi, eIsi2, isiD, isi2D, eLc, eLcF, eSeq, eRng1, eEnum, eRgo, egName, egTup, egNil, egCons, wipeE, forg, List.map_cons, List.map_nil, List.cons_append, List.nil_append, List.append_nil, List.getElem?_cons_zero, List.getElem?_cons_succ, List.set_cons_zero, List.set_cons_succ, List.length_cons, List.length_nil, if_true, if_false, Nat.reduceAdd, Nat.reduceSub, Nat.reduceLeDiff, Bool.false_eq_true, List.replicate, true_and, and_true, Bool.not_true, Bool.not_false, Nat.zero_add, Nat.add_zero, Nat.sub_zero]
    refine (show addU (dN i) (dN 1) _ from add_N ?_)
    refine mod_N hp0 ?_
    refine (show addU (dN i) (dN p.length) _ from add_N ?_)
    refine sub1_N (by omega) ?_
    refine mod_N hp0 ?_
    refine t_and (x := decide (0 < (at2 s i).1)) (y := decide ((at2 s ((i + 1) % p.length)).1 < f.getD ((i + 1) % p.length) 0) && decide ((at2 s ((i + 1) % p.length)).1 + (at2 s ((i + 1) % p.length)).2 < p.getD ((i + 1) % p.length) 0)) (fun kk h => ?_) (fun kk h => t_and (y := decide ((at2 s ((i + 1) % p.length)).1 + (at2 s ((i + 1) % p.length)).2 < p.getD ((i + 1) % p.length) 0)) (x := decide ((at2 s ((i + 1) % p.length)).1 < f.getD ((i + 1) % p.length) 0)) (fun kk h => ?_) (fun kk h => ?_) h) ?_
    · simp only [env0, env0L, knE, knF, sSeq, sAsg, sAsgF, sIf, sRet, sRetF, sRetM, sRetN, sDrop, sNext, sFor, sPar, sPar3, emE, emF, sKnow, sApp, sExt, eVar, eVarO, eC, eF, eOp, eOpF, eUn, eUnF, eB, eAnd, eOr, eNot, eIf, eaNil, eaCons, eTup, eLst, eYes, eChain, eCall, eCallF, eCallP, eCallL, eCallW, eCallWF, eIsi, eIsi2, isiD, isi2D, eLc, eLcF, eSeq, eRng1, eEnum, eRgo, egName, egTup, egNil, egCons, wipeE, forg, List.map_cons, List.map_nil, List.cons_append, List.nil_append, List.append_nil, List.getElem?_cons_zero, List.getElem?_cons_succ, List.set_cons_zero, List.set_cons_succ, List.length_cons, List.length_nil, if_true, if_false, Nat.reduceAdd, Nat.reduceSub, Nat.reduceLeDiff, Bool.false_eq_true, List.replicate, true_and, and_true, Bool.not_true, Bool.not_false, Nat.zero_add, Nat.add_zero, Nat.sub_zero]
      rw [hq2]
      refine fst_pr ?_
      exact gt_N h
    · simp only [env0, env0L, knE, knF, sSeq, sAsg, sAsgF, sIf, sRet, sRetF, sRetM, sRetN, sDrop, sNext, sFor, sPar, sPar3, emE, emF, sKnow, sApp, sExt, eVar, eVarO, eC, eF, eOp, eOpF, eUn, eUnF, eB, eAnd, eOr, eNot, eIf, eaNil, eaCons, eTup, eLst, eYes, eChain, eCall, eCallF, eCallP, eCallL, eCallW, eCallWF, eIsi, eIsi2, isiD, isi2D, eLc, eLcF, eSeq, eRng1, eEnum, eRgo, egName, egTup, egNil, egCons, wipeE, forg, List.map_cons, List.map_nil, List.cons_append, List.nil_append, List.append_nil, List.getElem?_cons_zero, List.getElem?_cons_succ, List.set_cons_zero, List.set_cons_succ, List.length_cons, List.length_nil, if_true, if_false, Nat.reduceAdd, Nat.reduceSub, Nat.reduceLeDiff, Bool.false_eq_true, List.replicate, true_and, and_true, Bool.not_true, Bool.not_false, Nat.zero_add, Nat.add_zero, Nat.sub_zero]
      refine (show ixD (dStT false s) _ _ from ix_st (by omega) ?_)
      refine fst_pr ?_
      refine (show ixD (sq false f) _ _ from ix_sqD (by rw [o.fl]; exact ha) ?_)
      exact lt_N h
    · simp only [env0, env0L, knE, knF, sSeq, sAsg, sAsgF, sIf, sRet, sRetF, sRetM, sRetN, sDrop, sNext, sFor, sPar, sPar3, emE, emF, sKnow, sApp, sExt, eVar, eVarO, eC, eF, eOp, eOpF, eUn, eUnF, eB, eAnd, eOr, eNot, eIf, eaNil, eaCons, eTup, eLst, eYes, eChain, eCall, eCallF, eCallP, eCallL, eCallW, eCallWF, eIsi, eIsi2, isiD, isi2D, eLc, eLcF, eSeq, eRng1, eEnum, eRgo, egName, egTup, egNil, egCons, wipeE, forg, List.map_cons, List.map_nil, List.cons_append, List.nil_append, List.append_nil, List.getElem?_cons_zero, List.getElem?_cons_succ, List.set_cons_zero, List.set_cons_succ, List.length_cons, List.length_nil, if_true, if_false, Nat.reduceAdd, Nat.reduceSub, Nat.reduceLeDiff, Bool.false_eq_true, List.replicate, true_and, and_true, Bool.not_true, Bool.not_false, Nat.zero_add, Nat.add_zero, Nat.sub_zero]
      refine (show ixD (dStT false s) _ _ from ix_st (by omega) ?_)
      refine sum_pr ?_
      refine (show ixD (sq false p) _ _ from ix_sqD ha ?_)
      exact lt_N h
    split
    · next h1 => exact hr (by show mv p f b s i = true; unfold mv; rw [Bool.and_comm (decide (_ < p.getD _ 0)), h1]; rfl)
    · next h1 =>
      have h1 := Bool.eq_false_iff.mpr h1
      refine t_and (x := decide (0 < (at2 s i).2)) (y := decide ((at2 s ((i + p.length - 1) % p.length)).2 < b.getD ((i + p.length - 1) % p.length) 0) && decide ((at2 s ((i + p.length - 1) % p.length)).1 + (at2 s ((i + p.length - 1) % p.length)).2 < p.getD ((i + p.length - 1) % p.length) 0)) (fun kk h => ?_) (fun kk h => t_and (y := decide ((at2 s ((i + p.length - 1) % p.length)).1 + (at2 s ((i + p.length - 1) % p.length)).2 < p.getD ((i + p.length - 1) % p.length) 0)) (x := decide ((at2 s ((i + p.length - 1) % p.length)).2 < b.getD ((i + p.length - 1) % p.length) 0)) (fun kk h => ?_) (fun kk h => ?_) h) ?_
      · simp only [env0, env0L, knE, knF, sSeq, sAsg, sAsgF, sIf, sRet, sRetF, sRetM, sRetN, sDrop, sNext, sFor, sPar, sPar3, emE, emF, sKnow, sApp, sExt, eVar, eVarO, eC, eF, eOp, eOpF, eUn, eUnF, eB, eAnd, eOr, eNot, eIf, eaNil, eaCons, eTup, eLst, eYes, eChain, eCall, eCallF, eCallP, eCallL, eCallW, eCallWF, eIsi, eIsi2, isiD, isi2D, eLc, eLcF, eSeq, eRng1, eEnum, eRgo, egName, egTup, egNil, egCons, wipeE, forg, List.map_cons, List.map_nil, List.cons_append, List.nil_append, List.append_nil, List.getElem?_cons_zero, List.getElem?_cons_succ, List.set_cons_zero, List.set_cons_succ, List.length_cons, List.length_nil, if_true, if_false, Nat.reduceAdd, Nat.reduceSub, Nat.reduceLeDiff, Bool.false_eq_true, List.replicate, true_and, and_true, Bool.not_true, Bool.not_false, Nat.zero_add, Nat.add_zero, Nat.sub_zero]
        rw [hq2]
        refine snd_pr ?_
        exact gt_N h
      · simp only [env0, env0L, knE, knF, sSeq, sAsg, sAsgF, sIf, sRet, sRetF, sRetM, sRetN, sDrop, sNext, sFor, sPar, sPar3, emE, emF, sKnow, sApp, sExt, eVar, eVarO, eC, eF, eOp, eOpF, eUn, eUnF, eB, eAnd, eOr, eNot, eIf, eaNil, eaCons, eTup, eLst, eYes, eChain, eCall, eCallF, eCallP, eCallL, eCallW, eCallWF, eIsi, eIsi2, isiD, isi2D, eLc, eLcF, eSeq, eRng1, eEnum, eRgo, egName, egTup, egNil, egCons, wipeE, forg, List.map_cons, List.map_nil, List.cons_append, List.nil_append, List.append_nil, List.getElem?_cons_zero, List.getElem?_cons_succ, List.set_cons_zero, List.set_cons_succ, List.length_cons, List.length_nil, if_true, if_false, Nat.reduceAdd, Nat.reduceSub, Nat.reduceLeDiff, Bool.false_eq_true, List.replicate, true_and, and_true, Bool.not_true, Bool.not_false, Nat.zero_add, Nat.add_zero, Nat.sub_zero]
        refine (show ixD (dStT false s) _ _ from ix_st (by omega) ?_)
        refine snd_pr ?_
        refine (show ixD (sq false b) _ _ from ix_sqD (by rw [o.bl]; exact hz) ?_)
        exact lt_N h
      · simp only [env0, env0L, knE, knF, sSeq, sAsg, sAsgF, sIf, sRet, sRetF, sRetM, sRetN, sDrop, sNext, sFor, sPar, sPar3, emE, emF, sKnow, sApp, sExt, eVar, eVarO, eC, eF, eOp, eOpF, eUn, eUnF, eB, eAnd, eOr, eNot, eIf, eaNil, eaCons, eTup, eLst, eYes, eChain, eCall, eCallF, eCallP, eCallL, eCallW, eCallWF, eIsi, eIsi2, isiD, isi2D, eLc, eLcF, eSeq, eRng1, eEnum, eRgo, egName, egTup, egNil, egCons, wipeE, forg, List.map_cons, List.map_nil, List.cons_append, List.nil_append, List.append_nil, List.getElem?_cons_zero, List.getElem?_cons_succ, List.set_cons_zero, List.set_cons_succ, List.length_cons, List.length_nil, if_true, if_false, Nat.reduceAdd, Nat.reduceSub, Nat.reduceLeDiff, Bool.false_eq_true, List.replicate, true_and, and_true, Bool.not_true, Bool.not_false, Nat.zero_add, Nat.add_zero, Nat.sub_zero]
        refine (show ixD (dStT false s) _ _ from ix_st (by omega) ?_)
        refine sum_pr ?_
        refine (show ixD (sq false p) _ _ from ix_sqD hz ?_)
        exact lt_N h
      have em : mv p f b s i = ((decide (0 < (at2 s i).1) && (decide ((at2 s ((i + 1) % p.length)).1 < f.getD ((i + 1) % p.length) 0) && decide ((at2 s ((i + 1) % p.length)).1 + (at2 s ((i + 1) % p.length)).2 < p.getD ((i + 1) % p.length) 0))) ||
  (decide (0 < (at2 s i).2) && (decide ((at2 s ((i + p.length - 1) % p.length)).2 < b.getD ((i + p.length - 1) % p.length) 0) && decide ((at2 s ((i + p.length - 1) % p.length)).1 + (at2 s ((i + p.length - 1) % p.length)).2 < p.getD ((i + p.length - 1) % p.length) 0)))) := by
        unfold mv
        rw [Bool.and_comm (decide (_ + _ < _)) (decide (_ < f.getD _ 0)), Bool.and_comm (decide (_ + _ < _)) (decide (_ < b.getD _ 0))]
      split
      · next h2 => exact hr (by show mv p f b s i = true; rw [em, h2, Bool.or_true])
      · next h2 =>
        have h2 := Bool.eq_false_iff.mpr h2
        refine (hn (by show mv p f b s i = false; rw [em, h1, h2]; rfl) _ ?_).1
        simp only [env0, env0L, knE, knF, sSeq, sAsg, sAsgF, sIf, sRet, sRetF, sRetM, sRetN, sDrop, sNext, sFor, sPar, sPar3, emE, emF, sKnow, sApp, sExt, eVar, eVarO, eC, eF, eOp, eOpF, eUn, eUnF, eB, eNotT, eAndT, eOrT, eAnd, eOr, eNot, eIf, eaNil, eaCons, eTup, eLst, eYes, eChain, eCall, eCallF, eCallP, eCallL, eCallW, eCallWF, eIsi, eIsi2, isiD, isi2D, eLc, eLcF, eSeq, eRng1, eEnum, eRgo, egName, egTup, egNil, egCons, wipeE, forg, List.map_cons, List.map_nil, List.cons_append, List.nil_append, List.append_nil, List.getElem?_cons_zero, List.getElem?_cons_succ, List.set_cons_zero, List.set_cons_succ, List.length_cons, List.length_nil, if_true, if_false, Nat.reduceAdd, Nat.reduceSub, Nat.reduceLeDiff, Bool.false_eq_true, List.replicate, true_and, and_true, Bool.not_true, Bool.not_false, Nat.zero_add, Nat.add_zero, Nat.sub_zero]
        show _ = [_, _, _, _, _, _, lastE (d ++ [(q, i)]), _, _]
        unfold lastE
        rw [List.getLast?_concat]
  · have e2 : (List.range p.length).any (mv p f b s) = true := by
      rw [List.any_eq_true] at h ⊢
      obtain ⟨⟨q, i⟩, hq, hm⟩ := h
      have := List.mem_zipIdx_iff_getElem?.mp hq
      have hsi : s[i]? = some q := by simpa using this
      exact ⟨i, List.mem_range.mpr (by rw [← hs]; exact (List.getElem?_eq_some_iff.mp hsi).1), hm⟩
    have : stk p f b s = false := by unfold stk; rw [e2]; simp
    rw [this] at hk
    exact hk
  · have e2 : (List.range p.length).any (mv p f b s) = false := by
      rw [List.any_eq_false] at h ⊢
      intro i hi
      have hi := List.mem_range.mp hi
      refine h (at2 s i, i) (List.mem_zipIdx_iff_getElem?.mpr ?_)
      have : i < s.length := by omega
      simp [at2, List.getD_eq_getElem?_getD, List.getElem?_eq_getElem this]
    have : stk p f b s = !decide (carts s = 0) := by unfold stk; rw [e2]; simp
    rw [this] at hk
    simp only [env0, env0L, knE, knF, sSeq, sAsg, sAsgF, sIf, sRet, sRetF, sRetM, sRetN, sDrop, sNext, sFor, sPar, sPar3, emE, emF, sKnow, sApp, sExt, eVar, eVarO, eC, eF, eOp, eOpF, eUn, eUnF, eB, eNotT, eAndT, eOrT, eAnd, eOr, eNot, eIf, eaNil, eaCons, eTup, eLst, eYes, eChain, eCall, eCallF, eCallP, eCallL, eCallW, eCallWF, eIsi, eIsi2, isiD, isi2D, eLc, eLcF, eSeq, eRng1, eEnum, eRgo, egName, egTup, egNil, egCons, wipeE, forg, List.map_cons, List.map_nil, List.cons_append, List.nil_append, List.append_nil, List.getElem?_cons_zero, List.getElem?_cons_succ, List.set_cons_zero, List.set_cons_succ, List.length_cons, List.length_nil, if_true, if_false, Nat.reduceAdd, Nat.reduceSub, Nat.reduceLeDiff, Bool.false_eq_true, List.replicate, true_and, and_true, Bool.not_true, Bool.not_false, Nat.zero_add, Nat.add_zero, Nat.sub_zero]
    refine ⟨by simp; omega, lc_map (g := fun q => .bl (!decide (q = (0, 0)))) (fun q _ kk hkk => ?_) ?_⟩
    · simp only [env0, env0L, knE, knF, sSeq, sAsg, sAsgF, sIf, sRet, sRetF, sRetM, sRetN, sDrop, sNext, sFor, sPar, sPar3, emE, emF, sKnow, sApp, sExt, eVar, eVarO, eC, eF, eOp, eOpF, eUn, eUnF, eB, eNotT, eAndT, eOrT, eAnd, eOr, eNot, eIf, eaNil, eaCons, eTup, eLst, eYes, eChain, eCall, eCallF, eCallP, eCallL, eCallW, eCallWF, eIsi, eIsi2, isiD, isi2D, eLc, eLcF, eSeq, eRng1, eEnum, eRgo, egName, egTup, egNil, egCons, wipeE, forg, List.map_cons, List.map_nil, List.cons_append, List.nil_append, List.append_nil, List.getElem?_cons_zero, List.getElem?_cons_succ, List.set_cons_zero, List.set_cons_succ, List.length_cons, List.length_nil, if_true, if_false, Nat.reduceAdd, Nat.reduceSub, Nat.reduceLeDiff, Bool.false_eq_true, List.replicate, true_and, and_true, Bool.not_true, Bool.not_false, Nat.zero_add, Nat.add_zero, Nat.sub_zero]
      exact (show neD (dPr q) (dPr (0, 0)) _ from ne_pr hkk)
    · have e3 : (s.map fun q => D.bl (!decide (q = (0, 0)))) = (s.map fun q => !decide (q = (0, 0))).map D.bl := by rw [List.map_map]; rfl
      rw [e3]
      refine any_lst ?_
      rw [List.any_map, show (id ∘ fun q : Nat × Nat => !decide (q = (0, 0))) = fun q => !decide (q = (0, 0)) from rfl, carts_any]
      exact hk
/-- a stand of the round -/
structure Sok (p f b : List Nat) (s : Std) : Prop where
  len : s.length = p.length
  one : ∀ i, i < p.length → (at2 s i).1 ≤ f.getD i 0 ∧ (at2 s i).2 ≤ b.getD i 0 ∧ (at2 s i).1 + (at2 s i).2 ≤ p.getD i 0
theorem seqSt (t : Bool) (s : Std) : seqD (dStT t s) = some (s.map dPr) := by cases t <;> rfl
theorem p_row_s {t : Bool} {s : Std} {k : DK} (hk : k (.bl true)) : d_is_row [dStT t s] k := by
  cases t with
  | true => exact p_row_t hk
  | false => exact p_row_l hk
theorem len_st {t : Bool} {s : Std} {k : DK} (hk : k (dN s.length)) : lenD (dStT t s) k := by
  cases t with
  | true => show k (.int ((s.map dPr).length : Int)); simpa using hk
  | false => show k (.int ((s.map dPr).length : Int)); simpa using hk
theorem all_true {α : Type} {l : List α} {k : DK} (hk : k (.bl true)) : allD (.lst (l.map fun _ => D.bl true)) k := by
  have e : l.map (fun _ => D.bl true) = (List.replicate l.length true).map D.bl := by rw [List.map_replicate, List.map_const']
  rw [e]
  refine all_lst ?_
  rw [show (List.replicate l.length true).all id = true by simp]
  exact hk
end K75

set_option Elab.async false
set_option linter.all false
set_option maxRecDepth 100000
set_option maxHeartbeats 4000000
/-! judged by the package -/
namespace K75
open PySem PySem.Spec PyProof.Rows L2 DL
theorem p_is_stand {t u : Bool} {p f b : List Nat} {s : Std} {k : DK} (o : Rok p f b) (hs : Sok p f b s) (hk : k (.bl true)) : d_is_round_stand [.lst (DL.dNs p), sq u f, .lst (DL.dNs b), dStT t s] k := by
  have h2 := o.p2
  have h1 := o.p1
  have hl := hs.len
  unfold d_is_round_stand e_is_round_stand
  simp only [env0, env0L, knE, knF, sSeq, sAsg, sAsgF, sIf, sRet, sRetF, sRetM, sRetN, sDrop, sNext, sFor, sPar, sPar3, emE, emF, sKnow, sApp, sExt, eVar, eVarO, eC, eF, eOp, eOpF, eUn, eUnF, eB, eNotT, eAndT, eOrT, eAnd, eOr, eNot, eIf, eaNil, eaCons, eTup, eLst, eYes, eChain, eCall, eCallF, eCallP, eCallL, eCallW, eCallWF, eIsi, eIsi2, isiD, isi2D, eLc, eLcF, eSeq, eRng1, eEnum, eRgo, egName, egTup, egNil, egCons, wipeE, forg, List.map_cons, List.map_nil, List.cons_append, List.nil_append, List.append_nil, List.getElem?_cons_zero, List.getElem?_cons_succ, List.set_cons_zero, List.set_cons_succ, List.length_cons, List.length_nil, if_true, if_false, Nat.reduceAdd, Nat.reduceSub, Nat.reduceLeDiff, Bool.false_eq_true, List.replicate, true_and, and_true, Bool.not_true, Bool.not_false, Nat.zero_add, Nat.add_zero, Nat.sub_zero]
  refine p_row_s ?_
  simp only [env0, env0L, knE, knF, sSeq, sAsg, sAsgF, sIf, sRet, sRetF, sRetM, sRetN, sDrop, sNext, sFor, sPar, sPar3, emE, emF, sKnow, sApp, sExt, eVar, eVarO, eC, eF, eOp, eOpF, eUn, eUnF, eB, eNotT, eAndT, eOrT, eAnd, eOr, eNot, eIf, eaNil, eaCons, eTup, eLst, eYes, eChain, eCall, eCallF, eCallP, eCallL, eCallW, eCallWF, eIsi, eIsi2, isiD, isi2D, eLc, eLcF, eSeq, eRng1, eEnum, eRgo, egName, egTup, egNil, egCons, wipeE, forg, List.map_cons, List.map_nil, List.cons_append, List.nil_append, List.append_nil, List.getElem?_cons_zero, List.getElem?_cons_succ, List.set_cons_zero, List.set_cons_succ, List.length_cons, List.length_nil, if_true, if_false, Nat.reduceAdd, Nat.reduceSub, Nat.reduceLeDiff, Bool.false_eq_true, List.replicate, true_and, and_true, Bool.not_true, Bool.not_false, Nat.zero_add, Nat.add_zero, Nat.sub_zero]
  refine len_st ?_
  refine (show lenD (sq false p) _ from len_sq ?_)
  refine DL.ne_int ?_
  rw [hl, show decide (((p.length : Nat) : Int) = ((p.length : Nat) : Int)) = true from decide_eq_true rfl]
  simp only [env0, env0L, knE, knF, sSeq, sAsg, sAsgF, sIf, sRet, sRetF, sRetM, sRetN, sDrop, sNext, sFor, sPar, sPar3, emE, emF, sKnow, sApp, sExt, eVar, eVarO, eC, eF, eOp, eOpF, eUn, eUnF, eB, eNotT, eAndT, eOrT, eAnd, eOr, eNot, eIf, eaNil, eaCons, eTup, eLst, eYes, eChain, eCall, eCallF, eCallP, eCallL, eCallW, eCallWF, eIsi, eIsi2, isiD, isi2D, eLc, eLcF, eSeq, eRng1, eEnum, eRgo, egName, egTup, egNil, egCons, wipeE, forg, List.map_cons, List.map_nil, List.cons_append, List.nil_append, List.append_nil, List.getElem?_cons_zero, List.getElem?_cons_succ, List.set_cons_zero, List.set_cons_succ, List.length_cons, List.length_nil, if_true, if_false, Nat.reduceAdd, Nat.reduceSub, Nat.reduceLeDiff, Bool.false_eq_true, List.replicate, true_and, and_true, Bool.not_true, Bool.not_false, Nat.zero_add, Nat.add_zero, Nat.sub_zero]
  cases t
  all_goals
    refine And.intro (by simp; omega) (lc_map (g := fun _ => .bl true) (fun q _ kk hkk => ?_) (all_true ?_))
    · simp only [env0, env0L, knE, knF, sSeq, sAsg, sAsgF, sIf, sRet, sRetF, sRetM, sRetN, sDrop, sNext, sFor, sPar, sPar3, emE, emF, sKnow, sApp, sExt, eVar, eVarO, eC, eF, eOp, eOpF, eUn, eUnF, eB, eNotT, eAndT, eOrT, eAnd, eOr, eNot, eIf, eaNil, eaCons, eTup, eLst, eYes, eChain, eCall, eCallF, eCallP, eCallL, eCallW, eCallWF, eIsi, eIsi2, isiD, isi2D, eLc, eLcF, eSeq, eRng1, eEnum, eRgo, egName, egTup, egNil, egCons, wipeE, forg, List.map_cons, List.map_nil, List.cons_append, List.nil_append, List.append_nil, List.getElem?_cons_zero, List.getElem?_cons_succ, List.set_cons_zero, List.set_cons_succ, List.length_cons, List.length_nil, if_true, if_false, Nat.reduceAdd, Nat.reduceSub, Nat.reduceLeDiff, Bool.false_eq_true, List.replicate, true_and, and_true, Bool.not_true, Bool.not_false, Nat.zero_add, Nat.add_zero, Nat.sub_zero]
      exact p_pair hkk
    · simp only [env0, env0L, knE, knF, sSeq, sAsg, sAsgF, sIf, sRet, sRetF, sRetM, sRetN, sDrop, sNext, sFor, sPar, sPar3, emE, emF, sKnow, sApp, sExt, eVar, eVarO, eC, eF, eOp, eOpF, eUn, eUnF, eB, eNotT, eAndT, eOrT, eAnd, eOr, eNot, eIf, eaNil, eaCons, eTup, eLst, eYes, eChain, eCall, eCallF, eCallP, eCallL, eCallW, eCallWF, eIsi, eIsi2, isiD, isi2D, eLc, eLcF, eSeq, eRng1, eEnum, eRgo, egName, egTup, egNil, egCons, wipeE, forg, List.map_cons, List.map_nil, List.cons_append, List.nil_append, List.append_nil, List.getElem?_cons_zero, List.getElem?_cons_succ, List.set_cons_zero, List.set_cons_succ, List.length_cons, List.length_nil, if_true, if_false, Nat.reduceAdd, Nat.reduceSub, Nat.reduceLeDiff, Bool.false_eq_true, List.replicate, true_and, and_true, Bool.not_true, Bool.not_false, Nat.zero_add, Nat.add_zero, Nat.sub_zero]
      refine (show lenD (sq false p) _ from len_sq ?_)
      refine ⟨by omega, by omega, ?_⟩
      rw [rg_map]
      refine ⟨by simp; omega, ?_⟩
      refine lc_map (g := fun _ => .bl true) (fun i hi kk hkk => ?_) (all_true hk)
      have hi := List.mem_range.mp hi
      obtain ⟨q1, q2, q3⟩ := hs.one i hi
      simp only [env0, env0L, knE, knF, sSeq, sAsg, sAsgF, sIf, sRet, sRetF, sRetM, sRetN, sDrop, sNext, sFor, sPar, sPar3, emE, emF, sKnow, sApp, sExt, eVar, eVarO, eC, eF, eOp, eOpF, eUn, eUnF, eB, eNotT, eAndT, eOrT, eAnd, eOr, eNot, eIf, eaNil, eaCons, eTup, eLst, eYes, eChain, eCall, eCallF, eCallP, eCallL, eCallW, eCallWF, eIsi, eIsi2, isiD, isi2D, eLc, eLcF, eSeq, eRng1, eEnum, eRgo, egName, egTup, egNil, egCons, wipeE, forg, List.map_cons, List.map_nil, List.cons_append, List.nil_append, List.append_nil, List.getElem?_cons_zero, List.getElem?_cons_succ, List.set_cons_zero, List.set_cons_succ, List.length_cons, List.length_nil, if_true, if_false, Nat.reduceAdd, Nat.reduceSub, Nat.reduceLeDiff, Bool.false_eq_true, List.replicate, true_and, and_true, Bool.not_true, Bool.not_false, Nat.zero_add, Nat.add_zero, Nat.sub_zero]
      refine ix_st (by omega) ?_
      refine fst_pr ?_
      refine ix_sqD (by rw [o.fl]; exact hi) ?_
      refine le_N q1 ?_
      simp only [env0, env0L, knE, knF, sSeq, sAsg, sAsgF, sIf, sRet, sRetF, sRetM, sRetN, sDrop, sNext, sFor, sPar, sPar3, emE, emF, sKnow, sApp, sExt, eVar, eVarO, eC, eF, eOp, eOpF, eUn, eUnF, eB, eNotT, eAndT, eOrT, eAnd, eOr, eNot, eIf, eaNil, eaCons, eTup, eLst, eYes, eChain, eCall, eCallF, eCallP, eCallL, eCallW, eCallWF, eIsi, eIsi2, isiD, isi2D, eLc, eLcF, eSeq, eRng1, eEnum, eRgo, egName, egTup, egNil, egCons, wipeE, forg, List.map_cons, List.map_nil, List.cons_append, List.nil_append, List.append_nil, List.getElem?_cons_zero, List.getElem?_cons_succ, List.set_cons_zero, List.set_cons_succ, List.length_cons, List.length_nil, if_true, if_false, Nat.reduceAdd, Nat.reduceSub, Nat.reduceLeDiff, Bool.false_eq_true, List.replicate, true_and, and_true, Bool.not_true, Bool.not_false, Nat.zero_add, Nat.add_zero, Nat.sub_zero]
      refine ix_st (by omega) ?_
      refine snd_pr ?_
      refine (show ixD (sq false b) _ _ from ix_sqD (by rw [o.bl]; exact hi) ?_)
      refine le_N q2 ?_
      simp only [env0, env0L, knE, knF, sSeq, sAsg, sAsgF, sIf, sRet, sRetF, sRetM, sRetN, sDrop, sNext, sFor, sPar, sPar3, emE, emF, sKnow, sApp, sExt, eVar, eVarO, eC, eF, eOp, eOpF, eUn, eUnF, eB, eNotT, eAndT, eOrT, eAnd, eOr, eNot, eIf, eaNil, eaCons, eTup, eLst, eYes, eChain, eCall, eCallF, eCallP, eCallL, eCallW, eCallWF, eIsi, eIsi2, isiD, isi2D, eLc, eLcF, eSeq, eRng1, eEnum, eRgo, egName, egTup, egNil, egCons, wipeE, forg, List.map_cons, List.map_nil, List.cons_append, List.nil_append, List.append_nil, List.getElem?_cons_zero, List.getElem?_cons_succ, List.set_cons_zero, List.set_cons_succ, List.length_cons, List.length_nil, if_true, if_false, Nat.reduceAdd, Nat.reduceSub, Nat.reduceLeDiff, Bool.false_eq_true, List.replicate, true_and, and_true, Bool.not_true, Bool.not_false, Nat.zero_add, Nat.add_zero, Nat.sub_zero]
      refine ix_st (by omega) ?_
      refine sum_pr ?_
      refine (show ixD (sq false p) _ _ from ix_sqD hi ?_)
      exact le_N q3 hkk
theorem p_judge {t u : Bool} {p f b : List Nat} {s : Std} {k : DK} (o : Rok p f b) (hs : Sok p f b s) (hk : k (.bl (stk p f b s))) : d_is_round_stuck [.lst (DL.dNs p), sq u f, .lst (DL.dNs b), dStT t s] k := by
  exact And.intro rfl (p_check o (And.intro rfl (p_is_stand o hs (And.intro rfl (p_is_stuck o hs.len hk)))))
end K75

set_option Elab.async false
set_option linter.all false
set_option maxRecDepth 100000
set_option maxHeartbeats 4000000
/-! all stands, as the law lists them -/
namespace K75
open PySem PySem.Spec PyProof.Rows L2 DL
def longer (found : List Std) (some : Std) : List Std := found.flatMap fun st => some.map fun one => st ++ [one]
theorem longer_len (some : Std) : ∀ found : List Std, (longer found some).length = found.length * some.length
  | [] => by simp [longer]
  | x :: xs => by
    have := longer_len some xs
    unfold longer at this ⊢
    rw [List.flatMap_cons, List.length_append, this, List.length_map, List.length_cons, Nat.succ_mul]
    omega
theorem p_longer {found : List Std} {some : Std} {k : List D → Prop} (hb : found.length * some.length ≤ 100000) (hs : some.length ≤ 100000) (hf : ∀ st ∈ found, st.length ≤ 99999) (hk : k ((longer found some).map dSt)) : d_l_longer [.lst (found.map dSt), .lst (some.map dPr)] k := by
  unfold d_l_longer e_l_longer
  refine And.intro (by simp) ?_
  show forGo (egName 3) _ _ (found.map dSt) _ _
  refine for_det (E := fun d => [SV.val (.lst (found.map dSt)), SV.val (.lst (some.map dPr)), SV.ml ((longer d some).map dSt), SV.un, SV.un]) (done := []) (fun d a K' hn ⟨u, hu⟩ => ?_) ?_
  · have hu : d ++ a :: u = found := hu
    have ha : a ∈ found := by rw [← hu]; simp
    have hl : d.length + 1 ≤ found.length := by rw [← hu]; simp
    have hl2 : (d.length + 1) * some.length ≤ found.length * some.length := Nat.mul_le_mul_right _ hl
    rw [Nat.succ_mul] at hl2
    simp only [env0, env0L, knE, knF, sSeq, sAsg, sAsgF, sIf, sRet, sRetF, sRetM, sRetN, sDrop, sNext, sFor, sPar, sPar3, emE, emF, sKnow, sApp, sExt, eVar, eVarO, eC, eF, eOp, eOpF, eUn, eUnF, eB, eAnd, eOr, eNot, eIf, eaNil, eaCons, eTup, eLst, eYes, eChain, eCall, eCallF, eCallP, eCallL, eCallW, eCallWF, eIsi, eIsi2, isiD, isi2D, eLc, eLcF, eSeq, eRng1, eEnum, eRgo, egName, egTup, egNil, egCons, wipeE, forg, List.map_cons, List.map_nil, List.cons_append, List.nil_append, List.append_nil, List.getElem?_cons_zero, List.getElem?_cons_succ, List.set_cons_zero, List.set_cons_succ, List.length_cons, List.length_nil, if_true, if_false, Nat.reduceAdd, Nat.reduceSub, Nat.reduceLeDiff, Bool.false_eq_true, List.replicate, true_and, and_true, Bool.not_true, Bool.not_false, Nat.zero_add, Nat.add_zero, Nat.sub_zero]
    refine ⟨by simp; omega, lc_map (g := fun one => dSt (a ++ [one])) (fun one _ kk hkk => ?_) ?_⟩
    · simp only [env0, env0L, knE, knF, sSeq, sAsg, sAsgF, sIf, sRet, sRetF, sRetM, sRetN, sDrop, sNext, sFor, sPar, sPar3, emE, emF, sKnow, sApp, sExt, eVar, eVarO, eC, eF, eOp, eOpF, eUn, eUnF, eB, eAnd, eOr, eNot, eIf, eaNil, eaCons, eTup, eLst, eYes, eChain, eCall, eCallF, eCallP, eCallL, eCallW, eCallWF, eIsi, eIsi2, isiD, isi2D, eLc, eLcF, eSeq, eRng1, eEnum, eRgo, egName, egTup, egNil, egCons, wipeE, forg, List.map_cons, List.map_nil, List.cons_append, List.nil_append, List.append_nil, List.getElem?_cons_zero, List.getElem?_cons_succ, List.set_cons_zero, List.set_cons_succ, List.length_cons, List.length_nil, if_true, if_false, Nat.reduceAdd, Nat.reduceSub, Nat.reduceLeDiff, Bool.false_eq_true, List.replicate, true_and, and_true, Bool.not_true, Bool.not_false, Nat.zero_add, Nat.add_zero, Nat.sub_zero]
      have := hf a ha
      refine And.intro (by simp; omega) ?_
      unfold dSt at hkk
      rw [List.map_append] at hkk
      exact hkk
    · refine ⟨by rw [List.length_map, longer_len, List.length_map]; omega, hn _ ?_⟩
      simp only [env0, env0L, knE, knF, sSeq, sAsg, sAsgF, sIf, sRet, sRetF, sRetM, sRetN, sDrop, sNext, sFor, sPar, sPar3, emE, emF, sKnow, sApp, sExt, eVar, eVarO, eC, eF, eOp, eOpF, eUn, eUnF, eB, eAnd, eOr, eNot, eIf, eaNil, eaCons, eTup, eLst, eYes, eChain, eCall, eCallF, eCallP, eCallL, eCallW, eCallWF, eIsi, eIsi2, isiD, isi2D, eLc, eLcF, eSeq, eRng1, eEnum, eRgo, egName, egTup, egNil, egCons, wipeE, forg, List.map_cons, List.map_nil, List.cons_append, List.nil_append, List.append_nil, List.getElem?_cons_zero, List.getElem?_cons_succ, List.set_cons_zero, List.set_cons_succ, List.length_cons, List.length_nil, if_true, if_false, Nat.reduceAdd, Nat.reduceSub, Nat.reduceLeDiff, Bool.false_eq_true, List.replicate, true_and, and_true, Bool.not_true, Bool.not_false, Nat.zero_add, Nat.add_zero, Nat.sub_zero]
      have e : longer (d ++ [a]) some = longer d some ++ some.map fun one => a ++ [one] := by
        unfold longer
        rw [List.flatMap_append]
        simp
      rw [e, List.map_append, List.map_map]
      rfl
  · exact hk
end K75

set_option Elab.async false
set_option linter.all false
set_option maxRecDepth 100000
set_option maxHeartbeats 4000000
/-! all stands, as the law lists them -/
namespace K75
open PySem PySem.Spec PyProof.Rows L2 DL
def opt1 (x y on : Nat) : Std := (List.range (min y (x - on) + 1)).map fun back => (on, back)
def opts (p f b : List Nat) (i : Nat) : Std := (List.range (f.getD i 0 + 1)).flatMap (opt1 (p.getD i 0) (b.getD i 0))
def stage (p f b : List Nat) (d : List Nat) : List Std := d.foldl (fun found i => longer found (opts p f b i)) [[]]
def allS (p f b : List Nat) : List Std := stage p f b (List.range p.length)
theorem opt1_len {x y on : Nat} : (opt1 x y on).length ≤ y + 1 := by unfold opt1; simp; omega
theorem flat_len {x y : Nat} : ∀ d : List Nat, (d.flatMap (opt1 x y)).length ≤ d.length * (y + 1)
  | [] => by simp
  | a :: d => by
    have := flat_len (x := x) (y := y) d
    have h := opt1_len (x := x) (y := y) (on := a)
    rw [List.flatMap_cons, List.length_append, List.length_cons, Nat.succ_mul]
    omega
theorem min_N {a c : Nat} {k : DK} (hk : k (dN (min a c))) : min2D (dN a) (dN c) k := by
  show k (.int (if (c : Int) < (a : Int) then (c : Int) else (a : Int)))
  rw [show (if (c : Int) < (a : Int) then (c : Int) else (a : Int)) = ((min a c : Nat) : Int) by split <;> omega]
  exact hk
theorem sub_N {a c : Nat} {k : DK} (h : c ≤ a) (hk : k (dN (a - c))) : subD (dN a) (dN c) k := by
  show k (.int ((a : Int) - (c : Int)))
  rw [show (a : Int) - (c : Int) = ((a - c : Nat) : Int) by omega]
  exact hk
theorem stage_len {p f b : List Nat} : ∀ (d : List Nat), ∀ st ∈ stage p f b d, st.length = d.length := by
  have go : ∀ (d : List Nat) (n : Nat) (fo : List Std), (∀ st ∈ fo, st.length = n) → ∀ st ∈ d.foldl (fun found i => longer found (opts p f b i)) fo, st.length = n + d.length := by
    intro d
    induction d with
    | nil => intro n fo h st hst; exact h st hst
    | cons a d ih =>
      intro n fo h st hst
      rw [List.foldl_cons] at hst
      have := ih (n + 1) _ (fun st hst => by
        unfold longer at hst
        obtain ⟨x, hx, hst⟩ := List.mem_flatMap.mp hst
        obtain ⟨y, _, e⟩ := List.mem_map.mp hst
        rw [← e, List.length_append, h x hx]; rfl) st hst
      rw [this, List.length_cons]; omega
  intro d st hst
  have := go d 0 [[]] (fun st h => by rw [List.mem_singleton.mp h]; rfl) st hst
  omega
theorem p_all {p f b : List Nat} {k : DK} (o : Rok p f b) (hb : ∀ d u, d ++ u = List.range p.length → (stage p f b d).length ≤ 100000) (hk : k (.lst ((allS p f b).map dSt))) : d_l_all [.lst (DL.dNs p), .lst (DL.dNs f), .lst (DL.dNs b)] k := by
  have h2 := o.p2
  have h1 := o.p1
  unfold d_l_all e_l_all
  simp only [env0, env0L, knE, knF, sSeq, sAsg, sAsgF, sIf, sRet, sRetF, sRetM, sRetN, sDrop, sNext, sFor, sPar, sPar3, emE, emF, sKnow, sApp, sExt, eVar, eVarO, eC, eF, eOp, eOpF, eUn, eUnF, eB, eNotT, eAndT, eOrT, eAnd, eOr, eNot, eIf, eaNil, eaCons, eTup, eLst, eYes, eChain, eCall, eCallF, eCallP, eCallL, eCallW, eCallWF, eIsi, eIsi2, isiD, isi2D, eLc, eLcF, eSeq, eRng1, eEnum, eRgo, egName, egTup, egNil, egCons, wipeE, forg, List.map_cons, List.map_nil, List.cons_append, List.nil_append, List.append_nil, List.getElem?_cons_zero, List.getElem?_cons_succ, List.set_cons_zero, List.set_cons_succ, List.length_cons, List.length_nil, if_true, if_false, Nat.reduceAdd, Nat.reduceSub, Nat.reduceLeDiff, Bool.false_eq_true, List.replicate, true_and, and_true, Bool.not_true, Bool.not_false, Nat.zero_add, Nat.add_zero, Nat.sub_zero]
  refine (show lenD (sq false p) _ from len_sq ?_)
  refine And.intro (by omega) (And.intro (by omega) ?_)
  rw [rg_map]
  refine for_det (E := fun d => [SV.val (.lst (DL.dNs p)), SV.val (.lst (DL.dNs f)), SV.val (.lst (DL.dNs b)), SV.val (.lst ((stage p f b d).map dSt)), SV.un, SV.un, SV.un, SV.un]) (done := []) (fun d i K' hn ⟨u, hu⟩ => ?_) ?_
  · have hu : d ++ i :: u = List.range p.length := hu
    have hi : i < p.length := List.mem_range.mp (by rw [← hu]; simp)
    have hfi : i < f.length := by rw [o.fl]; exact hi
    have hbi : i < b.length := by rw [o.bl]; exact hi
    have ef : f[i]? = some (f.getD i 0) := by rw [List.getD_eq_getElem?_getD, List.getElem?_eq_getElem hfi]; rfl
    have eb : b[i]? = some (b.getD i 0) := by rw [List.getD_eq_getElem?_getD, List.getElem?_eq_getElem hbi]; rfl
    have ep : p[i]? = some (p.getD i 0) := by rw [List.getD_eq_getElem?_getD, List.getElem?_eq_getElem hi]; rfl
    have qf := o.fb i _ _ ef ep
    have qb := o.bb i _ _ eb ep
    have qp := o.pp _ (List.mem_of_getElem? ep)
    simp only [env0, env0L, knE, knF, sSeq, sAsg, sAsgF, sIf, sRet, sRetF, sRetM, sRetN, sDrop, sNext, sFor, sPar, sPar3, emE, emF, sKnow, sApp, sExt, eVar, eVarO, eC, eF, eOp, eOpF, eUn, eUnF, eB, eAnd, eOr, eNot, eIf, eaNil, eaCons, eTup, eLst, eYes, eChain, eCall, eCallF, eCallP, eCallL, eCallW, eCallWF, eIsi, eIsi2, isiD, isi2D, eLc, eLcF, eSeq, eRng1, eEnum, eRgo, egName, egTup, egNil, egCons, wipeE, forg, List.map_cons, List.map_nil, List.cons_append, List.nil_append, List.append_nil, List.getElem?_cons_zero, List.getElem?_cons_succ, List.set_cons_zero, List.set_cons_succ, List.length_cons, List.length_nil, if_true, if_false, Nat.reduceAdd, Nat.reduceSub, Nat.reduceLeDiff, Bool.false_eq_true, List.replicate, true_and, and_true, Bool.not_true, Bool.not_false, Nat.zero_add, Nat.add_zero, Nat.sub_zero]
    refine (show ixD (sq false f) (dN i) _ from ix_sqD hfi ?_)
    refine (show addU (dN (f.getD i 0)) (dN 1) _ from add_N ?_)
    refine And.intro (by omega) (And.intro (by omega) ?_)
    rw [rg_map]
    refine for_det (E := fun e => [SV.val (.lst (DL.dNs p)), SV.val (.lst (DL.dNs f)), SV.val (.lst (DL.dNs b)), SV.val (.lst ((stage p f b d).map dSt)), SV.val (dN i), SV.ml ((e.flatMap (opt1 (p.getD i 0) (b.getD i 0))).map dPr), SV.un, SV.un]) (done := []) (fun e on K2 hn2 ⟨u2, hu2⟩ => ?_) ?_
    · have hu2 : e ++ on :: u2 = List.range (f.getD i 0 + 1) := hu2
      have hon : on < f.getD i 0 + 1 := List.mem_range.mp (by rw [← hu2]; simp)
      have hel : e.length ≤ 7 := by
        have := congrArg List.length hu2
        simp only [List.length_append, List.length_cons, List.length_range] at this
        omega
      simp only [env0, env0L, knE, knF, sSeq, sAsg, sAsgF, sIf, sRet, sRetF, sRetM, sRetN, sDrop, sNext, sFor, sPar, sPar3, emE, emF, sKnow, sApp, sExt, eVar, eVarO, eC, eF, eOp, eOpF, eUn, eUnF, eB, eAnd, eOr, eNot, eIf, eaNil, eaCons, eTup, eLst, eYes, eChain, eCall, eCallF, eCallP, eCallL, eCallW, eCallWF, eIsi, eIsi2, isiD, isi2D, eLc, eLcF, eSeq, eRng1, eEnum, eRgo, egName, egTup, egNil, egCons, wipeE, forg, List.map_cons, List.map_nil, List.cons_append, List.nil_append, List.append_nil, List.getElem?_cons_zero, List.getElem?_cons_succ, List.set_cons_zero, List.set_cons_succ, List.length_cons, List.length_nil, if_true, if_false, Nat.reduceAdd, Nat.reduceSub, Nat.reduceLeDiff, Bool.false_eq_true, List.replicate, true_and, and_true, Bool.not_true, Bool.not_false, Nat.zero_add, Nat.add_zero, Nat.sub_zero]
      refine (show ixD (sq false b) (dN i) _ from ix_sqD hbi ?_)
      refine (show ixD (sq false p) (dN i) _ from ix_sqD hi ?_)
      refine sub_N (by omega) ?_
      refine min_N ?_
      refine (show addU (dN _) (dN 1) _ from add_N ?_)
      refine And.intro (by omega) (And.intro (by omega) ?_)
      rw [rg_map]
      refine And.intro (by rw [List.length_map, List.length_range]; omega) ?_
      refine lc_map (g := fun back => dPr (on, back)) (fun back _ kk hkk => ?_) ?_
      · simp only [env0, env0L, knE, knF, sSeq, sAsg, sAsgF, sIf, sRet, sRetF, sRetM, sRetN, sDrop, sNext, sFor, sPar, sPar3, emE, emF, sKnow, sApp, sExt, eVar, eVarO, eC, eF, eOp, eOpF, eUn, eUnF, eB, eAnd, eOr, eNot, eIf, eaNil, eaCons, eTup, eLst, eYes, eChain, eCall, eCallF, eCallP, eCallL, eCallW, eCallWF, eIsi, eIsi2, isiD, isi2D, eLc, eLcF, eSeq, eRng1, eEnum, eRgo, egName, egTup, egNil, egCons, wipeE, forg, List.map_cons, List.map_nil, List.cons_append, List.nil_append, List.append_nil, List.getElem?_cons_zero, List.getElem?_cons_succ, List.set_cons_zero, List.set_cons_succ, List.length_cons, List.length_nil, if_true, if_false, Nat.reduceAdd, Nat.reduceSub, Nat.reduceLeDiff, Bool.false_eq_true, List.replicate, true_and, and_true, Bool.not_true, Bool.not_false, Nat.zero_add, Nat.add_zero, Nat.sub_zero]
        exact hkk
      · have hlen := flat_len (x := p.getD i 0) (y := b.getD i 0) e
        have : e.length * (b.getD i 0 + 1) ≤ 7 * 7 := Nat.mul_le_mul hel (by omega)
        refine And.intro (by rw [List.length_map, List.length_map, List.length_range]; omega) (hn2 _ ?_)
        show [_, _, _, _, _, SV.ml _, _, _] = [_, _, _, _, _, SV.ml _, _, _]
        have e3 : ((e ++ [on]).flatMap (opt1 (p.getD i 0) (b.getD i 0))).map dPr = (e.flatMap (opt1 (p.getD i 0) (b.getD i 0))).map dPr ++ (List.range (min (b.getD i 0) (p.getD i 0 - on) + 1)).map fun back => dPr (on, back) := by
          rw [List.flatMap_append, List.map_append]
          congr 1
          simp [opt1]
        rw [e3]
    · simp only [env0, env0L, knE, knF, sSeq, sAsg, sAsgF, sIf, sRet, sRetF, sRetM, sRetN, sDrop, sNext, sFor, sPar, sPar3, emE, emF, sKnow, sApp, sExt, eVar, eVarO, eC, eF, eOp, eOpF, eUn, eUnF, eB, eAnd, eOr, eNot, eIf, eaNil, eaCons, eTup, eLst, eYes, eChain, eCall, eCallF, eCallP, eCallL, eCallW, eCallWF, eIsi, eIsi2, isiD, isi2D, eLc, eLcF, eSeq, eRng1, eEnum, eRgo, egName, egTup, egNil, egCons, wipeE, forg, List.map_cons, List.map_nil, List.cons_append, List.nil_append, List.append_nil, List.getElem?_cons_zero, List.getElem?_cons_succ, List.set_cons_zero, List.set_cons_succ, List.length_cons, List.length_nil, if_true, if_false, Nat.reduceAdd, Nat.reduceSub, Nat.reduceLeDiff, Bool.false_eq_true, List.replicate, true_and, and_true, Bool.not_true, Bool.not_false, Nat.zero_add, Nat.add_zero, Nat.sub_zero]
      have hlo : (opts p f b i).length ≤ 49 := by
        have := flat_len (x := p.getD i 0) (y := b.getD i 0) (List.range (f.getD i 0 + 1))
        rw [List.length_range] at this
        have h3 : (f.getD i 0 + 1) * (b.getD i 0 + 1) ≤ 7 * 7 := Nat.mul_le_mul (by omega) (by omega)
        unfold opts; omega
      have hnext := hb (d ++ [i]) u (by rw [← hu]; simp)
      have hst : stage p f b (d ++ [i]) = longer (stage p f b d) (opts p f b i) := by unfold stage; rw [List.foldl_append]; rfl
      rw [hst, longer_len] at hnext
      have hdl : d.length ≤ 7 := by
        have := congrArg List.length hu
        simp only [List.length_append, List.length_cons, List.length_range] at this
        omega
      refine (show d_l_longer [.lst ((stage p f b d).map dSt), .lst ((opts p f b i).map dPr)] _ from p_longer hnext (by omega) (fun st hm => by rw [stage_len d st hm]; omega) ?_)
      refine hn _ ?_
      rw [hst]
      rfl
  · exact hk
end K75

set_option Elab.async false
set_option linter.all false
set_option maxRecDepth 100000
set_option maxHeartbeats 4000000
/-! the pairs of a round -/
namespace K75
open PySem PySem.Spec PyProof.Rows L2 DL
theorem lc2_map {α : Type} {c : α → D} {G : α → List D} {f : D → (List D → Prop) → Prop} : ∀ {xs : List α} {k : List D → Prop}, (∀ a ∈ xs, ∀ kk : List D → Prop, kk (G a) → f (c a) kk) → k (xs.flatMap G) → lcGo2 f (xs.map c) k
  | [], k, _, hk => hk
  | x :: xs, k, h, hk => h x (List.mem_cons_self ..) _ (lc2_map (xs := xs) (fun a ha => h a (List.mem_cons_of_mem _ ha)) (by rw [List.flatMap_cons] at hk; exact hk))
def okPr (p f b : List Nat) (i j : Nat) : Bool := !decide (i = j) && (decide (f.getD i 0 = p.getD i 0) && decide (b.getD j 0 = p.getD j 0))
def pairs (p f b : List Nat) : List (Nat × Nat) := (List.range p.length).flatMap fun i => ((List.range p.length).filter (okPr p f b i)).map fun j => (i, j)
theorem eq_N {a c : Nat} {k : DK} (hk : k (.bl (decide (a = c)))) : eqD (dN a) (dN c) k := by
  refine DL.eq_int ?_
  rw [show decide ((a : Int) = (c : Int)) = decide (a = c) from decide_eq_decide.mpr (by omega)]
  exact hk
theorem ne_N {a c : Nat} {k : DK} (hk : k (.bl (!decide (a = c)))) : neD (dN a) (dN c) k := by
  refine DL.ne_int ?_
  rw [show decide ((a : Int) = (c : Int)) = decide (a = c) from decide_eq_decide.mpr (by omega)]
  exact hk
theorem p_pairs {u : Bool} {p f b : List Nat} {k : List D → Prop} (o : Rok p f b) (hk : k ((pairs p f b).map dPr)) : d_round_pairs [.lst (DL.dNs p), sq u f, .lst (DL.dNs b)] k := by
  have h2 := o.p2
  have h1 := o.p1
  unfold d_round_pairs e_round_pairs
  simp only [env0, env0L, knE, knF, sSeq, sAsg, sAsgF, sIf, sRet, sRetF, sRetM, sRetN, sDrop, sNext, sFor, sPar, sPar3, emE, emF, sKnow, sApp, sExt, eVar, eVarO, eC, eF, eOp, eOpF, eUn, eUnF, eB, eNotT, eAndT, eOrT, eAnd, eOr, eNot, eIf, eaNil, eaCons, eTup, eLst, eYes, eChain, eCall, eCallF, eCallP, eCallL, eCallW, eCallWF, eIsi, eIsi2, isiD, isi2D, eLc, eLcF, eSeq, eRng1, eEnum, eRgo, egName, egTup, egNil, egCons, wipeE, forg, List.map_cons, List.map_nil, List.cons_append, List.nil_append, List.append_nil, List.getElem?_cons_zero, List.getElem?_cons_succ, List.set_cons_zero, List.set_cons_succ, List.length_cons, List.length_nil, if_true, if_false, Nat.reduceAdd, Nat.reduceSub, Nat.reduceLeDiff, Bool.false_eq_true, List.replicate, true_and, and_true, Bool.not_true, Bool.not_false, Nat.zero_add, Nat.add_zero, Nat.sub_zero]
  refine (show lenD (sq false p) _ from len_sq ?_)
  refine And.intro (by omega) ?_
  unfold eLc2
  simp only [env0, env0L, knE, knF, sSeq, sAsg, sAsgF, sIf, sRet, sRetF, sRetM, sRetN, sDrop, sNext, sFor, sPar, sPar3, emE, emF, sKnow, sApp, sExt, eVar, eVarO, eC, eF, eOp, eOpF, eUn, eUnF, eB, eNotT, eAndT, eOrT, eAnd, eOr, eNot, eIf, eaNil, eaCons, eTup, eLst, eYes, eChain, eCall, eCallF, eCallP, eCallL, eCallW, eCallWF, eIsi, eIsi2, isiD, isi2D, eLc, eLcF, eSeq, eRng1, eEnum, eRgo, egName, egTup, egNil, egCons, wipeE, forg, List.map_cons, List.map_nil, List.cons_append, List.nil_append, List.append_nil, List.getElem?_cons_zero, List.getElem?_cons_succ, List.set_cons_zero, List.set_cons_succ, List.length_cons, List.length_nil, if_true, if_false, Nat.reduceAdd, Nat.reduceSub, Nat.reduceLeDiff, Bool.false_eq_true, List.replicate, true_and, and_true, Bool.not_true, Bool.not_false, Nat.zero_add, Nat.add_zero, Nat.sub_zero]
  rw [show ((p.length : Nat) : Int).toNat = p.length from Int.toNat_natCast _]
  refine And.intro (by omega) ?_
  rw [rg_map]
  refine And.intro (by simp; omega) ?_
  refine lc2_map (G := fun i => ((List.range p.length).filter (okPr p f b i)).map fun j => dPr (i, j)) (fun i hi kk hkk => ?_) ?_
  · have hi := List.mem_range.mp hi
    unfold eLc2F
    simp only [env0, env0L, knE, knF, sSeq, sAsg, sAsgF, sIf, sRet, sRetF, sRetM, sRetN, sDrop, sNext, sFor, sPar, sPar3, emE, emF, sKnow, sApp, sExt, eVar, eVarO, eC, eF, eOp, eOpF, eUn, eUnF, eB, eAnd, eOr, eNot, eIf, eaNil, eaCons, eTup, eLst, eYes, eChain, eCall, eCallF, eCallP, eCallL, eCallW, eCallWF, eIsi, eIsi2, isiD, isi2D, eLc, eLcF, eSeq, eRng1, eEnum, eRgo, egName, egTup, egNil, egCons, wipeE, forg, List.map_cons, List.map_nil, List.cons_append, List.nil_append, List.append_nil, List.getElem?_cons_zero, List.getElem?_cons_succ, List.set_cons_zero, List.set_cons_succ, List.length_cons, List.length_nil, if_true, if_false, Nat.reduceAdd, Nat.reduceSub, Nat.reduceLeDiff, Bool.false_eq_true, List.replicate, true_and, and_true, Bool.not_true, Bool.not_false, Nat.zero_add, Nat.add_zero, Nat.sub_zero]
    refine And.intro (by omega) ?_
    rw [rg_map]
    refine And.intro (by simp; omega) ?_
    refine lc_filter (p := okPr p f b i) (g := fun j => dPr (i, j)) (fun j hj k3 hk3 => ?_) hkk
    have hj := List.mem_range.mp hj
    simp only [env0, env0L, knE, knF, sSeq, sAsg, sAsgF, sIf, sRet, sRetF, sRetM, sRetN, sDrop, sNext, sFor, sPar, sPar3, emE, emF, sKnow, sApp, sExt, eVar, eVarO, eC, eF, eOp, eOpF, eUn, eUnF, eB, eAnd, eOr, eNot, eIf, eaNil, eaCons, eTup, eLst, eYes, eChain, eCall, eCallF, eCallP, eCallL, eCallW, eCallWF, eIsi, eIsi2, isiD, isi2D, eLc, eLcF, eSeq, eRng1, eEnum, eRgo, egName, egTup, egNil, egCons, wipeE, forg, List.map_cons, List.map_nil, List.cons_append, List.nil_append, List.append_nil, List.getElem?_cons_zero, List.getElem?_cons_succ, List.set_cons_zero, List.set_cons_succ, List.length_cons, List.length_nil, if_true, if_false, Nat.reduceAdd, Nat.reduceSub, Nat.reduceLeDiff, Bool.false_eq_true, List.replicate, true_and, and_true, Bool.not_true, Bool.not_false, Nat.zero_add, Nat.add_zero, Nat.sub_zero]
    refine t_and (x := !decide (i = j)) (y := decide (f.getD i 0 = p.getD i 0) && decide (b.getD j 0 = p.getD j 0)) (fun kk h => ?_) (fun kk h => t_and (x := decide (f.getD i 0 = p.getD i 0)) (y := decide (b.getD j 0 = p.getD j 0)) (fun kk h => ?_) (fun kk h => ?_) h) ?_
    · simp only [env0, env0L, knE, knF, sSeq, sAsg, sAsgF, sIf, sRet, sRetF, sRetM, sRetN, sDrop, sNext, sFor, sPar, sPar3, emE, emF, sKnow, sApp, sExt, eVar, eVarO, eC, eF, eOp, eOpF, eUn, eUnF, eB, eAnd, eOr, eNot, eIf, eaNil, eaCons, eTup, eLst, eYes, eChain, eCall, eCallF, eCallP, eCallL, eCallW, eCallWF, eIsi, eIsi2, isiD, isi2D, eLc, eLcF, eSeq, eRng1, eEnum, eRgo, egName, egTup, egNil, egCons, wipeE, forg, List.map_cons, List.map_nil, List.cons_append, List.nil_append, List.append_nil, List.getElem?_cons_zero, List.getElem?_cons_succ, List.set_cons_zero, List.set_cons_succ, List.length_cons, List.length_nil, if_true, if_false, Nat.reduceAdd, Nat.reduceSub, Nat.reduceLeDiff, Bool.false_eq_true, List.replicate, true_and, and_true, Bool.not_true, Bool.not_false, Nat.zero_add, Nat.add_zero, Nat.sub_zero]
      exact (show neD (dN i) (dN j) _ from ne_N h)
    · simp only [env0, env0L, knE, knF, sSeq, sAsg, sAsgF, sIf, sRet, sRetF, sRetM, sRetN, sDrop, sNext, sFor, sPar, sPar3, emE, emF, sKnow, sApp, sExt, eVar, eVarO, eC, eF, eOp, eOpF, eUn, eUnF, eB, eAnd, eOr, eNot, eIf, eaNil, eaCons, eTup, eLst, eYes, eChain, eCall, eCallF, eCallP, eCallL, eCallW, eCallWF, eIsi, eIsi2, isiD, isi2D, eLc, eLcF, eSeq, eRng1, eEnum, eRgo, egName, egTup, egNil, egCons, wipeE, forg, List.map_cons, List.map_nil, List.cons_append, List.nil_append, List.append_nil, List.getElem?_cons_zero, List.getElem?_cons_succ, List.set_cons_zero, List.set_cons_succ, List.length_cons, List.length_nil, if_true, if_false, Nat.reduceAdd, Nat.reduceSub, Nat.reduceLeDiff, Bool.false_eq_true, List.replicate, true_and, and_true, Bool.not_true, Bool.not_false, Nat.zero_add, Nat.add_zero, Nat.sub_zero]
      refine (show ixD (sq u f) (dN i) _ from ix_sqD (by rw [o.fl]; exact hi) ?_)
      refine (show ixD (sq false p) (dN i) _ from ix_sqD hi ?_)
      exact eq_N h
    · simp only [env0, env0L, knE, knF, sSeq, sAsg, sAsgF, sIf, sRet, sRetF, sRetM, sRetN, sDrop, sNext, sFor, sPar, sPar3, emE, emF, sKnow, sApp, sExt, eVar, eVarO, eC, eF, eOp, eOpF, eUn, eUnF, eB, eAnd, eOr, eNot, eIf, eaNil, eaCons, eTup, eLst, eYes, eChain, eCall, eCallF, eCallP, eCallL, eCallW, eCallWF, eIsi, eIsi2, isiD, isi2D, eLc, eLcF, eSeq, eRng1, eEnum, eRgo, egName, egTup, egNil, egCons, wipeE, forg, List.map_cons, List.map_nil, List.cons_append, List.nil_append, List.append_nil, List.getElem?_cons_zero, List.getElem?_cons_succ, List.set_cons_zero, List.set_cons_succ, List.length_cons, List.length_nil, if_true, if_false, Nat.reduceAdd, Nat.reduceSub, Nat.reduceLeDiff, Bool.false_eq_true, List.replicate, true_and, and_true, Bool.not_true, Bool.not_false, Nat.zero_add, Nat.add_zero, Nat.sub_zero]
      refine (show ixD (sq false b) (dN j) _ from ix_sqD (by rw [o.bl]; exact hj) ?_)
      refine (show ixD (sq false p) (dN j) _ from ix_sqD hj ?_)
      exact eq_N h
    · show if okPr p f b i j = true then _ else _
      split
      · next h => 
        rw [if_pos h] at hk3
        exact hk3
      · next h =>
        rw [if_neg h] at hk3
        exact hk3
  · have e : (pairs p f b).map dPr = (List.range p.length).flatMap fun i => ((List.range p.length).filter (okPr p f b i)).map fun j => dPr (i, j) := by
      unfold pairs
      rw [List.map_flatMap]
      congr 1
      funext i
      rw [List.map_map]
      rfl
    rw [← e]
    exact hk
end K75

set_option Elab.async false
set_option linter.all false
set_option maxRecDepth 100000
set_option maxHeartbeats 4000000
/-! the stand between two yards -/
namespace K75
open PySem PySem.Spec PyProof.Rows L2 DL
def fill (p f b : List Nat) : Nat → Nat → Std → Std
  | 0, _, s => s
  | m + 1, i, s => fill p f b m ((i + 1) % p.length) (s.set i (f.getD i 0, min (b.getD i 0) (p.getD i 0 - f.getD i 0)))
def tbw (p f b : List Nat) (i j : Nat) : Std :=
  fill p f b ((j + p.length - (i + 1) % p.length) % p.length) ((i + 1) % p.length) (((List.replicate p.length (0, 0)).set i (p.getD i 0, 0)).set j (0, p.getD j 0))
theorem ixN_N {n i : Nat} (h : i < n) : L2.ixN n (i : Int) = some i := by
  unfold L2.ixN
  rw [if_pos (by omega), if_pos (by omega)]
  rfl
theorem map_set' (s : Std) (i : Nat) (q : Nat × Nat) : (s.map dPr).set i (dPr q) = (s.set i q).map dPr := by rw [List.map_set]
theorem p_tbw {u : Bool} {p f b : List Nat} {i j : Nat} {k : List D → Prop} (o : Rok p f b) (hi : i < p.length) (hj : j < p.length) (hk : k ((tbw p f b i j).map dPr)) : d_stand_between [.lst (DL.dNs p), sq u f, .lst (DL.dNs b), dN i, dN j] k := by
  have h2 := o.p2
  have h1 := o.p1
  have hn0 : 0 < p.length := by omega
  unfold d_stand_between e_stand_between
  simp only [env0, env0L, knE, knF, sSeq, sAsg, sAsgF, sIf, sRet, sRetF, sRetM, sRetN, sDrop, sNext, sFor, sPar, sPar3, emE, emF, sKnow, sApp, sExt, eVar, eVarO, eC, eF, eOp, eOpF, eUn, eUnF, eB, eNotT, eAndT, eOrT, eAnd, eOr, eNot, eIf, eaNil, eaCons, eTup, eLst, eYes, eChain, eCall, eCallF, eCallP, eCallL, eCallW, eCallWF, eIsi, eIsi2, isiD, isi2D, eLc, eLcF, eSeq, eRng1, eEnum, eRgo, egName, egTup, egNil, egCons, wipeE, forg, List.map_cons, List.map_nil, List.cons_append, List.nil_append, List.append_nil, List.getElem?_cons_zero, List.getElem?_cons_succ, List.set_cons_zero, List.set_cons_succ, List.length_cons, List.length_nil, if_true, if_false, Nat.reduceAdd, Nat.reduceSub, Nat.reduceLeDiff, Bool.false_eq_true, List.replicate, true_and, and_true, Bool.not_true, Bool.not_false, Nat.zero_add, Nat.add_zero, Nat.sub_zero]
  refine And.intro (by simp [DL.dNs]; omega) ?_
  refine (show lcGo _ (p.map dN) _ from lc_map (g := fun _ => dPr (0, 0)) (fun q _ kk hkk => ?_) ?_)
  · simp only [env0, env0L, knE, knF, sSeq, sAsg, sAsgF, sIf, sRet, sRetF, sRetM, sRetN, sDrop, sNext, sFor, sPar, sPar3, emE, emF, sKnow, sApp, sExt, eVar, eVarO, eC, eF, eOp, eOpF, eUn, eUnF, eB, eNotT, eAndT, eOrT, eAnd, eOr, eNot, eIf, eaNil, eaCons, eTup, eLst, eYes, eChain, eCall, eCallF, eCallP, eCallL, eCallW, eCallWF, eIsi, eIsi2, isiD, isi2D, eLc, eLcF, eSeq, eRng1, eEnum, eRgo, egName, egTup, egNil, egCons, wipeE, forg, List.map_cons, List.map_nil, List.cons_append, List.nil_append, List.append_nil, List.getElem?_cons_zero, List.getElem?_cons_succ, List.set_cons_zero, List.set_cons_succ, List.length_cons, List.length_nil, if_true, if_false, Nat.reduceAdd, Nat.reduceSub, Nat.reduceLeDiff, Bool.false_eq_true, List.replicate, true_and, and_true, Bool.not_true, Bool.not_false, Nat.zero_add, Nat.add_zero, Nat.sub_zero]
    exact hkk
  · have e0 : (p.map fun _ => dPr (0, 0)) = (List.replicate p.length ((0, 0) : Nat × Nat)).map dPr := by rw [List.map_const', List.map_replicate]
    rw [e0]
    unfold sSet2
    simp only [env0, env0L, knE, knF, sSeq, sAsg, sAsgF, sIf, sRet, sRetF, sRetM, sRetN, sDrop, sNext, sFor, sPar, sPar3, emE, emF, sKnow, sApp, sExt, eVar, eVarO, eC, eF, eOp, eOpF, eUn, eUnF, eB, eNotT, eAndT, eOrT, eAnd, eOr, eNot, eIf, eaNil, eaCons, eTup, eLst, eYes, eChain, eCall, eCallF, eCallP, eCallL, eCallW, eCallWF, eIsi, eIsi2, isiD, isi2D, eLc, eLcF, eSeq, eRng1, eEnum, eRgo, egName, egTup, egNil, egCons, wipeE, forg, List.map_cons, List.map_nil, List.cons_append, List.nil_append, List.append_nil, List.getElem?_cons_zero, List.getElem?_cons_succ, List.set_cons_zero, List.set_cons_succ, List.length_cons, List.length_nil, if_true, if_false, Nat.reduceAdd, Nat.reduceSub, Nat.reduceLeDiff, Bool.false_eq_true, List.replicate, true_and, and_true, Bool.not_true, Bool.not_false, Nat.zero_add, Nat.add_zero, Nat.sub_zero]
    refine (show ixD (sq false p) (dN i) _ from ix_sqD hi ?_)
    refine (show ixD (sq false p) (dN j) _ from ix_sqD hj ?_)
    unfold setK
    simp only [env0, env0L, knE, knF, sSeq, sAsg, sAsgF, sIf, sRet, sRetF, sRetM, sRetN, sDrop, sNext, sFor, sPar, sPar3, emE, emF, sKnow, sApp, sExt, eVar, eVarO, eC, eF, eOp, eOpF, eUn, eUnF, eB, eNotT, eAndT, eOrT, eAnd, eOr, eNot, eIf, eaNil, eaCons, eTup, eLst, eYes, eChain, eCall, eCallF, eCallP, eCallL, eCallW, eCallWF, eIsi, eIsi2, isiD, isi2D, eLc, eLcF, eSeq, eRng1, eEnum, eRgo, egName, egTup, egNil, egCons, wipeE, forg, List.map_cons, List.map_nil, List.cons_append, List.nil_append, List.append_nil, List.getElem?_cons_zero, List.getElem?_cons_succ, List.set_cons_zero, List.set_cons_succ, List.length_cons, List.length_nil, if_true, if_false, Nat.reduceAdd, Nat.reduceSub, Nat.reduceLeDiff, Bool.false_eq_true, List.replicate, true_and, and_true, Bool.not_true, Bool.not_false, Nat.zero_add, Nat.add_zero, Nat.sub_zero]
    refine ⟨i, ixN_N (by simpa using hi), ?_⟩
    refine ⟨j, ixN_N (by simpa using hj), ?_⟩
    refine (show addU (dN i) (dN 1) _ from add_N ?_)
    refine (show lenD (sq false p) _ from len_sq ?_)
    refine mod_N hn0 ?_
    refine ⟨fun m env => ∃ (a : Nat) (s : Std), env = [SV.val (.lst (DL.dNs p)), SV.val (sq u f), SV.val (.lst (DL.dNs b)), SV.val (dN i), SV.val (dN j), SV.ml (s.map dPr), SV.val (dN a), SV.un] ∧ s.length = p.length ∧ a < p.length ∧ (a + m) % p.length = j ∧ m < p.length ∧ k ((fill p f b m a s).map dPr), ?_, ?_⟩
    · refine ⟨(j + p.length - (i + 1) % p.length) % p.length, (i + 1) % p.length, ((List.replicate p.length (0, 0)).set i (p.getD i 0, 0)).set j (0, p.getD j 0), ?_, by simp, Nat.mod_lt _ hn0, ?_, Nat.mod_lt _ hn0, hk⟩
      · rw [← map_set', ← map_set']
        rfl
      · have := Nat.mod_lt (i + 1) hn0
        rw [Nat.add_mod_mod, show (i + 1) % p.length + (j + p.length - (i + 1) % p.length) = j + p.length by omega, Nat.add_mod_right, Nat.mod_eq_of_lt hj]
    · rintro m env ⟨a, s, rfl, hs, ha, hm, hmn, hkm⟩
      have ef : f[a]? = some (f.getD a 0) := by rw [List.getD_eq_getElem?_getD, List.getElem?_eq_getElem (by rw [o.fl]; exact ha)]; rfl
      have ep : p[a]? = some (p.getD a 0) := by rw [List.getD_eq_getElem?_getD, List.getElem?_eq_getElem ha]; rfl
      have qf := o.fb a _ _ ef ep
      simp only [env0, env0L, knE, knF, sSeq, sAsg, sAsgF, sIf, sRet, sRetF, sRetM, sRetN, sDrop, sNext, sFor, sPar, sPar3, emE, emF, sKnow, sApp, sExt, eVar, eVarO, eC, eF, eOp, eOpF, eUn, eUnF, eB, eNotT, eAndT, eOrT, eAnd, eOr, eNot, eIf, eaNil, eaCons, eTup, eLst, eYes, eChain, eCall, eCallF, eCallP, eCallL, eCallW, eCallWF, eIsi, eIsi2, isiD, isi2D, eLc, eLcF, eSeq, eRng1, eEnum, eRgo, egName, egTup, egNil, egCons, wipeE, forg, List.map_cons, List.map_nil, List.cons_append, List.nil_append, List.append_nil, List.getElem?_cons_zero, List.getElem?_cons_succ, List.set_cons_zero, List.set_cons_succ, List.length_cons, List.length_nil, if_true, if_false, Nat.reduceAdd, Nat.reduceSub, Nat.reduceLeDiff, Bool.false_eq_true, List.replicate, true_and, and_true, Bool.not_true, Bool.not_false, Nat.zero_add, Nat.add_zero, Nat.sub_zero]
      refine ne_N ?_
      cases m with
      | zero =>
        have : a = j := by rw [Nat.add_zero, Nat.mod_eq_of_lt ha] at hm; exact hm
        rw [show (!decide (a = j)) = false by rw [decide_eq_true this]; rfl]
        simp only [env0, env0L, knE, knF, sSeq, sAsg, sAsgF, sIf, sRet, sRetF, sRetM, sRetN, sDrop, sNext, sFor, sPar, sPar3, emE, emF, sKnow, sApp, sExt, eVar, eVarO, eC, eF, eOp, eOpF, eUn, eUnF, eB, eNotT, eAndT, eOrT, eAnd, eOr, eNot, eIf, eaNil, eaCons, eTup, eLst, eYes, eChain, eCall, eCallF, eCallP, eCallL, eCallW, eCallWF, eIsi, eIsi2, isiD, isi2D, eLc, eLcF, eSeq, eRng1, eEnum, eRgo, egName, egTup, egNil, egCons, wipeE, forg, List.map_cons, List.map_nil, List.cons_append, List.nil_append, List.append_nil, List.getElem?_cons_zero, List.getElem?_cons_succ, List.set_cons_zero, List.set_cons_succ, List.length_cons, List.length_nil, if_true, if_false, Nat.reduceAdd, Nat.reduceSub, Nat.reduceLeDiff, Bool.false_eq_true, List.replicate, true_and, and_true, Bool.not_true, Bool.not_false, Nat.zero_add, Nat.add_zero, Nat.sub_zero]
        exact hkm
      | succ m =>
        have : a ≠ j := fun e => by
          subst e
          by_cases q : a + (m + 1) < p.length
          · rw [Nat.mod_eq_of_lt q] at hm; omega
          · rw [Nat.mod_eq_sub_mod (by omega), Nat.mod_eq_of_lt (by omega)] at hm; omega
        rw [show (!decide (a = j)) = true by rw [decide_eq_false this]; rfl]
        simp only [env0, env0L, knE, knF, sSeq, sAsg, sAsgF, sIf, sRet, sRetF, sRetM, sRetN, sDrop, sNext, sFor, sPar, sPar3, emE, emF, sKnow, sApp, sExt, eVar, eVarO, eC, eF, eOp, eOpF, eUn, eUnF, eB, eNotT, eAndT, eOrT, eAnd, eOr, eNot, eIf, eaNil, eaCons, eTup, eLst, eYes, eChain, eCall, eCallF, eCallP, eCallL, eCallW, eCallWF, eIsi, eIsi2, isiD, isi2D, eLc, eLcF, eSeq, eRng1, eEnum, eRgo, egName, egTup, egNil, egCons, wipeE, forg, List.map_cons, List.map_nil, List.cons_append, List.nil_append, List.append_nil, List.getElem?_cons_zero, List.getElem?_cons_succ, List.set_cons_zero, List.set_cons_succ, List.length_cons, List.length_nil, if_true, if_false, Nat.reduceAdd, Nat.reduceSub, Nat.reduceLeDiff, Bool.false_eq_true, List.replicate, true_and, and_true, Bool.not_true, Bool.not_false, Nat.zero_add, Nat.add_zero, Nat.sub_zero]
        unfold sSetL
        simp only [env0, env0L, knE, knF, sSeq, sAsg, sAsgF, sIf, sRet, sRetF, sRetM, sRetN, sDrop, sNext, sFor, sPar, sPar3, emE, emF, sKnow, sApp, sExt, eVar, eVarO, eC, eF, eOp, eOpF, eUn, eUnF, eB, eNotT, eAndT, eOrT, eAnd, eOr, eNot, eIf, eaNil, eaCons, eTup, eLst, eYes, eChain, eCall, eCallF, eCallP, eCallL, eCallW, eCallWF, eIsi, eIsi2, isiD, isi2D, eLc, eLcF, eSeq, eRng1, eEnum, eRgo, egName, egTup, egNil, egCons, wipeE, forg, List.map_cons, List.map_nil, List.cons_append, List.nil_append, List.append_nil, List.getElem?_cons_zero, List.getElem?_cons_succ, List.set_cons_zero, List.set_cons_succ, List.length_cons, List.length_nil, if_true, if_false, Nat.reduceAdd, Nat.reduceSub, Nat.reduceLeDiff, Bool.false_eq_true, List.replicate, true_and, and_true, Bool.not_true, Bool.not_false, Nat.zero_add, Nat.add_zero, Nat.sub_zero]
        refine (show ixD (sq u f) (dN a) _ from ix_sqD (by rw [o.fl]; exact ha) ?_)
        refine (show ixD (sq false b) (dN a) _ from ix_sqD (by rw [o.bl]; exact ha) ?_)
        refine (show ixD (sq false p) (dN a) _ from ix_sqD ha ?_)
        refine (show ixD (sq u f) (dN a) _ from ix_sqD (by rw [o.fl]; exact ha) ?_)
        refine sub_N qf.2 ?_
        refine min_N ?_
        refine ⟨a, ixN_N (by rw [List.length_map, hs]; exact ha), ?_⟩
        refine (show addU (dN a) (dN 1) _ from add_N ?_)
        refine (show lenD (sq false p) _ from len_sq ?_)
        refine mod_N hn0 ?_
        refine ⟨m, Nat.lt_succ_self m, (a + 1) % p.length, s.set a (f.getD a 0, min (b.getD a 0) (p.getD a 0 - f.getD a 0)), ?_, by rw [List.length_set]; exact hs, Nat.mod_lt _ hn0, ?_, by omega, hkm⟩
        · rw [← map_set']
          rfl
        · rw [Nat.mod_add_mod, show a + 1 + m = a + (m + 1) by omega]
          exact hm
end K75

set_option Elab.async false
set_option linter.all false
set_option maxRecDepth 100000
set_option maxHeartbeats 4000000
/-! the least of the stands that were found -/
namespace K75
open PySem PySem.Spec PyProof.Rows L2 DL PySem.W
theorem lt_hd {c d : Int} {r s : List PyData} : dataLt (.tuple (.int c :: r)) (.tuple (.int d :: s)) = true ∧ c ≤ d ∨ dataLt (.tuple (.int c :: r)) (.tuple (.int d :: s)) = false ∧ d ≤ c := by
  unfold dataLt
  simp only [keyToks, keyToksAll, List.singleton_append, List.cons_append, List.nil_append]
  by_cases h : c = d
  · cases hx : lexLt itemOrd (Sum.inl 1 :: Sum.inl c :: (keyToksAll r)) (Sum.inl 1 :: Sum.inl d :: (keyToksAll s)) with
    | true => exact .inl ⟨rfl, by omega⟩
    | false => exact .inr ⟨rfl, by omega⟩
  · have e : lexLt itemOrd (Sum.inl 1 :: Sum.inl c :: (keyToksAll r)) (Sum.inl 1 :: Sum.inl d :: (keyToksAll s)) = decide (c < d) := by
      refine (PyProof.Rows.lex_self (O := itemOrd) (Sum.inl 1) _ _).trans ((PyProof.Rows.lex_diff (O := itemOrd) (x := Sum.inl c) (y := Sum.inl d) (fun e => h (Sum.inl.inj e))).trans rfl)
    rw [e]
    by_cases q : c < d
    · exact .inl ⟨decide_eq_true q, by omega⟩
    · exact .inr ⟨decide_eq_false q, by omega⟩
/-- the least of rows that begin with their number -/
theorem min_row {α : Type} (c : α → Nat) (r : α → List D) : ∀ (xs : List α) (x : α), ∃ m, m ∈ x :: xs ∧ minLD (.tup (dN (c x) :: r x)) (xs.map fun a => D.tup (dN (c a) :: r a)) = .tup (dN (c m) :: r m) ∧ ∀ a ∈ x :: xs, c m ≤ c a
  | [], x => ⟨x, by simp, rfl, fun a h => by rw [List.mem_singleton.mp h]; exact Nat.le_refl _⟩
  | y :: ys, x => by
    have key := lt_hd (c := (c y : Int)) (d := (c x : Int)) (r := toPys (r y)) (s := toPys (r x))
    have e : minLD (.tup (dN (c x) :: r x)) ((y :: ys).map fun a => D.tup (dN (c a) :: r a)) = minLD (if dataLt (toPy (.tup (dN (c y) :: r y))) (toPy (.tup (dN (c x) :: r x))) then .tup (dN (c y) :: r y) else .tup (dN (c x) :: r x)) (ys.map fun a => D.tup (dN (c a) :: r a)) := rfl
    rw [e]
    rcases key with ⟨k, h⟩ | ⟨k, h⟩
    · have k : dataLt (toPy (.tup (dN (c y) :: r y))) (toPy (.tup (dN (c x) :: r x))) = true := k
      rw [if_pos k]
      obtain ⟨m, hm, e1, h1⟩ := min_row c r ys y
      refine ⟨m, List.mem_cons_of_mem _ hm, e1, fun a ha => ?_⟩
      rcases List.mem_cons.mp ha with z | z
      · have := h1 y (List.mem_cons_self ..)
        rw [z]; omega
      · exact h1 a z
    · have k : dataLt (toPy (.tup (dN (c y) :: r y))) (toPy (.tup (dN (c x) :: r x))) = false := k
      rw [if_neg (by rw [k]; decide)]
      obtain ⟨m, hm, e1, h1⟩ := min_row c r ys x
      refine ⟨m, ?_, e1, fun a ha => ?_⟩
      · rcases List.mem_cons.mp hm with z | z
        · rw [z]; exact List.mem_cons_self ..
        · exact List.mem_cons_of_mem _ (List.mem_cons_of_mem _ z)
      · rcases List.mem_cons.mp ha with z | z
        · rw [z]; exact h1 x (List.mem_cons_self ..)
        · rcases List.mem_cons.mp z with w | w
          · have := h1 x (List.mem_cons_self ..)
            rw [w]; omega
          · exact h1 a (List.mem_cons_of_mem _ w)
end K75

set_option Elab.async false
set_option linter.all false
set_option maxRecDepth 100000
set_option maxHeartbeats 4000000
/-! round_stand -/
namespace K75
open PySem PySem.Spec PyProof.Rows L2 DL PySem.W
def rowD (s : Std) : D := .tup [dN (carts s), dSt s]
theorem py_st : ∀ s : Std, isPys (s.map dPr) = true
  | [] => rfl
  | q :: s => by
    have := py_st s
    simp only [List.map_cons, isPys, dPr, isPy, this, Bool.and_self]
theorem py_rows : ∀ l : List Std, isPys (l.map rowD) = true
  | [] => rfl
  | s :: l => by
    have := py_rows l
    simp only [List.map_cons, isPys, rowD, dSt, isPy, this, py_st s, Bool.and_self]
theorem al_st : ∀ s t : Std, alikeAll (toPys (s.map dPr)) (toPys (t.map dPr)) = true
  | [], _ => by simp only [List.map_nil, toPys, alikeAll]
  | _ :: _, [] => by simp only [List.map_nil, List.map_cons, toPys, alikeAll]
  | q :: s, r :: t => by
    have := al_st s t
    simp only [List.map_cons, toPys, dPr, toPy, alikeAll, alike, this, Bool.and_self]
theorem dp_st : ∀ s : Std, PyData.depthAll (toPys (s.map dPr)) ≤ 1
  | [] => by simp only [List.map_nil, toPys, PyData.depthAll]; omega
  | q :: s => by
    have := dp_st s
    simp only [List.map_cons, toPys, dPr, toPy, PyData.depthAll, PyData.depth]
    omega
theorem dp_rows : ∀ l : List Std, PyData.depthAll ((l.map rowD).map toPy) ≤ 3
  | [] => by simp only [List.map_nil, PyData.depthAll]; omega
  | s :: l => by
    have := dp_rows l
    have h2 := dp_st s
    simp only [List.map_cons, rowD, dSt, toPys, toPy, PyData.depthAll, PyData.depth] at this ⊢
    omega
theorem al_rows (l : List Std) : AlikeAll ((l.map rowD).map toPy) := by
  refine ⟨fun x hx y hy => ?_, fun x hx => ?_⟩
  · obtain ⟨a, ha, rfl⟩ := List.mem_map.mp hx
    obtain ⟨s, _, rfl⟩ := List.mem_map.mp ha
    obtain ⟨b, hb, rfl⟩ := List.mem_map.mp hy
    obtain ⟨t, _, rfl⟩ := List.mem_map.mp hb
    simp only [rowD, dSt, toPy, toPys, alike, alikeAll, al_st s t, Bool.and_self]
  · obtain ⟨a, ha, rfl⟩ := List.mem_map.mp hx
    obtain ⟨s, _, rfl⟩ := List.mem_map.mp ha
    exact fun e => nomatch e
/-- the least row of some -/
theorem p_min {l : List Std} {k : DK} (hne : l ≠ []) (hk : ∀ s ∈ l, (∀ t ∈ l, carts s ≤ carts t) → k (rowD s)) : minDL (.lst (l.map rowD)) k := by
  cases l with
  | nil => exact (hne rfl).elim
  | cons x xs =>
    obtain ⟨m, hm, e, h⟩ := min_row carts (fun s => [dSt s]) xs x
    refine And.intro ⟨py_rows (x :: xs), al_rows (x :: xs), Nat.le_trans (dp_rows (x :: xs)) (by omega)⟩ ?_
    have := hk m hm h
    show k (minLD (rowD x) (xs.map rowD))
    rw [show minLD (rowD x) (xs.map rowD) = rowD m from e]
    exact this
def foundL (p f b : List Nat) : List Std := [f.map fun x => (x, 0), b.map fun x => (0, x)] ++ (pairs p f b).map fun q => tbw p f b q.1 q.2
theorem fill_len {p f b : List Nat} : ∀ (m i : Nat) (s : Std), (fill p f b m i s).length = s.length
  | 0, _, _ => rfl
  | m + 1, i, s => by
    show (fill p f b m _ _).length = _
    rw [fill_len m, List.length_set]
theorem tbw_len {p f b : List Nat} {i j : Nat} : (tbw p f b i j).length = p.length := by unfold tbw; rw [fill_len]; simp
theorem found_len {p f b : List Nat} (o : Rok p f b) {s : Std} (h : s ∈ foundL p f b) : s.length = p.length := by
  unfold foundL at h
  rcases List.mem_append.mp h with h | h
  · rcases List.mem_cons.mp h with e | e
    · rw [e, List.length_map, o.fl]
    · rw [List.mem_singleton.mp e, List.length_map, o.bl]
  · obtain ⟨q, _, rfl⟩ := List.mem_map.mp h
    exact tbw_len
theorem pairs_lt {p f b : List Nat} {q : Nat × Nat} (h : q ∈ pairs p f b) : q.1 < p.length ∧ q.2 < p.length := by
  unfold pairs at h
  obtain ⟨i, hi, h⟩ := List.mem_flatMap.mp h
  obtain ⟨j, hj, rfl⟩ := List.mem_map.mp h
  exact ⟨List.mem_range.mp hi, List.mem_range.mp (List.mem_filter.mp hj).1⟩
end K75

set_option Elab.async false
set_option linter.all false
set_option maxRecDepth 100000
set_option maxHeartbeats 400000
/-! round_stand, piece by piece -/
namespace K75
open PySem PySem.Spec PyProof.Rows L2 DL PySem.W
theorem c_f {a c d e g h i : SV} {u : Bool} {f : List Nat} {k : List D → Prop} (hf : f.length ≤ 100000) (hk : k ((f.map fun x => (x, 0)).map dPr)) :
    eLc (eSeq (eVar 1)) (egName 6) eYes (eTup (eaCons (eVar 6) (eaCons (eC (.int 0)) eaNil))) [6] [a, .val (sq u f), c, d, e, g, h, i] k := by
  have main : (DL.dNs f).length ≤ 100000 ∧ lcGo (eLcF (egName 6) eYes (eTup (eaCons (eVar 6) (eaCons (eC (.int 0)) eaNil))) [a, .val (sq u f), c, d, e, g, .un, i]) (f.map dN) k := by
    refine ⟨by simp [DL.dNs]; omega, lc_map (g := fun x => dPr (x, 0)) (fun x _ kk h => ?_) ?_⟩
    · simp only [env0, env0L, knE, knF, sSeq, sAsg, sAsgF, sIf, sRet, sRetF, sRetM, sRetN, sDrop, sNext, sFor, sPar, sPar3, emE, emF, sKnow, sApp, sExt, eVar, eVarO, eC, eF, eOp, eOpF, eUn, eUnF, eB, eNotT, eAndT, eOrT, eAnd, eOr, eNot, eIf, eaNil, eaCons, eTup, eLst, eYes, eChain, eCall, eCallF, eCallP, eCallL, eCallW, eCallWF, eIsi, eIsi2, isiD, isi2D, eLc, eLcF, eSeq, eRng1, eEnum, eRgo, egName, egTup, egNil, egCons, wipeE, forg, List.map_cons, List.map_nil, List.cons_append, List.nil_append, List.append_nil, List.getElem?_cons_zero, List.getElem?_cons_succ, List.set_cons_zero, List.set_cons_succ, List.length_cons, List.length_nil, if_true, if_false, Nat.reduceAdd, Nat.reduceSub, Nat.reduceLeDiff, Bool.false_eq_true, List.replicate, true_and, and_true, Bool.not_true, Bool.not_false, Nat.zero_add, Nat.add_zero, Nat.sub_zero]
      exact h
    · rw [List.map_map] at hk
      exact hk
  cases u with
  | true => exact main
  | false => exact main
theorem c_b {a c d e g h i : SV} {f : List Nat} {k : List D → Prop} (hf : f.length ≤ 100000) (hk : k ((f.map fun x => (0, x)).map dPr)) :
    eLc (eSeq (eVar 2)) (egName 6) eYes (eTup (eaCons (eC (.int 0)) (eaCons (eVar 6) eaNil))) [6] [a, c, .val (.lst (DL.dNs f)), d, e, g, h, i] k := by
  have main : (DL.dNs f).length ≤ 100000 ∧ lcGo (eLcF (egName 6) eYes (eTup (eaCons (eC (.int 0)) (eaCons (eVar 6) eaNil))) [a, c, .val (.lst (DL.dNs f)), d, e, g, .un, i]) (f.map dN) k := by
    refine ⟨by simp [DL.dNs]; omega, lc_map (g := fun x => dPr (0, x)) (fun x _ kk h => ?_) ?_⟩
    · simp only [env0, env0L, knE, knF, sSeq, sAsg, sAsgF, sIf, sRet, sRetF, sRetM, sRetN, sDrop, sNext, sFor, sPar, sPar3, emE, emF, sKnow, sApp, sExt, eVar, eVarO, eC, eF, eOp, eOpF, eUn, eUnF, eB, eNotT, eAndT, eOrT, eAnd, eOr, eNot, eIf, eaNil, eaCons, eTup, eLst, eYes, eChain, eCall, eCallF, eCallP, eCallL, eCallW, eCallWF, eIsi, eIsi2, isiD, isi2D, eLc, eLcF, eSeq, eRng1, eEnum, eRgo, egName, egTup, egNil, egCons, wipeE, forg, List.map_cons, List.map_nil, List.cons_append, List.nil_append, List.append_nil, List.getElem?_cons_zero, List.getElem?_cons_succ, List.set_cons_zero, List.set_cons_succ, List.length_cons, List.length_nil, if_true, if_false, Nat.reduceAdd, Nat.reduceSub, Nat.reduceLeDiff, Bool.false_eq_true, List.replicate, true_and, and_true, Bool.not_true, Bool.not_false, Nat.zero_add, Nat.add_zero, Nat.sub_zero]
      exact h
    · rw [List.map_map] at hk
      exact hk
  exact main
theorem c_loop {g : List D → (List D → Prop) → Prop} {u : Bool} {p f b : List Nat} {K1 : Kn} (hg : ∀ (i j : Nat) (k : List D → Prop), i < p.length → j < p.length → k ((tbw p f b i j).map dPr) → g [.lst (DL.dNs p), sq u f, .lst (DL.dNs b), dN i, dN j] k) (hp : (pairs p f b).length ≤ 1000)
    (hk : K1.nx [SV.val (.lst (DL.dNs p)), SV.val (sq u f), SV.val (.lst (DL.dNs b)), SV.ml ((foundL p f b).map dSt), SV.un, SV.un, SV.un, SV.un]) :
    forGo (egTup 2 (egCons (egName 4) (egCons (egName 5) egNil))) (sApp 3 (eF (eCallF 5 g (eaCons (eVar 0) (eaCons (eVar 1) (eaCons (eVar 2) (eaCons (eVar 4) (eaCons (eVar 5) eaNil)))))))) [4, 5] ((pairs p f b).map dPr)
        [SV.val (.lst (DL.dNs p)), SV.val (sq u f), SV.val (.lst (DL.dNs b)), SV.ml ([dSt (f.map fun x => (x, 0)), dSt (b.map fun x => (0, x))]), SV.un, SV.un, SV.un, SV.un] K1 := by
  refine for_det (E := fun d => [SV.val (.lst (DL.dNs p)), SV.val (sq u f), SV.val (.lst (DL.dNs b)), SV.ml (([f.map (fun x => (x, 0)), b.map fun x => (0, x)] ++ d.map fun (q : Nat × Nat) => tbw p f b q.1 q.2).map dSt), SV.un, SV.un, SV.un, SV.un]) (done := []) (fun d q K' hn hv => ?_) hk
  obtain ⟨v, hu⟩ := hv
  have hu : d ++ q :: v = pairs p f b := hu
  obtain ⟨q1, q2⟩ := pairs_lt (p := p) (f := f) (b := b) (q := q) (by rw [← hu]; simp)
  have hd : d.length ≤ 1000 := by
    have := congrArg List.length hu
    rw [List.length_append, List.length_cons] at this
    omega
  unfold dPr
  simp only [env0, env0L, knE, knF, sSeq, sAsg, sAsgF, sIf, sRet, sRetF, sRetM, sRetN, sDrop, sNext, sFor, sPar, sPar3, emE, emF, sKnow, sApp, sExt, eVar, eVarO, eC, eF, eOp, eOpF, eUn, eUnF, eB, eAnd, eOr, eNot, eIf, eaNil, eaCons, eTup, eLst, eYes, eChain, eCall, eCallF, eCallP, eCallL, eCallW, eCallWF, eIsi, eIsi2, isiD, isi2D, eLc, eLcF, eSeq, eRng1, eEnum, eRgo, egName, egTup, egNil, egCons, wipeE, forg, List.map_cons, List.map_nil, List.cons_append, List.nil_append, List.append_nil, List.getElem?_cons_zero, List.getElem?_cons_succ, List.set_cons_zero, List.set_cons_succ, List.length_cons, List.length_nil, if_true, if_false, Nat.reduceAdd, Nat.reduceSub, Nat.reduceLeDiff, Bool.false_eq_true, List.replicate, true_and, and_true, Bool.not_true, Bool.not_false, Nat.zero_add, Nat.add_zero, Nat.sub_zero]
  refine hg _ _ _ q1 q2 ?_
  refine And.intro (by simp; omega) (hn _ ?_)
  simp only [forg, List.set_cons_zero, List.set_cons_succ, List.map_append, List.map_cons, List.map_nil, List.cons_append, List.nil_append, List.append_assoc, dSt]
theorem c_tail {ca : List D → DK → Prop} {a c e g h i : SV} {b : SV} {L : List Std} {K1 : Kn} (hca : ∀ (s : Std) (k : DK), s ∈ L → k (dN (carts s)) → ca [dSt s] k) (hne : L ≠ []) (hL : L.length ≤ 5000) (hk : ∀ s ∈ L, (∀ t ∈ L, carts s ≤ carts t) → K1.rt (dSt s)) :
    sKnow 3 (sRet (eOp ixD (eUn minDL (eF (eLc (eSeq (eVar 3)) (egName 7) eYes (eTup (eaCons (eCall 1 ca (eaCons (eVar 7) eaNil)) (eaCons (eVar 7) eaNil))) [7]))) (eC (.int 1)))) [a, b, c, SV.ml (L.map dSt), e, g, h, i] K1 := by
  have main : (L.map dSt).length ≤ 100000 ∧ lcGo (eLcF (egName 7) eYes (eTup (eaCons (eCall 1 ca (eaCons (eVar 7) eaNil)) (eaCons (eVar 7) eaNil))) [a, b, c, SV.val (.lst (L.map dSt)), e, g, h, .un]) (L.map dSt) fun l => minDL (.lst l) fun d => ixD d (.int 1) K1.rt := by
    refine And.intro (by simp; omega) (lc_map (g := rowD) (fun s hs kk hkk => ?_) ?_)
    · simp only [env0, env0L, knE, knF, sSeq, sAsg, sAsgF, sIf, sRet, sRetF, sRetM, sRetN, sDrop, sNext, sFor, sPar, sPar3, emE, emF, sKnow, sApp, sExt, eVar, eVarO, eC, eF, eOp, eOpF, eUn, eUnF, eB, eAnd, eOr, eNot, eIf, eaNil, eaCons, eTup, eLst, eYes, eChain, eCall, eCallF, eCallP, eCallL, eCallW, eCallWF, eIsi, eIsi2, isiD, isi2D, eLc, eLcF, eSeq, eRng1, eEnum, eRgo, egName, egTup, egNil, egCons, wipeE, forg, List.map_cons, List.map_nil, List.cons_append, List.nil_append, List.append_nil, List.getElem?_cons_zero, List.getElem?_cons_succ, List.set_cons_zero, List.set_cons_succ, List.length_cons, List.length_nil, if_true, if_false, Nat.reduceAdd, Nat.reduceSub, Nat.reduceLeDiff, Bool.false_eq_true, List.replicate, true_and, and_true, Bool.not_true, Bool.not_false, Nat.zero_add, Nat.add_zero, Nat.sub_zero]
      refine hca s _ hs ?_
      exact hkk
    · refine p_min hne fun s hs hmin => ?_
      exact ix_tup (i := 1) rfl (hk s hs hmin)
  exact main
theorem c_round_stand {ck : List D → DK → Prop} {ps sb : List D → (List D → Prop) → Prop} {ca : List D → DK → Prop} {u : Bool} {p f b : List Nat} {K1 : Kn} (hf : f.length ≤ 1000) (hb : b.length ≤ 1000)
    (hck : ∀ k : DK, k .non → ck [.lst (DL.dNs p), sq u f, .lst (DL.dNs b)] k)
    (hps : ∀ k : List D → Prop, k ((pairs p f b).map dPr) → ps [.lst (DL.dNs p), sq u f, .lst (DL.dNs b)] k)
    (hsb : ∀ (i j : Nat) (k : List D → Prop), i < p.length → j < p.length → k ((tbw p f b i j).map dPr) → sb [.lst (DL.dNs p), sq u f, .lst (DL.dNs b), dN i, dN j] k)
    (hca : ∀ (s : Std) (k : DK), s ∈ foundL p f b → k (dN (carts s)) → ca [dSt s] k)
    (hp : (pairs p f b).length ≤ 1000) (hk : ∀ s ∈ foundL p f b, (∀ t ∈ foundL p f b, carts s ≤ carts t) → K1.rt (dSt s)) :
    (sSeq (sDrop (eCall 3 ck (eaCons (eVar 0) (eaCons (eVar 1) (eaCons (eVar 2) eaNil))))) (sSeq (sAsgF 3 (eLst (eaCons (eF (eLc (eSeq (eVar 1)) (egName 6) eYes (eTup (eaCons (eVar 6) (eaCons (eC (.int 0)) eaNil))) [6])) (eaCons (eF (eLc (eSeq (eVar 2)) (egName 6) eYes (eTup (eaCons (eC (.int 0)) (eaCons (eVar 6) eaNil))) [6])) eaNil)))) (sSeq (sFor (eSeq (eF (eCallF 3 ps (eaCons (eVar 0) (eaCons (eVar 1) (eaCons (eVar 2) eaNil)))))) (egTup 2 (egCons (egName 4) (egCons (egName 5) egNil))) (sApp 3 (eF (eCallF 5 sb (eaCons (eVar 0) (eaCons (eVar 1) (eaCons (eVar 2) (eaCons (eVar 4) (eaCons (eVar 5) eaNil)))))))) [4, 5]) (sKnow 3 (sRet (eOp ixD (eUn minDL (eF (eLc (eSeq (eVar 3)) (egName 7) eYes (eTup (eaCons (eCall 1 ca (eaCons (eVar 7) eaNil)) (eaCons (eVar 7) eaNil))) [7]))) (eC (.int 1))))))))
      [SV.val (.lst (DL.dNs p)), SV.val (sq u f), SV.val (.lst (DL.dNs b)), SV.un, SV.un, SV.un, SV.un, SV.un] K1 := by
  refine And.intro rfl (hck _ ?_)
  refine c_f (by omega) ?_
  refine c_b (by omega) ?_
  refine And.intro (show 2 ≤ 100000 by decide) ?_
  refine And.intro rfl (hps _ ?_)
  refine c_loop hsb hp ?_
  exact c_tail hca (by unfold foundL; simp) (by unfold foundL; simp; omega) hk
theorem p_round_stand {u : Bool} {p f b : List Nat} {k : DK} (o : Rok p f b) (hp : (pairs p f b).length ≤ 1000) (hk : ∀ s ∈ foundL p f b, (∀ t ∈ foundL p f b, carts s ≤ carts t) → k (dSt s)) : d_round_stand [.lst (DL.dNs p), sq u f, .lst (DL.dNs b)] k := by
  have h2 := o.p2
  have hfl := o.fl
  have hbl := o.bl
  show e_round_stand [SV.val (.lst (DL.dNs p)), SV.val (sq u f), SV.val (.lst (DL.dNs b)), SV.un, SV.un, SV.un, SV.un, SV.un] (knE k)
  unfold e_round_stand
  exact c_round_stand (by omega) (by omega) (fun k h => p_check o h) (fun k h => p_pairs o h) (fun i j k hi hj h => p_tbw o hi hj h) (fun s k hs h => (show d_carts_in_all [dStT false s] _ from p_carts (by rw [found_len o hs]; omega) h)) hp hk
end K75

set_option Elab.async false
set_option linter.all false
set_option maxRecDepth 100000
set_option maxHeartbeats 400000
/-! round_stand as the law calls it, round_fewest, judged -/
namespace K75
open PySem PySem.Spec PyProof.Rows L2 DL PySem.W
theorem sqn_sq (u : Bool) (f : List Nat) : Sqn (sq u f) := by
  cases u with
  | true => exact ⟨f, .inr rfl⟩
  | false => exact ⟨f, .inl rfl⟩
theorem q_round_stand {u : Bool} {p f b : List Nat} {k : List D → Prop} (o : Rok p f b) (hp : (pairs p f b).length ≤ 1000) (hk : ∀ s ∈ foundL p f b, (∀ t ∈ foundL p f b, carts s ≤ carts t) → k (s.map dPr)) : b_round_stand [.lst (DL.dNs p), sq u f, .lst (DL.dNs b)] k :=
  And.intro ⟨_, _, _, rfl, sqn_sq false p, sqn_sq u f, sqn_sq false b⟩ (p_round_stand o hp fun s hs hm => ⟨s, rfl, fun e => by
    have := found_len o hs
    have h1 := o.p1
    rw [e] at this
    simp at this
    omega, hk s hs hm⟩)
theorem c_fewest {rs : List D → (List D → Prop) → Prop} {ca : List D → DK → Prop} {da db dc : D} {L : List Std} {K1 : Kn}
    (hrs : ∀ k : List D → Prop, (∀ s ∈ L, k (s.map dPr)) → rs [da, db, dc] k) (hca : ∀ s ∈ L, ∀ (k : DK), k (dN (carts s)) → ca [dSt s] k) (hk : ∀ s ∈ L, K1.rt (dN (carts s))) :
    (sRet (eCall 1 ca (eaCons (eF (eCallF 3 rs (eaCons (eVar 0) (eaCons (eVar 1) (eaCons (eVar 2) eaNil))))) eaNil))) [.val da, .val db, .val dc] K1 :=
  And.intro rfl (hrs _ fun s hs => And.intro rfl (hca s hs _ (hk s hs)))
theorem p_fewest {u : Bool} {p f b : List Nat} {k : DK} (o : Rok p f b) (hp : (pairs p f b).length ≤ 1000) (hk : ∀ s ∈ foundL p f b, (∀ t ∈ foundL p f b, carts s ≤ carts t) → k (dN (carts s))) : d_round_fewest [.lst (DL.dNs p), sq u f, .lst (DL.dNs b)] k := by
  have h2 := o.p2
  show e_round_fewest [SV.val (.lst (DL.dNs p)), SV.val (sq u f), SV.val (.lst (DL.dNs b))] (knE k)
  unfold e_round_fewest
  exact c_fewest (L := (foundL p f b).filter fun s => decide (∀ t ∈ foundL p f b, carts s ≤ carts t)) (fun k h => q_round_stand o hp fun s hs hm => h s (List.mem_filter.mpr ⟨hs, decide_eq_true hm⟩))
    (fun s hs k h => (show d_carts_in_all [dStT false s] _ from p_carts (by rw [found_len o (List.mem_filter.mp hs).1]; omega) h))
    (fun s hs => hk s (List.mem_filter.mp hs).1 (of_decide_eq_true (List.mem_filter.mp hs).2))
/-- one of some, any -/
theorem p_pick {α : Type} {g : α → D} {l : List α} {k : DK} (hl : 0 < l.length) (hn : l.length ≤ 1000000) (hk : ∀ a ∈ l, k (g a)) : d_l_pick [.lst (l.map g)] k := by
  show e_l_pick [SV.pot, .val (.lst (l.map g))] (knE k)
  unfold e_l_pick
  refine And.intro rfl (And.intro rfl ⟨l.length, by show [D.int ((l.map g).length : Int)] = _; rw [List.length_map], hl, hn, fun d hd => ?_⟩)
  exact ix_lst (i := d) (d := g l[d]) (by rw [List.getElem?_map, List.getElem?_eq_getElem hd]; rfl) (hk _ (List.getElem_mem hd))
theorem t_same {ea : EE} {env : DL.Env} {x : Bool} {i : Nat} {k : Bool → Prop} (he : ∀ kk : DK, kk (.bl x) → ea env kk) (hi : env[i]? = some (.val (.bl x))) (hk : k false) : eB (eOp neD (eUn reprD ea) (eUn reprD (eVar i))) env k := by
  unfold eB eOp eUn
  refine he _ ?_
  unfold eVar
  simp only [hi, reprD]
  cases x with
  | true => exact And.intro (by decide +kernel) (by rw [show PyData.eqv (toPy (.str (if true then "True" else "False"))) (toPy (.str (if true then "True" else "False"))) = true by decide +kernel]; exact hk)
  | false => exact And.intro (by decide +kernel) (by rw [show PyData.eqv (toPy (.str (if false then "True" else "False"))) (toPy (.str (if false then "True" else "False"))) = true by decide +kernel]; exact hk)
theorem t_even {env : DL.Env} {i : Nat} {k : Bool → Prop} (hi : env[5]? = some (.val (dN i))) (hk : ∀ x, k x) : eB (eOp eqD (eOp mulU (eOp fdivD (eVar 5) (eC (.int 2))) (eC (.int 2))) (eVar 5)) env k := by
  unfold eB eOp eVar eC
  simp only [hi]
  refine And.intro ⟨by decide, by decide⟩ (And.intro (.inr ⟨by decide, by decide⟩) ?_)
  exact DL.eq_int (hk _)
theorem c_turn {pk ls ij : List D → DK → Prop} {a b c : D} {S : List Std} {st : Std → Bool} {i : Nat} {K1 : Kn}
    (hpk : ∀ k : DK, (∀ s ∈ S, k (dSt s)) → pk [.lst (S.map dSt)] k) (hls : ∀ s ∈ S, ∀ k : DK, k (.bl (st s)) → ls [a, b, c, dSt s] k)
    (hij : ∀ t, ∀ s ∈ S, ∀ k : DK, k (.bl (st s)) → ij [a, b, c, dStT t s] k) (hi : i < 12)
    (hk : ∀ e, forg e [5, 6, 7, 8] = [.val a, .val b, .val c, .val (.lst (S.map dSt)), .pot, .un, .un, .un, .un] → K1.nx e) :
    (sSeq (sAsg (eCallP 4 1 pk (eaCons (eVar 3) eaNil)) (egName 6)) (sSeq (sAsg (eIf (eB (eOp eqD (eOp mulU (eOp fdivD (eVar 5) (eC (.int 2))) (eC (.int 2))) (eVar 5))) (eUn tupD (eVar 6)) (eVar 6)) (egName 7)) (sSeq (sAsg (eCall 4 ls (eaCons (eVar 0) (eaCons (eVar 1) (eaCons (eVar 2) (eaCons (eVar 6) eaNil))))) (egName 8)) (sIf (eOrT (eB (eOp neD (eUn reprD (eCall 4 ij (eaCons (eVar 0) (eaCons (eVar 1) (eaCons (eVar 2) (eaCons (eVar 7) eaNil)))))) (eUn reprD (eVar 8)))) (eB (eOp neD (eUn reprD (eCallW [3, 2, 1, 0] 4 ij (eaCons (eVar 6) (eaCons (eVar 2) (eaCons (eVar 1) (eaCons (eVar 0) eaNil)))))) (eUn reprD (eVar 8))))) (sRet (eC (.bl false))) sNext))))
      [.val a, .val b, .val c, .val (.lst (S.map dSt)), .pot, .val (dN i), .un, .un, .un] K1 := by
  refine And.intro rfl (And.intro rfl (hpk _ fun s hs => ?_))
  have go : ∀ t, (sSeq (sAsg (eCall 4 ls (eaCons (eVar 0) (eaCons (eVar 1) (eaCons (eVar 2) (eaCons (eVar 6) eaNil))))) (egName 8)) (sIf (eOrT (eB (eOp neD (eUn reprD (eCall 4 ij (eaCons (eVar 0) (eaCons (eVar 1) (eaCons (eVar 2) (eaCons (eVar 7) eaNil)))))) (eUn reprD (eVar 8)))) (eB (eOp neD (eUn reprD (eCallW [3, 2, 1, 0] 4 ij (eaCons (eVar 6) (eaCons (eVar 2) (eaCons (eVar 1) (eaCons (eVar 0) eaNil)))))) (eUn reprD (eVar 8))))) (sRet (eC (.bl false))) sNext))
      [.val a, .val b, .val c, .val (.lst (S.map dSt)), .pot, .val (dN i), .val (dSt s), .val (dStT t s), .un] K1 := fun t => by
    refine And.intro rfl (hls s hs _ ?_)
    simp only [sIf, eOrT, List.set_cons_succ, List.set_cons_zero]
    refine t_same (x := st s) (fun kk h => And.intro rfl (hij t s hs _ h)) rfl ?_
    refine t_same (x := st s) (fun kk h => And.intro rfl (hij false s hs _ h)) rfl ?_
    exact hk _ rfl
  simp only [sSeq, sAsg, eIf, egName, List.set_cons_succ, List.set_cons_zero] at go ⊢
  refine t_even (i := i) rfl fun x => ?_
  cases x with
  | true => exact go true
  | false => exact go false
theorem c_judged {pk ls ij : List D → DK → Prop} {a b c : D} {S : List Std} {st : Std → Bool} {K1 : Kn}
    (hpk : ∀ k : DK, (∀ s ∈ S, k (dSt s)) → pk [.lst (S.map dSt)] k) (hls : ∀ s ∈ S, ∀ k : DK, k (.bl (st s)) → ls [a, b, c, dSt s] k)
    (hij : ∀ t, ∀ s ∈ S, ∀ k : DK, k (.bl (st s)) → ij [a, b, c, dStT t s] k)
    (hk : K1.rt (.bl true)) :
    (sSeq (sFor (eRng1 (eC (.int 12))) (egName 5) (sSeq (sAsg (eCallP 4 1 pk (eaCons (eVar 3) eaNil)) (egName 6)) (sSeq (sAsg (eIf (eB (eOp eqD (eOp mulU (eOp fdivD (eVar 5) (eC (.int 2))) (eC (.int 2))) (eVar 5))) (eUn tupD (eVar 6)) (eVar 6)) (egName 7)) (sSeq (sAsg (eCall 4 ls (eaCons (eVar 0) (eaCons (eVar 1) (eaCons (eVar 2) (eaCons (eVar 6) eaNil))))) (egName 8)) (sIf (eOrT (eB (eOp neD (eUn reprD (eCall 4 ij (eaCons (eVar 0) (eaCons (eVar 1) (eaCons (eVar 2) (eaCons (eVar 7) eaNil)))))) (eUn reprD (eVar 8)))) (eB (eOp neD (eUn reprD (eCallW [3, 2, 1, 0] 4 ij (eaCons (eVar 6) (eaCons (eVar 2) (eaCons (eVar 1) (eaCons (eVar 0) eaNil)))))) (eUn reprD (eVar 8))))) (sRet (eC (.bl false))) sNext)))) [5, 6, 7, 8]) (sRet (eC (.bl true))))
      [.val a, .val b, .val c, .val (.lst (S.map dSt)), .pot, .un, .un, .un, .un] K1 := by
  refine And.intro (by decide) (And.intro (by decide) ?_)
  rw [show (12 : Int) = ((12 : Nat) : Int) from rfl, rg_map]
  refine for_det (E := fun _ => [.val a, .val b, .val c, .val (.lst (S.map dSt)), .pot, .un, .un, .un, .un]) (done := []) (fun d i K' hn hv => ?_) hk
  obtain ⟨v, hv⟩ := hv
  have hi : i < 12 := List.mem_range.mp (by rw [show List.range 12 = d ++ i :: v from hv.symm]; simp)
  exact c_turn hpk hls hij hi hn
theorem p_judged {p f b : List Nat} {S : List Std} {k : DK} (o : Rok p f b) (hS : 0 < S.length) (hn : S.length ≤ 1000000) (hs : ∀ s ∈ S, Sok p f b s) (hk : k (.bl true)) : d_l_judged_right [.lst (DL.dNs p), .lst (DL.dNs f), .lst (DL.dNs b), .lst (S.map dSt)] k := by
  show e_l_judged_right [.val (.lst (DL.dNs p)), .val (.lst (DL.dNs f)), .val (.lst (DL.dNs b)), .val (.lst (S.map dSt)), .pot, .un, .un, .un, .un] (knE k)
  unfold e_l_judged_right
  exact c_judged (st := stk p f b) (fun k h => p_pick hS hn h) (fun s h k hk => p_l_stuck o (hs s h).len hk) (fun t s h k hk => (show d_is_round_stuck [_, sq false f, _, dStT t s] _ from p_judge o (hs s h) hk)) hk
end K75

set_option Elab.async false
set_option linter.all false
set_option maxRecDepth 100000
set_option maxHeartbeats 400000
/-! helps: numbers, slices, what is among some, what is written -/
namespace K75
open PySem PySem.Spec PyProof.Rows L2 DL PySem.W
theorem lt_i {c d : Int} : dataLt (.int c) (.int d) = decide (c < d) := by
  unfold dataLt
  simp only [keyToks]
  by_cases h : c = d
  · subst h
    have : ¬ c < c := by omega
    rw [decide_eq_false this]
    refine (PyProof.Rows.lex_self (O := itemOrd) (Sum.inl 1) _ _).trans ((PyProof.Rows.lex_self (O := itemOrd) (Sum.inl c) _ _).trans ?_)
    rfl
  · exact (PyProof.Rows.lex_self (O := itemOrd) (Sum.inl 1) _ _).trans ((PyProof.Rows.lex_diff (O := itemOrd) (x := Sum.inl c) (y := Sum.inl d) (fun e => h (Sum.inl.inj e))).trans rfl)
theorem min_nat : ∀ (xs : List Nat) (x : Nat), minLD (dN x) (xs.map dN) = dN (xs.foldl min x)
  | [], x => rfl
  | y :: ys, x => by
    have e : minLD (dN x) ((y :: ys).map dN) = minLD (if dataLt (toPy (dN y)) (toPy (dN x)) then dN y else dN x) (ys.map dN) := rfl
    have e2 : dataLt (toPy (dN y)) (toPy (dN x)) = decide ((y : Int) < (x : Int)) := lt_i
    rw [e, e2, List.foldl_cons]
    by_cases h : y < x
    · rw [decide_eq_true (by omega), if_pos rfl, min_nat ys y, show min x y = y by omega]
    · rw [decide_eq_false (by omega), if_neg (by decide), min_nat ys x, show min x y = x by omega]
theorem fold_min : ∀ (xs : List Nat) (x : Nat), xs.foldl min x ∈ x :: xs ∧ ∀ y ∈ x :: xs, xs.foldl min x ≤ y
  | [], x => ⟨by simp, fun y h => by rw [List.mem_singleton.mp h]; exact Nat.le_refl _⟩
  | y :: ys, x => by
    obtain ⟨h1, h2⟩ := fold_min ys (min x y)
    rw [List.foldl_cons]
    refine ⟨?_, fun z hz => ?_⟩
    · rcases List.mem_cons.mp h1 with e | e
      · rw [e]
        rcases Nat.le_total x y with q | q
        · rw [Nat.min_eq_left q]; simp
        · rw [Nat.min_eq_right q]; simp
      · exact List.mem_cons_of_mem _ (List.mem_cons_of_mem _ e)
    · have h0 := h2 _ (List.mem_cons_self ..)
      rcases List.mem_cons.mp hz with e | e
      · rw [e]; omega
      · rcases List.mem_cons.mp e with e | e
        · rw [e]; omega
        · exact h2 z (List.mem_cons_of_mem _ e)
theorem py_ns : ∀ l : List Nat, isPys (l.map dN) = true
  | [] => rfl
  | q :: s => by
    have := py_ns s
    simp only [List.map_cons, isPys, isPy, this, Bool.and_self]
theorem al_ns (l : List Nat) : AlikeAll ((l.map dN).map toPy) := by
  refine ⟨fun x hx y hy => ?_, fun x hx => ?_⟩
  · obtain ⟨a, ha, rfl⟩ := List.mem_map.mp hx
    obtain ⟨s, _, rfl⟩ := List.mem_map.mp ha
    obtain ⟨b, hb, rfl⟩ := List.mem_map.mp hy
    obtain ⟨t, _, rfl⟩ := List.mem_map.mp hb
    simp only [toPy, alike]
  · obtain ⟨a, ha, rfl⟩ := List.mem_map.mp hx
    obtain ⟨s, _, rfl⟩ := List.mem_map.mp ha
    exact fun e => nomatch e
theorem dp_ns : ∀ l : List Nat, PyData.depthAll ((l.map dN).map toPy) ≤ 1
  | [] => by simp only [List.map_nil, PyData.depthAll]; omega
  | s :: l => by
    have := dp_ns l
    simp only [List.map_cons, toPy, PyData.depthAll, PyData.depth] at this ⊢
    omega
/-- the least of some numbers -/
theorem p_minN {l : List Nat} {L : Nat} {k : DK} (h1 : L ∈ l) (h2 : ∀ x ∈ l, L ≤ x) (hk : k (dN L)) : minDL (.lst (l.map dN)) k := by
  cases l with
  | nil => cases h1
  | cons x xs =>
    refine And.intro ⟨py_ns (x :: xs), al_ns (x :: xs), Nat.le_trans (dp_ns (x :: xs)) (by omega)⟩ ?_
    show k (minLD (dN x) (xs.map dN))
    obtain ⟨m1, m2⟩ := fold_min xs x
    rw [min_nat, show xs.foldl min x = L from Nat.le_antisymm (m2 _ h1) (h2 _ m1)]
    exact hk
theorem lay_st : ∀ s : Std, PyData.canLayAll0 (toPys (s.map dPr)) = true
  | [] => rfl
  | q :: s => by
    have := lay_st s
    simp only [List.map_cons, toPys, dPr, toPy, PyData.canLayAll0, PyData.canLay0, this, Bool.and_self]
theorem lay_sts : ∀ l : List Std, PyData.canLayAll0 (toPys (l.map dSt)) = true
  | [] => rfl
  | s :: l => by
    have := lay_sts l
    simp only [List.map_cons, toPys, dSt, toPy, PyData.canLayAll0, PyData.canLay0, this, lay_st s, Bool.and_self]
theorem py_sts : ∀ l : List Std, isPys (l.map dSt) = true
  | [] => rfl
  | s :: l => by
    have := py_sts l
    simp only [List.map_cons, isPys, dSt, isPy, this, py_st s, Bool.and_self]
theorem dp_sts : ∀ l : List Std, PyData.depthAll (toPys (l.map dSt)) ≤ 2
  | [] => by simp only [List.map_nil, toPys, PyData.depthAll]; omega
  | s :: l => by
    have := dp_sts l
    have h2 := dp_st s
    simp only [List.map_cons, dSt, toPys, toPy, PyData.depthAll, PyData.depth] at this ⊢
    omega
/-- a stand among some -/
theorem in_st {neg : Bool} {s : Std} {S : List Std} {k : DK} (h : s ∈ S) (hk : k (.bl (!neg))) : inD neg (.lst (s.map dPr)) (.lst (S.map dSt)) k := by
  refine ⟨_, rfl, .inr ⟨rfl, ⟨py_st s, py_sts S, ?_, ?_⟩, ?_⟩⟩
  · unfold SeqAt.shaped
    have := dp_st s
    simp only [toPy, PyData.canLay0, lay_st s, PyData.depth, Bool.true_and, decide_eq_true_eq]
    omega
  · unfold SeqAt.shaped
    have h := dp_sts S
    rw [Bool.and_eq_true]
    refine ⟨lay_sts S, decide_eq_true ?_⟩
    simp only [PyData.depth]
    omega
  · have e : ((toPys (S.map dSt)).any fun z => PyData.eqv z (toPy (.lst (s.map dPr)))) = true := by
      refine List.any_eq_true.mpr ⟨toPy (dSt s), ?_, SeqAt.eqv_refl _ ?_⟩
      · have : ∀ l : List Std, s ∈ l → toPy (dSt s) ∈ toPys (l.map dSt) := fun l => by
          induction l with
          | nil => intro h; cases h
          | cons x l ih =>
            intro h
            show toPy (dSt s) ∈ toPy (dSt x) :: toPys (l.map dSt)
            rcases List.mem_cons.mp h with e | e
            · rw [e]; exact List.mem_cons_self ..
            · exact List.mem_cons_of_mem _ (ih e)
        exact this S h
      · exact lay_st s
    rw [e]
    cases neg with
    | true => exact hk
    | false => exact hk
/-- slices that make a row begin elsewhere -/
theorem cut_lo (l : List Nat) (i : Nat) : DL.cutD (DL.dNs l) (some (i : Int)) none = DL.dNs (l.drop i) := by
  unfold DL.cutD DL.dNs
  rw [HT.sIx_nat, HT.sIx_none, List.length_map]
  by_cases h : i ≤ l.length
  · rw [Nat.min_eq_left h, ← List.map_drop, List.take_of_length_le (by simp)]
  · rw [Nat.min_eq_right (by omega), List.drop_of_length_le (by simp), List.drop_of_length_le (by omega)]
    simp
theorem cut_hi (l : List Nat) (i : Nat) : DL.cutD (DL.dNs l) none (some (i : Int)) = DL.dNs (l.take i) := by
  unfold DL.cutD DL.dNs
  rw [HT.sIx_nat, HT.sIx_none, List.length_map, List.drop_zero, Nat.sub_zero, ← List.map_take]
  congr 1
  by_cases h : i ≤ l.length
  · rw [Nat.min_eq_left h]
  · rw [Nat.min_eq_right (by omega), List.take_of_length_le (Nat.le_refl _), List.take_of_length_le (by omega)]
def PW (l : List Nat) : Prop := l.length ≤ 7 ∧ ∀ x ∈ l, x < 8
theorem w_depth : ∀ l : List Nat, PyData.depthAll (toPys (DL.dNs l)) = 0
  | [] => rfl
  | a :: l => by
    have := w_depth l
    unfold DL.dNs at this ⊢
    simp only [List.map_cons, toPys, toPy, PyData.depthAll, PyData.depth, this]
    rfl
theorem w_show : ∀ l : List Nat, (∀ x ∈ l, x < 8) → PyData.showableAll (toPys (DL.dNs l)) = true
  | [], _ => rfl
  | a :: l, h => by
    have ih := w_show l fun x hx => h x (List.mem_cons_of_mem _ hx)
    have ha := h a List.mem_cons_self
    unfold DL.dNs at ih ⊢
    have : (a : Int).natAbs.log2 < 1920 := by
      rw [show (a : Int).natAbs = a from Int.natAbs_natCast a]
      by_cases z : a = 0
      · subst z; decide
      · have := (Nat.log2_lt z (k := 10)).mpr (by omega)
        omega
    simp only [List.map_cons, toPys, toPy, PyData.showableAll, PyData.showable, ih, this, decide_true, Bool.and_self]
theorem w_dict : ∀ l : List Nat, PyData.hasDictAll (toPys (DL.dNs l)) = false
  | [] => rfl
  | a :: l => by
    have ih := w_dict l
    unfold DL.dNs at ih ⊢
    simp only [List.map_cons, toPys, toPy, PyData.hasDictAll, PyData.hasDict, ih, Bool.or_self]
theorem w_weight : ∀ l : List Nat, (∀ x ∈ l, x < 8) → PyData.weightAll (toPys (DL.dNs l)) ≤ 11 * l.length
  | [], _ => Nat.le_refl _
  | a :: l, h => by
    have ih := w_weight l fun x hx => h x (List.mem_cons_of_mem _ hx)
    have ha := h a List.mem_cons_self
    unfold DL.dNs at ih ⊢
    simp only [List.map_cons, toPys, toPy, PyData.weightAll, PyData.weight, List.length_cons]
    have : (if ((a : Int) == 0) = true then 0 else (a : Int).natAbs.log2 + 1) ≤ 10 := by
      split
      · omega
      · rename_i z
        have z' : a ≠ 0 := fun e => z (by rw [e]; rfl)
        rw [Int.natAbs_natCast]
        have := (Nat.log2_lt z' (k := 10)).mpr (by omega)
        omega
    omega
theorem w_small : ∀ n : Nat, n < 8 → (PyData.shown (.int (n : Int))).length ≤ 8 := by decide +kernel
theorem w_leaves : ∀ l : List Nat, (∀ x ∈ l, x < 8) → PyData.leavesShortAll 8 (toPys (DL.dNs l)) = true
  | [], _ => rfl
  | a :: l, h => by
    have ih := w_leaves l fun x hx => h x (List.mem_cons_of_mem _ hx)
    have ha := w_small a (h a List.mem_cons_self)
    unfold DL.dNs at ih ⊢
    simp only [List.map_cons, toPys, toPy, PyData.leavesShortAll, PyData.leavesShort, ih, ha, decide_true, Bool.and_self]
/-- three rows can be written -/
theorem w_rows {p f b : List Nat} (hp : PW p) (hf : PW f) (hb : PW b) : wrD (.lst [.lst (DL.dNs p), .lst (DL.dNs f), .lst (DL.dNs b)]) := by
  obtain ⟨p1, p2⟩ := hp
  obtain ⟨f1, f2⟩ := hf
  obtain ⟨b1, b2⟩ := hb
  have e : toPy (.lst [.lst (DL.dNs p), .lst (DL.dNs f), .lst (DL.dNs b)]) = .list [.list (toPys (DL.dNs p)), .list (toPys (DL.dNs f)), .list (toPys (DL.dNs b))] := rfl
  have wp := w_weight p p2
  have wf := w_weight f f2
  have wb := w_weight b b2
  refine ⟨?_, ?_, ?_, ?_, ?_⟩
  · have := py_ns p
    have := py_ns f
    have := py_ns b
    simp only [isPy, isPys, DL.dNs, *, Bool.and_self]
  · rw [e]
    simp only [PyData.showable, PyData.showableAll, w_show p p2, w_show f f2, w_show b b2, Bool.and_self]
  · rw [e]
    simp only [PyData.hasDict, PyData.hasDictAll, w_dict, Bool.or_self]
  · rw [e]
    simp only [PyData.depth, PyData.depthAll, w_depth]
    decide
  · rw [e, ← sizeLine_eq]
    refine PyData.shown_fits (B := 8) (by decide) (by decide) ?_ ?_
    · simp only [PyData.leavesShort, PyData.leavesShortAll, w_leaves p p2, w_leaves f f2, w_leaves b b2, Bool.and_self]
    · simp only [PyData.weight, PyData.weightAll]
      omega
theorem so_app (a b : Str) : PyData.strOk (a ++ b) = (PyData.strOk a && PyData.strOk b) := by
  unfold PyData.strOk
  show (a.cps ++ b.cps).all _ = _
  rw [Array.all_append]
theorem so_text : ∀ (l : List Str) (k : Nat) (acc : Str), PyData.strOk acc = true → (∀ x ∈ l, PyData.strOk x = true) → PyData.strOk (textFrom k acc l) = true
  | [], _, _, ha, _ => ha
  | x :: l, k, acc, ha, h => by
    refine so_text l (k + 1) _ ?_ fun z hz => h z (List.mem_cons_of_mem _ hz)
    rw [so_app, so_app, ha, h x (by simp)]
    by_cases z : k > 0
    · rw [if_pos z]; decide +kernel
    · rw [if_neg z]; decide +kernel
theorem so_list {l : List Str} (h : ∀ x ∈ l, PyData.strOk x = true) : PyData.strOk (listText l) = true := by
  unfold listText
  rw [so_app, so_text l 0 _ (by decide +kernel) h]
  decide +kernel
theorem so_small : ∀ n : Nat, n < 8 → PyData.strOk (PyData.shown (.int (n : Int))) = true := by decide +kernel
theorem so_ns : ∀ l : List Nat, (∀ x ∈ l, x < 8) → ∀ s ∈ PyData.shownAll (toPys (DL.dNs l)), PyData.strOk s = true
  | [], _, s, h => by cases h
  | a :: l, hl, s, h => by
    have h : s ∈ PyData.shown (.int (a : Int)) :: PyData.shownAll (toPys (DL.dNs l)) := h
    rcases List.mem_cons.mp h with e | e
    · rw [e]; exact so_small a (hl a (by simp))
    · exact so_ns l (fun x hx => hl x (List.mem_cons_of_mem _ hx)) s e
/-- what three rows write themselves as is equal to itself -/
theorem so_rows {p f b : List Nat} (hp : PW p) (hf : PW f) (hb : PW b) : PyData.strOk (toPy (.lst [.lst (DL.dNs p), .lst (DL.dNs f), .lst (DL.dNs b)])).shown = true := by
  show PyData.strOk (listText [listText (PyData.shownAll (toPys (DL.dNs p))), listText (PyData.shownAll (toPys (DL.dNs f))), listText (PyData.shownAll (toPys (DL.dNs b)))]) = true
  refine so_list fun x hx => ?_
  simp only [List.mem_cons, List.not_mem_nil, or_false] at hx
  rcases hx with e | e | e
  · rw [e]; exact so_list (so_ns p hp.2)
  · rw [e]; exact so_list (so_ns f hf.2)
  · rw [e]; exact so_list (so_ns b hb.2)
theorem eq_str {x : Str} {k : DK} (h : PyData.strOk x = true) (hk : k (.bl true)) : eqD (.str x) (.str x) k := by
  have hs : SeqAt.shaped (toPy (.str x)) = true := by
    unfold SeqAt.shaped
    simp only [toPy, PyData.canLay0, h, PyData.depth, Bool.true_and]
    decide
  refine And.intro ⟨rfl, rfl, hs, hs⟩ ?_
  rw [show PyData.eqv (toPy (.str x)) (toPy (.str x)) = true from SeqAt.eqv_refl _ h]
  exact hk
end K75

set_option Elab.async false
set_option linter.all false
set_option maxRecDepth 100000
set_option maxHeartbeats 4000000
/-! the drawn rounds -/
namespace K75
open PySem PySem.Spec PyProof.Rows L2 DL
def mins : List Nat → Nat
  | [] => 0
  | [x] => x
  | x :: y :: l => if Nat.ble x (mins (y :: l)) then x else mins (y :: l)
def leastF (p f b : List Nat) : Nat := mins ((foundL p f b).map carts)
def rotL (k : Nat) (l : List Nat) : List Nat := l.drop k ++ l.take k
def okB : List Nat → List Nat → List Nat → Std → Bool
  | x :: p, y :: f, z :: b, q :: s => Nat.ble q.1 y && (Nat.ble q.2 z && (Nat.ble (q.1 + q.2) x && okB p f b s))
  | [], [], [], [] => true
  | _, _, _, _ => false
def chk (p f b : List Nat) : Bool :=
  ((foundL p f b).all fun s => !(Nat.beq (carts s) (leastF p f b)) || (stk p f b s && okB p f b s)) &&
  (Nat.beq (leastF p.reverse b.reverse f.reverse) (leastF p f b) && (List.range p.length).all fun k => Nat.beq (leastF (rotL k p) (rotL k f) (rotL k b)) (leastF p f b))
abbrev Tr := Nat × Nat × Nat
def Ys : List Tr := [(1,1,1),(2,1,1),(2,1,2),(2,2,1),(2,2,2)]
def qp (q : List Tr) : List Nat := q.map fun t => t.1
def qf (q : List Tr) : List Nat := q.map fun t => t.2.1
def qb (q : List Tr) : List Nat := q.map fun t => t.2.2
def Case (q : List Tr) : Prop := ((q.length = 3 ∨ q.length = 4) ∧ ∀ t ∈ q, t ∈ Ys) ∨ ∃ a c, a ∈ Ys ∧ c ∈ Ys ∧ q = [a, (3, 1, 1), c, (3, 2, 2)]
def chkQ (q : List Tr) : Bool := chk (qp q) (qf q) (qb q) && Nat.ble (pairs (qp q) (qf q) (qb q)).length 20
end K75

set_option Elab.async false
set_option linter.all false
set_option maxRecDepth 100000
set_option maxHeartbeats 400000
/-! the law's pieces -/
namespace K75
open PySem PySem.Spec PyProof.Rows L2 DL PySem.W
theorem dr {m : Nat} {k : DK} (h0 : 0 < m) (hm : m ≤ 1000000) (h : ∀ d, d < m → k (dN d)) : b_draw [dN m] k := ⟨m, rfl, h0, hm, h⟩
theorem for_inv {α : Type} {c : α → D} {eg : EG} {eb : ES} {dead : List Nat} {Inv : Nat → DL.Env → Prop} {k : Kn} {N : Nat} : ∀ {xs : List α} {i : Nat} {env : DL.Env}, i + xs.length ≤ N →
    (∀ i a env, ∀ K' : Kn, i < N → Inv i env → (∀ e, Inv (i + 1) (forg e dead) → K'.nx e) → eg (c a) env fun env1 => eb env1 K') → (∀ env, Inv (i + xs.length) env → k.nx env) → Inv i env → forGo eg eb dead (xs.map c) env k
  | [], i, env, _, _, hk, hi => hk env hi
  | x :: xs, i, env, hN, h, hk, hi => h i x env _ (by rw [List.length_cons] at hN; omega) hi fun e he => (show forGo eg eb dead (xs.map c) (forg e dead) k from for_inv (xs := xs) (i := i + 1) (by rw [List.length_cons] at hN; omega) h (fun env h2 => hk env (by rw [show i + (x :: xs).length = i + 1 + xs.length by rw [List.length_cons]; omega]; exact h2)) he)
theorem c1 {K1 : Kn} (hk : ∀ n, n = 3 ∨ n = 4 → K1.nx [.pot, .val (dN n), .un, .un, .un, .un, .un, .un, .un, .un, .un, .un, .un, .un]) :
    (sAsg (eOp addU (eC (.int 3)) (eIf (eB (eOp eqD (eCallP 0 1 b_draw (eaCons (eC (.int 4)) eaNil)) (eC (.int 0)))) (eC (.int 1)) (eC (.int 0)))) (egName 1)) [.pot, .un, .un, .un, .un, .un, .un, .un, .un, .un, .un, .un, .un, .un] K1 := by
  refine And.intro rfl (And.intro rfl ((show b_draw [dN 4] _ from dr (by decide) (by decide) fun d hd => ?_)))
  simp only [eC]
  refine (show eqD (.int (d : Int)) (.int 0) _ from DL.eq_int ?_)
  cases decide ((d : Int) = 0) with
  | true => exact hk 4 (.inr rfl)
  | false => exact hk 3 (.inl rfl)
theorem ys_in : ∀ d, d < 2 → ∀ e, e < 1 + d → ∀ g, g < 1 + d → ((1 + d, 1 + e, 1 + g) : Tr) ∈ Ys := fun d hd e he g hg => by
  rcases (by omega : (d = 0 ∧ e = 0 ∧ g = 0) ∨ (d = 1 ∧ e = 0 ∧ g = 0) ∨ (d = 1 ∧ e = 0 ∧ g = 1) ∨ (d = 1 ∧ e = 1 ∧ g = 0) ∨ (d = 1 ∧ e = 1 ∧ g = 1)) with ⟨rfl, rfl, rfl⟩ | ⟨rfl, rfl, rfl⟩ | ⟨rfl, rfl, rfl⟩ | ⟨rfl, rfl, rfl⟩ | ⟨rfl, rfl, rfl⟩ <;> decide
theorem c_row {n i : SV} {p f b : List Nat} {K1 : Kn} (hp : p.length ≤ 1000) (hf : f.length ≤ 1000) (hb : b.length ≤ 1000)
    (hk : ∀ x y z, ((x, y, z) : Tr) ∈ Ys → K1.nx [.pot, n, .ml (DL.dNs (p ++ [x])), .ml (DL.dNs (f ++ [y])), .ml (DL.dNs (b ++ [z])), i, .un, .un, .un, .un, .un, .un, .un, .un]) :
    (sSeq (sApp 2 (eOp addU (eC (.int 1)) (eCallP 0 1 b_draw (eaCons (eC (.int 2)) eaNil)))) (sSeq (sApp 3 (eOp addU (eC (.int 1)) (eCallP 0 1 b_draw (eaCons (eOp ixD (eVarO 2) (eUn negD (eC (.int 1)))) eaNil)))) (sApp 4 (eOp addU (eC (.int 1)) (eCallP 0 1 b_draw (eaCons (eOp ixD (eVarO 2) (eUn negD (eC (.int 1)))) eaNil)))))) [.pot, n, .ml (DL.dNs p), .ml (DL.dNs f), .ml (DL.dNs b), i, .un, .un, .un, .un, .un, .un, .un, .un] K1 := by
  have el : ∀ l : List Nat, (DL.dNs l).length = l.length := fun l => by simp [DL.dNs]
  have last : ∀ (l : List Nat) (x : Nat), (DL.dNs l ++ [dN x])[(DL.dNs l ++ [dN x]).length - 1]? = some (dN x) := fun l x => by simp
  have ap : ∀ (l : List Nat) (x : Nat), DL.dNs l ++ [dN x] = DL.dNs (l ++ [x]) := fun l x => by simp [DL.dNs]
  refine And.intro rfl (And.intro rfl ((show b_draw [dN 2] _ from dr (by decide) (by decide) fun d hd => ?_)))
  refine (show addU (dN 1) (dN d) _ from add_N ?_)
  refine And.intro (by rw [el]; omega) ?_
  simp only [List.set_cons_succ, List.set_cons_zero]
  refine And.intro rfl ?_
  refine (show ixD (.lst (DL.dNs p ++ [dN (1 + d)])) (.int (-1)) _ from ix_last (last p (1 + d)) ?_)
  refine And.intro rfl (dr (by omega) (by omega) fun e he => ?_)
  refine (show addU (dN 1) (dN e) _ from add_N ?_)
  refine And.intro (by rw [el]; omega) ?_
  simp only [List.set_cons_succ, List.set_cons_zero]
  refine And.intro rfl ?_
  refine (show ixD (.lst (DL.dNs p ++ [dN (1 + d)])) (.int (-1)) _ from ix_last (last p (1 + d)) ?_)
  refine And.intro rfl (dr (by omega) (by omega) fun g hg => ?_)
  refine (show addU (dN 1) (dN g) _ from add_N ?_)
  refine And.intro (by rw [el]; omega) ?_
  have := hk (1 + d) (1 + e) (1 + g) (ys_in d hd e he g hg)
  rw [← ap, ← ap, ← ap] at this
  exact this
theorem c_rows {n : Nat} {K1 : Kn} (hn : n = 3 ∨ n = 4)
    (hk : ∀ q : List Tr, q.length = n → (∀ t ∈ q, t ∈ Ys) → K1.nx [.pot, .val (dN n), .ml (DL.dNs (qp q)), .ml (DL.dNs (qf q)), .ml (DL.dNs (qb q)), .un, .un, .un, .un, .un, .un, .un, .un, .un]) :
    (sSeq (sPar3 2 3 4 (emF (eLst eaNil)) (emF (eLst eaNil)) (emF (eLst eaNil))) (sFor (eRng1 (eVar 1)) (egName 5) (sSeq (sApp 2 (eOp addU (eC (.int 1)) (eCallP 0 1 b_draw (eaCons (eC (.int 2)) eaNil)))) (sSeq (sApp 3 (eOp addU (eC (.int 1)) (eCallP 0 1 b_draw (eaCons (eOp ixD (eVarO 2) (eUn negD (eC (.int 1)))) eaNil)))) (sApp 4 (eOp addU (eC (.int 1)) (eCallP 0 1 b_draw (eaCons (eOp ixD (eVarO 2) (eUn negD (eC (.int 1)))) eaNil)))))) [5])) [.pot, .val (dN n), .un, .un, .un, .un, .un, .un, .un, .un, .un, .un, .un, .un] K1 := by
  refine And.intro (by decide) (And.intro (by decide) (And.intro (by decide) ?_))
  simp only [List.set_cons_succ, List.set_cons_zero]
  refine And.intro (by omega) (And.intro (by omega) ?_)
  rw [rg_map]
  refine for_inv (Inv := fun i env => ∃ q : List Tr, q.length = i ∧ (∀ t ∈ q, t ∈ Ys) ∧ env = [.pot, .val (dN n), .ml (DL.dNs (qp q)), .ml (DL.dNs (qf q)), .ml (DL.dNs (qb q)), .un, .un, .un, .un, .un, .un, .un, .un, .un]) (i := 0) (N := n) (by rw [List.length_range]; omega) (fun i a env K' hN hi hn2 => ?_) (fun env hi => ?_) ⟨[], rfl, (fun t h => by cases h), rfl⟩
  · obtain ⟨q, h1, h2, rfl⟩ := hi
    simp only [egName, List.set_cons_succ, List.set_cons_zero]
    have l1 : (qp q).length = i := by unfold qp; rw [List.length_map]; exact h1
    have l2 : (qf q).length = i := by unfold qf; rw [List.length_map]; exact h1
    have l3 : (qb q).length = i := by unfold qb; rw [List.length_map]; exact h1
    refine c_row (by omega) (by omega) (by omega) fun x y z hy => hn2 _ ⟨q ++ [(x, y, z)], by simp [h1], fun t ht => ?_, ?_⟩
    · rcases List.mem_append.mp ht with h | h
      · exact h2 t h
      · rw [List.mem_singleton.mp h]; exact hy
    · unfold qp qf qb
      rw [List.map_append, List.map_append, List.map_append]
      rfl
  · obtain ⟨q, h1, h2, rfl⟩ := hi
    rw [List.length_range, Nat.zero_add] at h1
    exact hk q h1 h2
theorem c_case {n : Nat} {q : List Tr} {K1 : Kn} (hn : n = 3 ∨ n = 4) (h1 : q.length = n) (h2 : ∀ t ∈ q, t ∈ Ys)
    (hk : ∀ q : List Tr, Case q → q.length = n → K1.nx [.pot, .val (dN n), .val (.lst (DL.dNs (qp q))), .val (.lst (DL.dNs (qf q))), .val (.lst (DL.dNs (qb q))), .un, .un, .un, .un, .un, .un, .un, .un, .un]) :
    (sIf (eAndT (eB (eOp eqD (eVar 1) (eC (.int 4)))) (eB (eOp eqD (eCallP 0 1 b_draw (eaCons (eC (.int 2)) eaNil)) (eC (.int 0))))) (sSeq (sAsg (eF (eLst (eaCons (eOp ixD (eVar 2) (eC (.int 0))) (eaCons (eC (.int 3)) (eaCons (eOp ixD (eVar 2) (eC (.int 2))) (eaCons (eC (.int 3)) eaNil)))))) (egName 2)) (sPar 3 4 (emE (eF (eLst (eaCons (eOp ixD (eVar 3) (eC (.int 0))) (eaCons (eC (.int 1)) (eaCons (eOp ixD (eVar 3) (eC (.int 2))) (eaCons (eC (.int 2)) eaNil))))))) (emE (eF (eLst (eaCons (eOp ixD (eVar 4) (eC (.int 0))) (eaCons (eC (.int 1)) (eaCons (eOp ixD (eVar 4) (eC (.int 2))) (eaCons (eC (.int 2)) eaNil))))))))) sNext)
      [.pot, .val (dN n), .val (.lst (DL.dNs (qp q))), .val (.lst (DL.dNs (qf q))), .val (.lst (DL.dNs (qb q))), .un, .un, .un, .un, .un, .un, .un, .un, .un] K1 := by
  have go : ∀ x : Bool, (x = true → n = 4) → (if x = true then (sSeq (sAsg (eF (eLst (eaCons (eOp ixD (eVar 2) (eC (.int 0))) (eaCons (eC (.int 3)) (eaCons (eOp ixD (eVar 2) (eC (.int 2))) (eaCons (eC (.int 3)) eaNil)))))) (egName 2)) (sPar 3 4 (emE (eF (eLst (eaCons (eOp ixD (eVar 3) (eC (.int 0))) (eaCons (eC (.int 1)) (eaCons (eOp ixD (eVar 3) (eC (.int 2))) (eaCons (eC (.int 2)) eaNil))))))) (emE (eF (eLst (eaCons (eOp ixD (eVar 4) (eC (.int 0))) (eaCons (eC (.int 1)) (eaCons (eOp ixD (eVar 4) (eC (.int 2))) (eaCons (eC (.int 2)) eaNil))))))))) [.pot, .val (dN n), .val (.lst (DL.dNs (qp q))), .val (.lst (DL.dNs (qf q))), .val (.lst (DL.dNs (qb q))), .un, .un, .un, .un, .un, .un, .un, .un, .un] K1
      else sNext [.pot, .val (dN n), .val (.lst (DL.dNs (qp q))), .val (.lst (DL.dNs (qf q))), .val (.lst (DL.dNs (qb q))), .un, .un, .un, .un, .un, .un, .un, .un, .un] K1) := fun x hx => by
    cases x with
    | false => exact hk q (.inl ⟨by omega, h2⟩) h1
    | true =>
      have hn4 := hx rfl
      match q, h1.trans hn4 with
      | [t0, t1, t2, t3], _ =>
        rw [if_pos rfl]
        refine (show ixD (.lst (DL.dNs (qp [t0, t1, t2, t3]))) (dN 0) _ from ix_lst (d := dN t0.1) rfl ?_)
        refine (show ixD (.lst (DL.dNs (qp [t0, t1, t2, t3]))) (dN 2) _ from ix_lst (d := dN t2.1) rfl ?_)
        refine And.intro (show 4 ≤ 100000 by decide) ?_
        simp only [egName, List.set_cons_succ, List.set_cons_zero]
        refine (show ixD (.lst (DL.dNs (qf [t0, t1, t2, t3]))) (dN 0) _ from ix_lst (d := dN t0.2.1) rfl ?_)
        refine (show ixD (.lst (DL.dNs (qf [t0, t1, t2, t3]))) (dN 2) _ from ix_lst (d := dN t2.2.1) rfl ?_)
        refine And.intro (show 4 ≤ 100000 by decide) ?_
        refine (show ixD (.lst (DL.dNs (qb [t0, t1, t2, t3]))) (dN 0) _ from ix_lst (d := dN t0.2.2) rfl ?_)
        refine (show ixD (.lst (DL.dNs (qb [t0, t1, t2, t3]))) (dN 2) _ from ix_lst (d := dN t2.2.2) rfl ?_)
        refine And.intro (show 4 ≤ 100000 by decide) ?_
        exact hk [t0, (3, 1, 1), t2, (3, 2, 2)] (.inr ⟨t0, t2, h2 t0 (by simp), h2 t2 (by simp), rfl⟩) (by rw [hn4]; rfl)
  have e4 : ∀ k : Bool → Prop, k (decide (n = 4)) → eB (eOp eqD (eVar 1) (eC (.int 4))) [.pot, .val (dN n), .val (.lst (DL.dNs (qp q))), .val (.lst (DL.dNs (qf q))), .val (.lst (DL.dNs (qb q))), .un, .un, .un, .un, .un, .un, .un, .un, .un] k := fun k h => by
    unfold eB eOp eVar eC
    simp only [List.getElem?_cons_succ, List.getElem?_cons_zero]
    refine DL.eq_int (i := (n : Int)) (j := 4) ?_
    rw [show decide ((n : Int) = 4) = decide (n = 4) from decide_eq_decide.mpr (by omega)]
    exact h
  simp only [sIf, eAndT]
  refine e4 _ ?_
  by_cases h4 : n = 4
  · rw [decide_eq_true h4]
    refine And.intro rfl (And.intro rfl ((show b_draw [dN 2] _ from dr (by decide) (by decide) fun d hd => ?_)))
    simp only [eC]
    refine (show eqD (.int (d : Int)) (.int 0) _ from DL.eq_int ?_)
    exact go _ fun _ => h4
  · rw [decide_eq_false h4]
    exact go false fun e => nomatch e
end K75

set_option Elab.async false
set_option linter.all false
set_option maxRecDepth 100000
set_option maxHeartbeats 400000
/-! the law's pieces, further -/
namespace K75
open PySem PySem.Spec PyProof.Rows L2 DL PySem.W
theorem c5 {la : List D → DK → Prop} {n : SV} {P F B A : D} {K1 : Kn} (hla : ∀ k : DK, k A → la [P, F, B] k) (hw : wrD (.lst [P, F, B]))
    (hk : K1.nx [.pot, n, .val P, .val F, .val B, .un, .val (.str (toPy (.lst [P, F, B])).shown), .val A, .un, .un, .un, .un, .un, .un]) :
    (sPar 6 7 (emE (eUn reprD (eF (eLst (eaCons (eVar 2) (eaCons (eVar 3) (eaCons (eVar 4) eaNil))))))) (emE (eCall 3 la (eaCons (eVar 2) (eaCons (eVar 3) (eaCons (eVar 4) eaNil))))))
      [.pot, n, .val P, .val F, .val B, .un, .un, .un, .un, .un, .un, .un, .un, .un] K1 := by
  refine And.intro (show 3 ≤ 100000 by decide) (And.intro hw (And.intro rfl (hla _ ?_)))
  exact hk
theorem c6 {ls : List D → DK → Prop} {n s6 : SV} {P F B : D} {S : List Std} {st : Std → Bool} {K1 : Kn} (hS : S.length ≤ 100000) (hls : ∀ s ∈ S, ∀ k : DK, k (.bl (st s)) → ls [P, F, B, dSt s] k)
    (hk : K1.nx [.pot, n, .val P, .val F, .val B, .un, s6, .val (.lst (S.map dSt)), .val (.lst ((S.filter st).map dSt)), .un, .un, .un, .un, .un]) :
    (sAsg (eF (eLc (eSeq (eVar 7)) (egName 12) (eB (eCall 4 ls (eaCons (eVar 2) (eaCons (eVar 3) (eaCons (eVar 4) (eaCons (eVar 12) eaNil)))))) (eVar 12) [12])) (egName 8))
      [.pot, n, .val P, .val F, .val B, .un, s6, .val (.lst (S.map dSt)), .un, .un, .un, .un, .un, .un] K1 := by
  refine And.intro (by rw [List.length_map]; exact hS) ?_
  refine lc_filter (p := st) (g := dSt) (fun s hs kk hkk => ?_) hk
  simp only [env0, env0L, knE, knF, sSeq, sAsg, sAsgF, sIf, sRet, sRetF, sRetM, sRetN, sDrop, sNext, sFor, sPar, sPar3, emE, emF, sKnow, sApp, sExt, eVar, eVarO, eC, eF, eOp, eOpF, eUn, eUnF, eB, eAnd, eOr, eNot, eIf, eaNil, eaCons, eTup, eLst, eYes, eChain, eCall, eCallF, eCallP, eCallL, eCallW, eCallWF, eIsi, eIsi2, isiD, isi2D, eLc, eLcF, eSeq, eRng1, eEnum, eRgo, egName, egTup, egNil, egCons, wipeE, forg, List.map_cons, List.map_nil, List.cons_append, List.nil_append, List.append_nil, List.getElem?_cons_zero, List.getElem?_cons_succ, List.set_cons_zero, List.set_cons_succ, List.length_cons, List.length_nil, if_true, if_false, Nat.reduceAdd, Nat.reduceSub, Nat.reduceLeDiff, Bool.false_eq_true, List.replicate, true_and, and_true, Bool.not_true, Bool.not_false, Nat.zero_add, Nat.add_zero, Nat.sub_zero]
  refine hls s hs _ ?_
  cases e : st s with
  | true => rw [e] at hkk; exact hkk
  | false => rw [e] at hkk; exact hkk
theorem c_sum {env : DL.Env} {s : Std} {k : DK} (hs : s.length ≤ 1000) (hk : k (dN (carts s)))
    (he : ∀ q : Nat × Nat, ∀ kk : DK, kk (dN (q.1 + q.2)) → (egName 13) (dPr q) env fun env1 => (eOp addU (eOp ixD (eVar 13) (eC (.int 0))) (eOp ixD (eVar 13) (eC (.int 1)))) env1 kk) :
    (s.map dPr).length ≤ 100000 ∧ lcGo (eLcF (egName 13) eYes (eOp addU (eOp ixD (eVar 13) (eC (.int 0))) (eOp ixD (eVar 13) (eC (.int 1)))) env) (s.map dPr) fun l => sumU (.lst l) k := by
  refine ⟨by rw [List.length_map]; omega, lc_map (g := fun q : Nat × Nat => dN (q.1 + q.2)) (fun q _ kk h => ?_) ?_⟩
  · exact he q _ h
  · have e : s.map (fun q => dN (q.1 + q.2)) = (s.map fun q => q.1 + q.2).map fun (n : Nat) => D.int (n : Int) := by rw [List.map_map]; rfl
    rw [e]
    exact sum_lst hk
theorem c7 {n s6 s7 : SV} {P F B : D} {S : List Std} {L : Nat} {K1 : Kn} (hS : S.length ≤ 100000) (hl : ∀ s ∈ S, s.length ≤ 1000) (h1 : ∃ s ∈ S, carts s = L) (h2 : ∀ s ∈ S, L ≤ carts s)
    (hk : K1.nx [.pot, n, .val P, .val F, .val B, .un, s6, s7, .val (.lst (S.map dSt)), .val (dN L), .un, .un, .un, .un]) :
    (sAsg (eUn minDL (eF (eLc (eSeq (eVar 8)) (egName 12) eYes (eUn sumU (eF (eLc (eSeq (eVar 12)) (egName 13) eYes (eOp addU (eOp ixD (eVar 13) (eC (.int 0))) (eOp ixD (eVar 13) (eC (.int 1)))) [13]))) [12]))) (egName 9))
      [.pot, n, .val P, .val F, .val B, .un, s6, s7, .val (.lst (S.map dSt)), .un, .un, .un, .un, .un] K1 := by
  refine And.intro (by rw [List.length_map]; exact hS) ?_
  refine lc_map (g := fun s => dN (carts s)) (fun s hs kk hkk => ?_) ?_
  · refine c_sum (hl s hs) hkk fun q kk h => ?_
    simp only [env0, env0L, knE, knF, sSeq, sAsg, sAsgF, sIf, sRet, sRetF, sRetM, sRetN, sDrop, sNext, sFor, sPar, sPar3, emE, emF, sKnow, sApp, sExt, eVar, eVarO, eC, eF, eOp, eOpF, eUn, eUnF, eB, eAnd, eOr, eNot, eIf, eaNil, eaCons, eTup, eLst, eYes, eChain, eCall, eCallF, eCallP, eCallL, eCallW, eCallWF, eIsi, eIsi2, isiD, isi2D, eLc, eLcF, eSeq, eRng1, eEnum, eRgo, egName, egTup, egNil, egCons, wipeE, forg, List.map_cons, List.map_nil, List.cons_append, List.nil_append, List.append_nil, List.getElem?_cons_zero, List.getElem?_cons_succ, List.set_cons_zero, List.set_cons_succ, List.length_cons, List.length_nil, if_true, if_false, Nat.reduceAdd, Nat.reduceSub, Nat.reduceLeDiff, Bool.false_eq_true, List.replicate, true_and, and_true, Bool.not_true, Bool.not_false, Nat.zero_add, Nat.add_zero, Nat.sub_zero]
    refine fst_pr (snd_pr ?_)
    exact add_N h
  · have e : S.map (fun s => dN (carts s)) = (S.map carts).map dN := by rw [List.map_map]; rfl
    rw [e]
    obtain ⟨s, hs, rfl⟩ := h1
    exact p_minN (List.mem_map.mpr ⟨s, hs, rfl⟩) (fun x hx => by obtain ⟨t, ht, rfl⟩ := List.mem_map.mp hx; exact h2 t ht) hk
theorem t_ne {env : DL.Env} {ea : EE} {L : Nat} {k : Bool → Prop} (he : ∀ kk : DK, kk (dN L) → ea env kk) (hi : env[9]? = some (.val (dN L))) (hk : k false) : eB (eOp neD ea (eVar 9)) env k := by
  unfold eB eOp
  refine he _ ?_
  unfold eVar
  simp only [hi]
  refine DL.ne_int (i := (L : Int)) (j := (L : Int)) ?_
  rw [decide_eq_true rfl]
  exact hk
theorem c8 {rs : List D → (List D → Prop) → Prop} {n s6 s7 s8 s9 : SV} {P F B : D} {G : Std → Prop} {K1 : Kn} (hrs : ∀ k : List D → Prop, (∀ s, G s → k (s.map dPr)) → rs [P, F, B] k)
    (hk : ∀ s, G s → K1.nx [.pot, n, .val P, .val F, .val B, .un, s6, s7, s8, s9, .ml (s.map dPr), .un, .un, .un]) :
    (sAsgF 10 (eCallF 3 rs (eaCons (eVar 2) (eaCons (eVar 3) (eaCons (eVar 4) eaNil))))) [.pot, n, .val P, .val F, .val B, .un, s6, s7, s8, s9, .un, .un, .un, .un] K1 :=
  And.intro rfl (hrs _ fun s hs => hk s hs)
theorem c13 {n s6 s7 s8 s9 s11 : SV} {P F B : D} {l : List D} {K1 : Kn} (hl : l.length ≤ 1000) (hk : K1.nx [.pot, n, .val P, .val F, .val B, .un, s6, s7, s8, s9, .ml (l ++ [.non]), s11, .un, .un]) :
    (sApp 10 (eC .non)) [.pot, n, .val P, .val F, .val B, .un, s6, s7, s8, s9, .ml l, s11, .un, .un] K1 :=
  And.intro (by omega) hk
theorem r_seq {e f : ES} {env : DL.Env} {k : Kn} (h : e env { k with nx := fun env' => f env' k }) : sSeq e f env k := h
theorem r_seq2 {e f g : ES} {env : DL.Env} {k : Kn} (h : sSeq e f env { k with nx := fun env' => g env' k }) : sSeq e (sSeq f g) env k := h
theorem r_know {R : ES} {n s5 s6 s7 s8 s9 s10 s11 s12 s13 : SV} {p f b : List D} {k : Kn} (h : R [.pot, n, .val (.lst p), .val (.lst f), .val (.lst b), s5, s6, s7, s8, s9, s10, s11, s12, s13] k) :
    sKnow 4 (sKnow 3 (sKnow 2 R)) [.pot, n, .ml p, .ml f, .ml b, s5, s6, s7, s8, s9, s10, s11, s12, s13] k := h
theorem t_in {env : DL.Env} {s : Std} {S : List Std} {k : Bool → Prop} (h1 : env[10]? = some (.ml (s.map dPr))) (h2 : env[8]? = some (.val (.lst (S.map dSt)))) (hs : s ∈ S) (hk : k false) : eB (eOp (inD true) (eVarO 10) (eVar 8)) env k := by
  unfold eB eOp eVar eVarO
  simp only [h1, h2]
  exact in_st hs hk
theorem c9 {rf : List D → DK → Prop} {n s6 s7 : SV} {P F B : D} {S : List Std} {s : Std} {L : Nat} {K1 : Kn} (hrf : ∀ k : DK, k (dN L) → rf [P, F, B] k) (hl : s.length ≤ 1000) (hL : carts s = L) (hs : s ∈ S)
    (hk : K1.nx [.pot, n, .val P, .val F, .val B, .un, s6, s7, .val (.lst (S.map dSt)), .val (dN L), .ml (s.map dPr), .un, .un, .un]) :
    (sIf (eOrT (eB (eOp neD (eCall 3 rf (eaCons (eVar 2) (eaCons (eVar 3) (eaCons (eVar 4) eaNil)))) (eVar 9))) (eOrT (eTmpT 10 (eB (eOp neD (eUn sumU (eF (eLc (eSeq (eVar 10)) (egName 13) eYes (eOp addU (eOp ixD (eVar 13) (eC (.int 0))) (eOp ixD (eVar 13) (eC (.int 1)))) [13]))) (eVar 9)))) (eB (eOp (inD true) (eVarO 10) (eVar 8))))) (sRet (eC (.bl false))) sNext)
      [.pot, n, .val P, .val F, .val B, .un, s6, s7, .val (.lst (S.map dSt)), .val (dN L), .ml (s.map dPr), .un, .un, .un] K1 := by
  simp only [sIf, eOrT, eTmpT]
  refine t_ne (fun kk h => And.intro rfl (hrf _ h)) rfl ?_
  rw [if_neg (by decide)]
  refine t_ne (L := L) (fun kk h => ?_) rfl ?_
  · refine (c_sum (s := s) (env := [.pot, n, .val P, .val F, .val B, .un, s6, s7, .val (.lst (S.map dSt)), .val (dN L), .val (.lst (s.map dPr)), .un, .un, .un]) hl (by rw [hL]; exact h) fun q kk h => ?_)
    simp only [env0, env0L, knE, knF, sSeq, sAsg, sAsgF, sIf, sRet, sRetF, sRetM, sRetN, sDrop, sNext, sFor, sPar, sPar3, emE, emF, sKnow, sApp, sExt, eVar, eVarO, eC, eF, eOp, eOpF, eUn, eUnF, eB, eAnd, eOr, eNot, eIf, eaNil, eaCons, eTup, eLst, eYes, eChain, eCall, eCallF, eCallP, eCallL, eCallW, eCallWF, eIsi, eIsi2, isiD, isi2D, eLc, eLcF, eSeq, eRng1, eEnum, eRgo, egName, egTup, egNil, egCons, wipeE, forg, List.map_cons, List.map_nil, List.cons_append, List.nil_append, List.append_nil, List.getElem?_cons_zero, List.getElem?_cons_succ, List.set_cons_zero, List.set_cons_succ, List.length_cons, List.length_nil, if_true, if_false, Nat.reduceAdd, Nat.reduceSub, Nat.reduceLeDiff, Bool.false_eq_true, List.replicate, true_and, and_true, Bool.not_true, Bool.not_false, Nat.zero_add, Nat.add_zero, Nat.sub_zero]
    refine fst_pr (snd_pr ?_)
    exact add_N h
  · rw [if_neg (by decide)]
    refine t_in rfl rfl hs ?_
    rw [if_neg (by decide)]
    exact hk
theorem c10 {n : Nat} {s2 s3 s4 s6 s7 s8 s9 s10 : SV} {K1 : Kn} (h0 : 0 < n) (hn : n ≤ 1000) (hk : ∀ d, d < n → K1.nx [.pot, .val (dN n), s2, s3, s4, .un, s6, s7, s8, s9, s10, .val (dN d), .un, .un]) :
    (sAsg (eCallP 0 1 b_draw (eaCons (eVar 1) eaNil)) (egName 11)) [.pot, .val (dN n), s2, s3, s4, .un, s6, s7, s8, s9, s10, .un, .un, .un] K1 :=
  And.intro rfl (And.intro rfl (dr h0 (by omega) fun d hd => hk d hd))
theorem c11 {rf : List D → DK → Prop} {n s5 s6 s7 s8 s10 s11 s12 s13 : SV} {p f b : List Nat} {L : Nat} {K1 : Kn} (hrf : ∀ k : DK, k (dN L) → rf [.lst (DL.dNs p.reverse), .lst (DL.dNs b.reverse), .lst (DL.dNs f.reverse)] k)
    (hk : K1.nx [.pot, n, .val (.lst (DL.dNs p)), .val (.lst (DL.dNs f)), .val (.lst (DL.dNs b)), s5, s6, s7, s8, .val (dN L), s10, s11, s12, s13]) :
    (sIf (eB (eOp neD (eCall 3 rf (eaCons (eF (eUnF revF (eVar 2))) (eaCons (eF (eUnF revF (eVar 4))) (eaCons (eF (eUnF revF (eVar 3))) eaNil)))) (eVar 9))) (sRet (eC (.bl false))) sNext)
      [.pot, n, .val (.lst (DL.dNs p)), .val (.lst (DL.dNs f)), .val (.lst (DL.dNs b)), s5, s6, s7, s8, .val (dN L), s10, s11, s12, s13] K1 := by
  have e : ∀ l : List Nat, (DL.dNs l).reverse = DL.dNs l.reverse := fun l => by unfold DL.dNs; rw [List.map_reverse]
  simp only [sIf]
  refine t_ne (fun kk h => And.intro rfl ?_) rfl ?_
  · show rf [.lst (DL.dNs p).reverse, .lst (DL.dNs b).reverse, .lst (DL.dNs f).reverse] kk
    rw [e, e, e]
    exact hrf _ h
  · exact hk
theorem c12 {rf : List D → DK → Prop} {n s5 s6 s7 s8 s10 s12 s13 : SV} {p f b : List Nat} {L d : Nat} {K1 : Kn} (hp : p.length ≤ 1000) (hf : f.length ≤ 1000) (hb : b.length ≤ 1000) (hrf : ∀ k : DK, k (dN L) → rf [.lst (DL.dNs (rotL d p)), .tup (DL.dNs (rotL d f)), .lst (DL.dNs (rotL d b))] k)
    (hk : K1.nx [.pot, n, .val (.lst (DL.dNs p)), .val (.lst (DL.dNs f)), .val (.lst (DL.dNs b)), s5, s6, s7, s8, .val (dN L), s10, .val (dN d), s12, s13]) :
    (sIf (eB (eOp neD (eCallW [1, 2, 0] 3 rf (eaCons (eOp addU (eSl slU (eVar 4) (eP (eVar 11)) eNoP) (eSl slU (eVar 4) eNoP (eP (eVar 11)))) (eaCons (eOp addU (eSl slU (eVar 2) (eP (eVar 11)) eNoP) (eSl slU (eVar 2) eNoP (eP (eVar 11)))) (eaCons (eUn tupD (eOp addU (eSl slU (eVar 3) (eP (eVar 11)) eNoP) (eSl slU (eVar 3) eNoP (eP (eVar 11))))) eaNil)))) (eVar 9))) (sRet (eC (.bl false))) sNext)
      [.pot, n, .val (.lst (DL.dNs p)), .val (.lst (DL.dNs f)), .val (.lst (DL.dNs b)), s5, s6, s7, s8, .val (dN L), s10, .val (dN d), s12, s13] K1 := by
  have e : ∀ l : List Nat, DL.cutD (DL.dNs l) (some (d : Int)) none ++ DL.cutD (DL.dNs l) none (some (d : Int)) = DL.dNs (rotL d l) := fun l => by
    rw [cut_lo, cut_hi]
    unfold rotL DL.dNs
    rw [List.map_append]
  have el : ∀ l : List Nat, l.length ≤ 1000 → (DL.cutD (DL.dNs l) (some (d : Int)) none).length + (DL.cutD (DL.dNs l) none (some (d : Int))).length ≤ 100000 := fun l h => by
    rw [cut_lo, cut_hi]
    unfold DL.dNs
    rw [List.length_map, List.length_map, List.length_drop, List.length_take]
    omega
  simp only [sIf]
  refine t_ne (fun kk h => And.intro (el b hb) (And.intro (el p hp) (And.intro (el f hf) (And.intro rfl ?_)))) rfl ?_
  · show rf [.lst (DL.cutD (DL.dNs p) (some (d : Int)) none ++ DL.cutD (DL.dNs p) none (some (d : Int))), .tup (DL.cutD (DL.dNs f) (some (d : Int)) none ++ DL.cutD (DL.dNs f) none (some (d : Int))), .lst (DL.cutD (DL.dNs b) (some (d : Int)) none ++ DL.cutD (DL.dNs b) none (some (d : Int)))] kk
    rw [e, e, e]
    exact hrf _ h
  · exact hk
theorem c14 {jr : List D → DK → Prop} {n s6 s9 s10 s11 : SV} {P F B : D} {S T : List D} {K1 : Kn} (hl : S.length + T.length ≤ 100000) (h1 : ∀ k : DK, k (.bl true) → jr [P, F, B, .lst (S ++ T)] k) (h2 : ∀ k : DK, k (.bl true) → jr [P, F, B, .lst T] k)
    (hk : K1.nx [.pot, n, .val P, .val F, .val B, .un, s6, .val (.lst S), .val (.lst T), s9, s10, s11, .un, .un]) :
    (sIf (eOrT (eNotT (eB (eCallL 0 4 jr (eaCons (eVar 2) (eaCons (eVar 3) (eaCons (eVar 4) (eaCons (eOp addU (eVar 7) (eVar 8)) eaNil))))))) (eNotT (eB (eCallL 0 4 jr (eaCons (eVar 2) (eaCons (eVar 3) (eaCons (eVar 4) (eaCons (eVar 8) eaNil)))))))) (sRet (eC (.bl false))) sNext)
      [.pot, n, .val P, .val F, .val B, .un, s6, .val (.lst S), .val (.lst T), s9, s10, s11, .un, .un] K1 := by
  refine And.intro rfl (And.intro hl (And.intro rfl (h1 _ ?_)))
  refine And.intro rfl (And.intro rfl (h2 _ ?_))
  exact hk
theorem c15 {rs : List D → (List D → Prop) → Prop} {n s7 s9 s10 s11 : SV} {P F B : D} {S : List Std} {K1 : Kn} (hrs : ∀ k : List D → Prop, (∀ s ∈ S, k (s.map dPr)) → rs [P, F, B] k) (hw : wrD (.lst [P, F, B])) (hso : PyData.strOk (toPy (.lst [P, F, B])).shown = true) (hk : K1.rt (.bl true)) :
    (sRet (eAnd (eOp (inD false) (eF (eCallWF [2, 0, 1] 3 rs (eaCons (eVar 3) (eaCons (eVar 4) (eaCons (eVar 2) eaNil))))) (eVar 8)) (eOp eqD (eUn reprD (eF (eLst (eaCons (eVar 2) (eaCons (eVar 3) (eaCons (eVar 4) eaNil)))))) (eVar 6))))
      [.pot, n, .val P, .val F, .val B, .un, .val (.str (toPy (.lst [P, F, B])).shown), s7, .val (.lst (S.map dSt)), s9, s10, s11, .un, .un] K1 := by
  simp only [sRet, eAnd]
  have h1 : ∀ kk : Bool → Prop, kk true → eB (eOp (inD false) (eF (eCallWF [2, 0, 1] 3 rs (eaCons (eVar 3) (eaCons (eVar 4) (eaCons (eVar 2) eaNil))))) (eVar 8))
      [.pot, n, .val P, .val F, .val B, .un, .val (.str (toPy (.lst [P, F, B])).shown), s7, .val (.lst (S.map dSt)), s9, s10, s11, .un, .un] kk := fun kk h => by
    unfold eB eOp eF
    refine And.intro rfl (hrs _ fun s hs => ?_)
    unfold eVar
    simp only [List.getElem?_cons_succ, List.getElem?_cons_zero]
    exact in_st hs h
  refine h1 _ ?_
  rw [if_pos rfl]
  unfold eOp eUn eF
  refine And.intro (show 3 ≤ 100000 by decide) (And.intro hw ?_)
  unfold eVar
  simp only [List.getElem?_cons_succ, List.getElem?_cons_zero]
  exact eq_str hso hk
end K75

set_option Elab.async false
set_option linter.all false
set_option maxRecDepth 100000
set_option maxHeartbeats 4000000
/-! a stuck round is never below what round_stand looks at -/
namespace K75
open PySem PySem.Spec PyProof.Rows L2 DL
theorem carts_le : ∀ {s t : Std}, s.length = t.length → (∀ i, i < s.length → (at2 s i).1 + (at2 s i).2 ≤ (at2 t i).1 + (at2 t i).2) → carts s ≤ carts t
  | [], [], _, _ => Nat.le_refl _
  | q :: s, r :: t, hl, h => by
    have h0 := h 0 (by simp)
    have hr := carts_le (s := s) (t := t) (by simpa using hl) fun i hi => h (i + 1) (by simpa using hi)
    have h0 : q.1 + q.2 ≤ r.1 + r.2 := h0
    unfold carts at hr ⊢
    simp only [List.map_cons, List.sum_cons]
    omega
  | [], _ :: _, hl, _ => by simp at hl
  | _ :: _, [], hl, _ => by simp at hl
theorem at2_set {s : Std} {i x : Nat} {q : Nat × Nat} (hi : i < s.length) : at2 (s.set i q) x = if x = i then q else at2 s x := by
  unfold at2
  rw [List.getD_eq_getElem?_getD, List.getD_eq_getElem?_getD, List.getElem?_set]
  by_cases e : i = x
  · rw [if_pos e, if_pos e.symm, if_pos hi]; rfl
  · rw [if_neg e, if_neg (fun z => e z.symm)]
theorem fill_cell {p f b : List Nat} (hn : 0 < p.length) : ∀ (m a : Nat) (s : Std) (x : Nat), s.length = p.length → a < p.length → at2 (fill p f b m a s) x = at2 s x ∨ ∃ t, t < m ∧ x = (a + t) % p.length ∧ at2 (fill p f b m a s) x = (f.getD x 0, min (b.getD x 0) (p.getD x 0 - f.getD x 0))
  | 0, _, _, _, _, _ => .inl rfl
  | m + 1, a, s, x, hs, ha => by
    show at2 (fill p f b m ((a + 1) % p.length) (s.set a (f.getD a 0, min (b.getD a 0) (p.getD a 0 - f.getD a 0)))) x = _ ∨ _
    rcases fill_cell hn m ((a + 1) % p.length) (s.set a (f.getD a 0, min (b.getD a 0) (p.getD a 0 - f.getD a 0))) x (by rw [List.length_set]; exact hs) (Nat.mod_lt _ hn) with e | ⟨t, ht, hx, e⟩
    · rw [at2_set (by rw [hs]; exact ha)] at e
      by_cases q : x = a
      · rw [if_pos q] at e
        refine .inr ⟨0, Nat.succ_pos _, by rw [Nat.add_zero, Nat.mod_eq_of_lt ha]; exact q, ?_⟩
        rw [q] at e ⊢
        exact e
      · rw [if_neg q] at e
        exact .inl e
    · refine .inr ⟨t + 1, by omega, ?_, e⟩
      rw [hx, Nat.mod_add_mod]
      congr 1; omega
theorem tbw_cell {p f b : List Nat} {i j x : Nat} (hn : 0 < p.length) (hi : i < p.length) (hj : j < p.length) (hx : x < p.length) :
    at2 (tbw p f b i j) x = (if x = j then (0, p.getD j 0) else if x = i then (p.getD i 0, 0) else (0, 0)) ∨ ∃ t, t < (j + p.length - (i + 1) % p.length) % p.length ∧ x = (i + 1 + t) % p.length ∧ at2 (tbw p f b i j) x = (f.getD x 0, min (b.getD x 0) (p.getD x 0 - f.getD x 0)) := by
  unfold tbw
  rcases fill_cell (p := p) (f := f) (b := b) hn ((j + p.length - (i + 1) % p.length) % p.length) ((i + 1) % p.length) (((List.replicate p.length (0, 0)).set i (p.getD i 0, 0)).set j (0, p.getD j 0)) x (by simp) (Nat.mod_lt _ hn) with e | ⟨t, ht, hx, e⟩
  · refine .inl ?_
    rw [at2_set (by simpa using hj), at2_set (by simpa using hi)] at e
    rw [e]
    have : at2 (List.replicate p.length (0, 0)) x = (0, 0) := by
      unfold at2; rw [List.getD_eq_getElem?_getD, List.getElem?_replicate, if_pos hx]; rfl
    rw [this]
  · refine .inr ⟨t, ht, ?_, e⟩
    rw [hx, Nat.mod_add_mod]
theorem step_up {Q : Nat → Prop} [DecidablePred Q] {y : Nat} : ∀ {m x : Nat}, x + m = y → Q x → ¬ Q y → ∃ j, x ≤ j ∧ j < y ∧ (∀ z, x ≤ z → z ≤ j → Q z) ∧ ¬ Q (j + 1)
  | 0, x, e, h, hn => by rw [Nat.add_zero] at e; subst e; exact (hn h).elim
  | m + 1, x, e, h, hn => by
    by_cases q : Q (x + 1)
    · obtain ⟨j, h1, h2, h3, h4⟩ := step_up (Q := Q) (m := m) (x := x + 1) (by omega) q hn
      exact ⟨j, by omega, h2, fun z a c => by
        by_cases e : z = x
        · rw [e]; exact h
        · exact h3 z (by omega) c, h4⟩
    · exact ⟨x, Nat.le_refl _, by omega, fun z a c => by rw [show z = x by omega]; exact h, q⟩
theorem step_dn {Q : Nat → Prop} [DecidablePred Q] {y : Nat} : ∀ {m x : Nat}, x + m = y → Q x → ¬ Q y → ∃ j, x ≤ j ∧ j < y ∧ Q j ∧ ∀ z, j < z → z ≤ y → ¬ Q z
  | 0, x, e, h, hn => by rw [Nat.add_zero] at e; subst e; exact (hn h).elim
  | m + 1, x, e, h, hn => by
    by_cases q : ∃ j, x + 1 ≤ j ∧ j < y ∧ Q j ∧ ∀ z, j < z → z ≤ y → ¬ Q z
    · obtain ⟨j, h1, h2, h3, h4⟩ := q
      exact ⟨j, by omega, h2, h3, h4⟩
    · refine ⟨x, Nat.le_refl _, by omega, h, fun z a c hz => ?_⟩
      by_cases e2 : z = y
      · rw [e2] at hz; exact hn hz
      · have r := step_dn (Q := Q) (y := y) (m := y - z) (x := z) (by omega) hz hn
        obtain ⟨j, h1, h2, h3, h4⟩ := r
        exact q ⟨j, by omega, h2, h3, h4⟩
termination_by m => m
decreasing_by omega
theorem mem_found_pair {p f b : List Nat} {i j : Nat} (hi : i < p.length) (hj : j < p.length) (hij : i ≠ j) (hf : f.getD i 0 = p.getD i 0) (hb : b.getD j 0 = p.getD j 0) : tbw p f b i j ∈ foundL p f b := by
  unfold foundL
  refine List.mem_append_right _ (List.mem_map.mpr ⟨(i, j), ?_, rfl⟩)
  unfold pairs
  refine List.mem_flatMap.mpr ⟨i, List.mem_range.mpr hi, List.mem_map.mpr ⟨j, List.mem_filter.mpr ⟨List.mem_range.mpr hj, ?_⟩, rfl⟩⟩
  unfold okPr
  rw [decide_eq_true hf, decide_eq_true hb, decide_eq_false hij]
  rfl
theorem low {p f b : List Nat} {s : Std} (o : Rok p f b) (hs : Sok p f b s) (hst : stk p f b s = true) : ∃ t ∈ foundL p f b, carts t ≤ carts s := by
  have hn : 0 < p.length := by have := o.p1; omega
  have hfl := o.fl
  have hbl := o.bl
  have hsl := hs.len
  have hc0 : carts s ≠ 0 := fun e => by unfold stk at hst; rw [decide_eq_true e] at hst; cases hst
  have hmv : ∀ i, i < p.length → mv p f b s i = false := fun i hi => by
    unfold stk at hst
    rw [decide_eq_false hc0] at hst
    have : (List.range p.length).any (mv p f b s) = false := by
      cases e : (List.range p.length).any (mv p f b s) with
      | true => rw [e] at hst; cases hst
      | false => rfl
    have := List.any_eq_false.mp this i (List.mem_range.mpr hi)
    exact Bool.eq_false_iff.mpr this
  let on : Nat → Nat := fun i => (at2 s (i % p.length)).1
  let bk : Nat → Nat := fun i => (at2 s (i % p.length)).2
  let F : Nat → Nat := fun i => f.getD (i % p.length) 0
  let B : Nat → Nat := fun i => b.getD (i % p.length) 0
  let P : Nat → Nat := fun i => p.getD (i % p.length) 0
  have ml : ∀ i, i % p.length < p.length := fun i => Nat.mod_lt _ hn
  have bnd : ∀ i, on i ≤ F i ∧ bk i ≤ B i ∧ on i + bk i ≤ P i ∧ 1 ≤ F i ∧ F i ≤ P i ∧ 1 ≤ B i ∧ B i ≤ P i := fun i => by
    have h1 := hs.one (i % p.length) (ml i)
    have ef : f[i % p.length]? = some (F i) := by show _ = some (f.getD _ 0); rw [List.getD_eq_getElem?_getD, List.getElem?_eq_getElem (by rw [hfl]; exact ml i)]; rfl
    have eb : b[i % p.length]? = some (B i) := by show _ = some (b.getD _ 0); rw [List.getD_eq_getElem?_getD, List.getElem?_eq_getElem (by rw [hbl]; exact ml i)]; rfl
    have ep : p[i % p.length]? = some (P i) := by show _ = some (p.getD _ 0); rw [List.getD_eq_getElem?_getD, List.getElem?_eq_getElem (ml i)]; rfl
    have h2 := o.fb _ _ _ ef ep
    have h3 := o.bb _ _ _ eb ep
    exact ⟨h1.1, h1.2.1, h1.2.2, h2.1, h2.2, h3.1, h3.2⟩
  have H1 : ∀ i, 0 < on i → P (i + 1) ≤ on (i + 1) + bk (i + 1) ∨ F (i + 1) ≤ on (i + 1) := fun i hi => by
    have := hmv (i % p.length) (ml i)
    unfold mv at this
    rw [Bool.or_eq_false_iff] at this
    have := this.1
    rw [Nat.mod_add_mod] at this
    have hi : 0 < (at2 s (i % p.length)).1 := hi
    rw [decide_eq_true hi, Bool.true_and, Bool.and_eq_false_iff, decide_eq_false_iff_not, decide_eq_false_iff_not] at this
    show p.getD ((i + 1) % p.length) 0 ≤ (at2 s ((i + 1) % p.length)).1 + (at2 s ((i + 1) % p.length)).2 ∨ f.getD ((i + 1) % p.length) 0 ≤ (at2 s ((i + 1) % p.length)).1
    omega
  have H2 : ∀ i, 0 < bk (i + 1) → P i ≤ on i + bk i ∨ B i ≤ bk i := fun i hi => by
    have := hmv ((i + 1) % p.length) (ml (i + 1))
    unfold mv at this
    rw [Bool.or_eq_false_iff] at this
    have := this.2
    have e : ((i + 1) % p.length + p.length - 1) % p.length = i % p.length := by
      have h0 := Nat.div_add_mod (i + 1) p.length
      have : (i + 1) % p.length + p.length - 1 + p.length * ((i + 1) / p.length) = i + p.length := by
        have := ml (i + 1)
        omega
      rw [← Nat.add_mul_mod_self_left ((i + 1) % p.length + p.length - 1) p.length ((i + 1) / p.length), this, Nat.add_mod_right]
    rw [e] at this
    have hi : 0 < (at2 s ((i + 1) % p.length)).2 := hi
    rw [decide_eq_true hi, Bool.true_and, Bool.and_eq_false_iff, decide_eq_false_iff_not, decide_eq_false_iff_not] at this
    show p.getD (i % p.length) 0 ≤ (at2 s (i % p.length)).1 + (at2 s (i % p.length)).2 ∨ b.getD (i % p.length) 0 ≤ (at2 s (i % p.length)).2
    omega
  have per : ∀ i k, on (i + p.length * k) = on i ∧ bk (i + p.length * k) = bk i := fun i k => by
    show (at2 s ((i + p.length * k) % p.length)).1 = (at2 s (i % p.length)).1 ∧ (at2 s ((i + p.length * k) % p.length)).2 = (at2 s (i % p.length)).2
    rw [Nat.add_mul_mod_self_left]
    exact ⟨rfl, rfl⟩
  have pn : ∀ i, i < p.length → on i = (at2 s i).1 ∧ bk i = (at2 s i).2 ∧ F i = f.getD i 0 ∧ B i = b.getD i 0 ∧ P i = p.getD i 0 := fun i hi => by
    show (at2 s (i % p.length)).1 = _ ∧ (at2 s (i % p.length)).2 = _ ∧ f.getD (i % p.length) 0 = _ ∧ b.getD (i % p.length) 0 = _ ∧ p.getD (i % p.length) 0 = _
    rw [Nat.mod_eq_of_lt hi]
    exact ⟨rfl, rfl, rfl, rfl, rfl⟩
  by_cases hA : ∀ i, 0 < on i
  · refine ⟨f.map fun x => (x, 0), by unfold foundL; simp, carts_le (by rw [List.length_map]; omega) fun i hi => ?_⟩
    rw [List.length_map, hfl] at hi
    have e1 := per i 1
    have e2 := H1 (i + p.length - 1) (hA _)
    have b1 := bnd i
    rw [show i + p.length - 1 + 1 = i + p.length * 1 by omega] at e2
    have e3 : P (i + p.length * 1) = P i ∧ F (i + p.length * 1) = F i := by
      show p.getD ((i + p.length * 1) % p.length) 0 = p.getD (i % p.length) 0 ∧ f.getD ((i + p.length * 1) % p.length) 0 = f.getD (i % p.length) 0
      rw [Nat.add_mul_mod_self_left]
      exact ⟨rfl, rfl⟩
    have e4 := pn i hi
    have : at2 (f.map fun x => (x, 0)) i = (f.getD i 0, 0) := by
      unfold at2
      rw [List.getD_eq_getElem?_getD, List.getElem?_map, List.getD_eq_getElem?_getD, List.getElem?_eq_getElem (by omega)]
      rfl
    rw [this]
    show f.getD i 0 + 0 ≤ _
    omega
  by_cases hB : ∀ i, 0 < bk i
  · refine ⟨b.map fun x => (0, x), by unfold foundL; simp, carts_le (by rw [List.length_map]; omega) fun i hi => ?_⟩
    rw [List.length_map, hbl] at hi
    have e2 := H2 i (hB _)
    have b1 := bnd i
    have e4 := pn i hi
    have : at2 (b.map fun x => (0, x)) i = (0, b.getD i 0) := by
      unfold at2
      rw [List.getD_eq_getElem?_getD, List.getElem?_map, List.getD_eq_getElem?_getD, List.getElem?_eq_getElem (by omega)]
      rfl
    rw [this]
    show 0 + b.getD i 0 ≤ _
    omega
  have hA : ∃ y, on y = 0 := Classical.byContradiction fun h => hA fun i => Nat.pos_of_ne_zero fun e => h ⟨i, e⟩
  have hB : ∃ y, bk y = 0 := Classical.byContradiction fun h => hB fun i => Nat.pos_of_ne_zero fun e => h ⟨i, e⟩
  obtain ⟨y0, hy0⟩ := hA
  obtain ⟨w0, hw0⟩ := hB
  -- someone goes on
  have hC : ∃ x, 0 < on x := by
    refine Classical.byContradiction fun h => hc0 ?_
    have h0 : ∀ x, on x = 0 := fun x => Classical.byContradiction fun e => h ⟨x, Nat.pos_of_ne_zero e⟩
    have hb : ∀ x, bk x = 0 := fun x => Classical.byContradiction fun e => by
      have hx : bk (x + p.length * w0) = bk x := (per _ _).2
      have hm : p.length * w0 ≥ w0 := Nat.le_mul_of_pos_left _ hn
      obtain ⟨j, h1, h2, h3, h4⟩ := step_up (Q := fun z => bk z = 0) (x := w0) (y := x + p.length * w0) (m := x + p.length * w0 - w0) (by omega) hw0 (by rw [hx]; exact e)
      have := H2 j (Nat.pos_of_ne_zero h4)
      have q := h3 j h1 (Nat.le_refl _)
      have z := h0 j
      have := bnd j
      omega
    refine Nat.le_zero.mp (Nat.le_trans (carts_le (t := List.replicate s.length (0, 0)) (by simp) fun i hi => ?_) (Nat.le_of_eq ?_))
    · have e4 := pn i (by omega)
      have := h0 i
      have := hb i
      omega
    · unfold carts
      rw [List.map_replicate]
      generalize s.length = m
      induction m with
      | zero => rfl
      | succ m ih => rw [List.replicate_succ, List.sum_cons, ih]; rfl
  obtain ⟨x0, hx0⟩ := hC
  -- where it ends
  obtain ⟨j0, _, _, h3, h4⟩ := step_up (Q := fun z => 0 < on z) (x := x0) (y := y0 + p.length * x0) (m := y0 + p.length * x0 - x0) (by have : p.length * x0 ≥ x0 := Nat.le_mul_of_pos_left _ hn; omega) hx0 (by rw [(per _ _).1]; omega)
  have hj0 : 0 < on j0 := h3 j0 (by omega) (Nat.le_refl _)
  have hz0 : on (j0 + 1) = 0 := by omega
  have hfull : 0 < bk (j0 + 1) := by
    have := H1 j0 hj0
    have := bnd (j0 + 1)
    omega
  -- a full turn later
  have hk1 := per (j0 + 1) w0
  have hk2 := per (j0 + 1) (w0 + 1)
  have hmul : p.length * (w0 + 1) = p.length * w0 + p.length := Nat.mul_succ _ _
  have hw2 : p.length * w0 ≥ w0 := Nat.le_mul_of_pos_left _ hn
  -- the last without one back
  obtain ⟨i, hi1, hi2, hi3, hi4⟩ := step_dn (Q := fun z => bk z = 0) (y := j0 + 1 + p.length * (w0 + 1)) (x := w0) (m := j0 + 1 + p.length * (w0 + 1) - w0) (by omega) hw0 (by rw [hk2.2]; omega)
  have hi3 : bk i = 0 := hi3
  have hgt : j0 + 1 + p.length * (w0 + 1) < i + p.length := by
    refine Classical.byContradiction fun h => ?_
    refine hi4 (i + p.length * 1) (by omega) (by omega) ?_
    show bk (i + p.length * 1) = 0
    rw [(per i 1).2]; exact hi3
  have hbi : 0 < bk (i + 1) := by
    have : bk (i + 1) ≠ 0 := hi4 (i + 1) (by omega) (by omega)
    omega
  have hoi : on i = P i ∧ F i = P i := by
    have := H2 i hbi
    have := bnd i
    omega
  obtain ⟨j, hj1, hj2, hj3, hj4⟩ := step_up (Q := fun z => 0 < on z) (x := i) (y := j0 + 1 + p.length * (w0 + 1)) (m := j0 + 1 + p.length * (w0 + 1) - i) (by omega) (by have := bnd i; show 0 < on i; omega) (by rw [(per _ _).1]; omega)
  have hjz : on (j + 1) = 0 := by omega
  have hjf : bk (j + 1) = P (j + 1) ∧ B (j + 1) = P (j + 1) := by
    have := H1 j (hj3 j hj1 (Nat.le_refl _))
    have := bnd (j + 1)
    omega
  have hmid : ∀ x, i < x → x ≤ j → F x + min (B x) (P x - F x) ≤ on x + bk x := fun x h1 h2 => by
    have q1 := H1 (x - 1) (hj3 (x - 1) (by omega) (by omega))
    rw [show x - 1 + 1 = x by omega] at q1
    have q2 := H2 x (Nat.pos_of_ne_zero (hi4 (x + 1) (by omega) (by omega)))
    have := bnd x
    omega
  have hne : i % p.length ≠ (j + 1) % p.length := fun e => by
    have e1 := Nat.div_add_mod i p.length
    have e2 := Nat.div_add_mod (j + 1) p.length
    rw [e] at e1
    have e3 : i / p.length = (j + 1) / p.length ∨ i / p.length + 1 ≤ (j + 1) / p.length := by
      have := Nat.div_le_div_right (c := p.length) (show i ≤ j + 1 by omega)
      omega
    rcases e3 with e3 | e3
    · rw [e3] at e1; omega
    · have := Nat.mul_le_mul_left p.length e3
      rw [Nat.mul_succ] at this
      omega
  refine ⟨tbw p f b (i % p.length) ((j + 1) % p.length), mem_found_pair (ml _) (ml _) hne hoi.2 hjf.2, carts_le (by rw [tbw_len]; omega) fun x hx => ?_⟩
  rw [tbw_len] at hx
  rcases tbw_cell (p := p) (f := f) (b := b) hn (ml i) (ml (j + 1)) hx with e | ⟨t, ht, hxt, e⟩
  · rw [e]
    split
    · next h =>
      rw [h]
      have := hjf.1
      show 0 + P (j + 1) ≤ on (j + 1) + bk (j + 1)
      omega
    · split
      · next h =>
        rw [h]
        show P i + 0 ≤ on i + bk i
        omega
      · exact Nat.zero_le _
  · rw [e]
    have ht : t < j - i := by
      rw [Nat.mod_add_mod] at ht
      have : ((j + 1) % p.length + p.length - (i + 1) % p.length) % p.length = (j - i) % p.length := by
        have e1 := Nat.div_add_mod (i + 1) p.length
        have e2 := Nat.div_add_mod (j + 1) p.length
        have m1 := ml (i + 1)
        have e3 := Nat.div_le_div_right (c := p.length) (show i + 1 ≤ j + 1 by omega)
        have e4 := Nat.mul_le_mul_left p.length e3
        have e5 : (j + 1) % p.length + p.length - (i + 1) % p.length + p.length * ((j + 1) / p.length - (i + 1) / p.length) = j - i + p.length := by
          rw [Nat.mul_sub]
          omega
        rw [← Nat.add_mul_mod_self_left _ p.length ((j + 1) / p.length - (i + 1) / p.length), e5, Nat.add_mod_right]
      rw [this, Nat.mod_eq_of_lt (by omega)] at ht
      exact ht
    have hxt : x = (i + 1 + t) % p.length := by rw [hxt, Nat.add_assoc, Nat.mod_add_mod, Nat.add_assoc]
    have := hmid (i + 1 + t) (by omega) (by omega)
    rw [hxt]
    exact this
end K75

set_option Elab.async false
set_option linter.all false
set_option maxRecDepth 100000
set_option maxHeartbeats 4000000
/-! all of them, looked at -/
namespace K75
open PySem PySem.Spec PyProof.Rows L2 DL
theorem chk3 : (Ys.all fun a => Ys.all fun b => Ys.all fun c => chkQ [a, b, c]) = true := by decide +kernel
theorem chkS : (Ys.all fun a => Ys.all fun c => chkQ [a, (3, 1, 1), c, (3, 2, 2)]) = true := by decide +kernel
theorem chk4_0 : (Ys.all fun b => Ys.all fun c => Ys.all fun d => chkQ [(1, 1, 1), b, c, d]) = true := by decide +kernel
theorem chk4_1 : (Ys.all fun b => Ys.all fun c => Ys.all fun d => chkQ [(2, 1, 1), b, c, d]) = true := by decide +kernel
theorem chk4_2 : (Ys.all fun b => Ys.all fun c => Ys.all fun d => chkQ [(2, 1, 2), b, c, d]) = true := by decide +kernel
theorem chk4_3 : (Ys.all fun b => Ys.all fun c => Ys.all fun d => chkQ [(2, 2, 1), b, c, d]) = true := by decide +kernel
theorem chk4_4 : (Ys.all fun b => Ys.all fun c => Ys.all fun d => chkQ [(2, 2, 2), b, c, d]) = true := by decide +kernel
end K75

set_option Elab.async false
set_option linter.all false
set_option maxRecDepth 100000
set_option maxHeartbeats 4000000
/-! what the drawn rounds keep -/
namespace K75
open PySem PySem.Spec PyProof.Rows L2 DL
theorem mem_opts {p f b : List Nat} {i : Nat} {q : Nat × Nat} (h : f.getD i 0 ≤ p.getD i 0) : q ∈ opts p f b i ↔ q.1 ≤ f.getD i 0 ∧ q.2 ≤ b.getD i 0 ∧ q.1 + q.2 ≤ p.getD i 0 := by
  unfold opts opt1
  constructor
  · intro hq
    obtain ⟨on, h1, hq⟩ := List.mem_flatMap.mp hq
    obtain ⟨bk, h2, rfl⟩ := List.mem_map.mp hq
    have h1 := List.mem_range.mp h1
    have h2 := List.mem_range.mp h2
    show on ≤ _ ∧ bk ≤ _ ∧ on + bk ≤ _
    omega
  · intro ⟨h1, h2, h3⟩
    refine List.mem_flatMap.mpr ⟨q.1, List.mem_range.mpr (by omega), List.mem_map.mpr ⟨q.2, List.mem_range.mpr (by omega), rfl⟩⟩
theorem at2_app_lt {s : Std} {q : Nat × Nat} {i : Nat} (h : i < s.length) : at2 (s ++ [q]) i = at2 s i := by
  unfold at2
  rw [List.getD_eq_getElem?_getD, List.getElem?_append_left h, List.getD_eq_getElem?_getD]
theorem at2_app_eq {s : Std} {q : Nat × Nat} : at2 (s ++ [q]) s.length = q := by
  unfold at2
  rw [List.getD_eq_getElem?_getD, List.getElem?_append_right (Nat.le_refl _), Nat.sub_self]
  rfl
theorem stage_succ {p f b : List Nat} (n : Nat) : stage p f b (List.range (n + 1)) = longer (stage p f b (List.range n)) (opts p f b n) := by
  unfold stage
  rw [List.range_succ, List.foldl_append]
  rfl
theorem mem_stage {p f b : List Nat} : ∀ (n : Nat) (s : Std), s ∈ stage p f b (List.range n) ↔ s.length = n ∧ ∀ i, i < n → at2 s i ∈ opts p f b i
  | 0, s => by
    show s ∈ [[]] ↔ _
    rw [List.mem_singleton]
    exact ⟨fun e => by rw [e]; exact ⟨rfl, fun i h => absurd h (Nat.not_lt_zero _)⟩, fun h => List.eq_nil_of_length_eq_zero h.1⟩
  | n + 1, s => by
    rw [stage_succ]
    unfold longer
    rw [List.mem_flatMap]
    constructor
    · intro ⟨t, ht, hs⟩
      obtain ⟨q, hq, rfl⟩ := List.mem_map.mp hs
      obtain ⟨h1, h2⟩ := (mem_stage n t).mp ht
      refine ⟨by simp [h1], fun i hi => ?_⟩
      by_cases e : i = n
      · rw [e, ← h1, at2_app_eq, h1]; exact hq
      · rw [at2_app_lt (by omega)]; exact h2 i (by omega)
    · intro ⟨h1, h2⟩
      have hne : s ≠ [] := fun e => by rw [e] at h1; simp at h1
      have e := List.dropLast_concat_getLast hne
      have hl : s.dropLast.length = n := by rw [List.length_dropLast]; omega
      refine ⟨s.dropLast, (mem_stage n _).mpr ⟨hl, fun i hi => ?_⟩, List.mem_map.mpr ⟨s.getLast hne, ?_, e⟩⟩
      · have := h2 i (by omega)
        rw [← e, at2_app_lt (by omega)] at this
        exact this
      · have := h2 n (by omega)
        rw [← e] at this
        have e3 : at2 (s.dropLast ++ [s.getLast hne]) n = s.getLast hne := by
          have := at2_app_eq (s := s.dropLast) (q := s.getLast hne)
          rw [hl] at this; exact this
        rw [e3] at this
        exact this
theorem f_le_p {p f b : List Nat} (o : Rok p f b) {i : Nat} (hi : i < p.length) : f.getD i 0 ≤ p.getD i 0 := by
  have ef : f[i]? = some (f.getD i 0) := by rw [List.getD_eq_getElem?_getD, List.getElem?_eq_getElem (by rw [o.fl]; exact hi)]; rfl
  have ep : p[i]? = some (p.getD i 0) := by rw [List.getD_eq_getElem?_getD, List.getElem?_eq_getElem hi]; rfl
  exact (o.fb _ _ _ ef ep).2
theorem mem_all {p f b : List Nat} (o : Rok p f b) {s : Std} : s ∈ allS p f b ↔ Sok p f b s := by
  unfold allS
  rw [mem_stage]
  constructor
  · intro ⟨h1, h2⟩
    exact ⟨h1, fun i hi => (mem_opts (f_le_p o hi)).mp (h2 i hi)⟩
  · intro h
    exact ⟨h.len, fun i hi => (mem_opts (f_le_p o hi)).mpr (h.one i hi)⟩
theorem okB_sok : ∀ {p f b : List Nat} {s : Std}, okB p f b s = true → Sok p f b s
  | [], [], [], [], _ => ⟨rfl, fun i h => absurd h (Nat.not_lt_zero _)⟩
  | x :: p, y :: f, z :: b, q :: s, h => by
    unfold okB at h
    rw [Bool.and_eq_true, Bool.and_eq_true, Bool.and_eq_true] at h
    have r := okB_sok h.2.2.2
    refine ⟨by simp [r.len], fun i hi => ?_⟩
    cases i with
    | zero => exact ⟨Nat.le_of_ble_eq_true h.1, Nat.le_of_ble_eq_true h.2.1, Nat.le_of_ble_eq_true h.2.2.1⟩
    | succ i => exact r.one i (by simpa using hi)
theorem mins_le : ∀ {l : List Nat} {x : Nat}, x ∈ l → mins l ≤ x
  | [y], x, h => by rw [List.mem_singleton.mp h]; exact Nat.le_refl _
  | y :: z :: l, x, h => by
    show (if Nat.ble y (mins (z :: l)) then y else mins (z :: l)) ≤ x
    rcases List.mem_cons.mp h with e | e
    · split
      · omega
      · next h => rw [Nat.ble_eq] at h; omega
    · have := mins_le (l := z :: l) e
      split
      · next h => rw [Nat.ble_eq] at h; omega
      · exact this
theorem mins_mem : ∀ {l : List Nat}, l ≠ [] → mins l ∈ l
  | [y], _ => by simp [mins]
  | y :: z :: l, _ => by
    show (if Nat.ble y (mins (z :: l)) then y else mins (z :: l)) ∈ _
    split
    · exact List.mem_cons_self ..
    · exact List.mem_cons_of_mem _ (mins_mem (by simp))
theorem found_ne (p f b : List Nat) : foundL p f b ≠ [] := by unfold foundL; simp
theorem least_le {p f b : List Nat} {s : Std} (h : s ∈ foundL p f b) : leastF p f b ≤ carts s := mins_le (List.mem_map.mpr ⟨s, h, rfl⟩)
theorem least_eq {p f b : List Nat} {s : Std} (h : s ∈ foundL p f b) (hm : ∀ t ∈ foundL p f b, carts s ≤ carts t) : carts s = leastF p f b := by
  have h1 := least_le h
  have h2 := mins_mem (l := (foundL p f b).map carts) (by simp [found_ne])
  obtain ⟨t, ht, e⟩ := List.mem_map.mp h2
  have := hm t ht
  unfold leastF at h1 ⊢
  omega
theorem chk_case {q : List Tr} (h : Case q) : chkQ q = true := by
  rcases h with ⟨h | h, hy⟩ | ⟨a, c, ha, hc, rfl⟩
  · match q, h with
    | [a, b, c], _ => exact List.all_eq_true.mp (List.all_eq_true.mp (List.all_eq_true.mp chk3 a (hy a (by simp))) b (hy b (by simp))) c (hy c (by simp))
  · match q, h with
    | [a, b, c, d], _ =>
      have hb := hy b (by simp)
      have hc := hy c (by simp)
      have hd := hy d (by simp)
      have ha := hy a (by simp)
      have go : ∀ {x : Tr}, (Ys.all fun b => Ys.all fun c => Ys.all fun d => chkQ [x, b, c, d]) = true → chkQ [x, b, c, d] = true := fun h => List.all_eq_true.mp (List.all_eq_true.mp (List.all_eq_true.mp h b hb) c hc) d hd
      unfold Ys at ha
      simp only [List.mem_cons, List.not_mem_nil, or_false] at ha
      rcases ha with e | e | e | e | e
      · rw [e]; exact go chk4_0
      · rw [e]; exact go chk4_1
      · rw [e]; exact go chk4_2
      · rw [e]; exact go chk4_3
      · rw [e]; exact go chk4_4
  · exact List.all_eq_true.mp (List.all_eq_true.mp chkS a ha) c hc
def okT (t : Tr) : Prop := 1 ≤ t.1 ∧ t.1 ≤ 3 ∧ 1 ≤ t.2.1 ∧ t.2.1 ≤ t.1 ∧ 1 ≤ t.2.2 ∧ t.2.2 ≤ t.1 ∧ t.2.1 ≤ 2 ∧ t.2.2 ≤ 2
theorem ys_ok {t : Tr} (h : t ∈ Ys) : okT t := by
  unfold Ys at h
  simp only [List.mem_cons, List.not_mem_nil, or_false] at h
  rcases h with e | e | e | e | e <;> (rw [e]; unfold okT; decide)
theorem case_ok {q : List Tr} (h : Case q) : (q.length = 3 ∨ q.length = 4) ∧ ∀ t ∈ q, okT t := by
  rcases h with ⟨h, hy⟩ | ⟨a, c, ha, hc, rfl⟩
  · exact ⟨h, fun t ht => ys_ok (hy t ht)⟩
  · refine ⟨.inr rfl, fun t ht => ?_⟩
    simp only [List.mem_cons, List.not_mem_nil, or_false] at ht
    rcases ht with e | e | e | e
    · rw [e]; exact ys_ok ha
    · rw [e]; unfold okT; decide
    · rw [e]; exact ys_ok hc
    · rw [e]; unfold okT; decide
theorem rok_of {q : List Tr} (hl : q.length = 3 ∨ q.length = 4) (ht : ∀ t ∈ q, okT t) : Rok (qp q) (qf q) (qb q) := by
  unfold qp qf qb
  refine ⟨by rw [List.length_map]; omega, by rw [List.length_map]; omega, fun x hx => ?_, by simp, by simp, fun i x y h1 h2 => ?_, fun i x y h1 h2 => ?_⟩
  · obtain ⟨t, ht', rfl⟩ := List.mem_map.mp hx
    have := ht t ht'
    unfold okT at this
    omega
  · rw [List.getElem?_map] at h1 h2
    cases e : q[i]? with
    | none => rw [e] at h1; cases h1
    | some t =>
      rw [e] at h1 h2
      have := ht t (List.mem_iff_getElem?.mpr ⟨i, e⟩)
      unfold okT at this
      have h2 : t.1 = y := Option.some.inj h2
      have h1 : t.2.1 = x := Option.some.inj h1
      omega
  · rw [List.getElem?_map] at h1 h2
    cases e : q[i]? with
    | none => rw [e] at h1; cases h1
    | some t =>
      rw [e] at h1 h2
      have := ht t (List.mem_iff_getElem?.mpr ⟨i, e⟩)
      unfold okT at this
      have h2 : t.1 = y := Option.some.inj h2
      have h1 : t.2.2 = x := Option.some.inj h1
      omega
theorem case_rok {q : List Tr} (h : Case q) : Rok (qp q) (qf q) (qb q) := rok_of (case_ok h).1 (case_ok h).2
theorem pairs_le (p f b : List Nat) : (pairs p f b).length ≤ p.length * p.length := by
  have go : ∀ (l : List Nat) (g : Nat → List (Nat × Nat)) (c : Nat), (∀ x, (g x).length ≤ c) → (l.flatMap g).length ≤ l.length * c := fun l g c h => by
    induction l with
    | nil => simp
    | cons a l ih =>
      rw [List.flatMap_cons, List.length_append, List.length_cons, Nat.succ_mul]
      have := h a
      omega
  unfold pairs
  have := go (List.range p.length) (fun i => ((List.range p.length).filter (okPr p f b i)).map fun j => (i, j)) p.length fun x => by
    rw [List.length_map]
    exact Nat.le_trans (List.length_filter_le _ _) (by rw [List.length_range]; exact Nat.le_refl _)
  rw [List.length_range] at this
  exact this
theorem rok_prs {p f b : List Nat} (o : Rok p f b) : (pairs p f b).length ≤ 1000 := by
  have h := pairs_le p f b
  have h2 := o.p2
  have : p.length * p.length ≤ 7 * 7 := Nat.mul_le_mul h2 h2
  omega
theorem rok_rev {q : List Tr} (h : Case q) : Rok (qp q).reverse (qb q).reverse (qf q).reverse := by
  obtain ⟨hl, ht⟩ := case_ok h
  have := rok_of (q := q.reverse.map fun t => (t.1, t.2.2, t.2.1)) (by rw [List.length_map, List.length_reverse]; exact hl) (fun t h => by
    obtain ⟨x, hx, rfl⟩ := List.mem_map.mp h
    obtain ⟨a, b, c, d, e, f, g, h⟩ := ht x (List.mem_reverse.mp hx)
    exact ⟨a, b, e, f, c, d, h, g⟩)
  unfold qp qf qb at this ⊢
  rw [List.map_map, List.map_map, List.map_map] at this
  rw [← List.map_reverse, ← List.map_reverse, ← List.map_reverse]
  exact this
theorem rok_rot {q : List Tr} (h : Case q) (k : Nat) : Rok (rotL k (qp q)) (rotL k (qf q)) (rotL k (qb q)) := by
  obtain ⟨hl, ht⟩ := case_ok h
  have := rok_of (q := q.drop k ++ q.take k) (by rw [List.length_append, List.length_drop, List.length_take]; omega) (fun t h => by
    rcases List.mem_append.mp h with h | h
    · exact ht t (List.mem_of_mem_drop h)
    · exact ht t (List.mem_of_mem_take h))
  unfold qp qf qb at this
  rw [List.map_append, List.map_append, List.map_append, List.map_drop, List.map_drop, List.map_drop, List.map_take, List.map_take, List.map_take] at this
  unfold rotL qp qf qb
  exact this
theorem opts_le {p f b : List Nat} {i : Nat} (hf : f.getD i 0 ≤ 2) (hb : b.getD i 0 ≤ 2) : (opts p f b i).length ≤ 9 := by
  unfold opts
  have go : ∀ d : List Nat, (d.flatMap (opt1 (p.getD i 0) (b.getD i 0))).length ≤ d.length * 3 := fun d => by
    induction d with
    | nil => simp
    | cons a d ih =>
      rw [List.flatMap_cons, List.length_append, List.length_cons]
      have : (opt1 (p.getD i 0) (b.getD i 0) a).length ≤ 3 := by unfold opt1; rw [List.length_map, List.length_range]; omega
      omega
  have := go (List.range (f.getD i 0 + 1))
  rw [List.length_range] at this
  omega
theorem getD_le {q : List Tr} {g : Tr → Nat} (h : ∀ t ∈ q, g t ≤ 2) (i : Nat) : (q.map g).getD i 0 ≤ 2 := by
  rw [List.getD_eq_getElem?_getD, List.getElem?_map]
  cases e : q[i]? with
  | none => exact Nat.zero_le _
  | some t => exact h t (List.mem_iff_getElem?.mpr ⟨i, e⟩)
theorem stage_le {q : List Tr} (h : Case q) : ∀ n, (stage (qp q) (qf q) (qb q) (List.range n)).length ≤ 9 ^ n
  | 0 => Nat.le_refl _
  | n + 1 => by
    rw [stage_succ, longer_len, Nat.pow_succ]
    obtain ⟨hl, ht⟩ := case_ok h
    exact Nat.mul_le_mul (stage_le h n) (opts_le (getD_le (fun t h => by have := ht t h; unfold okT at this; omega) n) (getD_le (fun t h => by have := ht t h; unfold okT at this; omega) n))
theorem stage_all_le {q : List Tr} (h : Case q) (d u : List Nat) (e : d ++ u = List.range (qp q).length) : (stage (qp q) (qf q) (qb q) d).length ≤ 6561 := by
  have hd : d = List.range d.length := by
    have := congrArg (List.take d.length) e
    rw [List.take_left, List.take_range] at this
    have hl := congrArg List.length e
    rw [List.length_append, List.length_range] at hl
    rw [Nat.min_eq_left (by omega)] at this
    exact this
  have hl : d.length ≤ 4 := by
    have hl := congrArg List.length e
    rw [List.length_append, List.length_range] at hl
    have := (case_ok h).1
    unfold qp at hl
    rw [List.length_map] at hl
    omega
  rw [hd]
  exact Nat.le_trans (stage_le h d.length) (Nat.le_trans (Nat.pow_le_pow_right (by decide) hl) (by decide))
/-- what the rounds keep -/
structure Keeps (q : List Tr) (L : Nat) : Prop where
  told : ∀ s ∈ foundL (qp q) (qf q) (qb q), (∀ t ∈ foundL (qp q) (qf q) (qb q), carts s ≤ carts t) → carts s = L ∧ stk (qp q) (qf q) (qb q) s = true ∧ s ∈ allS (qp q) (qf q) (qb q)
  low : ∀ s ∈ allS (qp q) (qf q) (qb q), stk (qp q) (qf q) (qb q) s = true → L ≤ carts s
  rev : leastF (qp q).reverse (qb q).reverse (qf q).reverse = L
  rot : ∀ k, k < q.length → leastF (rotL k (qp q)) (rotL k (qf q)) (rotL k (qb q)) = L
  prs : (pairs (qp q) (qf q) (qb q)).length ≤ 20
theorem case_keeps {q : List Tr} (h : Case q) : Keeps q (leastF (qp q) (qf q) (qb q)) := by
  have c := chk_case h
  unfold chkQ chk at c
  rw [Bool.and_eq_true, Bool.and_eq_true, Bool.and_eq_true] at c
  obtain ⟨⟨c1, c2, c3⟩, c4⟩ := c
  have o := case_rok h
  refine ⟨fun s hs hm => ?_, fun s hs hst => ?_, Nat.eq_of_beq_eq_true c2, fun k hk => ?_, Nat.le_of_ble_eq_true c4⟩
  · have e := least_eq hs hm
    have := List.all_eq_true.mp c1 s hs
    rw [e, Nat.beq_refl, Bool.not_true, Bool.false_or, Bool.and_eq_true] at this
    exact ⟨e, this.1, (mem_all o).mpr (okB_sok this.2)⟩
  · obtain ⟨t, ht, hl⟩ := low o ((mem_all o).mp hs) hst
    exact Nat.le_trans (least_le ht) hl
  · have hk : k < (qp q).length := by unfold qp; rw [List.length_map]; exact hk
    exact Nat.eq_of_beq_eq_true (List.all_eq_true.mp c3 k (List.mem_range.mpr hk))
theorem least_some (p f b : List Nat) : ∃ s ∈ foundL p f b, ∀ t ∈ foundL p f b, carts s ≤ carts t := by
  have h2 := mins_mem (l := (foundL p f b).map carts) (by simp [found_ne])
  obtain ⟨t, ht, e⟩ := List.mem_map.mp h2
  refine ⟨t, ht, fun u hu => ?_⟩
  rw [e]
  exact least_le hu
end K75

set_option Elab.async false
set_option linter.all false
set_option maxRecDepth 100000
set_option maxHeartbeats 1000000
/-! the law's own def -/
namespace K75
open PySem PySem.Spec PyProof.Rows L2 DL PySem.W
theorem pw_case {q : List Tr} (h : Case q) : PW (qp q) ∧ PW (qf q) ∧ PW (qb q) := by
  obtain ⟨hl, ht⟩ := case_ok h
  have go : ∀ g : Tr → Nat, (∀ t, okT t → g t < 8) → PW (q.map g) := fun g hg => ⟨by rw [List.length_map]; omega, fun x hx => by
    obtain ⟨t, h, rfl⟩ := List.mem_map.mp hx
    exact hg t (ht t h)⟩
  exact ⟨go _ fun t h => by unfold okT at h; omega, go _ fun t h => by unfold okT at h; omega, go _ fun t h => by unfold okT at h; omega⟩
/-- what is told of a drawn round -/
structure Has (n : Nat) (p f b : List Nat) (S T : List Std) (L : Nat) (G : Std → Prop) (la ls rf jr : List D → DK → Prop) (rs : List D → (List D → Prop) → Prop) : Prop where
  n0 : 0 < n
  n1 : n ≤ 1000
  pl : p.length ≤ 1000
  fl : f.length ≤ 1000
  bl : b.length ≤ 1000
  w : wrD (.lst [.lst (DL.dNs p), .lst (DL.dNs f), .lst (DL.dNs b)])
  so : PyData.strOk (toPy (.lst [.lst (DL.dNs p), .lst (DL.dNs f), .lst (DL.dNs b)])).shown = true
  h_la : ∀ k : DK, k (.lst (S.map dSt)) → la [.lst (DL.dNs p), .lst (DL.dNs f), .lst (DL.dNs b)] k
  sl : S.length ≤ 10000
  tl : T.length ≤ 10000
  len : ∀ s ∈ T, s.length ≤ 1000
  g : ∀ s, G s → s ∈ T ∧ carts s = L
  g1 : ∃ s, G s
  low : ∀ s ∈ T, L ≤ carts s
  h_rs : ∀ k : List D → Prop, (∀ s, G s → k (s.map dPr)) → rs [.lst (DL.dNs p), .lst (DL.dNs f), .lst (DL.dNs b)] k
  h_rf : ∀ k : DK, k (dN L) → rf [.lst (DL.dNs p), .lst (DL.dNs f), .lst (DL.dNs b)] k
  h_rv : ∀ k : DK, k (dN L) → rf [.lst (DL.dNs p.reverse), .lst (DL.dNs b.reverse), .lst (DL.dNs f.reverse)] k
  h_rt : ∀ d, d < n → ∀ k : DK, k (dN L) → rf [.lst (DL.dNs (rotL d p)), .tup (DL.dNs (rotL d f)), .lst (DL.dNs (rotL d b))] k
  h_j1 : ∀ k : DK, k (.bl true) → jr [.lst (DL.dNs p), .lst (DL.dNs f), .lst (DL.dNs b), .lst (S.map dSt ++ T.map dSt)] k
  h_j2 : ∀ k : DK, k (.bl true) → jr [.lst (DL.dNs p), .lst (DL.dNs f), .lst (DL.dNs b), .lst (T.map dSt)] k
theorem has_case {q : List Tr} {n : Nat} (h : Case q) (hn : q.length = n) : Has n (qp q) (qf q) (qb q) (allS (qp q) (qf q) (qb q)) ((allS (qp q) (qf q) (qb q)).filter (stk (qp q) (qf q) (qb q))) (leastF (qp q) (qf q) (qb q))
    (fun s => s ∈ (allS (qp q) (qf q) (qb q)).filter (stk (qp q) (qf q) (qb q)) ∧ carts s = leastF (qp q) (qf q) (qb q)) d_l_all d_l_is_stuck d_round_fewest d_l_judged_right b_round_stand := by
  have o := case_rok h
  have kp := case_keeps h
  obtain ⟨w1, w2, w3⟩ := pw_case h
  have hl := (case_ok h).1
  have hsl : (allS (qp q) (qf q) (qb q)).length ≤ 6561 := stage_all_le h _ [] (by rw [List.append_nil])
  have htl : ((allS (qp q) (qf q) (qb q)).filter (stk (qp q) (qf q) (qb q))).length ≤ 6561 := Nat.le_trans (List.length_filter_le _ _) hsl
  have hne : 0 < ((allS (qp q) (qf q) (qb q)).filter (stk (qp q) (qf q) (qb q))).length := by
    obtain ⟨s, hs, hm⟩ := least_some (qp q) (qf q) (qb q)
    have := kp.told s hs hm
    exact List.length_pos_of_mem (List.mem_filter.mpr ⟨this.2.2, this.2.1⟩)
  have tin : ∀ s ∈ foundL (qp q) (qf q) (qb q), (∀ t ∈ foundL (qp q) (qf q) (qb q), carts s ≤ carts t) → s ∈ (allS (qp q) (qf q) (qb q)).filter (stk (qp q) (qf q) (qb q)) ∧ carts s = leastF (qp q) (qf q) (qb q) := fun s hs hm => by
    have := kp.told s hs hm
    exact ⟨List.mem_filter.mpr ⟨this.2.2, this.2.1⟩, this.1⟩
  have wl := w1.1
  have wl2 := w2.1
  have wl3 := w3.1
  exact {
    n0 := by omega
    n1 := by omega
    pl := by omega
    fl := by omega
    bl := by omega
    w := w_rows w1 w2 w3
    so := so_rows w1 w2 w3
    h_la := fun k hk => p_all o (fun d u e => Nat.le_trans (stage_all_le h d u e) (by decide)) hk
    sl := by omega
    tl := by omega
    len := fun s hs => by
      have := ((mem_all o).mp (List.mem_filter.mp hs).1).len
      omega
    g := fun s hs => hs
    g1 := by
      obtain ⟨s, hs, hm⟩ := least_some (qp q) (qf q) (qb q)
      exact ⟨s, tin s hs hm⟩
    low := fun s hs => kp.low s (List.mem_filter.mp hs).1 (List.mem_filter.mp hs).2
    h_rs := fun k hk => q_round_stand (u := false) o (rok_prs o) fun s hs hm => hk s (tin s hs hm)
    h_rf := fun k hk => p_fewest (u := false) o (rok_prs o) fun s hs hm => by rw [(kp.told s hs hm).1]; exact hk
    h_rv := fun k hk => p_fewest (u := false) (rok_rev h) (rok_prs (rok_rev h)) fun s hs hm => by rw [least_eq hs hm, kp.rev]; exact hk
    h_rt := fun d hd k hk => p_fewest (u := true) (rok_rot h d) (rok_prs (rok_rot h d)) fun s hs hm => by rw [least_eq hs hm, kp.rot d (by omega)]; exact hk
    h_j1 := fun k hk => by
      rw [← List.map_append]
      refine p_judged o (by rw [List.length_append]; omega) (by rw [List.length_append]; omega) (fun s hs => (mem_all o).mp ?_) hk
      rcases List.mem_append.mp hs with h | h
      · exact h
      · exact (List.mem_filter.mp h).1
    h_j2 := fun k hk => p_judged o hne (by omega) (fun s hs => (mem_all o).mp (List.mem_filter.mp hs).1) hk }
theorem p_l_right {k : DK} (hk : k (.bl true)) : d_l_right [] k := by
  show e_l_right [.pot, .un, .un, .un, .un, .un, .un, .un, .un, .un, .un, .un, .un, .un] (knE k)
  unfold e_l_right
  refine r_seq (c1 fun n hn => ?_)
  refine r_seq2 (c_rows hn fun q0 h1 h2 => ?_)
  dsimp only
  refine r_know ?_
  refine r_seq (c_case hn h1 h2 fun q hq hqn => ?_)
  have H := has_case hq hqn
  refine r_seq (c5 H.h_la H.w ?_)
  refine r_seq (c6 (st := stk (qp q) (qf q) (qb q)) (Nat.le_trans H.sl (by decide)) (fun s hs k hk => p_l_stuck (case_rok hq) ((mem_all (case_rok hq)).mp hs).len hk) ?_)
  refine r_seq (c7 (L := leastF (qp q) (qf q) (qb q)) (Nat.le_trans H.tl (by decide)) H.len (by obtain ⟨s, hs⟩ := H.g1; exact ⟨s, H.g s hs⟩) H.low ?_)
  refine r_seq (c8 H.h_rs fun s hs => ?_)
  have gs := H.g s hs
  refine r_seq (c9 H.h_rf (H.len s gs.1) gs.2 gs.1 ?_)
  refine r_seq (c10 H.n0 H.n1 fun d hd => ?_)
  refine r_seq (c11 H.h_rv ?_)
  refine r_seq (c12 H.pl H.fl H.bl (H.h_rt d hd) ?_)
  refine r_seq (c13 (by rw [List.length_map]; exact H.len s gs.1) ?_)
  refine r_seq (c14 (by rw [List.length_map, List.length_map]; have := H.sl; have := H.tl; omega) H.h_j1 H.h_j2 ?_)
  exact c15 (fun kk hkk => H.h_rs kk fun s hs => hkk s (H.g s hs).1) H.w H.so hk
end K75

set_option Elab.async false
set_option linter.all false
set_option maxRecDepth 100000
set_option maxHeartbeats 4000000
/-! the law -/
namespace G8
open PySem PySem.Spec PyProof.Rows L2
theorem fng_imp {P : Program} {w : World} {K : PySem.W.Frag} {mg : Str → Option Value} {base : Heap} {CX : CXT} {k : Nat} {f : Addr} {fd : FuncData} {ps : List Str} {sp sp' : Sp} (F : FnOkG P w K mg base CX k f fd ps sp)
    (h : ∀ vs H Q E, sp' vs H Q E → sp vs H Q E) : FnOkG P w K mg base CX k f fd ps sp' :=
  ⟨fun vs H Q E q => F.len vs H Q E (h _ _ _ _ q), fun A outer s H args us vs Q E hr hg he hb hv hs => F.run A outer s H args us vs Q E hr hg he hb hv (h _ _ _ _ hs)⟩
end G8
namespace K75
open PySem PySem.Spec PyProof.Rows L2 TM Pr Ep Nw DL
open Evl (Ex)
section
variable {P : Program} {w : World} {K : PySem.W.Frag} {mg : Str → Option Value} {base : Heap} {A : Adr}
theorem ok_l_right (T : Txt K mg A) : G8.FnOkG P w K mg base CX0 6 A.l_right A.l_right_fd ["_law_pot_here"] spRight := G8.fng_imp (okd_l_right T) fun vs H Q E h => by
  obtain ⟨p, rfl, hp, q⟩ := h
  refine ⟨some p, fun _ => none, [], [], fun d => d = .bl true, .inr ⟨p, rfl, rfl, rfl⟩, fun p' z => by cases z; exact hp, fun _ _ => rfl, fun _ _ z => (nomatch z), .nil, rfl, p_l_right rfl, fun d v B' H' e s po r => ?_⟩
  subst e
  simp only [Rp] at r
  subst r
  exact q H'
theorem ok_law (T : Txt K mg A) : G8.FnOkG P w K mg base CX0 7 A.law A.law_fd ["_law_script"] (spLaw K) := by
  refine G8.okG T.F_law sc_law (fun vs H Q E h => ?_) (fun cdv A' outer s H vs Q E hr hG h => ?_)
  · obtain ⟨a, ns, rfl, _⟩ := h
    rfl
  · obtain ⟨a, ns, rfl, ha, k⟩ := h
    refine ⟨_, (pss_one (ps_ret (G8.pe_callG (ok_l_right T) (hr.mono (by decide)) hG (by rfl) T.m_l_right T.F_l_right.kp T.b_l_right .nil pass0 (pa_cons (pe_call (ok_l_pot T) (hr.mono (by decide)) (by rfl) T.m_l_pot T.F_l_pot.kp T.b_l_pot .nil pass0 (pa_cons (pv 0) (pa_cons pe_int pa_nil))) pa_nil)))), ?_⟩
    exact ⟨_, rfl, a, ns, 0, rfl, ha, by decide, fun p H1 e1 fp hp => ⟨p, rfl, hp, fun H2 => k H2⟩⟩
end
end K75

set_option Elab.async false
set_option linter.all false
set_option maxRecDepth 100000
set_option maxHeartbeats 4000000
/-! the law called from outside, where its def is promised under the guard alone -/
namespace G8
open PySem PySem.Spec PyProof.Rows L2
section
variable {P : Program} {w : World} {K : PySem.W.Frag} {mg mb : Str → Option Value} {k : Nat} {fa a : Addr} {fd : FuncData} {x : Str} {sp : Sp} {s : Shared} {vs : List Value} {ns : List Int} {H : Hp}
/-- a table is not the script -/
theorem table_off (ha : s.heap.get? a = some { cls := .type "list", data := .seq vs.toArray }) (only : ∀ b, b ≠ a → H b = none) {b : Addr} {m : Str → Option Value} (t : s.heap.Ns b m) : (hidT s.heap H).Ns b m := by
  obtain ⟨ob, ents, used, at_, isD, rest⟩ := t
  refine ⟨ob, ents, used, hidT_get at_ (only b fun same => ?_), isD, rest⟩
  rw [same, ha] at at_
  have sameO := Option.some.inj at_
  rw [← sameO] at isD
  exact nomatch isD
theorem mod_below (KX : K.In s.heap) (g1 : s.heap.Ns mainGlobals mg) (g2 : s.heap.Ns builtinsNs mb) (g3 : ∀ y : Str, y ≠ "__name__" → mb y = bootBuiltins y) (g4 : s.heap.NoLimit)
    (ha : s.heap.get? a = some { cls := .type "list", data := .seq vs.toArray }) (only : ∀ b, b ≠ a → H b = none) (out : H a = none ∨ K.lookup a = none) : Mod K mg (hidT s.heap H) := by
  obtain ⟨lim, l1, l2⟩ := g4
  refine ⟨fun b o hb => hidT_get (KX b o hb) ?_, table_off ha only g1, ⟨mb, table_off ha only g2, g3⟩, ⟨lim, table_off ha only l1, l2⟩⟩
  by_cases same : b = a
  · rcases out with z | z
    · rw [same]
      exact z
    · rw [same, z] at hb
      exact nomatch hb
  · exact only b same
/-- one tracked thing at most, which is locked: the call leaves all as it was -/
theorem law_from (KX : K.In s.heap) (g1 : s.heap.Ns mainGlobals mg) (g2 : s.heap.Ns builtinsNs mb) (g3 : ∀ y : Str, y ≠ "__name__" → mb y = bootBuiltins y) (g4 : s.heap.NoLimit) (g5 : s.gens = #[])
    (ha : s.heap.get? a = some { cls := .type "list", data := .seq vs.toArray }) (hr : Room k callerA) (F : ∀ base : Heap, FnOkG P w K mg base CX0 k fa fd [x] sp) (bind : ∀ (t : Shared) (u : Value), BindsTo t fd ⟨[u], []⟩ [(x, u)])
    (only : ∀ b, b ≠ a → H b = none) (out : H a = none ∨ K.lookup a = none) (lock : ∀ b u, H b = some u → ∃ ob xs, u = .frz ob (.lst xs)) (hok : HOk P w H s.heap) (say : sp [.ref a] H (fun v _ => v = .bl true) fun _ _ _ => False) :
    codeAny (model P w) callerA (.call (.ref fa) ⟨[.ref a], []⟩) (fun r t => r = .ok (.ret (.bool true)) ∧ OldK s.heap t.heap ∧ t.os = s.os ∧ AllBare t.gens) s := by
  have none_in : ∀ b : Addr, ¬ b ∈ ([] : List Addr) := fun b z => nomatch z
  have env : Env0 P w K mg (hidT s.heap H) callerA [] s H :=
    ⟨rfl, mod_below KX g1 g2 g3 g4 ha only out, fun b o z => of_hidT z, Nat.le_of_eq (hidT_size _ _), trivial, fun b z => absurd z (none_in b), hok, .of_eq g5⟩
  have go := (F (hidT s.heap H)).run callerA [] s H ⟨[.ref a], []⟩ [.ref a] [.ref a] (fun v _ => v = .bl true) (fun _ _ _ => False) hr rfl env (bind s (.ref a)) (.cons rfl .nil) say
  refine codeAny_mono go fun r t done => ?_
  match r, done with
  | .ok (.ret u), ⟨v, H2, os, bare, un, hok2, rel, isT⟩ =>
    have isT : v = .bl true := isT
    subst isT
    have isU : u = Value.bool true := rel
    subst isU
    refine ⟨rfl, .of_keep fun b o there => ?_, os, bare⟩
    cases tracked : H b with
    | none => exact un.keep b o there tracked (none_in b) (by simp)
    | some v =>
      obtain ⟨ob, xs, rfl⟩ := lock b v tracked
      have one := (hok b _ tracked).1
      have two := (hok2 b _ (un.frzs b ob _ tracked)).1
      rw [there] at one
      rw [Option.some.inj one]
      exact two
  | .error e, done => exact done.elim
  | .ok .next, done => exact done.elim
  | .ok .brk, done => exact done.elim
  | .ok .cont, done => exact done.elim
end
end G8
namespace G8
open PySem PySem.Spec PyProof.Rows L2
/-- the row, by the promise of its def -/
theorem walk_G {l : PySem.W.OpenLaw} {n k : Nat} {q : Program} {loose : List Str} {XP : (Str → Option Value) → Heap → Prop} {YP : World → Heap → Prop} {d : DefRec} {K : Params → PySem.W.Frag} {sp : PySem.W.Frag → Sp} {x : Str}
    (most : l.most = some n) (fits : n ≤ sizeLine) (plain : d.params.defaults = []) (hr : Room k callerA) (isIn : ∀ (w : World) (h : Heap), YP w h → (K w.params).In h)
    (F : ∀ (w : World) (mg : Str → Option Value) (fa : Addr) (h : Heap), (K w.params).In h → h.Ns mainGlobals mg → mg d.name = some (.ref fa) →
      ∃ fd : FuncData, (∀ (s : Shared) (u : Value), BindsTo s fd ⟨[u], []⟩ [(x, u)]) ∧ ∀ base : Heap, FnOkG l.prog w (K w.params) mg base CX0 k fa fd [x] (sp (K w.params)))
    (say : ∀ (K : PySem.W.Frag) (H : Hp) (a : Addr) (ns : List Int), SqL K H a (ns.map V.int) → sp K [.ref a] H (fun v _ => v = .bl true) fun _ _ _ => False) :
    PySem.W.WalkO q loose XP YP l.row.toRowW d [] (fun f vs => PySem.call f vs) := by
  refine Att.attach_call most plain fun w _ s mg mb fa _ _ _ _ a vs ns G Y _ _ _ hmg script nums short clean => ?_
  have KX := isIn w _ Y
  obtain ⟨fd, bind, ok⟩ := F w mg fa _ KX G.T.g hmg
  have many : ns.length ≤ sizeLine := Nat.le_trans short fits
  have same := nums.length
  have rel := vals_ints nums
  have sized : (ns.map V.int).length ≤ sizeLine := by rw [List.length_map]; exact many
  have done := fun {H : Hp} => law_from (H := H) (fa := fa) (vs := vs) KX G.T.g G.T.b G.T.builtins G.T.nolimit clean script hr ok bind
  by_cases known : ((K w.params).lookup a).isSome = true
  · obtain ⟨ob, at_⟩ := Option.isSome_iff_exists.mp known
    have there := KX a ob at_
    rw [script] at there
    have isO := Option.some.inj there
    subst isO
    exact done (H := fun _ => none) (fun _ _ => rfl) (.inl rfl) (fun _ _ z => nomatch z) (fun _ _ z => nomatch z) (say _ _ _ _ (.inr ⟨_, vs.toArray, _, at_, rfl, rfl, rfl, by rw [List.size_toArray, same]; exact many, by simpa using rel⟩))
  · have out : (K w.params).lookup a = none := by
      cases e : (K w.params).lookup a with
      | none => rfl
      | some ob => rw [e] at known; exact absurd rfl known
    have here : (fun b => if b = a then some (HO.frz { cls := .type "list", data := .seq vs.toArray } (.lst (ns.map V.int))) else none : Hp) a = some (.frz { cls := .type "list", data := .seq vs.toArray } (.lst (ns.map V.int))) := if_pos rfl
    have only : ∀ b u, (fun b => if b = a then some (HO.frz { cls := .type "list", data := .seq vs.toArray } (.lst (ns.map V.int))) else none : Hp) b = some u → b = a ∧ u = .frz { cls := .type "list", data := .seq vs.toArray } (.lst (ns.map V.int)) := fun b u z => by
      by_cases e : b = a
      · subst e
        exact ⟨rfl, (Option.some.inj (here.symm.trans z)).symm⟩
      · have z2 : (none : Option HO) = some u := (if_neg e).symm.trans z
        exact nomatch z2
    refine done (H := fun b => if b = a then some (HO.frz { cls := .type "list", data := .seq vs.toArray } (.lst (ns.map V.int))) else none) (fun b e => if_neg e) (.inr out) (fun b u z => ?_) (fun b u z => ?_) (say _ _ _ _ (.inl (.inr ⟨_, here⟩)))
    · exact ⟨_, _, (only b u z).2⟩
    · obtain ⟨e, r⟩ := only b u z
      subst e; subst r
      exact ⟨script, sized, vs, _, rel, script⟩
end G8
set_option Elab.async false
set_option linter.all false
set_option maxRecDepth 100000
set_option maxHeartbeats 4000000
namespace K75
open PySem PySem.Spec PyProof.Rows L2
theorem all_mk {P : Program} {w : World} {K : PySem.W.Frag} {h : Heap} {mg : Str → Option Value} {fa : Addr} (X : K.In h) (G : h.Ns mainGlobals mg) (hfa : mg "law" = some (.ref fa))
    {f_is_count : Addr} {od_is_count an_is_count : Option Addr} {sl_is_count : Array (Option Value)} {oc_is_count kV_is_count dc_is_count pm_is_count cd_is_count ct_is_count : Value} {f_is_row : Addr} {od_is_row an_is_row : Option Addr} {sl_is_row : Array (Option Value)} {oc_is_row kV_is_row dc_is_row pm_is_row cd_is_row ct_is_row : Value} {f_round_fewest : Addr} {od_round_fewest an_round_fewest : Option Addr} {sl_round_fewest : Array (Option Value)} {oc_round_fewest kV_round_fewest dc_round_fewest pm_round_fewest cd_round_fewest ct_round_fewest : Value} {f_round_stand : Addr} {od_round_stand an_round_stand : Option Addr} {sl_round_stand : Array (Option Value)} {oc_round_stand kV_round_stand dc_round_stand pm_round_stand cd_round_stand ct_round_stand : Value} {f_is_round_stuck : Addr} {od_is_round_stuck an_is_round_stuck : Option Addr} {sl_is_round_stuck : Array (Option Value)} {oc_is_round_stuck kV_is_round_stuck dc_is_round_stuck pm_is_round_stuck cd_is_round_stuck ct_is_round_stuck : Value} {f_check_round : Addr} {od_check_round an_check_round : Option Addr} {sl_check_round : Array (Option Value)} {oc_check_round kV_check_round dc_check_round pm_check_round cd_check_round ct_check_round : Value} {f_are_round_bounds : Addr} {od_are_round_bounds an_are_round_bounds : Option Addr} {sl_are_round_bounds : Array (Option Value)} {oc_are_round_bounds kV_are_round_bounds dc_are_round_bounds pm_are_round_bounds cd_are_round_bounds ct_are_round_bounds : Value} {f_carts_in_all : Addr} {od_carts_in_all an_carts_in_all : Option Addr} {sl_carts_in_all : Array (Option Value)} {oc_carts_in_all kV_carts_in_all dc_carts_in_all pm_carts_in_all cd_carts_in_all ct_carts_in_all : Value} {f_round_pairs : Addr} {od_round_pairs an_round_pairs : Option Addr} {sl_round_pairs : Array (Option Value)} {oc_round_pairs kV_round_pairs dc_round_pairs pm_round_pairs cd_round_pairs ct_round_pairs : Value} {f_stand_between : Addr} {od_stand_between an_stand_between : Option Addr} {sl_stand_between : Array (Option Value)} {oc_stand_between kV_stand_between dc_stand_between pm_stand_between cd_stand_between ct_stand_between : Value} {f_is_round_stand : Addr} {od_is_round_stand an_is_round_stand : Option Addr} {sl_is_round_stand : Array (Option Value)} {oc_is_round_stand kV_is_round_stand dc_is_round_stand pm_is_round_stand cd_is_round_stand ct_is_round_stand : Value} {f_is_pair_of_counts : Addr} {od_is_pair_of_counts an_is_pair_of_counts : Option Addr} {sl_is_pair_of_counts : Array (Option Value)} {oc_is_pair_of_counts kV_is_pair_of_counts dc_is_pair_of_counts pm_is_pair_of_counts cd_is_pair_of_counts ct_is_pair_of_counts : Value} {f_is_stuck_round : Addr} {od_is_stuck_round an_is_stuck_round : Option Addr} {sl_is_stuck_round : Array (Option Value)} {oc_is_stuck_round kV_is_stuck_round dc_is_stuck_round pm_is_stuck_round cd_is_stuck_round ct_is_stuck_round : Value} {f_l_pot : Addr} {od_l_pot an_l_pot : Option Addr} {sl_l_pot : Array (Option Value)} {oc_l_pot kV_l_pot dc_l_pot pm_l_pot cd_l_pot ct_l_pot : Value} {f_l_draw : Addr} {od_l_draw an_l_draw : Option Addr} {sl_l_draw : Array (Option Value)} {oc_l_draw kV_l_draw dc_l_draw pm_l_draw cd_l_draw ct_l_draw : Value} {f_l_pick : Addr} {od_l_pick an_l_pick : Option Addr} {sl_l_pick : Array (Option Value)} {oc_l_pick kV_l_pick dc_l_pick pm_l_pick cd_l_pick ct_l_pick : Value} {f_l_all : Addr} {od_l_all an_l_all : Option Addr} {sl_l_all : Array (Option Value)} {oc_l_all kV_l_all dc_l_all pm_l_all cd_l_all ct_l_all : Value} {f_l_longer : Addr} {od_l_longer an_l_longer : Option Addr} {sl_l_longer : Array (Option Value)} {oc_l_longer kV_l_longer dc_l_longer pm_l_longer cd_l_longer ct_l_longer : Value} {f_l_is_stuck : Addr} {od_l_is_stuck an_l_is_stuck : Option Addr} {sl_l_is_stuck : Array (Option Value)} {oc_l_is_stuck kV_l_is_stuck dc_l_is_stuck pm_l_is_stuck cd_l_is_stuck ct_l_is_stuck : Value} {f_l_judged_right : Addr} {od_l_judged_right an_l_judged_right : Option Addr} {sl_l_judged_right : Array (Option Value)} {oc_l_judged_right kV_l_judged_right dc_l_judged_right pm_l_judged_right cd_l_judged_right ct_l_judged_right : Value} {f_l_right : Addr} {od_l_right an_l_right : Option Addr} {sl_l_right : Array (Option Value)} {oc_l_right kV_l_right dc_l_right pm_l_right cd_l_right ct_l_right : Value} {f_law : Addr} {od_law an_law : Option Addr} {sl_law : Array (Option Value)} {oc_law kV_law dc_law pm_law cd_law ct_law : Value} {t_MOST_PLACES : Tok} {t_FEWEST_IN_A_ROUND : Tok} {t_MOST_IN_A_ROUND : Tok}
    (a_is_count : PySem.W.nsIn K mainGlobals "is_count" = some (some (.ref f_is_count)))
    (l_is_count : K.lookup f_is_count = some ⟨oc_is_count, od_is_count, .func (PySem.W.fnOf "is_count" "is_count" (defArgs s_is_count) (defBody s_is_count) (defScope s_is_count) .none kV_is_count dc_is_count pm_is_count an_is_count cd_is_count ct_is_count), sl_is_count⟩)
    (c_is_count : PySem.W.codeIn K cd_is_count "is_count" = true)
    (k_is_count : PySem.W.keepIn K (.ref f_is_count) = true)
    (a_is_row : PySem.W.nsIn K mainGlobals "is_row" = some (some (.ref f_is_row)))
    (l_is_row : K.lookup f_is_row = some ⟨oc_is_row, od_is_row, .func (PySem.W.fnOf "is_row" "is_row" (defArgs s_is_row) (defBody s_is_row) (defScope s_is_row) .none kV_is_row dc_is_row pm_is_row an_is_row cd_is_row ct_is_row), sl_is_row⟩)
    (c_is_row : PySem.W.codeIn K cd_is_row "is_row" = true)
    (k_is_row : PySem.W.keepIn K (.ref f_is_row) = true)
    (a_round_fewest : PySem.W.nsIn K mainGlobals "round_fewest" = some (some (.ref f_round_fewest)))
    (l_round_fewest : K.lookup f_round_fewest = some ⟨oc_round_fewest, od_round_fewest, .func (PySem.W.fnOf "round_fewest" "round_fewest" (defArgs s_round_fewest) (defBody s_round_fewest) (defScope s_round_fewest) .none kV_round_fewest dc_round_fewest pm_round_fewest an_round_fewest cd_round_fewest ct_round_fewest), sl_round_fewest⟩)
    (c_round_fewest : PySem.W.codeIn K cd_round_fewest "round_fewest" = true)
    (k_round_fewest : PySem.W.keepIn K (.ref f_round_fewest) = true)
    (a_round_stand : PySem.W.nsIn K mainGlobals "round_stand" = some (some (.ref f_round_stand)))
    (l_round_stand : K.lookup f_round_stand = some ⟨oc_round_stand, od_round_stand, .func (PySem.W.fnOf "round_stand" "round_stand" (defArgs s_round_stand) (defBody s_round_stand) (defScope s_round_stand) .none kV_round_stand dc_round_stand pm_round_stand an_round_stand cd_round_stand ct_round_stand), sl_round_stand⟩)
    (c_round_stand : PySem.W.codeIn K cd_round_stand "round_stand" = true)
    (k_round_stand : PySem.W.keepIn K (.ref f_round_stand) = true)
    (a_is_round_stuck : PySem.W.nsIn K mainGlobals "is_round_stuck" = some (some (.ref f_is_round_stuck)))
    (l_is_round_stuck : K.lookup f_is_round_stuck = some ⟨oc_is_round_stuck, od_is_round_stuck, .func (PySem.W.fnOf "is_round_stuck" "is_round_stuck" (defArgs s_is_round_stuck) (defBody s_is_round_stuck) (defScope s_is_round_stuck) .none kV_is_round_stuck dc_is_round_stuck pm_is_round_stuck an_is_round_stuck cd_is_round_stuck ct_is_round_stuck), sl_is_round_stuck⟩)
    (c_is_round_stuck : PySem.W.codeIn K cd_is_round_stuck "is_round_stuck" = true)
    (k_is_round_stuck : PySem.W.keepIn K (.ref f_is_round_stuck) = true)
    (a_check_round : PySem.W.nsIn K mainGlobals "check_round" = some (some (.ref f_check_round)))
    (l_check_round : K.lookup f_check_round = some ⟨oc_check_round, od_check_round, .func (PySem.W.fnOf "check_round" "check_round" (defArgs s_check_round) (defBody s_check_round) (defScope s_check_round) .none kV_check_round dc_check_round pm_check_round an_check_round cd_check_round ct_check_round), sl_check_round⟩)
    (c_check_round : PySem.W.codeIn K cd_check_round "check_round" = true)
    (k_check_round : PySem.W.keepIn K (.ref f_check_round) = true)
    (a_are_round_bounds : PySem.W.nsIn K mainGlobals "are_round_bounds" = some (some (.ref f_are_round_bounds)))
    (l_are_round_bounds : K.lookup f_are_round_bounds = some ⟨oc_are_round_bounds, od_are_round_bounds, .func (PySem.W.fnOf "are_round_bounds" "are_round_bounds" (defArgs s_are_round_bounds) (defBody s_are_round_bounds) (defScope s_are_round_bounds) .none kV_are_round_bounds dc_are_round_bounds pm_are_round_bounds an_are_round_bounds cd_are_round_bounds ct_are_round_bounds), sl_are_round_bounds⟩)
    (c_are_round_bounds : PySem.W.codeIn K cd_are_round_bounds "are_round_bounds" = true)
    (k_are_round_bounds : PySem.W.keepIn K (.ref f_are_round_bounds) = true)
    (a_carts_in_all : PySem.W.nsIn K mainGlobals "carts_in_all" = some (some (.ref f_carts_in_all)))
    (l_carts_in_all : K.lookup f_carts_in_all = some ⟨oc_carts_in_all, od_carts_in_all, .func (PySem.W.fnOf "carts_in_all" "carts_in_all" (defArgs s_carts_in_all) (defBody s_carts_in_all) (defScope s_carts_in_all) .none kV_carts_in_all dc_carts_in_all pm_carts_in_all an_carts_in_all cd_carts_in_all ct_carts_in_all), sl_carts_in_all⟩)
    (c_carts_in_all : PySem.W.codeIn K cd_carts_in_all "carts_in_all" = true)
    (k_carts_in_all : PySem.W.keepIn K (.ref f_carts_in_all) = true)
    (a_round_pairs : PySem.W.nsIn K mainGlobals "round_pairs" = some (some (.ref f_round_pairs)))
    (l_round_pairs : K.lookup f_round_pairs = some ⟨oc_round_pairs, od_round_pairs, .func (PySem.W.fnOf "round_pairs" "round_pairs" (defArgs s_round_pairs) (defBody s_round_pairs) (defScope s_round_pairs) .none kV_round_pairs dc_round_pairs pm_round_pairs an_round_pairs cd_round_pairs ct_round_pairs), sl_round_pairs⟩)
    (c_round_pairs : PySem.W.codeIn K cd_round_pairs "round_pairs" = true)
    (k_round_pairs : PySem.W.keepIn K (.ref f_round_pairs) = true)
    (a_stand_between : PySem.W.nsIn K mainGlobals "stand_between" = some (some (.ref f_stand_between)))
    (l_stand_between : K.lookup f_stand_between = some ⟨oc_stand_between, od_stand_between, .func (PySem.W.fnOf "stand_between" "stand_between" (defArgs s_stand_between) (defBody s_stand_between) (defScope s_stand_between) .none kV_stand_between dc_stand_between pm_stand_between an_stand_between cd_stand_between ct_stand_between), sl_stand_between⟩)
    (c_stand_between : PySem.W.codeIn K cd_stand_between "stand_between" = true)
    (k_stand_between : PySem.W.keepIn K (.ref f_stand_between) = true)
    (a_is_round_stand : PySem.W.nsIn K mainGlobals "is_round_stand" = some (some (.ref f_is_round_stand)))
    (l_is_round_stand : K.lookup f_is_round_stand = some ⟨oc_is_round_stand, od_is_round_stand, .func (PySem.W.fnOf "is_round_stand" "is_round_stand" (defArgs s_is_round_stand) (defBody s_is_round_stand) (defScope s_is_round_stand) .none kV_is_round_stand dc_is_round_stand pm_is_round_stand an_is_round_stand cd_is_round_stand ct_is_round_stand), sl_is_round_stand⟩)
    (c_is_round_stand : PySem.W.codeIn K cd_is_round_stand "is_round_stand" = true)
    (k_is_round_stand : PySem.W.keepIn K (.ref f_is_round_stand) = true)
    (a_is_pair_of_counts : PySem.W.nsIn K mainGlobals "is_pair_of_counts" = some (some (.ref f_is_pair_of_counts)))
    (l_is_pair_of_counts : K.lookup f_is_pair_of_counts = some ⟨oc_is_pair_of_counts, od_is_pair_of_counts, .func (PySem.W.fnOf "is_pair_of_counts" "is_pair_of_counts" (defArgs s_is_pair_of_counts) (defBody s_is_pair_of_counts) (defScope s_is_pair_of_counts) .none kV_is_pair_of_counts dc_is_pair_of_counts pm_is_pair_of_counts an_is_pair_of_counts cd_is_pair_of_counts ct_is_pair_of_counts), sl_is_pair_of_counts⟩)
    (c_is_pair_of_counts : PySem.W.codeIn K cd_is_pair_of_counts "is_pair_of_counts" = true)
    (k_is_pair_of_counts : PySem.W.keepIn K (.ref f_is_pair_of_counts) = true)
    (a_is_stuck_round : PySem.W.nsIn K mainGlobals "is_stuck_round" = some (some (.ref f_is_stuck_round)))
    (l_is_stuck_round : K.lookup f_is_stuck_round = some ⟨oc_is_stuck_round, od_is_stuck_round, .func (PySem.W.fnOf "is_stuck_round" "is_stuck_round" (defArgs s_is_stuck_round) (defBody s_is_stuck_round) (defScope s_is_stuck_round) .none kV_is_stuck_round dc_is_stuck_round pm_is_stuck_round an_is_stuck_round cd_is_stuck_round ct_is_stuck_round), sl_is_stuck_round⟩)
    (c_is_stuck_round : PySem.W.codeIn K cd_is_stuck_round "is_stuck_round" = true)
    (k_is_stuck_round : PySem.W.keepIn K (.ref f_is_stuck_round) = true)
    (a_l_pot : PySem.W.nsIn K mainGlobals "_law_pot" = some (some (.ref f_l_pot)))
    (l_l_pot : K.lookup f_l_pot = some ⟨oc_l_pot, od_l_pot, .func (PySem.W.fnOf "_law_pot" "_law_pot" (defArgs s_l_pot) (defBody s_l_pot) (defScope s_l_pot) .none kV_l_pot dc_l_pot pm_l_pot an_l_pot cd_l_pot ct_l_pot), sl_l_pot⟩)
    (c_l_pot : PySem.W.codeIn K cd_l_pot "_law_pot" = true)
    (k_l_pot : PySem.W.keepIn K (.ref f_l_pot) = true)
    (a_l_draw : PySem.W.nsIn K mainGlobals "_law_draw" = some (some (.ref f_l_draw)))
    (l_l_draw : K.lookup f_l_draw = some ⟨oc_l_draw, od_l_draw, .func (PySem.W.fnOf "_law_draw" "_law_draw" (defArgs s_l_draw) (defBody s_l_draw) (defScope s_l_draw) .none kV_l_draw dc_l_draw pm_l_draw an_l_draw cd_l_draw ct_l_draw), sl_l_draw⟩)
    (c_l_draw : PySem.W.codeIn K cd_l_draw "_law_draw" = true)
    (k_l_draw : PySem.W.keepIn K (.ref f_l_draw) = true)
    (a_l_pick : PySem.W.nsIn K mainGlobals "_law_pick" = some (some (.ref f_l_pick)))
    (l_l_pick : K.lookup f_l_pick = some ⟨oc_l_pick, od_l_pick, .func (PySem.W.fnOf "_law_pick" "_law_pick" (defArgs s_l_pick) (defBody s_l_pick) (defScope s_l_pick) .none kV_l_pick dc_l_pick pm_l_pick an_l_pick cd_l_pick ct_l_pick), sl_l_pick⟩)
    (c_l_pick : PySem.W.codeIn K cd_l_pick "_law_pick" = true)
    (k_l_pick : PySem.W.keepIn K (.ref f_l_pick) = true)
    (a_l_all : PySem.W.nsIn K mainGlobals "_law_all" = some (some (.ref f_l_all)))
    (l_l_all : K.lookup f_l_all = some ⟨oc_l_all, od_l_all, .func (PySem.W.fnOf "_law_all" "_law_all" (defArgs s_l_all) (defBody s_l_all) (defScope s_l_all) .none kV_l_all dc_l_all pm_l_all an_l_all cd_l_all ct_l_all), sl_l_all⟩)
    (c_l_all : PySem.W.codeIn K cd_l_all "_law_all" = true)
    (k_l_all : PySem.W.keepIn K (.ref f_l_all) = true)
    (a_l_longer : PySem.W.nsIn K mainGlobals "_law_longer" = some (some (.ref f_l_longer)))
    (l_l_longer : K.lookup f_l_longer = some ⟨oc_l_longer, od_l_longer, .func (PySem.W.fnOf "_law_longer" "_law_longer" (defArgs s_l_longer) (defBody s_l_longer) (defScope s_l_longer) .none kV_l_longer dc_l_longer pm_l_longer an_l_longer cd_l_longer ct_l_longer), sl_l_longer⟩)
    (c_l_longer : PySem.W.codeIn K cd_l_longer "_law_longer" = true)
    (k_l_longer : PySem.W.keepIn K (.ref f_l_longer) = true)
    (a_l_is_stuck : PySem.W.nsIn K mainGlobals "_law_is_stuck" = some (some (.ref f_l_is_stuck)))
    (l_l_is_stuck : K.lookup f_l_is_stuck = some ⟨oc_l_is_stuck, od_l_is_stuck, .func (PySem.W.fnOf "_law_is_stuck" "_law_is_stuck" (defArgs s_l_is_stuck) (defBody s_l_is_stuck) (defScope s_l_is_stuck) .none kV_l_is_stuck dc_l_is_stuck pm_l_is_stuck an_l_is_stuck cd_l_is_stuck ct_l_is_stuck), sl_l_is_stuck⟩)
    (c_l_is_stuck : PySem.W.codeIn K cd_l_is_stuck "_law_is_stuck" = true)
    (k_l_is_stuck : PySem.W.keepIn K (.ref f_l_is_stuck) = true)
    (a_l_judged_right : PySem.W.nsIn K mainGlobals "_law_judged_right" = some (some (.ref f_l_judged_right)))
    (l_l_judged_right : K.lookup f_l_judged_right = some ⟨oc_l_judged_right, od_l_judged_right, .func (PySem.W.fnOf "_law_judged_right" "_law_judged_right" (defArgs s_l_judged_right) (defBody s_l_judged_right) (defScope s_l_judged_right) .none kV_l_judged_right dc_l_judged_right pm_l_judged_right an_l_judged_right cd_l_judged_right ct_l_judged_right), sl_l_judged_right⟩)
    (c_l_judged_right : PySem.W.codeIn K cd_l_judged_right "_law_judged_right" = true)
    (k_l_judged_right : PySem.W.keepIn K (.ref f_l_judged_right) = true)
    (a_l_right : PySem.W.nsIn K mainGlobals "_law_right" = some (some (.ref f_l_right)))
    (l_l_right : K.lookup f_l_right = some ⟨oc_l_right, od_l_right, .func (PySem.W.fnOf "_law_right" "_law_right" (defArgs s_l_right) (defBody s_l_right) (defScope s_l_right) .none kV_l_right dc_l_right pm_l_right an_l_right cd_l_right ct_l_right), sl_l_right⟩)
    (c_l_right : PySem.W.codeIn K cd_l_right "_law_right" = true)
    (k_l_right : PySem.W.keepIn K (.ref f_l_right) = true)
    (a_law : PySem.W.nsIn K mainGlobals "law" = some (some (.ref f_law)))
    (l_law : K.lookup f_law = some ⟨oc_law, od_law, .func (PySem.W.fnOf "law" "law" (defArgs s_law) (defBody s_law) (defScope s_law) .none kV_law dc_law pm_law an_law cd_law ct_law), sl_law⟩)
    (c_law : PySem.W.codeIn K cd_law "law" = true)
    (k_law : PySem.W.keepIn K (.ref f_law) = true)
    (hn : PySem.W.specialIn K (.builtin "object.__class__") "__get__" = some (some (.builtin "getset_descriptor.__get__")))
    (htk : PySem.W.takesIn K (.builtin "object.__class__") = some true)
    (z_MOST_PLACES : PySem.W.nsIn K mainGlobals "MOST_PLACES" = some (some (.int 6 t_MOST_PLACES)))
    (z_FEWEST_IN_A_ROUND : PySem.W.nsIn K mainGlobals "FEWEST_IN_A_ROUND" = some (some (.int 3 t_FEWEST_IN_A_ROUND)))
    (z_MOST_IN_A_ROUND : PySem.W.nsIn K mainGlobals "MOST_IN_A_ROUND" = some (some (.int 7 t_MOST_IN_A_ROUND)))
    (z_abs : PySem.W.nsIn K mainGlobals "abs" = some none)
    (z_all : PySem.W.nsIn K mainGlobals "all" = some none)
    (z_any : PySem.W.nsIn K mainGlobals "any" = some none)
    (z_bool : PySem.W.nsIn K mainGlobals "bool" = some none)
    (z_divmod : PySem.W.nsIn K mainGlobals "divmod" = some none)
    (z_enumerate : PySem.W.nsIn K mainGlobals "enumerate" = some none)
    (z_int : PySem.W.nsIn K mainGlobals "int" = some none)
    (z_isinstance : PySem.W.nsIn K mainGlobals "isinstance" = some none)
    (z_len : PySem.W.nsIn K mainGlobals "len" = some none)
    (z_list : PySem.W.nsIn K mainGlobals "list" = some none)
    (z_max : PySem.W.nsIn K mainGlobals "max" = some none)
    (z_min : PySem.W.nsIn K mainGlobals "min" = some none)
    (z_range : PySem.W.nsIn K mainGlobals "range" = some none)
    (z_repr : PySem.W.nsIn K mainGlobals "repr" = some none)
    (z_sum : PySem.W.nsIn K mainGlobals "sum" = some none)
    (z_tuple : PySem.W.nsIn K mainGlobals "tuple" = some none)
    (z_zip : PySem.W.nsIn K mainGlobals "zip" = some none)
    : ∃ fd : FuncData, (∀ (s : Shared) (v : Value), BindsTo s fd ⟨[v], []⟩ [("_law_script", v)]) ∧ ∀ base : Heap, G8.FnOkG P w K mg base CX0 7 fa fd ["_law_script"] (Pr.spLaw K) := by
  have e := hfa.symm.trans (PySem.W.mg_of X G a_law)
  cases e
  have F_is_count := fun_mk (st := s_is_count) l_is_count c_is_count k_is_count
  have b_is_count := F_is_count.binds (ps := ["value"]) fun _ _ _ _ _ _ us hl => match us, hl with | [_], _ => rfl
  have F_is_row := fun_mk (st := s_is_row) l_is_row c_is_row k_is_row
  have b_is_row := F_is_row.binds (ps := ["value"]) fun _ _ _ _ _ _ us hl => match us, hl with | [_], _ => rfl
  have F_round_fewest := fun_mk (st := s_round_fewest) l_round_fewest c_round_fewest k_round_fewest
  have b_round_fewest := F_round_fewest.binds (ps := ["places", "forward", "backward"]) fun _ _ _ _ _ _ us hl => match us, hl with | [_, _, _], _ => rfl
  have F_round_stand := fun_mk (st := s_round_stand) l_round_stand c_round_stand k_round_stand
  have b_round_stand := F_round_stand.binds (ps := ["places", "forward", "backward"]) fun _ _ _ _ _ _ us hl => match us, hl with | [_, _, _], _ => rfl
  have F_is_round_stuck := fun_mk (st := s_is_round_stuck) l_is_round_stuck c_is_round_stuck k_is_round_stuck
  have b_is_round_stuck := F_is_round_stuck.binds (ps := ["places", "forward", "backward", "value"]) fun _ _ _ _ _ _ us hl => match us, hl with | [_, _, _, _], _ => rfl
  have F_check_round := fun_mk (st := s_check_round) l_check_round c_check_round k_check_round
  have b_check_round := F_check_round.binds (ps := ["places", "forward", "backward"]) fun _ _ _ _ _ _ us hl => match us, hl with | [_, _, _], _ => rfl
  have F_are_round_bounds := fun_mk (st := s_are_round_bounds) l_are_round_bounds c_are_round_bounds k_are_round_bounds
  have b_are_round_bounds := F_are_round_bounds.binds (ps := ["places", "value"]) fun _ _ _ _ _ _ us hl => match us, hl with | [_, _], _ => rfl
  have F_carts_in_all := fun_mk (st := s_carts_in_all) l_carts_in_all c_carts_in_all k_carts_in_all
  have b_carts_in_all := F_carts_in_all.binds (ps := ["stand"]) fun _ _ _ _ _ _ us hl => match us, hl with | [_], _ => rfl
  have F_round_pairs := fun_mk (st := s_round_pairs) l_round_pairs c_round_pairs k_round_pairs
  have b_round_pairs := F_round_pairs.binds (ps := ["places", "forward", "backward"]) fun _ _ _ _ _ _ us hl => match us, hl with | [_, _, _], _ => rfl
  have F_stand_between := fun_mk (st := s_stand_between) l_stand_between c_stand_between k_stand_between
  have b_stand_between := F_stand_between.binds (ps := ["places", "forward", "backward", "first", "last"]) fun _ _ _ _ _ _ us hl => match us, hl with | [_, _, _, _, _], _ => rfl
  have F_is_round_stand := fun_mk (st := s_is_round_stand) l_is_round_stand c_is_round_stand k_is_round_stand
  have b_is_round_stand := F_is_round_stand.binds (ps := ["places", "forward", "backward", "value"]) fun _ _ _ _ _ _ us hl => match us, hl with | [_, _, _, _], _ => rfl
  have F_is_pair_of_counts := fun_mk (st := s_is_pair_of_counts) l_is_pair_of_counts c_is_pair_of_counts k_is_pair_of_counts
  have b_is_pair_of_counts := F_is_pair_of_counts.binds (ps := ["value"]) fun _ _ _ _ _ _ us hl => match us, hl with | [_], _ => rfl
  have F_is_stuck_round := fun_mk (st := s_is_stuck_round) l_is_stuck_round c_is_stuck_round k_is_stuck_round
  have b_is_stuck_round := F_is_stuck_round.binds (ps := ["places", "forward", "backward", "stand"]) fun _ _ _ _ _ _ us hl => match us, hl with | [_, _, _, _], _ => rfl
  have F_l_pot := fun_mk (st := s_l_pot) l_l_pot c_l_pot k_l_pot
  have b_l_pot := F_l_pot.binds (ps := ["_law_script", "_law_k"]) fun _ _ _ _ _ _ us hl => match us, hl with | [_, _], _ => rfl
  have F_l_draw := fun_mk (st := s_l_draw) l_l_draw c_l_draw k_l_draw
  have b_l_draw := F_l_draw.binds (ps := ["_law_pot_here", "_law_many"]) fun _ _ _ _ _ _ us hl => match us, hl with | [_, _], _ => rfl
  have F_l_pick := fun_mk (st := s_l_pick) l_l_pick c_l_pick k_l_pick
  have b_l_pick := F_l_pick.binds (ps := ["_law_pot_here", "_law_some"]) fun _ _ _ _ _ _ us hl => match us, hl with | [_, _], _ => rfl
  have F_l_all := fun_mk (st := s_l_all) l_l_all c_l_all k_l_all
  have b_l_all := F_l_all.binds (ps := ["_law_places", "_law_forward", "_law_backward"]) fun _ _ _ _ _ _ us hl => match us, hl with | [_, _, _], _ => rfl
  have F_l_longer := fun_mk (st := s_l_longer) l_l_longer c_l_longer k_l_longer
  have b_l_longer := F_l_longer.binds (ps := ["_law_found", "_law_some"]) fun _ _ _ _ _ _ us hl => match us, hl with | [_, _], _ => rfl
  have F_l_is_stuck := fun_mk (st := s_l_is_stuck) l_l_is_stuck c_l_is_stuck k_l_is_stuck
  have b_l_is_stuck := F_l_is_stuck.binds (ps := ["_law_places", "_law_forward", "_law_backward", "_law_stand"]) fun _ _ _ _ _ _ us hl => match us, hl with | [_, _, _, _], _ => rfl
  have F_l_judged_right := fun_mk (st := s_l_judged_right) l_l_judged_right c_l_judged_right k_l_judged_right
  have b_l_judged_right := F_l_judged_right.binds (ps := ["_law_places", "_law_forward", "_law_backward", "_law_stands", "_law_pot_here"]) fun _ _ _ _ _ _ us hl => match us, hl with | [_, _, _, _, _], _ => rfl
  have F_l_right := fun_mk (st := s_l_right) l_l_right c_l_right k_l_right
  have b_l_right := F_l_right.binds (ps := ["_law_pot_here"]) fun _ _ _ _ _ _ us hl => match us, hl with | [_], _ => rfl
  have F_law := fun_mk (st := s_law) l_law c_law k_law
  have b_law := F_law.binds (ps := ["_law_script"]) fun _ _ _ _ _ _ us hl => match us, hl with | [_], _ => rfl
  have T : Txt K mg { is_count := f_is_count, is_count_fd := (PySem.W.fnOf "is_count" "is_count" (defArgs s_is_count) (defBody s_is_count) (defScope s_is_count) .none kV_is_count dc_is_count pm_is_count an_is_count cd_is_count ct_is_count), is_row := f_is_row, is_row_fd := (PySem.W.fnOf "is_row" "is_row" (defArgs s_is_row) (defBody s_is_row) (defScope s_is_row) .none kV_is_row dc_is_row pm_is_row an_is_row cd_is_row ct_is_row), round_fewest := f_round_fewest, round_fewest_fd := (PySem.W.fnOf "round_fewest" "round_fewest" (defArgs s_round_fewest) (defBody s_round_fewest) (defScope s_round_fewest) .none kV_round_fewest dc_round_fewest pm_round_fewest an_round_fewest cd_round_fewest ct_round_fewest), round_stand := f_round_stand, round_stand_fd := (PySem.W.fnOf "round_stand" "round_stand" (defArgs s_round_stand) (defBody s_round_stand) (defScope s_round_stand) .none kV_round_stand dc_round_stand pm_round_stand an_round_stand cd_round_stand ct_round_stand), is_round_stuck := f_is_round_stuck, is_round_stuck_fd := (PySem.W.fnOf "is_round_stuck" "is_round_stuck" (defArgs s_is_round_stuck) (defBody s_is_round_stuck) (defScope s_is_round_stuck) .none kV_is_round_stuck dc_is_round_stuck pm_is_round_stuck an_is_round_stuck cd_is_round_stuck ct_is_round_stuck), check_round := f_check_round, check_round_fd := (PySem.W.fnOf "check_round" "check_round" (defArgs s_check_round) (defBody s_check_round) (defScope s_check_round) .none kV_check_round dc_check_round pm_check_round an_check_round cd_check_round ct_check_round), are_round_bounds := f_are_round_bounds, are_round_bounds_fd := (PySem.W.fnOf "are_round_bounds" "are_round_bounds" (defArgs s_are_round_bounds) (defBody s_are_round_bounds) (defScope s_are_round_bounds) .none kV_are_round_bounds dc_are_round_bounds pm_are_round_bounds an_are_round_bounds cd_are_round_bounds ct_are_round_bounds), carts_in_all := f_carts_in_all, carts_in_all_fd := (PySem.W.fnOf "carts_in_all" "carts_in_all" (defArgs s_carts_in_all) (defBody s_carts_in_all) (defScope s_carts_in_all) .none kV_carts_in_all dc_carts_in_all pm_carts_in_all an_carts_in_all cd_carts_in_all ct_carts_in_all), round_pairs := f_round_pairs, round_pairs_fd := (PySem.W.fnOf "round_pairs" "round_pairs" (defArgs s_round_pairs) (defBody s_round_pairs) (defScope s_round_pairs) .none kV_round_pairs dc_round_pairs pm_round_pairs an_round_pairs cd_round_pairs ct_round_pairs), stand_between := f_stand_between, stand_between_fd := (PySem.W.fnOf "stand_between" "stand_between" (defArgs s_stand_between) (defBody s_stand_between) (defScope s_stand_between) .none kV_stand_between dc_stand_between pm_stand_between an_stand_between cd_stand_between ct_stand_between), is_round_stand := f_is_round_stand, is_round_stand_fd := (PySem.W.fnOf "is_round_stand" "is_round_stand" (defArgs s_is_round_stand) (defBody s_is_round_stand) (defScope s_is_round_stand) .none kV_is_round_stand dc_is_round_stand pm_is_round_stand an_is_round_stand cd_is_round_stand ct_is_round_stand), is_pair_of_counts := f_is_pair_of_counts, is_pair_of_counts_fd := (PySem.W.fnOf "is_pair_of_counts" "is_pair_of_counts" (defArgs s_is_pair_of_counts) (defBody s_is_pair_of_counts) (defScope s_is_pair_of_counts) .none kV_is_pair_of_counts dc_is_pair_of_counts pm_is_pair_of_counts an_is_pair_of_counts cd_is_pair_of_counts ct_is_pair_of_counts), is_stuck_round := f_is_stuck_round, is_stuck_round_fd := (PySem.W.fnOf "is_stuck_round" "is_stuck_round" (defArgs s_is_stuck_round) (defBody s_is_stuck_round) (defScope s_is_stuck_round) .none kV_is_stuck_round dc_is_stuck_round pm_is_stuck_round an_is_stuck_round cd_is_stuck_round ct_is_stuck_round), l_pot := f_l_pot, l_pot_fd := (PySem.W.fnOf "_law_pot" "_law_pot" (defArgs s_l_pot) (defBody s_l_pot) (defScope s_l_pot) .none kV_l_pot dc_l_pot pm_l_pot an_l_pot cd_l_pot ct_l_pot), l_draw := f_l_draw, l_draw_fd := (PySem.W.fnOf "_law_draw" "_law_draw" (defArgs s_l_draw) (defBody s_l_draw) (defScope s_l_draw) .none kV_l_draw dc_l_draw pm_l_draw an_l_draw cd_l_draw ct_l_draw), l_pick := f_l_pick, l_pick_fd := (PySem.W.fnOf "_law_pick" "_law_pick" (defArgs s_l_pick) (defBody s_l_pick) (defScope s_l_pick) .none kV_l_pick dc_l_pick pm_l_pick an_l_pick cd_l_pick ct_l_pick), l_all := f_l_all, l_all_fd := (PySem.W.fnOf "_law_all" "_law_all" (defArgs s_l_all) (defBody s_l_all) (defScope s_l_all) .none kV_l_all dc_l_all pm_l_all an_l_all cd_l_all ct_l_all), l_longer := f_l_longer, l_longer_fd := (PySem.W.fnOf "_law_longer" "_law_longer" (defArgs s_l_longer) (defBody s_l_longer) (defScope s_l_longer) .none kV_l_longer dc_l_longer pm_l_longer an_l_longer cd_l_longer ct_l_longer), l_is_stuck := f_l_is_stuck, l_is_stuck_fd := (PySem.W.fnOf "_law_is_stuck" "_law_is_stuck" (defArgs s_l_is_stuck) (defBody s_l_is_stuck) (defScope s_l_is_stuck) .none kV_l_is_stuck dc_l_is_stuck pm_l_is_stuck an_l_is_stuck cd_l_is_stuck ct_l_is_stuck), l_judged_right := f_l_judged_right, l_judged_right_fd := (PySem.W.fnOf "_law_judged_right" "_law_judged_right" (defArgs s_l_judged_right) (defBody s_l_judged_right) (defScope s_l_judged_right) .none kV_l_judged_right dc_l_judged_right pm_l_judged_right an_l_judged_right cd_l_judged_right ct_l_judged_right), l_right := f_l_right, l_right_fd := (PySem.W.fnOf "_law_right" "_law_right" (defArgs s_l_right) (defBody s_l_right) (defScope s_l_right) .none kV_l_right dc_l_right pm_l_right an_l_right cd_l_right ct_l_right), law := fa, law_fd := (PySem.W.fnOf "law" "law" (defArgs s_law) (defBody s_law) (defScope s_law) .none kV_law dc_law pm_law an_law cd_law ct_law) } := { F_is_count := F_is_count, b_is_count := b_is_count, m_is_count := PySem.W.mg_of X G a_is_count, F_is_row := F_is_row, b_is_row := b_is_row, m_is_row := PySem.W.mg_of X G a_is_row, F_round_fewest := F_round_fewest, b_round_fewest := b_round_fewest, m_round_fewest := PySem.W.mg_of X G a_round_fewest, F_round_stand := F_round_stand, b_round_stand := b_round_stand, m_round_stand := PySem.W.mg_of X G a_round_stand, F_is_round_stuck := F_is_round_stuck, b_is_round_stuck := b_is_round_stuck, m_is_round_stuck := PySem.W.mg_of X G a_is_round_stuck, F_check_round := F_check_round, b_check_round := b_check_round, m_check_round := PySem.W.mg_of X G a_check_round, F_are_round_bounds := F_are_round_bounds, b_are_round_bounds := b_are_round_bounds, m_are_round_bounds := PySem.W.mg_of X G a_are_round_bounds, F_carts_in_all := F_carts_in_all, b_carts_in_all := b_carts_in_all, m_carts_in_all := PySem.W.mg_of X G a_carts_in_all, F_round_pairs := F_round_pairs, b_round_pairs := b_round_pairs, m_round_pairs := PySem.W.mg_of X G a_round_pairs, F_stand_between := F_stand_between, b_stand_between := b_stand_between, m_stand_between := PySem.W.mg_of X G a_stand_between, F_is_round_stand := F_is_round_stand, b_is_round_stand := b_is_round_stand, m_is_round_stand := PySem.W.mg_of X G a_is_round_stand, F_is_pair_of_counts := F_is_pair_of_counts, b_is_pair_of_counts := b_is_pair_of_counts, m_is_pair_of_counts := PySem.W.mg_of X G a_is_pair_of_counts, F_is_stuck_round := F_is_stuck_round, b_is_stuck_round := b_is_stuck_round, m_is_stuck_round := PySem.W.mg_of X G a_is_stuck_round, F_l_pot := F_l_pot, b_l_pot := b_l_pot, m_l_pot := PySem.W.mg_of X G a_l_pot, F_l_draw := F_l_draw, b_l_draw := b_l_draw, m_l_draw := PySem.W.mg_of X G a_l_draw, F_l_pick := F_l_pick, b_l_pick := b_l_pick, m_l_pick := PySem.W.mg_of X G a_l_pick, F_l_all := F_l_all, b_l_all := b_l_all, m_l_all := PySem.W.mg_of X G a_l_all, F_l_longer := F_l_longer, b_l_longer := b_l_longer, m_l_longer := PySem.W.mg_of X G a_l_longer, F_l_is_stuck := F_l_is_stuck, b_l_is_stuck := b_l_is_stuck, m_l_is_stuck := PySem.W.mg_of X G a_l_is_stuck, F_l_judged_right := F_l_judged_right, b_l_judged_right := b_l_judged_right, m_l_judged_right := PySem.W.mg_of X G a_l_judged_right, F_l_right := F_l_right, b_l_right := b_l_right, m_l_right := PySem.W.mg_of X G a_l_right, F_law := F_law, b_law := b_law, m_law := PySem.W.mg_of X G a_law, g_MOST_PLACES := ⟨_, PySem.W.mg_of X G z_MOST_PLACES⟩, g_FEWEST_IN_A_ROUND := ⟨_, PySem.W.mg_of X G z_FEWEST_IN_A_ROUND⟩, g_MOST_IN_A_ROUND := ⟨_, PySem.W.mg_of X G z_MOST_IN_A_ROUND⟩, n_abs := PySem.W.mg_none_of X G z_abs, n_all := PySem.W.mg_none_of X G z_all, n_any := PySem.W.mg_none_of X G z_any, n_bool := PySem.W.mg_none_of X G z_bool, n_divmod := PySem.W.mg_none_of X G z_divmod, n_enumerate := PySem.W.mg_none_of X G z_enumerate, n_int := PySem.W.mg_none_of X G z_int, n_isinstance := PySem.W.mg_none_of X G z_isinstance, n_len := PySem.W.mg_none_of X G z_len, n_list := PySem.W.mg_none_of X G z_list, n_max := PySem.W.mg_none_of X G z_max, n_min := PySem.W.mg_none_of X G z_min, n_range := PySem.W.mg_none_of X G z_range, n_repr := PySem.W.mg_none_of X G z_repr, n_sum := PySem.W.mg_none_of X G z_sum, n_tuple := PySem.W.mg_none_of X G z_tuple, n_zip := PySem.W.mg_none_of X G z_zip }
  exact ⟨_, fun s v => .of_eq rfl, fun base => ok_law T⟩
end K75
set_option Elab.async false
open PySem PySem.W PyProof.Rows
set_option maxRecDepth 100000 in
set_option maxHeartbeats 0 in
theorem PySem.Challenge.cw_lanekeepers_k75_whole_rounds_all_stands_holds : PySem.Challenge.rw_lanekeepers_k75_whole_rounds_all_stands.Holds := by
  w_on; o_law; k_head; (case hw => w_witness2)
  k_fill
  refine G8.walk_G (l := PySem.Challenge.rw_lanekeepers_k75_whole_rounds_all_stands) (n := 63) (k := 7) (x := "_law_script") (sp := Pr.spLaw) rfl (by decide) rfl ⟨rfl, by decide, by decide⟩ (fun w h Y => PySem.W.kIn_of Y) ?F (fun _ _ a ns hS => ⟨a, ns, rfl, hS, fun _ => rfl⟩)
  case F =>
    intro w mg fa h KX G hmg
    refine' K75.all_mk KX G hmg ?a_is_count ?l_is_count ?c_is_count ?k_is_count ?a_is_row ?l_is_row ?c_is_row ?k_is_row ?a_round_fewest ?l_round_fewest ?c_round_fewest ?k_round_fewest ?a_round_stand ?l_round_stand ?c_round_stand ?k_round_stand ?a_is_round_stuck ?l_is_round_stuck ?c_is_round_stuck ?k_is_round_stuck ?a_check_round ?l_check_round ?c_check_round ?k_check_round ?a_are_round_bounds ?l_are_round_bounds ?c_are_round_bounds ?k_are_round_bounds ?a_carts_in_all ?l_carts_in_all ?c_carts_in_all ?k_carts_in_all ?a_round_pairs ?l_round_pairs ?c_round_pairs ?k_round_pairs ?a_stand_between ?l_stand_between ?c_stand_between ?k_stand_between ?a_is_round_stand ?l_is_round_stand ?c_is_round_stand ?k_is_round_stand ?a_is_pair_of_counts ?l_is_pair_of_counts ?c_is_pair_of_counts ?k_is_pair_of_counts ?a_is_stuck_round ?l_is_stuck_round ?c_is_stuck_round ?k_is_stuck_round ?a_l_pot ?l_l_pot ?c_l_pot ?k_l_pot ?a_l_draw ?l_l_draw ?c_l_draw ?k_l_draw ?a_l_pick ?l_l_pick ?c_l_pick ?k_l_pick ?a_l_all ?l_l_all ?c_l_all ?k_l_all ?a_l_longer ?l_l_longer ?c_l_longer ?k_l_longer ?a_l_is_stuck ?l_l_is_stuck ?c_l_is_stuck ?k_l_is_stuck ?a_l_judged_right ?l_l_judged_right ?c_l_judged_right ?k_l_judged_right ?a_l_right ?l_l_right ?c_l_right ?k_l_right ?a_law ?l_law ?c_law ?k_law ?hn ?htk ?z_MOST_PLACES ?z_FEWEST_IN_A_ROUND ?z_MOST_IN_A_ROUND ?z_abs ?z_all ?z_any ?z_bool ?z_divmod ?z_enumerate ?z_int ?z_isinstance ?z_len ?z_list ?z_max ?z_min ?z_range ?z_repr ?z_sum ?z_tuple ?z_zip
    (case a_is_count => k_is)
    (case l_is_count => k_is)
    (case c_is_count => k_is)
    (case k_is_count => k_is)
    (case a_is_row => k_is)
    (case l_is_row => k_is)
    (case c_is_row => k_is)
    (case k_is_row => k_is)
    (case a_round_fewest => k_is)
    (case l_round_fewest => k_is)
    (case c_round_fewest => k_is)
    (case k_round_fewest => k_is)
    (case a_round_stand => k_is)
    (case l_round_stand => k_is)
    (case c_round_stand => k_is)
    (case k_round_stand => k_is)
    (case a_is_round_stuck => k_is)
    (case l_is_round_stuck => k_is)
    (case c_is_round_stuck => k_is)
    (case k_is_round_stuck => k_is)
    (case a_check_round => k_is)
    (case l_check_round => k_is)
    (case c_check_round => k_is)
    (case k_check_round => k_is)
    (case a_are_round_bounds => k_is)
    (case l_are_round_bounds => k_is)
    (case c_are_round_bounds => k_is)
    (case k_are_round_bounds => k_is)
    (case a_carts_in_all => k_is)
    (case l_carts_in_all => k_is)
    (case c_carts_in_all => k_is)
    (case k_carts_in_all => k_is)
    (case a_round_pairs => k_is)
    (case l_round_pairs => k_is)
    (case c_round_pairs => k_is)
    (case k_round_pairs => k_is)
    (case a_stand_between => k_is)
    (case l_stand_between => k_is)
    (case c_stand_between => k_is)
    (case k_stand_between => k_is)
    (case a_is_round_stand => k_is)
    (case l_is_round_stand => k_is)
    (case c_is_round_stand => k_is)
    (case k_is_round_stand => k_is)
    (case a_is_pair_of_counts => k_is)
    (case l_is_pair_of_counts => k_is)
    (case c_is_pair_of_counts => k_is)
    (case k_is_pair_of_counts => k_is)
    (case a_is_stuck_round => k_is)
    (case l_is_stuck_round => k_is)
    (case c_is_stuck_round => k_is)
    (case k_is_stuck_round => k_is)
    (case a_l_pot => k_is)
    (case l_l_pot => k_is)
    (case c_l_pot => k_is)
    (case k_l_pot => k_is)
    (case a_l_draw => k_is)
    (case l_l_draw => k_is)
    (case c_l_draw => k_is)
    (case k_l_draw => k_is)
    (case a_l_pick => k_is)
    (case l_l_pick => k_is)
    (case c_l_pick => k_is)
    (case k_l_pick => k_is)
    (case a_l_all => k_is)
    (case l_l_all => k_is)
    (case c_l_all => k_is)
    (case k_l_all => k_is)
    (case a_l_longer => k_is)
    (case l_l_longer => k_is)
    (case c_l_longer => k_is)
    (case k_l_longer => k_is)
    (case a_l_is_stuck => k_is)
    (case l_l_is_stuck => k_is)
    (case c_l_is_stuck => k_is)
    (case k_l_is_stuck => k_is)
    (case a_l_judged_right => k_is)
    (case l_l_judged_right => k_is)
    (case c_l_judged_right => k_is)
    (case k_l_judged_right => k_is)
    (case a_l_right => k_is)
    (case l_l_right => k_is)
    (case c_l_right => k_is)
    (case k_l_right => k_is)
    (case a_law => k_is)
    (case l_law => k_is)
    (case c_law => k_is)
    (case k_law => k_is)
    (case hn => k_is)
    (case htk => k_is)
    (case z_MOST_PLACES => k_is)
    (case z_FEWEST_IN_A_ROUND => k_is)
    (case z_MOST_IN_A_ROUND => k_is)
    (case z_abs => k_is)
    (case z_all => k_is)
    (case z_any => k_is)
    (case z_bool => k_is)
    (case z_divmod => k_is)
    (case z_enumerate => k_is)
    (case z_int => k_is)
    (case z_isinstance => k_is)
    (case z_len => k_is)
    (case z_list => k_is)
    (case z_max => k_is)
    (case z_min => k_is)
    (case z_range => k_is)
    (case z_repr => k_is)
    (case z_sum => k_is)
    (case z_tuple => k_is)
    (case z_zip => k_is)
