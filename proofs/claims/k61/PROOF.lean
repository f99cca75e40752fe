import PyProof.Rows.All
import Wide.All
import OpenK.AllK
import Wide.FinOn
import HandS.Ends
import HandS.EndBits
import KE.GoesZip
import KE.GoesMore
import HandS.Zip
import HandS.Iter
import HandS.ForMost
import HandS.DictComp
import HandS.IsInst
import HandS.Property
import HandS.Evl
import HandS.Walk
import HandS.TupAny
import HandS.Deep
import HandS.NoneIn
import HandS.Dict
import HandS.SortRule
import HandS.List
import KE.SortData
import HandS.Defaults
import PyProof.ReprRoads
import PyProof.ReprLen
import HandS.Style
import HandS.Conv
import HandS.SortInts
import HandS.TupSets
import PyProof.CallFns
import KE.DataCmp
import HandS.TupMul
import KE.DataMinMax
import KE.KTupSum
import HandS.SetFor
import HandS.Small
import HandS.Strs
import HandS.ExcValue
import KE.KDictSum
import HandS.Wide
import HandS.WideBits
import HandS.Codes
import HandS.CallSlots
import HandS.TryOnly
import HandS.WordsExc
import PySem.Challenge.RW_lanekeepers_k61_whole_what_is_surely_let
set_option Elab.async false
namespace K61
open PySem PySem.W PyProof.Rows
set_option maxRecDepth 100000 in
set_option maxHeartbeats 0 in
open_top hd for PySem.Challenge.rw_lanekeepers_k61_whole_what_is_surely_let
end K61
set_option Elab.async false
set_option linter.all false
set_option maxRecDepth 100000
set_option maxHeartbeats 4000000
namespace ZM
open PySem PySem.Spec PyProof.Rows L2
def IsQ (t : Bool) (h : Heap) (l : Addr) (items : Array Value) : Prop := match t with
  | true => h.IsTuple l items
  | false => h.IsList l items
def ItQ (t : Bool) (h : Heap) (it l : Addr) (i : Nat) : Prop := match t with
  | true => h.IsTupleIter it l i
  | false => h.IsListIter it l i
theorem ItQ.at {t : Bool} {h h' : Heap} {it l : Addr} {i : Nat} (x : ItQ t h it l i) (e : ∀ o, h.get? it = some o → h'.get? it = some o) : ItQ t h' it l i := by
  cases t with
  | true => exact Heap.IsTupleIter.at x e
  | false => exact Heap.IsListIter.at x e
theorem IsQ.at {t : Bool} {h h' : Heap} {l : Addr} {items : Array Value} (x : IsQ t h l items) (e : ∀ o, h.get? l = some o → h'.get? l = some o) : IsQ t h' l items := by
  cases t with
  | true => exact Heap.IsTuple.at x e
  | false => exact Heap.IsList.at x e
theorem ItQ.obj {t : Bool} {h : Heap} {it l : Addr} {i : Nat} (x : ItQ t h it l i) : ∃ o vs, h.get? it = some o ∧ o.data = .fields vs := by
  cases t with
  | true => obtain ⟨o, a, _, d⟩ := x; exact ⟨o, _, a, d⟩
  | false => obtain ⟨o, a, _, d⟩ := x; exact ⟨o, _, a, d⟩
theorem nn {x y : Nat} (h : x < y ∨ y < x) : (x : Addr) ≠ y := fun e => by
  have e : x = y := e
  omega
theorem nm {x a b : Nat} (h1 : x < a ∨ a < x) (h2 : x < b ∨ b < x) : (x : Addr) ∉ ([a, b] : List Addr) := fun h => by
  rcases List.mem_cons.mp h with e | e
  · exact nn h1 e
  · exact nn h2 (List.mem_singleton.mp e)
end ZM
set_option Elab.async false
set_option linter.all false
set_option maxRecDepth 100000
set_option maxHeartbeats 4000000
namespace ZM
open PySem PySem.Spec PyProof.Rows L2
section
variable {prog : Program} {w : World} {A : Around} {E : Value → Shared → Prop} {s : Shared}
end
end ZM
set_option Elab.async false
set_option linter.all false
set_option maxRecDepth 100000
set_option maxHeartbeats 4000000
namespace Ep
open PySem PySem.Spec PyProof.Rows L2
open Evl (Ex Ev EvT EvA EvL EvU)
def rLenA (K : PySem.W.Frag) : List V → Hp → VK → Prop := fun xs H Q => ∃ x n, xs = [x] ∧ LenV K x H n ∧ Q (V.int ↑n) H
def rListOf (K : PySem.W.Frag) : List V → Hp → VK → Prop := fun xs H Q => ∃ p ys, xs = [V.ref p] ∧ (SqL K H p ys ∨ SqT K H p ys) ∧ ∀ (l : Addr), H l = none → Q (V.ref l) (upd H l (HO.lst ys))
def rTupOf (K : PySem.W.Frag) : List V → Hp → VK → Prop := fun xs H Q => ∃ p ys, xs = [V.ref p] ∧ ((SqL K H p ys ∧ ∀ (l : Addr), H l = none → Q (V.ref l) (upd H l (HO.tup ys))) ∨ SqT K H p ys ∧ Q (V.ref p) H)
abbrev VP := V → Hp → Hp → Prop
def EvP (te : TE) (σ : L2.St) (H : Hp) (P : VP) : Prop := ∀ H1, Ex H H1 → ∀ Q : VK, (∀ v H2, Ex H1 H2 → P v H1 H2 → Q v H2) → te σ H1 Q
def NewL (xs : List V) : VP := fun v H1 H2 => ∃ p, v = .ref p ∧ H1 p = none ∧ H2 p = some (.lst xs)
def Is (z : V) : VP := fun v _ _ => v = z
section
variable {K : PySem.W.Frag} {σ : L2.St} {H H' : Hp} {te ta tb : TE} {P P' : VP} {z : V} {xs : List V}
theorem EvP.mono (e : Ex H H') (h : EvP te σ H P) : EvP te σ H' P := fun H1 a Q q => h H1 (e.trans a) Q q
theorem EvP.imp (h : EvP te σ H P) (k : ∀ v H1 H2, Ex H H1 → Ex H1 H2 → P v H1 H2 → P' v H1 H2) : EvP te σ H P' := fun H1 a Q q => h H1 a Q fun v H2 e p => q v H2 e (k v H1 H2 a e p)
theorem EvP.run (h : EvP te σ H P) {Q : VK} (q : ∀ v H2, Ex H H2 → P v H H2 → Q v H2) : te σ H Q := h H (Ex.refl H) Q q
theorem evp_ev (h : Ev te σ H z) : EvP te σ H (Is z) := fun H1 a Q q => h H1 a Q fun H2 e => q z H2 e rfl
theorem ev_evp (h : EvP te σ H (Is z)) : Ev te σ H z := fun H1 a Q q => h H1 a Q fun v H2 e p => by
  cases p
  exact q H2 e
theorem evp_L (h : EvL te σ H xs) : EvP te σ H (NewL xs) := fun H1 a Q q => h H1 a Q fun p H2 hp e k => q (.ref p) H2 e ⟨p, rfl, hp, k⟩
theorem evp_lst {ta : TA} {vs : List V} (h : EvA ta σ H vs) (hl : vs.length ≤ 100000) : EvP (tLst ta) σ H (NewL vs) := evp_L (Evl.el_lst h hl)
theorem evp_tup {ta : TA} {vs : List V} (h : EvA ta σ H vs) (hl : vs.length ≤ 100000) : EvP (tTup ta) σ H (fun v H1 H2 => ∃ p, v = .ref p ∧ H1 p = none ∧ H2 p = some (.tup vs)) := fun H1 a Q q =>
  Evl.eu_tup h hl H1 a Q fun p H2 hp e k => q _ H2 e ⟨p, rfl, hp, k⟩
theorem evp_callA {sp : Sp} {dvs vs : List V} {E : XK} {ta : TA} (h : EvA ta σ H vs) (hs : ∀ H2, Ex H H2 → ∀ Q : VK, (∀ v H3, Ex H2 H3 → P v H2 H3 → Q v H3) → sp (vs ++ dvs) H2 Q E) (hP : ∀ v H1 H2 H3, Ex H H1 → Ex H1 H2 → Ex H2 H3 → P v H2 H3 → P v H1 H3) : EvP (tCall sp dvs E ta) σ H P := fun H1 a Q q =>
  h H1 a _ fun H2 e => hs H2 (a.trans e) Q fun v H3 e3 p3 => q v H3 (e.trans e3) (hP v H1 H2 H3 a e e3 p3)
end
theorem cb_one {r : List V → Hp → VK → Prop} {te : TE} {σ : L2.St} {H : Hp} {P : VP} {Q : VK} (h : EvP te σ H P) (k : ∀ v H2, Ex H H2 → P v H H2 → r [v] H2 Q) : tCB r (tCons te tNil) σ H Q := h.run k
theorem evp_cb1 {r : List V → Hp → VK → Prop} {te : TE} {σ : L2.St} {H : Hp} {P P' : VP} (h : EvP te σ H P) (k : ∀ v H1 H2, Ex H H1 → Ex H1 H2 → P v H1 H2 → ∀ Q : VK, (∀ z H3, Ex H2 H3 → P' z H1 H3 → Q z H3) → r [v] H2 Q) : EvP (tCB r (tCons te tNil)) σ H P' := fun H1 a Q q =>
  h H1 a _ fun v H2 e p => k v H1 H2 a e p Q fun z H3 e3 p3 => q z H3 (e.trans e3) p3
section
variable {te ta tv : TE} {σ : L2.St} {H : Hp} {P : VP} {D : Ends} {tz tu tw : TS} {t : TT} {i : Nat}
theorem p_asg (h : EvP te σ H P) (k : ∀ v H1, Ex H H1 → P v H H1 → tz D (σ.set i (some v)) H1) : tSeq (tAsg te (gName i)) tz D σ H := h.run k
theorem p_ret (h : EvP te σ H P) (k : ∀ v H1, Ex H H1 → P v H H1 → D.rt v H1) : tRet te D σ H := h.run k
theorem p_skip (h : EvT t σ H false) (k : ∀ H1, Ex H H1 → tz D σ H1) : tSeq (tIfS t tu tNext) tz D σ H := Evl.q_when h (fun z => nomatch z) (fun _ => k)
theorem p_skip1 (h : EvT t σ H false) (k : ∀ H1, Ex H H1 → D.nx σ H1) : tIfS t tu tNext D σ H := Evl.s_when h (fun z => nomatch z) (fun _ => k)
theorem evt_P {b : Bool} (h : EvP te σ H (Is (.bl b))) : EvT (tB te) σ H b := Evl.et_B (ev_evp h)
end
theorem evp_dnew {σ : L2.St} {H : Hp} : EvP tDNewK σ H (fun v H1 H2 => ∃ p, v = .ref p ∧ H1 p = none ∧ H2 p = some (.dK [])) := fun H1 _ _ q p hp => q _ _ (Ex.new hp) ⟨p, rfl, hp, upd_same⟩
theorem ev_lenL {K : PySem.W.Frag} {ta : TE} {σ : L2.St} {H : Hp} {p : Addr} {xs : List V} (h : Ev ta σ H (.ref p)) (hx : SqL K H p xs) : Ev (tCB (rLenA K) (tCons ta tNil)) σ H (.int (xs.length : Int)) := fun H1 e Q q =>
  h H1 e _ fun H2 e2 => ⟨_, _, rfl, .inl ⟨xs, Evl.ex_l (e.trans e2) hx, rfl⟩, q H2 e2⟩
theorem ev_lenP {K : PySem.W.Frag} {ta : TE} {σ : L2.St} {H : Hp} {xs : List V} (h : EvP ta σ H (fun v _ H2 => ∃ p, v = .ref p ∧ H2 p = some (.lst xs))) : Ev (tCB (rLenA K) (tCons ta tNil)) σ H (.int (xs.length : Int)) := fun H1 e Q q =>
  h H1 e _ fun v H2 e2 ⟨p, r, k⟩ => ⟨v, xs.length, rfl, by subst r; exact .inl ⟨xs, Evl.sq_of k, rfl⟩, q H2 e2⟩
theorem pe_globI {X : Cx} {x : Str} {n : Int} {pos : Pos} (hg : Gl X x) (h : ∃ t, X.mg x = some (.int n t)) (hd : (x == ("__debug__" : Str)) = false := by decide) : PE X (.Name x pos) (tC (.int n)) := by
  obtain ⟨t, e⟩ := h
  exact pe_glob hg e ⟨t, rfl⟩ hd
theorem rv_I0P {f : Int → Int → V} {i j : Int} {H : Hp} : Evl.RV (rI0 f) (.int i) (.int j) H (f i j) := Evl.rv_I0
def rLenD : List V → Hp → VK → Prop := fun xs H Q => ∃ a kvs, xs = [V.ref a] ∧ H a = some (.dK kvs) ∧ Q (.int kvs.length) H
theorem evt_leC {ta : TE} {σ : L2.St} {H : Hp} {c : Int} (h : EvP ta σ H (fun v _ _ => ∃ m : Int, v = .int m ∧ m ≤ c)) : EvT (tTest (tOp (rI0 fun i j => V.bl (decide (j < i))) ta (tC (.int c)))) σ H false := fun H1 e Q q => h H1 e _ fun v H2 e2 ⟨m, r, hm⟩ => by
  subst r
  refine ⟨m, c, rfl, rfl, false, ?_, q H2 e2⟩
  show V.bl (decide (c < m)) = _
  rw [decide_eq_false (by omega)]
theorem ev_fld {K : PySem.W.Frag} {σ : L2.St} {H : Hp} {i : Nat} {p C dx : Addr} {fs : List (Str × V)} {f : Str} {v : V} (hi : σ[i]? = some (some (.ref p))) (ho : H p = some (.ins C dx fs)) (cl : Cls K C) (na : NoAttr K C f) (hl : fs.lookup f = some v) : Ev (tFld K (tVar i) f) σ H v := fun H1 e Q q =>
  ⟨_, hi, p, C, dx, fs, v, rfl, e _ _ ho, cl, na, hl, q H1 (Ex.refl _)⟩
section
variable {K : PySem.W.Frag} {te tv : TE} {σ : L2.St} {H : Hp} {P : VP} {D : Ends} {tz : TS} {i : Nat} {p C dx : Addr} {fs : List (Str × V)} {f : Str}
theorem p_fld1 (h : EvP tv σ H P) (hi : σ[i]? = some (some (.ref p))) (ho : H p = some (.ins C dx fs)) (cl : Cls K C) (na : NoAttr K C f) (hl : fs.length < 1000) (k : ∀ v H1, Ex H H1 → P v H H1 → D.nx σ (upd H1 p (.ins C dx (putF f v fs)))) : sFld K (tVar i) tv f D σ H :=
  h.run fun v H1 e p1 => ⟨_, hi, p, C, dx, fs, rfl, e _ _ ho, cl, na, hl, k v H1 e p1⟩
theorem p_fld (h : EvP tv σ H P) (hi : σ[i]? = some (some (.ref p))) (ho : H p = some (.ins C dx fs)) (cl : Cls K C) (na : NoAttr K C f) (hl : fs.length < 1000) (k : ∀ v H1, Ex H H1 → P v H H1 → tz D σ (upd H1 p (.ins C dx (putF f v fs)))) : tSeq (sFld K (tVar i) tv f) tz D σ H :=
  h.run fun v H1 e p1 => ⟨_, hi, p, C, dx, fs, rfl, e _ _ ho, cl, na, hl, k v H1 e p1⟩
end
def but (H : Hp) (p : Addr) : Hp := fun b => if b = p then none else H b
theorem but_ex {H : Hp} {p : Addr} : Ex (but H p) H := fun b o h => by
  unfold but at h
  split at h
  · cases h
  · exact h
theorem but_at {H : Hp} {p : Addr} : but H p p = none := by unfold but; rw [if_pos rfl]
theorem but_ne {H : Hp} {p b : Addr} {o : HO} (h : H b = some o) (n : b ≠ p) : but H p b = some o := by unfold but; rw [if_neg n]; exact h
theorem ev_cb2 {r : List V → Hp → VK → Prop} {ta tb : TE} {σ : L2.St} {H : Hp} {x y z : V} (ha : Ev ta σ H x) (hb : Ev tb σ H y) (hr : ∀ H1, Ex H H1 → ∀ Q : VK, Q z H1 → r [x, y] H1 Q) : Ev (tCB r (tCons ta (tCons tb tNil))) σ H z := fun H1 e Q q =>
  ha H1 e _ fun H2 e2 => hb H2 (e.trans e2) _ fun H3 e3 => hr H3 ((e.trans e2).trans e3) Q (q H3 (e2.trans e3))
theorem ev_cb1 {r : List V → Hp → VK → Prop} {ta : TE} {σ : L2.St} {H : Hp} {x z : V} (ha : Ev ta σ H x) (hr : ∀ H1, Ex H H1 → ∀ Q : VK, Q z H1 → r [x] H1 Q) : Ev (tCB r (tCons ta tNil)) σ H z := fun H1 e Q q =>
  ha H1 e _ fun H2 e2 => hr H2 (e.trans e2) Q (q H2 e2)
def Src (wi : TI) (σ : L2.St) (H : Hp) (n : Nat) (X : Nat → V → Prop) : Prop := ∀ H1, Ex H H1 → ∀ R : It → Hp → Prop,
  (∀ J H2 (G : Hp → Prop), Ex H1 H2 → (∀ H3, Ex H2 H3 → G H3) → Walk J n G (fun i H v H' => H' = H ∧ X i v) → R J H2) → wi σ H1 R
section
variable {K : PySem.W.Frag} {σ : L2.St} {H H' : Hp} {tl : TE} {a : Addr} {xs : List V}
theorem src_list (h : Ev tl σ H (.ref a)) (hx : SqL K H a xs) : Src (iList K tl) σ H xs.length (fun i v => xs[i]? = some v) := fun H1 e R k =>
  h H1 e _ fun H2 e2 => ⟨a, rfl, ⟨xs, Evl.ex_l (e.trans e2) hx⟩, k _ H2 (fun H => SqL K H a xs) e2 (fun H3 e3 => Evl.ex_l ((e.trans e2).trans e3) hx) walk_list⟩
theorem src_tup (h : Ev tl σ H (.ref a)) (hx : SqT K H a xs) : Src (iTup K tl) σ H xs.length (fun i v => xs[i]? = some v) := fun H1 e R k =>
  h H1 e _ fun H2 e2 => ⟨a, rfl, ⟨xs, Evl.ex_t (e.trans e2) hx⟩, k _ H2 (fun H => SqT K H a xs) e2 (fun H3 e3 => Evl.ex_t ((e.trans e2).trans e3) hx) walk_tup⟩
theorem src_rng1 {ta : TA} {n : Nat} (h : EvA ta σ H [.int (n : Int)]) (hn : n ≤ 100000) : Src (iRng1 ta) σ H n (fun i v => v = .int (i : Int)) := fun H1 e R k =>
  h H1 e _ fun H2 e2 => ⟨n, rfl, by omega, by omega, by
    have z := k (Itr 0 n) H2 (fun _ => True) e2 (fun _ _ => trivial) (walk_range.mono (fun _ h => h) fun i H x H' _ _ y => ⟨y.1, by
      rw [y.2]
      show V.int (0 + (i : Int)) = _
      rw [Int.zero_add]⟩)
    exact z⟩
theorem src_keys {td : TE} {d : Addr} {o : Obj} {kvs : List (Key × V)} (h : Ev td σ H (.ref d)) (hd : H d = some (.frz o (.dK kvs))) : Src (iKeys td) σ H kvs.length (fun i v => ∃ k x, kvs[i]? = some (k, x) ∧ v = kV k) := fun H1 e R k =>
  h H1 e _ fun H2 e2 => ⟨d, o, rfl, .inl ⟨kvs, e2 _ _ (e _ _ hd), k _ H2 (fun H => H d = some (.frz o (.dK kvs))) e2 (fun H3 e3 => e3 _ _ (e2 _ _ (e _ _ hd))) (walk_keys.mono (fun _ h => h) fun i H x H' _ _ y => y)⟩⟩
theorem lcI {wi : TI} {g : TG} {tt : TT} {te : TE} {vs : List Nat} {n : Nat} {X : Nat → V → Prop} (s : Src wi σ H n X) (hn : n ≤ 50000) (st : Nat → V → L2.St) (hw : ∀ i x, wipe (st i x) vs = wipe σ vs) (I : Addr → Nat → List V → Hp → Prop)
    (hg : ∀ i x H1 Q, Ex H H1 → i < n → X i x → Q (st i x) H1 → g x (wipe σ vs) H1 Q) (f : Nat → Bool)
    (ht : ∀ i x H1, Ex H H1 → i < n → X i x → EvT tt (st i x) H1 (f i)) (P : Nat → VP)
    (he : ∀ i x H1, Ex H H1 → i < n → X i x → f i = true → EvP te (st i x) H1 (P i))
    (i0 : ∀ D H1, Ex H H1 → H1 D = none → I D 0 [] H1) (iE : ∀ D i ys Ha Hb, Ex Ha Hb → I D i ys Ha → I D i ys Hb) (iD : ∀ D i ys Ha xs, Ha D = some (.lst ys) → I D i ys Ha → I D i ys (upd Ha D (.lst xs)))
    (iY : ∀ D i ys v Ha Hb, Ex H Ha → Ex Ha Hb → Ha D = some (.lst ys) → i < n → f i = true → I D i ys Ha → P i v Ha Hb → ∀ xs, I D (i + 1) (ys ++ [v]) (upd Hb D (.lst xs))) (iN : ∀ D i ys Ha, Ex H Ha → i < n → f i = false → I D i ys Ha → I D (i + 1) ys Ha) :
    EvP (tLc wi g tt te vs) σ H (fun v H1 H2 => ∃ p ys, v = .ref p ∧ H1 p = none ∧ H2 p = some (.lst ys) ∧ ys.length ≤ n ∧ I p n ys H2) := fun H0 e0 Q q => by
  refine s H0 e0 _ fun J H1 G e1 hG hW D hD => ?_
  have iE0 : ∀ o, Ex H1 (upd H1 D o) := fun o => Ex.new hD
  refine lc_it hW (fun i H' => ∃ ys, Ex H1 H' ∧ I D i ys H' ∧ ys.length ≤ i ∧ H' D = some (.lst ys)) ⟨[], iE0 _, iE _ _ _ _ _ (iE0 _) (i0 D H1 (e0.trans e1) hD), Nat.le_refl _, upd_same⟩
    (fun i H' _ ⟨ys, a, _, _, _⟩ => hG _ a) (fun i x Ha Hb hi ⟨ys, a, hI, hl, c⟩ y => ?_) (fun H' ⟨ys, a, hI, hl, c⟩ => q (.ref D) H' (e1.trans a) ⟨D, ys, rfl, Evl.fresh_back e1 hD, c, hl, hI⟩)
  obtain ⟨rfl, hX⟩ := y
  have eA : Ex H Hb := (e0.trans e1).trans a
  refine hg i x Hb _ eA hi hX ⟨hw i x, ?_⟩
  refine ht i x Hb eA hi hX Hb (Ex.refl _) _ fun Hc ec => ?_
  cases hf : f i with
  | true =>
    refine iteT ?_
    refine he i x Hb eA hi hX hf Hc ec _ fun v Hd ed p => ?_
    refine ⟨ys, ed _ _ (ec _ _ c), Nat.lt_of_le_of_lt hl (Nat.lt_of_lt_of_le hi (Nat.le_trans hn (by decide))), ys ++ [v], ?_, ?_, ?_, upd_same⟩
    · exact Ex.mut ((a.trans ec).trans ed) hD
    · exact iY D i ys v Hc Hd (eA.trans ec) ed (ec _ _ c) hi hf (iE _ _ _ _ _ ec hI) p _
    · simp
      exact hl
  | false =>
    refine iteF ?_
    exact ⟨ys, a.trans ec, iN D i ys Hc (eA.trans ec) hi hf (iE _ _ _ _ _ ec hI), Nat.le_succ_of_le hl, ec _ _ c⟩
theorem lcV {wi : TI} {g : TG} {tt : TT} {te : TE} {vs : List Nat} {n : Nat} {X : Nat → V → Prop} (s : Src wi σ H n X) (hn : n ≤ 50000) (st : Nat → V → L2.St) (hw : ∀ i x, wipe (st i x) vs = wipe σ vs)
    (hg : ∀ i x H1 Q, Ex H H1 → i < n → X i x → Q (st i x) H1 → g x (wipe σ vs) H1 Q) (f : Nat → Bool) (v : Nat → V)
    (ht : ∀ i x H1, Ex H H1 → i < n → X i x → EvT tt (st i x) H1 (f i))
    (he : ∀ i x H1, Ex H H1 → i < n → X i x → f i = true → Ev te (st i x) H1 (v i)) :
    EvP (tLc wi g tt te vs) σ H (NewL (((List.range n).filter f).map v)) := by
  refine (lcI s hn st hw (fun _ i ys _ => ys = ((List.range i).filter f).map v) hg f ht (fun i => Is (v i)) (fun i x H1 e hi hX hf => evp_ev (he i x H1 e hi hX hf))
    (fun _ _ _ _ => rfl) (fun _ _ _ _ _ _ h => h) (fun _ _ _ _ _ _ h => h) (fun D i ys z Ha Hb _ _ _ hi hf h p xs => ?_) (fun D i ys Ha _ hi hf h => ?_)).imp ?_
  · cases p
    rw [List.range_succ, List.filter_append, List.map_append, List.filter_cons, if_pos hf, h]
    rfl
  · rw [List.range_succ, List.filter_append, List.map_append, List.filter_cons, if_neg (by rw [hf]; decide), h]
    exact (List.append_nil _).symm
  · rintro z H1 H2 _ _ ⟨p, ys, rfl, hp, k, _, h⟩
    exact ⟨p, rfl, hp, by rw [k, h]⟩
theorem yes_go {F : Bool → Hp → Prop} {σ : L2.St} {H : Hp} (h : F true H) : tYes σ H F := h
theorem dcI {wi : TI} {g : TG} {tk tv : TE} {vs : List Nat} {n : Nat} {X : Nat → V → Prop} (s : Src wi σ H n X) (hn : n ≤ 50000) (st : Nat → V → L2.St) (hw : ∀ i x, wipe (st i x) vs = wipe σ vs) (I : Addr → Nat → List V → Hp → Prop)
    (hg : ∀ i x H1 Q, Ex H H1 → i < n → X i x → Q (st i x) H1 → g x (wipe σ vs) H1 Q) (kf : Nat → Key) (inj : ∀ i j, i < j → j < n → kf i ≠ kf j)
    (hk : ∀ i x H1, Ex H H1 → i < n → X i x → Ev tk (st i x) H1 (kV (kf i))) (P : Nat → VP)
    (he : ∀ i x H1, Ex H H1 → i < n → X i x → EvP tv (st i x) H1 (P i))
    (i0 : ∀ D H1, Ex H H1 → H1 D = none → I D 0 [] H1) (iE : ∀ D i ys Ha Hb, Ex Ha Hb → I D i ys Ha → I D i ys Hb)
    (iY : ∀ D i ys v Ha Hb kvs, Ex H Ha → Ex Ha Hb → Ha D = some (.dK kvs) → i < n → I D i ys Ha → P i v Ha Hb → ∀ xs, I D (i + 1) (ys ++ [v]) (upd Hb D (.dK xs))) :
    EvP (tDc wi g tYes tk tv vs) σ H (fun v H1 H2 => ∃ p ys, v = .ref p ∧ H1 p = none ∧ H2 p = some (.dK (((List.range n).map kf).zip ys)) ∧ ys.length = n ∧ I p n ys H2) := fun H0 e0 Q q => by
  refine s H0 e0 _ fun J H1 G e1 hG hW D hD => ?_
  have iE0 : ∀ o, Ex H1 (upd H1 D o) := fun o => Ex.new hD
  refine ⟨fun i m H' => m = n - i ∧ i ≤ n ∧ ∃ ys : List V, Ex H1 H' ∧ I D i ys H' ∧ ys.length = i ∧ H' D = some (.dK (((List.range i).map kf).zip ys)), ⟨n, by simp, Nat.zero_le _, [], iE0 _, iE _ _ _ _ _ (iE0 _) (i0 D H1 (e0.trans e1) hD), rfl, upd_same⟩, ?_⟩
  rintro i m Ha ⟨rfl, hin, ys, a, hI, hl, c⟩
  by_cases hi : i < n
  · refine .inr ⟨hW.goes i Ha hi (hG _ a), fun H' => ∃ ys : List V, Ex H1 H' ∧ I D (i + 1) ys H' ∧ ys.length = i + 1 ∧ H' D = some (.dK (((List.range (i + 1)).map kf).zip ys)), fun H' p' => ⟨n - (i + 1), by omega, rfl, hi, p'⟩, fun x Hb y => ?_⟩
    obtain ⟨rfl, hX⟩ := hW.yields i Ha x Hb hi (hG _ a) y
    have eA : Ex H Hb := (e0.trans e1).trans a
    refine hg i x Hb _ eA hi hX ⟨hw i x, yes_go ?_⟩
    dsimp only
    rw [if_pos rfl]
    refine hk i x Hb eA hi hX Hb (Ex.refl _) _ fun Hc ec => ?_
    refine he i x Hb eA hi hX Hc ec _ fun v Hd ed p => ?_
    have nk : valV (((List.range i).map kf).zip ys) (kf i) = none := by
      cases e : valV (((List.range i).map kf).zip ys) (kf i) with
      | none => rfl
      | some z =>
        have m := valV_in e
        obtain ⟨pr, hpr, e2⟩ := List.mem_map.mp m
        have m2 := (List.of_mem_zip (a := pr.1) (b := pr.2) hpr).1
        obtain ⟨j, hj, e3⟩ := List.mem_map.mp m2
        exact absurd (e3.trans e2) (inj j i (List.mem_range.mp hj) hi)
    refine ⟨_, kf i, rfl, ed _ _ (ec _ _ c), ?_, ys ++ [v], ?_, ?_, ?_, ?_⟩
    · rw [List.length_zip, List.length_map, List.length_range, hl, Nat.min_self]
      exact Nat.lt_of_lt_of_le hi (Nat.le_trans hn (by decide))
    · exact Ex.mut ((a.trans ec).trans ed) hD
    · exact iY D i ys v Hc Hd _ (eA.trans ec) ed (ec _ _ c) hi (iE _ _ _ _ _ ec hI) p _
    · simp [hl]
    · rw [upd_same, putK_new v nk, List.range_succ, List.map_append, List.zip_append (by simp [hl])]
      rfl
  · have e : i = n := by omega
    subst e
    exact .inl ⟨hW.stops Ha (hG _ a), q (.ref D) Ha (e1.trans a) ⟨D, ys, rfl, Evl.fresh_back e1 hD, c, hl, hI⟩⟩
theorem evp_lock {t : TE} {d : Addr} {u : HO} {P P' : VP} (hd : H d = some u) (hm : Mut (some u)) (h : ∀ Ha od, Ex H Ha → EvP t σ (upd Ha d (.frz od u)) P)
    (hP : ∀ v Ha H2 od, Ex H Ha → Ex (upd Ha d (.frz od u)) H2 → P v (upd Ha d (.frz od u)) H2 → P' v Ha (upd H2 d u)) : EvP (tLockE t) σ H P' := fun H1 e1 Q q =>
  ⟨d, u, e1 _ _ hd, hm, fun od => h H1 od e1 _ (Ex.refl _) _ fun v H2 e2 p => ⟨e2 _ _ upd_same, q v _ (fun b o hb => by
    by_cases e : b = d
    · subst e
      rw [e1 _ _ hd] at hb
      cases hb
      exact upd_same
    · rw [upd_ne e]
      exact e2 b o (by rw [upd_ne e]; exact hb)) (hP v H1 H2 od e1 e2 p)⟩⟩
end
end Ep
set_option linter.all false
namespace TM
abbrev Lanes := List (Nat × Nat)
def Adj (L : Lanes) (a b : Nat) : Prop := (a, b) ∈ L ∨ (b, a) ∈ L
theorem Adj.symm {L : Lanes} {a b : Nat} (h : Adj L a b) : Adj L b a := h.elim Or.inr Or.inl
inductive Grow : List Nat → Lanes → Prop
  | one (v : Nat) : Grow [v] []
  | step {vs : List Nat} {L : Lanes} {a b : Nat} : Grow vs L → a ∈ vs → b ∉ vs → Grow (b :: vs) ((a, b) :: L)
theorem Grow.ends {vs : List Nat} {L : Lanes} (g : Grow vs L) : ∀ {a b : Nat}, Adj L a b → a ∈ vs ∧ b ∈ vs := by
  induction g with
  | one v => intro a b h; rcases h with h | h <;> cases h
  | step g ha hb ih =>
    intro x y h
    rcases h with h | h
    · rcases List.mem_cons.mp h with e | h
      · cases e; exact ⟨List.mem_cons_of_mem _ ha, List.mem_cons_self⟩
      · exact ⟨List.mem_cons_of_mem _ (ih (.inl h)).1, List.mem_cons_of_mem _ (ih (.inl h)).2⟩
    · rcases List.mem_cons.mp h with e | h
      · cases e; exact ⟨List.mem_cons_self, List.mem_cons_of_mem _ ha⟩
      · exact ⟨List.mem_cons_of_mem _ (ih (.inr h)).1, List.mem_cons_of_mem _ (ih (.inr h)).2⟩
theorem Grow.nodup {vs : List Nat} {L : Lanes} (g : Grow vs L) : vs.Nodup := by
  induction g with
  | one v => simp
  | step g ha hb ih => exact List.nodup_cons.mpr ⟨hb, ih⟩
theorem Grow.length {vs : List Nat} {L : Lanes} (g : Grow vs L) : vs.length = L.length + 1 := by
  induction g with
  | one v => rfl
  | step g ha hb ih => simp [ih]
theorem leaf_only {vs : List Nat} {L : Lanes} (g : Grow vs L) {a b c : Nat} (hb : b ∉ vs) (h : Adj ((a, b) :: L) b c) : c = a := by
  rcases h with h | h
  · rcases List.mem_cons.mp h with e | h
    · cases e; rfl
    · exact absurd (g.ends (.inl h)).1 hb
  · rcases List.mem_cons.mp h with e | h
    · cases e; rfl
    · exact absurd (g.ends (.inr h)).1 hb
theorem Adj.older {vs : List Nat} {L : Lanes} (g : Grow vs L) {a b x y : Nat} (hb : b ∉ vs) (h : Adj ((a, b) :: L) x y) (hx : x ≠ b) (hy : y ≠ b) : Adj L x y := by
  rcases h with h | h
  · rcases List.mem_cons.mp h with e | h
    · cases e; exact absurd rfl hy
    · exact .inl h
  · rcases List.mem_cons.mp h with e | h
    · cases e; exact absurd rfl hx
    · exact .inr h
theorem Grow.irrefl {vs : List Nat} {L : Lanes} (g : Grow vs L) : ∀ {a : Nat}, ¬ Adj L a a := by
  induction g with
  | one v => intro a h; rcases h with h | h <;> cases h
  | @step vs L a b g ha hb ih =>
    intro x h
    rcases h with h | h <;>
    · rcases List.mem_cons.mp h with e | h
      · cases e; exact hb ha
      · exact ih (.inl h)
def Chain (L : Lanes) : List Nat → Prop
  | [] => True
  | [_] => True
  | x :: y :: r => Adj L x y ∧ Chain L (y :: r)
structure Path (L : Lanes) (s t : Nat) (p : List Nat) : Prop where
  ch : Chain L p
  nd : p.Nodup
  hd : p.head? = some s
  lt : p.getLast? = some t
theorem Chain.tail {L : Lanes} {x : Nat} {r : List Nat} (h : Chain L (x :: r)) : Chain L r := by
  cases r with
  | nil => trivial
  | cons y r => exact h.2
theorem Chain.snoc {L : Lanes} {x : Nat} : ∀ {p : List Nat} {t : Nat}, Chain L p → p.getLast? = some t → Adj L t x → Chain L (p ++ [x])
  | [], _, _, h, _ => by simp at h
  | [a], t, _, h, k => by
    have e : a = t := Option.some.inj h
    subst e
    exact ⟨k, trivial⟩
  | a :: b :: r, t, h, e, k => by
    refine ⟨h.1, Chain.snoc (p := b :: r) h.2 ?_ k⟩
    rw [List.getLast?_cons_cons] at e
    exact e
theorem Chain.left {L : Lanes} : ∀ {p q : List Nat}, Chain L (p ++ q) → Chain L p
  | [], _, _ => trivial
  | [_], _, _ => trivial
  | a :: b :: r, q, h => ⟨h.1, Chain.left (p := b :: r) (q := q) h.2⟩
theorem Chain.right {L : Lanes} : ∀ {p q : List Nat}, Chain L (p ++ q) → Chain L q
  | [], _, h => h
  | _ :: r, q, h => Chain.right (p := r) (q := q) h.tail
theorem Chain.reverse {L : Lanes} : ∀ {p : List Nat}, Chain L p → Chain L p.reverse
  | [], _ => trivial
  | [_], _ => trivial
  | a :: b :: r, h => by
    have ih := Chain.reverse (p := b :: r) h.2
    rw [List.reverse_cons]
    refine Chain.snoc (t := b) ih ?_ h.1.symm
    rw [List.getLast?_reverse]
    rfl
theorem Path.reverse {L : Lanes} {s t : Nat} {p : List Nat} (h : Path L s t p) : Path L t s p.reverse :=
  ⟨h.ch.reverse, (List.reverse_perm p).nodup_iff.mpr h.nd, by rw [List.head?_reverse]; exact h.lt, by rw [List.getLast?_reverse]; exact h.hd⟩
theorem Chain.mono {L L' : Lanes} (k : ∀ x y, Adj L x y → Adj L' x y) : ∀ {p : List Nat}, Chain L p → Chain L' p
  | [], _ => trivial
  | [_], _ => trivial
  | _ :: _ :: _, h => ⟨k _ _ h.1, Chain.mono k h.2⟩
theorem Chain.older {vs : List Nat} {L : Lanes} (g : Grow vs L) {a b : Nat} (hb : b ∉ vs) : ∀ {p : List Nat}, Chain ((a, b) :: L) p → b ∉ p → Chain L p
  | [], _, _ => trivial
  | [_], _, _ => trivial
  | x :: y :: r, h, n => ⟨h.1.older g hb (fun e => n (e ▸ List.mem_cons_self)) (fun e => n (e ▸ List.mem_cons_of_mem _ List.mem_cons_self)), Chain.older g hb h.2 fun e => n (List.mem_cons_of_mem _ e)⟩
theorem leaf_end {vs : List Nat} {L : Lanes} (g : Grow vs L) {a b : Nat} (hb : b ∉ vs) : ∀ {p : List Nat} {t : Nat}, Chain ((a, b) :: L) p → p.Nodup → p.getLast? = some t → b ∈ p → p.head? = some b ∨ t = b
  | [], _, _, _, _, h => by cases h
  | [x], t, _, _, e, h => by
    have : b = x := by simpa using h
    subst this
    exact .inl rfl
  | x :: y :: r, t, c, nd, e, h => by
    rw [List.getLast?_cons_cons] at e
    rcases List.mem_cons.mp h with q | h
    · subst q; exact .inl rfl
    · have nd' := (List.nodup_cons.mp nd).2
      rcases leaf_end g hb c.2 nd' e h with q | q
      · have q : y = b := Option.some.inj q
        subst q
        -- y is the leaf: x is a, and what follows too
        have ex : x = a := leaf_only g hb c.1.symm
        cases r with
        | nil => exact .inr (Option.some.inj e).symm
        | cons z r =>
          have ez : z = a := leaf_only g hb c.2.1
          subst ex
          subst ez
          exact absurd (List.mem_cons_of_mem _ List.mem_cons_self) (List.nodup_cons.mp nd).1
      · exact .inr q
theorem path_from_leaf {vs : List Nat} {L : Lanes} (g : Grow vs L) {a b t : Nat} (hb : b ∉ vs) {p : List Nat} (h : Path ((a, b) :: L) b t p) (ht : t ≠ b) : ∃ q, p = b :: q ∧ Path L a t q := by
  obtain ⟨c, nd, hd, lt⟩ := h
  cases p with
  | nil => cases hd
  | cons x r =>
    have e : x = b := Option.some.inj hd
    subst e
    cases r with
    | nil => exact absurd (Option.some.inj lt).symm ht
    | cons y r =>
      have ey : y = a := leaf_only g hb c.1
      subst ey
      have nx := (List.nodup_cons.mp nd).1
      refine ⟨_, rfl, Chain.older g hb c.2 nx, (List.nodup_cons.mp nd).2, rfl, ?_⟩
      rw [List.getLast?_cons_cons] at lt
      exact lt
theorem path_one {L : Lanes} {s : Nat} {p : List Nat} (h : Path L s s p) : p = [s] := by
  obtain ⟨c, nd, hd, lt⟩ := h
  cases p with
  | nil => cases hd
  | cons x r =>
    have e : x = s := Option.some.inj hd
    subst e
    cases r with
    | nil => rfl
    | cons y r =>
      rw [List.getLast?_cons_cons] at lt
      exact absurd (List.mem_of_getLast? lt) (List.nodup_cons.mp nd).1
theorem Grow.unique {vs : List Nat} {L : Lanes} (g : Grow vs L) : ∀ {s t : Nat} {p q : List Nat}, Path L s t p → Path L s t q → p = q := by
  induction g with
  | one v =>
    intro s t p q hp hq
    have f : ∀ {p : List Nat}, Path [] s t p → p = [s] := fun {p} h => by
      obtain ⟨c, nd, hd, lt⟩ := h
      cases p with
      | nil => cases hd
      | cons x r =>
        have e : x = s := Option.some.inj hd
        subst e
        cases r with
        | nil => rfl
        | cons y r => exact absurd c.1 (fun h => by rcases h with h | h <;> cases h)
    rw [f hp, f hq]
  | @step vs L a b g ha hb ih =>
    intro s t p q hp hq
    by_cases hs : s = b
    · subst hs
      by_cases ht : t = s
      · subst ht
        rw [path_one hp, path_one hq]
      · obtain ⟨p', rfl, h1⟩ := path_from_leaf g hb hp ht
        obtain ⟨q', rfl, h2⟩ := path_from_leaf g hb hq ht
        rw [ih h1 h2]
    · by_cases ht : t = b
      · subst ht
        have f := path_from_leaf g hb hp.reverse hs
        have f2 := path_from_leaf g hb hq.reverse hs
        obtain ⟨p', e1, h1⟩ := f
        obtain ⟨q', e2, h2⟩ := f2
        have e := ih h1 h2
        subst e
        have := e1.trans e2.symm
        have z := congrArg List.reverse this
        rwa [List.reverse_reverse, List.reverse_reverse] at z
      · have out : ∀ {p : List Nat}, Path ((a, b) :: L) s t p → Path L s t p := fun {p} h => by
          have nb : b ∉ p := fun hm => by
            rcases leaf_end g hb h.ch h.nd h.lt hm with e | e
            · exact hs (Option.some.inj (h.hd.symm.trans e))
            · exact ht e
          exact ⟨h.ch.older g hb nb, h.nd, h.hd, h.lt⟩
        exact ih (out hp) (out hq)
theorem Grow.conn {vs : List Nat} {L : Lanes} (g : Grow vs L) : ∀ {s t : Nat}, s ∈ vs → t ∈ vs → ∃ p, Path L s t p ∧ ∀ x ∈ p, x ∈ vs := by
  induction g with
  | one v =>
    intro s t hs ht
    rw [List.mem_singleton] at hs ht
    rw [hs, ht]
    exact ⟨[v], ⟨trivial, by simp, rfl, rfl⟩, by simp⟩
  | @step vs L a b g ha hb ih =>
    have up : ∀ {s t : Nat}, s ∈ vs → t ∈ vs → ∃ p, Path ((a, b) :: L) s t p ∧ ∀ x ∈ p, x ∈ vs := fun {s t} hs ht => by
      obtain ⟨p, h, k⟩ := ih hs ht
      exact ⟨p, ⟨h.ch.mono (fun x y z => z.elim (fun z => .inl (List.mem_cons_of_mem _ z)) fun z => .inr (List.mem_cons_of_mem _ z)), h.nd, h.hd, h.lt⟩, k⟩
    have to : ∀ {s : Nat}, s ∈ vs → ∃ p, Path ((a, b) :: L) s b p ∧ ∀ x ∈ p, x ∈ b :: vs := fun {s} hs => by
      obtain ⟨p, h, k⟩ := up hs ha
      refine ⟨p ++ [b], ⟨h.ch.snoc h.lt (.inl List.mem_cons_self), ?_, ?_, by simp⟩, ?_⟩
      · exact List.nodup_append.mpr ⟨h.nd, by simp, fun x hx y hy e => by
          have : y = b := by simpa using hy
          subst this; subst e; exact hb (k _ hx)⟩
      · cases p with
        | nil => exact absurd h.hd (by simp)
        | cons x r => exact h.hd
      · intro x hx
        rcases List.mem_append.mp hx with q | q
        · exact List.mem_cons_of_mem _ (k x q)
        · have : x = b := by simpa using q
          subst this; exact List.mem_cons_self
    intro s t hs ht
    rcases List.mem_cons.mp hs with e | hs
    · subst e
      rcases List.mem_cons.mp ht with e | ht
      · subst e
        exact ⟨[t], ⟨trivial, by simp, rfl, rfl⟩, by simp⟩
      · obtain ⟨p, h, k⟩ := to ht
        exact ⟨p.reverse, h.reverse, fun x hx => k x (List.mem_reverse.mp hx)⟩
    · rcases List.mem_cons.mp ht with e | ht
      · rw [e]; exact to hs
      · obtain ⟨p, h, k⟩ := up hs ht
        exact ⟨p, h, fun x hx => List.mem_cons_of_mem _ (k x hx)⟩
end TM
set_option linter.all false
namespace TM
def out (L : Lanes) (i : Nat) : List Nat := (L.filter fun p => decide (p.1 = i)).map (·.2)
def inn (L : Lanes) (i : Nat) : List Nat := (L.filter fun p => decide (p.2 = i)).map (·.1)
def nb (L : Lanes) (i : Nat) : List Nat := out L i ++ inn L i
def nbP : Lanes → Nat → List Nat
  | [], _ => []
  | (a, b) :: L, i => (if a = i then [b] else []) ++ ((if b = i then [a] else []) ++ nbP L i)
theorem mem_out {L : Lanes} {i x : Nat} : x ∈ out L i ↔ (i, x) ∈ L := by
  unfold out
  simp only [List.mem_map, List.mem_filter, decide_eq_true_eq]
  constructor
  · rintro ⟨⟨a, b⟩, ⟨h, e⟩, q⟩
    simp only at e q
    subst e; subst q; exact h
  · intro h
    exact ⟨(i, x), ⟨h, rfl⟩, rfl⟩
theorem mem_inn {L : Lanes} {i x : Nat} : x ∈ inn L i ↔ (x, i) ∈ L := by
  unfold inn
  simp only [List.mem_map, List.mem_filter, decide_eq_true_eq]
  constructor
  · rintro ⟨⟨a, b⟩, ⟨h, e⟩, q⟩
    simp only at e q
    subst e; subst q; exact h
  · intro h
    exact ⟨(x, i), ⟨h, rfl⟩, rfl⟩
theorem mem_nb {L : Lanes} {i x : Nat} : x ∈ nb L i ↔ Adj L i x := by
  unfold nb Adj
  rw [List.mem_append, mem_out, mem_inn]
theorem nbP_perm : ∀ (L : Lanes) (i : Nat), (nbP L i).Perm (nb L i)
  | [], _ => List.Perm.nil
  | (a, b) :: L, i => by
    have ih := nbP_perm L i
    unfold nbP nb out inn
    simp only [List.filter_cons]
    unfold nb out inn at ih
    by_cases h1 : a = i <;> by_cases h2 : b = i <;> simp only [h1, h2, decide_true, decide_false, if_true, if_false, List.map_cons, List.nil_append, List.cons_append, Bool.false_eq_true]
    · refine List.Perm.cons _ ?_
      exact (List.Perm.cons _ ih).trans List.perm_middle.symm
    · exact List.Perm.cons _ ih
    · exact (List.Perm.cons _ ih).trans List.perm_middle.symm
    · exact ih
theorem nbP_snoc : ∀ (L : Lanes) (a b i : Nat), nbP (L ++ [(a, b)]) i = nbP L i ++ ((if a = i then [b] else []) ++ (if b = i then [a] else []))
  | [], a, b, i => by simp [nbP]
  | (c, d) :: L, a, b, i => by
    show _ ++ (_ ++ nbP (L ++ [(a, b)]) i) = (_ ++ (_ ++ nbP L i)) ++ _
    rw [nbP_snoc L a b i]
    simp only [List.append_assoc]
theorem Grow.nb_nodup {vs : List Nat} {L : Lanes} (g : Grow vs L) : ∀ i, (nb L i).Nodup := by
  induction g with
  | one v => intro i; simp [nb, out, inn]
  | @step vs L a b g ha hb ih =>
    intro i
    refine (nbP_perm ((a, b) :: L) i).nodup_iff.mp ?_
    have ih' := (nbP_perm L i).nodup_iff.mpr (ih i)
    have nab : a ≠ b := fun e => hb (e ▸ ha)
    unfold nbP
    by_cases h1 : a = i
    · have h2 : ¬ b = i := fun e => nab (h1.trans e.symm)
      rw [if_pos h1, if_neg h2]
      refine List.nodup_cons.mpr ⟨fun h => ?_, ih'⟩
      exact hb (g.ends (mem_nb.mp ((nbP_perm L i).mem_iff.mp h))).2
    · by_cases h2 : b = i
      · rw [if_neg h1, if_pos h2]
        refine List.nodup_cons.mpr ⟨fun h => ?_, ih'⟩
        subst h2
        exact hb (g.ends (mem_nb.mp ((nbP_perm L b).mem_iff.mp h))).1
      · rw [if_neg h1, if_neg h2]
        exact ih'
structure Tr (vs : List Nat) (L : Lanes) : Prop where
  ends : ∀ {a b : Nat}, Adj L a b → a ∈ vs ∧ b ∈ vs
  irrefl : ∀ {a : Nat}, ¬ Adj L a a
  unique : ∀ {s t : Nat} {p q : List Nat}, Path L s t p → Path L s t q → p = q
  conn : ∀ {s t : Nat}, s ∈ vs → t ∈ vs → ∃ p, Path L s t p ∧ ∀ x ∈ p, x ∈ vs
  nbnd : ∀ i, (nb L i).Nodup
  length : vs.length = L.length + 1
  nodup : vs.Nodup
theorem nb_adj {L L0 : Lanes} (h : ∀ i, (nb L i).Perm (nb L0 i)) {a b : Nat} : Adj L a b ↔ Adj L0 a b := by
  rw [← mem_nb, ← mem_nb, (h a).mem_iff]
theorem Path.to {L L0 : Lanes} (h : ∀ {a b : Nat}, Adj L a b → Adj L0 a b) {s t : Nat} {p : List Nat} (P : Path L s t p) : Path L0 s t p := ⟨P.ch.mono fun _ _ z => h z, P.nd, P.hd, P.lt⟩
theorem Grow.tr {vs : List Nat} {L L0 : Lanes} (g : Grow vs L0) (h : ∀ i, (nb L i).Perm (nb L0 i)) (hl : L.length = L0.length) : Tr vs L where
  ends := fun a => g.ends ((nb_adj h).mp a)
  irrefl := fun a => g.irrefl ((nb_adj h).mp a)
  unique := fun P Q => g.unique (P.to (nb_adj h).mp) (Q.to (nb_adj h).mp)
  conn := fun hs ht => by
    obtain ⟨p, P, k⟩ := g.conn hs ht
    exact ⟨p, P.to (nb_adj h).mpr, k⟩
  nbnd := fun i => (h i).nodup_iff.mpr (g.nb_nodup i)
  length := by rw [hl, g.length]
  nodup := g.nodup
def ins (x : Nat) : List Nat → List Nat
  | [] => [x]
  | y :: r => if x ≤ y then x :: y :: r else y :: ins x r
def isort : List Nat → List Nat
  | [] => []
  | x :: r => ins x (isort r)
theorem ins_perm (x : Nat) : ∀ l, (ins x l).Perm (x :: l)
  | [] => List.Perm.refl _
  | y :: r => by
    unfold ins
    by_cases h : x ≤ y
    · rw [if_pos h]
    · rw [if_neg h]
      exact ((ins_perm x r).cons y).trans (List.Perm.swap x y r)
theorem isort_perm : ∀ l, (isort l).Perm l
  | [] => List.Perm.nil
  | x :: r => (ins_perm x _).trans ((isort_perm r).cons x)
theorem ins_sorted (x : Nat) : ∀ {l : List Nat}, l.Pairwise (· ≤ ·) → (ins x l).Pairwise (· ≤ ·)
  | [], _ => by simp [ins]
  | y :: r, h => by
    unfold ins
    obtain ⟨h1, h2⟩ := List.pairwise_cons.mp h
    by_cases q : x ≤ y
    · rw [if_pos q]
      refine List.pairwise_cons.mpr ⟨fun z hz => ?_, h⟩
      rcases List.mem_cons.mp hz with e | hz
      · subst e; exact q
      · exact Nat.le_trans q (h1 z hz)
    · rw [if_neg q]
      refine List.pairwise_cons.mpr ⟨fun z hz => ?_, ins_sorted x h2⟩
      rcases List.mem_cons.mp ((ins_perm x r).mem_iff.mp hz) with e | hz
      · subst e; omega
      · exact h1 z hz
theorem isort_sorted : ∀ l, (isort l).Pairwise (· ≤ ·)
  | [] => by simp [isort]
  | x :: r => ins_sorted x (isort_sorted r)
theorem sorted_unique : ∀ {l m : List Nat}, l.Perm m → l.Pairwise (· ≤ ·) → m.Pairwise (· ≤ ·) → l = m
  | [], m, p, _, _ => by
    have := p.length_eq
    cases m with
    | nil => rfl
    | cons a r => simp at this
  | a :: l, [], p, _, _ => by have := p.length_eq; simp at this
  | a :: l, b :: m, p, h1, h2 => by
    obtain ⟨a1, a2⟩ := List.pairwise_cons.mp h1
    obtain ⟨b1, b2⟩ := List.pairwise_cons.mp h2
    have e : a = b := by
      have ma : a ∈ b :: m := p.mem_iff.mp List.mem_cons_self
      have mb : b ∈ a :: l := p.mem_iff.mpr List.mem_cons_self
      rcases List.mem_cons.mp ma with e | ma
      · exact e
      · rcases List.mem_cons.mp mb with e | mb
        · exact e.symm
        · have q1 := b1 a ma
          have q2 := a1 b mb
          omega
    subst e
    rw [sorted_unique (List.Perm.cons_inv p) a2 b2]
theorem isort_eq {l m : List Nat} (p : m.Perm l) (h : m.Pairwise (· ≤ ·)) : m = isort l := sorted_unique (p.trans (isort_perm l).symm) h (isort_sorted l)
theorem isort_congr {l m : List Nat} (p : l.Perm m) : isort l = isort m := isort_eq ((isort_perm l).trans p) (isort_sorted l)
theorem isort_length (l : List Nat) : (isort l).length = l.length := (isort_perm l).length_eq
theorem int_sorted {l : List Nat} {m : List Int} (p : m.Perm (l.map fun (n : Nat) => (n : Int))) (h : m.Pairwise (· ≤ ·)) : m = (isort l).map fun (n : Nat) => (n : Int) := by
  have g : ∃ k : List Nat, m = k.map fun (n : Nat) => (n : Int) := by
    have nn : ∀ z ∈ m, 0 ≤ z := fun z hz => by
      obtain ⟨n, _, e⟩ := List.mem_map.mp (p.mem_iff.mp hz)
      subst e; exact Int.natCast_nonneg _
    clear p h
    induction m with
    | nil => exact ⟨[], rfl⟩
    | cons z r ih =>
      obtain ⟨k, e⟩ := ih fun y hy => nn y (List.mem_cons_of_mem _ hy)
      refine ⟨z.toNat :: k, ?_⟩
      rw [List.map_cons, ← e]
      have := nn z List.mem_cons_self
      congr 1
      omega
  obtain ⟨k, rfl⟩ := g
  have pk : k.Perm l := by
    have := p.map Int.toNat
    rw [List.map_map, List.map_map] at this
    have f : (Int.toNat ∘ fun (n : Nat) => (n : Int)) = id := by funext n; simp
    rw [f, List.map_id, List.map_id] at this
    exact this
  have hk : k.Pairwise (· ≤ ·) := by
    rw [List.pairwise_map] at h
    exact h.imp fun q => by omega
  rw [isort_eq pk hk]
def adj (L : Lanes) (i : Nat) : List Nat := isort (nb L i)
theorem mem_adj {L : Lanes} {i x : Nat} : x ∈ adj L i ↔ Adj L i x := by
  unfold adj
  rw [(isort_perm _).mem_iff, mem_nb]
theorem adjP (L : Lanes) (i : Nat) : isort (nbP L i) = adj L i := isort_congr (nbP_perm L i)
theorem adj_length (L : Lanes) (i : Nat) : (adj L i).length = (nb L i).length := isort_length _
theorem Tr.adj_nodup {vs : List Nat} {L : Lanes} (g : Tr vs L) (i : Nat) : (adj L i).Nodup := (isort_perm _).nodup_iff.mpr (g.nbnd i)
structure Told (L : Lanes) (goal : Nat) (kvs : List (Nat × Nat)) : Prop where
  nd : (kvs.map (·.1)).Nodup
  ord : ∀ (i k h : Nat), kvs[i]? = some (k, h) → Adj L h k ∧ k ≠ goal ∧ (h = goal ∨ ∃ j, j < i ∧ ∃ h', kvs[j]? = some (h, h'))
structure Ahead (L : Lanes) (goal : Nat) (kvs : List (Nat × Nat)) : Prop extends toTold : Told L goal kvs where
  closed : ∀ (x y : Nat), (x = goal ∨ x ∈ kvs.map (·.1)) → Adj L x y → y = goal ∨ y ∈ kvs.map (·.1)
theorem nodup_ix {α : Type} {l : List α} (nd : l.Nodup) {i j : Nat} {x : α} (a : l[i]? = some x) (b : l[j]? = some x) : i = j := by
  obtain ⟨h1, e1⟩ := List.getElem?_eq_some_iff.mp a
  obtain ⟨h2, e2⟩ := List.getElem?_eq_some_iff.mp b
  exact (List.getElem_inj nd).mp (e1.trans e2.symm)
theorem Told.key_ix {L : Lanes} {goal : Nat} {kvs : List (Nat × Nat)} (T : Told L goal kvs) {i j k h h' : Nat} (a : kvs[i]? = some (k, h)) (b : kvs[j]? = some (k, h')) : i = j := by
  refine nodup_ix T.nd (x := k) ?_ ?_
  · rw [List.getElem?_map, a]; rfl
  · rw [List.getElem?_map, b]; rfl
theorem Told.path {L : Lanes} {goal : Nat} {kvs : List (Nat × Nat)} (T : Told L goal kvs) : ∀ (i k h : Nat), kvs[i]? = some (k, h) →
    ∃ r, Path L k goal (k :: h :: r) ∧ ∀ x ∈ k :: h :: r, x = goal ∨ ∃ j, j ≤ i ∧ ∃ h', kvs[j]? = some (x, h') := by
  intro i
  induction i using Nat.strongRecOn with
  | _ i ih =>
    intro k h e
    obtain ⟨a, ng, o⟩ := T.ord i k h e
    rcases o with o | ⟨j, hj, h', e'⟩
    · subst o
      refine ⟨[], ⟨⟨a.symm, trivial⟩, by simp [ng], rfl, rfl⟩, fun x hx => ?_⟩
      rcases List.mem_cons.mp hx with q | hx
      · subst q; exact .inr ⟨i, Nat.le_refl _, h, e⟩
      · exact .inl (List.mem_singleton.mp hx)
    · obtain ⟨r, P, K⟩ := ih j hj h h' e'
      refine ⟨h' :: r, ⟨⟨a.symm, P.ch⟩, List.nodup_cons.mpr ⟨fun hm => ?_, P.nd⟩, rfl, ?_⟩, fun x hx => ?_⟩
      · rcases K k hm with q | ⟨j', hj', h'', q⟩
        · exact ng q
        · have := T.key_ix e q
          omega
      · rw [List.getLast?_cons_cons]; exact P.lt
      · rcases List.mem_cons.mp hx with q | hx
        · subst q; exact .inr ⟨i, Nat.le_refl _, h, e⟩
        · rcases K x hx with q | ⟨j', hj', q⟩
          · exact .inl q
          · exact .inr ⟨j', by omega, q⟩
theorem Ahead.all {vs : List Nat} {L : Lanes} {goal : Nat} {kvs : List (Nat × Nat)} (g : Tr vs L) (A : Ahead L goal kvs) (hg : goal ∈ vs) {x : Nat} (hx : x ∈ vs) : x = goal ∨ x ∈ kvs.map (·.1) := by
  obtain ⟨p, P, _⟩ := g.conn hg hx
  have f : ∀ (p : List Nat) (s t : Nat), Chain L p → p.head? = some s → p.getLast? = some t → (s = goal ∨ s ∈ kvs.map (·.1)) → t = goal ∨ t ∈ kvs.map (·.1) := by
    intro p
    induction p with
    | nil => intro s t _ h; cases h
    | cons a r ih =>
      intro s t c h l k
      have e : a = s := Option.some.inj h
      subst e
      cases r with
      | nil =>
        have e : a = t := Option.some.inj l
        subst e; exact k
      | cons b r =>
        rw [List.getLast?_cons_cons] at l
        exact ih b t c.2 rfl l (A.closed _ _ k c.1)
  exact f p goal x P.ch P.hd P.lt (.inl rfl)
def look (kvs : List (Nat × Nat)) (k : Nat) : Option Nat := (kvs.find? fun p => decide (p.1 = k)).map (·.2)
theorem look_ix {kvs : List (Nat × Nat)} {k h : Nat} (e : look kvs k = some h) : ∃ i : Nat, kvs[i]? = some (k, h) := by
  unfold look at e
  cases q : kvs.find? fun p => decide (p.1 = k) with
  | none => rw [q] at e; cases e
  | some p =>
    rw [q] at e
    have e : p.2 = h := Option.some.inj e
    have m := List.mem_of_find?_eq_some q
    have z := List.find?_some q
    obtain ⟨i, hi⟩ := List.getElem?_of_mem m
    obtain ⟨a, b⟩ := p
    have z : a = k := by simpa using z
    subst z; subst e
    exact ⟨i, hi⟩
theorem look_some {kvs : List (Nat × Nat)} {k : Nat} (h : k ∈ kvs.map (·.1)) : ∃ v, look kvs k = some v := by
  unfold look
  cases q : kvs.find? fun p => decide (p.1 = k) with
  | some p => exact ⟨p.2, rfl⟩
  | none =>
    obtain ⟨p, hp, e⟩ := List.mem_map.mp h
    have := List.find?_eq_none.mp q p hp
    simp [e] at this
theorem Ahead.next {vs : List Nat} {L : Lanes} {goal : Nat} {kvs : List (Nat × Nat)} (g : Tr vs L) (A : Ahead L goal kvs) (hg : goal ∈ vs) {x : Nat} (hx : x ∈ vs) (n : x ≠ goal) : ∃ h r, look kvs x = some h ∧ Path L x goal (x :: h :: r) := by
  rcases A.all g hg hx with e | m
  · exact absurd e n
  · obtain ⟨h, e⟩ := look_some m
    obtain ⟨i, hi⟩ := look_ix e
    obtain ⟨r, P, _⟩ := A.toTold.path i x h hi
    exact ⟨h, r, e, P⟩
section
variable {vs : List Nat} {L : Lanes} {N : Nat → Nat → Nat}
def beh (N : Nat → Nat → Nat) (y t u : Nat) : Bool := decide (u = y) || !decide (N u y = t)
end
end TM
set_option linter.all false
namespace TM
theorem nodup_len : ∀ {l m : List Nat}, l.Nodup → (∀ x ∈ l, x ∈ m) → l.length ≤ m.length
  | [], _, _, _ => Nat.zero_le _
  | a :: l, m, nd, h => by
    obtain ⟨n1, n2⟩ := List.nodup_cons.mp nd
    have ha := h a List.mem_cons_self
    have := nodup_len (l := l) (m := m.erase a) n2 fun x hx => (List.mem_erase_of_ne (fun (e : x = a) => n1 (by rw [← e]; exact hx))).mpr (h x (List.mem_cons_of_mem _ hx))
    rw [List.length_erase_of_mem ha] at this
    have := List.length_pos_of_mem ha
    simp
    omega
def keys (kvs : List (Nat × Nat)) : List Nat := kvs.map (·.1)
def Known (goal : Nat) (kvs : List (Nat × Nat)) (x : Nat) : Prop := x = goal ∨ x ∈ keys kvs
theorem Known.more {goal : Nat} {kvs : List (Nat × Nat)} {x : Nat} {q : Nat × Nat} (h : Known goal kvs x) : Known goal (kvs ++ [q]) x := h.elim .inl fun h => .inr (by
  unfold keys at *
  rw [List.map_append]
  exact List.mem_append_left _ h)
theorem known_new {goal : Nat} {kvs : List (Nat × Nat)} {y h : Nat} : Known goal (kvs ++ [(y, h)]) y := .inr (by simp [keys])
structure DOut (L : Lanes) (goal : Nat) (kvs : List (Nat × Nat)) (wt : List Nat) : Prop where
  told : Told L goal kvs
  sub : ∀ x ∈ wt, Known goal kvs x
  closed : ∀ x y, Known goal kvs x → x ∉ wt → Adj L x y → Known goal kvs y
structure DIn (L : Lanes) (goal here : Nat) (i : Nat) (kvs : List (Nat × Nat)) (wt : List Nat) : Prop where
  told : Told L goal kvs
  sub : ∀ x ∈ wt, Known goal kvs x
  me : Known goal kvs here
  closed : ∀ x y, Known goal kvs x → x ∉ wt → x ≠ here → Adj L x y → Known goal kvs y
  part : ∀ y ∈ (adj L here).take i, Known goal kvs y
theorem DOut.start (L : Lanes) (goal : Nat) : DOut L goal [] [goal] := by
  refine ⟨⟨List.nodup_nil, fun i k h e => by simp at e⟩, fun x hx => .inl (List.mem_singleton.mp hx), fun x y k n _ => ?_⟩
  rcases k with k | k
  · exact absurd (List.mem_singleton.mpr k) n
  · cases k
theorem DOut.pop {L : Lanes} {goal here : Nat} {kvs : List (Nat × Nat)} {wt : List Nat} (h : DOut L goal kvs (wt ++ [here])) : DIn L goal here 0 kvs wt := by
  refine ⟨h.told, fun x hx => h.sub x (List.mem_append_left _ hx), h.sub here (by simp), fun x y k n ne a => h.closed x y k (fun m => ?_) a, fun y hy => by simp at hy⟩
  rcases List.mem_append.mp m with m | m
  · exact n m
  · exact ne (List.mem_singleton.mp m)
theorem DIn.done {L : Lanes} {goal here : Nat} {kvs : List (Nat × Nat)} {wt : List Nat} (h : DIn L goal here (adj L here).length kvs wt) : DOut L goal kvs wt := by
  refine ⟨h.told, h.sub, fun x y k n a => ?_⟩
  by_cases e : x = here
  · subst e
    refine h.part y ?_
    rw [List.take_length]
    exact mem_adj.mpr a
  · exact h.closed x y k n e a
theorem DIn.skip {L : Lanes} {goal here i y : Nat} {kvs : List (Nat × Nat)} {wt : List Nat} (h : DIn L goal here i kvs wt) (hy : (adj L here)[i]? = some y) (k : Known goal kvs y) : DIn L goal here (i + 1) kvs wt := by
  refine ⟨h.told, h.sub, h.me, h.closed, fun z hz => ?_⟩
  rw [List.take_add_one, hy] at hz
  rcases List.mem_append.mp hz with hz | hz
  · exact h.part z hz
  · have : z = y := by simpa using hz
    subst this
    exact k
theorem Told.more {L : Lanes} {goal here y : Nat} {kvs : List (Nat × Nat)} (h : Told L goal kvs) (me : Known goal kvs here) (a : Adj L here y) (n : ¬ Known goal kvs y) : Told L goal (kvs ++ [(y, here)]) := by
  have n1 : y ≠ goal := fun e => n (.inl e)
  have n2 : y ∉ keys kvs := fun e => n (.inr e)
  refine ⟨?_, fun i k hh e => ?_⟩
  · rw [List.map_append]
    exact List.nodup_append.mpr ⟨h.nd, by simp, fun x hx z hz e => by
      have : z = y := by simpa using hz
      subst this
      subst e
      exact n2 hx⟩
  · by_cases hi : i < kvs.length
    · rw [List.getElem?_append_left hi] at e
      obtain ⟨b1, b2, b3⟩ := h.ord i k hh e
      refine ⟨b1, b2, b3.elim .inl fun ⟨j, hj, h', e'⟩ => .inr ⟨j, hj, h', ?_⟩⟩
      rw [List.getElem?_append_left (by omega)]
      exact e'
    · rw [List.getElem?_append_right (by omega)] at e
      have e0 : i - kvs.length = 0 := by
        have := (List.getElem?_eq_some_iff.mp e).1
        simp at this
        omega
      rw [e0] at e
      have e : (y, here) = (k, hh) := Option.some.inj e
      cases e
      refine ⟨a, n1, me.elim .inl fun m => .inr ?_⟩
      obtain ⟨p, hp, e2⟩ := List.mem_map.mp m
      obtain ⟨j, hj⟩ := List.getElem?_of_mem hp
      have hj2 := (List.getElem?_eq_some_iff.mp hj).1
      obtain ⟨p1, p2⟩ := p
      simp only at e2
      subst e2
      exact ⟨j, by omega, p2, by rw [List.getElem?_append_left hj2]; exact hj⟩
theorem DIn.add {L : Lanes} {goal here i y : Nat} {kvs : List (Nat × Nat)} {wt : List Nat} (h : DIn L goal here i kvs wt) (hy : (adj L here)[i]? = some y) (n : ¬ Known goal kvs y) : DIn L goal here (i + 1) (kvs ++ [(y, here)]) (wt ++ [y]) := by
  have a : Adj L here y := mem_adj.mp (List.mem_of_getElem? hy)
  refine ⟨h.told.more h.me a n, fun x hx => ?_, h.me.more, fun x z k nx ne az => ?_, fun z hz => ?_⟩
  · rcases List.mem_append.mp hx with hx | hx
    · exact (h.sub x hx).more
    · have : x = y := by simpa using hx
      subst this
      exact known_new
  · have nxy : x ≠ y := fun e => nx (by rw [e]; simp)
    have kx : Known goal kvs x := k.elim .inl fun k => .inr (by
      unfold keys at *
      rw [List.map_append] at k
      rcases List.mem_append.mp k with k | k
      · exact k
      · exact absurd (by simpa using k) nxy)
    exact (h.closed x z kx (fun m => nx (List.mem_append_left _ m)) ne az).more
  · rw [List.take_add_one, hy] at hz
    rcases List.mem_append.mp hz with hz | hz
    · exact (h.part z hz).more
    · have : z = y := by simpa using hz
      subst this
      exact known_new
theorem DIn.room {vs : List Nat} {L : Lanes} (g : Tr vs L) {goal here i y : Nat} {kvs : List (Nat × Nat)} {wt : List Nat} (h : DIn L goal here i kvs wt) (hg : goal ∈ vs) (hy : y ∈ vs) (n : ¬ Known goal kvs y) : kvs.length + 1 < vs.length := by
  have nd : (goal :: y :: keys kvs).Nodup := by
    refine List.nodup_cons.mpr ⟨fun m => ?_, List.nodup_cons.mpr ⟨fun m => n (.inr m), h.told.nd⟩⟩
    rcases List.mem_cons.mp m with e | m
    · exact n (.inl e.symm)
    · obtain ⟨p, hp, e⟩ := List.mem_map.mp m
      obtain ⟨j, hj⟩ := List.getElem?_of_mem hp
      exact (h.told.ord j p.1 p.2 hj).2.1 e
  have := nodup_len nd (m := vs) fun x hx => by
    rcases List.mem_cons.mp hx with e | hx
    · exact e ▸ hg
    · rcases List.mem_cons.mp hx with e | hx
      · exact e ▸ hy
      · obtain ⟨p, hp, e⟩ := List.mem_map.mp hx
        obtain ⟨j, hj⟩ := List.getElem?_of_mem hp
        exact e ▸ (g.ends (h.told.ord j p.1 p.2 hj).1).2
  simp [keys] at this
  omega
theorem DOut.ahead {L : Lanes} {goal : Nat} {kvs : List (Nat × Nat)} (h : DOut L goal kvs []) : Ahead L goal kvs := ⟨h.told, fun x y k a => h.closed x y k (by simp) a⟩
structure Br (vs : List Nat) (L : Lanes) (s e : Nat) (rows : List (List Nat)) (at_ : Nat) : Prop where
  le : at_ ≤ rows.length
  one : rows[0]? = some [s]
  paths : ∀ r ∈ rows, ∃ t, t ∈ vs ∧ Path L s t r
  nd : rows.Nodup
  par : ∀ (j : Nat) (r : List Nat), rows[j]? = some r → j ≠ 0 → ∃ (i : Nat) (r0 : List Nat) (z : Nat), i < at_ ∧ rows[i]? = some r0 ∧ r = r0 ++ [z]
  full : ∀ (i : Nat) (r : List Nat) (t z : Nat), i < at_ → rows[i]? = some r → r.getLast? = some t → Adj L t z → z ∉ r → r ++ [z] ∈ rows
  not_ : ∀ (i : Nat) (r : List Nat), i < at_ → rows[i]? = some r → r.getLast? ≠ some e
theorem Br.start {vs : List Nat} {L : Lanes} {s e : Nat} (hs : s ∈ vs) : Br vs L s e [[s]] 0 := by
  refine ⟨Nat.zero_le _, rfl, fun r hr => ⟨s, hs, ?_⟩, by simp, fun j r h n => ?_, fun i r t z h => by omega, fun i r h => by omega⟩
  · rw [List.mem_singleton.mp hr]
    exact ⟨trivial, by simp, rfl, rfl⟩
  · have := (List.getElem?_eq_some_iff.mp h).1
    simp at this
    exact absurd this n
theorem Br.more {vs : List Nat} {L : Lanes} (g : Tr vs L) {s e : Nat} {rows : List (List Nat)} {at_ : Nat} (B : Br vs L s e rows at_) (hs : s ∈ vs) (he : e ∈ vs) : at_ < rows.length := by
  refine Nat.lt_of_not_le fun hle => ?_
  have ha : at_ = rows.length := Nat.le_antisymm B.le hle
  obtain ⟨p, P, _⟩ := g.conn hs he
  -- all beginnings of p are rows
  have f : ∀ (q w : List Nat), p = q ++ w → q ≠ [] → q ∈ rows := by
    intro q
    induction hq : q.length generalizing q with
    | zero => intro w _ n; exact absurd (List.length_eq_zero_iff.mp hq) n
    | succ k ih =>
      intro w e n
      cases k with
      | zero =>
        match q, hq with
        | [x], _ =>
          have := P.hd
          rw [e] at this
          have : x = s := Option.some.inj this
          subst this
          exact List.mem_of_getElem? B.one
      | succ k =>
        have hq0 : q = q.dropLast ++ [q.getLast n] := (List.dropLast_concat_getLast n).symm
        have l0 : q.dropLast.length = k + 1 := by rw [List.length_dropLast, hq]; rfl
        have n0 : q.dropLast ≠ [] := fun z => by rw [z] at l0; cases l0
        have e2 : p = q.dropLast ++ ([q.getLast n] ++ w) := by
          rw [e]
          conv => lhs; rw [hq0]
          rw [List.append_assoc]
        have m0 := ih q.dropLast l0 ([q.getLast n] ++ w) e2 n0
        obtain ⟨i, hi⟩ := List.getElem?_of_mem m0
        have hi2 := (List.getElem?_eq_some_iff.mp hi).1
        have hl : q.dropLast.getLast? = some (q.dropLast.getLast n0) := List.getLast?_eq_some_getLast n0
        rw [hq0]
        refine B.full i _ _ _ (by omega) hi hl ?_ ?_
        · have c := P.ch
          rw [e2] at c
          have c : Chain L (q.dropLast ++ ([q.getLast n] ++ w)) := c
          have key : ∀ (u : List Nat) (t z : Nat) (w : List Nat), Chain L (u ++ (z :: w)) → u.getLast? = some t → Adj L t z := by
            intro u
            induction u with
            | nil => intro t z w _ h; cases h
            | cons a u ih2 =>
              intro t z w c h
              cases u with
              | nil =>
                have : a = t := Option.some.inj h
                subst this
                exact c.1
              | cons b u => exact ih2 t z w c.2 (by rw [List.getLast?_cons_cons] at h; exact h)
          exact key _ _ _ w c hl
        · have nd := P.nd
          rw [e2] at nd
          intro m
          exact (List.nodup_append.mp nd).2.2 _ m _ (by simp) rfl
  have hp : p ∈ rows := f p [] (by simp) (fun z => by have := P.hd; rw [z] at this; cases this)
  obtain ⟨i, hi⟩ := List.getElem?_of_mem hp
  exact B.not_ i p (by rw [ha]; exact (List.getElem?_eq_some_iff.mp hi).1) hi P.lt
theorem Br.len {vs : List Nat} {L : Lanes} (g : Tr vs L) {s e : Nat} {rows : List (List Nat)} {at_ : Nat} (B : Br vs L s e rows at_) : rows.length ≤ vs.length := by
  have f : ∀ (rows : List (List Nat)), (∀ r ∈ rows, ∃ t, t ∈ vs ∧ Path L s t r) → rows.Nodup → ∃ ts : List Nat, ts.length = rows.length ∧ ts.Nodup ∧ (∀ t ∈ ts, t ∈ vs) ∧ ∀ t ∈ ts, ∃ r ∈ rows, Path L s t r := by
    intro rows
    induction rows with
    | nil => intro _ _; exact ⟨[], rfl, List.nodup_nil, by simp, by simp⟩
    | cons r rows ih =>
      intro h nd
      obtain ⟨n1, n2⟩ := List.nodup_cons.mp nd
      obtain ⟨ts, h1, h2, h3, h4⟩ := ih (fun r hr => h r (List.mem_cons_of_mem _ hr)) n2
      obtain ⟨t, ht, P⟩ := h r List.mem_cons_self
      refine ⟨t :: ts, by simp [h1], List.nodup_cons.mpr ⟨fun m => ?_, h2⟩, fun x hx => ?_, fun x hx => ?_⟩
      · obtain ⟨r', hr', P'⟩ := h4 t m
        exact n1 (g.unique P P' ▸ hr')
      · rcases List.mem_cons.mp hx with e | hx
        · exact e ▸ ht
        · exact h3 x hx
      · rcases List.mem_cons.mp hx with e | hx
        · subst e; exact ⟨r, List.mem_cons_self, P⟩
        · obtain ⟨r', hr', P'⟩ := h4 x hx
          exact ⟨r', List.mem_cons_of_mem _ hr', P'⟩
  obtain ⟨ts, h1, h2, h3, _⟩ := f rows B.paths B.nd
  rw [← h1]
  exact nodup_len h2 h3
theorem Br.step {vs : List Nat} {L : Lanes} (g : Tr vs L) {s e t : Nat} {rows : List (List Nat)} {at_ : Nat} {r : List Nat} (B : Br vs L s e rows at_) (hr : rows[at_]? = some r) (ht : r.getLast? = some t) (ne : t ≠ e) :
    Br vs L s e (rows ++ (((adj L t).filter fun z => !decide (z ∈ r)).map fun z => r ++ [z])) (at_ + 1) := by
  have hlt := (List.getElem?_eq_some_iff.mp hr).1
  obtain ⟨t', ht', P⟩ := B.paths r (List.mem_of_getElem? hr)
  have : t' = t := Option.some.inj (P.lt.symm.trans ht)
  subst this
  have hz : ∀ {z}, z ∈ (adj L t').filter (fun z => !decide (z ∈ r)) → Adj L t' z ∧ z ∉ r := fun {z} h => by
    have := List.mem_filter.mp h
    exact ⟨mem_adj.mp this.1, by simpa using this.2⟩
  have newP : ∀ {z}, Adj L t' z → z ∉ r → z ∈ vs ∧ Path L s z (r ++ [z]) := fun {z} a n => by
    refine ⟨(g.ends a).2, P.ch.snoc ht a, List.nodup_append.mpr ⟨P.nd, by simp, fun x hx y hy e => by
      have : y = z := by simpa using hy
      subst this; subst e; exact n hx⟩, ?_, by simp⟩
    cases r with
    | nil => exact absurd P.hd (by simp)
    | cons x r => exact P.hd
  have old : ∀ {z}, Adj L t' z → z ∉ r → r ++ [z] ∉ rows := fun {z} a n m => by
    obtain ⟨j, hj⟩ := List.getElem?_of_mem m
    have j0 : j ≠ 0 := fun e0 => by
      rw [e0, B.one] at hj
      have := Option.some.inj hj
      have l := congrArg List.length this
      simp at l
      have := P.hd
      rw [l] at this
      cases this
    obtain ⟨i, r0, z', hi, hi2, e'⟩ := B.par j _ hj j0
    have e2 : r = r0 := (List.append_inj' e' rfl).1
    have : i = at_ := nodup_ix B.nd hi2 (e2 ▸ hr)
    omega
  refine ⟨?_, ?_, fun q hq => ?_, ?_, fun j q hq j0 => ?_, fun i q t2 z hi hq hl a n => ?_, fun i q hi hq => ?_⟩
  · rw [List.length_append]; omega
  · rw [List.getElem?_append_left (by omega)]; exact B.one
  · rcases List.mem_append.mp hq with hq | hq
    · exact B.paths q hq
    · obtain ⟨z, hz2, e2⟩ := List.mem_map.mp hq
      subst e2
      obtain ⟨a, n⟩ := hz hz2
      exact ⟨z, (newP a n).1, (newP a n).2⟩
  · refine List.nodup_append.mpr ⟨B.nd, ?_, fun x hx y hy e2 => ?_⟩
    · refine List.pairwise_map.mpr ?_
      exact ((g.adj_nodup t').filter _).imp fun h e2 => h (by
        have := (List.append_inj' e2 rfl).2
        simpa using this)
    · obtain ⟨z, hz2, e3⟩ := List.mem_map.mp hy
      subst e2
      subst e3
      obtain ⟨a, n⟩ := hz hz2
      exact old a n hx
  · by_cases hj : j < rows.length
    · rw [List.getElem?_append_left hj] at hq
      obtain ⟨i, r0, z, hi, hi2, e2⟩ := B.par j q hq j0
      exact ⟨i, r0, z, by omega, by rw [List.getElem?_append_left (by omega)]; exact hi2, e2⟩
    · rw [List.getElem?_append_right (by omega)] at hq
      obtain ⟨z, hz2, e2⟩ := List.mem_map.mp (List.mem_of_getElem? hq)
      exact ⟨at_, r, z, by omega, by rw [List.getElem?_append_left hlt]; exact hr, e2.symm⟩
  · rw [List.getElem?_append_left (by omega)] at hq
    by_cases hi2 : i = at_
    · subst hi2
      have : q = r := Option.some.inj (hq.symm.trans hr)
      subst this
      have : t2 = t' := Option.some.inj (hl.symm.trans ht)
      subst this
      exact List.mem_append_right _ (List.mem_map.mpr ⟨z, List.mem_filter.mpr ⟨mem_adj.mpr a, by simp [n]⟩, rfl⟩)
    · exact List.mem_append_left _ (B.full i q t2 z (by omega) hq hl a n)
  · rw [List.getElem?_append_left (by omega)] at hq
    by_cases hi2 : i = at_
    · subst hi2
      have : q = r := Option.some.inj (hq.symm.trans hr)
      subst this
      rw [ht]
      exact fun z => ne (Option.some.inj z)
    · exact B.not_ i q (by omega) hq
end TM
set_option linter.all false
namespace TM
theorem nb_perm {L M : Lanes} (h : L.Perm M) (i : Nat) : (nb L i).Perm (nb M i) := by
  unfold nb out inn
  exact ((h.filter _).map _).append ((h.filter _).map _)
def norm1 (p : Nat × Nat) : Nat × Nat := (min p.1 p.2, max p.1 p.2)
def norm (L : Lanes) : Lanes := L.map norm1
theorem nbP_norm : ∀ (L : Lanes) (i : Nat), (nbP (norm L) i).Perm (nbP L i)
  | [], _ => List.Perm.refl _
  | (a, b) :: L, i => by
    have ih := nbP_norm L i
    show (nbP (norm1 (a, b) :: norm L) i).Perm _
    by_cases h : a ≤ b
    · have e : norm1 (a, b) = (a, b) := by simp [norm1, Nat.min_eq_left h, Nat.max_eq_right h]
      rw [e]
      unfold nbP
      exact (ih.append_left _).append_left _
    · have h' : b ≤ a := by omega
      have e : norm1 (a, b) = (b, a) := by simp [norm1, Nat.min_eq_right h', Nat.max_eq_left h']
      rw [e]
      unfold nbP
      rw [← List.append_assoc, ← List.append_assoc]
      exact List.Perm.append List.perm_append_comm ih
theorem nb_norm (L : Lanes) (i : Nat) : (nb (norm L) i).Perm (nb L i) := (nbP_perm _ i).symm.trans ((nbP_norm L i).trans (nbP_perm L i))
theorem adj_of {L M : Lanes} (h : ∀ i, (nb L i).Perm (nb M i)) : adj L = adj M := funext fun i => isort_congr (h i)
def yardsL (L : Lanes) : List Nat := (List.range (L.length + 1)).filter fun i => decide (1 < (adj L i).length)
def gatesL (L : Lanes) : List Nat := (List.range (L.length + 1)).filter fun i => decide ((adj L i).length = 1)
structure Good (vs : List Nat) (L : Lanes) : Prop where
  tr : Tr vs L
  vs_ : ∀ v, v ∈ vs ↔ v < L.length + 1
  deg : ∀ i, (adj L i).length ≤ 4
  least : 1 ≤ (yardsL L).length
  most : (yardsL L).length ≤ 7
  small : L.length ≤ 1000
theorem Good.bound {vs : List Nat} {L : Lanes} (g : Good vs L) : ∀ p ∈ L, p.1 ≤ L.length ∧ p.2 ≤ L.length := fun p hp => by
  have a : Adj L p.1 p.2 := .inl hp
  have h1 := (g.vs_ _).mp (g.tr.ends a).1
  have h2 := (g.vs_ _).mp (g.tr.ends a).2
  exact ⟨by omega, by omega⟩
theorem Tr.same {vs : List Nat} {L M : Lanes} (g : Tr vs L) (h : ∀ i, (nb M i).Perm (nb L i)) (hl : M.length = L.length) : Tr vs M where
  ends := fun a => g.ends ((nb_adj h).mp a)
  irrefl := fun a => g.irrefl ((nb_adj h).mp a)
  unique := fun P Q => g.unique (P.to (nb_adj h).mp) (Q.to (nb_adj h).mp)
  conn := fun hs ht => by
    obtain ⟨p, P, k⟩ := g.conn hs ht
    exact ⟨p, P.to (nb_adj h).mpr, k⟩
  nbnd := fun i => (h i).nodup_iff.mpr (g.nbnd i)
  length := by rw [hl, g.length]
  nodup := g.nodup
theorem yards_of {L M : Lanes} (h : ∀ i, (nb M i).Perm (nb L i)) (hl : M.length = L.length) : yardsL M = yardsL L := by
  unfold yardsL
  rw [adj_of h, hl]
theorem Good.same {vs : List Nat} {L M : Lanes} (g : Good vs L) (h : ∀ i, (nb M i).Perm (nb L i)) (hl : M.length = L.length) : Good vs M where
  tr := g.tr.same h hl
  vs_ := fun v => by rw [hl]; exact g.vs_ v
  deg := fun i => by rw [adj_of h]; exact g.deg i
  least := by rw [yards_of h hl]; exact g.least
  most := by rw [yards_of h hl]; exact g.most
  small := by rw [hl]; exact g.small
theorem Ahead.same {L M : Lanes} (h : ∀ {a b : Nat}, Adj M a b ↔ Adj L a b) {goal : Nat} {kvs : List (Nat × Nat)} (A : Ahead M goal kvs) : Ahead L goal kvs :=
  ⟨⟨A.nd, fun i k hh e => ⟨h.mp (A.ord i k hh e).1, (A.ord i k hh e).2⟩⟩, fun x y k a => A.closed x y k (h.mpr a)⟩
theorem Good.zero {vs : List Nat} {L : Lanes} (g : Good vs L) : 0 ∈ vs := (g.vs_ 0).mpr (by omega)
theorem Ahead.count {vs : List Nat} {L : Lanes} (g : Tr vs L) {goal : Nat} {kvs : List (Nat × Nat)} (A : Ahead L goal kvs) (hg : goal ∈ vs) : kvs.length = L.length := by
  have h1 : (goal :: keys kvs).length ≤ vs.length := by
    refine nodup_len (List.nodup_cons.mpr ⟨fun m => ?_, A.nd⟩) fun x hx => ?_
    · obtain ⟨p, hp, e⟩ := List.mem_map.mp m
      obtain ⟨j, hj⟩ := List.getElem?_of_mem hp
      exact (A.ord j p.1 p.2 hj).2.1 e
    · rcases List.mem_cons.mp hx with e | hx
      · exact e ▸ hg
      · obtain ⟨p, hp, e⟩ := List.mem_map.mp hx
        obtain ⟨j, hj⟩ := List.getElem?_of_mem hp
        exact e ▸ (g.ends (A.ord j p.1 p.2 hj).1).2
  have h2 : vs.length ≤ (goal :: keys kvs).length := nodup_len g.nodup fun x hx => by
    rcases A.all g hg hx with e | m
    · exact e ▸ List.mem_cons_self
    · exact List.mem_cons_of_mem _ m
  have := g.length
  simp [keys] at h1 h2
  omega
end TM
set_option linter.all false
namespace TM
def deg (L : Lanes) (i : Nat) : Nat := (nb L i).length
theorem deg_reverse (L : Lanes) (i : Nat) : deg L.reverse i = deg L i := (nb_perm (List.reverse_perm L) i).length_eq
theorem deg_none {vs : List Nat} {L : Lanes} (g : Grow vs L) {i : Nat} (h : i ∉ vs) : deg L i = 0 := by
  unfold deg
  cases e : nb L i with
  | nil => rfl
  | cons x r =>
    have : x ∈ nb L i := by rw [e]; exact List.mem_cons_self
    exact absurd (g.ends (mem_nb.mp this)).1 h
def Drawn (n : Nat) (L : Lanes) : Prop := Grow (List.range n).reverse L.reverse
theorem Drawn.start : Drawn 1 [] := Grow.one 0
theorem Drawn.more {n o : Nat} {L : Lanes} (d : Drawn n L) (ho : o < n) : Drawn (n + 1) (L ++ [(o, n)]) := by
  unfold Drawn
  rw [List.range_succ, List.reverse_append, List.reverse_append]
  exact Grow.step d (by simp [ho]) (by simp)
theorem Drawn.len {n : Nat} {L : Lanes} (d : Drawn n L) : n = L.length + 1 := by
  have := Grow.length d
  simpa using this
theorem Drawn.zero {n i : Nat} {L : Lanes} (d : Drawn n L) (h : n ≤ i) : deg L i = 0 := by
  rw [← deg_reverse]
  exact deg_none d (by simp; omega)
structure Done (y : Nat) (L : Lanes) : Prop where
  dr : Drawn (L.length + 1) L
  yd : ∀ j, j < y → 2 ≤ deg L j ∧ deg L j ≤ 4
  gt : ∀ j, y ≤ j → deg L j ≤ 1
  y1 : 1 ≤ y
  y7 : y ≤ 7
  yn : y ≤ L.length + 1
  small : L.length ≤ 100
structure Mixed (n : Nat) (ps : List Nat) : Prop where
  len : ps.length = n
  perm : ps.Perm (List.range n)
theorem Mixed.lt {n : Nat} {ps : List Nat} (m : Mixed n ps) {x : Nat} (h : x ∈ ps) : x < n := List.mem_range.mp (m.perm.mem_iff.mp h)
theorem Mixed.nd {n : Nat} {ps : List Nat} (m : Mixed n ps) : ps.Nodup := m.perm.nodup_iff.mpr List.nodup_range
theorem getD_at {l : List Nat} {i : Nat} (h : i < l.length) : l[i]? = some (l.getD i 0) := by
  rw [List.getD_eq_getElem?_getD, List.getElem?_eq_getElem h]
  rfl
theorem Mixed.inj {n : Nat} {ps : List Nat} (m : Mixed n ps) {a b : Nat} (ha : a < n) (hb : b < n) (e : ps.getD a 0 = ps.getD b 0) : a = b :=
  nodup_ix m.nd (getD_at (by rw [m.len]; exact ha)) (by rw [e]; exact getD_at (by rw [m.len]; exact hb))
theorem Mixed.map {n : Nat} {ps : List Nat} (m : Mixed n ps) : (List.range n).map (fun i => ps.getD i 0) = ps := by
  rw [← m.len]
  refine List.ext_getElem (by simp) fun i h1 h2 => ?_
  rw [List.getElem_map, List.getElem_range, List.getD_eq_getElem?_getD, List.getElem?_eq_getElem h2]
  rfl
end TM
set_option linter.all false
namespace TM
section
variable {vs : List Nat} {L : Lanes} {N : Nat → Nat → Nat}
def bh (L : Lanes) (N : Nat → Nat → Nat) (y t : Nat) : List Nat := (yardsL L).filter (beh N y t)
end
end TM
set_option linter.all false
namespace TM
section
variable {vs : List Nat} {L : Lanes}
theorem Chain.app : ∀ {p : List Nat} {c : Nat} {q : List Nat}, Chain L (p ++ [c]) → Chain L (c :: q) → Chain L (p ++ c :: q)
  | [], _, _, _, h => h
  | [x], _, _, h1, h2 => ⟨h1.1, h2⟩
  | x :: y :: p, c, q, h1, h2 => ⟨h1.1, Chain.app (p := y :: p) h1.2 h2⟩
theorem Path.cut {s t : Nat} {D B : List Nat} {c : Nat} (P : Path L s t (D ++ c :: B)) : Path L s c (D ++ [c]) ∧ Path L c t (c :: B) := by
  have e : D ++ c :: B = (D ++ [c]) ++ B := by simp
  refine ⟨⟨(e ▸ P.ch).left, ?_, ?_, by simp⟩, ⟨P.ch.right, (List.nodup_append.mp P.nd).2.1, rfl, ?_⟩⟩
  · have := P.nd
    rw [e] at this
    exact (List.nodup_append.mp this).1
  · have := P.hd
    cases D with
    | nil => exact this
    | cons a D => exact this
  · have := P.lt
    rw [List.getLast?_append] at this
    cases q : (c :: B).getLast? with
    | none => simp at q
    | some z => rw [q] at this; exact this
structure Meet (o m t : Nat) (P Q R : List Nat) (c : Nat) (a b d : Nat) : Prop where
  lp : P.length = a + b + 1
  lq : Q.length = b + d + 1
  lr : R.length = a + d + 1
  one : (P.filter fun x => decide (x ∈ Q) && decide (x ∈ R)) = [c]
  zero : b = 0 ↔ m ∈ R
  leg : ∃ B, Path L m c B ∧ B.length = b + 1
end
end TM
set_option linter.all false
namespace TM
def lexLe (p q : Nat × Nat) : Prop := p.1 < q.1 ∨ (p.1 = q.1 ∧ p.2 ≤ q.2)
def LexS (M : Lanes) : Prop := M.Pairwise lexLe
end TM
set_option Elab.async false
set_option linter.all false
set_option maxRecDepth 100000
set_option maxHeartbeats 4000000
namespace Pr
open PySem PySem.Spec PyProof.Rows L2 TM
open Evl (Ex)
abbrev vI (n : Nat) : V := .int (n : Int)
abbrev vIs (l : List Nat) : List V := l.map vI
theorem vIs_int (l : List Nat) : vIs l = (l.map fun (n : Nat) => (n : Int)).map V.int := by
  rw [List.map_map]
  rfl
theorem szN {n : Nat} (h : n ≤ 100000) : n < sizeLine := Nat.lt_of_le_of_lt h (by decide)
def PairAt (H : Hp) (v : V) (p : Nat × Nat) : Prop := ∃ t, v = .ref t ∧ H t = some (.tup [vI p.1, vI p.2])
def LanesAt (H : Hp) (a : Addr) (L : Lanes) : Prop := ∃ vs, H a = some (.lst vs) ∧ Paired (PairAt H) vs L
theorem PairAt.ex {H H' : Hp} {v : V} {p : Nat × Nat} (e : Ex H H') (h : PairAt H v p) : PairAt H' v p := by
  obtain ⟨t, r, k⟩ := h
  exact ⟨t, r, e _ _ k⟩
theorem paired_imp {α β : Type} {R S : α → β → Prop} (k : ∀ a b, R a b → S a b) : ∀ {xs : List α} {ys : List β}, Paired R xs ys → Paired S xs ys
  | _, _, .nil => .nil
  | _, _, .cons h t => .cons (k _ _ h) (paired_imp k t)
theorem paired_ix {α β : Type} {R : α → β → Prop} : ∀ {xs : List α} {ys : List β} {i : Nat} {x : α}, Paired R xs ys → xs[i]? = some x → ∃ y, ys[i]? = some y ∧ R x y
  | _, _, _, _, .nil, e => by simp at e
  | _, _, 0, _, .cons r _, e => by simp at e; subst e; exact ⟨_, rfl, r⟩
  | _, _, i + 1, x, .cons _ t, e => by
    obtain ⟨u, h1, h2⟩ := paired_ix (i := i) (x := x) t (by simpa using e)
    exact ⟨u, by simpa using h1, h2⟩
theorem LanesAt.ex {H H' : Hp} {a : Addr} {L : Lanes} (e : Ex H H') (h : LanesAt H a L) : LanesAt H' a L := by
  obtain ⟨vs, r, k⟩ := h
  exact ⟨vs, e _ _ r, paired_imp (fun _ _ z => z.ex e) k⟩
theorem take_more {α : Type} : ∀ {l : List α} {i : Nat} {x : α}, l[i]? = some x → l.take (i + 1) = l.take i ++ [x]
  | [], i, x, h => by simp at h
  | a :: l, 0, x, h => by
    have e : a = x := Option.some.inj h
    subst e
    rfl
  | a :: l, i + 1, x, h => by
    have ih := take_more (l := l) (i := i) (x := x) h
    show a :: l.take (i + 1) = a :: l.take i ++ [x]
    rw [ih]
    rfl
def spCount : Sp := fun vs H Q _ => ∃ i : Int, vs = [.int i] ∧ Q (.bl (decide (0 ≤ i))) H
def spRow (K : PySem.W.Frag) : Sp := fun vs H Q _ => ∃ a xs, vs = [.ref a] ∧ (H a = some (.lst xs) ∨ H a = some (.tup xs)) ∧ ∀ H', Ex H H' → Q (.bl true) H'
end Pr
namespace Pr
open PySem PySem.Spec PyProof.Rows L2 TM
open Evl (Ex)
abbrev keyN (i : Nat) : Key := Sum.inl (i : Int)
def keysN (m : Nat) : List Key := (List.range m).map keyN
theorem find_zip {κ : Type} [DecidableEq κ] : ∀ (ks : List κ) (ys : List V) (i : Nat) (k : κ), ks.Nodup → ks.length = ys.length → ks[i]? = some k → valV (ks.zip ys) k = ys[i]?
  | [], ys, i, k, _, _, h => by simp at h
  | a :: ks, [], i, k, _, h, _ => by simp at h
  | a :: ks, y :: ys, 0, k, nd, hl, h => by
    have e : a = k := Option.some.inj h
    subst e
    exact valV_pos rfl
  | a :: ks, y :: ys, i + 1, k, nd, hl, h => by
    have h' : ks[i]? = some k := by simpa using h
    obtain ⟨n1, n2⟩ := List.nodup_cons.mp nd
    have ne : ¬ a = k := fun e => n1 (e ▸ List.mem_of_getElem? h')
    show valV ((a, y) :: ks.zip ys) k = ys[i]?
    rw [valV_neg ne]
    exact find_zip ks ys i k n2 (by simpa using hl) h'
theorem keysN_nodup (m : Nat) : (keysN m).Nodup := by
  unfold keysN
  refine List.pairwise_map.mpr ?_
  exact List.nodup_range.imp fun h e => h (by injection e with e; omega)
theorem keysN_at {m i : Nat} (h : i < m) : (keysN m)[i]? = some (keyN i) := by
  unfold keysN
  rw [List.getElem?_map, List.getElem?_range h]
  rfl
theorem keysN_length (m : Nat) : (keysN m).length = m := by simp [keysN]
theorem valV_keysN {m : Nat} {ys : List V} (hl : ys.length = m) {i : Nat} (h : i < m) : valV ((keysN m).zip ys) (keyN i) = ys[i]? :=
  find_zip _ _ i _ (keysN_nodup m) (by rw [keysN_length, hl]) (keysN_at h)
structure RowsAt (H : Hp) (m : Nat) (rs : List Addr) (row : Nat → List Nat) : Prop where
  len : rs.length = m
  at_ : ∀ i r, rs[i]? = some r → H r = some (.lst (vIs (row i)))
def dkOf (m : Nat) (rs : List Addr) : HO := .dK ((keysN m).zip (rs.map V.ref))
def AroundAt (H : Hp) (d : Addr) (m : Nat) (row : Nat → List Nat) : Prop := ∃ rs, H d = some (dkOf m rs) ∧ RowsAt H m rs row
def AroundR (H : Hp) (d : Addr) (m : Nat) (row : Nat → List Nat) : Prop := ∃ rs, Rd H d (dkOf m rs) ∧ RowsAt H m rs row
theorem AroundAt.r {H : Hp} {d : Addr} {m : Nat} {row : Nat → List Nat} (h : AroundAt H d m row) : AroundR H d m row := by
  obtain ⟨rs, a, b⟩ := h
  exact ⟨rs, .inl a, b⟩
theorem RowsAt.ex {H H' : Hp} {m : Nat} {rs : List Addr} {row : Nat → List Nat} (e : Ex H H') (h : RowsAt H m rs row) : RowsAt H' m rs row := ⟨h.len, fun i r k => e _ _ (h.at_ i r k)⟩
theorem AroundAt.ex {H H' : Hp} {d : Addr} {m : Nat} {row : Nat → List Nat} (e : Ex H H') (h : AroundAt H d m row) : AroundAt H' d m row := by
  obtain ⟨rs, a, b⟩ := h
  exact ⟨rs, e _ _ a, b.ex e⟩
theorem RowsAt.get {H : Hp} {m : Nat} {rs : List Addr} {row : Nat → List Nat} (h : RowsAt H m rs row) {i : Nat} (hi : i < m) : ∃ r, rs[i]? = some r ∧ H r = some (.lst (vIs (row i))) ∧ valV ((keysN m).zip (rs.map V.ref)) (keyN i) = some (.ref r) := by
  have hl : i < rs.length := by rw [h.len]; exact hi
  refine ⟨rs[i], List.getElem?_eq_getElem hl, h.at_ i _ (List.getElem?_eq_getElem hl), ?_⟩
  rw [valV_keysN (by rw [List.length_map, h.len]) hi, List.getElem?_map, List.getElem?_eq_getElem hl]
  rfl
theorem RowsAt.lock {H : Hp} {m : Nat} {rs : List Addr} {row : Nat → List Nat} {d : Addr} (h : RowsAt H m rs row) (hd : H d = some (dkOf m rs)) (od : Obj) : RowsAt (upd H d (.frz od (dkOf m rs))) m rs row := ⟨h.len, fun i r k => by
  have z := h.at_ i r k
  rw [upd_ne (ne_of z hd (fun q => nomatch q))]
  exact z⟩
theorem RowsAt.app {H : Hp} {m : Nat} {rs : List Addr} {row : Nat → List Nat} (h : RowsAt H m rs row) (nd : rs.Nodup) {i x : Nat} {r : Addr} (hr : rs[i]? = some r) : RowsAt (upd H r (.lst (vIs (row i) ++ [vI x]))) m rs (fun j => row j ++ if i = j then [x] else []) := ⟨h.len, fun j q k => by
  by_cases e : i = j
  · subst e
    have : q = r := Option.some.inj (k.symm.trans hr)
    subst this
    rw [upd_same, if_pos rfl]
    simp [vIs]
  · have nq : q ≠ r := fun z => e (nodup_ix nd hr (z ▸ k))
    rw [upd_ne nq, if_neg e, List.append_nil]
    exact h.at_ j q k⟩
theorem RowsAt.congr {H : Hp} {m : Nat} {rs : List Addr} {row row' : Nat → List Nat} (h : RowsAt H m rs row) (e : ∀ i, i < m → row i = row' i) : RowsAt H m rs row' := ⟨h.len, fun i r k => by
  have hi := (List.getElem?_eq_some_iff.mp k).1
  rw [← e i (by rw [← h.len]; exact hi)]
  exact h.at_ i r k⟩
def spNeigh : Sp := fun vs H Q _ => ∃ a L, vs = [.ref a] ∧ LanesAt H a L ∧ (∀ p ∈ L, p.1 ≤ L.length ∧ p.2 ≤ L.length) ∧ L.length ≤ 1000 ∧
  ∀ p H', Ex H H' → H p = none → AroundAt H' p (L.length + 1) (adj L) → Q (.ref p) H'
def spPair : Sp := fun vs H Q _ => ∃ (t : Addr) (p : Nat × Nat) (last : Nat), vs = [.ref t, vI last] ∧ H t = some (.tup [vI p.1, vI p.2]) ∧ ∀ H', Ex H H' → Q (.bl (decide (p.1 ≤ last) && decide (p.2 ≤ last))) H'
def spAhead : Sp := fun vs H Q _ => ∃ L d goal vt, vs = [.ref d, vI goal] ∧ Tr vt L ∧ AroundR H d (L.length + 1) (adj L) ∧ goal ∈ vt ∧ (∀ v ∈ vt, v < L.length + 1) ∧ L.length ≤ 1000 ∧
  ∀ p H' kvs, Ex H H' → H p = none → Ahead L goal kvs → H' p = some (.dK (kvs.map fun q => (keyN q.1, vI q.2))) → Q (.ref p) H'
theorem nbP_len : ∀ (L : Lanes) (i : Nat), (nbP L i).length ≤ 2 * L.length
  | [], _ => by simp [nbP]
  | (a, b) :: L, i => by
    have ih := nbP_len L i
    unfold nbP
    rw [List.length_append, List.length_append, List.length_cons]
    split <;> split <;> simp <;> omega
def spYards : Sp := fun vs H Q _ => ∃ L d, vs = [.ref d] ∧ AroundAt H d (L.length + 1) (adj L) ∧ L.length ≤ 1000 ∧ ∀ p H', Ex H H' → H p = none → H' p = some (.lst (vIs (yardsL L))) → Q (.ref p) H'
def spLanes : Sp := fun vs H Q _ => ∃ L a vt, vs = [.ref a] ∧ LanesAt H a L ∧ Good vt L ∧ ∀ H', Ex H H' → Q (.bl true) H'
def fl (l d e y g : Addr) : List (Str × V) := [("_lanes", .ref l), ("_around", .ref d), ("_ahead", .ref e), ("_yards", .ref y), ("_gates", .ref g)]
structure CPart (H : Hp) (L : Lanes) (l d e y g : Addr) (rs qs : List Addr) : Prop where
  l_ : ∃ M, LanesAt H l M ∧ M.Perm (norm L) ∧ LexS M
  d_ : H d = some (dkOf (L.length + 1) rs)
  r_ : RowsAt H (L.length + 1) rs (adj L)
  e_ : H e = some (dkOf (L.length + 1) qs)
  ql : qs.length = L.length + 1
  q_ : ∀ (i : Nat) (q : Addr), qs[i]? = some q → ∃ kvs, Ahead L i kvs ∧ H q = some (.dK (kvs.map fun q => (keyN q.1, vI q.2)))
  y_ : H y = some (.lst (vIs (yardsL L)))
  g_ : H g = some (.lst (vIs (gatesL L)))
def CAt (C : Addr) (H : Hp) (p : Addr) (L : Lanes) : Prop := ∃ dx l d e y g rs qs, H p = some (.ins C dx (fl l d e y g)) ∧ CPart H L l d e y g rs qs
theorem CPart.ex {H H' : Hp} {L : Lanes} {l d e y g : Addr} {rs qs : List Addr} (x : Ex H H') (h : CPart H L l d e y g rs qs) : CPart H' L l d e y g rs qs where
  l_ := by
    obtain ⟨M, a, b⟩ := h.l_
    exact ⟨M, a.ex x, b⟩
  d_ := x _ _ h.d_
  r_ := h.r_.ex x
  e_ := x _ _ h.e_
  ql := h.ql
  q_ := fun i q k => by
    obtain ⟨kvs, a, b⟩ := h.q_ i q k
    exact ⟨kvs, a, x _ _ b⟩
  y_ := x _ _ h.y_
  g_ := x _ _ h.g_
theorem CAt.ex {C : Addr} {H H' : Hp} {p : Addr} {L : Lanes} (x : Ex H H') (h : CAt C H p L) : CAt C H' p L := by
  obtain ⟨dx, l, d, e, y, g, rs, qs, a, b⟩ := h
  exact ⟨dx, l, d, e, y, g, rs, qs, x _ _ a, b.ex x⟩
def spInit (C : Addr) : Sp := fun vs H Q _ => ∃ L p dx a vt, vs = [.ref p, .ref a] ∧ H p = some (.ins C dx []) ∧ LanesAt H a L ∧ Good vt L ∧ ∀ H', (∀ b o, H b = some o → b ≠ p → H' b = some o) → CAt C H' p L → Q .non H'
theorem fl_l {l d e y g : Addr} : (fl l d e y g).lookup ("_lanes" : Str) = some (.ref l) := by rfl
theorem fl_d {l d e y g : Addr} : (fl l d e y g).lookup ("_around" : Str) = some (.ref d) := by rfl
theorem fl_y {l d e y g : Addr} : (fl l d e y g).lookup ("_yards" : Str) = some (.ref y) := by rfl
theorem fl_no {l d e y g : Addr} {x : Str} (h : ([("_lanes", ()), ("_around", ()), ("_ahead", ()), ("_yards", ()), ("_gates", ())] : List (Str × Unit)).lookup x = none) : (fl l d e y g).lookup x = none := by
  have f : ∀ (ks : List Str) (vs : List V), ks.length = vs.length → (ks.map fun k => (k, ())).lookup x = none → (ks.zip vs).lookup x = none := by
    intro ks
    induction ks with
    | nil => intro vs _ _; rfl
    | cons k ks ih =>
      intro vs hl hn
      cases vs with
      | nil => cases hl
      | cons v vs =>
        show List.lookup x ((k, v) :: ks.zip vs) = none
        have hn : List.lookup x ((k, ()) :: ks.map fun k => (k, ())) = none := hn
        rw [List.lookup_cons] at hn ⊢
        cases e : (x == k) with
        | true => rw [e] at hn; cases hn
        | false => rw [e] at hn; exact ih vs (by simpa using hl) hn
  exact f ["_lanes", "_around", "_ahead", "_yards", "_gates"] [.ref l, .ref d, .ref e, .ref y, .ref g] rfl h
def Ki (H H' : Hp) : Prop := ∀ b o, H b = some o → (∀ C dx fs, o ≠ HO.ins C dx fs) → H' b = some o
theorem Ki.of {H H' : Hp} (e : Ex H H') : Ki H H' := fun b o h _ => e b o h
theorem Ki.trans {H H1 H2 : Hp} (a : Ki H H1) (b : Ki H1 H2) : Ki H H2 := fun c o h n => b c o (a c o h n) n
theorem Ki.put {H : Hp} {p C dx : Addr} {fs fs' : List (Str × V)} (h : H p = some (.ins C dx fs)) : Ki H (upd H p (.ins C dx fs')) := fun b o hb n => by
  rw [upd_ne (ne_of hb h (n _ _ _))]
  exact hb
theorem LanesAt.ki {H H' : Hp} {a : Addr} {L : Lanes} (e : Ki H H') (h : LanesAt H a L) : LanesAt H' a L := by
  obtain ⟨vs, r, k⟩ := h
  exact ⟨vs, e _ _ r (fun _ _ _ z => nomatch z), paired_imp (fun _ _ ⟨t, q, z⟩ => ⟨t, q, e _ _ z (fun _ _ _ z => nomatch z)⟩) k⟩
theorem RowsAt.ki {H H' : Hp} {m : Nat} {rs : List Addr} {row : Nat → List Nat} (e : Ki H H') (h : RowsAt H m rs row) : RowsAt H' m rs row := ⟨h.len, fun i r k => e _ _ (h.at_ i r k) (fun _ _ _ z => nomatch z)⟩
theorem dkOf_ni {m : Nat} {rs : List Addr} : ∀ C dx fs, dkOf m rs ≠ HO.ins C dx fs := fun _ _ _ z => nomatch z
theorem lst_ni {xs : List V} : ∀ C dx fs, HO.lst xs ≠ HO.ins C dx fs := fun _ _ _ z => nomatch z
theorem dK_ni {xs : List (Key × V)} : ∀ C dx fs, HO.dK xs ≠ HO.ins C dx fs := fun _ _ _ z => nomatch z
abbrev g1 (l : V) : List (Str × V) := [("_lanes", l)]
abbrev g2 (l d : V) : List (Str × V) := [("_lanes", l), ("_around", d)]
abbrev g3 (l d e : V) : List (Str × V) := [("_lanes", l), ("_around", d), ("_ahead", e)]
abbrev g4 (l d e y : V) : List (Str × V) := [("_lanes", l), ("_around", d), ("_ahead", e), ("_yards", y)]
abbrev g5 (l d e y z : V) : List (Str × V) := [("_lanes", l), ("_around", d), ("_ahead", e), ("_yards", y), ("_gates", z)]
theorem pf1 {v : V} : putF "_lanes" v [] = g1 v := by rfl
theorem pf2 {l v : V} : putF "_around" v (g1 l) = g2 l v := by rfl
theorem pf3 {l d v : V} : putF "_ahead" v (g2 l d) = g3 l d v := by rfl
theorem pf4 {l d e v : V} : putF "_yards" v (g3 l d e) = g4 l d e v := by rfl
theorem pf5 {l d e y v : V} : putF "_gates" v (g4 l d e y) = g5 l d e y v := by rfl
def spGet (C : Addr) (R : Hp → Lanes → Addr → Prop) : Sp := fun vs H Q _ => ∃ L p, vs = [.ref p] ∧ CAt C H p L ∧ ∀ q H', Ex H H' → H q = none → R H' L q → Q (.ref q) H'
def rLanesG (H' : Hp) (L : Lanes) (q : Addr) : Prop := ∃ M, LanesAt H' q M ∧ M.Perm (norm L) ∧ LexS M
def rYardsG (H' : Hp) (L : Lanes) (q : Addr) : Prop := H' q = some (.lst (vIs (yardsL L)))
def spPlace (C : Addr) : Sp := fun vs H Q _ => ∃ L p i, vs = [.ref p, vI i] ∧ CAt C H p L ∧ ∀ H', Ex H H' → Q (.bl (decide (i < L.length + 1))) H'
def spNbs (C : Addr) : Sp := fun vs H Q _ => ∃ L p i, vs = [.ref p, vI i] ∧ CAt C H p L ∧ i < L.length + 1 ∧ ∀ q H', Ex H H' → H q = none → H' q = some (.lst (vIs (adj L i))) → Q (.ref q) H'
def spCheckC (C : Addr) : Sp := fun vs H Q _ => ∃ L p, vs = [.ref p] ∧ CAt C H p L ∧ ∀ H', Ex H H' → Q .non H'
def PotAt (H : Hp) (p : Addr) : Prop := ∃ a b : Int, H p = some (.lst [.int a, .int b]) ∧ 0 ≤ a ∧ 0 ≤ b ∧ b < 4294967296
def ExB (p : Addr) (H H' : Hp) : Prop := ∀ b o, H b = some o → b ≠ p → H' b = some o
theorem ExB.of {p : Addr} {H H' : Hp} (e : Ex H H') : ExB p H H' := fun b o h _ => e b o h
theorem ExB.trans {p : Addr} {H H1 H2 : Hp} (a : ExB p H H1) (b : ExB p H1 H2) : ExB p H H2 := fun c o h n => b c o (a c o h n) n
theorem ExB.put {p : Addr} {H : Hp} {o : HO} : ExB p H (upd H p o) := fun b u h n => by rw [upd_ne n]; exact h
theorem ExB.free {p q : Addr} {H H' : Hp} (e : ExB p H H') (h : H' q = none) (n : q ≠ p) : H q = none := by
  cases k : H q with
  | none => rfl
  | some o => rw [e q o k n] at h; cases h
def spPot (K : PySem.W.Frag) : Sp := fun vs H Q _ => ∃ (a : Addr) (ns : List Int) (k : Nat), vs = [.ref a, vI k] ∧ SqL K H a (ns.map V.int) ∧ k ≤ 1000 ∧ ∀ p H', Ex H H' → H p = none → PotAt H' p → Q (.ref p) H'
def spDraw : Sp := fun vs H Q _ => ∃ p m, vs = [.ref p, vI m] ∧ PotAt H p ∧ 0 < m ∧ m ≤ 2000 ∧ ∀ d H', d < m → PotAt H' p → ExB p H H' → Q (vI d) H'
theorem PotAt.exB {p q : Addr} {H H' : Hp} (e : ExB q H H') (n : p ≠ q) (h : PotAt H p) : PotAt H' p := by
  obtain ⟨a, b, h, r⟩ := h
  exact ⟨a, b, e _ _ h n, r⟩
theorem PotAt.ex {p : Addr} {H H' : Hp} (e : Ex H H') (h : PotAt H p) : PotAt H' p := by
  obtain ⟨a, b, h, r⟩ := h
  exact ⟨a, b, e _ _ h, r⟩
theorem PotAt.ne {p q : Addr} {H : Hp} {o : HO} (h : PotAt H p) (hq : H q = some o) (n : ∀ a b : Int, o ≠ .lst [.int a, .int b]) : q ≠ p := by
  obtain ⟨a, b, h, r⟩ := h
  exact ne_of hq h (n a b)
end Pr
set_option Elab.async false
set_option linter.all false
set_option maxRecDepth 100000
set_option maxHeartbeats 4000000
namespace DL
open PySem PySem.Spec PyProof.Rows L2
open Evl (Ex)
inductive Ob where
  | cty (L : List (Nat × Nat))
  | web (L : List (Nat × Nat)) (Bs : List (List (Nat × List (Option Nat × Option Nat × Nat))))
inductive D where
  | non | bl (b : Bool) | int (i : Int) | str (s : Str) | ty (n : String)
  | lst (l : List D) | tup (l : List D)
  | dk (ks : List Key) (l : List D) | dt (ks : List (List Key)) (l : List D)
  | ob (o : Ob)
  /-- range(n), as a value -/
  | rg (n : Nat)
def Exo (H H' : Hp) : Prop := ∀ b o, H b = some o → (∀ a, o ≠ .own a) → H' b = some o
theorem Exo.of {H H' : Hp} (e : Ex H H') : Exo H H' := fun b o h _ => e b o h
structure OR where
  r : Hp → V → Ob → Prop
  mono : ∀ H H' v o, Exo H H' → r H v o → r H' v o
mutual
def Rp (R : OR) (H : Hp) : V → D → Prop
  | v, .non => v = .non
  | v, .bl b => v = .bl b
  | v, .int i => v = .int i
  | v, .str s => v = .str s
  | v, .ty n => v = .ty n
  | v, .lst l => ∃ p vs, v = .ref p ∧ H p = some (.lst vs) ∧ RpA R H vs l
  | v, .tup l => ∃ p vs, v = .ref p ∧ H p = some (.tup vs) ∧ RpA R H vs l
  | v, .dk ks l => ∃ p vs, v = .ref p ∧ H p = some (.dK (ks.zip vs)) ∧ ks.length = l.length ∧ RpA R H vs l
  | v, .dt ks l => ∃ p vs, v = .ref p ∧ H p = some (.dT (ks.zip vs)) ∧ ks.length = l.length ∧ RpA R H vs l
  | v, .ob o => R.r H v o
  | v, .rg n => ∃ p, v = .ref p ∧ H p = some (.rng 0 (n : Int))
def RpA (R : OR) (H : Hp) : List V → List D → Prop
  | [], [] => True
  | v :: vs, d :: ds => Rp R H v d ∧ RpA R H vs ds
  | [], _ :: _ => False
  | _ :: _, [] => False
end
section
variable {R : OR} {H H' : Hp}
mutual
theorem Rp.monoO (e : Exo H H') : ∀ {v : V} (d : D), Rp R H v d → Rp R H' v d
  | v, .non, h => by simp only [Rp] at h ⊢; exact h
  | v, .bl _, h => by simp only [Rp] at h ⊢; exact h
  | v, .int _, h => by simp only [Rp] at h ⊢; exact h
  | v, .str _, h => by simp only [Rp] at h ⊢; exact h
  | v, .ty _, h => by simp only [Rp] at h ⊢; exact h
  | v, .lst l, h => by
    simp only [Rp] at h ⊢
    obtain ⟨p, vs, r, k, a⟩ := h
    exact ⟨p, vs, r, e _ _ k (fun _ z => nomatch z), RpA.monoO e l a⟩
  | v, .tup l, h => by
    simp only [Rp] at h ⊢
    obtain ⟨p, vs, r, k, a⟩ := h
    exact ⟨p, vs, r, e _ _ k (fun _ z => nomatch z), RpA.monoO e l a⟩
  | v, .dk ks l, h => by
    simp only [Rp] at h ⊢
    obtain ⟨p, vs, r, k, z, a⟩ := h
    exact ⟨p, vs, r, e _ _ k (fun _ z => nomatch z), z, RpA.monoO e l a⟩
  | v, .dt ks l, h => by
    simp only [Rp] at h ⊢
    obtain ⟨p, vs, r, k, z, a⟩ := h
    exact ⟨p, vs, r, e _ _ k (fun _ z => nomatch z), z, RpA.monoO e l a⟩
  | v, .ob o, h => by simp only [Rp] at h ⊢; exact R.mono _ _ _ _ e h
  | v, .rg n, h => by
    simp only [Rp] at h ⊢
    obtain ⟨p, r, k⟩ := h
    exact ⟨p, r, e _ _ k (fun _ z => nomatch z)⟩
theorem RpA.monoO (e : Exo H H') : ∀ {vs : List V} (ds : List D), RpA R H vs ds → RpA R H' vs ds
  | [], [], _ => by simp only [RpA]
  | v :: vs, d :: ds, h => by
    simp only [RpA] at h ⊢
    exact ⟨Rp.monoO e d h.1, RpA.monoO e ds h.2⟩
  | [], _ :: _, h => by simp only [RpA] at h
  | _ :: _, [], h => by simp only [RpA] at h
end
theorem Rp.mono (e : Ex H H') {v : V} (d : D) (h : Rp R H v d) : Rp R H' v d := Rp.monoO (.of e) d h
theorem RpA.mono (e : Ex H H') {vs : List V} (ds : List D) (h : RpA R H vs ds) : RpA R H' vs ds := RpA.monoO (.of e) ds h
theorem RpA.nil : RpA R H [] [] := by simp only [RpA]
theorem RpA.cons {v : V} {d : D} {vs : List V} {ds : List D} (a : Rp R H v d) (b : RpA R H vs ds) : RpA R H (v :: vs) (d :: ds) := by simp only [RpA]; exact ⟨a, b⟩
theorem RpA.len : ∀ {vs : List V} {ds : List D}, RpA R H vs ds → vs.length = ds.length
  | [], [], _ => rfl
  | _ :: vs, _ :: ds, h => by
    simp only [RpA] at h
    rw [List.length_cons, List.length_cons, RpA.len h.2]
  | [], _ :: _, h => by simp only [RpA] at h
  | _ :: _, [], h => by simp only [RpA] at h
theorem RpA.app : ∀ {vs us : List V} {ds es : List D}, RpA R H vs ds → RpA R H us es → RpA R H (vs ++ us) (ds ++ es)
  | [], _, [], _, _, h => h
  | _ :: vs, _, _ :: ds, _, h, g => by
    simp only [RpA] at h
    simp only [List.cons_append, RpA]
    exact ⟨h.1, RpA.app h.2 g⟩
  | [], _, _ :: _, _, h, _ => by simp only [RpA] at h
  | _ :: _, _, [], _, h, _ => by simp only [RpA] at h
theorem RpA.get : ∀ {vs : List V} {ds : List D} {i : Nat} {d : D}, RpA R H vs ds → ds[i]? = some d → ∃ v, vs[i]? = some v ∧ Rp R H v d
  | [], [], _, _, _, h => by simp at h
  | v :: vs, d :: ds, 0, _, h, e => by
    simp only [RpA] at h
    simp at e
    subst e
    exact ⟨v, rfl, h.1⟩
  | v :: vs, d :: ds, i + 1, _, h, e => by
    simp only [RpA] at h
    obtain ⟨u, a, b⟩ := RpA.get (i := i) h.2 (by simpa using e)
    exact ⟨u, by simpa using a, b⟩
  | [], _ :: _, _, _, h, _ => by simp only [RpA] at h
  | _ :: _, [], _, _, h, _ => by simp only [RpA] at h
theorem RpA.getV {vs : List V} {ds : List D} {i : Nat} {v : V} (h : RpA R H vs ds) (e : vs[i]? = some v) : ∃ d, ds[i]? = some d ∧ Rp R H v d := by
  have hi := (List.getElem?_eq_some_iff.mp e).1
  have hl := h.len
  obtain ⟨u, a, b⟩ := h.get (i := i) (d := ds[i]'(by omega)) (List.getElem?_eq_getElem _)
  rw [e] at a
  cases a
  exact ⟨_, List.getElem?_eq_getElem _, b⟩
theorem RpA.take : ∀ (n : Nat) {vs : List V} {ds : List D}, RpA R H vs ds → RpA R H (vs.take n) (ds.take n)
  | 0, _, _, _ => by simp only [List.take_zero]; exact .nil
  | n + 1, [], [], _ => by simp only [List.take_nil]; exact .nil
  | n + 1, _ :: vs, _ :: ds, h => by
    simp only [RpA] at h
    simp only [List.take_succ_cons, RpA]
    exact ⟨h.1, RpA.take n h.2⟩
  | _ + 1, [], _ :: _, h => by simp only [RpA] at h
  | _ + 1, _ :: _, [], h => by simp only [RpA] at h
theorem RpA.drop : ∀ (n : Nat) {vs : List V} {ds : List D}, RpA R H vs ds → RpA R H (vs.drop n) (ds.drop n)
  | 0, _, _, h => by simpa only [List.drop_zero] using h
  | n + 1, [], [], _ => by simp only [List.drop_nil]; exact .nil
  | n + 1, _ :: vs, _ :: ds, h => by
    simp only [RpA] at h
    simp only [List.drop_succ_cons]
    exact RpA.drop n h.2
  | _ + 1, [], _ :: _, h => by simp only [RpA] at h
  | _ + 1, _ :: _, [], h => by simp only [RpA] at h
theorem RpA.ints : ∀ {vs : List V} {ns : List Int}, RpA R H vs (ns.map D.int) → vs = ns.map V.int
  | [], [], _ => rfl
  | v :: vs, n :: ns, h => by
    simp only [List.map_cons, RpA, Rp] at h
    rw [List.map_cons, h.1, ← RpA.ints h.2]
  | [], _ :: _, h => by simp only [List.map_cons, RpA] at h
  | _ :: _, [], h => by simp only [List.map_nil, RpA] at h
theorem RpA.bls : ∀ {vs : List V} {ns : List Bool}, RpA R H vs (ns.map D.bl) → vs = ns.map V.bl
  | [], [], _ => rfl
  | v :: vs, n :: ns, h => by
    simp only [List.map_cons, RpA, Rp] at h
    rw [List.map_cons, h.1, ← RpA.bls h.2]
  | [], _ :: _, h => by simp only [List.map_cons, RpA] at h
  | _ :: _, [], h => by simp only [List.map_nil, RpA] at h
end
inductive SV where
  | un | val (d : D) | ml (l : List D) | mt (ks : List (List Key)) (l : List D) | mk (ks : List Key) (l : List D) | pot
abbrev Env := List SV
def isM : SV → Bool
  | .ml _ => true
  | .mt _ _ => true
  | .mk _ _ => true
  | _ => false
def ExP (P : Option Addr) (H H' : Hp) : Prop := ∀ b o, H b = some o → P ≠ some b → H' b = some o
theorem ExP.refl {P : Option Addr} {H : Hp} : ExP P H H := fun _ _ h _ => h
theorem ExP.trans {P : Option Addr} {H H1 H2 : Hp} (a : ExP P H H1) (b : ExP P H1 H2) : ExP P H H2 := fun c o h n => b c o (a c o h n) n
theorem ExP.of {P : Option Addr} {H H' : Hp} (e : Ex H H') : ExP P H H' := fun b o h _ => e b o h
def Imm : HO → Prop
  | .tup _ => True
  | .own _ => True
  | _ => False
structure Step (P : Option Addr) (B H B' H' : Hp) : Prop where
  bb : Ex B B'
  bh : Ex B' H'
  hh : ExP P H H'
  nw : ∀ b o, B' b = some o → B b = some o ∨ H b = none ∨ Imm o
def PotOk (P : Option Addr) (H : Hp) : Prop := ∀ p, P = some p → Pr.PotAt H p
def SlotOk (R : OR) (P : Option Addr) (σ : L2.St) (B H : Hp) (i : Nat) : SV → Prop
  | .un => True
  | .val d => ∃ v, σ[i]? = some (some v) ∧ Rp R B v d
  | .ml l => ∃ p vs, σ[i]? = some (some (.ref p)) ∧ H p = some (.lst vs) ∧ B p = none ∧ P ≠ some p ∧ RpA R B vs l
  | .mt ks l => ∃ p vs, σ[i]? = some (some (.ref p)) ∧ H p = some (.dT (ks.zip vs)) ∧ ks.length = l.length ∧ B p = none ∧ P ≠ some p ∧ RpA R B vs l
  | .mk ks l => ∃ p vs, σ[i]? = some (some (.ref p)) ∧ H p = some (.dK (ks.zip vs)) ∧ ks.length = l.length ∧ B p = none ∧ P ≠ some p ∧ RpA R B vs l
  | .pot => ∃ p, P = some p ∧ σ[i]? = some (some (.ref p))
structure EnvOk (R : OR) (P : Option Addr) (env : Env) (σ : L2.St) (B H : Hp) : Prop where
  len : σ.length = env.length
  bh : Ex B H
  pot : PotOk P H
  pb : ∀ p, P = some p → B p = none
  sl : ∀ i sv, env[i]? = some sv → SlotOk R P σ B H i sv
  nd : ∀ (i j : Nat) (x y : SV) (p : Addr), env[i]? = some x → env[j]? = some y → isM x = true → isM y = true → σ[i]? = some (some (V.ref p)) → σ[j]? = some (some (V.ref p)) → i = j
section
variable {R : OR} {P : Option Addr} {env : Env} {σ : L2.St} {B H B' H' B2 H2 : Hp}
theorem Step.refl (b : Ex B H) : Step P B H B H := ⟨Ex.refl _, b, .refl, fun _ _ h => .inl h⟩
theorem fresh_backP {p : Addr} (e : ExP P H H') (n : P ≠ some p) (h : H' p = none) : H p = none := by
  cases q : H p with
  | none => rfl
  | some o => rw [e p o q n] at h; cases h
theorem pot_some {H : Hp} {p : Addr} (hp : Pr.PotAt H p) : H p ≠ none := by
  obtain ⟨_, _, k, _⟩ := hp
  rw [k]
  exact fun z => nomatch z
theorem fresh_pot (po : PotOk P H) {p : Addr} (h : H p = none) : P ≠ some p := fun e => pot_some (po p e) h
theorem Step.trans (po : PotOk P H') (a : Step P B H B' H') (b : Step P B' H' B2 H2) : Step P B H B2 H2 := ⟨a.bb.trans b.bb, b.bh, a.hh.trans b.hh, fun c o h => by
  rcases b.nw c o h with k | k | k
  · exact a.nw c o k
  · exact .inr (.inl (fresh_backP a.hh (fresh_pot po k) k))
  · exact .inr (.inr k)⟩
theorem PotOk.ex (h : PotOk P H) (e : Ex H H') : PotOk P H' := fun p k => (h p k).ex e
theorem EnvOk.step (E : EnvOk R P env σ B H) (s : Step P B H B' H') (po : PotOk P H') : EnvOk R P env σ B' H' where
  len := E.len
  bh := s.bh
  pot := po
  pb := fun p e => by
    cases q : B' p with
    | none => rfl
    | some o =>
      rcases s.nw p o q with k | k | k
      · rw [E.pb p e] at k; cases k
      · exact absurd k (pot_some (E.pot p e))
      · obtain ⟨a, b, h, _⟩ := po p e
        have := s.bh _ _ q
        rw [h] at this
        cases this
        exact k.elim
  sl := fun i sv h => by
    have z := E.sl i sv h
    have nb : ∀ p o, H p = some o → ¬ Imm o → P ≠ some p → B p = none → B' p = none := fun p o a im hP b => by
      cases q : B' p with
      | none => rfl
      | some u =>
        rcases s.nw p u q with k | k | k
        · rw [b] at k; cases k
        · rw [a] at k; cases k
        · have h1 := s.bh _ _ q
          rw [s.hh _ _ a hP] at h1
          cases h1
          exact absurd k im
    cases sv with
    | un => trivial
    | val d =>
      obtain ⟨v, a, b⟩ := z
      exact ⟨v, a, b.mono s.bb d⟩
    | ml l =>
      obtain ⟨p, vs, a, b, c, d, e⟩ := z
      exact ⟨p, vs, a, s.hh _ _ b d, nb _ _ b (fun z => z) d c, d, e.mono s.bb l⟩
    | mt ks l =>
      obtain ⟨p, vs, a, b, f, c, d, e⟩ := z
      exact ⟨p, vs, a, s.hh _ _ b d, f, nb _ _ b (fun z => z) d c, d, e.mono s.bb l⟩
    | mk ks l =>
      obtain ⟨p, vs, a, b, f, c, d, e⟩ := z
      exact ⟨p, vs, a, s.hh _ _ b d, f, nb _ _ b (fun z => z) d c, d, e.mono s.bb l⟩
    | pot => exact z
  nd := E.nd
theorem EnvOk.alloc (E : EnvOk R P env σ B H) {p : Addr} {o : HO} (h : H p = none) : Step P B H (upd B p o) (upd H p o) ∧ EnvOk R P env σ (upd B p o) (upd H p o) := by
  have hb : B p = none := Evl.fresh_back E.bh h
  have s : Step P B H (upd B p o) (upd H p o) := ⟨Ex.new hb, fun b u k => by
    by_cases e : b = p
    · subst e; rw [upd_same] at k ⊢; exact k
    · rw [upd_ne e] at k ⊢; exact E.bh b u k, ExP.of (Ex.new h), fun b u k => by
    by_cases e : b = p
    · subst e; exact .inr (.inl h)
    · rw [upd_ne e] at k; exact .inl k⟩
  exact ⟨s, E.step s (E.pot.ex (Ex.new h))⟩
theorem EnvOk.allocU (E : EnvOk R P env σ B H) {p : Addr} {o : HO} (h : H p = none) : Step P B H B (upd H p o) ∧ EnvOk R P env σ B (upd H p o) := by
  have s : Step P B H B (upd H p o) := ⟨Ex.refl _, E.bh.trans (Ex.new h), ExP.of (Ex.new h), fun b u k => .inl k⟩
  exact ⟨s, E.step s (E.pot.ex (Ex.new h))⟩
end
end DL
set_option Elab.async false
set_option linter.all false
set_option maxRecDepth 100000
set_option maxHeartbeats 4000000
namespace DL
open PySem PySem.Spec PyProof.Rows L2
open Evl (Ex)
abbrev DK := D → Prop
abbrev EE := Env → DK → Prop
abbrev EL := Env → (List D → Prop) → Prop
abbrev EB := Env → (Bool → Prop) → Prop
abbrev EO := Env → (Option Int → Prop) → Prop
def WkR (R : OR) (P : Option Addr) (B H : Hp) (v : V) : D → Prop
  | .lst l => ∃ p vs, v = .ref p ∧ H p = some (.lst vs) ∧ P ≠ some p ∧ RpA R B vs l
  | .dt ks l => ∃ p vs, v = .ref p ∧ H p = some (.dT (ks.zip vs)) ∧ ks.length = l.length ∧ P ≠ some p ∧ RpA R B vs l
  | .dk ks l => ∃ p vs, v = .ref p ∧ H p = some (.dK (ks.zip vs)) ∧ ks.length = l.length ∧ P ≠ some p ∧ RpA R B vs l
  | _ => False
def RpW (R : OR) (P : Option Addr) (B H : Hp) (v : V) (d : D) : Prop := Rp R B v d ∨ WkR R P B H v d
def WE (R : OR) (te : TE) (ee : EE) : Prop := ∀ P env σ B H (Q : VK) k, EnvOk R P env σ B H → ee env k → (∀ d v B' H', k d → Step P B H B' H' → EnvOk R P env σ B' H' → Rp R B' v d → Q v H') → te σ H Q
def WO (R : OR) (te : TE) (ee : EE) : Prop := ∀ P env σ B H (Q : VK) k, EnvOk R P env σ B H → ee env k → (∀ d v B' H', k d → Step P B H B' H' → EnvOk R P env σ B' H' → RpW R P B' H' v d → Q v H') → te σ H Q
def WF (R : OR) (te : TE) (el : EL) : Prop := ∀ P env σ B H (Q : VK) k, EnvOk R P env σ B H → el env k → (∀ l p vs B' H', k l → Step P B H B' H' → EnvOk R P env σ B' H' → H p = none → B' p = none → H' p = some (.lst vs) → RpA R B' vs l → Q (.ref p) H') → te σ H Q
def WA (R : OR) (ta : TA) (ea : EL) : Prop := ∀ P env σ B H (Q : List V → Hp → Prop) k, EnvOk R P env σ B H → ea env k → (∀ ds vs B' H', k ds → Step P B H B' H' → EnvOk R P env σ B' H' → RpA R B' vs ds → Q vs H') → ta σ H Q
def WT (R : OR) (tt : TT) (eb : EB) : Prop := ∀ P env σ B H (Q : Bool → Hp → Prop) k, EnvOk R P env σ B H → eb env k → (∀ b B' H', k b → Step P B H B' H' → EnvOk R P env σ B' H' → Q b H') → tt σ H Q
def WP (R : OR) (to : TO) (eo : EO) : Prop := ∀ P env σ B H (Q : Option Int → Hp → Prop) k, EnvOk R P env σ B H → eo env k → (∀ b B' H', k b → Step P B H B' H' → EnvOk R P env σ B' H' → Q b H') → to σ H Q
section
variable {R : OR} {P : Option Addr} {env : Env} {σ : L2.St} {B H B' H' B2 H2 : Hp}
theorem RpW.step {v : V} {d : D} (h : RpW R P B H v d) (s : Step P B H B' H') : RpW R P B' H' v d := by
  rcases h with h | h
  · exact .inl (h.mono s.bb d)
  · refine .inr ?_
    cases d with
    | lst l =>
      obtain ⟨p, vs, r, k, n, a⟩ := h
      exact ⟨p, vs, r, s.hh _ _ k n, n, a.mono s.bb l⟩
    | dt ks l =>
      obtain ⟨p, vs, r, k, z, n, a⟩ := h
      exact ⟨p, vs, r, s.hh _ _ k n, z, n, a.mono s.bb l⟩
    | dk ks l =>
      obtain ⟨p, vs, r, k, z, n, a⟩ := h
      exact ⟨p, vs, r, s.hh _ _ k n, z, n, a.mono s.bb l⟩
    | _ => exact h.elim
def seqD : D → Option (List D)
  | .lst l => some l
  | .tup l => some l
  | _ => none
theorem RpW.lst {v : V} {l : List D} (bh : Ex B H) (h : RpW R P B H v (.lst l)) : ∃ p vs, v = .ref p ∧ H p = some (.lst vs) ∧ RpA R B vs l := by
  rcases h with h | h
  · simp only [Rp] at h
    obtain ⟨p, vs, r, k, a⟩ := h
    exact ⟨p, vs, r, bh _ _ k, a⟩
  · obtain ⟨p, vs, r, k, _, a⟩ := h
    exact ⟨p, vs, r, k, a⟩
theorem RpW.tup {v : V} {l : List D} (bh : Ex B H) (h : RpW R P B H v (.tup l)) : ∃ p vs, v = .ref p ∧ B p = some (.tup vs) ∧ H p = some (.tup vs) ∧ RpA R B vs l := by
  rcases h with h | h
  · simp only [Rp] at h
    obtain ⟨p, vs, r, k, a⟩ := h
    exact ⟨p, vs, r, k, bh _ _ k, a⟩
  · exact h.elim
theorem RpW.seq {v : V} {d : D} {l : List D} (bh : Ex B H) (h : RpW R P B H v d) (e : seqD d = some l) : ∃ p vs, v = .ref p ∧ (H p = some (.lst vs) ∨ H p = some (.tup vs)) ∧ RpA R B vs l := by
  cases d with
  | lst m =>
    cases e
    obtain ⟨p, vs, r, k, a⟩ := h.lst bh
    exact ⟨p, vs, r, .inl k, a⟩
  | tup m =>
    cases e
    obtain ⟨p, vs, r, _, k, a⟩ := h.tup bh
    exact ⟨p, vs, r, .inr k, a⟩
  | _ => cases e
theorem RpW.int {v : V} {i : Int} (h : RpW R P B H v (.int i)) : v = .int i := by
  rcases h with h | h
  · simpa only [Rp] using h
  · exact h.elim
theorem RpW.bl {v : V} {i : Bool} (h : RpW R P B H v (.bl i)) : v = .bl i := by
  rcases h with h | h
  · simpa only [Rp] using h
  · exact h.elim
theorem RpW.str {v : V} {i : Str} (h : RpW R P B H v (.str i)) : v = .str i := by
  rcases h with h | h
  · simpa only [Rp] using h
  · exact h.elim
theorem RpW.non {v : V} (h : RpW R P B H v .non) : v = .non := by
  rcases h with h | h
  · simpa only [Rp] using h
  · exact h.elim
theorem rp_int {i : Int} : Rp R B (.int i) (.int i) := by simp only [Rp]
theorem rp_bl {i : Bool} : Rp R B (.bl i) (.bl i) := by simp only [Rp]
theorem rp_str {i : Str} : Rp R B (.str i) (.str i) := by simp only [Rp]
theorem rp_non : Rp R B .non .non := by simp only [Rp]
theorem rp_lst {p : Addr} {vs : List V} {l : List D} (h : B p = some (.lst vs)) (a : RpA R B vs l) : Rp R B (.ref p) (.lst l) := by simp only [Rp]; exact ⟨p, vs, rfl, h, a⟩
theorem rp_tup {p : Addr} {vs : List V} {l : List D} (h : B p = some (.tup vs)) (a : RpA R B vs l) : Rp R B (.ref p) (.tup l) := by simp only [Rp]; exact ⟨p, vs, rfl, h, a⟩
theorem EnvOk.know (E : EnvOk R P env σ B H) (s : Step P B H B' H') (po : PotOk P H') {p : Addr} {vs : List V} {l : List D} (hp : H p = none) (hb : B' p = none) (h : H' p = some (.lst vs)) (a : RpA R B' vs l) : Step P B H (upd B' p (.lst vs)) H' ∧ EnvOk R P env σ (upd B' p (.lst vs)) H' ∧ Rp R (upd B' p (.lst vs)) (.ref p) (.lst l) := by
  have e : Ex B' (upd B' p (.lst vs)) := Ex.new hb
  have s2 : Step P B H (upd B' p (.lst vs)) H' := ⟨s.bb.trans e, fun b o k => by
    by_cases n : b = p
    · subst n; rw [upd_same] at k; cases k; exact h
    · rw [upd_ne n] at k; exact s.bh b o k, s.hh, fun b o k => by
    by_cases n : b = p
    · subst n; exact .inr (.inl hp)
    · rw [upd_ne n] at k; exact s.nw b o k⟩
  exact ⟨s2, E.step s2 po, rp_lst upd_same (a.mono e l)⟩
end
section
variable {R : OR} {te ta tb tc : TE} {ee ea eb ec : EE}
def eF (el : EL) : EE := fun env k => el env fun l => k (.lst l)
theorem we_of_wf {el : EL} (h : WF R te el) : WE R te (eF el) := fun P env σ B H Q k E he q =>
  h P env σ B H Q _ E he fun l p vs B' H' kl s E' hp hb hh a => by
    obtain ⟨s2, E2, r⟩ := E.know s E'.pot hp hb hh a
    exact q _ _ _ _ kl s2 E2 r
theorem wo_of (h : WE R te ee) : WO R te ee := fun P env σ B H Q k E he q => h P env σ B H Q k E he fun d v B' H' kd s E' r => q d v B' H' kd s E' (.inl r)
def eVar (i : Nat) : EE := fun env k => match env[i]? with
  | some (.val d) => k d
  | _ => False
theorem we_var {i : Nat} : WE R (tVar i) (eVar i) := fun P env σ B H Q k E he q => by
  unfold eVar at he
  split at he
  · next d h =>
    obtain ⟨v, a, b⟩ := E.sl i _ h
    exact ⟨v, a, q d v B H he (.refl E.bh) E b⟩
  · exact he.elim
def eVarO (i : Nat) : EE := fun env k => match env[i]? with
  | some (.val d) => k d
  | some (.ml l) => k (.lst l)
  | some (.mt ks l) => k (.dt ks l)
  | some (.mk ks l) => k (.dk ks l)
  | _ => False
def eC (d : D) : EE := fun _ k => k d
theorem we_c {v : V} {d : D} (h : ∀ B, Rp R B v d) : WE R (tC v) (eC d) := fun P env σ B H Q k E he q => q d v B H he (.refl E.bh) E (h B)
theorem we_int {i : Int} : WE R (tC (.int i)) (eC (.int i)) := we_c fun _ => rp_int
theorem we_bl {i : Bool} : WE R (tC (.bl i)) (eC (.bl i)) := we_c fun _ => rp_bl
theorem we_str {i : Str} : WE R (tC (.str i)) (eC (.str i)) := we_c fun _ => rp_str
theorem we_non : WE R (tC .non) (eC .non) := we_c fun _ => rp_non
def OpD (R : OR) (r : R2) (f : D → D → DK → Prop) : Prop := ∀ P B H x y a b (Q : VK) k, Ex B H → PotOk P H → RpW R P B H x a → RpW R P B H y b → f a b k → (∀ d v B' H', k d → Step P B H B' H' → PotOk P H' → Rp R B' v d → Q v H') → r x y H Q
def OpF (R : OR) (r : R2) (f : D → D → (List D → Prop) → Prop) : Prop := ∀ P B H x y a b (Q : VK) k, Ex B H → PotOk P H → RpW R P B H x a → RpW R P B H y b → f a b k → (∀ l p vs B' H', k l → Step P B H B' H' → PotOk P H' → H p = none → B' p = none → H' p = some (.lst vs) → RpA R B' vs l → Q (.ref p) H') → r x y H Q
def UnD (R : OR) (r : V → Hp → VK → Prop) (f : D → DK → Prop) : Prop := ∀ P B H x a (Q : VK) k, Ex B H → PotOk P H → RpW R P B H x a → f a k → (∀ d v B' H', k d → Step P B H B' H' → PotOk P H' → Rp R B' v d → Q v H') → r x H Q
def UnF (R : OR) (r : V → Hp → VK → Prop) (f : D → (List D → Prop) → Prop) : Prop := ∀ P B H x a (Q : VK) k, Ex B H → PotOk P H → RpW R P B H x a → f a k → (∀ l p vs B' H', k l → Step P B H B' H' → PotOk P H' → H p = none → B' p = none → H' p = some (.lst vs) → RpA R B' vs l → Q (.ref p) H') → r x H Q
def eOp (f : D → D → DK → Prop) (ea eb : EE) : EE := fun env k => ea env fun a => eb env fun b => f a b k
def eOpF (f : D → D → (List D → Prop) → Prop) (ea eb : EE) : EL := fun env k => ea env fun a => eb env fun b => f a b k
def eUn (f : D → DK → Prop) (ea : EE) : EE := fun env k => ea env fun a => f a k
def eUnF (f : D → (List D → Prop) → Prop) (ea : EE) : EL := fun env k => ea env fun a => f a k
theorem we_op {r : R2} {f : D → D → DK → Prop} (o : OpD R r f) (ha : WO R ta ea) (hb : WO R tb eb) : WE R (tOp r ta tb) (eOp f ea eb) := fun P env σ B H Q k E he q =>
  ha P env σ B H _ _ E he fun a x B1 H1 k1 s1 E1 r1 => hb P env σ B1 H1 _ _ E1 k1 fun b y B2 H2 k2 s2 E2 r2 =>
    o P B2 H2 x y a b Q k E2.bh E2.pot (r1.step s2) r2 k2 fun d v B3 H3 kd s3 po r3 => by
      have s := (s1.trans E1.pot s2).trans E2.pot s3
      exact q d v B3 H3 kd s (E.step s po) r3
theorem wf_op {r : R2} {f : D → D → (List D → Prop) → Prop} (o : OpF R r f) (ha : WO R ta ea) (hb : WO R tb eb) : WF R (tOp r ta tb) (eOpF f ea eb) := fun P env σ B H Q k E he q =>
  ha P env σ B H _ _ E he fun a x B1 H1 k1 s1 E1 r1 => hb P env σ B1 H1 _ _ E1 k1 fun b y B2 H2 k2 s2 E2 r2 =>
    o P B2 H2 x y a b Q k E2.bh E2.pot (r1.step s2) r2 k2 fun l p vs B3 H3 kd s3 po hp hb hh r3 => by
      have s12 := s1.trans E1.pot s2
      have s := s12.trans E2.pot s3
      exact q l p vs B3 H3 kd s (E.step s po) (fresh_backP s12.hh (fresh_pot E2.pot hp) hp) hb hh r3
theorem we_un {r : V → Hp → VK → Prop} {f : D → DK → Prop} (o : UnD R r f) (ha : WO R ta ea) : WE R (tUn r ta) (eUn f ea) := fun P env σ B H Q k E he q =>
  ha P env σ B H _ _ E he fun a x B1 H1 k1 s1 E1 r1 => o P B1 H1 x a Q k E1.bh E1.pot r1 k1 fun d v B3 H3 kd s3 po r3 => by
      have s := s1.trans E1.pot s3
      exact q d v B3 H3 kd s (E.step s po) r3
theorem wf_un {r : V → Hp → VK → Prop} {f : D → (List D → Prop) → Prop} (o : UnF R r f) (ha : WO R ta ea) : WF R (tUn r ta) (eUnF f ea) := fun P env σ B H Q k E he q =>
  ha P env σ B H _ _ E he fun a x B1 H1 k1 s1 E1 r1 => o P B1 H1 x a Q k E1.bh E1.pot r1 k1 fun l p vs B3 H3 kd s3 po hp hb hh r3 => by
      have s := s1.trans E1.pot s3
      exact q l p vs B3 H3 kd s (E.step s po) (fresh_backP s1.hh (fresh_pot E1.pot hp) hp) hb hh r3
theorem we_cb1 {r : List V → Hp → VK → Prop} {f : D → DK → Prop} (o : UnD R (fun x => r [x]) f) (ha : WO R ta ea) : WE R (tCB r (tCons ta tNil)) (eUn f ea) := fun P env σ B H Q k E he q => we_un o ha P env σ B H Q k E he q
theorem wf_cb1 {r : List V → Hp → VK → Prop} {f : D → (List D → Prop) → Prop} (o : UnF R (fun x => r [x]) f) (ha : WO R ta ea) : WF R (tCB r (tCons ta tNil)) (eUnF f ea) := fun P env σ B H Q k E he q => wf_un o ha P env σ B H Q k E he q
def eB (ea : EE) : EB := fun env k => ea env fun d => match d with
  | .bl b => k b
  | _ => False
theorem wt_B (ha : WE R ta ea) : WT R (tB ta) (eB ea) := fun P env σ B H Q k E he q =>
  ha P env σ B H _ _ E he fun d v B' H' kd s E' r => by
    cases d with
    | bl b =>
      simp only [Rp] at r
      subst r
      exact ⟨b, rfl, q b B' H' kd s E'⟩
    | _ => exact kd.elim
theorem wt_test (ha : WE R ta ea) : WT R (tTest ta) (eB ea) := fun P env σ B H Q k E he q => wt_B ha P env σ B H Q k E he q
def eNotT (e : EB) : EB := fun env k => e env fun b => k (!b)
def eAndT (e f : EB) : EB := fun env k => e env fun b => if b = true then f env k else k false
def eOrT (e f : EB) : EB := fun env k => e env fun b => if b = true then k true else f env k
theorem wt_not {t : TT} {e : EB} (h : WT R t e) : WT R (tNot t) (eNotT e) := fun P env σ B H Q k E he q => h P env σ B H _ _ E he fun b B' H' kb s E' => q _ B' H' kb s E'
theorem wt_and {t u : TT} {e f : EB} (h : WT R t e) (g : WT R u f) : WT R (tAnd t u) (eAndT e f) := fun P env σ B H Q k E he q => h P env σ B H _ _ E he fun b B' H' kb s E' => by
  cases b with
  | true =>
    show u σ H' Q
    exact g P env σ B' H' _ _ E' kb fun c B2 H2 kc s2 E2 => q c B2 H2 kc (s.trans E'.pot s2) E2
  | false =>
    show Q false H'
    exact q false B' H' kb s E'
theorem wt_or {t u : TT} {e f : EB} (h : WT R t e) (g : WT R u f) : WT R (tOr t u) (eOrT e f) := fun P env σ B H Q k E he q => h P env σ B H _ _ E he fun b B' H' kb s E' => by
  cases b with
  | true =>
    show Q true H'
    exact q true B' H' kb s E'
  | false =>
    show u σ H' Q
    exact g P env σ B' H' _ _ E' kb fun c B2 H2 kc s2 E2 => q c B2 H2 kc (s.trans E'.pot s2) E2
def eAnd (e : EE) (f : EE) : EE := fun env k => eB e env fun b => if b = true then f env k else k (.bl false)
def eOr (e : EE) (f : EE) : EE := fun env k => eB e env fun b => if b = true then k (.bl true) else f env k
def eNot (e : EE) : EE := fun env k => eB e env fun b => k (.bl (!b))
theorem we_and (h : WE R ta ea) (g : WE R tb eb) : WE R (tAndV ta tb) (eAnd ea eb) := fun P env σ B H Q k E he q => wt_B h P env σ B H _ _ E he fun b B' H' kb s E' => by
  cases b with
  | true =>
    show tb σ H' Q
    exact g P env σ B' H' _ _ E' kb fun d v B2 H2 kc s2 E2 r => q d v B2 H2 kc (s.trans E'.pot s2) E2 r
  | false =>
    show Q (.bl false) H'
    exact q _ _ B' H' kb s E' rp_bl
theorem we_or (h : WE R ta ea) (g : WE R tb eb) : WE R (tOrV ta tb) (eOr ea eb) := fun P env σ B H Q k E he q => wt_B h P env σ B H _ _ E he fun b B' H' kb s E' => by
  cases b with
  | true =>
    show Q (.bl true) H'
    exact q _ _ B' H' kb s E' rp_bl
  | false =>
    show tb σ H' Q
    exact g P env σ B' H' _ _ E' kb fun d v B2 H2 kc s2 E2 r => q d v B2 H2 kc (s.trans E'.pot s2) E2 r
theorem we_not (h : WE R ta ea) : WE R (tNotV ta) (eNot ea) := fun P env σ B H Q k E he q => wt_B h P env σ B H _ _ E he fun b B' H' kb s E' => q _ _ B' H' kb s E' rp_bl
def eIf (e : EB) (f g : EE) : EE := fun env k => e env fun b => if b = true then f env k else g env k
theorem we_if {t : TT} {e : EB} (h : WT R t e) (f : WE R ta ea) (g : WE R tb eb) : WE R (tIf t ta tb) (eIf e ea eb) := fun P env σ B H Q k E he q => h P env σ B H _ _ E he fun b B' H' kb s E' => by
  cases b with
  | true =>
    show ta σ H' Q
    exact f P env σ B' H' _ _ E' kb fun d v B2 H2 kc s2 E2 r => q d v B2 H2 kc (s.trans E'.pot s2) E2 r
  | false =>
    show tb σ H' Q
    exact g P env σ B' H' _ _ E' kb fun d v B2 H2 kc s2 E2 r => q d v B2 H2 kc (s.trans E'.pot s2) E2 r
def eaNil : EL := fun _ k => k []
def eaCons (e : EE) (ea : EL) : EL := fun env k => e env fun d => ea env fun ds => k (d :: ds)
theorem wa_nil : WA R tNil eaNil := fun P env σ B H Q k E he q => q [] [] B H he (.refl E.bh) E .nil
theorem wa_cons {tr : TA} {er : EL} (h : WE R ta ea) (g : WA R tr er) : WA R (tCons ta tr) (eaCons ea er) := fun P env σ B H Q k E he q =>
  h P env σ B H _ _ E he fun d v B1 H1 k1 s1 E1 r1 => g P env σ B1 H1 _ _ E1 k1 fun ds vs B2 H2 k2 s2 E2 r2 => q _ _ B2 H2 k2 (s1.trans E1.pot s2) E2 (.cons (r1.mono s2.bb d) r2)
def eTup (ea : EL) : EE := fun env k => ea env fun ds => ds.length ≤ 100000 ∧ k (.tup ds)
def eLst (ea : EL) : EL := fun env k => ea env fun ds => ds.length ≤ 100000 ∧ k ds
theorem we_tup {ts : TA} {es : EL} (h : WA R ts es) : WE R (tTup ts) (eTup es) := fun P env σ B H Q k E he q =>
  h P env σ B H _ _ E he fun ds vs B1 H1 k1 s1 E1 r1 => ⟨by rw [r1.len]; exact Evl.sz_of k1.1, fun p hp => by
    obtain ⟨s2, E2⟩ := E1.alloc (o := .tup vs) hp
    exact q _ _ _ _ k1.2 (s1.trans E1.pot s2) E2 (rp_tup upd_same (r1.mono s2.bb ds))⟩
theorem wf_lst {ts : TA} {es : EL} (h : WA R ts es) : WF R (tLst ts) (eLst es) := fun P env σ B H Q k E he q =>
  h P env σ B H _ _ E he fun ds vs B1 H1 k1 s1 E1 r1 => ⟨by rw [r1.len]; exact Evl.sz_of k1.1, fun p hp => by
    obtain ⟨s2, E2⟩ := E1.allocU (o := .lst vs) hp
    exact q ds p vs B1 _ k1.2 (s1.trans E1.pot s2) E2 (fresh_backP s1.hh (fresh_pot E1.pot hp) hp) (Evl.fresh_back E1.bh hp) upd_same r1⟩
def SlD (R : OR) (r : V → Option Int → Option Int → Hp → VK → Prop) (f : D → Option Int → Option Int → DK → Prop) : Prop := ∀ P B H x a lo hi (Q : VK) k, Ex B H → PotOk P H → RpW R P B H x a → f a lo hi k → (∀ d v B' H', k d → Step P B H B' H' → PotOk P H' → Rp R B' v d → Q v H') → r x lo hi H Q
def SlF (R : OR) (r : V → Option Int → Option Int → Hp → VK → Prop) (f : D → Option Int → Option Int → (List D → Prop) → Prop) : Prop := ∀ P B H x a lo hi (Q : VK) k, Ex B H → PotOk P H → RpW R P B H x a → f a lo hi k → (∀ l p vs B' H', k l → Step P B H B' H' → PotOk P H' → H p = none → B' p = none → H' p = some (.lst vs) → RpA R B' vs l → Q (.ref p) H') → r x lo hi H Q
def eNoP : EO := fun _ k => k none
def eP (e : EE) : EO := fun env k => e env fun d => match d with
  | .int i => k (some i)
  | _ => False
theorem wp_none : WP R tNoPart eNoP := fun P env σ B H Q k E he q => q _ B H he (.refl E.bh) E
theorem wp_some (h : WE R ta ea) : WP R (tPart ta) (eP ea) := fun P env σ B H Q k E he q => h P env σ B H _ _ E he fun d v B' H' kd s E' r => by
  cases d with
  | int i =>
    simp only [Rp] at r
    subst r
    exact ⟨i, rfl, q _ B' H' kd s E'⟩
  | _ => exact kd.elim
def eSl (f : D → Option Int → Option Int → DK → Prop) (e : EE) (l h : EO) : EE := fun env k => e env fun a => l env fun x => h env fun y => f a x y k
theorem we_sl {r : V → Option Int → Option Int → Hp → VK → Prop} {f : D → Option Int → Option Int → DK → Prop} {tl th : TO} {el eh : EO} (o : SlD R r f) (h : WO R ta ea) (h1 : WP R tl el) (h2 : WP R th eh) : WE R (tSl r ta tl th) (eSl f ea el eh) := fun P env σ B H Q k E he q =>
  h P env σ B H _ _ E he fun a x B1 H1 k1 s1 E1 r1 => h1 P env σ B1 H1 _ _ E1 k1 fun lo B2 H2 k2 s2 E2 => h2 P env σ B2 H2 _ _ E2 k2 fun hi B3 H3 k3 s3 E3 =>
    o P B3 H3 x a lo hi Q k E3.bh E3.pot ((r1.step s2).step s3) k3 fun d v B4 H4 k4 s4 po r4 => by
      have s := ((s1.trans E1.pot s2).trans E2.pot s3).trans E3.pot s4
      exact q d v B4 H4 k4 s (E.step s po) r4
def eChain (f g : D → D → DK → Prop) (ea eb ec : EE) : EE := fun env k => ea env fun a => eb env fun b => f a b fun z => match z with
  | .bl c => if c = true then ec env fun d => g b d k else k (.bl false)
  | _ => False
theorem we_chain {r r' : R2} {f g : D → D → DK → Prop} (o : OpD R r f) (o' : OpD R r' g) (ha : WO R ta ea) (hb : WO R tb eb) (hc : WO R tc ec) : WE R (tChain r r' ta tb tc) (eChain f g ea eb ec) := fun P env σ B H Q k E he q =>
  ha P env σ B H _ _ E he fun a x B1 H1 k1 s1 E1 r1 => hb P env σ B1 H1 _ _ E1 k1 fun b y B2 H2 k2 s2 E2 r2 =>
    o P B2 H2 x y a b _ _ E2.bh E2.pot (r1.step s2) r2 k2 fun z v B3 H3 k3 s3 po r3 => by
      have s := (s1.trans E1.pot s2).trans E2.pot s3
      have E3 := E.step s po
      cases z with
      | bl c =>
        simp only [Rp] at r3
        refine ⟨c, r3, ?_⟩
        cases c with
        | true =>
          show tc σ H3 _
          exact hc P env σ B3 H3 _ _ E3 k3 fun d w B4 H4 k4 s4 E4 r4 => o' P B4 H4 y w b d Q k E4.bh E4.pot ((r2.step s3).step s4) r4 k4 fun u v B5 H5 k5 s5 po5 r5 => by
            have ss := (s.trans po s4).trans E4.pot s5
            exact q u v B5 H5 k5 ss (E.step ss po5) r5
        | false =>
          show Q (.bl false) H3
          exact q _ _ B3 H3 k3 s E3 rp_bl
      | _ => exact k3.elim
end
end DL
set_option Elab.async false
set_option linter.all false
set_option maxRecDepth 100000
set_option maxHeartbeats 4000000
namespace DL
open PySem PySem.Spec PyProof.Rows L2
open Evl (Ex)
abbrev EG := D → Env → (Env → Prop) → Prop
abbrev EGs := List D → Env → (Env → Prop) → Prop
def wipeE (env : Env) : List Nat → Env
  | [] => env
  | v :: vs => (wipeE env vs).set v .un
section
variable {R : OR} {P : Option Addr} {env : Env} {σ : L2.St} {B H B' H' B2 H2 : Hp}
theorem EnvOk.set (E : EnvOk R P env σ B H) (i : Nat) {v : V} {d : D} (r : Rp R B v d) : EnvOk R P (env.set i (.val d)) (σ.set i (some v)) B H where
  len := by rw [List.length_set, List.length_set]; exact E.len
  bh := E.bh
  pot := E.pot
  pb := E.pb
  sl := fun j sv h => by
    by_cases e : i = j
    · subst e
      have hi : i < env.length := by
        have := (List.getElem?_eq_some_iff.mp h).1
        simpa using this
      rw [List.getElem?_set_self hi] at h
      cases h
      exact ⟨v, by rw [List.getElem?_set_self (by rw [E.len]; exact hi)], r⟩
    · rw [List.getElem?_set_ne e] at h
      have z := E.sl j sv h
      have q : (σ.set i (some v))[j]? = σ[j]? := List.getElem?_set_ne e
      cases sv <;> simp only [SlotOk, q] at z ⊢ <;> exact z
  nd := fun a b x y p ha hb mx my sa sb => by
    have ne : ∀ j x, (env.set i (.val d))[j]? = some x → isM x = true → i ≠ j := fun j x h m e => by
      subst e
      have hi : i < env.length := by
        have := (List.getElem?_eq_some_iff.mp h).1
        simpa using this
      rw [List.getElem?_set_self hi] at h
      cases h
      cases m
    have na := ne a x ha mx
    have nb := ne b y hb my
    rw [List.getElem?_set_ne na] at ha sa
    rw [List.getElem?_set_ne nb] at hb sb
    exact E.nd a b x y p ha hb mx my sa sb
theorem EnvOk.forget (E : EnvOk R P env σ B H) (i : Nat) : EnvOk R P (env.set i .un) σ B H where
  len := by rw [List.length_set]; exact E.len
  bh := E.bh
  pot := E.pot
  pb := E.pb
  sl := fun j sv h => by
    by_cases e : i = j
    · subst e
      have hi : i < env.length := by
        have := (List.getElem?_eq_some_iff.mp h).1
        simpa using this
      rw [List.getElem?_set_self hi] at h
      cases h
      trivial
    · rw [List.getElem?_set_ne e] at h
      exact E.sl j sv h
  nd := fun a b x y p ha hb mx my sa sb => by
    have ne : ∀ j x, (env.set i .un)[j]? = some x → isM x = true → i ≠ j := fun j x h m e => by
      subst e
      have hi : i < env.length := by
        have := (List.getElem?_eq_some_iff.mp h).1
        simpa using this
      rw [List.getElem?_set_self hi] at h
      cases h
      cases m
    have na := ne a x ha mx
    have nb := ne b y hb my
    rw [List.getElem?_set_ne na] at ha
    rw [List.getElem?_set_ne nb] at hb
    exact E.nd a b x y p ha hb mx my sa sb
theorem EnvOk.setU (E : EnvOk R P env σ B H) (i : Nat) (o : Option V) : EnvOk R P (env.set i .un) (σ.set i o) B H where
  len := by rw [List.length_set, List.length_set]; exact E.len
  bh := E.bh
  pot := E.pot
  pb := E.pb
  sl := fun j sv h => by
    by_cases e : i = j
    · subst e
      have hi : i < env.length := by
        have := (List.getElem?_eq_some_iff.mp h).1
        simpa using this
      rw [List.getElem?_set_self hi] at h
      cases h
      trivial
    · rw [List.getElem?_set_ne e] at h
      have z := E.sl j sv h
      have q : (σ.set i o)[j]? = σ[j]? := List.getElem?_set_ne e
      cases sv <;> simp only [SlotOk, q] at z ⊢ <;> exact z
  nd := fun a b x y p ha hb mx my sa sb => by
    have ne : ∀ j x, (env.set i .un)[j]? = some x → isM x = true → i ≠ j := fun j x h m e => by
      subst e
      have hi : i < env.length := by
        have := (List.getElem?_eq_some_iff.mp h).1
        simpa using this
      rw [List.getElem?_set_self hi] at h
      cases h
      cases m
    have na := ne a x ha mx
    have nb := ne b y hb my
    rw [List.getElem?_set_ne na] at ha sa
    rw [List.getElem?_set_ne nb] at hb sb
    exact E.nd a b x y p ha hb mx my sa sb
theorem EnvOk.wipe (E : EnvOk R P env σ B H) : ∀ vs : List Nat, EnvOk R P (wipeE env vs) (wipe σ vs) B H
  | [] => E
  | v :: vs => (E.wipe vs).setU v none
end
theorem wipe_set {σ : L2.St} {i : Nat} {o : Option V} : ∀ {vs : List Nat}, i ∈ vs → L2.wipe (σ.set i o) vs = L2.wipe σ vs
  | v :: vs, h => by
    by_cases e : i = v
    · subst e
      by_cases m : i ∈ vs
      · show (L2.wipe (σ.set i o) vs).set i none = (L2.wipe σ vs).set i none
        rw [wipe_set m]
      · have : ∀ us : List Nat, i ∉ us → L2.wipe (σ.set i o) us = (L2.wipe σ us).set i o := by
          intro us
          induction us with
          | nil => intro _; rfl
          | cons u us ih =>
            intro hm
            show (L2.wipe (σ.set i o) us).set u none = ((L2.wipe σ us).set u none).set i o
            rw [ih (fun z => hm (List.mem_cons_of_mem _ z))]
            exact List.set_comm _ _ (fun z => hm (z ▸ List.mem_cons_self))
        show (L2.wipe (σ.set i o) vs).set i none = (L2.wipe σ vs).set i none
        rw [this vs m, List.set_set]
    · have m : i ∈ vs := (List.mem_cons.mp h).resolve_left e
      show (L2.wipe (σ.set i o) vs).set v none = (L2.wipe σ vs).set v none
      rw [wipe_set m]
def WG (R : OR) (ts : List Nat) (g : TG) (eg : EG) : Prop := ∀ P env σ B H v d (Q : L2.St → Hp → Prop) k, EnvOk R P env σ B H → Rp R B v d → eg d env k → (∀ env' σ', k env' → EnvOk R P env' σ' B H → (∀ vs, (∀ i ∈ ts, i ∈ vs) → L2.wipe σ' vs = L2.wipe σ vs) → (∀ j, j ∉ ts → env'[j]? = env[j]? ∧ σ'[j]? = σ[j]?) → (∀ j ∈ ts, ∀ x, env'[j]? = some x → isM x = false) → Q σ' H) → g v σ H Q
def WGs (R : OR) (ts : List Nat) (g : TGs) (eg : EGs) : Prop := ∀ P env σ B H vs ds (Q : L2.St → Hp → Prop) k, EnvOk R P env σ B H → RpA R B vs ds → eg ds env k → (∀ env' σ', k env' → EnvOk R P env' σ' B H → (∀ us, (∀ i ∈ ts, i ∈ us) → L2.wipe σ' us = L2.wipe σ us) → (∀ j, j ∉ ts → env'[j]? = env[j]? ∧ σ'[j]? = σ[j]?) → (∀ j ∈ ts, ∀ x, env'[j]? = some x → isM x = false) → Q σ' H) → g vs σ H Q
def egName (i : Nat) : EG := fun d env k => k (env.set i (.val d))
def egNil : EGs := fun ds env k => ds = [] ∧ k env
def egCons (g : EG) (gs : EGs) : EGs := fun ds env k => match ds with
  | d :: ds => g d env fun env1 => gs ds env1 k
  | [] => False
def egTup (n : Nat) (gs : EGs) : EG := fun d env k => match d with
  | .tup ds => ds.length = n ∧ gs ds env k
  | _ => False
section
variable {R : OR} {K : PySem.W.Frag}
theorem wg_name {i : Nat} : WG R [i] (gName i) (egName i) := fun P env σ B H v d Q k E r he q =>
  q _ _ he (E.set i r) (fun vs h => wipe_set (h i (by simp))) (fun j hj => ⟨List.getElem?_set_ne (by simpa using Ne.symm (by simpa using hj)), List.getElem?_set_ne (by simpa using Ne.symm (by simpa using hj))⟩) (fun j hj x hx => by
    have e : j = i := by simpa using hj
    subst e
    have hi : j < env.length := by
      have := (List.getElem?_eq_some_iff.mp hx).1
      simpa using this
    rw [List.getElem?_set_self hi] at hx
    cases hx
    rfl)
theorem wgs_nil : WGs R [] gNil egNil := fun P env σ B H vs ds Q k E r he q => by
  obtain ⟨rfl, he⟩ := he
  cases vs with
  | nil => exact ⟨rfl, q env σ he E (fun _ _ => rfl) (fun _ _ => ⟨rfl, rfl⟩) (fun j hj => by simp at hj)⟩
  | cons v vs => simp only [RpA] at r
theorem wgs_cons {ts us : List Nat} {g : TG} {eg : EG} {gs : TGs} {egs : EGs} (h : WG R ts g eg) (h2 : WGs R us gs egs) : WGs R (ts ++ us) (gCons g gs) (egCons eg egs) := fun P env σ B H vs ds Q k E r he q => by
  cases ds with
  | nil => exact he.elim
  | cons d ds =>
    cases vs with
    | nil => simp only [RpA] at r
    | cons v vs =>
      simp only [RpA] at r
      refine ⟨v, vs, rfl, h P env σ B H v d _ _ E r.1 he fun env1 σ1 k1 E1 w1 s1 m1 => h2 P env1 σ1 B H vs ds _ _ E1 r.2 k1 fun env2 σ2 k2 E2 w2 s2 m2 => ?_⟩
      refine q _ _ k2 E2 (fun vs hv => (w2 vs fun i hi => hv i (List.mem_append_right _ hi)).trans (w1 vs fun i hi => hv i (List.mem_append_left _ hi))) (fun j hj => ?_) (fun j hj x hx => ?_)
      · have n1 : j ∉ ts := fun z => hj (List.mem_append_left _ z)
        have n2 : j ∉ us := fun z => hj (List.mem_append_right _ z)
        exact ⟨(s2 j n2).1.trans (s1 j n1).1, (s2 j n2).2.trans (s1 j n1).2⟩
      · by_cases n : j ∈ us
        · exact m2 j n x hx
        · rw [(s2 j n).1] at hx
          exact m1 j ((List.mem_append.mp hj).resolve_right n) x hx
theorem wg_tup {n : Nat} {ts : List Nat} {gs : TGs} {egs : EGs} (h : WGs R ts gs egs) : WG R ts (gTup K n gs) (egTup n egs) := fun P env σ B H v d Q k E r he q => by
  cases d with
  | tup ds =>
    simp only [Rp] at r
    obtain ⟨p, vs, rfl, hp, a⟩ := r
    exact ⟨p, vs, rfl, Evl.st_of (E.bh _ _ hp), by rw [a.len]; exact he.1, h P env σ B H vs ds Q k E a he.2 q⟩
  | _ => exact he.elim
end
def YD (R : OR) (B : Hp) (xs : List D) : Nat → Hp → V → Hp → Prop := fun i H v H' => ∃ d, xs[i]? = some d ∧ ((H' = H ∧ Rp R B v d) ∨ ∃ T vs ds, v = .ref T ∧ H T = none ∧ H' = upd H T (.tup vs) ∧ d = .tup ds ∧ RpA R B vs ds)
def WI (R : OR) (wi : TI) (ei : EL) : Prop := ∀ P env σ B H (Rk : It → Hp → Prop) k, EnvOk R P env σ B H → ei env k → (∀ xs J n (G : Hp → Prop) B' H', k xs → Step P B H B' H' → EnvOk R P env σ B' H' → xs.length = n → (∀ Hx, Ex B' Hx → G Hx) → Walk J n G (YD R B' xs) → Rk J H') → wi σ H Rk
def eSeq (e : EE) : EL := fun env k => e env fun d => match d with
  | .lst l => k l
  | .tup l => k l
  | _ => False
section
variable {R : OR} {K : PySem.W.Frag} {te ta tb : TE} {ee ea eb : EE}
end
end DL
set_option Elab.async false
set_option linter.all false
set_option maxRecDepth 100000
set_option maxHeartbeats 4000000
namespace DL
open PySem PySem.Spec PyProof.Rows L2
open Evl (Ex)
def iSeq (K : PySem.W.Frag) (tl : TE) : TI := fun σ H R => tl σ H fun x H1 => ∃ a, x = .ref a ∧ ((∃ xs, SqL K H1 a xs ∧ R (Itl K a) H1) ∨ ∃ xs, SqT K H1 a xs ∧ R (Itt K a) H1)
theorem pi_seqU {X : Cx} {tg l : Expr} {tl : TE} (hl : PE X l tl) : PI X tg l (iSeq X.K tl) := by
  refine ⟨fun pins s σ H R I h => ?_⟩
  refine thn (hl.run pins s σ H _ I h) fun v s1 ⟨x, H1, I1, r1, q1⟩ => ?_
  obtain ⟨a, e, ⟨xs, hq, q⟩ | ⟨xs, hq, q⟩⟩ := q1
  · subst e
    cases r1
    obtain ⟨its, rv, p, hz⟩ := I1.list hq
    refine wpAny_pyIter_list p.isList ?_
    refine ⟨s1.heap.objs.size, [s1.heap.objs.size], _, _, H1, rfl, I1.kept (t' := s1.toks) fun b o e => Heap.get?_push_of_some _ e, turn_list a _, ⟨_, Heap.get?_push_size _ rfl, rfl, rfl⟩, fun b hb => ?_, q⟩
    have e : b = s1.heap.objs.size := by simpa using hb
    subst e
    exact I1.fpOk (Nat.le_refl _) (I1.hok.fresh (Nat.le_refl _))
  · subst e
    cases r1
    obtain ⟨its, rv, p, hz⟩ := I1.tuple hq
    refine wpAny_pyIter_tuple (show s1.heap.IsTuple a its.toArray from p) ?_
    refine ⟨s1.heap.objs.size, [s1.heap.objs.size], _, _, H1, rfl, I1.kept (t' := s1.toks) fun b o e => Heap.get?_push_of_some _ e, turn_tuple a _, ⟨_, Heap.get?_push_size _ rfl, rfl, rfl⟩, fun b hb => ?_, q⟩
    have e : b = s1.heap.objs.size := by simpa using hb
    subst e
    exact I1.fpOk (Nat.le_refl _) (I1.hok.fresh (Nat.le_refl _))
section
variable {R : OR} {K : PySem.W.Frag} {te ta tb : TE} {ee ea eb : EE}
theorem wi_seq (h : WE R te ee) : WI R (iSeq K te) (eSeq ee) := fun P env σ B H Rk k E he q =>
  h P env σ B H _ _ E he fun d v B' H' kd s E' r => by
    cases d with
    | lst l =>
      simp only [Rp] at r
      obtain ⟨p, vs, rfl, hp, a⟩ := r
      refine ⟨p, rfl, .inl ⟨vs, Evl.sq_of (E'.bh _ _ hp), q l _ _ (fun H => SqL K H p vs) B' H' kd s E' rfl (fun Hx e => Evl.sq_of (e _ _ hp)) ?_⟩⟩
      rw [← a.len]
      exact walk_list.mono (fun _ h => h) fun i H x H' _ _ y => by
        obtain ⟨d, hd, rd⟩ := a.getV y.2
        exact ⟨d, hd, .inl ⟨y.1, rd⟩⟩
    | tup l =>
      simp only [Rp] at r
      obtain ⟨p, vs, rfl, hp, a⟩ := r
      refine ⟨p, rfl, .inr ⟨vs, Evl.st_of (E'.bh _ _ hp), q l _ _ (fun H => SqT K H p vs) B' H' kd s E' rfl (fun Hx e => Evl.st_of (e _ _ hp)) ?_⟩⟩
      rw [← a.len]
      exact walk_tup.mono (fun _ h => h) fun i H x H' _ _ y => by
        obtain ⟨d, hd, rd⟩ := a.getV y.2
        exact ⟨d, hd, .inl ⟨y.1, rd⟩⟩
    | _ => exact kd.elim
def rgD (n : Int) : List D := (List.range n.toNat).map fun (i : Nat) => D.int (i : Int)
def eRng1 (ee : EE) : EL := fun env k => ee env fun d => match d with
  | .int n => n ≤ 100000 ∧ -100000 ≤ n ∧ k (rgD n)
  | _ => False
theorem wi_rng1 (h : WE R te ee) : WI R (iRng1 (tCons te tNil)) (eRng1 ee) := fun P env σ B H Rk k E he q =>
  h P env σ B H _ _ E he fun d v B' H' kd s E' r => by
    cases d with
    | int n =>
      simp only [Rp] at r
      subst r
      refine ⟨n, rfl, by omega, by omega, q (rgD n) _ n.toNat (fun _ => True) B' H' kd.2.2 s E' (by unfold rgD; simp) (fun _ _ => trivial) ?_⟩
      exact walk_range.mono (fun _ h => h) fun i H x H' hi _ y => ⟨.int (i : Int), by unfold rgD; rw [List.getElem?_map, List.getElem?_range hi]; rfl, .inl ⟨y.1, by rw [y.2]; show Rp R B' (V.int (0 + (i : Int))) _; rw [show (0 : Int) + (i : Int) = (i : Int) by omega]; exact rp_int⟩⟩
    | _ => exact kd.elim
def enumD (l : List D) : List D := l.zipIdx.map fun p => .tup [.int (p.2 : Int), p.1]
def eEnum (ee : EE) : EL := fun env k => ee env fun d => match d with
  | .lst l => k (enumD l)
  | .tup l => k (enumD l)
  | _ => False
end
def lcGo (f : D → (Option D → Prop) → Prop) : List D → (List D → Prop) → Prop
  | [], k => k []
  | x :: xs, k => f x fun o => lcGo f xs fun ys => k (o.toList ++ ys)
def eLcF (eg : EG) (et : EB) (ee : EE) (env : Env) : D → (Option D → Prop) → Prop := fun x kk => eg x env fun env1 => et env1 fun b => if b = true then ee env1 fun y => kk (some y) else kk none
def eLc (ei : EL) (eg : EG) (et : EB) (ee : EE) (vs : List Nat) : EL := fun env k => ei env fun xs => xs.length ≤ 100000 ∧ lcGo (eLcF eg et ee (wipeE env vs)) xs k
def eYes : EB := fun _ k => k true
theorem wt_yes {R : OR} : WT R tYes eYes := fun P env σ B H Q k E he q => q true B H he (.refl E.bh) E
section
variable {R : OR} {K : PySem.W.Frag} {te ta tb : TE} {ee ea eb : EE}
theorem yd_at {P : Option Addr} {env : Env} {σ : L2.St} {B Ha Hb : Hp} {xs : List D} {i : Nat} {x : V} (E : EnvOk R P env σ B Ha) (y : YD R B xs i Ha x Hb) : ∃ d B', xs[i]? = some d ∧ Step P B Ha B' Hb ∧ EnvOk R P env σ B' Hb ∧ Rp R B' x d := by
  obtain ⟨d, hd, ⟨rfl, r⟩ | ⟨T, vs, ds, rfl, fT, rfl, rfl, r⟩⟩ := y
  · exact ⟨d, B, hd, .refl E.bh, E, r⟩
  · obtain ⟨s, E'⟩ := E.alloc (o := .tup vs) fT
    exact ⟨_, _, hd, s, E', rp_tup upd_same (r.mono s.bb ds)⟩
theorem drop_cons {α : Type} {xs : List α} {i : Nat} {x : α} (h : xs[i]? = some x) : xs.drop i = x :: xs.drop (i + 1) := by
  obtain ⟨hi, e⟩ := List.getElem?_eq_some_iff.mp h
  rw [← e]
  exact List.drop_eq_getElem_cons hi
theorem YD.mono {B B' : Hp} (e : Ex B B') {xs : List D} {i : Nat} {H H' : Hp} {x : V} (y : YD R B xs i H x H') : YD R B' xs i H x H' := by
  obtain ⟨d, hd, ⟨h, r⟩ | ⟨T, vs, ds, h1, fT, h2, h3, r⟩⟩ := y
  · exact ⟨d, hd, .inl ⟨h, r.mono e d⟩⟩
  · exact ⟨d, hd, .inr ⟨T, vs, ds, h1, fT, h2, h3, r.mono e ds⟩⟩
theorem wipe_none {σ : L2.St} {i : Nat} : ∀ {vs : List Nat}, i ∈ vs → ∀ x, (L2.wipe σ vs)[i]? = some x → x = none := fun {vs} m x h => by
  cases x with
  | none => rfl
  | some v => exact absurd m (L2.wipe_some h).2
theorem set_none {σ : L2.St} {i : Nat} (h : ∀ x, σ[i]? = some x → x = none) : σ.set i none = σ := by
  apply List.ext_getElem?
  intro j
  by_cases e : i = j
  · subst e
    by_cases l : i < σ.length
    · rw [List.getElem?_set_self l, List.getElem?_eq_getElem l]
      rw [h _ (List.getElem?_eq_getElem l)]
    · rw [List.getElem?_eq_none (by simpa using l), List.getElem?_eq_none (by simpa using l)]
  · rw [List.getElem?_set_ne e]
theorem wipe_wipe (σ : L2.St) (vs : List Nat) : L2.wipe (L2.wipe σ vs) vs = L2.wipe σ vs := by
  have : ∀ us : List Nat, (∀ u ∈ us, u ∈ vs) → L2.wipe (L2.wipe σ vs) us = L2.wipe σ vs := by
    intro us
    induction us with
    | nil => intro _; rfl
    | cons u us ih =>
      intro h
      show (L2.wipe (L2.wipe σ vs) us).set u none = _
      rw [ih fun x hx => h x (List.mem_cons_of_mem _ hx)]
      exact set_none (wipe_none (h u List.mem_cons_self))
  exact this vs fun _ h => h
theorem wf_lc {wi : TI} {ei : EL} {g : TG} {eg : EG} {ts vs : List Nat} {tt : TT} {et : EB} (hi : WI R wi ei) (hg : WG R ts g eg) (hv : ∀ i ∈ ts, i ∈ vs) (ht : WT R tt et) (hee : WE R te ee) : WF R (tLc wi g tt te vs) (eLc ei eg et ee vs) := fun P env σ B H Q k E he q => by
  refine hi P env σ B H _ _ E he fun xs J n G B1 H1 hx s1 E1 hn hG hW D hD => ?_
  have nP : P ≠ some D := fresh_pot E1.pot hD
  have bD : B1 D = none := Evl.fresh_back E1.bh hD
  have hD0 : H D = none := fresh_backP s1.hh nP hD
  refine lc_it hW (fun i H' => ∃ B' done ws, H' D = some (.lst ws) ∧ B' D = none ∧ RpA R B' ws done ∧ Step P B1 H1 B' H' ∧ PotOk P H' ∧ done.length ≤ i ∧ lcGo (eLcF eg et ee (wipeE env vs)) (xs.drop i) (fun ys => k (done ++ ys))) ?_ ?_ ?_ ?_
  · obtain ⟨s0, E0⟩ := E1.allocU (o := .lst []) hD
    exact ⟨B1, [], [], upd_same, bD, .nil, s0, E0.pot, Nat.le_refl _, hx.2⟩
  · rintro i H' _ ⟨B', done, ws, hd, hbd, hr, s, po, hl, hk⟩
    exact hG _ (s.bb.trans s.bh)
  · rintro i x Ha Hb hin ⟨B', done, ws, hd, hbd, hr, s, po, hl, hk⟩ y
    have Ea := E1.step s po
    obtain ⟨d, B2, hxd, s2, E2, rx⟩ := yd_at Ea (y.mono s.bb)
    rw [drop_cons hxd] at hk
    have keep : ∀ {Bx By Hx Hy : Hp} {us : List V}, Step P Bx Hx By Hy → Bx D = none → Hx D = some (.lst us) → By D = none ∧ Hy D = some (.lst us) := fun {Bx By Hx Hy us} s b h => by
      refine ⟨?_, s.hh _ _ h nP⟩
      cases z : By D with
      | none => rfl
      | some o =>
        rcases s.nw D o z with w | w | w
        · rw [b] at w; cases w
        · rw [h] at w; cases w
        · have h1 := s.bh _ _ z
          rw [s.hh _ _ h nP] at h1
          cases h1
          exact w.elim
    obtain ⟨b2, d2⟩ := keep s2 hbd hd
    refine hg P _ _ B2 Hb x d _ _ (E2.wipe vs) rx hk fun env' σ' k' E3 w3 _ _ => ⟨?_, ?_⟩
    · rw [w3 vs hv]
      exact wipe_wipe σ vs
    · refine ht P env' σ' B2 Hb _ _ E3 k' fun b B3 H3 k3 s3 E4 => ?_
      obtain ⟨b3, d3⟩ := keep s3 b2 d2
      have s23 := s2.trans E2.pot s3
      cases b with
      | true =>
        refine iteT ?_
        refine hee P env' σ' B3 H3 _ _ E4 (by rw [if_pos rfl] at k3; exact k3) fun z v B4 H4 k4 s4 E5 r4 => ?_
        obtain ⟨b4, d4⟩ := keep s4 b3 d3
        have s24 := s23.trans E4.pot s4
        have e4 := s24.bb
        refine ⟨ws, d4, ?_, B4, done ++ [z], ws ++ [v], upd_same, b4, (hr.mono e4 done).app (.cons r4 .nil), ?_, ?_, ?_, ?_⟩
        · have := hr.len
          have := hx.1
          exact Evl.sz_lt (by omega)
        · have st := s.trans po s24
          exact ⟨st.bb, fun b o h => by
            rw [upd_ne (fun w => by rw [w, b4] at h; cases h)]
            exact st.bh b o h, fun b o h n => by
            rw [upd_ne (fun w => by rw [w, hD] at h; cases h)]
            exact st.hh b o h n, st.nw⟩
        · intro p hp
          have := E5.pot p hp
          obtain ⟨a, c, h, r⟩ := this
          exact ⟨a, c, by rw [upd_ne (fun w => nP (by rw [hp, w]))]; exact h, r⟩
        · simp; omega
        · have k5 : lcGo (eLcF eg et ee (wipeE env vs)) (xs.drop (i + 1)) fun ys => k (done ++ ((some z).toList ++ ys)) := k4
          simpa [List.append_assoc] using k5
      | false =>
        refine iteF ?_
        have k4 : lcGo (eLcF eg et ee (wipeE env vs)) (xs.drop (i + 1)) fun ys => k (done ++ ((none : Option DL.D).toList ++ ys)) := by rw [if_neg (by decide)] at k3; exact k3
        exact ⟨B3, done, ws, d3, b3, hr.mono s23.bb done, s.trans po s23, E4.pot, by omega, by simpa using k4⟩
  · rintro H' ⟨B', done, ws, hd, hbd, hr, s, po, hl, hk⟩
    rw [← hn, List.drop_length] at hk
    have hk : k (done ++ []) := hk
    rw [List.append_nil] at hk
    have st := s1.trans E1.pot s
    exact q done D ws B' H' hk st (E.step st po) hD0 hbd hd hr
end
end DL
set_option Elab.async false
set_option linter.all false
set_option maxRecDepth 100000
set_option maxHeartbeats 4000000
namespace DL
open PySem PySem.Spec PyProof.Rows L2
open Evl (Ex)
structure Kn where
  nx : Env → Prop
  rt : D → Prop
  rf : List D → Prop
  bk : Env → Prop := fun _ => False
  ct : Env → Prop := fun _ => False
  rk : List L2.Key → List D → Prop := fun _ _ => False
abbrev ES := Env → Kn → Prop
structure SOk (R : OR) (P : Option Addr) (B0 H0 : Hp) (env : Env) (σ : L2.St) (B H : Hp) : Prop where
  e : EnvOk R P env σ B H
  s : Step P B0 H0 B H
  fr : ∀ (i : Nat) (sv : SV) (p : Addr), env[i]? = some sv → isM sv = true → σ[i]? = some (some (V.ref p)) → H0 p = none
structure Kok (R : OR) (P : Option Addr) (B0 H0 : Hp) (k : Kn) (D : Ends) : Prop where
  nx : ∀ env σ B H, k.nx env → SOk R P B0 H0 env σ B H → D.nx σ H
  rt : ∀ d v B H, k.rt d → Step P B0 H0 B H → PotOk P H → Rp R B v d → D.rt v H
  rf : ∀ l p vs B H, k.rf l → Step P B0 H0 B H → PotOk P H → H0 p = none → B p = none → H p = some (.lst vs) → RpA R B vs l → D.rt (.ref p) H
  bk : ∀ env σ B H, k.bk env → SOk R P B0 H0 env σ B H → D.bk σ H
  ct : ∀ env σ B H, k.ct env → SOk R P B0 H0 env σ B H → D.ct σ H
  rk : ∀ ks l p vs B H, k.rk ks l → Step P B0 H0 B H → PotOk P H → H0 p = none → B p = none → H p = some (.dK (ks.zip vs)) → ks.length = l.length → RpA R B vs l → D.rt (.ref p) H
def WB (R : OR) (ts : TS) (es : ES) : Prop := ∀ P B0 H0 env σ B H D k, SOk R P B0 H0 env σ B H → es env k → Kok R P B0 H0 k D → ts D σ H
section
variable {R : OR} {P : Option Addr} {B0 H0 : Hp} {env : Env} {σ : L2.St} {B H B' H' : Hp}
theorem SOk.step (S : SOk R P B0 H0 env σ B H) (s : Step P B H B' H') (E : EnvOk R P env σ B' H') : SOk R P B0 H0 env σ B' H' := ⟨E, S.s.trans S.e.pot s, S.fr⟩
theorem SOk.set (S : SOk R P B0 H0 env σ B H) (i : Nat) {v : V} {d : D} (r : Rp R B v d) : SOk R P B0 H0 (env.set i (.val d)) (σ.set i (some v)) B H := ⟨S.e.set i r, S.s, fun j sv p h m q => by
  by_cases e : i = j
  · subst e
    have hi : i < env.length := by
      have := (List.getElem?_eq_some_iff.mp h).1
      simpa using this
    rw [List.getElem?_set_self hi] at h
    cases h
    cases m
  · rw [List.getElem?_set_ne e] at h q
    exact S.fr j sv p h m q⟩
theorem SOk.forget (S : SOk R P B0 H0 env σ B H) (i : Nat) : SOk R P B0 H0 (env.set i .un) σ B H := ⟨S.e.forget i, S.s, fun j sv p h m q => by
  by_cases e : i = j
  · subst e
    have hi : i < env.length := by
      have := (List.getElem?_eq_some_iff.mp h).1
      simpa using this
    rw [List.getElem?_set_self hi] at h
    cases h
    cases m
  · rw [List.getElem?_set_ne e] at h
    exact S.fr j sv p h m q⟩
def forg (env : Env) : List Nat → Env
  | [] => env
  | i :: is => forg (env.set i .un) is
theorem SOk.forg (S : SOk R P B0 H0 env σ B H) (is : List Nat) : SOk R P B0 H0 (forg env is) σ B H := by
  induction is generalizing env with
  | nil => exact S
  | cons i is ih => exact ih (S.forget i)
theorem EnvOk.setM (E : EnvOk R P env σ B H) (i : Nat) {p : Addr} {sv : SV} (hn : ∀ (j : Nat) (x : SV), env[j]? = some x → isM x = true → σ[j]? ≠ some (some (V.ref p))) (ok : ∀ σ' : L2.St, σ'[i]? = some (some (V.ref p)) → SlotOk R P σ' B H i sv) : EnvOk R P (env.set i sv) (σ.set i (some (.ref p))) B H where
  len := by rw [List.length_set, List.length_set]; exact E.len
  bh := E.bh
  pot := E.pot
  pb := E.pb
  sl := fun j sw h => by
    by_cases e : i = j
    · subst e
      have hi : i < env.length := by
        have := (List.getElem?_eq_some_iff.mp h).1
        simpa using this
      rw [List.getElem?_set_self hi] at h
      cases h
      exact ok _ (by rw [List.getElem?_set_self (by rw [E.len]; exact hi)])
    · rw [List.getElem?_set_ne e] at h
      have z := E.sl j sw h
      have q : (σ.set i (some (V.ref p)))[j]? = σ[j]? := List.getElem?_set_ne e
      cases sw <;> simp only [SlotOk, q] at z ⊢ <;> exact z
  nd := fun a b x y q ha hb mx my sa sb => by
    by_cases ea : i = a
    · by_cases eb : i = b
      · rw [← ea, ← eb]
      · subst ea
        rw [List.getElem?_set_ne eb] at hb sb
        have hi : i < σ.length := by
          have := (List.getElem?_eq_some_iff.mp sa).1
          simpa using this
        rw [List.getElem?_set_self hi] at sa
        have : V.ref p = V.ref q := Option.some.inj (Option.some.inj sa)
        cases this
        exact absurd sb (hn b y hb my)
    · rw [List.getElem?_set_ne ea] at ha sa
      by_cases eb : i = b
      · subst eb
        have hi : i < σ.length := by
          have := (List.getElem?_eq_some_iff.mp sb).1
          simpa using this
        rw [List.getElem?_set_self hi] at sb
        have : V.ref p = V.ref q := Option.some.inj (Option.some.inj sb)
        cases this
        exact absurd sa (hn a x ha mx)
      · rw [List.getElem?_set_ne eb] at hb sb
        exact E.nd a b x y q ha hb mx my sa sb
theorem EnvOk.notNew (E : EnvOk R P env σ B H) {p : Addr} (hp : H p = none) : ∀ (j : Nat) (x : SV), env[j]? = some x → isM x = true → σ[j]? ≠ some (some (V.ref p)) := fun j x h m q => by
  have z := E.sl j x h
  cases x with
  | ml l =>
    obtain ⟨p', vs, a, b, _⟩ := z
    rw [a] at q
    cases q
    rw [hp] at b
    cases b
  | mt ks l =>
    obtain ⟨p', vs, a, b, _⟩ := z
    rw [a] at q
    cases q
    rw [hp] at b
    cases b
  | mk ks l =>
    obtain ⟨p', vs, a, b, _⟩ := z
    rw [a] at q
    cases q
    rw [hp] at b
    cases b
  | _ => cases m
theorem EnvOk.mut (E : EnvOk R P env σ B H) {i : Nat} {p : Addr} {sv sw : SV} {o : HO} (hi : env[i]? = some sv) (hm : isM sv = true) (hs : σ[i]? = some (some (V.ref p))) (hb : B p = none) (hP : P ≠ some p) (ok : SlotOk R P σ B (upd H p o) i sw) : EnvOk R P (env.set i sw) σ B (upd H p o) where
  len := by rw [List.length_set]; exact E.len
  bh := Ex.mut E.bh hb
  pot := fun q hq => by
    obtain ⟨a, c, h, r⟩ := E.pot q hq
    exact ⟨a, c, by rw [upd_ne (fun w => hP (by rw [hq, w]))]; exact h, r⟩
  pb := E.pb
  sl := fun j sx h => by
    by_cases e : i = j
    · subst e
      have hl : i < env.length := (List.getElem?_eq_some_iff.mp hi).1
      rw [List.getElem?_set_self hl] at h
      cases h
      exact ok
    · rw [List.getElem?_set_ne e] at h
      have z := E.sl j sx h
      have ne : ∀ (q : Addr), isM sx = true → σ[j]? = some (some (V.ref q)) → q ≠ p := fun q m k w => by
        subst w
        exact e (E.nd i j sv sx q hi h hm m hs k)
      cases sx with
      | un => trivial
      | val d => exact z
      | pot => exact z
      | ml l =>
        obtain ⟨q, vs, a, b, c⟩ := z
        exact ⟨q, vs, a, by rw [upd_ne (ne q rfl a)]; exact b, c⟩
      | mt ks l =>
        obtain ⟨q, vs, a, b, c⟩ := z
        exact ⟨q, vs, a, by rw [upd_ne (ne q rfl a)]; exact b, c⟩
      | mk ks l =>
        obtain ⟨q, vs, a, b, c⟩ := z
        exact ⟨q, vs, a, by rw [upd_ne (ne q rfl a)]; exact b, c⟩
  nd := fun a b x y q ha hb mx my sa sb => by
    have key : ∀ (j : Nat) (z : SV), (env.set i sw)[j]? = some z → isM z = true → ∃ z', env[j]? = some z' ∧ isM z' = true := fun j z h m => by
      by_cases e : i = j
      · subst e
        exact ⟨sv, hi, hm⟩
      · rw [List.getElem?_set_ne e] at h
        exact ⟨z, h, m⟩
    obtain ⟨x', h1, m1⟩ := key a x ha mx
    obtain ⟨y', h2, m2⟩ := key b y hb my
    exact E.nd a b x' y' q h1 h2 m1 m2 sa sb
theorem SOk.mut (S : SOk R P B0 H0 env σ B H) {i : Nat} {p : Addr} {sv sw : SV} {o : HO} (hi : env[i]? = some sv) (hm : isM sv = true) (hs : σ[i]? = some (some (V.ref p))) (hb : B p = none) (hP : P ≠ some p) (ok : SlotOk R P σ B (upd H p o) i sw) : SOk R P B0 H0 (env.set i sw) σ B (upd H p o) where
  e := S.e.mut hi hm hs hb hP ok
  s := ⟨S.s.bb, Ex.mut S.s.bh hb, fun b u h n => by
    rw [upd_ne (fun w => by rw [w, S.fr i sv p hi hm hs] at h; cases h)]
    exact S.s.hh b u h n, S.s.nw⟩
  fr := fun j sx q h m k => by
    by_cases e : i = j
    · subst e
      exact S.fr i sv q hi hm k
    · rw [List.getElem?_set_ne e] at h
      exact S.fr j sx q h m k
end
section
variable {R : OR} {te ta tb : TE} {ee ea eb : EE}
def sNext : ES := fun env k => k.nx env
def sSeq (e f : ES) : ES := fun env k => e env { k with nx := fun env' => f env' k }
def sNever : ES := fun _ _ => False
theorem wb_next : WB R tNext sNext := fun P B0 H0 env σ B H D k S he K => K.nx env σ B H he S
theorem wb_never : WB R tNever sNever := fun P B0 H0 env σ B H D k S he K => he
theorem wb_seq {t u : TS} {e f : ES} (h : WB R t e) (g : WB R u f) : WB R (tSeq t u) (sSeq e f) := fun P B0 H0 env σ B H D k S he K =>
  h P B0 H0 env σ B H { D with nx := u D } _ S he ⟨fun env' σ' B' H' k' S' => g P B0 H0 env' σ' B' H' D k S' k' K, K.rt, K.rf, K.bk, K.ct, K.rk⟩
def sAsg (ee : EE) (eg : EG) : ES := fun env k => ee env fun d => eg d env k.nx
theorem wb_asg {g : TG} {eg : EG} {ts : List Nat} (h : WE R te ee) (hg : WG R ts g eg) : WB R (tAsg te g) (sAsg ee eg) := fun P B0 H0 env σ B H D k S he K =>
  h P env σ B H _ _ S.e he fun d v B' H' kd s E r => hg P env σ B' H' v d _ _ E r kd fun env' σ' k' E' _ sm nm => K.nx env' σ' B' H' k' ⟨E', S.s.trans S.e.pot s, fun i sv p h m q => by
    by_cases n : i ∈ ts
    · rw [nm i n sv h] at m; cases m
    · rw [(sm i n).1] at h
      rw [(sm i n).2] at q
      exact S.fr i sv p h m q⟩
def sAsgF (i : Nat) (el : EL) : ES := fun env k => el env fun l => k.nx (env.set i (.ml l))
theorem wb_asgF {i : Nat} {el : EL} (h : WF R te el) : WB R (tAsg te (gName i)) (sAsgF i el) := fun P B0 H0 env σ B H D k S he K =>
  h P env σ B H _ _ S.e he fun l p vs B' H' kl s E hp hb hh a => by
    have nP := fresh_pot S.e.pot hp
    refine K.nx (env.set i (.ml l)) (σ.set i (some (.ref p))) B' H' kl ⟨E.setM i (S.e.notNew hp) (fun σ' q => ⟨p, vs, q, hh, hb, nP, a⟩), S.s.trans S.e.pot s, fun j sv q hj m w => ?_⟩
    by_cases e : i = j
    · subst e
      have hi : i < σ.length := by
        have := (List.getElem?_eq_some_iff.mp w).1
        simpa using this
      rw [List.getElem?_set_self hi] at w
      have : V.ref p = V.ref q := Option.some.inj (Option.some.inj w)
      cases this
      exact fresh_backP S.s.hh nP hp
    · rw [List.getElem?_set_ne e] at hj w
      exact S.fr j sv q hj m w
def sDrop (ee : EE) : ES := fun env k => ee env fun _ => k.nx env
theorem wb_drop (h : WO R te ee) : WB R (tDrop te) (sDrop ee) := fun P B0 H0 env σ B H D k S he K =>
  h P env σ B H _ _ S.e he fun d v B' H' kd s E r => K.nx env σ B' H' kd (S.step s E)
def sIf (e : EB) (f g : ES) : ES := fun env k => e env fun b => if b = true then f env k else g env k
theorem wb_if {t : TT} {e : EB} {u w : TS} {f g : ES} (h : WT R t e) (hf : WB R u f) (hg : WB R w g) : WB R (tIfS t u w) (sIf e f g) := fun P B0 H0 env σ B H D k S he K =>
  h P env σ B H _ _ S.e he fun b B' H' kb s E => by
    cases b with
    | true =>
      show u D σ H'
      exact hf P B0 H0 env σ B' H' D k (S.step s E) kb K
    | false =>
      show w D σ H'
      exact hg P B0 H0 env σ B' H' D k (S.step s E) kb K
def sRet (ee : EE) : ES := fun env k => ee env k.rt
def sRetF (el : EL) : ES := fun env k => el env k.rf
def sRetN : ES := fun _ k => k.rt .non
theorem wb_ret (h : WE R te ee) : WB R (tRet te) (sRet ee) := fun P B0 H0 env σ B H D k S he K =>
  h P env σ B H _ _ S.e he fun d v B' H' kd s E r => K.rt d v B' H' kd (S.s.trans S.e.pot s) E.pot r
theorem wb_retF {el : EL} (h : WF R te el) : WB R (tRet te) (sRetF el) := fun P B0 H0 env σ B H D k S he K =>
  h P env σ B H _ _ S.e he fun l p vs B' H' kl s E hp hb hh a => K.rf l p vs B' H' kl (S.s.trans S.e.pot s) E.pot (fresh_backP S.s.hh (fresh_pot S.e.pot hp) hp) hb hh a
def sRetM (i : Nat) : ES := fun env k => match env[i]? with
  | some (.ml l) => k.rf l
  | _ => False
theorem wb_retM {i : Nat} : WB R (tRet (tVar i)) (sRetM i) := fun P B0 H0 env σ B H D k S he K => by
  unfold sRetM at he
  split at he
  · next l h =>
    obtain ⟨p, vs, a, b, c, d, e⟩ := S.e.sl i _ h
    exact ⟨_, a, K.rf l p vs B H he S.s S.e.pot (S.fr i _ p h rfl a) c b e⟩
  · exact he.elim
def sKnow (i : Nat) (f : ES) : ES := fun env k => match env[i]? with
  | some (.ml l) => f (env.set i (.val (.lst l))) k
  | some (.mt ks l) => f (env.set i (.val (.dt ks l))) k
  | some (.mk ks l) => f (env.set i (.val (.dk ks l))) k
  | _ => False
theorem SOk.knowO {P : Option Addr} {B0 H0 : Hp} {env : Env} {σ : L2.St} {B H : Hp} (S : SOk R P B0 H0 env σ B H) {i : Nat} {p : Addr} {sv : SV} {d : D} {o : HO} (hi : env[i]? = some sv) (hm : isM sv = true) (hs : σ[i]? = some (some (V.ref p))) (hb : B p = none) (hP : P ≠ some p) (hh : H p = some o) (r : Rp R (upd B p o) (.ref p) d) : SOk R P B0 H0 (env.set i (.val d)) σ (upd B p o) H := by
  have e : Ex B (upd B p o) := Ex.new hb
  have bh : Ex (upd B p o) H := fun b u k => by
    by_cases n : b = p
    · subst n; rw [upd_same] at k; cases k; exact hh
    · rw [upd_ne n] at k; exact S.e.bh b u k
  refine ⟨{ len := by rw [List.length_set]; exact S.e.len, bh := bh, pot := S.e.pot, pb := fun q hq => ?_, sl := fun j sx h => ?_, nd := fun a b x y q ha hb mx my sa sb => ?_ }, ⟨S.s.bb.trans e, bh, S.s.hh, fun b u k => ?_⟩, fun j sx q h m k => ?_⟩
  · rw [upd_ne (fun w => hP (by rw [hq, w]))]
    exact S.e.pb q hq
  · by_cases n : i = j
    · subst n
      have hl : i < env.length := (List.getElem?_eq_some_iff.mp hi).1
      rw [List.getElem?_set_self hl] at h
      cases h
      exact ⟨_, hs, r⟩
    · rw [List.getElem?_set_ne n] at h
      have z := S.e.sl j sx h
      have ne : ∀ (q : Addr), isM sx = true → σ[j]? = some (some (V.ref q)) → q ≠ p := fun q m k w => by
        subst w
        exact n (S.e.nd i j sv sx q hi h hm m hs k)
      cases sx with
      | un => trivial
      | val d =>
        obtain ⟨v, a, b⟩ := z
        exact ⟨v, a, b.mono e d⟩
      | pot => exact z
      | ml l =>
        obtain ⟨q, vs, a, b, c, d, f⟩ := z
        exact ⟨q, vs, a, b, by rw [upd_ne (ne q rfl a)]; exact c, d, f.mono e l⟩
      | mt ks l =>
        obtain ⟨q, vs, a, b, c, d, f, g⟩ := z
        exact ⟨q, vs, a, b, c, by rw [upd_ne (ne q rfl a)]; exact d, f, g.mono e l⟩
      | mk ks l =>
        obtain ⟨q, vs, a, b, c, d, f, g⟩ := z
        exact ⟨q, vs, a, b, c, by rw [upd_ne (ne q rfl a)]; exact d, f, g.mono e l⟩
  · have key : ∀ (j : Nat) (z : SV), (env.set i (.val d))[j]? = some z → isM z = true → env[j]? = some z := fun j z h m => by
      by_cases e : i = j
      · subst e
        have hl : i < env.length := (List.getElem?_eq_some_iff.mp hi).1
        rw [List.getElem?_set_self hl] at h
        cases h
        cases m
      · rw [List.getElem?_set_ne e] at h
        exact h
    exact S.e.nd a b x y q (key a x ha mx) (key b y hb my) mx my sa sb
  · by_cases n : b = p
    · subst n
      exact .inr (.inl (S.fr i sv b hi hm hs))
    · rw [upd_ne n] at k
      exact S.s.nw b u k
  · by_cases e : i = j
    · subst e
      have hl : i < env.length := (List.getElem?_eq_some_iff.mp hi).1
      rw [List.getElem?_set_self hl] at h
      cases h
      cases m
    · rw [List.getElem?_set_ne e] at h
      exact S.fr j sx q h m k
theorem wb_know {i : Nat} {t : TS} {f : ES} (h : WB R t f) : WB R t (sKnow i f) := fun P B0 H0 env σ B H D k S he K => by
  unfold sKnow at he
  split at he
  · next l hi =>
    obtain ⟨p, vs, a, b, c, d, e⟩ := S.e.sl i _ hi
    exact h P B0 H0 _ σ _ H D k (S.knowO hi rfl a c d b (rp_lst upd_same (e.mono (Ex.new c) l))) he K
  · next ks l hi =>
    obtain ⟨p, vs, a, b, z, c, d, e⟩ := S.e.sl i _ hi
    exact h P B0 H0 _ σ _ H D k (S.knowO hi rfl a c d b (by simp only [Rp]; exact ⟨p, vs, rfl, upd_same, z, e.mono (Ex.new c) l⟩)) he K
  · next ks l hi =>
    obtain ⟨p, vs, a, b, z, c, d, e⟩ := S.e.sl i _ hi
    exact h P B0 H0 _ σ _ H D k (S.knowO hi rfl a c d b (by simp only [Rp]; exact ⟨p, vs, rfl, upd_same, z, e.mono (Ex.new c) l⟩)) he K
  · exact he.elim
end
end DL
set_option Elab.async false
set_option linter.all false
set_option maxRecDepth 100000
set_option maxHeartbeats 4000000
namespace DL
open PySem PySem.Spec PyProof.Rows L2
open Evl (Ex)
section
variable {R : OR} {K : PySem.W.Frag} {te ta tb : TE} {ee ea eb : EE}
theorem tyV_l {H : Hp} {p : Addr} {vs : List V} (h : H p = some (.lst vs)) : tyV K "list" (.ref p) H := .inl ⟨rfl, _, .inl (.inl h)⟩
def sApp (i : Nat) (ee : EE) : ES := fun env k => match env[i]? with
  | some (.ml l) => ee env fun d => l.length < 100000 ∧ k.nx (env.set i (.ml (l ++ [d])))
  | _ => False
theorem wb_app {i : Nat} (h : WE R te ee) : WB R (tDrop (tBM K "list" rAppend (tVar i) (tCons te tNil))) (sApp i ee) := fun P B0 H0 env σ B H D k S he Kk => by
  unfold sApp at he
  split at he
  · next l hi =>
    obtain ⟨p, vs, a, b, c, nP, r⟩ := S.e.sl i _ hi
    refine ⟨_, a, tyV_l b, h P env σ B H _ _ S.e he fun d v B' H' kd s E rd => ?_⟩
    have S' := S.step s E
    obtain ⟨p', vs', a', b', c', nP', r'⟩ := E.sl i _ hi
    have e1 : p = p' := by rw [a] at a'; cases a'; rfl
    subst e1
    refine ⟨p, vs', v, rfl, rfl, b', Evl.sz_lt (by rw [r'.len]; exact kd.1), ?_⟩
    exact Kk.nx _ σ B' _ kd.2 (S'.mut hi rfl a c' nP ⟨p, vs' ++ [v], a, upd_same, c', nP, r'.app (.cons rd .nil)⟩)
  · exact he.elim
def sExt (i : Nat) (ee : EE) : ES := fun env k => match env[i]? with
  | some (.ml l) => ee env fun d => match d with
    | .lst m => l.length + m.length ≤ 100000 ∧ k.nx (env.set i (.ml (l ++ m)))
    | _ => False
  | _ => False
theorem wb_ext {i : Nat} (h : WE R te ee) : WB R (tDrop (tBM K "list" rExtend (tVar i) (tCons te tNil))) (sExt i ee) := fun P B0 H0 env σ B H D k S he Kk => by
  unfold sExt at he
  split at he
  · next l hi =>
    obtain ⟨p, vs, a, b, c, nP, r⟩ := S.e.sl i _ hi
    refine ⟨_, a, tyV_l b, h P env σ B H _ _ S.e he fun d v B' H' kd s E rd => ?_⟩
    cases d with
    | lst m =>
      have S' := S.step s E
      obtain ⟨p', vs', a', b', c', nP', r'⟩ := E.sl i _ hi
      have e1 : p = p' := by rw [a] at a'; cases a'; rfl
      subst e1
      simp only [Rp] at rd
      obtain ⟨q, us, rfl, hq, ru⟩ := rd
      have kd : l.length + m.length ≤ 100000 ∧ k.nx (env.set i (.ml (l ++ m))) := kd
      refine ⟨p, q, vs', us, rfl, rfl, b', E.bh _ _ hq, Evl.sz_of (by rw [r'.len, ru.len]; exact kd.1), ?_⟩
      exact Kk.nx _ σ B' _ kd.2 (S'.mut hi rfl a c' nP ⟨p, vs' ++ us, a, upd_same, c', nP, r'.app ru⟩)
    | _ => exact (show False from kd).elim
  · exact he.elim
theorem RpA.dropLast {B : Hp} : ∀ {vs : List V} {ds : List D}, RpA R B vs ds → RpA R B vs.dropLast ds.dropLast := fun {vs ds} h => by
  rw [List.dropLast_eq_take, List.dropLast_eq_take, h.len]
  exact h.take _
def forGo (eg : EG) (eb : ES) (dead : List Nat) : List D → Env → Kn → Prop
  | [], env, k => k.nx env
  | x :: xs, env, k => eg x env fun env1 => eb env1 { nx := fun e => forGo eg eb dead xs (forg e dead) k, ct := fun e => forGo eg eb dead xs (forg e dead) k, bk := k.nx, rt := k.rt, rf := k.rf }
def sFor (ei : EL) (eg : EG) (eb : ES) (dead : List Nat) : ES := fun env k => ei env fun xs => forGo eg eb dead xs env k
theorem wb_for {wi : TI} {ei : EL} {g : TG} {eg : EG} {ts dead : List Nat} {t : TS} {e : ES} (hi : WI R wi ei) (hg : WG R ts g eg) (hb : WB R t e) : WB R (tFor wi g t) (sFor ei eg e dead) := fun P B0 H0 env σ B H D k S he Kk => by
  refine hi P env σ B H _ _ S.e he fun xs J n G B1 H1 hx s1 E1 hn hG hW => ?_
  have S1 := S.step s1 E1
  refine for_it hW (fun i σ' H' => ∃ env' B', SOk R P B0 H0 env' σ' B' H' ∧ Ex B1 B' ∧ forGo eg e dead (xs.drop i) env' k) ⟨env, B1, S1, Ex.refl _, hx⟩ (fun i σ' H' _ ⟨env', B', S', e', _⟩ => hG _ (e'.trans S'.e.bh)) ?_ ?_
  · rintro i x σ' Ha Hb hin ⟨env', B', S', e', hk⟩ y
    obtain ⟨d, B2, hxd, s2, E2, rx⟩ := yd_at S'.e (y.mono e')
    rw [drop_cons hxd] at hk
    have S2 := S'.step s2 E2
    refine hg P env' σ' B2 Hb x d _ _ E2 rx hk fun env3 σ3 k3 E3 _ sm nm => ?_
    have S3 : SOk R P B0 H0 env3 σ3 B2 Hb := ⟨E3, S2.s, fun j sv p h m q => by
      by_cases n : j ∈ ts
      · rw [nm j n sv h] at m; cases m
      · rw [(sm j n).1] at h
        rw [(sm j n).2] at q
        exact S2.fr j sv p h m q⟩
    -- the same, told of the base of now
    have re : SOk R P B2 H0 env3 σ3 B2 Hb := ⟨E3, ⟨Ex.refl _, S3.s.bh, S3.s.hh, fun b o h => .inl h⟩, S3.fr⟩
    have back : ∀ {B' H' : Hp}, Step P B2 H0 B' H' → Step P B0 H0 B' H' := fun s => ⟨S3.s.bb.trans s.bb, s.bh, s.hh, fun b o h => by
      rcases s.nw b o h with w | w
      · exact S3.s.nw b o w
      · exact .inr w⟩
    have go : ∀ env4 σ4 B4 H4, forGo eg e dead (xs.drop (i + 1)) (forg env4 dead) k → SOk R P B2 H0 env4 σ4 B4 H4 → ∃ env' B', SOk R P B0 H0 env' σ4 B' H4 ∧ Ex B1 B' ∧ forGo eg e dead (xs.drop (i + 1)) env' k := fun env4 σ4 B4 H4 k4 S4 =>
      ⟨_, B4, SOk.forg ⟨S4.e, back S4.s, S4.fr⟩ dead, (e'.trans s2.bb).trans S4.s.bb, k4⟩
    exact hb P B2 H0 env3 σ3 B2 Hb _ _ re k3 ⟨go, fun d v B H kd s po r => Kk.rt d v B H kd (back s) po r, fun l p vs B H kl s po hp hb hh r => Kk.rf l p vs B H kl (back s) po hp hb hh r, fun env σ B H kb S => Kk.nx env σ B H kb ⟨S.e, back S.s, S.fr⟩, go, fun _ _ _ _ _ _ z => z.elim⟩
  · rintro σ' H' ⟨env', B', S', _, hk⟩
    rw [← hn, List.drop_length] at hk
    exact Kk.nx env' σ' B' H' hk S'
def spE (R : OR) (pot : Bool) (n : Nat) (ef : List D → (D → Prop) → Prop) : Sp := fun vs H Q _ => ∃ P B us ds k, (P = none ∧ pot = false ∧ vs = us ∨ ∃ p, P = some p ∧ pot = true ∧ vs = .ref p :: us) ∧ PotOk P H ∧ (∀ p, P = some p → B p = none) ∧ Ex B H ∧ RpA R B us ds ∧ ds.length = n ∧ ef ds k ∧
  ∀ d v B' H', k d → Step P B H B' H' → PotOk P H' → Rp R B' v d → Q v H'
def spF (R : OR) (pot : Bool) (n : Nat) (ef : List D → (List D → Prop) → Prop) : Sp := fun vs H Q _ => ∃ P B us ds k, (P = none ∧ pot = false ∧ vs = us ∨ ∃ p, P = some p ∧ pot = true ∧ vs = .ref p :: us) ∧ PotOk P H ∧ (∀ p, P = some p → B p = none) ∧ Ex B H ∧ RpA R B us ds ∧ ds.length = n ∧ ef ds k ∧
  ∀ l p vs' B' H', k l → Step P B H B' H' → PotOk P H' → H p = none → B' p = none → H' p = some (.lst vs') → RpA R B' vs' l → Q (.ref p) H'
def eCall (n : Nat) (ef : List D → (D → Prop) → Prop) (ea : EL) : EE := fun env k => ea env fun ds => ds.length = n ∧ ef ds k
def eCallF (n : Nat) (ef : List D → (List D → Prop) → Prop) (ea : EL) : EL := fun env k => ea env fun ds => ds.length = n ∧ ef ds k
theorem Step.of0 {P : Option Addr} {B H B' H' : Hp} (s : Step none B H B' H') : Step P B H B' H' := ⟨s.bb, s.bh, fun b o h _ => s.hh b o h (fun z => nomatch z), s.nw⟩
theorem Step.ex0 {B H B' H' : Hp} (s : Step none B H B' H') : Ex H H' := fun b o h => s.hh b o h (fun z => nomatch z)
theorem we_call {n : Nat} {ef : List D → (D → Prop) → Prop} {tas : TA} {eas : EL} {E : XK} (h : WA R tas eas) : WE R (tCall (spE R false n ef) [] E tas) (eCall n ef eas) := fun P env σ B H Q k Ev he q =>
  h P env σ B H _ _ Ev he fun ds vs B1 H1 kd s1 E1 r1 => by
    rw [List.append_nil]
    refine ⟨none, B1, vs, ds, k, .inl ⟨rfl, rfl, rfl⟩, fun _ z => (nomatch z), fun _ z => (nomatch z), E1.bh, r1, kd.1, kd.2, fun d v B2 H2 k2 s2 _ r2 => ?_⟩
    have po := E1.pot.ex s2.ex0
    exact q d v B2 H2 k2 (s1.trans E1.pot s2.of0) (E1.step s2.of0 po) r2
theorem wf_call {n : Nat} {ef : List D → (List D → Prop) → Prop} {tas : TA} {eas : EL} {E : XK} (h : WA R tas eas) : WF R (tCall (spF R false n ef) [] E tas) (eCallF n ef eas) := fun P env σ B H Q k Ev he q =>
  h P env σ B H _ _ Ev he fun ds vs B1 H1 kd s1 E1 r1 => by
    rw [List.append_nil]
    refine ⟨none, B1, vs, ds, k, .inl ⟨rfl, rfl, rfl⟩, fun _ z => (nomatch z), fun _ z => (nomatch z), E1.bh, r1, kd.1, kd.2, fun l p vs' B2 H2 k2 s2 _ hp hb hh r2 => ?_⟩
    have po := E1.pot.ex s2.ex0
    exact q l p vs' B2 H2 k2 (s1.trans E1.pot s2.of0) (E1.step s2.of0 po) (fresh_backP s1.hh (fresh_pot E1.pot hp) hp) hb hh r2
def eCallP (i n : Nat) (ef : List D → (D → Prop) → Prop) (ea : EL) : EE := fun env k => env[i]? = some .pot ∧ ea env fun ds => ds.length = n ∧ ef ds k
def eCallPF (i n : Nat) (ef : List D → (List D → Prop) → Prop) (ea : EL) : EL := fun env k => env[i]? = some .pot ∧ ea env fun ds => ds.length = n ∧ ef ds k
theorem we_callP {i n : Nat} {ef : List D → (D → Prop) → Prop} {tas : TA} {eas : EL} {E : XK} (h : WA R tas eas) : WE R (tCall (spE R true n ef) [] E (tCons (tVar i) tas)) (eCallP i n ef eas) := fun P env σ B H Q k Ev he q => by
  obtain ⟨hi, he⟩ := he
  obtain ⟨p, hP, hs⟩ := Ev.sl i _ hi
  refine ⟨_, hs, h P env σ B H _ _ Ev he fun ds vs B1 H1 kd s1 E1 r1 => ?_⟩
  dsimp only
  rw [List.append_nil]
  exact ⟨P, B1, vs, ds, k, .inr ⟨p, hP, rfl, rfl⟩, E1.pot, E1.pb, E1.bh, r1, kd.1, kd.2, fun d v B2 H2 k2 s2 po r2 => q d v B2 H2 k2 (s1.trans E1.pot s2) (E1.step s2 po) r2⟩
theorem wf_callP {i n : Nat} {ef : List D → (List D → Prop) → Prop} {tas : TA} {eas : EL} {E : XK} (h : WA R tas eas) : WF R (tCall (spF R true n ef) [] E (tCons (tVar i) tas)) (eCallPF i n ef eas) := fun P env σ B H Q k Ev he q => by
  obtain ⟨hi, he⟩ := he
  obtain ⟨p, hP, hs⟩ := Ev.sl i _ hi
  refine ⟨_, hs, h P env σ B H _ _ Ev he fun ds vs B1 H1 kd s1 E1 r1 => ?_⟩
  dsimp only
  rw [List.append_nil]
  exact ⟨P, B1, vs, ds, k, .inr ⟨p, hP, rfl, rfl⟩, E1.pot, E1.pb, E1.bh, r1, kd.1, kd.2, fun l p vs' B2 H2 k2 s2 po hp hb hh r2 => q l p vs' B2 H2 k2 (s1.trans E1.pot s2) (E1.step s2 po) (fresh_backP s1.hh (fresh_pot E1.pot hp) hp) hb hh r2⟩
def env0 (pot : Bool) (N : List Str) (ds : List D) : Env := (if pot then [SV.pot] else []) ++ ds.map SV.val ++ List.replicate (N.length - ((if pot then 1 else 0) + ds.length)) SV.un
def knE (k : D → Prop) : Kn := { nx := fun _ => k .non, rt := k, rf := fun l => k (.lst l) }
def knF (k : List D → Prop) : Kn := { nx := fun _ => False, rt := fun _ => False, rf := k }
theorem start_ok {P : Option Addr} {B H : Hp} {pot : Bool} {N : List Str} {vs us : List V} {ds : List D} (hP : P = none ∧ pot = false ∧ vs = us ∨ ∃ p, P = some p ∧ pot = true ∧ vs = .ref p :: us) (po : PotOk P H) (pb : ∀ p, P = some p → B p = none) (bh : Ex B H) (r : RpA R B us ds) : SOk R P B H (env0 pot N ds) (L2.start N vs) B H := by
  have hl := r.len
  have valAt : ∀ (i : Nat) (sv : SV), (ds.map SV.val)[i]? = some sv → ∃ d v, sv = SV.val d ∧ us[i]? = some v ∧ Rp R B v d := fun i sv h => by
    rw [List.getElem?_map] at h
    obtain ⟨d, hd, e⟩ := Option.map_eq_some_iff.mp h
    obtain ⟨v, hv, rv⟩ := r.get hd
    exact ⟨d, v, e.symm, hv, rv⟩
  have unAt : ∀ {n i : Nat} {sv : SV}, (List.replicate n SV.un)[i]? = some sv → sv = .un := fun h => (List.mem_replicate.mp (List.mem_of_getElem? h)).2
  have sl : ∀ i sv, (env0 pot N ds)[i]? = some sv → SlotOk R P (L2.start N vs) B H i sv ∧ isM sv = false := by
    intro i sv h
    rcases hP with ⟨rfl, rfl, rfl⟩ | ⟨p, rfl, rfl, rfl⟩
    · have h : (([] : Env) ++ ds.map SV.val ++ List.replicate (N.length - (0 + ds.length)) SV.un)[i]? = some sv := h
      rw [List.nil_append] at h
      by_cases hi : i < (ds.map SV.val).length
      · rw [List.getElem?_append_left hi] at h
        obtain ⟨d, v, rfl, hv, rv⟩ := valAt i sv h
        refine ⟨⟨v, ?_, rv⟩, rfl⟩
        unfold L2.start
        rw [List.getElem?_append_left (by rw [List.length_map, hl]; simpa using hi), List.getElem?_map, hv]
        rfl
      · rw [List.getElem?_append_right (by omega)] at h
        rw [unAt h]
        exact ⟨trivial, rfl⟩
    · have h : (([SV.pot] : Env) ++ ds.map SV.val ++ List.replicate (N.length - (1 + ds.length)) SV.un)[i]? = some sv := h
      cases i with
      | zero =>
        cases h
        refine ⟨⟨p, rfl, rfl⟩, rfl⟩
      | succ i =>
        have h : (ds.map SV.val ++ List.replicate (N.length - (1 + ds.length)) SV.un)[i]? = some sv := h
        by_cases hi : i < (ds.map SV.val).length
        · rw [List.getElem?_append_left hi] at h
          obtain ⟨d, v, rfl, hv, rv⟩ := valAt i sv h
          refine ⟨⟨v, ?_, rv⟩, rfl⟩
          show (((V.ref p :: us).map some) ++ _)[i + 1]? = _
          rw [List.map_cons, List.cons_append, List.getElem?_cons_succ, List.getElem?_append_left (by rw [List.length_map, hl]; simpa using hi), List.getElem?_map, hv]
          rfl
        · rw [List.getElem?_append_right (by omega)] at h
          rw [unAt h]
          exact ⟨trivial, rfl⟩
  refine ⟨{ len := ?_, bh := bh, pot := po, pb := pb, sl := fun i sv h => (sl i sv h).1, nd := fun a b x y q ha hb mx my sa sb => by rw [(sl a x ha).2] at mx; cases mx }, .refl bh, fun i sv p h m => by rw [(sl i sv h).2] at m; cases m⟩
  rcases hP with ⟨rfl, rfl, rfl⟩ | ⟨p, rfl, rfl, rfl⟩
  · unfold L2.start env0
    simp [hl]
  · unfold L2.start env0
    simp [hl, Nat.add_comm]
theorem body_E {t : TS} {es : ES} {pot : Bool} {N : List Str} {n : Nat} (w : WB R t es) {vs : List V} {H : Hp} {Q : VK} {E : XK} (h : spE R pot n (fun ds k => es (env0 pot N ds) (knE k)) vs H Q E) : t { nx := fun _ H' => Q .non H', rt := Q } (L2.start N vs) H := by
  obtain ⟨P, B, us, ds, k, hP, po, pb, bh, r, hn, he, q⟩ := h
  refine w P B H _ _ B H _ (knE k) (start_ok hP po pb bh r) he ⟨fun env σ B' H' kk S => q .non .non B' H' kk S.s S.e.pot rp_non, fun d v B' H' kk s po r => q d v B' H' kk s po r, fun l p vs B' H' kk s po hp hb hh r => ?_, fun _ _ _ _ z => z.elim, fun _ _ _ _ z => z.elim, fun _ _ _ _ _ _ z => z.elim⟩
  have e : Ex B' (upd B' p (.lst vs)) := Ex.new hb
  refine q (.lst l) (.ref p) (upd B' p (.lst vs)) H' kk ⟨s.bb.trans e, fun b o k => ?_, s.hh, fun b o k => ?_⟩ po (rp_lst upd_same (r.mono e l))
  · by_cases n : b = p
    · subst n; rw [upd_same] at k; cases k; exact hh
    · rw [upd_ne n] at k; exact s.bh b o k
  · by_cases n : b = p
    · subst n; exact .inr (.inl hp)
    · rw [upd_ne n] at k; exact s.nw b o k
theorem body_F {t : TS} {es : ES} {pot : Bool} {N : List Str} {n : Nat} (w : WB R t es) {vs : List V} {H : Hp} {Q : VK} {E : XK} (h : spF R pot n (fun ds k => es (env0 pot N ds) (knF k)) vs H Q E) : t { nx := fun _ H' => Q .non H', rt := Q } (L2.start N vs) H := by
  obtain ⟨P, B, us, ds, k, hP, po, pb, bh, r, hn, he, q⟩ := h
  exact w P B H _ _ B H _ (knF k) (start_ok hP po pb bh r) he ⟨fun _ _ _ _ z => z.elim, fun _ _ _ _ z => z.elim, q, fun _ _ _ _ z => z.elim, fun _ _ _ _ z => z.elim, fun _ _ _ _ _ _ z => z.elim⟩
theorem len_E {pot : Bool} {n : Nat} {ef : List D → (D → Prop) → Prop} {vs : List V} {H : Hp} {Q : VK} {E : XK} (h : spE R pot n ef vs H Q E) : vs.length = (if pot then 1 else 0) + n := by
  obtain ⟨P, B, us, ds, k, hP, po, pb, bh, r, hn, he, q⟩ := h
  rcases hP with ⟨rfl, rfl, rfl⟩ | ⟨p, rfl, rfl, rfl⟩
  · rw [r.len, hn]; simp
  · rw [List.length_cons, r.len, hn]; simp; omega
theorem len_F {pot : Bool} {n : Nat} {ef : List D → (List D → Prop) → Prop} {vs : List V} {H : Hp} {Q : VK} {E : XK} (h : spF R pot n ef vs H Q E) : vs.length = (if pot then 1 else 0) + n := by
  obtain ⟨P, B, us, ds, k, hP, po, pb, bh, r, hn, he, q⟩ := h
  rcases hP with ⟨rfl, rfl, rfl⟩ | ⟨p, rfl, rfl, rfl⟩
  · rw [r.len, hn]; simp
  · rw [List.length_cons, r.len, hn]; simp; omega
end
end DL
set_option Elab.async false
set_option linter.all false
set_option maxRecDepth 100000
set_option maxHeartbeats 4000000
namespace SD
open PySem PySem.Spec PyProof.Rows L2 PySem.W
def rSortD (K : PySem.W.Frag) : List V → Hp → VK → Prop := fun vs H Q => ∃ (β : Type) (R : V → β → Prop) (enc : β → PyData) (a : Addr) (xs : List V) (bs : List β), vs = [V.ref a] ∧ SqL K H a xs ∧
  Paired R xs bs ∧ (∀ x b, R x b → Dp K H x (enc b)) ∧ AllAlike (bs.map enc) ∧ Sortable (bs.map enc) ∧ (∀ b ∈ bs, (enc b).depth ≤ 50) ∧
  ∀ ys p, Paired R ys (bs.mergeSort (dataLe false enc)) → H p = none → Q (.ref p) (upd H p (.lst ys))
def Rv {β : Type} (R : V → β → Prop) (v : Value) (b : β) : Prop := ∃ x, RelV x v ∧ R x b
theorem each_of {β : Type} {R : V → β → Prop} : ∀ {xs : List V} {us : List Value} {bs : List β}, Vals xs us → Paired R xs bs → EachIs (Rv R) us bs
  | _, _, _, .nil, .nil => .nil
  | _, _, _, .cons r t, .cons s u => .cons ⟨_, r, s⟩ (each_of t u)
theorem each_back {β : Type} {R : V → β → Prop} : ∀ {us : List Value} {bs : List β}, EachIs (Rv R) us bs → ∃ xs, Vals xs us ∧ Paired R xs bs
  | _, _, .nil => ⟨[], .nil, .nil⟩
  | _, _, .cons ⟨x, r, s⟩ t => by
    obtain ⟨xs, h1, h2⟩ := each_back t
    exact ⟨x :: xs, .cons r h1, .cons s h2⟩
section
variable {X : Cx}
theorem each_reads {β : Type} {R : V → β → Prop} {pins : List (Addr × Obj)} {σ : L2.St} {H : Hp} {s : Shared} (I : Inv X pins σ H s) (enc : β → PyData) (h : ∀ x b, R x b → Dp X.K H x (enc b)) : ∀ {us : List Value} {bs : List β}, EachIs (Rv R) us bs → EachIs (fun v b => ∃ as, Reads s.heap v (enc b) as) us bs
  | _, _, .nil => .nil
  | _, _, .cons ⟨x, r, q⟩ t => .cons (Dp.reads I _ _ _ (h _ _ q) r) (each_reads I enc h t)
theorem cr_sortD (hu : X.A.units + 64 < cLine) : CallR X (.builtin "sorted") (rSortD X.K) := by
  intro pins s σ H vs us Q I r h
  obtain ⟨β, R, enc, a, xs, bs, rfl, hs, hp, hd, hal, hk, hdp, q⟩ := h
  obtain ⟨its, rv, hl, hz⟩ := I.list hs
  rw [Vals.ref1 r]
  have e1 := each_of rv hp
  have lb : xs.length = bs.length := PySem.Paired.length hp
  refine sorted_data (R := Rv R) (bs := bs) (enc := enc) (vs := its) hl.isList e1 (each_reads I enc hd e1) hal hk (by rw [← lb]; exact hz) (fun x m => ?_) fun out ho he => ?_
  · have := hdp x m
    omega
  · have kp : ∀ b o, s.heap.get? b = some o → (sortedAll s.heap its out.toArray).get? b = some o := fun b o e => sortedAll_old e
    have sz : s.heap.objs.size ≤ s.heap.objs.size + 1 := Nat.le_succ _
    obtain ⟨n, hn⟩ := sortedAll_at s.heap its out.toArray
    obtain ⟨ys, rm, pm⟩ := each_back he
    have ly : ys.length = xs.length := by
      rw [PySem.Paired.length pm, List.length_mergeSort, lb]
    refine ⟨.ref _, upd H _ (.lst ys), I.laid (t' := s.toks) kp sz ⟨?_, out, n, rm, hn⟩, rfl, q ys _ pm (I.hok.fresh sz)⟩
    rw [ly]
    exact hz
end
end SD
set_option Elab.async false
set_option linter.all false
set_option maxRecDepth 100000
set_option maxHeartbeats 4000000
namespace G8
open PySem PySem.Spec PyProof.Rows L2
structure FnOkG (P : Program) (w : World) (K : PySem.W.Frag) (mg : Str → Option Value) (base : Heap) (CX : CXT) (k : Nat) (f : Addr) (fd : FuncData) (ps : List Str) (sp : Sp) : Prop where
  len : ∀ vs H Q E, sp vs H Q E → vs.length = ps.length
  run : ∀ (A : Around) (outer : List Env) (s : Shared) (H : Hp) (args : Args) (us : List Value) (vs : List V) (Q : VK) (E : XK), Room k A → A.guards = some [] → Env0 P w K mg base A outer s H → BindsTo s fd args (ps.zip us) → Vals vs us → sp vs H Q E →
    codeAny (model P w) A (.call (.ref f) args) (CR CX outer P w H s Q E) s
section
variable {X : Cx} {CX : CXT} {k : Nat} {f : Addr} {fd : FuncData} {ps : List Str} {sp : Sp} {E : XK} {ds : List Value} {dvs : List V}
theorem run_fnG {pins : List (Addr × Obj)} {σ : L2.St} {H : Hp} {s : Shared} {Q : VK} {us : List Value} {vs : List V} (F : FnOkG X.prog X.w X.K X.mg X.base CX k f fd ps sp) (hr : Room k X.A) (hG : X.A.guards = some []) (hb : L2.Binds X.K fd ps ds) (hd : Vals dvs ds) (hx : Passes CX X E)
    (I : Inv X pins σ H s) (r : Vals vs us) (h : sp (vs ++ dvs) H Q E) : wpAny (model X.prog X.w) X.A (call (.ref f) us) (EP X pins σ Q) X.xe s := by
  have r2 : Vals (vs ++ dvs) (us ++ ds) := r.append hd
  have hl : (us ++ ds).length = ps.length := by rw [← r2.length]; exact F.len _ _ _ _ h
  refine wpAny_call (codeAny_mono (F.run X.A X.stack s H ⟨us, []⟩ (us ++ ds) (vs ++ dvs) Q E hr hG I.env0 (hb s us I.kIn hl) r2 h) fun r s' hq => ?_)
  cases r with
  | error e => exact hx pins σ H s e s' I hq
  | ok fl =>
    cases fl with
    | ret u => exact I.after hq
    | next => exact False.elim hq
    | brk => exact False.elim hq
    | cont => exact False.elim hq
theorem pe_callG {x : Str} {p pos : Pos} {e : Expr} {es : List Expr} {t : TA} (F : FnOkG X.prog X.w X.K X.mg X.base CX k f fd ps sp) (hr : Room k X.A) (hG : X.A.guards = some []) (hg : Gl X x) (hm : X.mg x = some (.ref f)) (hk : PySem.W.keepIn X.K (.ref f) = true) (hb : L2.Binds X.K fd ps ds) (hd : Vals dvs ds) (hx : Passes CX X E)
    (ha : PA X (e :: es) t) (hdb : (x == ("__debug__" : Str)) = false := by decide) (he : starEach (e :: es) X.env = (false, eval e X.env) :: starEach es X.env := by rfl) (hpl : (backTo pos (starEach es X.env)).any (·.1) = false := by rfl) :
    PE X (.Call (.Name x p) (e :: es) [] pos) (tCall sp dvs E t) := by
  refine ⟨fun pins s σ H Q I h => ?_⟩
  refine wpAny_Call_Name_kw (ld_glob I hg hm ?_ hdb)
  refine PySem.W.callWith_K (h₀ := X.base) I.ok.mod.kin hk (thn (ha.run pos pins s σ H _ I h) fun us s1 ⟨vs, H1, I1, r, q⟩ => ⟨I1.kIn, ?_⟩) he hpl
  exact run_fnG F hr hG hb hd hx I1 r q
theorem pe_callK0 {x : Str} {p pos : Pos} {kws : List Keyword} {ks : List Str} {tk : TA} {g : List Value → List Value → List Value} {gV : List V → List V → List V} (F : FnOk X.prog X.w X.K X.mg X.base CX k f fd ps sp) (hr : Room k X.A) (hg : Gl X x) (hm : X.mg x = some (.ref f)) (hk : PySem.W.keepIn X.K (.ref f) = true) (hb : KBinds X.K fd ps ks g gV) (hx : Passes CX X E)
    (hkw : PK X kws tk) (hall : (backToKw pos (keywordEach kws X.env)).all (·.1.isSome) = true := by rfl) (hks : (backToKw pos (keywordEach kws X.env)).filterMap (·.1) = ks := by rfl)
    (hdb : (x == ("__debug__" : Str)) = false := by decide)
    (hpl : ((backTo pos (starEach [] X.env)).any (·.1) || (backToKw pos (keywordEach kws X.env)).any (·.1.isNone)) = false := by rfl) :
    PE X (.Call (.Name x p) [] kws pos) (tCallK sp gV E tNil tk) := by
  refine ⟨fun pins s σ H Q I h => ?_⟩
  refine wpAny_Call_Name_kw (ld_glob I hg hm ?_ hdb)
  refine PySem.W.callWith_KW0 (h₀ := X.base) I.ok.mod.kin hk hall ?_ hpl
  refine thn (hkw.run pos pins s σ H _ I h) fun ws s2 ⟨zs, H2, I2, rz, q2⟩ => ⟨I2.kIn, ?_⟩
  rw [hks]
  exact run_fnk F hr hb hx I2 .nil rz q2
def rRepr (K : PySem.W.Frag) : List V → Hp → VK → Prop := fun xs H Q => ∃ a d, xs = [.ref a] ∧ Dp K H (.ref a) d ∧ d.showable = true ∧ d.hasDict = false ∧ d.depth ≤ 60 ∧ d.shown.length ≤ sizeLine ∧ Q (.str d.shown) H
theorem cr_repr (hG : X.A.guards = some []) (hu : X.A.units + 64 < cLine) : CallR X (.builtin "repr") (rRepr X.K) := by
  intro pins s σ H xs us Q I r h
  obtain ⟨a, d, rfl, hD, hs, hh, hd, hz, q⟩ := h
  obtain ⟨u, rfl, ru⟩ := vals1 r
  obtain rfl : u = Value.ref a := ru
  obtain ⟨as, R⟩ := hD.reads I _ _ (Value.ref a) rfl
  refine repr_of_reads' R hs (PyData.noDict_hsm hh) hG (by omega) (fun _ _ e => e) (fun h' u tk hk => ?_) hz
  exact ⟨.str d.shown, H, I.kept hk, ⟨u, rfl⟩, q⟩
end
section
variable {P : Program} {w : World} {K : PySem.W.Frag} {mg : Str → Option Value} {base : Heap}
theorem okG {x qual : Str} {st : Stmt} {f : Addr} {fd : FuncData} {N ps : List Str} {k : Nat} {sp : Sp} (F : Fun K x qual st f fd) (S : FnScope N ps (defScope st)) (len : ∀ vs H Q E, sp vs H Q E → vs.length = ps.length)
    (hbody : ∀ (cdv : Value) (A : Around) (outer : List Env) (s : Shared) (H : Hp) (vs : List V) (Q : VK) (E : XK), Room k (A.deeper (envOfC qual (defScope st) s.heap.objs.size f cdv)) → (A.deeper (envOfC qual (defScope st) s.heap.objs.size f cdv)).guards = some [] → sp vs H Q E →
      ∃ t, PSs (cxOf CX0 P w K mg base N qual (defScope st) f cdv A outer s H E).nox (defBody st) t ∧ t { nx := fun _ H' => Q .non H', rt := Q } (start N vs) H) : FnOkG P w K mg base CX0 (k + 1) f fd ps sp := by
  obtain ⟨oc, od, kV, doc, pm, an, cdv, ct, osl, rfl, lk, hcd⟩ := F.ex
  refine ⟨len, fun A outer s H args us vs Q E hr hG e0 hb r hsp => ?_⟩
  -- what fn_of does, at A alone
  have hl := len _ _ _ _ hsp
  have KX : K.In s.heap := e0.mod.kin.keeps fun b o e => (e0.bs b o e).1
  have lim : s.heap.NoLimit := e0.mod.nolimit.keeps fun b o e => (e0.bs b o e).1
  have hkind : ∀ y ∈ ps.zip us, (defScope st).names.lookup y.1 = some .local ∨ ((defScope st).names.lookup y.1 = some .cell ∧ ((cellsFrom (s.heap.objs.size + 1) (defScope st).names []).lookup y.1).isSome = true) := fun ⟨n, v⟩ hy => by
    rcases S.par n (List.of_mem_zip hy).1 with q | q
    · exact .inl q
    · exact .inr ⟨q, PySem.W.cellsFrom_some _ _ _ (.inl q)⟩
  refine codeAny_call_function hr.depth (KX _ _ lk) rfl S.co S.gen rfl (PySem.W.codeRec_of KX hcd) (hb _ _ _ _ ?_)
  refine wpAny_newFunctionEnv_cells S.kind hkind fun env he s1 x => ?_
  subst he
  refine ⟨lim.keeps x.toInCall.keep, codeAny_func ?_⟩
  obtain ⟨t, ht, hq⟩ := hbody cdv A outer s H vs Q E (hr.deeper _) hG hsp
  have I : Inv (cxOf CX0 P w K mg base N qual (defScope st) f cdv A outer s H E) [] (start N vs) H s1 := inv_start S hr.hd e0 hl r x
  refine wpAny_mono (ht.nox.run [] s1 (start N vs) H _ I hq) (fun fl s' hs => ?_) fun e s' hs => hs
  have fin : ∀ {σ' : L2.St} {H' : Hp} {v : V} {u : Value}, Inv (cxOf CX0 P w K mg base N qual (defScope st) f cdv A outer s H E) [] σ' H' s' → RelV v u → Q v H' → CE outer P w H s Q u s' :=
    fun {σ' H' v u} J rv q => ⟨v, H', J.os, J.bare, J.base, J.hok, rv, q⟩
  cases fl with
  | ret u =>
    obtain ⟨v, σ', H', J, rv, q⟩ := hs
    exact fin J rv q
  | next =>
    obtain ⟨σ', H', J, q⟩ := hs
    exact fin (v := V.non) (u := Value.none) J rfl q
  | brk =>
    obtain ⟨_, _, _, q⟩ := hs
    exact False.elim q
  | cont =>
    obtain ⟨_, _, _, q⟩ := hs
    exact False.elim q
end
end G8
set_option Elab.async false
set_option linter.all false
set_option maxRecDepth 100000
set_option maxHeartbeats 4000000
namespace DL
open PySem PySem.Spec PyProof.Rows L2
open Evl (Ex)
mutual
def toPy : D → PyData
  | .non => .none
  | .bl b => .bool b
  | .int i => .int i
  | .str s => .str s
  | .lst l => .list (toPys l)
  | .tup l => .tuple (toPys l)
  | .ty _ => .none
  | .dk _ _ => .none
  | .dt _ _ => .none
  | .ob _ => .none
  | .rg _ => .none
def toPys : List D → List PyData
  | [] => []
  | d :: ds => toPy d :: toPys ds
end
mutual
def isPy : D → Bool
  | .non => true
  | .bl _ => true
  | .int _ => true
  | .str _ => true
  | .lst l => isPys l
  | .tup l => isPys l
  | .ty _ => false
  | .dk _ _ => false
  | .dt _ _ => false
  | .ob _ => false
  | .rg _ => false
def isPys : List D → Bool
  | [] => true
  | d :: ds => isPy d && isPys ds
end
theorem isPys_all : ∀ l : List D, isPys l = l.all isPy
  | [] => by simp only [isPys, List.all_nil]
  | d :: l => by simp only [isPys, List.all_cons, isPys_all l]
section
variable {R : OR} {K : PySem.W.Frag} {B H : Hp}
mutual
theorem dp_of (bh : Ex B H) : ∀ (d : D) {v : V}, Rp R B v d → isPy d = true → Dp K H v (toPy d)
  | .non, v, h, _ => by simp only [Rp] at h; subst h; simp only [toPy]; exact .non
  | .bl _, v, h, _ => by simp only [Rp] at h; subst h; simp only [toPy]; exact .bl _
  | .int _, v, h, _ => by simp only [Rp] at h; subst h; simp only [toPy]; exact .int _
  | .str _, v, h, _ => by simp only [Rp] at h; subst h; simp only [toPy]; exact .str _
  | .lst l, v, h, k => by
    simp only [Rp] at h
    simp only [isPy] at k
    obtain ⟨p, vs, rfl, hp, a⟩ := h
    simp only [toPy]
    exact .lst (Evl.sq_of (bh _ _ hp)) (dpa_of bh l a k)
  | .tup l, v, h, k => by
    simp only [Rp] at h
    simp only [isPy] at k
    obtain ⟨p, vs, rfl, hp, a⟩ := h
    simp only [toPy]
    exact .tup (Evl.st_of (bh _ _ hp)) (dpa_of bh l a k)
  | .ty _, _, _, k => by simp [isPy] at k
  | .dk _ _, _, _, k => by simp [isPy] at k
  | .dt _ _, _, _, k => by simp [isPy] at k
  | .ob _, _, _, k => by simp [isPy] at k
  | .rg _, _, _, k => by simp [isPy] at k
theorem dpa_of (bh : Ex B H) : ∀ (l : List D) {vs : List V}, RpA R B vs l → isPys l = true → DpAll K H vs (toPys l)
  | [], [], _, _ => by simp only [toPys]; exact .nil
  | d :: l, v :: vs, h, k => by
    simp only [RpA] at h
    simp only [isPys, Bool.and_eq_true] at k
    simp only [toPys]
    exact .cons (dp_of bh d h.1 k.1) (dpa_of bh l h.2 k.2)
  | [], _ :: _, h, _ => by simp only [RpA] at h
  | _ :: _, [], h, _ => by simp only [RpA] at h
end
theorem dp_w {P : Option Addr} {v : V} {d : D} (bh : Ex B H) (h : RpW R P B H v d) (k : isPy d = true) : Dp K H v (toPy d) := by
  cases d with
  | lst l =>
    obtain ⟨p, vs, rfl, hp, a⟩ := h.lst bh
    simp only [isPy] at k
    simp only [toPy]
    exact .lst (Evl.sq_of hp) (dpa_of bh l a k)
  | _ =>
    rcases h with h | h
    · exact dp_of bh _ h k
    · first
      | exact h.elim
      | (simp [isPy] at k)
end
section
variable {R : OR} {K : PySem.W.Frag}
theorem res_same {P : Option Addr} {B H : Hp} {Q : VK} {k : DK} {d : D} {v : V} (bh : Ex B H) (po : PotOk P H) (hk : k d) (r : ∀ B, Rp R B v d) (q : ∀ d v B' H', k d → Step P B H B' H' → PotOk P H' → Rp R B' v d → Q v H') : Q v H := q d v B H hk (.refl bh) po (r B)
theorem res_lst {P : Option Addr} {B H : Hp} {Q : VK} {k : List D → Prop} {l : List D} {vs : List V} {p : Addr} (bh : Ex B H) (po : PotOk P H) (hk : k l) (r : RpA R B vs l) (hp : H p = none) (q : ∀ l p vs B' H', k l → Step P B H B' H' → PotOk P H' → H p = none → B' p = none → H' p = some (.lst vs) → RpA R B' vs l → Q (.ref p) H') : Q (.ref p) (upd H p (.lst vs)) :=
  q l p vs B _ hk ⟨Ex.refl _, bh.trans (Ex.new hp), ExP.of (Ex.new hp), fun _ _ h => .inl h⟩ (po.ex (Ex.new hp)) hp (Evl.fresh_back bh hp) upd_same r
theorem res_tup {P : Option Addr} {B H : Hp} {Q : VK} {k : DK} {l : List D} {vs : List V} {p : Addr} (bh : Ex B H) (po : PotOk P H) (hk : k (.tup l)) (r : RpA R B vs l) (hp : H p = none) (q : ∀ d v B' H', k d → Step P B H B' H' → PotOk P H' → Rp R B' v d → Q v H') : Q (.ref p) (upd H p (.tup vs)) := by
  have hb : B p = none := Evl.fresh_back bh hp
  refine q (.tup l) (.ref p) (upd B p (.tup vs)) _ hk ⟨Ex.new hb, fun b u k => ?_, ExP.of (Ex.new hp), fun b u k => ?_⟩ (po.ex (Ex.new hp)) (rp_tup upd_same (r.mono (Ex.new hb) l))
  · by_cases e : b = p
    · subst e; rw [upd_same] at k ⊢; exact k
    · rw [upd_ne e] at k ⊢; exact bh b u k
  · by_cases e : b = p
    · subst e; exact .inr (.inl hp)
    · rw [upd_ne e] at k; exact .inl k
def fI (g : Int → Int → D) : D → D → DK → Prop := fun a b k => match a, b with
  | .int i, .int j => k (g i j)
  | _, _ => False
theorem od_I0 {f : Int → Int → V} {g : Int → Int → D} (hg : ∀ i j B, Rp R B (f i j) (g i j)) : OpD R (rI0 f) (fI g) := fun P B H x y a b Q k bh po ra rb hf q => by
  cases a with
  | int i =>
    cases b with
    | int j =>
      have := ra.int
      have := rb.int
      subst x; subst y
      exact ⟨i, j, rfl, rfl, res_same bh po hf (hg i j) q⟩
    | _ => exact hf.elim
  | _ => exact hf.elim
def subD : D → D → DK → Prop := fI fun i j => .int (i - j)
def ltD : D → D → DK → Prop := fI fun i j => .bl (decide (i < j))
def leD : D → D → DK → Prop := fI fun i j => .bl (decide (i ≤ j))
def gtD : D → D → DK → Prop := fI fun i j => .bl (decide (j < i))
def geD : D → D → DK → Prop := fI fun i j => .bl (decide (j ≤ i))
theorem od_sub : OpD R (rI0 fun i j => .int (i - j)) subD := od_I0 fun _ _ _ => rp_int
theorem od_lt : OpD R (rI0 fun i j => .bl (decide (i < j))) ltD := od_I0 fun _ _ _ => rp_bl
theorem od_le : OpD R (rI0 fun i j => .bl (decide (i ≤ j))) leD := od_I0 fun _ _ _ => rp_bl
theorem od_gt : OpD R (rI0 fun i j => .bl (decide (j < i))) gtD := od_I0 fun _ _ _ => rp_bl
theorem od_ge : OpD R (rI0 fun i j => .bl (decide (j ≤ i))) geD := od_I0 fun _ _ _ => rp_bl
def rStrAdd : R2 := fun x y H Q => ∃ i j, x = .str i ∧ y = .str j ∧ i.length + j.length ≤ sizeLine ∧ Q (.str (i ++ j)) H
def rAddU (K : PySem.W.Frag) : R2 := fun x y H Q => rI0 (fun i j => .int (i + j)) x y H Q ∨ (rCat x y H Q ∨ (rCatA K x y H Q ∨ rStrAdd x y H Q))
theorem op_addU {X : Cx} : OpR X (binaryOp .Add) (rAddU X.K) := op_add.or (op_cat.or (op_catA.or op_add_str))
def addD : D → D → DK → Prop := fun a b k => match a, b with
  | .int i, .int j => k (.int (i + j))
  | .tup l, .tup m => l.length + m.length ≤ 100000 ∧ k (.tup (l ++ m))
  | .str i, .str j => i.length + j.length ≤ 100000 ∧ k (.str (i ++ j))
  | _, _ => False
def catD : D → D → (List D → Prop) → Prop := fun a b k => match a, b with
  | .lst l, .lst m => l.length + m.length ≤ 100000 ∧ k (l ++ m)
  | _, _ => False
theorem od_add : OpD R (rAddU K) addD := fun P B H x y a b Q k bh po ra rb hf q => by
  cases a with
  | int i =>
    cases b with
    | int j => exact .inl (od_I0 (R := R) (g := fun i j => .int (i + j)) (fun _ _ _ => rp_int) P B H x y (.int i) (.int j) Q k bh po ra rb hf q)
    | _ => exact hf.elim
  | tup l =>
    cases b with
    | tup m =>
      obtain ⟨p, vs, rfl, hbp, hp, al⟩ := ra.tup bh
      obtain ⟨p', vs', rfl, hbp', hp', am⟩ := rb.tup bh
      have hf : l.length + m.length ≤ 100000 ∧ k (.tup (l ++ m)) := hf
      refine .inr (.inr (.inl ⟨p, p', vs, vs', rfl, rfl, Evl.st_of hp, Evl.st_of hp', Evl.sz_of (by rw [al.len, am.len]; exact hf.1), fun e => ?_, fun _ e => ?_, fun _ _ c hc => res_tup bh po hf.2 (al.app am) hc q⟩))
      · have : l = [] := by
          have := al.len
          rw [e] at this
          exact List.length_eq_zero_iff.mp this.symm
        subst this
        exact q _ _ B H hf.2 (.refl bh) po (rp_tup hbp' am)
      · have : m = [] := by
          have := am.len
          rw [e] at this
          exact List.length_eq_zero_iff.mp this.symm
        subst this
        rw [List.append_nil] at hf
        exact q _ _ B H hf.2 (.refl bh) po (rp_tup hbp al)
    | _ => exact hf.elim
  | str i =>
    cases b with
    | str j =>
      have := ra.str
      have := rb.str
      subst x; subst y
      have hf : i.length + j.length ≤ 100000 ∧ k (.str (i ++ j)) := hf
      exact .inr (.inr (.inr ⟨i, j, rfl, rfl, Evl.sz_of hf.1, res_same bh po hf.2 (fun _ => rp_str) q⟩))
    | _ => exact hf.elim
  | _ => exact hf.elim
theorem of_cat : OpF R (rAddU K) catD := fun P B H x y a b Q k bh po ra rb hf q => by
  cases a with
  | lst l =>
    cases b with
    | lst m =>
      obtain ⟨p, vs, rfl, hp, al⟩ := ra.lst bh
      obtain ⟨p', vs', rfl, hp', am⟩ := rb.lst bh
      have hf : l.length + m.length ≤ 100000 ∧ k (l ++ m) := hf
      exact .inr (.inl ⟨p, p', vs, vs', rfl, rfl, hp, hp', Evl.sz_of (by rw [al.len, am.len]; exact hf.1), fun c hc => res_lst bh po hf.2 (al.app am) hc q⟩)
    | _ => exact hf.elim
  | _ => exact hf.elim
def eqD : D → D → DK → Prop := fun a b k => (isPy a = true ∧ isPy b = true ∧ SeqAt.shaped (toPy a) = true ∧ SeqAt.shaped (toPy b) = true) ∧ k (.bl (PyData.eqv (toPy a) (toPy b)))
def neD : D → D → DK → Prop := fun a b k => (isPy a = true ∧ isPy b = true ∧ SeqAt.shaped (toPy a) = true ∧ SeqAt.shaped (toPy b) = true) ∧ k (.bl (!PyData.eqv (toPy a) (toPy b)))
theorem od_eq : OpD R (rEqD K) eqD := fun P B H x y a b Q k bh po ra rb hf q =>
  ⟨_, _, dp_w bh ra hf.1.1, dp_w bh rb hf.1.2.1, hf.1.2.2.1, hf.1.2.2.2, res_same bh po hf.2 (fun _ => rp_bl) q⟩
theorem od_ne : OpD R (rNeD K) neD := fun P B H x y a b Q k bh po ra rb hf q =>
  ⟨_, _, dp_w bh ra hf.1.1, dp_w bh rb hf.1.2.1, hf.1.2.2.1, hf.1.2.2.2, res_same bh po hf.2 (fun _ => rp_bl) q⟩
def isNonD : D → Bool
  | .non => true
  | _ => false
def plainD : D → Bool
  | .ob _ => false
  | _ => true
def isD : D → D → DK → Prop := fun a b k => b = .non ∧ plainD a = true ∧ k (.bl (isNonD a))
def flV : D → Option V
  | .non => some .non
  | .bl b => some (.bl b)
  | .int i => some (.int i)
  | .str s => some (.str s)
  | _ => none
theorem flV_rp {B : Hp} {v u : V} {d : D} (h : flV d = some u) (r : Rp R B v d) : v = u ∧ flatV u = true := by
  cases d <;> simp only [flV, Option.some.injEq, reduceCtorEq] at h <;> subst h <;> simp only [Rp] at r <;> exact ⟨r, rfl⟩
theorem flVs_rp {B : Hp} : ∀ {vs us : List V} {ds : List D}, ds.map flV = us.map some → RpA R B vs ds → vs = us ∧ us.all flatV = true
  | [], [], [], _, _ => ⟨rfl, rfl⟩
  | v :: vs, u :: us, d :: ds, h, r => by
    simp only [List.map_cons, List.cons.injEq] at h
    simp only [RpA] at r
    obtain ⟨e1, f1⟩ := flV_rp h.1 r.1
    obtain ⟨e2, f2⟩ := flVs_rp h.2 r.2
    exact ⟨by rw [e1, e2], by rw [List.all_cons, f1, f2]; rfl⟩
  | _, [], d :: ds, h, _ => by simp at h
  | _, u :: us, [], h, _ => by simp at h
  | [], _ :: _, d :: ds, _, r => by simp only [RpA] at r
  | _ :: _, _, [], _, r => by simp only [RpA] at r
def inD (neg : Bool) : D → D → DK → Prop := fun a b k => ∃ l, seqD b = some l ∧ ((∃ u us, flV a = some u ∧ l.map flV = us.map some ∧ k (.bl (if neg then !inV u us else inV u us))) ∨
  (b = .lst l ∧ (isPy a = true ∧ isPys l = true ∧ SeqAt.shaped (toPy a) = true ∧ SeqAt.shaped (.list (toPys l)) = true) ∧ k (.bl (if neg then !((toPys l).any fun z => PyData.eqv z (toPy a)) else (toPys l).any fun z => PyData.eqv z (toPy a)))))
def rInU (K : PySem.W.Frag) (neg : Bool) : R2 := fun x y H Q => rIn K neg x y H Q ∨ (if neg then rNotInD K x y H Q else rInD K x y H Q)
theorem op_inU {X : Cx} (hu : X.A.units + 65 < cLine) : OpR X (compareOp .In) (rInU X.K false) := op_in_seq.or (op_inD hu)
theorem op_notInU {X : Cx} (hu : X.A.units + 65 < cLine) : OpR X (compareOp .NotIn) (rInU X.K true) := op_notIn_seq.or (op_notInD hu)
theorem od_in {neg : Bool} : OpD R (rInU K neg) (inD neg) := fun P B H x y a b Q k bh po ra rb hf q => by
  obtain ⟨l, hl, h⟩ := hf
  obtain ⟨p, vs, rfl, hp, al⟩ := rb.seq bh hl
  rcases h with ⟨u, us, h1, h2, hk⟩ | ⟨rfl, h, hk⟩
  · have ra' : Rp R B x a := by
      rcases ra with r | r
      · exact r
      · cases a <;> simp [flV] at h1 <;> exact r.elim
    obtain ⟨rfl, f1⟩ := flV_rp h1 ra'
    obtain ⟨rfl, f2⟩ := flVs_rp h2 al
    refine .inl ⟨p, vs, rfl, ?_, f1, f2, res_same bh po hk (fun _ => rp_bl) q⟩
    rcases hp with hp | hp
    · exact .inl (Evl.sq_of hp)
    · exact .inr (Evl.st_of hp)
  · refine .inr ?_
    have d1 := dp_w (K := K) bh ra h.1
    have d2 := dp_w (K := K) bh rb (show isPy (.lst l) = true by simp only [isPy]; exact h.2.1)
    simp only [toPy] at d2
    cases neg with
    | false => exact ⟨_, _, d1, d2, h.2.2.1, h.2.2.2, res_same bh po hk (fun _ => rp_bl) q⟩
    | true => exact ⟨_, _, d1, d2, h.2.2.1, h.2.2.2, res_same bh po hk (fun _ => rp_bl) q⟩
theorem RpA.atI {B : Hp} {vs : List V} {l : List D} {i : Int} {d : D} (r : RpA R B vs l) (h : L2.atI l i = some d) : ∃ v, L2.atI vs i = some v ∧ Rp R B v d := by
  unfold L2.atI at h ⊢
  rw [r.len]
  cases e : ixN l.length i with
  | none => rw [e] at h; cases h
  | some j =>
    rw [e] at h
    exact r.get h
def ixD : D → D → DK → Prop := fun a b k => match a, b with
  | .lst l, .int i => ∃ d, L2.atI l i = some d ∧ k d
  | .tup l, .int i => ∃ d, L2.atI l i = some d ∧ k d
  | .str s, .int i => s.length ≤ 100000 ∧ ∃ c, L2.atI s.cps.toList i = some c ∧ k (.str ⟨#[c]⟩)
  | _, _ => False
theorem od_ix : OpD R (rIx K) ixD := fun P B H x y a b Q k bh po ra rb hf q => by
  cases b with
  | int i =>
    have := rb.int
    subst y
    cases a with
    | lst l =>
      obtain ⟨p, vs, rfl, hp, al⟩ := ra.lst bh
      obtain ⟨d, hd, hk⟩ := hf
      obtain ⟨v, hv, rv⟩ := al.atI hd
      exact .inl ⟨p, vs, i, v, rfl, rfl, Evl.sq_of hp, hv, q d v B H hk (.refl bh) po rv⟩
    | tup l =>
      obtain ⟨p, vs, rfl, _, hp, al⟩ := ra.tup bh
      obtain ⟨d, hd, hk⟩ := hf
      obtain ⟨v, hv, rv⟩ := al.atI hd
      exact .inr (.inl ⟨p, vs, i, v, rfl, rfl, Evl.st_of hp, hv, q d v B H hk (.refl bh) po rv⟩)
    | str s =>
      have := ra.str
      subst x
      obtain ⟨hl, c, hc, hk⟩ := hf
      exact .inr (.inr ⟨s, i, c, rfl, rfl, Evl.sz_of hl, hc, res_same bh po hk (fun _ => rp_str) q⟩)
    | _ => exact hf.elim
  | _ => cases a <;> exact hf.elim
def cutD (l : List D) (lo hi : Option Int) : List D := (l.drop (HT.sIx l.length 0 lo)).take (HT.sIx l.length l.length hi - HT.sIx l.length 0 lo)
theorem RpA.cut {B : Hp} {vs : List V} {l : List D} (r : RpA R B vs l) (lo hi : Option Int) : RpA R B (cutV vs lo hi) (cutD l lo hi) := by
  unfold cutV cutD
  rw [r.len]
  exact (r.drop _).take _
def rSlU (K : PySem.W.Frag) : V → Option Int → Option Int → Hp → VK → Prop := fun x lo hi H Q => rSlL K x lo hi H Q ∨ rSlA K x lo hi H Q
theorem sl_U {X : Cx} : SlR X (rSlU X.K) := sl_list.or sl_tupA
def slF : D → Option Int → Option Int → (List D → Prop) → Prop := fun a lo hi k => match a with
  | .lst l => k (cutD l lo hi)
  | _ => False
def slD : D → Option Int → Option Int → DK → Prop := fun a lo hi k => match a with
  | .tup l => k (.tup (cutD l lo hi))
  | _ => False
theorem sf_sl : SlF R (rSlU K) slF := fun P B H x a lo hi Q k bh po ra hf q => by
  cases a with
  | lst l =>
    obtain ⟨p, vs, rfl, hp, al⟩ := ra.lst bh
    exact .inl ⟨p, vs, rfl, Evl.sq_of hp, fun c hc => res_lst bh po hf (al.cut lo hi) hc q⟩
  | _ => exact hf.elim
theorem sd_sl : SlD R (rSlU K) slD := fun P B H x a lo hi Q k bh po ra hf q => by
  cases a with
  | tup l =>
    obtain ⟨p, vs, rfl, hbp, hp, al⟩ := ra.tup bh
    refine .inr ⟨p, vs, rfl, Evl.st_of hp, fun ⟨e1, e2⟩ => ?_, fun _ c hc => res_tup bh po hf (al.cut lo hi) hc q⟩
    refine q _ _ B H hf (.refl bh) po (rp_tup hbp ?_)
    have : cutV vs lo hi = vs := by
      unfold cutV
      rw [e1, e2]
      simp
    have z := al.cut lo hi
    rw [this] at z
    exact z
  | _ => exact hf.elim
def lenD : D → DK → Prop := fun a k => match a with
  | .lst l => k (.int (l.length : Int))
  | .tup l => k (.int (l.length : Int))
  | .str s => s.length ≤ 100000 ∧ k (.int (s.length : Int))
  | _ => False
theorem ud_len : UnD R (fun x H Q => Ep.rLenA K [x] H Q) lenD := fun P B H x a Q k bh po ra hf q => by
  cases a with
  | lst l =>
    obtain ⟨p, vs, rfl, hp, al⟩ := ra.lst bh
    refine ⟨_, vs.length, rfl, .inl ⟨vs, Evl.sq_of hp, rfl⟩, ?_⟩
    rw [al.len]
    exact res_same bh po hf (fun _ => rp_int) q
  | tup l =>
    obtain ⟨p, vs, rfl, _, hp, al⟩ := ra.tup bh
    refine ⟨_, vs.length, rfl, .inr ⟨vs, Evl.st_of hp, rfl⟩, ?_⟩
    rw [al.len]
    exact res_same bh po hf (fun _ => rp_int) q
  | str s =>
    have := ra.str
    subst x
    exact ⟨_, s.length, rfl, ⟨Evl.sz_of hf.1, rfl⟩, res_same bh po hf.2 (fun _ => rp_int) q⟩
  | _ => exact hf.elim
def anyD : D → DK → Prop := fun a k => ∃ bs : List Bool, a = .lst (bs.map .bl) ∧ k (.bl (bs.any id))
def allD : D → DK → Prop := fun a k => ∃ bs : List Bool, a = .lst (bs.map .bl) ∧ k (.bl (bs.all id))
theorem ud_any : UnD R (fun x H Q => rAny K [x] H Q) anyD := fun P B H x a Q k bh po ra hf q => by
  obtain ⟨ns, rfl, hk⟩ := hf
  obtain ⟨p, vs, rfl, hp, al⟩ := ra.lst bh
  rw [al.bls] at hp
  exact ⟨p, ns, rfl, Evl.sq_of hp, res_same bh po hk (fun _ => rp_bl) q⟩
theorem ud_all : UnD R (fun x H Q => rAll K [x] H Q) allD := fun P B H x a Q k bh po ra hf q => by
  obtain ⟨ns, rfl, hk⟩ := hf
  obtain ⟨p, vs, rfl, hp, al⟩ := ra.lst bh
  rw [al.bls] at hp
  exact ⟨p, ns, rfl, Evl.sq_of hp, res_same bh po hk (fun _ => rp_bl) q⟩
def listF : D → (List D → Prop) → Prop := fun a k => match a with
  | .lst l => k l
  | .tup l => k l
  | _ => False
theorem uf_list : UnF R (fun x H Q => Ep.rListOf K [x] H Q) listF := fun P B H x a Q k bh po ra hf q => by
  have go : ∀ l, seqD a = some l → k l → Ep.rListOf K [x] H Q := fun l e hk => by
    obtain ⟨p, vs, rfl, hp, al⟩ := ra.seq bh e
    refine ⟨p, vs, rfl, ?_, fun c hc => res_lst bh po hk al hc q⟩
    rcases hp with hp | hp
    · exact .inl (Evl.sq_of hp)
    · exact .inr (Evl.st_of hp)
  cases a with
  | lst l => exact go l rfl hf
  | tup l => exact go l rfl hf
  | _ => exact hf.elim
def tupD : D → DK → Prop := fun a k => match a with
  | .lst l => k (.tup l)
  | .tup l => k (.tup l)
  | _ => False
theorem ud_tup : UnD R (fun x H Q => Ep.rTupOf K [x] H Q) tupD := fun P B H x a Q k bh po ra hf q => by
  cases a with
  | lst l =>
    obtain ⟨p, vs, rfl, hp, al⟩ := ra.lst bh
    exact ⟨p, vs, rfl, .inl ⟨Evl.sq_of hp, fun c hc => res_tup bh po hf al hc q⟩⟩
  | tup l =>
    obtain ⟨p, vs, rfl, hbp, hp, al⟩ := ra.tup bh
    exact ⟨p, vs, rfl, .inr ⟨Evl.st_of hp, q _ _ B H hf (.refl bh) po (rp_tup hbp al)⟩⟩
  | _ => exact hf.elim
def sortF : D → (List D → Prop) → Prop := fun a k => match a with
  | .lst l => (isPys l = true ∧ PySem.W.AllAlike (l.map toPy) ∧ PySem.W.Sortable (l.map toPy) ∧ ∀ b ∈ l, (toPy b).depth ≤ 50) ∧ k (l.mergeSort (PySem.W.dataLe false toPy))
  | _ => False
theorem RpA.paired {B : Hp} : ∀ {vs : List V} {l : List D}, RpA R B vs l → Paired (Rp R B) vs l
  | [], [], _ => .nil
  | v :: vs, d :: l, h => by
    simp only [RpA] at h
    exact .cons h.1 (RpA.paired h.2)
  | [], _ :: _, h => by simp only [RpA] at h
  | _ :: _, [], h => by simp only [RpA] at h
theorem uf_sort : UnF R (fun x H Q => SD.rSortD K [x] H Q) sortF := fun P B H x a Q k bh po ra hf q => by
  cases a with
  | lst l =>
    obtain ⟨p, vs, rfl, hp, al⟩ := ra.lst bh
    obtain ⟨⟨h1, h2, h3, h4⟩, hk⟩ := hf
    have py : ∀ d ∈ l, isPy d = true := fun d hd => by
      rw [isPys_all] at h1
      exact List.all_eq_true.mp h1 d hd
    refine ⟨D, fun v d => Rp R B v d ∧ isPy d = true, toPy, p, vs, l, rfl, Evl.sq_of hp, ?_, fun v d r => dp_of bh d r.1 r.2, h2, h3, h4, fun ys c hy hc => ?_⟩
    · have : ∀ {vs : List V} {l : List D}, RpA R B vs l → (∀ d ∈ l, isPy d = true) → Paired (fun v d => Rp R B v d ∧ isPy d = true) vs l := by
        intro vs l
        induction l generalizing vs with
        | nil =>
          intro h _
          cases vs with
          | nil => exact .nil
          | cons _ _ => simp only [RpA] at h
        | cons d l ih =>
          intro h g
          cases vs with
          | nil => simp only [RpA] at h
          | cons v vs =>
            simp only [RpA] at h
            exact .cons ⟨h.1, g d List.mem_cons_self⟩ (ih h.2 fun e he => g e (List.mem_cons_of_mem _ he))
      exact this al py
    · have : RpA R B ys (l.mergeSort (PySem.W.dataLe false toPy)) := by
        generalize l.mergeSort (PySem.W.dataLe false toPy) = m at hy
        induction hy with
        | nil => exact .nil
        | cons r _ ih => exact .cons r.1 ih
      exact res_lst bh po hk this hc q
  | _ => exact hf.elim
end
end DL
set_option Elab.async false
set_option linter.all false
set_option maxRecDepth 100000
set_option maxHeartbeats 4000000
namespace DL
open PySem PySem.Spec PyProof.Rows L2
open Evl (Ex)
def insLike : HO → Bool
  | .ins _ _ _ => true
  | .frz _ u => insLike u
  | _ => false
structure Clo (H B : Hp) : Prop where
  ex : Ex B H
  tup : ∀ b xs, H b = some (.tup xs) → B b = some (.tup xs)
  own1 : ∀ b a o, H b = some (.own a) → H a = some o → insLike o = true → B a = none → B b = none
  own2 : ∀ b a o, H b = some (.own a) → H a = some o → insLike o = true → B a ≠ none → B b = some (.own a)
theorem obj_move {P : Program} {w : World} {H H' : Hp} {h h' : Heap} {a : Addr} {o : HO} (x : ObjOk P w H h a o) (ka : ∀ u, h.get? a = some u → h'.get? a = some u) (ht : ∀ b xs, H b = some (.tup xs) → H' b = some (.tup xs))
    (ho : insLike o = true → ∀ b, H b = some (.own a) → H' b = some (.own a) ∧ ∀ u, h.get? b = some u → h'.get? b = some u) : ObjOk P w H' h' a o := by
  induction o with
  | lst xs => obtain ⟨z, its, n, r, e⟩ := x; exact ⟨z, its, n, r, ka _ e⟩
  | tup xs => obtain ⟨z, its, r, ob, e, c⟩ := x; exact ⟨z, its, r, ob, ka _ e, c⟩
  | dK kvs => obtain ⟨z, y, vs, r, ob, es, ep, e, c⟩ := x; exact ⟨z, y, vs, r, ob, es, ep, ka _ e, c⟩
  | dT kvs =>
    obtain ⟨z, y, xs, r, ob, es, ep, e, c⟩ := x
    exact ⟨z, y, xs, L2.Paired.mapP r fun p q z => ⟨z.1, ht _ _ z.2.1, z.2.2⟩, ob, es, ep, ka _ e, c⟩
  | set S n => obtain ⟨ob, es, ep, t, e, c⟩ := x; exact ⟨ob, es, ep, t, ka _ e, c⟩
  | ins C dx fs =>
    obtain ⟨d, z, ne, e, mA, ⟨od, es, ep, e2, c⟩, r⟩ := x
    exact ⟨(ho rfl _ d).1, z, ne, ka _ e, mA, ⟨od, es, ep, (ho rfl _ d).2 _ e2, c⟩, r⟩
  | own y => obtain ⟨ob, e⟩ := x; exact ⟨ob, ka _ e⟩
  | xd fs => obtain ⟨mA, ⟨od, es, ep, e, c⟩, r⟩ := x; exact ⟨mA, ⟨od, es, ep, ka _ e, c⟩, r⟩
  | rng lo hi => obtain ⟨t, u, v, e⟩ := x; exact ⟨t, u, v, ka _ e⟩
  | frz ob u ih => obtain ⟨e, q⟩ := x; exact ⟨ka _ e, ih q fun z => ho z⟩
  | tbl ps => exact ka _ (show h.get? a = some { cls := .none, data := .fields ps } from x)
  | met f y => exact ka _ (show h.get? a = some (PySem.W.methodObj (.ref f) (.ref y)) from x)
  | ext φ => obtain ⟨p, ⟨o, e⟩, st⟩ := x; exact ⟨st _ _ p fun o q => ka _ q, ⟨o, ka _ e⟩, st⟩
def spFr (sp : Sp) : Sp := fun vs H Q E => ∃ B, Clo H B ∧ sp vs B (fun v B' => ∀ H', Ex B' H' → (∀ b o, H b = some o → B b = none → H' b = some o) → (∀ b o, B' b = some o → B b ≠ none ∨ H b = none) → Q v H') E
theorem obj_there {P : Program} {w : World} {H : Hp} {h : Heap} {a : Addr} {o : HO} (x : ObjOk P w H h a o) : ∃ ob, h.get? a = some ob := by
  cases o with
  | lst xs => obtain ⟨_, _, _, _, e⟩ := x; exact ⟨_, e⟩
  | tup xs => obtain ⟨_, _, _, ob, e, _⟩ := x; exact ⟨_, e⟩
  | dK kvs => obtain ⟨_, _, _, _, o, _, _, e, _⟩ := x; exact ⟨_, e⟩
  | dT kvs => obtain ⟨_, _, _, _, o, _, _, e, _⟩ := x; exact ⟨_, e⟩
  | set S n => obtain ⟨o, _, _, _, e, _⟩ := x; exact ⟨_, e⟩
  | ins C dx fs => obtain ⟨_, _, _, e, _⟩ := x; exact ⟨_, e⟩
  | own y => exact x
  | xd fs => obtain ⟨_, ⟨_, _, _, e, _⟩, _⟩ := x; exact ⟨_, e⟩
  | rng lo hi => obtain ⟨_, _, _, e⟩ := x; exact ⟨_, e⟩
  | frz ob u => exact ⟨_, x.1⟩
  | tbl ps => exact ⟨_, x⟩
  | met f y => exact ⟨_, x⟩
  | ext φ => exact x.2.1
theorem fn_frame {P : Program} {w : World} {K : PySem.W.Frag} {mg : Str → Option Value} {base : Heap} {k : Nat} {f : Addr} {fd : FuncData} {ps : List Str} {sp : Sp} (F : FnOk P w K mg base CX0 k f fd ps sp) : FnOk P w K mg base CX0 k f fd ps (spFr sp) := by
  refine ⟨fun vs H Q E ⟨B, _, h⟩ => F.len _ _ _ _ h, fun A outer s H args us vs Q E hr he hb hv ⟨B, c, h⟩ => ?_⟩
  have bn : ∀ {b}, H b = none → B b = none := fun z => Evl.fresh_back c.ex z
  have e2 : Env0 P w K mg base A outer s B := ⟨he.frames, he.mod, fun b o z => ⟨(he.bs b o z).1, bn (he.bs b o z).2⟩, he.bsz, he.funs, fun b z => bn (he.frf b z), fun a o z =>
    obj_move (he.hok a o (c.ex a o z)) (fun u q => q) (fun b xs q => c.tup b xs q) (fun hi b q => ⟨c.own2 b a o q (c.ex a o z) hi (fun w => by rw [z] at w; cases w), fun u q => q⟩), he.bare⟩
  refine codeAny_mono (F.run A outer s B args us vs _ E hr e2 hb hv h) fun r s' hq => ?_
  match r, hq with
  | .ok (.ret u), hq =>
    obtain ⟨v, B', os, bare, un, hok, r, q⟩ := hq
    let H' : Hp := fun b => match B' b with
      | some o => some o
      | none => match B b with
        | some _ => none
        | none => H b
    have h1 : ∀ b o, B' b = some o → H' b = some o := fun b o z => by
      show (match B' b with | some o => some o | none => match B b with | some _ => none | none => H b) = _
      rw [z]
    have h2 : ∀ b, B' b = none → B b = none → H' b = H b := fun b z w => by
      show (match B' b with | some o => some o | none => match B b with | some _ => none | none => H b) = _
      rw [z, w]
    have old : ∀ b o, H b = some o → B b = none → B' b = none := fun b o z w => by
      obtain ⟨ob, hob⟩ := obj_there (he.hok b o z)
      exact un.free b ob hob w (by simp)
    have h3 : ∀ b o, H b = some o → B b = none → H' b = some o := fun b o z w => by rw [h2 b (old b o z w) w]; exact z
    have hnew : ∀ b o, B' b = some o → B b ≠ none ∨ H b = none := fun b o z => by
      cases w : B b with
      | some u => exact .inl (fun y => nomatch y)
      | none =>
        cases y : H b with
        | none => exact .inr rfl
        | some u => rw [old b u y w] at z; cases z
    refine ⟨v, H', os, bare, ⟨fun b o q n x y => un.keep b o q (bn n) x y, fun b o q n x y => un.slot b o q (bn n) x y, fun b o q n y => ?_, un.there, fun b xs q => ?_, fun b o u q => ?_, fun b pt q => ?_⟩, fun a o q => ?_, r, q H' h1 h3 hnew⟩
    · rw [h2 b (un.free b o q (bn n) y) (bn n)]
      exact n
    · exact h1 _ _ (un.tups b xs (c.tup b xs q))
    · cases z : B b with
      | none => exact h3 b _ q z
      | some o2 =>
        have := c.ex b o2 z
        rw [q] at this
        cases this
        exact h1 _ _ (un.frzs b o u z)
    · cases z : B b with
      | none => exact ⟨#[], by rw [h3 b _ q z]; simp⟩
      | some o2 =>
        have := c.ex b o2 z
        rw [q] at this
        cases this
        obtain ⟨more, hm⟩ := un.tbls b pt z
        exact ⟨more, h1 _ _ hm⟩
    · cases z : B' a with
      | some o2 =>
        have := h1 a o2 z
        rw [q] at this
        cases this
        exact obj_move (hok a o z) (fun u q => q) (fun b xs q => h1 _ _ q) (fun _ b q => ⟨h1 _ _ q, fun u q => q⟩)
      | none =>
        have ba : B a = none := by
          cases y : B a with
          | none => rfl
          | some u =>
            have : (match B' a with | some o => some o | none => match B a with | some _ => none | none => H a) = some o := q
            rw [z, y] at this
            cases this
        rw [h2 a z ba] at q
        have fr : a ∉ frs outer := fun m => by rw [he.frf a m] at q; cases q
        refine obj_move (he.hok a o q) (fun u hu => un.keep a u hu ba fr (by simp)) (fun b xs hb => h1 _ _ (un.tups b xs (c.tup b xs hb))) fun hi b hb => ?_
        have bb := c.own1 b a o hb q hi ba
        refine ⟨h3 b _ hb bb, fun u hu => un.keep b u hu bb (fun m => ?_) (by simp)⟩
        rw [he.frf b m] at hb
        cases hb
  | .ok .next, hq => exact hq.elim
  | .ok .brk, hq => exact hq.elim
  | .ok .cont, hq => exact hq.elim
  | .error e, hq => exact hq.elim
end DL
set_option linter.all false
namespace TM
section
variable {vs : List Nat} {L : Lanes} {f : Nat → Nat}
structure Num (L : Lanes) (f : Nat → Nat) : Prop where
  lt : ∀ i, i < L.length + 1 → f i < L.length + 1
  inj : ∀ i j, i < L.length + 1 → j < L.length + 1 → f i = f j → i = j
theorem Num.on (m : Num L f) (G : Good vs L) : ∀ a ∈ vs, ∀ b ∈ vs, f a = f b → a = b := fun a ha b hb => m.inj a b ((G.vs_ a).mp ha) ((G.vs_ b).mp hb)
theorem Num.all (m : Num L f) (G : Good vs L) : ∀ v, v ∈ vs.map f ↔ v < L.length + 1 := by
  have sub : ∀ v ∈ vs.map f, v ∈ List.range (L.length + 1) := fun v hv => by
    obtain ⟨x, hx, e⟩ := List.mem_map.mp hv
    exact List.mem_range.mpr (e ▸ m.lt x ((G.vs_ x).mp hx))
  have nd : (vs.map f).Nodup := List.pairwise_map.mpr (List.Pairwise.imp_of_mem (fun {a b} ha hb n e => n (m.on G a ha b hb e)) G.tr.nodup)
  refine fun v => ⟨fun h => List.mem_range.mp (sub v h), fun h => ?_⟩
  by_cases c : v ∈ vs.map f
  · exact c
  · have := nodup_len (List.nodup_cons.mpr ⟨c, nd⟩) (m := List.range (L.length + 1)) fun x hx => by
      rcases List.mem_cons.mp hx with e | hx
      · rw [e]
        exact List.mem_range.mpr h
      · exact sub x hx
    rw [List.length_cons, List.length_map, G.tr.length, List.length_range] at this
    omega
end
end TM
set_option linter.all false
namespace TM
section
variable {vs : List Nat} {L M : Lanes} {f g : Nat → Nat}
def Same (L M : Lanes) : Prop := (norm L).Perm (norm M)
instance : Decidable (Same L M) := inferInstanceAs (Decidable ((norm L).Perm (norm M)))
theorem Same.refl (L : Lanes) : Same L L := List.Perm.refl _
theorem Same.symm (h : Same L M) : Same M L := List.Perm.symm h
theorem Same.nb (h : Same L M) (i : Nat) : (nb L i).Perm (nb M i) := (nb_norm L i).symm.trans ((nb_perm h i).trans (nb_norm M i))
theorem Same.len (h : Same L M) : L.length = M.length := by
  have := List.Perm.length_eq h
  unfold norm at this
  rw [List.length_map, List.length_map] at this
  exact this
theorem Good.lt (G : Good vs L) {p : Nat × Nat} (hp : p ∈ L) : p.1 < L.length + 1 ∧ p.2 < L.length + 1 :=
  ⟨(G.vs_ _).mp (G.tr.ends (.inl hp)).1, (G.vs_ _).mp (G.tr.ends (.inl hp)).2⟩
theorem getD_map {l : List Nat} {g : Nat → Nat} {i : Nat} (h : i < l.length) : (l.map g).getD i 0 = g (l.getD i 0) := by
  rw [List.getD_eq_getElem?_getD, List.getElem?_map, List.getElem?_eq_getElem h, List.getD_eq_getElem?_getD, List.getElem?_eq_getElem h]
  rfl
theorem getD_range {n i : Nat} (h : i < n) : (List.range n).getD i 0 = i := by
  rw [List.getD_eq_getElem?_getD, List.getElem?_range h]
  rfl
theorem Mixed.range (n : Nat) : Mixed n (List.range n) := ⟨by simp, List.Perm.refl _⟩
theorem mixed_of {n : Nat} {ps : List Nat} (hl : ps.length = n) (nd : ps.Nodup) (hs : ∀ x ∈ ps, x < n) : Mixed n ps := by
  refine ⟨hl, ?_⟩
  refine (List.perm_ext_iff_of_nodup nd List.nodup_range).mpr fun x => ⟨fun h => List.mem_range.mpr (hs x h), fun h => ?_⟩
  by_cases c : x ∈ ps
  · exact c
  · have := nodup_len (List.nodup_cons.mpr ⟨c, nd⟩) (m := List.range n) fun y hy => by
      rcases List.mem_cons.mp hy with e | hy
      · rw [e]
        exact h
      · exact List.mem_range.mpr (hs y hy)
    rw [List.length_cons, hl, List.length_range] at this
    omega
theorem Mixed.back {n : Nat} {ps : List Nat} (m : Mixed n ps) : Mixed n ((List.range n).map fun k => ps.idxOf k) ∧ ∀ i, i < n → ((List.range n).map fun k => ps.idxOf k).getD (ps.getD i 0) 0 = i := by
  have mem : ∀ k, k < n → k ∈ ps := fun k hk => m.perm.mem_iff.mpr (List.mem_range.mpr hk)
  have il : ∀ k, k < n → ps.idxOf k < n := fun k hk => by rw [← m.len]; exact List.idxOf_lt_length_of_mem (mem k hk)
  have ia : ∀ k, k < n → ps.getD (ps.idxOf k) 0 = k := fun k hk => by
    rw [List.getD_eq_getElem?_getD, List.getElem?_eq_getElem (by rw [m.len]; exact il k hk), List.getElem_idxOf]
    rfl
  refine ⟨mixed_of (by simp) ?_ fun x hx => ?_, fun i hi => ?_⟩
  · refine List.pairwise_map.mpr (List.Pairwise.imp_of_mem (fun {a b} ha hb ne e => ne ?_) List.nodup_range)
    rw [← ia a (List.mem_range.mp ha), ← ia b (List.mem_range.mp hb), e]
  · obtain ⟨k, hk, e⟩ := List.mem_map.mp hx
    exact e ▸ il k (List.mem_range.mp hk)
  · have hx : ps.getD i 0 < n := m.lt (List.mem_of_getElem? (getD_at (by rw [m.len]; exact hi)))
    rw [getD_map (by rw [List.length_range]; exact hx), getD_range hx]
    exact m.inj (il _ hx) hi (ia _ hx)
end
end TM
set_option linter.all false
namespace TM
abbrev Bd := Option Nat × Option Nat × Nat
abbrev Alt := Nat × List Bd
abbrev Bk := List Alt
abbrev Ent := Nat × Nat × Nat
abbrev Ld := List Ent
def okO : Option Nat → Nat → Bool
  | none, _ => true
  | some y, x => decide (y = x)
def carts (l : Ld) (o t : Option Nat) : Nat := ((l.filter fun e => okO o e.1 && okO t e.2.1).map fun e => e.2.2).sum
def keeps (l : Ld) (b : Bd) : Bool := decide (carts l b.1 b.2.1 ≤ b.2.2)
def standsA (l : Ld) (a : Alt) : Bool := decide (carts l none none ≤ a.1) && a.2.all (keeps l)
def standsB (B : Bk) (l : Ld) : Bool := B.any (standsA l)
theorem carts_app (l m : Ld) (o t : Option Nat) : carts (l ++ m) o t = carts l o t + carts m o t := by
  unfold carts
  rw [List.filter_append, List.map_append, List.sum_append]
theorem carts_perm {l m : Ld} (h : l.Perm m) (o t : Option Nat) : carts l o t = carts m o t := ((h.filter _).map _).sum_nat
theorem carts_one (e : Ent) (o t : Option Nat) : carts [e] o t = if okO o e.1 && okO t e.2.1 then e.2.2 else 0 := by
  unfold carts
  rw [List.filter_cons]
  split <;> simp
theorem carts_cons (e : Ent) (l : Ld) (o t : Option Nat) : carts (e :: l) o t = (if okO o e.1 && okO t e.2.1 then e.2.2 else 0) + carts l o t := by
  have := carts_app [e] l o t
  rw [carts_one] at this
  exact this
def AtM (l m : Ld) : Prop := ∀ o t, carts l o t ≤ carts m o t
theorem AtM.keeps {l m : Ld} (h : AtM l m) {b : Bd} (k : keeps m b = true) : TM.keeps l b = true := by
  unfold TM.keeps at k ⊢
  have := h b.1 b.2.1
  exact decide_eq_true (Nat.le_trans this (of_decide_eq_true k))
theorem AtM.standsA {l m : Ld} (h : AtM l m) {a : Alt} (k : standsA m a = true) : TM.standsA l a = true := by
  unfold TM.standsA at k ⊢
  rw [Bool.and_eq_true] at k ⊢
  refine ⟨decide_eq_true (Nat.le_trans (h none none) (of_decide_eq_true k.1)), ?_⟩
  rw [List.all_eq_true]
  exact fun b hb => h.keeps (List.all_eq_true.mp k.2 b hb)
def less1 (e : Ent) : Ld := if 1 < e.2.2 then [(e.1, e.2.1, e.2.2 - 1)] else []
def c3 (e : Ent) : Nat := (e.1 * 2048 + e.2.1) * 2048 + e.2.2
def Sm (e : Ent) : Prop := e.1 < 2048 ∧ e.2.1 < 2048 ∧ e.2.2 < 2048
theorem c3_inj {e f : Ent} (a : Sm e) (b : Sm f) (h : c3 e = c3 f) : e = f := by
  obtain ⟨e1, e2, e3⟩ := e
  obtain ⟨f1, f2, f3⟩ := f
  unfold Sm at a b
  unfold c3 at h
  simp only at a b h
  have h1 : e1 = f1 := by omega
  have h2 : e2 = f2 := by omega
  have h3 : e3 = f3 := by omega
  rw [h1, h2, h3]
def Srt3 (l : Ld) : Prop := l.Pairwise fun e f => c3 e ≤ c3 f
theorem srt3_unique : ∀ {l m : Ld}, l.Perm m → (∀ e ∈ l, Sm e) → Srt3 l → Srt3 m → l = m
  | [], m, p, _, _, _ => (List.nil_perm.mp p).symm
  | a :: l, [], p, _, _, _ => absurd (List.perm_nil.mp p) (by simp)
  | a :: l, b :: m, p, s, h1, h2 => by
    obtain ⟨a1, a2⟩ := List.pairwise_cons.mp h1
    obtain ⟨b1, b2⟩ := List.pairwise_cons.mp h2
    have sm : ∀ e ∈ b :: m, Sm e := fun e he => s e (p.mem_iff.mpr he)
    have e : a = b := by
      have ma : a ∈ b :: m := p.mem_iff.mp List.mem_cons_self
      have mb : b ∈ a :: l := p.mem_iff.mpr List.mem_cons_self
      refine c3_inj (s a List.mem_cons_self) (sm b List.mem_cons_self) ?_
      rcases List.mem_cons.mp ma with e | ma
      · rw [e]
      · rcases List.mem_cons.mp mb with e | mb
        · rw [e]
        · exact Nat.le_antisymm (a1 b mb) (b1 a ma)
    subst e
    rw [srt3_unique (List.Perm.cons_inv p) (fun e he => s e (List.mem_cons_of_mem _ he)) a2 b2]
def tsort (l : Ld) : Ld := l.mergeSort fun e f => decide (c3 e ≤ c3 f)
theorem tsort_perm (l : Ld) : (tsort l).Perm l := List.mergeSort_perm l _
theorem tsort_srt (l : Ld) : Srt3 (tsort l) := by
  have := List.pairwise_mergeSort (le := fun e f : Ent => decide (c3 e ≤ c3 f)) (fun a b c h1 h2 => decide_eq_true (Nat.le_trans (of_decide_eq_true h1) (of_decide_eq_true h2))) (fun a b => by
    rcases Nat.le_total (c3 a) (c3 b) with h | h
    · simp [h]
    · simp [h]) l
  exact this.imp fun h => of_decide_eq_true h
theorem tsort_of {l m : Ld} (p : m.Perm l) (s : Srt3 m) (b : ∀ e ∈ l, Sm e) : m = tsort l :=
  srt3_unique (p.trans (tsort_perm l).symm) (fun e he => b e (p.mem_iff.mp he)) s (tsort_srt l)
def others (l : Ld) (o t : Nat) : Ld := l.filter fun e => !(decide (e.1 = o) && decide (e.2.1 = t))
def addL (l : Ld) (o t : Nat) : Ld := tsort (others l o t ++ [(o, t, carts l (some o) (some t) + 1)])
theorem carts_others (l : Ld) (o t : Nat) (a b : Option Nat) : carts l a b = carts (others l o t) a b + (if okO a o && okO b t then carts l (some o) (some t) else 0) := by
  induction l with
  | nil => simp [carts, others]
  | cons e l ih =>
    by_cases h : e.1 = o ∧ e.2.1 = t
    · obtain ⟨h1, h2⟩ := h
      have ef : others (e :: l) o t = others l o t := by
        unfold others
        rw [List.filter_cons, if_neg (by simp [h1, h2])]
      have e2 : carts (e :: l) (some o) (some t) = e.2.2 + carts l (some o) (some t) := by
        rw [carts_cons, if_pos (by simp [okO, h1, h2])]
      rw [ef, e2, carts_cons, h1, h2, ih]
      split <;> omega
    · have hn : (decide (e.1 = o) && decide (e.2.1 = t)) = false := by
        rw [Bool.and_eq_false_iff]
        by_cases c : e.1 = o
        · exact .inr (decide_eq_false fun z => h ⟨c, z⟩)
        · exact .inl (decide_eq_false c)
      have ef : others (e :: l) o t = e :: others l o t := by
        unfold others
        rw [List.filter_cons, if_pos (by rw [hn]; rfl)]
      have hn2 : (okO (some o) e.1 && okO (some t) e.2.1) = false := by
        show (decide (o = e.1) && decide (t = e.2.1)) = false
        rw [Bool.and_eq_false_iff] at hn ⊢
        exact hn.imp (fun z => decide_eq_false fun y => of_decide_eq_false z y.symm) (fun z => decide_eq_false fun y => of_decide_eq_false z y.symm)
      have e2 : carts (e :: l) (some o) (some t) = carts l (some o) (some t) := by
        rw [carts_cons, hn2, if_neg (by decide), Nat.zero_add]
      rw [ef, e2, carts_cons, carts_cons, ih]
      omega
theorem carts_add (l : Ld) (o t : Nat) (a b : Option Nat) : carts (addL l o t) a b = carts l a b + (if okO a o && okO b t then 1 else 0) := by
  unfold addL
  rw [carts_perm (tsort_perm _), carts_app, carts_one, carts_others l o t a b]
  dsimp only
  split <;> omega
def withinL (l m : Ld) : Bool := l.all fun e => decide (e.2.2 ≤ carts m (some e.1) (some e.2.1))
theorem carts_mem {l : Ld} {e : Ent} (h : e ∈ l) : e.2.2 ≤ carts l (some e.1) (some e.2.1) := by
  induction l with
  | nil => cases h
  | cons x l ih =>
    rw [carts_cons]
    rcases List.mem_cons.mp h with c | c
    · subst c
      simp [okO]
    · have := ih c
      omega
def pairsN (N : List Nat) : List (Nat × Nat) := N.flatMap fun o => (N.filter fun t => !decide (o = t)).map fun t => (o, t)
theorem mem_pairs {N : List Nat} {o t : Nat} : (o, t) ∈ pairsN N ↔ o ∈ N ∧ t ∈ N ∧ o ≠ t := by
  unfold pairsN
  rw [List.mem_flatMap]
  constructor
  · rintro ⟨x, hx, h⟩
    obtain ⟨y, hy, e⟩ := List.mem_map.mp h
    injection e with e1 e2
    subst e1; subst e2
    obtain ⟨h1, h2⟩ := List.mem_filter.mp hy
    exact ⟨hx, h1, fun z => by subst z; simp at h2⟩
  · rintro ⟨h1, h2, h3⟩
    exact ⟨o, h1, List.mem_map.mpr ⟨t, List.mem_filter.mpr ⟨h2, by simp [h3]⟩, rfl⟩⟩
structure GoodB (N : List Nat) (b : Bd) : Prop where
  some_ : b.1 ≠ none ∨ b.2.1 ≠ none
  or_ : ∀ o, b.1 = some o → o ∈ N
  tg : ∀ t, b.2.1 = some t → t ∈ N
  ne : ∀ o t, b.1 = some o → b.2.1 = some t → o ≠ t
  most : b.2.2 ≤ 6
structure GoodA (N : List Nat) (a : Alt) : Prop where
  least : 1 ≤ a.1
  most : a.1 ≤ 6
  few : a.2.length ≤ 6
  bs : ∀ b ∈ a.2, GoodB N b
structure GoodBk (N : List Nat) (B : Bk) : Prop where
  least : 1 ≤ B.length
  most : B.length ≤ 4
  as_ : ∀ a ∈ B, GoodA N a
  single : ∀ o t, (o, t) ∈ pairsN N → standsB B [(o, t, 1)] = true
def lt2 (e f : Ent) : Prop := e.1 < f.1 ∨ (e.1 = f.1 ∧ e.2.1 < f.2.1)
structure GoodL (N : List Nat) (l : Ld) : Prop where
  pr : ∀ e ∈ l, (e.1, e.2.1) ∈ pairsN N
  pos : ∀ e ∈ l, 0 < e.2.2
  srt : l.Pairwise lt2
theorem GoodL.nil (N : List Nat) : GoodL N [] := ⟨fun _ h => (nomatch h), fun _ h => (nomatch h), .nil⟩
theorem c3_lt2 {e f : Ent} (a : Sm e) (b : Sm f) (h : c3 e ≤ c3 f) (ne : ¬ (e.1 = f.1 ∧ e.2.1 = f.2.1)) : lt2 e f := by
  unfold Sm at a b
  unfold c3 at h
  unfold lt2
  omega
theorem srt_lt2 {l : Ld} (b : ∀ e ∈ l, Sm e) (nd : l.Pairwise fun e f => ¬ (e.1 = f.1 ∧ e.2.1 = f.2.1)) : (tsort l).Pairwise lt2 := by
  have sy : ∀ {l : Ld}, l.Pairwise (fun e f => ¬ (e.1 = f.1 ∧ e.2.1 = f.2.1)) → ∀ {m : Ld}, m.Perm l → m.Pairwise fun e f => ¬ (e.1 = f.1 ∧ e.2.1 = f.2.1) := fun h m p => (p.symm.pairwise_iff fun {x y} h z => h ⟨z.1.symm, z.2.symm⟩).mp h
  have h1 := sy nd (tsort_perm l)
  have h2 := tsort_srt l
  exact (List.Pairwise.imp_of_mem (fun {x y} hx hy h => c3_lt2 (b x ((tsort_perm l).mem_iff.mp hx)) (b y ((tsort_perm l).mem_iff.mp hy)) h.2 h.1) (h1.and h2))
theorem GoodL.unlike {N : List Nat} {l : Ld} (g : GoodL N l) : l.Pairwise fun e f => ¬ (e.1 = f.1 ∧ e.2.1 = f.2.1) := g.srt.imp fun h z => by
  unfold lt2 at h
  omega
def SmL (l : Ld) : Prop := ∀ e ∈ l, Sm e
theorem others_sub (l : Ld) (o t : Nat) : (others l o t).Sublist l := List.filter_sublist
theorem mem_others {l : Ld} {o t : Nat} {e : Ent} (h : e ∈ others l o t) : e ∈ l ∧ ¬ (e.1 = o ∧ e.2.1 = t) := by
  obtain ⟨h1, h2⟩ := List.mem_filter.mp h
  refine ⟨h1, fun z => ?_⟩
  simp [z.1, z.2] at h2
theorem add_sm {N : List Nat} {l : Ld} {o t : Nat} (sN : ∀ x ∈ N, x < 1024) (s : SmL l) (p : (o, t) ∈ pairsN N) (k : carts l (some o) (some t) < 2000) : SmL (others l o t ++ [(o, t, carts l (some o) (some t) + 1)]) := fun e he => by
  rcases List.mem_append.mp he with h | h
  · exact s e (mem_others h).1
  · rw [List.mem_singleton.mp h]
    obtain ⟨a, b, _⟩ := mem_pairs.mp p
    have := sN o a
    have := sN t b
    unfold Sm
    simp only
    omega
theorem GoodL.add {N : List Nat} {l : Ld} (g : GoodL N l) {o t : Nat} (sN : ∀ x ∈ N, x < 1024) (s : SmL l) (p : (o, t) ∈ pairsN N) (k : carts l (some o) (some t) < 2000) : GoodL N (addL l o t) := by
  have sm := add_sm sN s p k
  refine ⟨fun e he => ?_, fun e he => ?_, srt_lt2 sm ?_⟩
  · rcases List.mem_append.mp ((tsort_perm _).mem_iff.mp he) with h | h
    · exact g.pr e (mem_others h).1
    · rw [List.mem_singleton.mp h]
      exact p
  · rcases List.mem_append.mp ((tsort_perm _).mem_iff.mp he) with h | h
    · exact g.pos e (mem_others h).1
    · rw [List.mem_singleton.mp h]
      exact Nat.succ_pos _
  · refine List.pairwise_append.mpr ⟨g.unlike.sublist (others_sub l o t), List.pairwise_singleton _ _, fun e he f hf => ?_⟩
    rw [List.mem_singleton.mp hf]
    exact (mem_others he).2
theorem GoodL.less {N : List Nat} {A B : Ld} {e : Ent} (g : GoodL N (A ++ e :: B)) : GoodL N (A ++ less1 e ++ B) := by
  have sub : ∀ f ∈ A ++ less1 e ++ B, (∃ f' ∈ A ++ e :: B, f.1 = f'.1 ∧ f.2.1 = f'.2.1) ∧ 0 < f.2.2 := fun f hf => by
    rcases List.mem_append.mp hf with hf | hf
    · rcases List.mem_append.mp hf with hf | hf
      · exact ⟨⟨f, by simp [hf], rfl, rfl⟩, g.pos f (by simp [hf])⟩
      · unfold less1 at hf
        split at hf
        · rw [List.mem_singleton.mp hf]
          exact ⟨⟨e, by simp, rfl, rfl⟩, by simp only; omega⟩
        · cases hf
    · exact ⟨⟨f, by simp [hf], rfl, rfl⟩, g.pos f (by simp [hf])⟩
  refine ⟨fun f hf => ?_, fun f hf => (sub f hf).2, ?_⟩
  · obtain ⟨⟨f', h1, h2, h3⟩, _⟩ := sub f hf
    rw [h2, h3]
    exact g.pr f' h1
  · have s := g.srt
    obtain ⟨sA, sB, sAB⟩ := List.pairwise_append.mp s
    obtain ⟨e1, sB⟩ := List.pairwise_cons.mp sB
    unfold less1
    split
    · rw [List.append_assoc]
      refine List.pairwise_append.mpr ⟨sA, List.pairwise_cons.mpr ⟨fun f hf => e1 f hf, sB⟩, fun x hx y hy => ?_⟩
      rcases List.mem_cons.mp hy with h | h
      · rw [h]
        exact sAB x hx e List.mem_cons_self
      · exact sAB x hx y (List.mem_cons_of_mem _ h)
    · rw [List.append_nil]
      exact List.pairwise_append.mpr ⟨sA, sB, fun x hx y hy => sAB x hx y (List.mem_cons_of_mem _ hy)⟩
theorem length_carts {l : Ld} (h : ∀ e ∈ l, 0 < e.2.2) : l.length ≤ carts l none none := by
  induction l with
  | nil => exact Nat.zero_le _
  | cons e l ih =>
    rw [carts_cons, List.length_cons]
    have h1 := h e List.mem_cons_self
    have h2 := ih fun x hx => h x (List.mem_cons_of_mem _ hx)
    simp only [okO, Bool.and_self, if_true]
    omega
theorem one_carts {l : Ld} {e : Ent} (h : e ∈ l) : e.2.2 ≤ carts l none none := by
  induction l with
  | nil => cases h
  | cons x l ih =>
    rw [carts_cons]
    simp only [okO, Bool.and_self, if_true]
    rcases List.mem_cons.mp h with c | c
    · subst c
      omega
    · have := ih c
      omega
theorem carts_le (l : Ld) (o t : Option Nat) : carts l o t ≤ carts l none none := by
  induction l with
  | nil => exact Nat.le_refl _
  | cons x l ih =>
    have h0 : (okO none x.1 && okO none x.2.1) = true := rfl
    rw [carts_cons, carts_cons x l none none, if_pos h0]
    split <;> omega
theorem GoodL.smL {N : List Nat} {l : Ld} (g : GoodL N l) (sN : ∀ x ∈ N, x < 1024) (k : carts l none none < 2000) : SmL l := fun e he => by
  obtain ⟨a, b, _⟩ := mem_pairs.mp (g.pr e he)
  have := sN _ a
  have := sN _ b
  have := one_carts he
  unfold Sm
  omega
theorem GoodB.in_ {N : List Nat} {b : Bd} (g : GoodB N b) : (∀ y, b.1 = some y → y ∈ N) ∧ (∀ y, b.2.1 = some y → y ∈ N) := ⟨g.or_, g.tg⟩
theorem GoodL.in_ {N : List Nat} {l : Ld} (g : GoodL N l) : ∀ e ∈ l, e.1 ∈ N ∧ e.2.1 ∈ N := fun e he => ⟨(mem_pairs.mp (g.pr e he)).1, (mem_pairs.mp (g.pr e he)).2.1⟩
end TM
set_option Elab.async false
set_option linter.all false
set_option maxRecDepth 100000
set_option maxHeartbeats 4000000
namespace Nw
open PySem PySem.Spec PyProof.Rows L2 Ep
open Evl (Ex Ev EvT EvA EvL EvU)
abbrev Rep (β : Type) := Hp → V → β → Prop
def Mono {β : Type} (S : Rep β) : Prop := ∀ H H' v b, Ex H H' → S H v b → S H' v b
def Mk (H0 H1 H2 Hn : Hp) : Prop := ∀ b o, Hn b = some o → H2 b = some o ∧ (H0 b = some o ∨ H1 b = none)
def NewR {β : Type} (S : Rep β) (H0 : Hp) (x : β) : VP := fun v H1 H2 => ∃ Hn, Mk H0 H1 H2 Hn ∧ S Hn v x
section
variable {β : Type} {S : Rep β} {H0 H0' H1 H2 H3 Hn : Hp} {x : β} {v : V}
theorem Mk.ex (h : Mk H0 H1 H2 Hn) : Ex Hn H2 := fun b o k => (h b o k).1
theorem Mk.on (h : Mk H0 H1 H2 Hn) (e : Ex H2 H3) : Mk H0 H1 H3 Hn := fun b o k => ⟨e _ _ (h b o k).1, (h b o k).2⟩
theorem Mk.back {Ha : Hp} (h : Mk H0 H1 H2 Hn) (e : Ex Ha H1) : Mk H0 Ha H2 Hn := fun b o k => ⟨(h b o k).1, (h b o k).2.imp id (Evl.fresh_back e)⟩
theorem Mk.base (h : Mk H0 H1 H2 Hn) (e : Ex H0 H0') : Mk H0' H1 H2 Hn := fun b o k => ⟨(h b o k).1, (h b o k).2.imp (e _ _) id⟩
theorem NewR.on (h : NewR S H0 x v H1 H2) (e : Ex H2 H3) : NewR S H0 x v H1 H3 := by
  obtain ⟨Hn, m, s⟩ := h
  exact ⟨Hn, m.on e, s⟩
theorem NewR.back {Ha : Hp} (h : NewR S H0 x v H1 H2) (e : Ex Ha H1) : NewR S H0 x v Ha H2 := by
  obtain ⟨Hn, m, s⟩ := h
  exact ⟨Hn, m.back e, s⟩
theorem NewR.at_ (mo : Mono S) (h : NewR S H0 x v H1 H2) : S H2 v x := by
  obtain ⟨Hn, m, s⟩ := h
  exact mo _ _ _ _ m.ex s
theorem Mk.mut (h : Mk H0 H1 H2 Hn) {D : Addr} {o : HO} (h0 : H0 D = none) (h1 : H1 D ≠ none) : Ex Hn (upd H2 D o) := fun b u k => by
  have n : b ≠ D := fun z => by
    rcases (h b u k).2 with a | a
    · rw [z, h0] at a
      cases a
    · exact h1 (z ▸ a)
  rw [upd_ne n]
  exact (h b u k).1
end
def join (Ha Hb : Hp) : Hp := fun b => match Ha b with
  | some o => some o
  | none => Hb b
theorem Mk.join {H0 H1 H2 Ha Hb : Hp} (a : Mk H0 H1 H2 Ha) (b : Mk H0 H1 H2 Hb) : Mk H0 H1 H2 (join Ha Hb) ∧ Ex Ha (Nw.join Ha Hb) ∧ Ex Hb (Nw.join Ha Hb) := by
  refine ⟨fun c o k => ?_, fun c o k => ?_, fun c o k => ?_⟩
  · unfold Nw.join at k
    cases e : Ha c with
    | some u => rw [e] at k; exact a c o (e.trans k)
    | none => rw [e] at k; exact b c o k
  · unfold Nw.join
    rw [k]
  · unfold Nw.join
    cases e : Ha c with
    | some u =>
      have h1 := (a c u e).1
      have h2 := (b c o k).1
      rw [h1] at h2
      exact h2
    | none => exact k
theorem Mk.put {H0 H1 H2 Ha : Hp} (a : Mk H0 H1 H2 Ha) {p : Addr} {o : HO} (f : H2 p = none) (f1 : H1 p = none) : Mk H0 H1 (upd H2 p o) (upd Ha p o) ∧ Ex Ha (upd Ha p o) := by
  have fa : Ha p = none := by
    cases e : Ha p with
    | none => rfl
    | some u => rw [(a p u e).1] at f; cases f
  refine ⟨fun c u k => ?_, Ex.new fa⟩
  by_cases n : c = p
  · subst n
    rw [upd_same] at k ⊢
    exact ⟨k, .inr f1⟩
  · rw [upd_ne n] at k ⊢
    exact a c u k
def LstOf {β : Type} (S : Rep β) : Rep (List β) := fun H v l => ∃ p vs, v = .ref p ∧ H p = some (.lst vs) ∧ Paired (S H) vs l
def TupOf {β : Type} (S : Rep β) : Rep (List β) := fun H v l => ∃ p vs, v = .ref p ∧ H p = some (.tup vs) ∧ Paired (S H) vs l
theorem pimp {α β : Type} {R S : α → β → Prop} (k : ∀ a b, R a b → S a b) : ∀ {xs : List α} {ys : List β}, Paired R xs ys → Paired S xs ys
  | _, _, .nil => .nil
  | _, _, .cons h t => .cons (k _ _ h) (pimp k t)
theorem Mono.paired {β : Type} {S : Rep β} (mo : Mono S) {H H' : Hp} (e : Ex H H') {vs : List V} {l : List β} (h : Paired (S H) vs l) : Paired (S H') vs l := pimp (fun a b k => mo _ _ _ _ e k) h
theorem Mono.lst {β : Type} {S : Rep β} (mo : Mono S) : Mono (LstOf S) := fun H H' v b e ⟨p, vs, r, k, h⟩ => ⟨p, vs, r, e _ _ k, mo.paired e h⟩
theorem Mono.tup {β : Type} {S : Rep β} (mo : Mono S) : Mono (TupOf S) := fun H H' v b e ⟨p, vs, r, k, h⟩ => ⟨p, vs, r, e _ _ k, mo.paired e h⟩
section
variable {K : PySem.W.Frag} {σ : L2.St} {H : Hp}
def NewLst {β : Type} (S : Rep β) (H0 : Hp) (l : List β) : VP := fun v H1 H2 => ∃ p vs Hn, v = .ref p ∧ H1 p = none ∧ Mk H0 H1 H2 Hn ∧ Hn p = some (.lst vs) ∧ Paired (S Hn) vs l
theorem NewLst.r {β : Type} {S : Rep β} {H0 H1 H2 : Hp} {l : List β} {v : V} (h : NewLst S H0 l v H1 H2) : NewR (LstOf S) H0 l v H1 H2 := by
  obtain ⟨p, vs, Hn, r, _, m, k, h⟩ := h
  exact ⟨Hn, m, p, vs, r, k, h⟩
theorem NewLst.back {β : Type} {S : Rep β} {H0 H1 H2 Ha : Hp} {l : List β} {v : V} (h : NewLst S H0 l v H1 H2) (e : Ex Ha H1) : NewLst S H0 l v Ha H2 := by
  obtain ⟨p, vs, Hn, r, f, m, k, h⟩ := h
  exact ⟨p, vs, Hn, r, Evl.fresh_back e f, m.back e, k, h⟩
theorem NewLst.on {β : Type} {S : Rep β} {H0 H1 H2 H3 : Hp} {l : List β} {v : V} (h : NewLst S H0 l v H1 H2) (e : Ex H2 H3) : NewLst S H0 l v H1 H3 := by
  obtain ⟨p, vs, Hn, r, f, m, k, h⟩ := h
  exact ⟨p, vs, Hn, r, f, m.on e, k, h⟩
theorem NewLst.base {β : Type} {S : Rep β} {H0 H0' H1 H2 : Hp} {l : List β} {v : V} (h : NewLst S H0 l v H1 H2) (e : Ex H0 H0') : NewLst S H0' l v H1 H2 := by
  obtain ⟨p, vs, Hn, r, f, m, k, h⟩ := h
  exact ⟨p, vs, Hn, r, f, m.base e, k, h⟩
end
end Nw
set_option Elab.async false
set_option linter.all false
set_option maxRecDepth 100000
set_option maxHeartbeats 4000000
namespace Pr
open PySem PySem.Spec PyProof.Rows L2 TM
open Evl (Ex)
structure St1 (H0 H : Hp) (p tt ll : Addr) (rs : List Addr) (lsv : List V) (L : Lanes) (ln : Nat → Nat) : Prop where
  pot : PotAt H p
  ex : ExB p H0 H
  ht : H tt = some (.lst (rs.map V.ref))
  hl : H ll = some (.lst lsv)
  pr : Paired (PairAt H) lsv L
  row : ∀ (j : Nat) (r : Addr), rs[j]? = some r → ∃ xs, H r = some (.lst xs) ∧ xs.length = ln j
  nd : rs.Nodup
  ft : H0 tt = none
  fl : H0 ll = none
  fr : ∀ r ∈ rs, H0 r = none
  ntp : tt ≠ p
  nlp : ll ≠ p
  ntl : tt ≠ ll
  nr : ∀ r ∈ rs, r ≠ p ∧ r ≠ tt ∧ r ≠ ll
section
variable {H0 H H' : Hp} {p tt ll : Addr} {rs : List Addr} {lsv : List V} {L : Lanes} {ln : Nat → Nat}
theorem PairAt.exB {v : V} {q : Nat × Nat} (hp : PotAt H p) (e : ExB p H H') (h : PairAt H v q) : PairAt H' v q := by
  obtain ⟨t, r, k⟩ := h
  exact ⟨t, r, e _ _ k (hp.ne k (fun _ _ z => nomatch z))⟩
theorem St1.byPot (S : St1 H0 H p tt ll rs lsv L ln) (e : ExB p H H') (hp : PotAt H' p) : St1 H0 H' p tt ll rs lsv L ln where
  pot := hp
  ex := S.ex.trans e
  ht := e _ _ S.ht S.ntp
  hl := e _ _ S.hl S.nlp
  pr := paired_imp (fun _ _ z => z.exB S.pot e) S.pr
  row := fun j r h => by
    obtain ⟨xs, a, b⟩ := S.row j r h
    exact ⟨xs, e _ _ a (S.nr r (List.mem_of_getElem? h)).1, b⟩
  nd := S.nd
  ft := S.ft
  fl := S.fl
  fr := S.fr
  ntp := S.ntp
  nlp := S.nlp
  ntl := S.ntl
  nr := S.nr
theorem St1.byEx (S : St1 H0 H p tt ll rs lsv L ln) (e : Ex H H') : St1 H0 H' p tt ll rs lsv L ln := S.byPot (.of e) (S.pot.ex e)
theorem St1.free (S : St1 H0 H p tt ll rs lsv L ln) {q : Addr} (h : H q = none) : H0 q = none ∧ q ≠ p := by
  have n : q ≠ p := fun e => by
    obtain ⟨a, b, hp, _⟩ := S.pot
    rw [e, hp] at h
    cases h
  exact ⟨S.ex.free h n, n⟩
theorem ExB.mut {q : Addr} {o : HO} (e : ExB p H0 H) (h : H0 q = none) : ExB p H0 (upd H q o) := fun b u hb n => by
  rw [upd_ne (ne_of_none hb h)]
  exact e b u hb n
theorem PotAt.put {q : Addr} {o : HO} (h : PotAt H p) (n : q ≠ p) : PotAt (upd H q o) p := by
  obtain ⟨a, b, h, r⟩ := h
  exact ⟨a, b, by rw [upd_ne n.symm]; exact h, r⟩
theorem PairAt.put {v : V} {q : Nat × Nat} {x : Addr} {xs ys : List V} (hx : H x = some (.lst xs)) (h : PairAt H v q) : PairAt (upd H x (.lst ys)) v q := by
  obtain ⟨t, r, k⟩ := h
  exact ⟨t, r, by rw [upd_ne (ne_of k hx (fun z => nomatch z))]; exact k⟩
theorem St1.push (S : St1 H0 H p tt ll rs lsv L ln) {r : Addr} {xs : List V} (hr : H r = none) : St1 H0 (upd (upd H r (.lst xs)) tt (.lst (rs.map V.ref ++ [.ref r]))) p tt ll (rs ++ [r]) lsv L (fun j => if j = rs.length then xs.length else ln j) := by
  obtain ⟨h0, np⟩ := S.free hr
  have nt : r ≠ tt := fun e => by rw [e, S.ht] at hr; cases hr
  have nl : r ≠ ll := fun e => by rw [e, S.hl] at hr; cases hr
  have S1 := S.byEx (H' := upd H r (.lst xs)) (Ex.new hr)
  have nrs : r ∉ rs := fun m => by
    obtain ⟨j, hj⟩ := List.getElem?_of_mem m
    obtain ⟨ys, h, _⟩ := S.row j r hj
    rw [hr] at h
    cases h
  refine ⟨S1.pot.put S.ntp, S1.ex.mut S.ft, by rw [upd_same, List.map_append]; rfl, by rw [upd_ne S.ntl.symm]; exact S1.hl, paired_imp (fun _ _ z => z.put S1.ht) S1.pr, fun j q h => ?_, ?_, S.ft, S.fl, fun q hq => ?_, S.ntp, S.nlp, S.ntl, fun q hq => ?_⟩
  · by_cases hj : j < rs.length
    · rw [List.getElem?_append_left hj] at h
      obtain ⟨ys, a, b⟩ := S1.row j q h
      refine ⟨ys, by rw [upd_ne (S.nr q (List.mem_of_getElem? h)).2.1]; exact a, ?_⟩
      rw [if_neg (by omega)]
      exact b
    · rw [List.getElem?_append_right (by omega)] at h
      have e0 : j - rs.length = 0 := by
        have := (List.getElem?_eq_some_iff.mp h).1
        simp at this
        omega
      rw [e0] at h
      have : r = q := Option.some.inj h
      subst this
      exact ⟨xs, by rw [upd_ne nt, upd_same], by rw [if_pos (by omega)]⟩
  · exact List.nodup_append.mpr ⟨S.nd, by simp, fun x hx y hy e => by
      have : y = r := by simpa using hy
      subst this
      subst e
      exact nrs hx⟩
  · rcases List.mem_append.mp hq with hq | hq
    · exact S.fr q hq
    · have : q = r := by simpa using hq
      subst this
      exact h0
  · rcases List.mem_append.mp hq with hq | hq
    · exact S.nr q hq
    · have : q = r := by simpa using hq
      subst this
      exact ⟨np, nt, nl⟩
structure St2 (H0 H : Hp) (p ll lf pl : Addr) (lsv : List V) (L : Lanes) (l q : List Nat) : Prop where
  pot : PotAt H p
  ex : ExB p H0 H
  hl : H ll = some (.lst lsv)
  pr : Paired (PairAt H) lsv L
  hf : H lf = some (.lst (vIs l))
  hp : H pl = some (.lst (vIs q))
  fl : H0 ll = none
  ff : H0 lf = none
  fp : H0 pl = none
  nlp : ll ≠ p
  nfp : lf ≠ p
  npp : pl ≠ p
  nlf : ll ≠ lf
  nlq : ll ≠ pl
  nfq : lf ≠ pl
theorem St2.byPot {lf pl : Addr} {l q : List Nat} (S : St2 H0 H p ll lf pl lsv L l q) (e : ExB p H H') (hp : PotAt H' p) : St2 H0 H' p ll lf pl lsv L l q :=
  { S with pot := hp, ex := S.ex.trans e, hl := e _ _ S.hl S.nlp, pr := paired_imp (fun _ _ z => z.exB S.pot e) S.pr, hf := e _ _ S.hf S.nfp, hp := e _ _ S.hp S.npp }
theorem St2.byEx {lf pl : Addr} {l q : List Nat} (S : St2 H0 H p ll lf pl lsv L l q) (e : Ex H H') : St2 H0 H' p ll lf pl lsv L l q := S.byPot (.of e) (S.pot.ex e)
theorem St2.pop {lf pl : Addr} {l l' q : List Nat} (S : St2 H0 H p ll lf pl lsv L l q) : St2 H0 (upd H lf (.lst (vIs l'))) p ll lf pl lsv L l' q :=
  { S with pot := S.pot.put S.nfp, ex := S.ex.mut S.ff, hl := by rw [upd_ne S.nlf]; exact S.hl, pr := paired_imp (fun _ _ z => z.put S.hf) S.pr, hf := upd_same, hp := by rw [upd_ne S.nfq.symm]; exact S.hp }
theorem St2.put {lf pl : Addr} {l q q' : List Nat} (S : St2 H0 H p ll lf pl lsv L l q) : St2 H0 (upd H pl (.lst (vIs q'))) p ll lf pl lsv L l q' :=
  { S with pot := S.pot.put S.npp, ex := S.ex.mut S.fp, hl := by rw [upd_ne S.nlq]; exact S.hl, pr := paired_imp (fun _ _ z => z.put S.hp) S.pr, hp := upd_same, hf := by rw [upd_ne S.nfq]; exact S.hf }
end
end Pr
set_option Elab.async false
set_option linter.all false
set_option maxRecDepth 100000
set_option maxHeartbeats 4000000
namespace Pr
open PySem PySem.Spec PyProof.Rows L2 TM
open Evl (Ex Ev EvT)
def dNs (l : List Nat) : List PyData := l.map fun (n : Nat) => .int (n : Int)
def dN (l : List Nat) : PyData := .list (dNs l)
end Pr
set_option Elab.async false
set_option linter.all false
set_option maxRecDepth 100000
set_option maxHeartbeats 4000000
namespace Pr
open PySem PySem.Spec PyProof.Rows L2 TM Ep
open Evl (Ex Ev EvT EvA EvL)
section
variable {K : PySem.W.Frag} {σ : L2.St} {H : Hp} {te ta tb : TE} {P : VP} {x y z : V}
end
end Pr
namespace Pr
open PySem PySem.Spec PyProof.Rows L2 TM Ep
open Evl (Ex Ev EvT EvA EvL EvO)
def spRight : Sp := fun vs H Q _ => ∃ p, vs = [.ref p] ∧ PotAt H p ∧ ∀ H', Q (.bl true) H'
def spLaw (K : PySem.W.Frag) : Sp := fun vs H Q _ => ∃ (a : Addr) (ns : List Int), vs = [.ref a] ∧ SqL K H a (ns.map V.int) ∧ ∀ H', Q (.bl true) H'
def Nf (H H' : Hp) : Prop := ∀ b o, H b = some o → (∀ od u, o ≠ HO.frz od u) → H' b = some o
theorem Nf.but {H : Hp} {p : Addr} {od : Obj} {u : HO} (h : H p = some (.frz od u)) (v : HO) : Nf H (but (upd H p v) p) := fun b o hb n => by
  have nb : b ≠ p := fun z => by
    rw [z, h] at hb
    exact n od u (Option.some.inj hb).symm
  exact but_ne (by rw [upd_ne nb]; exact hb) nb
theorem LanesAt.exB {H H' : Hp} {p a : Addr} {L : Lanes} (e : ExB p H H') (hp : PotAt H p) (n : a ≠ p) (h : LanesAt H a L) : LanesAt H' a L := by
  obtain ⟨vs, r, k⟩ := h
  exact ⟨vs, e _ _ r n, paired_imp (fun _ _ ⟨t, q, z⟩ => ⟨t, q, e _ _ z (hp.ne z (fun _ _ z => nomatch z))⟩) k⟩
section
variable {K : PySem.W.Frag} {σ : L2.St} {H : Hp} {te ta tb : TE}
end
end Pr
set_option Elab.async false
set_option linter.all false
set_option maxRecDepth 100000
set_option maxHeartbeats 4000000
namespace Ei
open PySem PySem.Spec PyProof.Rows L2
section
variable {X : Cx} {e tg : Expr}
end
end Ei
set_option Elab.async false
set_option linter.all false
set_option maxRecDepth 100000
set_option maxHeartbeats 4000000
namespace Pr
open PySem PySem.Spec PyProof.Rows L2 TM Ep Nw
open Evl (Ex Ev EvT EvA EvL EvU EvO)
def oV : Option Nat → V
  | none => .non
  | some n => vI n
def BdR : Rep Bd := fun H v b => ∃ t, v = .ref t ∧ H t = some (.tup [oV b.1, oV b.2.1, vI b.2.2])
def AltL : Rep Alt := fun H v a => ∃ t w, v = .ref t ∧ H t = some (.tup [vI a.1, w]) ∧ LstOf BdR H w a.2
section
variable {K : PySem.W.Frag} {σ : L2.St} {H : Hp} {te ta tb tc : TE} {x y z : V}
end
end Pr
set_option Elab.async false
set_option linter.all false
set_option maxRecDepth 100000
set_option maxHeartbeats 4000000
namespace DL
open PySem PySem.Spec PyProof.Rows L2 TM Pr Ep Nw
open Evl (Ex)
theorem LanesAt.exo {H H' : Hp} {a : Addr} {L : Lanes} (e : Exo H H') (h : LanesAt H a L) : LanesAt H' a L := by
  obtain ⟨vs, r, k⟩ := h
  exact ⟨vs, e _ _ r (fun _ z => nomatch z), paired_imp (fun _ _ ⟨t, q, z⟩ => ⟨t, q, e _ _ z (fun _ z => nomatch z)⟩) k⟩
theorem CPart.exo {H H' : Hp} {L : Lanes} {l d e y g : Addr} {rs qs : List Addr} (x : Exo H H') (h : CPart H L l d e y g rs qs) : CPart H' L l d e y g rs qs :=
  have lst : ∀ {b xs}, H b = some (.lst xs) → H' b = some (.lst xs) := fun k => x _ _ k (fun _ z => nomatch z)
  have dk : ∀ {b xs}, H b = some (.dK xs) → H' b = some (.dK xs) := fun k => x _ _ k (fun _ z => nomatch z)
  { h with
    l_ := by
      obtain ⟨M, a, b⟩ := h.l_
      exact ⟨M, LanesAt.exo x a, b⟩
    d_ := dk h.d_
    r_ := ⟨h.r_.len, fun i r k => lst (h.r_.at_ i r k)⟩
    e_ := dk h.e_
    q_ := fun i q k => by
      obtain ⟨kvs, a, b⟩ := h.q_ i q k
      exact ⟨kvs, a, dk b⟩
    y_ := lst h.y_
    g_ := lst h.g_ }
theorem CAt.exo {C : Addr} {H H' : Hp} {p : Addr} {L : Lanes} (x : Exo H H') (h : CAt C H p L) : CAt C H' p L := by
  obtain ⟨dx, l, d, e, y, g, rs, qs, a, b⟩ := h
  exact ⟨dx, l, d, e, y, g, rs, qs, x _ _ a (fun _ z => nomatch z), CPart.exo x b⟩
theorem altL_exo {H H' : Hp} {v : V} {B : Bk} (x : Exo H H') (h : LstOf AltL H v B) : LstOf AltL H' v B := by
  obtain ⟨q, vs, rfl, hq, hp⟩ := h
  refine ⟨q, vs, rfl, x _ _ hq (fun _ z => nomatch z), pimp (fun u a h => ?_) hp⟩
  obtain ⟨t, w, rfl, ht, q2, us, rfl, hq2, hp2⟩ := h
  refine ⟨t, _, rfl, x _ _ ht (fun _ z => nomatch z), q2, us, rfl, x _ _ hq2 (fun _ z => nomatch z), pimp (fun u a h => ?_) hp2⟩
  obtain ⟨t, rfl, ht⟩ := h
  exact ⟨t, rfl, x _ _ ht (fun _ z => nomatch z)⟩
def wfD (c d : Addr) : List (Str × V) := [("_country", .ref c), ("_books", .ref d)]
def WAtD (CW C : Addr) (H : Hp) (p : Addr) (L : Lanes) (Bs : List Bk) : Prop := ∃ dx c d ws, H p = some (.ins CW dx (wfD c d)) ∧ CAt C H c L ∧ H d = some (.dK (((yardsL L).map keyN).zip ws)) ∧ Paired (LstOf AltL H) ws Bs ∧ Bs.length = (yardsL L).length
theorem WAtD.exo {CW C : Addr} {H H' : Hp} {p : Addr} {L : Lanes} {Bs : List Bk} (x : Exo H H') (h : WAtD CW C H p L Bs) : WAtD CW C H' p L Bs := by
  obtain ⟨dx, c, d, ws, a, b, k, r, l⟩ := h
  exact ⟨dx, c, d, ws, x _ _ a (fun _ z => nomatch z), CAt.exo x b, x _ _ k (fun _ z => nomatch z), pimp (fun _ _ h => altL_exo x h) r, l⟩
def oRr (C CW : Addr) : Hp → V → Ob → Prop := fun H v o => match o with
  | .cty L => ∃ p, v = .ref p ∧ CAt C H p L ∧ ∃ vt, Good vt L
  | .web L Bs => ∃ p, v = .ref p ∧ WAtD CW C H p L Bs ∧ ∃ vt, Good vt L
def oR (C CW : Addr) : OR := ⟨oRr C CW, fun H H' v o x h => by
  cases o with
  | cty L =>
    obtain ⟨p, r, a, g⟩ := h
    exact ⟨p, r, CAt.exo x a, g⟩
  | web L Bs =>
    obtain ⟨p, r, a, g⟩ := h
    exact ⟨p, r, WAtD.exo x a, g⟩⟩
def cloB (P : Option Addr) (B H : Hp) : Hp := fun b => match H b with
  | none => none
  | some (.tup xs) => some (.tup xs)
  | some (.own a) => match H a with
    | some o => if insLike o = true ∧ (B a).isSome = true then some (.own a) else none
    | none => none
  | some o => if P = some b then some o else B b
section
variable {P : Option Addr} {B H : Hp}
theorem clo_at {b : Addr} {o : HO} (bh : Ex B H) (h : B b = some o) (no : ∀ a, o ≠ .own a) : cloB P B H b = some o := by
  have hh := bh b o h
  unfold cloB
  rw [hh]
  cases o with
  | own a => exact absurd rfl (no a)
  | tup xs => rfl
  | _ =>
    dsimp only
    split
    · rfl
    · exact h
theorem clo_ins {a : Addr} {o : HO} (bh : Ex B H) (po : PotOk P H) (h : H a = some o) (hi : insLike o = true) : cloB P B H a = B a := by
  unfold cloB
  rw [h]
  have nP : P ≠ some a := fun e => by
    obtain ⟨x, y, k, _⟩ := po a e
    rw [h] at k
    cases k
    cases hi
  cases o with
  | ins C dx fs =>
    dsimp only
    rw [if_neg nP]
  | frz ob u =>
    dsimp only
    rw [if_neg nP]
  | _ => cases hi
theorem clo_ok (bh : Ex B H) (po : PotOk P H) : Clo H (cloB P B H) where
  ex := fun b o h => by
    unfold cloB at h
    split at h
    · cases h
    · next q => cases h; exact q
    · next a q =>
      split at h
      · split at h
        · cases h; exact q
        · cases h
      · cases h
    · next o' _ _ q =>
      split at h
      · cases h; exact q
      · exact bh b o h
  tup := fun b xs h => by unfold cloB; rw [h]
  own1 := fun b a o h ha hi hn => by
    rw [clo_ins bh po ha hi] at hn
    unfold cloB
    rw [h]
    dsimp only
    rw [ha]
    dsimp only
    rw [if_neg (fun z => by rw [hn] at z; cases z.2)]
  own2 := fun b a o h ha hi hn => by
    rw [clo_ins bh po ha hi] at hn
    unfold cloB
    rw [h]
    dsimp only
    rw [ha]
    dsimp only
    rw [if_pos ⟨hi, by cases z : B a with
      | none => exact absurd z hn
      | some u => rfl⟩]
theorem clo_pot {p : Addr} (po : PotOk P H) (e : P = some p) : cloB P B H p = H p := by
  obtain ⟨a, b, h, _⟩ := po p e
  unfold cloB
  rw [h]
  dsimp only
  rw [if_pos e]
theorem clo_potok (po : PotOk P H) : PotOk P (cloB P B H) := fun p e => by
  have := clo_pot (B := B) po e
  obtain ⟨a, b, h, r⟩ := po p e
  exact ⟨a, b, by rw [this]; exact h, r⟩
theorem clo_nw {b : Addr} {o : HO} (h : cloB P B H b = some o) : B b = some o ∨ Imm o ∨ P = some b := by
  unfold cloB at h
  split at h
  · cases h
  · cases h; exact .inr (.inl trivial)
  · split at h
    · split at h
      · cases h; exact .inr (.inl trivial)
      · cases h
    · cases h
  · split at h
    · next e => exact .inr (.inr e)
    · exact .inl h
def butP (P : Option Addr) (H : Hp) : Hp := fun b => if P = some b then none else H b
theorem butP_ex {P : Option Addr} {H : Hp} : Ex (butP P H) H := fun b o h => by
  unfold butP at h
  split at h
  · cases h
  · exact h
theorem res_fr {B' H' X : Hp} (bh : Ex B H) (po : PotOk P H) (pb : ∀ p, P = some p → B p = none) (e : ExP P (cloB P B H) B') (po' : PotOk P B') (x1 : Ex B' H') (x2 : ∀ b o, H b = some o → cloB P B H b = none → H' b = some o) (x3 : ∀ b o, B' b = some o → cloB P B H b ≠ none ∨ H b = none)
    (hX : Ex X (butP P B')) : ∃ B2, Step P B H B2 H' ∧ PotOk P H' ∧ Exo X B2 ∧ ∀ b, B b = none → X b = none → B2 b = none := by
  let B2 : Hp := fun b => match B b with
    | some o => some o
    | none => X b
  have h1 : ∀ b o, B b = some o → B2 b = some o := fun b o h => by
    show (match B b with | some o => some o | none => X b) = _
    rw [h]
  have h2 : ∀ b, B b = none → B2 b = X b := fun b h => by
    show (match B b with | some o => some o | none => X b) = _
    rw [h]
  have hh : ExP P H H' := fun b o h n => by
    cases z : cloB P B H b with
    | none => exact x2 b o h z
    | some u =>
      have := (clo_ok bh po).ex b u z
      rw [h] at this
      cases this
      exact x1 b _ (e b _ z n)
  have bP : ∀ b o, B b = some o → P ≠ some b := fun b o h z => by rw [pb b z] at h; cases h
  refine ⟨B2, ⟨fun b o h => h1 b o h, fun b o h => ?_, hh, fun b o h => ?_⟩, po'.ex x1, fun b o h no => ?_, fun b n m => by rw [h2 b n]; exact m⟩
  · cases z : B b with
    | some u =>
      rw [h1 b u z] at h
      cases h
      exact hh b _ (bh b _ z) (bP b _ z)
    | none =>
      rw [h2 b z] at h
      exact x1 b o (butP_ex b o (hX b o h))
  · cases z : B b with
    | some u => rw [h1 b u z] at h; cases h; exact .inl rfl
    | none =>
      rw [h2 b z] at h
      have h := hX b o h
      have hb := butP_ex b o h
      rcases x3 b o hb with w | w
      · cases y : cloB P B H b with
        | none => exact absurd y w
        | some u =>
          have nP : P ≠ some b := fun q => by
            unfold butP at h
            rw [if_pos q] at h
            cases h
          have := e b u y nP
          rw [hb] at this
          cases this
          rcases clo_nw y with q | q | q
          · rw [z] at q; cases q
          · exact .inr (.inr q)
          · exact absurd q nP
      · exact .inr (.inl w)
  · cases z : B b with
    | some u =>
      have hb := butP_ex b o (hX b o h)
      -- what is known stays what it is
      by_cases w : ∃ a, u = .own a
      · obtain ⟨a, rfl⟩ := w
        have g1 := hh b _ (bh b _ z) (bP b _ z)
        rw [x1 b o hb] at g1
        cases g1
        exact absurd rfl (no a)
      · have g1 := e b u (clo_at bh z fun a q => w ⟨a, q⟩) (bP b _ z)
        rw [hb] at g1
        cases g1
        exact h1 b _ z
    | none => rw [h2 b z]; exact h
end
theorem br_E {R : OR} {pot : Bool} {n : Nat} {ef : List D → (D → Prop) → Prop} {sp : Sp} (h : ∀ P (B : Hp) vs us ds k (Q : VK), (P = none ∧ pot = false ∧ vs = us ∨ ∃ p, P = some p ∧ pot = true ∧ vs = .ref p :: us) → PotOk P B → ds.length = n → RpA R (butP P B) us ds → ef ds k → (∀ d v B', k d → ExP P B B' → PotOk P B' → Rp R (butP P B') v d → Q v B') → ∀ E, sp vs B Q E) :
    ∀ vs H Q E, spE R pot n ef vs H Q E → spFr sp vs H Q E := fun vs H Q E ⟨P, B, us, ds, k, hP, po, pb, bh, r, hn, he, q⟩ => by
  refine ⟨cloB P B H, clo_ok bh po, h P _ vs us ds k _ hP (clo_potok po) hn (RpA.monoO (fun b o hb no => ?_) ds r) he (fun d v B' kd e po' r' H' x1 x2 x3 => ?_) E⟩
  · have := clo_at (P := P) bh hb no
    unfold butP
    rw [if_neg fun z => by rw [pb b z] at hb; cases hb]
    exact this
  · obtain ⟨B2, s, po2, r2, _⟩ := res_fr bh po pb e po' x1 x2 x3 (Ex.refl _)
    exact q d v B2 H' kd s po2 (Rp.monoO r2 d r')
def but1 (p : Addr) (H : Hp) : Hp := fun b => if b = p then none else H b
theorem br_F {R : OR} {pot : Bool} {n : Nat} {ef : List D → (List D → Prop) → Prop} {sp : Sp} (h : ∀ P (B : Hp) vs us ds k (Q : VK), (P = none ∧ pot = false ∧ vs = us ∨ ∃ p, P = some p ∧ pot = true ∧ vs = .ref p :: us) → PotOk P B → ds.length = n → RpA R (butP P B) us ds → ef ds k → (∀ l p ws B', k l → ExP P B B' → PotOk P B' → B p = none → B' p = some (.lst ws) → RpA R (but1 p (butP P B')) ws l → Q (.ref p) B') → ∀ E, sp vs B Q E) :
    ∀ vs H Q E, spF R pot n ef vs H Q E → spFr sp vs H Q E := fun vs H Q E ⟨P, B, us, ds, k, hP, po, pb, bh, r, hn, he, q⟩ => by
  refine ⟨cloB P B H, clo_ok bh po, h P _ vs us ds k _ hP (clo_potok po) hn (RpA.monoO (fun b o hb no => ?_) ds r) he (fun l p ws B' kl e po' hp hp' r' H' x1 x2 x3 => ?_) E⟩
  · have := clo_at (P := P) bh hb no
    unfold butP
    rw [if_neg fun z => by rw [pb b z] at hb; cases hb]
    exact this
  · have ex1 : Ex (but1 p (butP P B')) (butP P B') := fun b o hb => by
      unfold but1 at hb
      split at hb
      · cases hb
      · exact hb
    obtain ⟨B2, s, po2, r2, fr⟩ := res_fr bh po pb e po' x1 x2 x3 ex1
    have hn : H p = none := by
      rcases x3 p _ hp' with w | w
      · exact absurd hp w
      · exact w
    exact q l p ws B2 H' kl s po2 hn (fr p (Evl.fresh_back bh hn) (by unfold but1; rw [if_pos rfl])) (x1 _ _ hp') (RpA.monoO r2 l r')
end DL
set_option Elab.async false
set_option linter.all false
set_option maxRecDepth 100000
set_option maxHeartbeats 4000000
namespace DL
open PySem PySem.Spec PyProof.Rows L2 TM Pr Ep Nw
open Evl (Ex)
def tyD : D → Option String
  | .non => some "NoneType"
  | .bl _ => some "bool"
  | .int _ => some "int"
  | .str _ => some "str"
  | .lst _ => some "list"
  | .tup _ => some "tuple"
  | .dk _ _ => some "dict"
  | .dt _ _ => some "dict"
  | .ty _ => none
  | .ob _ => none
  | .rg _ => none
section
variable {R : OR} {K : PySem.W.Frag}
theorem ty_of {P : Option Addr} {B H : Hp} {v : V} {d : D} {T : String} (bh : Ex B H) (r : RpW R P B H v d) (h : tyD d = some T) : TyX K H v (.type T) := by
  cases d with
  | non => cases h; rw [r.non]; exact .base .non
  | bl b => cases h; rw [r.bl]; exact .base (.bl _)
  | int b => cases h; rw [r.int]; exact .base (.int _)
  | str b => cases h; rw [r.str]; exact .base (.str _)
  | lst l => cases h; obtain ⟨p, vs, rfl, e, _⟩ := r.lst bh; exact .base (.lst e)
  | tup l => cases h; obtain ⟨p, vs, rfl, _, e, _⟩ := r.tup bh; exact .base (.tup e)
  | dk ks l =>
    cases h
    rcases r with r | r
    · simp only [Rp] at r; obtain ⟨p, vs, rfl, e, _⟩ := r; exact .base (.dK (bh _ _ e))
    · obtain ⟨p, vs, rfl, e, _⟩ := r; exact .base (.dK e)
  | dt ks l =>
    cases h
    rcases r with r | r
    · simp only [Rp] at r; obtain ⟨p, vs, rfl, e, _⟩ := r; exact .base (.dT (bh _ _ e))
    · obtain ⟨p, vs, rfl, e, _⟩ := r; exact .base (.dT e)
  | ty n => cases h
  | ob o => cases h
  | rg n => cases h
def isiD (T : String) : D → DK → Prop := fun d k => ∃ a b, tyD d = some a ∧ kitB a T = some b ∧ k (.bl b)
def eIsi (T : String) (ea : EE) : EE := fun env k => ea env fun d => isiD T d k
theorem we_isi {te : TE} {ee : EE} {T : String} (h : WO R te ee) : WE R (tCB (rIsi K) (tCons te (tCons (tC (.ty T)) tNil))) (eIsi T ee) := fun P env σ B H Q k E he q =>
  h P env σ B H _ _ E he fun d v B1 H1 kd s1 E1 r1 => by
    obtain ⟨a, b, h1, h2, hk⟩ := kd
    exact ⟨v, .ty T, .type a, .type T, b, rfl, .ty T, ty_of E1.bh r1 h1, kit_ty h2, q _ _ B1 H1 hk s1 E1 rp_bl⟩
def isi2D (T U : String) : D → DK → Prop := fun d k => ∃ a b c, tyD d = some a ∧ kitB a T = some b ∧ kitB a U = some c ∧ k (.bl (b || c))
def eIsi2 (T U : String) (ea : EE) : EE := fun env k => ea env fun d => isi2D T U d k
theorem we_isi2 {te : TE} {ee : EE} {T U : String} (h : WO R te ee) : WE R (tCB (rIsiT K) (tCons te (tCons (tTup (tCons (tC (.ty T)) (tCons (tC (.ty U)) tNil))) tNil))) (eIsi2 T U ee) := fun P env σ B H Q k E he q =>
  h P env σ B H _ _ E he fun d v B1 H1 kd s1 E1 r1 => ⟨by show 2 ≤ sizeLine; decide, fun p hp => by
    obtain ⟨a, b, c, h1, h2, h3, hk⟩ := kd
    obtain ⟨s2, E2⟩ := E1.allocU (o := .tup [.ty T, .ty U]) hp
    refine ⟨v, p, [.ty T, .ty U], .type a, [.type T, .type U], b || c, rfl, upd_same, .cons (.ty T) (.cons (.ty U) .nil), ty_of E2.bh (r1.step s2) h1, ?_, q _ _ B1 _ hk (s1.trans E1.pot s2) E2 rp_bl⟩
    refine kitAny_cons (kit_ty h2) (fun hb => kitAny_cons (kit_ty h3) (fun hc => ?_) (fun hc => ?_)) (fun hb => by rw [hb]; rfl)
    · rw [hb, hc]; rfl
    · rw [hb, hc]; rfl⟩
def rReprU (K : PySem.W.Frag) : List V → Hp → VK → Prop := fun xs H Q => G8.rRepr K xs H Q ∨ (∃ b, xs = [.bl b] ∧ Q (.str (if b then "True" else "False")) H) ∨ (xs = [.non] ∧ Q (.str "None") H) ∨
  (∃ i : Int, xs = [.int i] ∧ i.natAbs.log2 < 1920 ∧ Q (.str (toString i)) H) ∨ (∃ x : Str, xs = [.str x] ∧ (reprText x).length ≤ sizeLine ∧ Q (.str (reprText x)) H) ∨ ∃ a, xs = [.ref a] ∧ H a = some (.dK []) ∧ Q (.str (dictText [])) H
theorem cr_reprU {X : Cx} (hG : X.A.guards = some []) (hu : X.A.units + 64 < cLine) : CallR X (.builtin "repr") (rReprU X.K) := by
  intro pins s σ H xs us Q I r h
  rcases h with h | ⟨b, rfl, q⟩ | ⟨rfl, q⟩ | ⟨i, rfl, hz, q⟩ | ⟨x, rfl, hz, q⟩ | ⟨a, rfl, e, q⟩
  · exact G8.cr_repr hG hu pins s σ H xs us Q I r h
  · obtain ⟨u, rfl, ru⟩ := vals1 r
    obtain rfl : u = Value.bool b := ru
    exact PySem.P.repr_of_bool ⟨.str _, H, I.tok _, ⟨_, rfl⟩, q⟩
  · obtain ⟨u, rfl, ru⟩ := vals1 r
    obtain rfl : u = Value.none := ru
    exact PySem.P.repr_of_none ⟨.str _, H, I.tok _, ⟨_, rfl⟩, q⟩
  · obtain ⟨u, rfl, t, rfl⟩ := vals1 r
    exact PySem.P.repr_of_int hz ⟨.str _, H, I.tok _, ⟨_, rfl⟩, q⟩
  · obtain ⟨u, rfl, t, rfl⟩ := vals1 r
    exact PySem.P.repr_of_str ⟨.str _, H, I.tok _, ⟨_, rfl⟩, q⟩ hz
  · obtain ⟨u, rfl, ru⟩ := vals1 r
    obtain rfl : u = Value.ref a := ru
    obtain ⟨_, hsm, vs, kv, o, es, ep, ho, hx, hd, _, hp, _⟩ := dk_of I.hok e
    have e1 : vs = [] := by cases kv; rfl
    subst e1
    have e2 : es.toList = [] := by
      generalize es.toList = l at hp
      cases hp
      rfl
    have R : Reads s.heap (.ref a) (.dict []) (a :: [] ++ []) := Reads.dict ho hx.1 hd (by rw [e2]; exact ReadsAll.nil) (by rw [e2]; exact ReadsAll.nil)
    refine repr_of_reads' R rfl (fun _ => ?_) hG (by show X.A.units + (1 + 0 + 1) < cLine; omega) (fun _ _ e => e) (fun h' u tk hk => ?_) (by decide +kernel)
    · intro m
      have : sysModules = a := by simpa using m
      rw [← this] at hsm
      simp at hsm
    · exact ⟨.str (dictText []), H, I.kept hk, ⟨u, rfl⟩, q⟩
def wrD (d : D) : Prop := isPy d = true ∧ (toPy d).showable = true ∧ (toPy d).hasDict = false ∧ (toPy d).depth ≤ 60 ∧ (toPy d).shown.length ≤ 16777216
def reprD : D → DK → Prop := fun d k => match d with
  | .bl b => k (.str (if b then "True" else "False"))
  | .non => k (.str "None")
  | .int i => i.natAbs.log2 < 1920 ∧ k (.str (toString i))
  | .str s => (reprText s).length ≤ 16777216 ∧ k (.str (reprText s))
  | .dk ks _ => ks = [] ∧ k (.str (dictText []))
  | .lst l => wrD (.lst l) ∧ k (.str (toPy (.lst l)).shown)
  | .tup l => wrD (.tup l) ∧ k (.str (toPy (.tup l)).shown)
  | _ => False
theorem ud_repr : UnD R (fun x H Q => rReprU K [x] H Q) reprD := fun P B H x a Q k bh po ra hf q => by
  have go : ∀ p, x = .ref p → wrD a → k (.str (toPy a).shown) → rReprU K [x] H Q := fun p e w hk => by
    subst e
    exact .inl ⟨p, toPy a, rfl, dp_w bh ra w.1, w.2.1, w.2.2.1, w.2.2.2.1, by rw [sizeLine_eq]; exact w.2.2.2.2, res_same bh po hk (fun _ => rp_str) q⟩
  cases a with
  | bl b =>
    have := ra.bl
    subst x
    exact .inr (.inl ⟨b, rfl, res_same bh po hf (fun _ => rp_str) q⟩)
  | non =>
    have := ra.non
    subst x
    exact .inr (.inr (.inl ⟨rfl, res_same bh po hf (fun _ => rp_str) q⟩))
  | int i =>
    have := ra.int
    subst x
    exact .inr (.inr (.inr (.inl ⟨i, rfl, hf.1, res_same bh po hf.2 (fun _ => rp_str) q⟩)))
  | str y =>
    have := ra.str
    subst x
    exact .inr (.inr (.inr (.inr (.inl ⟨y, rfl, by rw [sizeLine_eq]; exact hf.1, res_same bh po hf.2 (fun _ => rp_str) q⟩))))
  | dk ks l =>
    obtain ⟨rfl, hf⟩ := hf
    have go : ∃ p, x = .ref p ∧ H p = some (.dK []) := by
      rcases ra with r | r
      · simp only [Rp] at r
        obtain ⟨p, vs, rfl, e, _⟩ := r
        exact ⟨p, rfl, bh _ _ e⟩
      · obtain ⟨p, vs, rfl, e, _⟩ := r
        exact ⟨p, rfl, e⟩
    obtain ⟨p, rfl, e⟩ := go
    exact .inr (.inr (.inr (.inr (.inr ⟨p, rfl, e, res_same bh po hf (fun _ => rp_str) q⟩))))
  | lst l =>
    obtain ⟨p, vs, e, _⟩ := ra.lst bh
    exact go p e hf.1 hf.2
  | tup l =>
    obtain ⟨p, vs, e, _⟩ := ra.tup bh
    exact go p e hf.1 hf.2
  | _ => exact hf.elim
abbrev EM := Env → (SV → Prop) → Prop
def ItOk (R : OR) (P : Option Addr) (B' H' H : Hp) (v : V) : SV → Prop
  | .val d => Rp R B' v d
  | .ml l => ∃ p vs, v = .ref p ∧ H p = none ∧ B' p = none ∧ H' p = some (.lst vs) ∧ RpA R B' vs l
  | .mt ks l => ∃ p vs, v = .ref p ∧ H p = none ∧ B' p = none ∧ H' p = some (.dT (ks.zip vs)) ∧ RpA R B' vs l ∧ ks.length = l.length
  | .mk ks l => ∃ p vs, v = .ref p ∧ H p = none ∧ B' p = none ∧ H' p = some (.dK (ks.zip vs)) ∧ RpA R B' vs l ∧ ks.length = l.length
  | _ => False
def WM (R : OR) (te : TE) (em : EM) : Prop := ∀ P env σ B H (Q : VK) k, EnvOk R P env σ B H → em env k → (∀ sv v B' H', k sv → Step P B H B' H' → EnvOk R P env σ B' H' → ItOk R P B' H' H v sv → Q v H') → te σ H Q
def emE (ee : EE) : EM := fun env k => ee env fun d => k (.val d)
def emF (el : EL) : EM := fun env k => el env fun l => k (.ml l)
theorem wm_E {te : TE} {ee : EE} (h : WE R te ee) : WM R te (emE ee) := fun P env σ B H Q k E he q => h P env σ B H _ _ E he fun d v B' H' kd s E' r => q (.val d) v B' H' kd s E' r
theorem wm_F {te : TE} {el : EL} (h : WF R te el) : WM R te (emF el) := fun P env σ B H Q k E he q => h P env σ B H _ _ E he fun l p vs B' H' kl s E' hp hb hh r => q (.ml l) (.ref p) B' H' kl s E' ⟨p, vs, rfl, hp, hb, hh, r⟩
theorem ItOk.step {P : Option Addr} {B H B1 H1 B2 H2 : Hp} {v : V} {sv : SV} (h : ItOk R P B1 H1 H v sv) (po : PotOk P H) (s1 : Step P B H B1 H1) (s2 : Step P B1 H1 B2 H2) : ItOk R P B2 H2 H v sv := by
  cases sv with
  | val d => exact Rp.mono s2.bb d h
  | ml l =>
    obtain ⟨p, vs, r, hp, hb, hh, a⟩ := h
    have nP := fresh_pot po hp
    refine ⟨p, vs, r, hp, ?_, s2.hh _ _ hh nP, a.mono s2.bb l⟩
    cases z : B2 p with
    | none => rfl
    | some o =>
      rcases s2.nw p o z with w | w | w
      · rw [hb] at w; cases w
      · rw [hh] at w; cases w
      · have h1 := s2.bh _ _ z
        rw [s2.hh _ _ hh nP] at h1
        cases h1
        exact w.elim
  | mt ks l =>
    obtain ⟨p, vs, r, hp, hb, hh, a, ln⟩ := h
    have nP := fresh_pot po hp
    refine ⟨p, vs, r, hp, ?_, s2.hh _ _ hh nP, a.mono s2.bb l, ln⟩
    cases z : B2 p with
    | none => rfl
    | some o =>
      rcases s2.nw p o z with w | w | w
      · rw [hb] at w; cases w
      · rw [hh] at w; cases w
      · have h1 := s2.bh _ _ z
        rw [s2.hh _ _ hh nP] at h1
        cases h1
        exact w.elim
  | mk ks l =>
    obtain ⟨p, vs, r, hp, hb, hh, a, ln⟩ := h
    have nP := fresh_pot po hp
    refine ⟨p, vs, r, hp, ?_, s2.hh _ _ hh nP, a.mono s2.bb l, ln⟩
    cases z : B2 p with
    | none => rfl
    | some o =>
      rcases s2.nw p o z with w | w | w
      · rw [hb] at w; cases w
      · rw [hh] at w; cases w
      · have h1 := s2.bh _ _ z
        rw [s2.hh _ _ hh nP] at h1
        cases h1
        exact w.elim
  | _ => exact h.elim
theorem SOk.item {P : Option Addr} {B0 H0 : Hp} {env : Env} {σ : L2.St} {B H : Hp} (S : SOk R P B0 H0 env σ B H) (i : Nat) {v : V} {sv : SV} {Ha : Hp} (h : ItOk R P B H Ha v sv) (h0 : ∀ p, Ha p = none → H0 p = none) (nn : ∀ (j : Nat) (x : SV) (p : Addr), v = .ref p → Ha p = none → env[j]? = some x → isM x = true → σ[j]? ≠ some (some (V.ref p))) (nP : ∀ p, Ha p = none → P ≠ some p) : SOk R P B0 H0 (env.set i sv) (σ.set i (some v)) B H := by
  cases sv with
  | val d => exact S.set i h
  | ml l =>
    obtain ⟨p, vs, rfl, hp, hb, hh, a⟩ := h
    refine ⟨S.e.setM i (fun j x hj m => nn j x p rfl hp hj m) (fun σ' q => ⟨p, vs, q, hh, hb, nP p hp, a⟩), S.s, fun j sv q hj m w => ?_⟩
    by_cases e : i = j
    · subst e
      have hi : i < σ.length := by
        have := (List.getElem?_eq_some_iff.mp w).1
        simpa using this
      rw [List.getElem?_set_self hi] at w
      have : V.ref p = V.ref q := Option.some.inj (Option.some.inj w)
      cases this
      exact h0 p hp
    · rw [List.getElem?_set_ne e] at hj w
      exact S.fr j sv q hj m w
  | mt ks l =>
    obtain ⟨p, vs, rfl, hp, hb, hh, a, ln⟩ := h
    refine ⟨S.e.setM i (fun j x hj m => nn j x p rfl hp hj m) (fun σ' q => ⟨p, vs, q, hh, ln, hb, nP p hp, a⟩), S.s, fun j sv q hj m w => ?_⟩
    by_cases e : i = j
    · subst e
      have hi : i < σ.length := by
        have := (List.getElem?_eq_some_iff.mp w).1
        simpa using this
      rw [List.getElem?_set_self hi] at w
      have : V.ref p = V.ref q := Option.some.inj (Option.some.inj w)
      cases this
      exact h0 p hp
    · rw [List.getElem?_set_ne e] at hj w
      exact S.fr j sv q hj m w
  | mk ks l =>
    obtain ⟨p, vs, rfl, hp, hb, hh, a, ln⟩ := h
    refine ⟨S.e.setM i (fun j x hj m => nn j x p rfl hp hj m) (fun σ' q => ⟨p, vs, q, hh, ln, hb, nP p hp, a⟩), S.s, fun j sv q hj m w => ?_⟩
    by_cases e : i = j
    · subst e
      have hi : i < σ.length := by
        have := (List.getElem?_eq_some_iff.mp w).1
        simpa using this
      rw [List.getElem?_set_self hi] at w
      have : V.ref p = V.ref q := Option.some.inj (Option.some.inj w)
      cases this
      exact h0 p hp
    · rw [List.getElem?_set_ne e] at hj w
      exact S.fr j sv q hj m w
  | _ => exact h.elim
def sPar (i j : Nat) (a b : EM) : ES := fun env k => a env fun x => b env fun y => k.nx ((env.set i x).set j y)
theorem wb_par {ta tb : TE} {a b : EM} {i j : Nat} (ha : WM R ta a) (hb : WM R tb b) : WB R (tPar i j (tCons ta (tCons tb tNil))) (sPar i j a b) := fun P B0 H0 env σ B H D k S he K =>
  ha P env σ B H _ _ S.e he fun x v B1 H1 k1 s1 E1 r1 => hb P env σ B1 H1 _ _ E1 k1 fun y u B2 H2 k2 s2 E2 r2 => by
    have S2 := (S.step s1 E1).step s2 E2
    have h0 : ∀ p, H p = none → H0 p = none := fun p z => fresh_backP S.s.hh (fresh_pot S.e.pot z) z
    have h01 : ∀ p, H1 p = none → H0 p = none := fun p z => h0 p (fresh_backP s1.hh (fresh_pot E1.pot z) z)
    have S3 := S2.item i (r1.step S.e.pot s1 s2) h0 (fun j x p _ hp hj m => S.e.notNew hp j x hj m) (fun p z => fresh_pot S.e.pot z)
    refine ⟨v, u, rfl, K.nx _ _ B2 H2 k2 (S3.item j r2 h01 (fun j' x' p e hp hj m w => ?_) (fun p z => fresh_pot E1.pot z))⟩
    by_cases e2 : i = j'
    · subst e2
      have hi : i < σ.length := by
        have := (List.getElem?_eq_some_iff.mp w).1
        simpa using this
      rw [List.getElem?_set_self hi] at w
      have hv : v = V.ref p := Option.some.inj (Option.some.inj w)
      have hi2 : i < env.length := by rw [← S.e.len]; exact hi
      rw [List.getElem?_set_self hi2] at hj
      cases hj
      cases x with
      | ml l =>
        obtain ⟨p', vs, e3, _, _, hh, _⟩ := r1
        rw [hv] at e3
        cases e3
        rw [hp] at hh
        cases hh
      | mt ks l =>
        obtain ⟨p', vs, e3, _, _, hh, _⟩ := r1
        rw [hv] at e3
        cases e3
        rw [hp] at hh
        cases hh
      | mk ks l =>
        obtain ⟨p', vs, e3, _, _, hh, _⟩ := r1
        rw [hv] at e3
        cases e3
        rw [hp] at hh
        cases hh
      | val d => cases m
      | _ => exact r1.elim
    · rw [List.getElem?_set_ne e2] at hj w
      exact E1.notNew hp j' x' hj m w
end
end DL
set_option Elab.async false
set_option linter.all false
set_option maxRecDepth 100000
set_option maxHeartbeats 4000000
namespace DL
open PySem PySem.Spec PyProof.Rows L2 TM Pr Ep Nw
open Evl (Ex)
def isCty : D → Bool
  | .ob (.cty _) => true
  | _ => false
def InsOf (R : OR) (C : Addr) (is : D → Bool) (m : Str) : Prop := ∀ H v d, is d = true → Rp R H v d → ∃ a dx fs, v = .ref a ∧ H a = some (.ins C dx fs) ∧ fs.lookup m = none
theorem ins_cty {C CW : Addr} {m : Str} (h : ([("_lanes", ()), ("_around", ()), ("_ahead", ()), ("_yards", ()), ("_gates", ())] : List (Str × Unit)).lookup m = none) : InsOf (oR C CW) C isCty m := fun H v d hd r => by
  cases d with
  | ob o =>
    cases o with
    | cty L =>
      simp only [Rp, oR, oRr] at r
      obtain ⟨p, rfl, ⟨dx, l, d, e, y, g, rs, qs, a, _⟩, _⟩ := r
      exact ⟨p, dx, _, rfl, a, fl_no h⟩
    | web L Bs => cases hd
  | _ => cases hd
section
variable {R : OR} {K : PySem.W.Frag} {C : Addr} {is : D → Bool} {m : Str} {ta tb : TE} {ea eb : EE} {E : XK}
def ePropF (is : D → Bool) (ef : List D → (List D → Prop) → Prop) (ea : EE) : EL := fun env k => ea env fun d => is d = true ∧ ef [d] k
theorem wf_prop {ef : List D → (List D → Prop) → Prop} (hC : InsOf R C is m) (h : WE R ta ea) : WF R (tProp C (spF R false 1 ef) [] E ta) (ePropF is ef ea) := fun P env σ B H Q k Ev he q =>
  h P env σ B H _ _ Ev he fun d v B1 H1 kd s1 E1 r1 => by
    obtain ⟨a, dx, fs, rfl, ho, _⟩ := hC _ _ _ kd.1 r1
    refine ⟨a, dx, fs, rfl, E1.bh _ _ ho, none, B1, [.ref a], [d], k, .inl ⟨rfl, rfl, rfl⟩, fun _ z => (nomatch z), fun _ z => (nomatch z), E1.bh, .cons r1 .nil, rfl, kd.2, fun l p vs' B2 H2 k2 s2 _ hp hb hh r2 => ?_⟩
    have po := E1.pot.ex s2.ex0
    exact q l p vs' B2 H2 k2 (s1.trans E1.pot s2.of0) (E1.step s2.of0 po) (fresh_backP s1.hh (fresh_pot E1.pot hp) hp) hb hh r2
def eMethF (is : D → Bool) (n : Nat) (ef : List D → (List D → Prop) → Prop) (ea : EE) (es : EL) : EL := fun env k => ea env fun d => is d = true ∧ es env fun ds => (d :: ds).length = n ∧ ef (d :: ds) k
theorem wf_meth {n : Nat} {ef : List D → (List D → Prop) → Prop} {ts : TA} {es : EL} (hC : InsOf R C is m) (h : WE R ta ea) (hs : WA R ts es) : WF R (tMeth C m (spF R false n ef) [] E ta ts) (eMethF is n ef ea es) := fun P env σ B H Q k Ev he q =>
  h P env σ B H _ _ Ev he fun d v B1 H1 kd s1 E1 r1 => by
    obtain ⟨a, dx, fs, rfl, ho, hm⟩ := hC _ _ _ kd.1 r1
    refine ⟨a, dx, fs, rfl, E1.bh _ _ ho, hm, hs P env σ B1 H1 _ _ E1 kd.2 fun ds vs B2 H2 k2 s2 E2 r2 => ?_⟩
    rw [List.append_nil]
    refine ⟨none, B2, _, d :: ds, k, .inl ⟨rfl, rfl, rfl⟩, fun _ z => (nomatch z), fun _ z => (nomatch z), E2.bh, .cons (r1.mono s2.bb d) r2, k2.1, k2.2, fun l p vs' B3 H3 k3 s3 _ hp hb hh r3 => ?_⟩
    have po := E2.pot.ex s3.ex0
    have s12 := s1.trans E1.pot s2
    exact q l p vs' B3 H3 k3 (s12.trans E2.pot s3.of0) (E2.step s3.of0 po) (fresh_backP s12.hh (fresh_pot E2.pot hp) hp) hb hh r3
def addU : D → D → DK → Prop := fun a b k => match a, b with
  | .int i, .int j => k (.int (i + j))
  | .tup l, .tup m => l.length + m.length ≤ 100000 ∧ k (.tup (l ++ m))
  | .lst l, .lst m => l.length + m.length ≤ 100000 ∧ k (.lst (l ++ m))
  | .str i, .str j => i.length + j.length ≤ 100000 ∧ k (.str (i ++ j))
  | _, _ => False
theorem know_res {P : Option Addr} {B H B' H' : Hp} {Q : VK} {k : DK} {p : Addr} {vs : List V} {l : List D} (kl : k (.lst l)) (s : Step P B H B' H') (po : PotOk P H') (hp : H p = none) (hb : B' p = none) (hh : H' p = some (.lst vs)) (r : RpA R B' vs l) (q : ∀ d v B' H', k d → Step P B H B' H' → PotOk P H' → Rp R B' v d → Q v H') : Q (.ref p) H' := by
  have e : Ex B' (upd B' p (.lst vs)) := Ex.new hb
  refine q (.lst l) (.ref p) (upd B' p (.lst vs)) H' kl ⟨s.bb.trans e, fun b o z => ?_, s.hh, fun b o z => ?_⟩ po (rp_lst upd_same (r.mono e l))
  · by_cases n : b = p
    · subst n; rw [upd_same] at z; cases z; exact hh
    · rw [upd_ne n] at z; exact s.bh b o z
  · by_cases n : b = p
    · subst n; exact .inr (.inl hp)
    · rw [upd_ne n] at z; exact s.nw b o z
theorem od_addU : OpD R (rAddU K) addU := fun P B H x y a b Q k bh po ra rb hf q => by
  cases a with
  | lst l =>
    cases b with
    | lst m => exact of_cat (R := R) P B H x y (.lst l) (.lst m) Q (fun l => k (.lst l)) bh po ra rb hf fun l p vs B' H' kl s po' hp hb hh r => know_res kl s po' hp hb hh r q
    | _ => exact (show False from hf).elim
  | int i => cases b <;> first | exact (show False from hf).elim | exact od_add P B H x y _ _ Q k bh po ra rb hf q
  | tup l => cases b <;> first | exact (show False from hf).elim | exact od_add P B H x y _ _ Q k bh po ra rb hf q
  | str i => cases b <;> first | exact (show False from hf).elim | exact od_add P B H x y _ _ Q k bh po ra rb hf q
  | _ => exact (show False from hf).elim
def slU : D → Option Int → Option Int → DK → Prop := fun a lo hi k => match a with
  | .tup l => k (.tup (cutD l lo hi))
  | .lst l => k (.lst (cutD l lo hi))
  | _ => False
theorem sd_slU : SlD R (rSlU K) slU := fun P B H x a lo hi Q k bh po ra hf q => by
  cases a with
  | lst l => exact sf_sl (R := R) P B H x (.lst l) lo hi Q (fun l => k (.lst l)) bh po ra hf fun l p vs B' H' kl s po' hp hb hh r => know_res kl s po' hp hb hh r q
  | tup l => exact sd_sl P B H x _ lo hi Q k bh po ra hf q
  | _ => exact (show False from hf).elim
def rMulU : R2 := fun x y H Q => rI CMul (fun i j => .int (i * j)) x y H Q ∨ rRep x y H Q
theorem op_mulU {X : Cx} : OpR X (binaryOp .Mult) rMulU := op_mul.or op_rep
theorem RpA.rep {B : Hp} {vs : List V} {l : List D} (h : RpA R B vs l) : ∀ n, RpA R B (List.replicate n vs).flatten (List.replicate n l).flatten
  | 0 => .nil
  | n + 1 => by
    rw [List.replicate_succ, List.replicate_succ, List.flatten_cons, List.flatten_cons]
    exact h.app (RpA.rep h n)
def mulF : D → D → (List D → Prop) → Prop := fun a b k => match a, b with
  | .lst l, .int n => 0 ≤ n ∧ n ≤ 100000 ∧ l.length * n.toNat ≤ 100000 ∧ k (List.replicate n.toNat l).flatten
  | _, _ => False
theorem of_mul : OpF R rMulU mulF := fun P B H x y a b Q k bh po ra rb hf q => by
  cases a with
  | lst l =>
    cases b with
    | int n =>
      obtain ⟨p, vs, rfl, hp, al⟩ := ra.lst bh
      have := rb.int
      subst y
      have hf : 0 ≤ n ∧ n ≤ 100000 ∧ l.length * n.toNat ≤ 100000 ∧ k (List.replicate n.toNat l).flatten := hf
      exact .inr ⟨p, n, vs, rfl, rfl, hp, by omega, by omega, Evl.sz_of (by rw [al.len]; exact hf.2.2.1), fun c hc => res_lst bh po hf.2.2.2 (al.rep _) hc q⟩
    | _ => exact hf.elim
  | _ => exact hf.elim
def rLtL (K : PySem.W.Frag) : R2 := fun x y H Q => ∃ da db, Dp K H x da ∧ Dp K H y db ∧ PySem.W.alike da db = true ∧ da ≠ .none ∧ da.depth ≤ 60 ∧ Q (.bl (PySem.W.dataLt da db)) H
theorem op_ltL {X : Cx} (hu : X.A.units + 64 < cLine) : OpR X (compareOp .Lt) (rLtL X.K) := by
  intro pins s σ H x y v u Q I rx ry h
  obtain ⟨da, db, h1, h2, h3, h4, h5, q⟩ := h
  obtain ⟨as, ra⟩ := Dp.reads I _ _ _ h1 rx
  obtain ⟨bs, rb⟩ := Dp.reads I _ _ _ h2 ry
  exact PySem.W.lt_data ra rb h3 h4 (by omega) ⟨.bl (PySem.W.dataLt da db), H, I, rfl, q⟩
def rLtU (K : PySem.W.Frag) : R2 := fun x y H Q => rI0 (fun i j => .bl (decide (i < j))) x y H Q ∨ rLtT K x y H Q ∨ rLtL K x y H Q
theorem op_ltU {X : Cx} (hu : X.A.units + 64 < cLine) : OpR X (compareOp .Lt) (rLtU X.K) := op_lt.or ((op_ltT (by omega)).or (op_ltL hu))
def ltU : D → D → DK → Prop := fun a b k => match a, b with
  | .int i, .int j => k (.bl (decide (i < j)))
  | .tup l, .tup m => ∃ ns ms : List Int, l = ns.map D.int ∧ m = ms.map D.int ∧ k (.bl (HT.lexLt ns ms))
  | .lst l, .lst m => (isPys l = true ∧ isPys m = true ∧ PySem.W.alike (.list (toPys l)) (.list (toPys m)) = true ∧ (PyData.list (toPys l)).depth ≤ 60) ∧ k (.bl (PySem.W.dataLt (.list (toPys l)) (.list (toPys m))))
  | _, _ => False
theorem od_ltU : OpD R (rLtU K) ltU := fun P B H x y a b Q k bh po ra rb hf q => by
  cases a with
  | int i =>
    cases b with
    | int j => exact .inl (od_lt (R := R) P B H x y (.int i) (.int j) Q k bh po ra rb hf q)
    | _ => exact (show False from hf).elim
  | tup l =>
    cases b with
    | tup m =>
      obtain ⟨ns, ms, rfl, rfl, hk⟩ := hf
      obtain ⟨p, vs, rfl, _, hp, al⟩ := ra.tup bh
      obtain ⟨p', vs', rfl, _, hp', am⟩ := rb.tup bh
      rw [al.ints] at hp
      rw [am.ints] at hp'
      exact .inr (.inl ⟨p, p', ns, ms, rfl, rfl, Evl.st_of hp, Evl.st_of hp', res_same bh po hk (fun _ => rp_bl) q⟩)
    | _ => exact (show False from hf).elim
  | lst l =>
    cases b with
    | lst m =>
      obtain ⟨⟨h1, h2, h3, h4⟩, hk⟩ := hf
      have d1 := dp_w (K := K) bh ra (show isPy (.lst l) = true from h1)
      have d2 := dp_w (K := K) bh rb (show isPy (.lst m) = true from h2)
      simp only [toPy] at d1 d2
      exact .inr (.inr ⟨_, _, d1, d2, h3, (fun z => nomatch z), h4, res_same bh po hk (fun _ => rp_bl) q⟩)
    | _ => exact (show False from hf).elim
  | _ => exact (show False from hf).elim
end
end DL
set_option Elab.async false
set_option linter.all false
set_option maxRecDepth 100000
set_option maxHeartbeats 4000000
namespace DL
open PySem PySem.Spec PyProof.Rows L2 TM Pr Ep Nw
open Evl (Ex)
theorem it0 {J : It} {n : Nat} {G : Hp → Prop} {Y : Nat → Hp → V → Hp → Prop} (w : Walk J n G Y) {H1 : Hp} {Qd : Hp → Prop} {Body : V → Hp → (Hp → Prop) → Prop} (Pv : Nat → Hp → Prop) (h0 : Pv 0 H1) (hG : ∀ i H, i ≤ n → Pv i H → G H)
    (hs : ∀ i x H H', i < n → Pv i H → Y i H x H' → Body x H' (Pv (i + 1))) (hd : ∀ H, Pv n H → Qd H) :
    ∃ W : Nat → Nat → Hp → Prop, (∃ m, W 0 m H1) ∧ ∀ i m H, W i m H → (J.stop i H ∧ Qd H) ∨ (J.go i H ∧ ∃ Nx : Hp → Prop, (∀ H', Nx H' → ∃ m', m' < m ∧ W (i + 1) m' H') ∧ ∀ x H', J.yld i H x H' → Body x H' Nx) := by
  refine ⟨fun i m H => m = n - i ∧ i ≤ n ∧ Pv i H, ⟨n, by simp, Nat.zero_le _, h0⟩, ?_⟩
  rintro i m H ⟨rfl, hi, p⟩
  have q := hG i H hi p
  by_cases hlt : i < n
  · exact .inr ⟨w.goes i H hlt q, Pv (i + 1), fun H' p' => ⟨n - (i + 1), by omega, rfl, hlt, p'⟩, fun x H' y => hs i x H H' hlt p (w.yields i H x H' hlt q y)⟩
  · have e : i = n := by omega
    subst e
    exact .inl ⟨w.stops H q, hd H p⟩
theorem EnvOk.off {R : OR} {P : Option Addr} {env : Env} {σ : L2.St} {B H : Hp} (E : EnvOk R P env σ B H) {D : Addr} {o : HO} (hb : B D = none) (nP : P ≠ some D) (nd0 : ∀ (i : Nat) (sv : SV) (q : Addr), env[i]? = some sv → isM sv = true → σ[i]? = some (some (V.ref q)) → q ≠ D) : EnvOk R P env σ B (upd H D o) where
  len := E.len
  bh := Ex.mut E.bh hb
  pot := fun p hp => by
    obtain ⟨a, c, h, r⟩ := E.pot p hp
    exact ⟨a, c, by rw [upd_ne (fun w => nP (by rw [hp, w]))]; exact h, r⟩
  pb := E.pb
  nd := E.nd
  sl := fun i sv h => by
    have z := E.sl i sv h
    cases sv with
    | un => trivial
    | val d => exact z
    | pot => exact z
    | ml l =>
      obtain ⟨q, vs, a, b, c⟩ := z
      exact ⟨q, vs, a, by rw [upd_ne (nd0 i _ q h rfl a)]; exact b, c⟩
    | mt ks l =>
      obtain ⟨q, vs, a, b, c⟩ := z
      exact ⟨q, vs, a, by rw [upd_ne (nd0 i _ q h rfl a)]; exact b, c⟩
    | mk ks l =>
      obtain ⟨q, vs, a, b, c⟩ := z
      exact ⟨q, vs, a, by rw [upd_ne (nd0 i _ q h rfl a)]; exact b, c⟩
section
variable {R : OR} {K : PySem.W.Frag} {te : TE} {ee : EE}
end
end DL
theorem L2.Room.u65 {k : Nat} {A : PySem.Around} (r : L2.Room k A) : A.units + 65 < PySem.cLine := by have := r.un; omega
set_option Elab.async false
set_option linter.all false
set_option maxRecDepth 100000
set_option maxHeartbeats 4000000
namespace DC
open PySem PySem.Spec PyProof.Rows L2
section
variable {X : Cx}
theorem set_tup {pins : List (Addr × Obj)} {σ : L2.St} {G : Hp} {s : Shared} {E : Value → Shared → Prop} {Q : Unit → Shared → Prop} {D b : Addr} {kvs : List (List Key × V)} {k : List Key} {v : V} {r : Value}
    (hu : X.A.units + 1 < cLine) (I : Inv X pins σ G s) (eD : G D = some (.dT kvs)) (eb : G b = some (.tup (k.map kV))) (few : kvs.length < sizeLine) (rv : RelV v r)
    (go : ∀ t, Inv X pins σ (upd G D (.dT (putK kvs k v))) t → Q () t) : wpAny (model X.prog X.w) X.A (dictSet D (.ref b) r) Q E s := by
  obtain ⟨z, off, es, pr, isd⟩ := dt_of I.hok eD
  have lenA : es.length ≤ sizeLine := (Paired.length pr) ▸ z
  have lenB : (putK kvs k v).length ≤ sizeLine := Nat.le_trans (length_putK kvs k v) few
  refine wpAny_dictSet_heap (hsz := lenA) (Nat.lt_of_succ_lt hu) (key_of I.hok eb) isd fun h2 isd2 rest => go _ ?_
  obtain ⟨o2, ent, used, at2, b2, b3, b4, b5⟩ := isd2
  have nb : b ≠ D := ne_of eb eD fun y => nomatch y
  refine d_write I (eD ▸ True.intro) rest ⟨o2, at2⟩ ⟨lenB, off, _, (pr.put k eb rv).keeps fun c ys ec => ?_, o2, ent, used, at2, b2, b3, b4, b5.2⟩
  rw [upd_ne (ne_of ec eD fun y => nomatch y)]
  exact ec
def turnT (D : Addr) (g : TG) (tt : TT) (tk tv : TE) (vs : List Nat) (σ : L2.St) (Nx : Hp → Prop) (x : V) (Hx : Hp) : Prop :=
  g x (wipe σ vs) Hx fun σg Hg => wipe σg vs = wipe σ vs ∧ tt σg Hg fun ok Ht => if ok = true then tk σg Ht fun y Hk => tv σg Hk fun z Hv =>
    ∃ kvs k b, y = .ref b ∧ Hv b = some (.tup (k.map kV)) ∧ Hv D = some (.dT kvs) ∧ kvs.length < sizeLine ∧ Nx (upd Hv D (.dT (putK kvs k z))) else Nx Ht
def tDcT (wi : TI) (g : TG) (tt : TT) (tk tv : TE) (vs : List Nat) : TE := fun σ H Q => wi σ H fun J Ha => ∀ D, Ha D = none → ∃ W : Nat → Nat → Hp → Prop, (∃ m, W 0 m (upd Ha D (.dT []))) ∧ ∀ i m Hi, W i m Hi →
  (J.stop i Hi ∧ Q (.ref D) Hi) ∨ (J.go i Hi ∧ ∃ Nx : Hp → Prop, (∀ Hn, Nx Hn → ∃ m2, m2 < m ∧ W (i + 1) m2 Hn) ∧ ∀ x Hx, J.yld i Hi x Hx → turnT D g tt tk tv vs σ Nx x Hx)
theorem loopT {sb : Shared} {Hb : Hp} {scope : Scope} {ce : Env} {fp : List Addr} {kx vx tg iter : Expr} {ifs : List Expr} {pos : Pos} {g : TG} {tt : TT} {tk tv : TE} {vs : List Nat} {σ : L2.St} {J : It} {it D : Addr} {tn : Nat → Heap → Prop} {W : Nat → Nat → Hp → Prop} {Qd : Hp → Prop} {R : Result → Shared → Prop} {m0 : Nat} {s0 : Shared}
    (hu : X.A.units + 1 < cLine) (hc : X.calm = true) (T : Turn X.prog X.w X.K tg J fp it tn) (pg : PG (X.blk sb Hb scope ce fp) tg g) (pt : PTs (X.blk sb Hb scope ce fp) ifs tt) (pk : PE (X.blk sb Hb scope ce fp) kx tk) (pv : PE (X.blk sb Hb scope ce fp) vx tv)
    (turn : ∀ i m Hi, W i m Hi → (J.stop i Hi ∧ Qd Hi) ∨ (J.go i Hi ∧ ∃ Nx : Hp → Prop, (∀ Hn, Nx Hn → ∃ m2, m2 < m ∧ W (i + 1) m2 Hn) ∧ ∀ x Hx, J.yld i Hi x Hx → turnT D g tt tk tv vs σ Nx x Hx))
    (out : ∀ Hs ss, Inv (X.blk sb Hb scope ce fp) [] (wipe σ vs) Hs ss → Qd Hs → R (.ok .next) ss)
    (I0 : Inv (X.blk sb Hb scope ce fp) [] (wipe σ vs) Hb s0) (t0 : tn 0 s0.heap) (n0 : ∀ b ∈ fp, Hb b = none) (w0 : W 0 m0 Hb) :
    codeAny (model X.prog X.w) X.A (.compLoop (.DictComp kx vx [⟨tg, iter, ifs, 0⟩] scope pos) 0 (.ref it) (.ref D) ce) R s0 := by
  have own : ∀ {σ' : L2.St} {H' : Hp} {s' : Shared}, Inv (X.blk sb Hb scope ce fp) [] σ' H' s' → (∀ b ∈ fp, H' b = none) → ∀ b ∈ fp, FpOk (X.blk sb Hb scope ce fp) [] H' b := fun J' off b m =>
    ⟨off b m, (J'.ok.exf b m).1, J'.ok.exfs b m, .inl m, fun y c e => (J'.ok.exf b m).2 y c e, fun p m => nomatch (show p ∈ ([] : List (Addr × Obj)) from (List.append_nil [] ▸ m : p ∈ ([] : List (Addr × Obj))))⟩
  refine compLoop_anyD (fun n t => ∃ i Hi, Inv (X.blk sb Hb scope ce fp) [] (wipe σ vs) Hi t ∧ tn i t.heap ∧ (∀ b ∈ fp, Hi b = none) ∧ W i n Hi) ?_ m0 ⟨0, Hb, I0, t0, n0, w0⟩
  intro n s1 ⟨i, H1, I1, t1, n1, w1⟩
  rcases turn i n H1 w1 with ⟨stop, qd⟩ | ⟨go, Nx, less, step⟩
  · refine thnF (T.done (X.blk sb Hb scope ce fp) rfl rfl rfl hc i [] s1 _ H1 (fun _ _ => False) I1 (own I1 n1) t1 stop) fun r s2 h2 => ?_
    rw [h2.1]
    exact out _ _ h2.2 qd
  refine thnF (T.item (X.blk sb Hb scope ce fp) rfl rfl rfl hc i [] s1 _ H1 (fun _ _ => False) I1 (own I1 n1) t1 go) fun r s2 ⟨u, er, h2⟩ => ?_
  rw [er]
  refine thnF h2 fun _ s3 ⟨x, H3, I3, r3, y3, t3, n3⟩ => ?_
  -- the iterator's own things stay as they are while the turn runs
  have P3 := I3.pinned (own I3 n3) (T.obj _ _ t3)
  refine thnF (pg.run _ s3 _ H3 x u _ P3 r3 (step x H3 y3)) fun _ s4 ⟨σ4, H4, I4, e4, q4⟩ => ?_
  refine thnF (pt.run _ s4 σ4 H4 _ I4 q4) fun ok s5 ⟨H5, I5, q5⟩ => ?_
  have len : (wipe σ vs).length = σ4.length := by
    rw [← e4]
    exact wipe_length _ _
  have next : ∀ {s' : Shared} {H' : Hp}, Inv (X.blk sb Hb scope ce fp) ([] ++ pinsAt fp s3.heap) σ4 H' s' → Nx H' → ∃ m, m < n ∧ ∃ j Hj, Inv (X.blk sb Hb scope ce fp) [] (wipe σ vs) Hj s' ∧ tn j s'.heap ∧ (∀ b ∈ fp, Hj b = none) ∧ W j m Hj := fun {s' H'} I' nx => by
    obtain ⟨m2, lt, w2⟩ := less H' nx
    have stay : ∀ b ∈ fp, ∀ o, s3.heap.get? b = some o → s'.heap.get? b = some o ∧ H' b = none := fun b m o e => by
      have z := I'.pin (b, o) (List.mem_append_right _ (List.mem_append_right _ (mem_pinsAt m e)))
      exact ⟨z.1, z.2.1⟩
    refine ⟨m2, lt, i + 1, H', I'.unpinned.weak len fun j v e => ?_, T.keep _ _ _ t3 fun b m o e => (stay b m o e).1, fun b m => ?_, w2⟩
    · rw [← e4] at e
      exact (wipe_some e).1
    · exact (T.obj _ _ t3 b m).elim fun o e => (stay b m o e.1).2
  cases ok with
  | false =>
    rw [if_neg (by decide)] at q5 ⊢
    exact next I5 q5
  | true =>
    rw [if_pos rfl] at q5 ⊢
    refine thnF (pk.run _ s5 σ4 H5 _ I5 q5) fun a s6 ⟨y, H6, I6, r6, q6⟩ => thnF (pv.run _ s6 σ4 H6 _ I6 q6) fun c s7 ⟨z, H7, I7, r7, kvs, k, b, ey, eb, eD, few, nx⟩ => ?_
    rw [ey] at r6
    cases (show a = Value.ref b from r6)
    exact set_tup (X := X.blk sb Hb scope ce fp) hu I7 eD eb few r7 fun s8 I8 => next I8 nx
theorem pe_dcT {kx vx tg iter : Expr} {ifs : List Expr} {scope : Scope} {own : List (Str × Nat)} {pos : Pos} {wi : TI} {g : TG} {tt : TT} {tk tv : TE} (hu : X.A.units + 1 < cLine) (hc : X.calm = true) (hN : X.N.Nodup) (hi : PI X tg iter wi) (bo : BlkOk X.N X.env.scope scope own)
    (hg : ∀ s H C cl fp, PG (X.blk s H scope (compEnvC scope cl C X.env) fp) tg g) (ht : ∀ s H C cl fp, PTs (X.blk s H scope (compEnvC scope cl C X.env) fp) ifs tt)
    (hk : ∀ s H C cl fp, PE (X.blk s H scope (compEnvC scope cl C X.env) fp) kx tk) (he : ∀ s H C cl fp, PE (X.blk s H scope (compEnvC scope cl C X.env) fp) vx tv) (hs : ∀ x, foldedSetIterable iter X.env x = pure x := by intro _; rfl) :
    PE X (.DictComp kx vx [⟨tg, iter, ifs, 0⟩] scope pos) (tDcT wi g tt tk tv (own.map (·.2))) := ⟨fun pins s σ H Q I h => by
  rw [arm_eval_DictComp]
  have seen : ∀ y ∈ scope.names, y.2 = .free → ∃ c, X.env.cells.lookup y.1 = some c := fun y hy e =>
    I.ok.has _ <| (bo.free y hy e).elim (fun k => .inl k) fun k => .inr k
  refine wpAny_comprehension_free rfl hs (closure_ok seen) bo.kind (fun y hy e => by rw [bo.uniq y hy, e]) (thn (hi.run pins s σ H _ I h) fun _ _ hx => thn hx fun _ sa ha => ?_)
  obtain ⟨it, fp, tn, J, Ha, rfl, Ia, T, ta, fa, q⟩ := ha
  refine wpAny_newObj_type (newEnv_comp ?_)
  have newD : Ha sa.heap.objs.size = none := Ia.hok.fresh (Nat.le_refl _)
  obtain ⟨W, ⟨m0, w0⟩, turn⟩ := q _ newD
  have below : ∀ b ∈ fp, b < sa.heap.objs.size := fun b hb => (T.obj _ _ ta b hb).elim fun o e => Heap.lt_size e.1
  have big := Heap.size_push sa.heap { cls := .type "dict", data := .dict #[] }
  have kept : ∀ b o, sa.heap.get? b = some o → (sa.heap.push { cls := .type "dict", data := .dict #[] }).get? b = some o := fun b o e => Heap.get?_push_of_some _ e
  have Ib : Inv X pins σ (upd Ha sa.heap.objs.size (.dT [])) { sa with heap := sa.heap.push { cls := .type "dict", data := .dict #[] } } := Ia.laid (t' := sa.toks) kept (Nat.le_refl _) (dt_empty sa.heap Ia.big)
  have fb : ∀ b ∈ fp, FpOk X pins (upd Ha sa.heap.objs.size (.dT [])) b ∧ b < (sa.heap.push { cls := .type "dict", data := .dict #[] }).objs.size := fun b m =>
    ⟨⟨(upd_ne (Nat.ne_of_lt (below b m))).trans (fa b m).1, (fa b m).2⟩, by rw [big]; exact Nat.lt_succ_of_lt (below b m)⟩
  have tb := T.keep _ _ _ ta fun b _ o e => kept b o e
  have Ic := block_start Ib bo hN fb
  have td := T.keep _ _ _ tb fun b _ o e => pushCells_keeps scope.names _ b o (Heap.get?_push_of_some { cls := .type "dict", data := .dict #[] } e)
  have walk := loopT (R := compPost (model X.prog X.w) X.A X.xe none (fun v t => ∃ x H1, Inv X pins σ H1 t ∧ RelV x v ∧ Q x H1) (.ref sa.heap.objs.size) (sa.heap.push { cls := .type "dict", data := .dict #[] }).objs.size) (kx := kx) (vx := vx) (iter := iter) (pos := pos) hu hc T (hg _ _ _ _ fp) (ht _ _ _ _ fp) (hk _ _ _ _ fp) (he _ _ _ _ fp) turn (fun Hs ss Is qd => ?_) Ic td (fun b m => (fb b m).1.1) w0
  · exact codeAny_compStart_dict walk (T.self X.A 0 _ _ _ td walk)
  · have If : Inv X pins σ Hs ss := Ib.call' (ch := fp) Is.os Is.base Is.hok Is.bare fun b m => ⟨(fb b m).1.2.2.2.1, (fb b m).1.2.1, (fb b m).1.2.2.2.2.1, (fb b m).1.2.2.2.2.2⟩
    obtain ⟨names, at_, _⟩ := Is.loc
    obtain ⟨f0, f1, f2, f3, f4, f5⟩ := Ib.fpOk (H' := Hs) (Nat.le_refl _) Is.free
    exact ⟨names, at_, fun h2 same => ⟨.ref sa.heap.objs.size, Hs, If.turned (t' := ss.toks) (fun b o nb e => (same.2 b nb).trans e) f0 f1 f3 f4 f5, rfl, qd⟩⟩⟩
end
end DC
set_option Elab.async false
set_option linter.all false
set_option maxRecDepth 100000
set_option maxHeartbeats 4000000
namespace DL
open PySem PySem.Spec PyProof.Rows L2
open Evl (Ex)
def keyD : D → Option Key
  | .int i => some (.inl i)
  | .str s => some (.inr s)
  | _ => none
def keysA : List D → Option (List Key)
  | [] => some []
  | d :: ds => match keyD d, keysA ds with
    | some k, some ks => some (k :: ks)
    | _, _ => none
def keysD : D → Option (List Key)
  | .tup l => keysA l
  | _ => none
section
variable {R : OR} {K : PySem.W.Frag}
theorem key_rp {B : Hp} {v : V} {d : D} {k : Key} (h : keyD d = some k) (r : Rp R B v d) : v = kV k := by
  cases d <;> simp only [keyD, Option.some.injEq, reduceCtorEq] at h <;> subst h <;> simp only [Rp] at r <;> exact r
theorem keysA_rp {B : Hp} : ∀ {vs : List V} {ds : List D} {ks : List Key}, keysA ds = some ks → RpA R B vs ds → vs = ks.map kV
  | [], [], ks, h, _ => by
    cases h
    rfl
  | v :: vs, d :: ds, ks, h, r => by
    simp only [RpA] at r
    simp only [keysA] at h
    cases h1 : keyD d with
    | none => rw [h1] at h; cases h
    | some k =>
      cases h2 : keysA ds with
      | none => rw [h1, h2] at h; cases h
      | some ks' =>
        rw [h1, h2] at h
        cases h
        rw [List.map_cons, key_rp h1 r.1, keysA_rp h2 r.2]
  | [], _ :: _, _, _, r => by simp only [RpA] at r
  | _ :: _, [], _, _, r => by simp only [RpA] at r
theorem keys_rp {P : Option Addr} {B H : Hp} {v : V} {d : D} {ks : List Key} (bh : Ex B H) (h : keysD d = some ks) (r : Rp R B v d) : ∃ b, v = .ref b ∧ H b = some (.tup (ks.map kV)) := by
  cases d with
  | tup l =>
    simp only [Rp] at r
    obtain ⟨p, vs, rfl, hp, a⟩ := r
    exact ⟨p, rfl, by rw [← keysA_rp h a]; exact bh _ _ hp⟩
  | _ => cases h
def getD {κ : Type} [DecidableEq κ] (ks : List κ) (l : List D) (k : κ) : Option D := ((ks.zip l).find? fun kv => decide (kv.1 = k)).map (·.2)
theorem get_rp {κ : Type} [DecidableEq κ] {B : Hp} (k : κ) : ∀ {ks : List κ} {vs : List V} {l : List D}, RpA R B vs l → (∃ d v, DL.getD ks l k = some d ∧ valV (ks.zip vs) k = some v ∧ Rp R B v d) ∨ (DL.getD ks l k = none ∧ valV (ks.zip vs) k = none)
  | [], _, _, _ => .inr ⟨rfl, rfl⟩
  | _ :: _, [], [], _ => .inr ⟨rfl, rfl⟩
  | a :: ks, v :: vs, d :: l, h => by
    simp only [RpA] at h
    by_cases e : a = k
    · refine .inl ⟨d, v, ?_, valV_pos e, h.1⟩
      simp [DL.getD, List.find?_cons, e]
    · have h1 : valV ((a, v) :: ks.zip vs) k = valV (ks.zip vs) k := valV_neg e
      have h2 : DL.getD (a :: ks) (d :: l) k = DL.getD ks l k := by simp [DL.getD, List.find?_cons, e]
      rw [List.zip_cons_cons, h1, h2]
      exact get_rp k h.2
  | _ :: _, [], _ :: _, h => by simp only [RpA] at h
  | _ :: _, _ :: _, [], h => by simp only [RpA] at h
def eGet2 (ed ek ex : EE) : EE := fun env k => ed env fun d => match d with
  | .dt ks l => ek env fun y => ∃ key, keysD y = some key ∧ ex env fun z => k ((DL.getD ks l key).getD z)
  | .dk ks l => ek env fun y => ∃ key, keyD y = some key ∧ ex env fun z => k ((DL.getD ks l key).getD z)
  | _ => False
theorem RpW.dt {P : Option Addr} {B H : Hp} {v : V} {ks : List (List Key)} {l : List D} (bh : Ex B H) (h : RpW R P B H v (.dt ks l)) : ∃ p vs, v = .ref p ∧ H p = some (.dT (ks.zip vs)) ∧ RpA R B vs l ∧ ks.length = l.length := by
  rcases h with h | h
  · simp only [Rp] at h
    obtain ⟨p, vs, r, k, z, a⟩ := h
    exact ⟨p, vs, r, bh _ _ k, a, z⟩
  · obtain ⟨p, vs, r, k, z, _, a⟩ := h
    exact ⟨p, vs, r, k, a, z⟩
theorem RpW.dk {P : Option Addr} {B H : Hp} {v : V} {ks : List Key} {l : List D} (bh : Ex B H) (h : RpW R P B H v (.dk ks l)) : ∃ p vs, v = .ref p ∧ H p = some (.dK (ks.zip vs)) ∧ RpA R B vs l ∧ ks.length = l.length := by
  rcases h with h | h
  · simp only [Rp] at h
    obtain ⟨p, vs, r, k, z, a⟩ := h
    exact ⟨p, vs, r, bh _ _ k, a, z⟩
  · obtain ⟨p, vs, r, k, z, _, a⟩ := h
    exact ⟨p, vs, r, k, a, z⟩
theorem we_get2 {td ty tx : TE} {ed ek ex : EE} (h : WO R td ed) (hk : WE R ty ek) (hx : WE R tx ex) : WE R (tDGet2 td ty tx) (eGet2 ed ek ex) := fun P env σ B H Q k E he q =>
  h P env σ B H _ _ E he fun d v B1 H1 k1 s1 E1 r1 => by
    cases d with
    | dt ks l =>
      obtain ⟨p, vs, rfl, hp, al, _⟩ := r1.dt E1.bh
      refine ⟨p, rfl, .inr ⟨_, .inl hp⟩, hk P env σ B1 H1 _ _ E1 k1 fun y u B2 H2 k2 s2 E2 r2 => ?_⟩
      obtain ⟨key, hkey, k2⟩ := k2
      refine hx P env σ B2 H2 _ _ E2 k2 fun z w B3 H3 k3 s3 E3 r3 => ?_
      obtain ⟨b, rfl, hb⟩ := keys_rp (P := P) E3.bh hkey (r2.mono s3.bb y)
      obtain ⟨p', vs', e, hp', al', _⟩ := ((r1.step s2).step s3).dt E3.bh
      cases e
      refine ⟨valV (ks.zip vs') key, DGet.t hp' hb, ?_⟩
      have st := (s1.trans E1.pot s2).trans E2.pot s3
      rcases get_rp (R := R) (B := B3) key (ks := ks) al' with ⟨d, v, g1, g2, r⟩ | ⟨g1, g2⟩
      · rw [g1] at k3
        rw [g2]
        exact q d v B3 H3 k3 st E3 r
      · rw [g1] at k3
        rw [g2]
        exact q z w B3 H3 k3 st E3 r3
    | dk ks l =>
      obtain ⟨p, vs, rfl, hp, al, _⟩ := r1.dk E1.bh
      refine ⟨p, rfl, .inl ⟨_, .inl hp⟩, hk P env σ B1 H1 _ _ E1 k1 fun y u B2 H2 k2 s2 E2 r2 => ?_⟩
      obtain ⟨key, hkey, k2⟩ := k2
      refine hx P env σ B2 H2 _ _ E2 k2 fun z w B3 H3 k3 s3 E3 r3 => ?_
      have e0 := key_rp hkey (r2.mono s3.bb y)
      subst e0
      obtain ⟨p', vs', e, hp', al', _⟩ := ((r1.step s2).step s3).dk E3.bh
      cases e
      refine ⟨valV (ks.zip vs') key, DGet.k hp', ?_⟩
      have st := (s1.trans E1.pot s2).trans E2.pot s3
      rcases get_rp (R := R) (B := B3) key (ks := ks) al' with ⟨d, v, g1, g2, r⟩ | ⟨g1, g2⟩
      · rw [g1] at k3
        rw [g2]
        exact q d v B3 H3 k3 st E3 r
      · rw [g1] at k3
        rw [g2]
        exact q z w B3 H3 k3 st E3 r3
    | _ => exact k1.elim
theorem yesGo {F : Bool → Hp → Prop} {σ : L2.St} {H : Hp} (h : F true H) : tYes σ H F := h
def dcGo (f : D → (List Key → D → Prop) → Prop) : List D → List (List Key) → List D → (List (List Key) → List D → Prop) → Prop
  | [], ks, l, k => k ks l
  | x :: xs, ks, l, k => f x fun key d => key ∉ ks ∧ dcGo f xs (ks ++ [key]) (l ++ [d]) k
def eDcF (eg : EG) (ek ev : EE) (env : Env) : D → (List Key → D → Prop) → Prop := fun x kk => eg x env fun env1 => ek env1 fun y => ∃ key, keysD y = some key ∧ ev env1 fun z => kk key z
def eDcT (ei : EL) (eg : EG) (ek ev : EE) (vs : List Nat) : EE := fun env k => ei env fun xs => xs.length ≤ 100000 ∧ dcGo (eDcF eg ek ev (wipeE env vs)) xs [] [] fun ks l => k (.dt ks l)
theorem we_dcT {wi : TI} {ei : EL} {g : TG} {eg : EG} {ts vs : List Nat} {tk tv : TE} {ek ev : EE} (hi : WI R wi ei) (hg : WG R ts g eg) (hv : ∀ i ∈ ts, i ∈ vs) (hk : WE R tk ek) (hev : WE R tv ev) : WE R (DC.tDcT wi g tYes tk tv vs) (eDcT ei eg ek ev vs) := fun P env σ B H Q k E he q => by
  refine hi P env σ B H _ _ E he fun xs J n G B1 H1 hx s1 E1 hn hG hW D hD => ?_
  have nP : P ≠ some D := fresh_pot E1.pot hD
  have bD : B1 D = none := Evl.fresh_back E1.bh hD
  have hD0 : H D = none := fresh_backP s1.hh nP hD
  have keep : ∀ {Bx By Hx Hy : Hp} {us : List (List Key × V)}, Step P Bx Hx By Hy → Bx D = none → Hx D = some (.dT us) → By D = none ∧ Hy D = some (.dT us) := fun {Bx By Hx Hy us} s b h => by
    refine ⟨?_, s.hh _ _ h nP⟩
    cases z : By D with
    | none => rfl
    | some o =>
      rcases s.nw D o z with w | w | w
      · rw [b] at w; cases w
      · rw [h] at w; cases w
      · have h1 := s.bh _ _ z
        rw [s.hh _ _ h nP] at h1
        cases h1
        exact w.elim
  refine it0 (Body := fun x H' Nx => DC.turnT D g tYes tk tv vs σ Nx x H') hW (fun i H' => ∃ B' ks done ws, H' D = some (.dT (ks.zip ws)) ∧ ks.length = done.length ∧ B' D = none ∧ RpA R B' ws done ∧ Step P B1 H1 B' H' ∧ PotOk P H' ∧ done.length ≤ i ∧ dcGo (eDcF eg ek ev (wipeE env vs)) (xs.drop i) ks done (fun ks l => k (.dt ks l))) ?_ ?_ ?_ ?_
  · obtain ⟨s0, E0⟩ := E1.allocU (o := .dT []) hD
    exact ⟨B1, [], [], [], upd_same, rfl, bD, .nil, s0, E0.pot, Nat.le_refl _, hx.2⟩
  · rintro i H' _ ⟨B', ks, done, ws, hd, hkl, hbd, hr, s, po, hl, hk⟩
    exact hG _ (s.bb.trans s.bh)
  · rintro i x Ha Hb hin ⟨B', ks, done, ws, hd, hkl, hbd, hr, s, po, hl, hdc⟩ y
    have Ea := E1.step s po
    obtain ⟨d, B2, hxd, s2, E2, rx⟩ := yd_at Ea (y.mono s.bb)
    rw [drop_cons hxd] at hdc
    obtain ⟨b2, d2⟩ := keep s2 hbd hd
    refine hg P _ _ B2 Hb x d _ _ (E2.wipe vs) rx hdc fun env' σ' k' E3 w3 _ _ => ⟨?_, ?_⟩
    · rw [w3 vs hv]
      exact wipe_wipe σ vs
    · refine yesGo ?_
      refine iteT ?_
      refine hk P env' σ' B2 Hb _ _ E3 k' fun yk yv B3 H3 k3 s3 E4 r3 => ?_
      obtain ⟨key, hkey, k3⟩ := k3
      obtain ⟨b3, d3⟩ := keep s3 b2 d2
      have s23 := s2.trans E2.pot s3
      refine hev P env' σ' B3 H3 _ _ E4 k3 fun z v B4 H4 k4 s4 E5 r4 => ?_
      obtain ⟨b4, d4⟩ := keep s4 b3 d3
      have s24 := s23.trans E4.pot s4
      obtain ⟨b, rfl, hb⟩ := keys_rp (P := P) E5.bh hkey (r3.mono s4.bb yk)
      have e4 := s24.bb
      have lw := hr.len
      have nk : valV (ks.zip ws) key = none := by
        cases e : valV (ks.zip ws) key with
        | none => rfl
        | some u =>
          obtain ⟨pr, hpr, e2⟩ := List.mem_map.mp (valV_in e)
          have := (List.of_mem_zip (a := pr.1) (b := pr.2) hpr).1
          rw [e2] at this
          exact absurd this k4.1
      refine ⟨ks.zip ws, key, b, rfl, hb, d4, ?_, B4, ks ++ [key], done ++ [z], ws ++ [v], ?_, by simp [hkl], b4, (hr.mono e4 done).app (.cons r4 .nil), ?_, ?_, ?_, k4.2⟩
      · rw [List.length_zip]
        have := hx.1
        exact Evl.sz_lt (by omega)
      · rw [upd_same, putK_new v nk, List.zip_append (by rw [hkl, lw])]
        rfl
      · have st := s.trans po s24
        exact ⟨st.bb, fun b o h => by
          rw [upd_ne (fun w => by rw [w, b4] at h; cases h)]
          exact st.bh b o h, fun b o h n => by
          rw [upd_ne (fun w => by rw [w, hD] at h; cases h)]
          exact st.hh b o h n, st.nw⟩
      · intro p hp
        obtain ⟨a, c, h, r⟩ := E5.pot p hp
        exact ⟨a, c, by rw [upd_ne (fun w => nP (by rw [hp, w]))]; exact h, r⟩
      · simp; omega
  · rintro H' ⟨B', ks, done, ws, hd, hkl, hbd, hr, s, po, hl, hk⟩
    rw [← hn, List.drop_length] at hk
    have hk : k (.dt ks done) := hk
    have st := s1.trans E1.pot s
    have e : Ex B' (upd B' D (.dT (ks.zip ws))) := Ex.new hbd
    have s2 : Step P B H (upd B' D (.dT (ks.zip ws))) H' := ⟨st.bb.trans e, fun b o z => by
      by_cases n : b = D
      · subst n; rw [upd_same] at z; cases z; exact hd
      · rw [upd_ne n] at z; exact st.bh b o z, st.hh, fun b o z => by
      by_cases n : b = D
      · subst n; exact .inr (.inl hD0)
      · rw [upd_ne n] at z; exact st.nw b o z⟩
    refine q (.dt ks done) (.ref D) _ H' hk s2 (E.step s2 po) ?_
    simp only [Rp]
    exact ⟨D, ws, rfl, upd_same, hkl, hr.mono e done⟩
end
end DL
set_option Elab.async false
set_option linter.all false
set_option maxRecDepth 100000
set_option maxHeartbeats 4000000
namespace DL
open PySem PySem.Spec PyProof.Rows L2
open Evl (Ex)
section
variable {R : OR} {K : PySem.W.Frag}
def eRgo (ee : EE) : EL := fun env k => ee env fun d => match d with
  | .rg n => n ≤ 100000 ∧ k (rgD n)
  | _ => False
end
section
variable {R : OR} {K : PySem.W.Frag}
def rSumA (K : PySem.W.Frag) : List V → Hp → VK → Prop := fun vs H Q => ∃ (a : Addr) (ns : List Int), vs = [V.ref a] ∧ (SqL K H a (ns.map V.int) ∨ SqT K H a (ns.map V.int)) ∧ Q (.int ns.sum) H
theorem cr_sumA {X : Cx} (hc : X.calm = true) : CallR X (.builtin "sum") (rSumA X.K) := by
  intro pins s σ H vs us Q I r h
  obtain ⟨a, ns, rfl, hs | hs, q⟩ := h
  · exact cr_sum hc pins s σ H _ us Q I r ⟨a, ns, rfl, hs, q⟩
  · obtain ⟨its, rv, hl, _⟩ := I.tuple hs
    rw [Vals.ref1 r]
    obtain ⟨xs, e⟩ := rv.ints.allInts.items
    have hn : numsOf (intItems xs).toList = ns := by rw [← e]; exact rv.ints.numsOf
    rw [nums_intItems] at hn
    rw [e] at hl
    refine PySem.W.ktm_sumG (I.ok.hd hc) hl fun h' tk t' hk => ?_
    have : preSum (numAt xs) xs.size = ns.sum := by rw [preSum_eq, List.take_of_length_le (by simp), hn]
    rw [this]
    exact ⟨.int _, H, I.kept hk, ⟨_, rfl⟩, q⟩
def sumU : D → DK → Prop := fun a k => ∃ ns : List Int, (a = .lst (ns.map .int) ∨ a = .tup (ns.map .int)) ∧ k (.int ns.sum)
theorem ud_sumU : UnD R (fun x H Q => rSumA K [x] H Q) sumU := fun P B H x a Q k bh po ra hf q => by
  obtain ⟨ns, rfl | rfl, hk⟩ := hf
  · obtain ⟨p, vs, rfl, hp, al⟩ := ra.lst bh
    rw [al.ints] at hp
    exact ⟨p, ns, rfl, .inl (Evl.sq_of hp), res_same bh po hk (fun _ => rp_int) q⟩
  · obtain ⟨p, vs, rfl, _, hp, al⟩ := ra.tup bh
    rw [al.ints] at hp
    exact ⟨p, ns, rfl, .inr (Evl.st_of hp), res_same bh po hk (fun _ => rp_int) q⟩
def kgP (π : List Nat) : List Value → List Value → List Value
  | [], ws => if ws.length = π.length then π.map fun i => ws.getD i .none else []
  | _, _ => []
def kgPV (π : List Nat) : List V → List V → List V
  | [], zs => if zs.length = π.length then π.map fun i => zs.getD i .non else []
  | _, _ => []
theorem vals_getD {zs : List V} {ws : List Value} (h : Vals zs ws) : ∀ i, RelV (zs.getD i .non) (ws.getD i .none) := by
  induction h with
  | nil => exact fun i => by simp; rfl
  | cons a _ ih =>
    intro i
    cases i with
    | zero => exact a
    | succ i => simpa using ih i
theorem vals_map {zs : List V} {ws : List Value} (h : Vals zs ws) : ∀ π : List Nat, Vals (π.map fun i => zs.getD i .non) (π.map fun i => ws.getD i .none)
  | [] => .nil
  | i :: π => .cons (vals_getD h i) (vals_map h π)
theorem kgP_rel {π : List Nat} {vs : List V} {us : List Value} {zs : List V} {ws : List Value} (r1 : Vals vs us) (r2 : Vals zs ws) : Vals (kgPV π vs zs) (kgP π us ws) := by
  cases r1 with
  | nil =>
    have := r2.length
    show Vals (if zs.length = π.length then π.map fun i => zs.getD i .non else []) (if ws.length = π.length then π.map fun i => ws.getD i .none else [])
    by_cases e : zs.length = π.length
    · rw [if_pos e, if_pos (by omega)]; exact vals_map r2 π
    · rw [if_neg e, if_neg (by omega)]; exact .nil
  | cons a r => exact .nil
def perD (π : List Nat) (ds : List D) : List D := π.map fun i => ds.getD i .non
theorem rp_getD {B : Hp} : ∀ {vs : List V} {ds : List D}, RpA R B vs ds → ∀ i, Rp R B (vs.getD i .non) (ds.getD i .non)
  | [], [], _, i => by simp [Rp]
  | v :: vs, d :: ds, h, 0 => by simp only [RpA] at h; exact h.1
  | v :: vs, d :: ds, h, i + 1 => by simp only [RpA] at h; simpa using rp_getD h.2 i
  | [], _ :: _, h, _ => by simp only [RpA] at h
  | _ :: _, [], h, _ => by simp only [RpA] at h
theorem rp_per {B : Hp} {vs : List V} {ds : List D} (h : RpA R B vs ds) : ∀ π : List Nat, RpA R B (π.map fun i => vs.getD i .non) (perD π ds)
  | [] => .nil
  | i :: π => .cons (rp_getD h i) (rp_per h π)
def eCallW (π : List Nat) (n : Nat) (ef : List D → (D → Prop) → Prop) (ea : EL) : EE := fun env k => ea env fun ds => ds.length = n ∧ ef (perD π ds) k
def eCallWF (π : List Nat) (n : Nat) (ef : List D → (List D → Prop) → Prop) (ea : EL) : EL := fun env k => ea env fun ds => ds.length = n ∧ ef (perD π ds) k
theorem we_callW {π : List Nat} {n : Nat} {ef : List D → (D → Prop) → Prop} {tas : TA} {eas : EL} {E : XK} (hn : π.length = n) (h : WA R tas eas) : WE R (tCallK (spE R false n ef) (kgPV π) E tNil tas) (eCallW π n ef eas) := fun P env σ B H Q k Ev he q =>
  h P env σ B H _ _ Ev he fun ds vs B1 H1 kd s1 E1 r1 => by
    show spE R false n ef (if vs.length = π.length then π.map fun i => vs.getD i .non else []) H1 Q E
    rw [if_pos (by rw [r1.len, kd.1, hn])]
    refine ⟨none, B1, _, perD π ds, k, .inl ⟨rfl, rfl, rfl⟩, fun _ z => (nomatch z), fun _ z => (nomatch z), E1.bh, rp_per r1 π, by unfold perD; rw [List.length_map]; exact hn, kd.2, fun d v B2 H2 k2 s2 _ r2 => ?_⟩
    have po := E1.pot.ex s2.ex0
    exact q d v B2 H2 k2 (s1.trans E1.pot s2.of0) (E1.step s2.of0 po) r2
theorem Step.base {P : Option Addr} {B B1 H B' H' : Hp} (e : Ex B B1) (s : Step P B1 H B' H') : Step P B H B H' :=
  ⟨Ex.refl _, (e.trans s.bb).trans s.bh, s.hh, fun _ _ h => .inl h⟩
theorem nn_set {P : Option Addr} {B1 H1 Ha : Hp} {env : Env} {σ : L2.St} {i : Nat} {x : SV} {v : V} {p : Addr} (hl : σ.length = env.length) (r1 : ItOk R P B1 H1 Ha v x) (hp : H1 p = none)
    (nn : ∀ (j : Nat) (y : SV), env[j]? = some y → isM y = true → σ[j]? ≠ some (some (V.ref p))) : ∀ (j : Nat) (y : SV), (env.set i x)[j]? = some y → isM y = true → (σ.set i (some v))[j]? ≠ some (some (V.ref p)) := fun j' x' hj m w => by
  by_cases e2 : i = j'
  · subst e2
    have hi : i < σ.length := by
      have := (List.getElem?_eq_some_iff.mp w).1
      simpa using this
    rw [List.getElem?_set_self hi] at w
    have hv : v = V.ref p := Option.some.inj (Option.some.inj w)
    have hi2 : i < env.length := by rw [← hl]; exact hi
    rw [List.getElem?_set_self hi2] at hj
    cases hj
    cases x with
    | ml l =>
      obtain ⟨p', vs, e3, _, _, hh, _⟩ := r1
      rw [hv] at e3
      cases e3
      rw [hp] at hh
      cases hh
    | mt ks l =>
      obtain ⟨p', vs, e3, _, _, hh, _⟩ := r1
      rw [hv] at e3
      cases e3
      rw [hp] at hh
      cases hh
    | mk ks l =>
      obtain ⟨p', vs, e3, _, _, hh, _⟩ := r1
      rw [hv] at e3
      cases e3
      rw [hp] at hh
      cases hh
    | val d => cases m
    | _ => exact r1.elim
  · rw [List.getElem?_set_ne e2] at hj w
    exact nn j' x' hj m w
def sPar3 (i j l : Nat) (a b c : EM) : ES := fun env k => a env fun x => b env fun y => c env fun z => k.nx (((env.set i x).set j y).set l z)
theorem wb_par3 {ta tb tc : TE} {a b c : EM} {i j l : Nat} (ha : WM R ta a) (hb : WM R tb b) (hc : WM R tc c) : WB R (tPar3 i j l (tCons ta (tCons tb (tCons tc tNil)))) (sPar3 i j l a b c) := fun P B0 H0 env σ B H D k S he K =>
  ha P env σ B H _ _ S.e he fun x v B1 H1 k1 s1 E1 r1 => hb P env σ B1 H1 _ _ E1 k1 fun y u B2 H2 k2 s2 E2 r2 => hc P env σ B2 H2 _ _ E2 k2 fun z w B3 H3 k3 s3 E3 r3 => by
    have S3 := ((S.step s1 E1).step s2 E2).step s3 E3
    have h0 : ∀ p, H p = none → H0 p = none := fun p z => fresh_backP S.s.hh (fresh_pot S.e.pot z) z
    have h01 : ∀ p, H1 p = none → H0 p = none := fun p z => h0 p (fresh_backP s1.hh (fresh_pot E1.pot z) z)
    have h02 : ∀ p, H2 p = none → H0 p = none := fun p z => h01 p (fresh_backP s2.hh (fresh_pot E2.pot z) z)
    have ra := (r1.step S.e.pot s1 s2)
    have ra3 := ra.step S.e.pot (s1.trans E1.pot s2) s3
    have rb3 := r2.step E1.pot s2 s3
    have T1 := S3.item i ra3 h0 (fun j x p _ hp hj m => S.e.notNew hp j x hj m) (fun p z => fresh_pot S.e.pot z)
    have T2 := T1.item j rb3 h01 (fun j' x' p e hp hj m w => nn_set S.e.len r1 hp (fun j y hj m => E1.notNew hp j y hj m) j' x' hj m w) (fun p z => fresh_pot E1.pot z)
    refine ⟨v, u, w, rfl, K.nx _ _ B3 H3 k3 (T2.item l r3 h02 (fun j' x' p e hp hj m w => ?_) (fun p z => fresh_pot E2.pot z))⟩
    exact nn_set (by rw [List.length_set, List.length_set]; exact S.e.len) r2 hp (nn_set S.e.len ra hp (fun j y hj m => E2.notNew hp j y hj m)) j' x' hj m w
end
end DL
set_option Elab.async false
set_option linter.all false
set_option maxRecDepth 100000
set_option maxHeartbeats 4000000
namespace DL
open PySem PySem.Spec PyProof.Rows L2
open Evl (Ex)
section
variable {R : OR} {K : PySem.W.Frag}
def env0L (N : List Str) (ds : List D) : Env := ds.map SV.val ++ (SV.pot :: List.replicate (N.length - (1 + ds.length)) SV.un)
def eCallL (i n : Nat) (ef : List D → (D → Prop) → Prop) (ea : EL) : EE := fun env k => env[i]? = some .pot ∧ ea env fun ds => ds.length = n ∧ ef ds k
end
end DL
set_option Elab.async false
set_option linter.all false
set_option maxRecDepth 100000
set_option maxHeartbeats 4000000
namespace DL
open PySem PySem.Spec PyProof.Rows L2 TM Pr Ep Nw
open Evl (Ex)
section
variable {R : OR}
end
end DL
set_option Elab.async false
set_option linter.all false
set_option maxRecDepth 100000
set_option maxHeartbeats 4000000
namespace SD
open PySem PySem.Spec PyProof.Rows L2 PySem.W
section
variable {prog : Program} {w : World} {A : Around} {E : Value → Shared → Prop} {s : Shared}
end
section
variable {X : Cx}
end
end SD
set_option Elab.async false
set_option linter.all false
set_option maxRecDepth 100000
set_option maxHeartbeats 4000000
namespace DL
open PySem PySem.Spec PyProof.Rows L2 TM Pr Ep Nw
open Evl (Ex)
section
variable {R : OR} {K : PySem.W.Frag}
end
end DL
set_option Elab.async false
set_option linter.all false
set_option maxRecDepth 100000
set_option maxHeartbeats 4000000
namespace ZM
open PySem PySem.Spec PyProof.Rows L2
end ZM
set_option Elab.async false
set_option linter.all false
set_option maxRecDepth 100000
set_option maxHeartbeats 4000000
namespace DL
open PySem PySem.Spec PyProof.Rows L2
open Evl (Ex)
section
variable {R : OR} {K : PySem.W.Frag} {te ta tb tc : TE} {ee ea eb ec : EE}
theorem RpW.sc {P : Option Addr} {B H : Hp} {v : V} {d : D} (h : RpW R P B H v d) (n : (∀ l, d ≠ .lst l) ∧ (∀ ks l, d ≠ .dt ks l) ∧ ∀ ks l, d ≠ .dk ks l) : Rp R B v d := by
  rcases h with h | h
  · exact h
  · cases d with
    | lst l => exact absurd rfl (n.1 l)
    | dt ks l => exact absurd rfl (n.2.1 ks l)
    | dk ks l => exact absurd rfl (n.2.2 ks l)
    | _ => exact h.elim
end
section
variable {X : Cx}
end
end DL
set_option Elab.async false
set_option linter.all false
set_option maxRecDepth 100000
set_option maxHeartbeats 4000000
namespace DL
open PySem PySem.Spec PyProof.Rows L2
open Evl (Ex)
section
variable {R : OR} {K : PySem.W.Frag}
end
end DL
set_option Elab.async false
set_option linter.all false
set_option maxRecDepth 100000
set_option maxHeartbeats 4000000
namespace DL
open PySem PySem.Spec PyProof.Rows L2
open Evl (Ex)
section
variable {R : OR} {K : PySem.W.Frag} {te ta tb : TE} {ee ea eb : EE}
end
end DL
set_option Elab.async false
set_option linter.all false
set_option maxRecDepth 100000
set_option maxHeartbeats 4000000
namespace DL
open PySem PySem.Spec PyProof.Rows L2
open Evl (Ex)
section
variable {κ β : Type} [DecidableEq κ]
def putL (ks : List κ) (l : List β) (k : κ) (d : β) : List β := if (ks.any fun x => decide (x = k)) = true then (ks.zip l).map (fun kv => if kv.1 = k then d else kv.2) else l ++ [d]
end
section
variable {R : OR} {K : PySem.W.Frag} {te ta tb : TE} {ee ea eb : EE}
theorem RpA.put {κ : Type} [DecidableEq κ] {B : Hp} {k : κ} {v : V} {d : D} (r : Rp R B v d) {ks : List κ} {vs : List V} {l : List D} (h : RpA R B vs l) : RpA R B (putL ks vs k v) (putL ks l k d) := by
  unfold putL
  split
  · have go : ∀ (ks : List κ) (vs : List V) (l : List D), RpA R B vs l → RpA R B ((ks.zip vs).map fun kv => if kv.1 = k then v else kv.2) ((ks.zip l).map fun kv => if kv.1 = k then d else kv.2) := fun ks => by
      induction ks with
      | nil => intro vs l _; exact .nil
      | cons a ks ih =>
        intro vs l h
        match vs, l, h with
        | [], [], _ => exact .nil
        | u :: vs, e :: l, h =>
          simp only [RpA] at h
          refine .cons ?_ (ih vs l h.2)
          show Rp R B (if a = k then v else u) (if a = k then d else e)
          by_cases c : a = k
          · rw [if_pos c, if_pos c]; exact r
          · rw [if_neg c, if_neg c]; exact h.1
        | [], _ :: _, h => simp only [RpA] at h
        | _ :: _, [], h => simp only [RpA] at h
    exact go ks vs l h
  · exact h.app (.cons r .nil)
end
end DL
set_option Elab.async false
set_option linter.all false
set_option maxRecDepth 100000
set_option maxHeartbeats 4000000
namespace DL
open PySem PySem.Spec PyProof.Rows L2
open Evl (Ex)
section
variable {R : OR} {K : PySem.W.Frag} {te : TE} {ee : EE}
end
end DL
set_option Elab.async false
set_option linter.all false
set_option maxRecDepth 100000
set_option maxHeartbeats 4000000
namespace SL
open PySem PySem.Spec PyProof.Rows L2 PySem.W
section
variable {P : Program} {w : World} {A : Around} {E : Value → Shared → Prop} {s : Shared}
end
section
variable {X : Cx}
theorem few_ok {n : Nat} (h : n < 60) : n + 1 < scanBound := by unfold scanBound; omega
end
end SL
set_option Elab.async false
set_option linter.all false
set_option maxRecDepth 100000
set_option maxHeartbeats 4000000
namespace DL
open PySem PySem.Spec PyProof.Rows L2
open Evl (Ex)
section
variable {R : OR} {K : PySem.W.Frag} {w : World} {te : TE} {ee : EE}
end
end DL
set_option Elab.async false
set_option linter.all false
set_option maxRecDepth 100000
set_option maxHeartbeats 4000000
namespace SD
open PySem PySem.Spec PyProof.Rows L2 PySem.W
section
variable {X : Cx}
end
end SD
set_option Elab.async false
set_option linter.all false
set_option maxRecDepth 100000
set_option maxHeartbeats 4000000
namespace DL
open PySem PySem.Spec PyProof.Rows L2
open Evl (Ex)
section
variable {R : OR} {K : PySem.W.Frag} {te : TE} {ee : EE}
end
end DL
set_option Elab.async false
set_option linter.all false
set_option maxRecDepth 100000
set_option maxHeartbeats 4000000
namespace G9
open PySem PySem.Spec PyProof.Rows L2 PySem.W
section
variable {P : Program} {w : World} {A : Around} {E : Value → Shared → Prop} {s : Shared} {Q : Value → Shared → Prop}
theorem behind {s2 s3 : Shared} {o o2 : Obj} (e : s2 = { s with heap := (s.heap.push o).push o2 }) (m : Moved [(s.heap.push o).objs.size] (fun a b => b = a) s2 s3) : ∃ h' tk, s3 = { s with heap := h', toks := tk } ∧ ∀ b ob, s.heap.get? b = some ob → h'.get? b = some ob := by
  obtain ⟨h', tk, rfl, k⟩ := moved_old (s := { s with heap := s.heap.push o }) e rfl m
  exact ⟨h', tk, rfl, fun b ob at_ => k b ob (Heap.get?_push_of_some _ at_)⟩
end
section
variable {X : Cx}
structure TwoD (K : PySem.W.Frag) (H : Hp) (x y : V) (d e : PyData) : Prop where
  l : Dp K H x d
  r : Dp K H y e
  alike : AlikeAll [d, e]
  flat : PyData.depthAll [d, e] ≤ 50
end
end G9
set_option Elab.async false
set_option linter.all false
set_option maxRecDepth 100000
set_option maxHeartbeats 4000000
namespace DL
open PySem PySem.Spec PyProof.Rows L2
open Evl (Ex)
section
variable {R : OR} {K : PySem.W.Frag}
structure Two (a b : D) : Prop where
  l : ∃ xs, a = .tup xs
  r : ∃ xs, b = .tup xs
  pl : isPy a = true
  pr : isPy b = true
  alike : PySem.W.AlikeAll [toPy a, toPy b]
  flat : PyData.depthAll [toPy a, toPy b] ≤ 50
end
end DL
set_option Elab.async false
set_option linter.all false
set_option maxRecDepth 100000
set_option maxHeartbeats 4000000
namespace DL
open PySem PySem.Spec PyProof.Rows L2
open Evl (Ex)
section
variable {R : OR}
end
end DL
set_option Elab.async false
set_option linter.all false
set_option maxRecDepth 100000
set_option maxHeartbeats 4000000
namespace DL
open PySem PySem.Spec PyProof.Rows L2
open Evl (Ex)
section
variable {R : OR} {K : PySem.W.Frag} {te : TE}
end
end DL
set_option Elab.async false
set_option linter.all false
set_option maxRecDepth 100000
set_option maxHeartbeats 4000000
namespace K61
open PySem PySem.Spec PyProof.Rows L2
def topS (i : Nat) : Stmt := PySem.Challenge.pw_lanekeepers_k61_whole_what_is_surely_let.main.body.getD i (.Pass ⟨0, 0, 0, 0⟩)
abbrev s_is_count : Stmt := topS 14
abbrev n_is_count : List Str := ["value"]
theorem sc_is_count : FnScope n_is_count ["value"] (defScope s_is_count) := ⟨rfl, rfl, rfl, by decide +kernel, rfl, by decide +kernel, by decide +kernel⟩
abbrev s_is_row : Stmt := topS 15
abbrev n_is_row : List Str := ["value"]
theorem sc_is_row : FnScope n_is_row ["value"] (defScope s_is_row) := ⟨rfl, rfl, rfl, by decide +kernel, rfl, by decide +kernel, by decide +kernel⟩
abbrev s_Country_init : Stmt := inClass (topS 19) 0
abbrev n_Country_init : List Str := ["self", "lanes", "pair", "goal", "place"]
theorem sc_Country_init : FnScope n_Country_init ["self", "lanes"] (defScope s_Country_init) := ⟨rfl, rfl, rfl, by decide +kernel, rfl, by decide +kernel, by decide +kernel⟩
abbrev s_Country_lanes : Stmt := inClass (topS 19) 1
abbrev n_Country_lanes : List Str := ["self"]
theorem sc_Country_lanes : FnScope n_Country_lanes ["self"] (defScope s_Country_lanes) := ⟨rfl, rfl, rfl, by decide +kernel, rfl, by decide +kernel, by decide +kernel⟩
abbrev s_Country_yards : Stmt := inClass (topS 19) 2
abbrev n_Country_yards : List Str := ["self"]
theorem sc_Country_yards : FnScope n_Country_yards ["self"] (defScope s_Country_yards) := ⟨rfl, rfl, rfl, by decide +kernel, rfl, by decide +kernel, by decide +kernel⟩
abbrev s_Country_gates : Stmt := inClass (topS 19) 3
abbrev s_Country_neighbours : Stmt := inClass (topS 19) 4
abbrev n_Country_neighbours : List Str := ["self", "place"]
theorem sc_Country_neighbours : FnScope n_Country_neighbours ["self", "place"] (defScope s_Country_neighbours) := ⟨rfl, rfl, rfl, by decide +kernel, rfl, by decide +kernel, by decide +kernel⟩
abbrev s_Country_ahead : Stmt := inClass (topS 19) 5
abbrev s_Country_eq : Stmt := inClass (topS 19) 6
abbrev s_is_place : Stmt := topS 20
abbrev n_is_place : List Str := ["country", "value"]
theorem sc_is_place : FnScope n_is_place ["country", "value"] (defScope s_is_place) := ⟨rfl, rfl, rfl, by decide +kernel, rfl, by decide +kernel, by decide +kernel⟩
abbrev s_is_yard : Stmt := topS 21
abbrev n_is_yard : List Str := ["country", "value"]
theorem sc_is_yard : FnScope n_is_yard ["country", "value"] (defScope s_is_yard) := ⟨rfl, rfl, rfl, by decide +kernel, rfl, by decide +kernel, by decide +kernel⟩
abbrev s_are_lanes : Stmt := topS 22
abbrev n_are_lanes : List Str := ["value", "around", "pair", "place"]
theorem sc_are_lanes : FnScope n_are_lanes ["value"] (defScope s_are_lanes) := ⟨rfl, rfl, rfl, by decide +kernel, rfl, by decide +kernel, by decide +kernel⟩
abbrev s_is_pair_up_to : Stmt := topS 23
abbrev n_is_pair_up_to : List Str := ["value", "last", "place"]
theorem sc_is_pair_up_to : FnScope n_is_pair_up_to ["value", "last"] (defScope s_is_pair_up_to) := ⟨rfl, rfl, rfl, by decide +kernel, rfl, by decide +kernel, by decide +kernel⟩
abbrev s_neighbours_by_place : Stmt := topS 24
abbrev n_neighbours_by_place : List Str := ["lanes", "around", "one", "other", "place"]
theorem sc_neighbours_by_place : FnScope n_neighbours_by_place ["lanes"] (defScope s_neighbours_by_place) := ⟨rfl, rfl, rfl, by decide +kernel, rfl, by decide +kernel, by decide +kernel⟩
abbrev s_yards_among : Stmt := topS 25
abbrev n_yards_among : List Str := ["around", "place"]
theorem sc_yards_among : FnScope n_yards_among ["around"] (defScope s_yards_among) := ⟨rfl, rfl, rfl, by decide +kernel, rfl, by decide +kernel, by decide +kernel⟩
abbrev s_places_ahead : Stmt := topS 26
abbrev n_places_ahead : List Str := ["around", "goal", "ahead", "waiting", "here", "near"]
theorem sc_places_ahead : FnScope n_places_ahead ["around", "goal"] (defScope s_places_ahead) := ⟨rfl, rfl, rfl, by decide +kernel, rfl, by decide +kernel, by decide +kernel⟩
abbrev s_is_among : Stmt := topS 29
abbrev n_is_among : List Str := ["around", "value"]
theorem sc_is_among : FnScope n_is_among ["around", "value"] (defScope s_is_among) := ⟨rfl, rfl, rfl, by decide +kernel, rfl, by decide +kernel, by decide +kernel⟩
abbrev s_is_pair_of : Stmt := topS 30
abbrev n_is_pair_of : List Str := ["around", "origin", "target"]
theorem sc_is_pair_of : FnScope n_is_pair_of ["around", "origin", "target"] (defScope s_is_pair_of) := ⟨rfl, rfl, rfl, by decide +kernel, rfl, by decide +kernel, by decide +kernel⟩
abbrev s_is_load_of : Stmt := topS 31
abbrev n_is_load_of : List Str := ["around", "value", "pairs", "entry", "origin", "target", "_", "at"]
theorem sc_is_load_of : FnScope n_is_load_of ["around", "value"] (defScope s_is_load_of) := ⟨rfl, rfl, rfl, by decide +kernel, rfl, by decide +kernel, by decide +kernel⟩
abbrev s_is_entry : Stmt := topS 32
abbrev n_is_entry : List Str := ["around", "value"]
theorem sc_is_entry : FnScope n_is_entry ["around", "value"] (defScope s_is_entry) := ⟨rfl, rfl, rfl, by decide +kernel, rfl, by decide +kernel, by decide +kernel⟩
abbrev s_carts_of : Stmt := topS 33
abbrev n_carts_of : List Str := ["load", "origin", "target", "start", "end", "many"]
theorem sc_carts_of : FnScope n_carts_of ["load", "origin", "target"] (defScope s_carts_of) := ⟨rfl, rfl, rfl, by decide +kernel, rfl, by decide +kernel, by decide +kernel⟩
abbrev s_is_within : Stmt := topS 34
abbrev n_is_within : List Str := ["load", "other", "held", "origin", "target", "many"]
theorem sc_is_within : FnScope n_is_within ["load", "other"] (defScope s_is_within) := ⟨rfl, rfl, rfl, by decide +kernel, rfl, by decide +kernel, by decide +kernel⟩
abbrev s_check_country : Stmt := topS 36
abbrev n_check_country : List Str := ["country"]
theorem sc_check_country : FnScope n_check_country ["country"] (defScope s_check_country) := ⟨rfl, rfl, rfl, by decide +kernel, rfl, by decide +kernel, by decide +kernel⟩
abbrev s_check_yard : Stmt := topS 37
abbrev n_check_yard : List Str := ["country", "yard"]
theorem sc_check_yard : FnScope n_check_yard ["country", "yard"] (defScope s_check_yard) := ⟨rfl, rfl, rfl, by decide +kernel, rfl, by decide +kernel, by decide +kernel⟩
abbrev s_check_country_and_yard : Stmt := topS 38
abbrev n_check_country_and_yard : List Str := ["country", "yard"]
theorem sc_check_country_and_yard : FnScope n_check_country_and_yard ["country", "yard"] (defScope s_check_country_and_yard) := ⟨rfl, rfl, rfl, by decide +kernel, rfl, by decide +kernel, by decide +kernel⟩
abbrev s_check_load : Stmt := topS 39
abbrev n_check_load : List Str := ["country", "yard", "load"]
theorem sc_check_load : FnScope n_check_load ["country", "yard", "load"] (defScope s_check_load) := ⟨rfl, rfl, rfl, by decide +kernel, rfl, by decide +kernel, by decide +kernel⟩
abbrev s_is_known : Stmt := topS 42
abbrev n_is_known : List Str := ["country", "yard", "value"]
theorem sc_is_known : FnScope n_is_known ["country", "yard", "value"] (defScope s_is_known) := ⟨rfl, rfl, rfl, by decide +kernel, rfl, by decide +kernel, by decide +kernel⟩
abbrev s_is_let : Stmt := topS 43
abbrev n_is_let : List Str := ["country", "yard", "known", "load"]
theorem sc_is_let : FnScope n_is_let ["country", "yard", "known", "load"] (defScope s_is_let) := ⟨rfl, rfl, rfl, by decide +kernel, rfl, by decide +kernel, by decide +kernel⟩
abbrev s_noted : Stmt := topS 44
abbrev n_noted : List Str := ["country", "yard", "known", "load", "word", "places", "let", "refused", "grown", "seen"]
theorem sc_noted : FnScope n_noted ["country", "yard", "known", "load", "word"] (defScope s_noted) := ⟨rfl, rfl, rfl, by decide +kernel, rfl, by decide +kernel, by decide +kernel⟩
abbrev s_check_known : Stmt := topS 45
abbrev n_check_known : List Str := ["country", "yard", "known"]
theorem sc_check_known : FnScope n_check_known ["country", "yard", "known"] (defScope s_check_known) := ⟨rfl, rfl, rfl, by decide +kernel, rfl, by decide +kernel, by decide +kernel⟩
abbrev s_is_known_of : Stmt := topS 46
abbrev n_is_known_of : List Str := ["around", "value", "places", "let", "refused", "load"]
theorem sc_is_known_of : FnScope n_is_known_of ["around", "value"] (defScope s_is_known_of) := ⟨rfl, rfl, rfl, by decide +kernel, rfl, by decide +kernel, by decide +kernel⟩
abbrev s_are_seen : Stmt := topS 47
abbrev n_are_seen : List Str := ["around", "value", "load"]
theorem sc_are_seen : FnScope n_are_seen ["around", "value"] (defScope s_are_seen) := ⟨rfl, rfl, rfl, by decide +kernel, rfl, by decide +kernel, by decide +kernel⟩
abbrev s_is_surely_let : Stmt := topS 48
abbrev n_is_surely_let : List Str := ["known", "load", "seen"]
theorem sc_is_surely_let : FnScope n_is_surely_let ["known", "load"] (defScope s_is_surely_let) := ⟨rfl, rfl, rfl, by decide +kernel, rfl, by decide +kernel, by decide +kernel⟩
abbrev s_is_surely_refused : Stmt := topS 49
abbrev n_is_surely_refused : List Str := ["known", "load", "seen"]
theorem sc_is_surely_refused : FnScope n_is_surely_refused ["known", "load"] (defScope s_is_surely_refused) := ⟨rfl, rfl, rfl, by decide +kernel, rfl, by decide +kernel, by decide +kernel⟩
abbrev s_l_pot : Stmt := topS 51
abbrev n_l_pot : List Str := ["_law_script", "_law_k", "_law_cell"]
theorem sc_l_pot : FnScope n_l_pot ["_law_script", "_law_k"] (defScope s_l_pot) := ⟨rfl, rfl, rfl, by decide +kernel, rfl, by decide +kernel, by decide +kernel⟩
abbrev s_l_draw : Stmt := topS 52
abbrev n_l_draw : List Str := ["_law_pot_here", "_law_many_here", "_law_digit"]
theorem sc_l_draw : FnScope n_l_draw ["_law_pot_here", "_law_many_here"] (defScope s_l_draw) := ⟨rfl, rfl, rfl, by decide +kernel, rfl, by decide +kernel, by decide +kernel⟩
abbrev s_l_pick : Stmt := topS 53
abbrev n_l_pick : List Str := ["_law_pot_here", "_law_some"]
theorem sc_l_pick : FnScope n_l_pick ["_law_pot_here", "_law_some"] (defScope s_l_pick) := ⟨rfl, rfl, rfl, by decide +kernel, rfl, by decide +kernel, by decide +kernel⟩
abbrev s_l_lanes : Stmt := topS 54
abbrev n_l_lanes : List Str := ["_law_pot_here", "_law_most", "_law_way", "_law_many_here", "_law_at"]
theorem sc_l_lanes : FnScope n_l_lanes ["_law_pot_here", "_law_most"] (defScope s_l_lanes) := ⟨rfl, rfl, rfl, by decide +kernel, rfl, by decide +kernel, by decide +kernel⟩
abbrev s_l_beside : Stmt := topS 55
abbrev n_l_beside : List Str := ["_law_lanes_here", "_law_place", "_law_near", "_law_far"]
theorem sc_l_beside : FnScope n_l_beside ["_law_lanes_here", "_law_place"] (defScope s_l_beside) := ⟨rfl, rfl, rfl, by decide +kernel, rfl, by decide +kernel, by decide +kernel⟩
abbrev s_l_yards : Stmt := topS 56
abbrev n_l_yards : List Str := ["_law_lanes_here", "_law_place"]
theorem sc_l_yards : FnScope n_l_yards ["_law_lanes_here"] (defScope s_l_yards) := ⟨rfl, rfl, rfl, by decide +kernel, rfl, by decide +kernel, by decide +kernel⟩
abbrev s_l_pairs : Stmt := topS 57
abbrev n_l_pairs : List Str := ["_law_lanes_here", "_law_yard", "_law_some", "_law_found", "_law_origin", "_law_target"]
theorem sc_l_pairs : FnScope n_l_pairs ["_law_lanes_here", "_law_yard"] (defScope s_l_pairs) := ⟨rfl, rfl, rfl, by decide +kernel, rfl, by decide +kernel, by decide +kernel⟩
abbrev s_l_many : Stmt := topS 58
abbrev n_l_many : List Str := ["_law_load_here", "_law_pair", "_law_origin", "_law_target", "_law_many_here"]
theorem sc_l_many : FnScope n_l_many ["_law_load_here", "_law_pair"] (defScope s_l_many) := ⟨rfl, rfl, rfl, by decide +kernel, rfl, by decide +kernel, by decide +kernel⟩
abbrev s_l_size : Stmt := topS 59
abbrev n_l_size : List Str := ["_law_load_here", "_law_origin", "_law_target", "_law_many_here"]
theorem sc_l_size : FnScope n_l_size ["_law_load_here"] (defScope s_l_size) := ⟨rfl, rfl, rfl, by decide +kernel, rfl, by decide +kernel, by decide +kernel⟩
abbrev s_l_plus : Stmt := topS 60
abbrev n_l_plus : List Str := ["_law_load_here", "_law_pair", "_law_others", "_law_one"]
theorem sc_l_plus : FnScope n_l_plus ["_law_load_here", "_law_pair"] (defScope s_l_plus) := ⟨rfl, rfl, rfl, by decide +kernel, rfl, by decide +kernel, by decide +kernel⟩
abbrev s_l_is_most : Stmt := topS 61
abbrev n_l_is_most : List Str := ["_law_load_here", "_law_other", "_law_origin", "_law_target", "_law_many_here"]
theorem sc_l_is_most : FnScope n_l_is_most ["_law_load_here", "_law_other"] (defScope s_l_is_most) := ⟨rfl, rfl, rfl, by decide +kernel, rfl, by decide +kernel, by decide +kernel⟩
abbrev s_l_load : Stmt := topS 62
abbrev n_l_load : List Str := ["_law_pot_here", "_law_pairs_here", "_law_size_here", "_law_found", "_law_turn"]
theorem sc_l_load : FnScope n_l_load ["_law_pot_here", "_law_pairs_here", "_law_size_here"] (defScope s_l_load) := ⟨rfl, rfl, rfl, by decide +kernel, rfl, by decide +kernel, by decide +kernel⟩
abbrev s_l_known : Stmt := topS 63
abbrev n_l_known : List Str := ["_law_pot_here", "_law_lanes_here", "_law_yard", "_law_most", "_law_places", "_law_pairs_here", "_law_let", "_law_refused", "_law_turn", "_law_load_here", "_law_one"]
theorem sc_l_known : FnScope n_l_known ["_law_pot_here", "_law_lanes_here", "_law_yard", "_law_most"] (defScope s_l_known) := ⟨rfl, rfl, rfl, by decide +kernel, rfl, by decide +kernel, by decide +kernel⟩
abbrev s_l_sure : Stmt := topS 64
abbrev n_l_sure : List Str := ["_law_known_here", "_law_load_here", "_law_places", "_law_let", "_law_refused", "_law_one"]
theorem sc_l_sure : FnScope n_l_sure ["_law_known_here", "_law_load_here"] (defScope s_l_sure) := ⟨rfl, rfl, rfl, by decide +kernel, rfl, by decide +kernel, by decide +kernel⟩
abbrev s_l_given : Stmt := topS 65
abbrev n_l_given : List Str := ["_law_pot_here", "_law_loads_here", "_law_found", "_law_load_here"]
theorem sc_l_given : FnScope n_l_given ["_law_pot_here", "_law_loads_here"] (defScope s_l_given) := ⟨rfl, rfl, rfl, by decide +kernel, rfl, by decide +kernel, by decide +kernel⟩
abbrev s_l_known_given : Stmt := topS 66
abbrev n_l_known_given : List Str := ["_law_pot_here", "_law_known_here"]
theorem sc_l_known_given : FnScope n_l_known_given ["_law_pot_here", "_law_known_here"] (defScope s_l_known_given) := ⟨rfl, rfl, rfl, by decide +kernel, rfl, by decide +kernel, by decide +kernel⟩
abbrev s_l_loads : Stmt := topS 67
abbrev n_l_loads : List Str := ["_law_pot_here", "_law_lanes_here", "_law_yard", "_law_known_here", "_law_pairs_here", "_law_found", "_law_load_here"]
theorem sc_l_loads : FnScope n_l_loads ["_law_pot_here", "_law_lanes_here", "_law_yard", "_law_known_here"] (defScope s_l_loads) := ⟨rfl, rfl, rfl, by decide +kernel, rfl, by decide +kernel, by decide +kernel⟩
abbrev s_l_noted_right : Stmt := topS 68
abbrev n_l_noted_right : List Str := ["_law_country", "_law_yard", "_law_known_here", "_law_load_here", "_law_word", "_law_is_so", "_law_shown", "_law_told", "_law_let", "_law_refused"]
theorem sc_l_noted_right : FnScope n_l_noted_right ["_law_country", "_law_yard", "_law_known_here", "_law_load_here", "_law_word"] (defScope s_l_noted_right) := ⟨rfl, rfl, rfl, by decide +kernel, rfl, by decide +kernel, by decide +kernel⟩
abbrev s_l_right : Stmt := topS 69
abbrev n_l_right : List Str := ["_law_pot_here", "_law_lanes_here", "_law_yard", "_law_country", "_law_known_here", "_law_given_here", "_law_load_here", "_law_passed", "_law_due"]
theorem sc_l_right : FnScope n_l_right ["_law_pot_here"] (defScope s_l_right) := ⟨rfl, rfl, rfl, by decide +kernel, rfl, by decide +kernel, by decide +kernel⟩
abbrev s_law : Stmt := topS 70
abbrev n_law : List Str := ["_law_script"]
theorem sc_law : FnScope n_law ["_law_script"] (defScope s_law) := ⟨rfl, rfl, rfl, by decide +kernel, rfl, by decide +kernel, by decide +kernel⟩
structure Adr where
  is_count : Addr
  is_count_fd : FuncData
  is_row : Addr
  is_row_fd : FuncData
  Country_init : Addr
  Country_init_fd : FuncData
  Country_lanes : Addr
  Country_lanes_fd : FuncData
  Country_lanes_p : Addr
  Country_yards : Addr
  Country_yards_fd : FuncData
  Country_yards_p : Addr
  Country_gates : Addr
  Country_gates_fd : FuncData
  Country_gates_p : Addr
  Country_neighbours : Addr
  Country_neighbours_fd : FuncData
  Country_ahead : Addr
  Country_ahead_fd : FuncData
  Country_eq : Addr
  Country_eq_fd : FuncData
  is_place : Addr
  is_place_fd : FuncData
  is_yard : Addr
  is_yard_fd : FuncData
  are_lanes : Addr
  are_lanes_fd : FuncData
  is_pair_up_to : Addr
  is_pair_up_to_fd : FuncData
  neighbours_by_place : Addr
  neighbours_by_place_fd : FuncData
  yards_among : Addr
  yards_among_fd : FuncData
  places_ahead : Addr
  places_ahead_fd : FuncData
  is_among : Addr
  is_among_fd : FuncData
  is_pair_of : Addr
  is_pair_of_fd : FuncData
  is_load_of : Addr
  is_load_of_fd : FuncData
  is_entry : Addr
  is_entry_fd : FuncData
  carts_of : Addr
  carts_of_fd : FuncData
  is_within : Addr
  is_within_fd : FuncData
  check_country : Addr
  check_country_fd : FuncData
  check_yard : Addr
  check_yard_fd : FuncData
  check_country_and_yard : Addr
  check_country_and_yard_fd : FuncData
  check_load : Addr
  check_load_fd : FuncData
  is_known : Addr
  is_known_fd : FuncData
  is_let : Addr
  is_let_fd : FuncData
  noted : Addr
  noted_fd : FuncData
  check_known : Addr
  check_known_fd : FuncData
  is_known_of : Addr
  is_known_of_fd : FuncData
  are_seen : Addr
  are_seen_fd : FuncData
  is_surely_let : Addr
  is_surely_let_fd : FuncData
  is_surely_refused : Addr
  is_surely_refused_fd : FuncData
  l_pot : Addr
  l_pot_fd : FuncData
  l_draw : Addr
  l_draw_fd : FuncData
  l_pick : Addr
  l_pick_fd : FuncData
  l_lanes : Addr
  l_lanes_fd : FuncData
  l_beside : Addr
  l_beside_fd : FuncData
  l_yards : Addr
  l_yards_fd : FuncData
  l_pairs : Addr
  l_pairs_fd : FuncData
  l_many : Addr
  l_many_fd : FuncData
  l_size : Addr
  l_size_fd : FuncData
  l_plus : Addr
  l_plus_fd : FuncData
  l_is_most : Addr
  l_is_most_fd : FuncData
  l_load : Addr
  l_load_fd : FuncData
  l_known : Addr
  l_known_fd : FuncData
  l_sure : Addr
  l_sure_fd : FuncData
  l_given : Addr
  l_given_fd : FuncData
  l_known_given : Addr
  l_known_given_fd : FuncData
  l_loads : Addr
  l_loads_fd : FuncData
  l_noted_right : Addr
  l_noted_right_fd : FuncData
  l_right : Addr
  l_right_fd : FuncData
  law : Addr
  law_fd : FuncData
  Country : Addr
structure Txt (K : PySem.W.Frag) (mg : Str → Option Value) (A : Adr) : Prop where
  F_is_count : Fun K "is_count" "is_count" s_is_count A.is_count A.is_count_fd
  b_is_count : L2.Binds K A.is_count_fd ["value"] []
  m_is_count : mg "is_count" = some (.ref A.is_count)
  F_is_row : Fun K "is_row" "is_row" s_is_row A.is_row A.is_row_fd
  b_is_row : L2.Binds K A.is_row_fd ["value"] []
  m_is_row : mg "is_row" = some (.ref A.is_row)
  F_Country_init : Fun K "__init__" "Country.__init__" s_Country_init A.Country_init A.Country_init_fd
  b_Country_init : L2.Binds K A.Country_init_fd ["self", "lanes"] []
  F_Country_lanes : Fun K "lanes" "Country.lanes" s_Country_lanes A.Country_lanes A.Country_lanes_fd
  b_Country_lanes : L2.Binds K A.Country_lanes_fd ["self"] []
  pr_Country_lanes : PropOf K A.Country "lanes" A.Country_lanes_p A.Country_lanes
  F_Country_yards : Fun K "yards" "Country.yards" s_Country_yards A.Country_yards A.Country_yards_fd
  b_Country_yards : L2.Binds K A.Country_yards_fd ["self"] []
  pr_Country_yards : PropOf K A.Country "yards" A.Country_yards_p A.Country_yards
  F_Country_gates : Fun K "gates" "Country.gates" s_Country_gates A.Country_gates A.Country_gates_fd
  b_Country_gates : L2.Binds K A.Country_gates_fd ["self"] []
  pr_Country_gates : PropOf K A.Country "gates" A.Country_gates_p A.Country_gates
  F_Country_neighbours : Fun K "neighbours" "Country.neighbours" s_Country_neighbours A.Country_neighbours A.Country_neighbours_fd
  b_Country_neighbours : L2.Binds K A.Country_neighbours_fd ["self", "place"] []
  me_Country_neighbours : Meth K A.Country "neighbours" A.Country_neighbours
  F_Country_ahead : Fun K "ahead" "Country.ahead" s_Country_ahead A.Country_ahead A.Country_ahead_fd
  b_Country_ahead : L2.Binds K A.Country_ahead_fd ["self", "place", "goal"] []
  me_Country_ahead : Meth K A.Country "ahead" A.Country_ahead
  F_Country_eq : Fun K "__eq__" "Country.__eq__" s_Country_eq A.Country_eq A.Country_eq_fd
  b_Country_eq : L2.Binds K A.Country_eq_fd ["self", "other"] []
  me_Country_eq : Meth K A.Country "__eq__" A.Country_eq
  F_is_place : Fun K "is_place" "is_place" s_is_place A.is_place A.is_place_fd
  b_is_place : L2.Binds K A.is_place_fd ["country", "value"] []
  m_is_place : mg "is_place" = some (.ref A.is_place)
  F_is_yard : Fun K "is_yard" "is_yard" s_is_yard A.is_yard A.is_yard_fd
  b_is_yard : L2.Binds K A.is_yard_fd ["country", "value"] []
  m_is_yard : mg "is_yard" = some (.ref A.is_yard)
  F_are_lanes : Fun K "are_lanes" "are_lanes" s_are_lanes A.are_lanes A.are_lanes_fd
  b_are_lanes : L2.Binds K A.are_lanes_fd ["value"] []
  m_are_lanes : mg "are_lanes" = some (.ref A.are_lanes)
  F_is_pair_up_to : Fun K "is_pair_up_to" "is_pair_up_to" s_is_pair_up_to A.is_pair_up_to A.is_pair_up_to_fd
  b_is_pair_up_to : L2.Binds K A.is_pair_up_to_fd ["value", "last"] []
  m_is_pair_up_to : mg "is_pair_up_to" = some (.ref A.is_pair_up_to)
  F_neighbours_by_place : Fun K "neighbours_by_place" "neighbours_by_place" s_neighbours_by_place A.neighbours_by_place A.neighbours_by_place_fd
  b_neighbours_by_place : L2.Binds K A.neighbours_by_place_fd ["lanes"] []
  m_neighbours_by_place : mg "neighbours_by_place" = some (.ref A.neighbours_by_place)
  F_yards_among : Fun K "yards_among" "yards_among" s_yards_among A.yards_among A.yards_among_fd
  b_yards_among : L2.Binds K A.yards_among_fd ["around"] []
  m_yards_among : mg "yards_among" = some (.ref A.yards_among)
  F_places_ahead : Fun K "places_ahead" "places_ahead" s_places_ahead A.places_ahead A.places_ahead_fd
  b_places_ahead : L2.Binds K A.places_ahead_fd ["around", "goal"] []
  m_places_ahead : mg "places_ahead" = some (.ref A.places_ahead)
  F_is_among : Fun K "is_among" "is_among" s_is_among A.is_among A.is_among_fd
  b_is_among : L2.Binds K A.is_among_fd ["around", "value"] []
  m_is_among : mg "is_among" = some (.ref A.is_among)
  F_is_pair_of : Fun K "is_pair_of" "is_pair_of" s_is_pair_of A.is_pair_of A.is_pair_of_fd
  b_is_pair_of : L2.Binds K A.is_pair_of_fd ["around", "origin", "target"] []
  m_is_pair_of : mg "is_pair_of" = some (.ref A.is_pair_of)
  F_is_load_of : Fun K "is_load_of" "is_load_of" s_is_load_of A.is_load_of A.is_load_of_fd
  b_is_load_of : L2.Binds K A.is_load_of_fd ["around", "value"] []
  m_is_load_of : mg "is_load_of" = some (.ref A.is_load_of)
  F_is_entry : Fun K "is_entry" "is_entry" s_is_entry A.is_entry A.is_entry_fd
  b_is_entry : L2.Binds K A.is_entry_fd ["around", "value"] []
  m_is_entry : mg "is_entry" = some (.ref A.is_entry)
  F_carts_of : Fun K "carts_of" "carts_of" s_carts_of A.carts_of A.carts_of_fd
  b_carts_of : L2.Binds K A.carts_of_fd ["load", "origin", "target"] []
  m_carts_of : mg "carts_of" = some (.ref A.carts_of)
  F_is_within : Fun K "is_within" "is_within" s_is_within A.is_within A.is_within_fd
  b_is_within : L2.Binds K A.is_within_fd ["load", "other"] []
  m_is_within : mg "is_within" = some (.ref A.is_within)
  F_check_country : Fun K "check_country" "check_country" s_check_country A.check_country A.check_country_fd
  b_check_country : L2.Binds K A.check_country_fd ["country"] []
  m_check_country : mg "check_country" = some (.ref A.check_country)
  F_check_yard : Fun K "check_yard" "check_yard" s_check_yard A.check_yard A.check_yard_fd
  b_check_yard : L2.Binds K A.check_yard_fd ["country", "yard"] []
  m_check_yard : mg "check_yard" = some (.ref A.check_yard)
  F_check_country_and_yard : Fun K "check_country_and_yard" "check_country_and_yard" s_check_country_and_yard A.check_country_and_yard A.check_country_and_yard_fd
  b_check_country_and_yard : L2.Binds K A.check_country_and_yard_fd ["country", "yard"] []
  m_check_country_and_yard : mg "check_country_and_yard" = some (.ref A.check_country_and_yard)
  F_check_load : Fun K "check_load" "check_load" s_check_load A.check_load A.check_load_fd
  b_check_load : L2.Binds K A.check_load_fd ["country", "yard", "load"] []
  m_check_load : mg "check_load" = some (.ref A.check_load)
  F_is_known : Fun K "is_known" "is_known" s_is_known A.is_known A.is_known_fd
  b_is_known : L2.Binds K A.is_known_fd ["country", "yard", "value"] []
  m_is_known : mg "is_known" = some (.ref A.is_known)
  F_is_let : Fun K "is_let" "is_let" s_is_let A.is_let A.is_let_fd
  b_is_let : L2.Binds K A.is_let_fd ["country", "yard", "known", "load"] []
  m_is_let : mg "is_let" = some (.ref A.is_let)
  F_noted : Fun K "noted" "noted" s_noted A.noted A.noted_fd
  b_noted : L2.Binds K A.noted_fd ["country", "yard", "known", "load", "word"] []
  m_noted : mg "noted" = some (.ref A.noted)
  F_check_known : Fun K "check_known" "check_known" s_check_known A.check_known A.check_known_fd
  b_check_known : L2.Binds K A.check_known_fd ["country", "yard", "known"] []
  m_check_known : mg "check_known" = some (.ref A.check_known)
  F_is_known_of : Fun K "is_known_of" "is_known_of" s_is_known_of A.is_known_of A.is_known_of_fd
  b_is_known_of : L2.Binds K A.is_known_of_fd ["around", "value"] []
  m_is_known_of : mg "is_known_of" = some (.ref A.is_known_of)
  F_are_seen : Fun K "are_seen" "are_seen" s_are_seen A.are_seen A.are_seen_fd
  b_are_seen : L2.Binds K A.are_seen_fd ["around", "value"] []
  m_are_seen : mg "are_seen" = some (.ref A.are_seen)
  F_is_surely_let : Fun K "is_surely_let" "is_surely_let" s_is_surely_let A.is_surely_let A.is_surely_let_fd
  b_is_surely_let : L2.Binds K A.is_surely_let_fd ["known", "load"] []
  m_is_surely_let : mg "is_surely_let" = some (.ref A.is_surely_let)
  F_is_surely_refused : Fun K "is_surely_refused" "is_surely_refused" s_is_surely_refused A.is_surely_refused A.is_surely_refused_fd
  b_is_surely_refused : L2.Binds K A.is_surely_refused_fd ["known", "load"] []
  m_is_surely_refused : mg "is_surely_refused" = some (.ref A.is_surely_refused)
  F_l_pot : Fun K "_law_pot" "_law_pot" s_l_pot A.l_pot A.l_pot_fd
  b_l_pot : L2.Binds K A.l_pot_fd ["_law_script", "_law_k"] []
  m_l_pot : mg "_law_pot" = some (.ref A.l_pot)
  F_l_draw : Fun K "_law_draw" "_law_draw" s_l_draw A.l_draw A.l_draw_fd
  b_l_draw : L2.Binds K A.l_draw_fd ["_law_pot_here", "_law_many_here"] []
  m_l_draw : mg "_law_draw" = some (.ref A.l_draw)
  F_l_pick : Fun K "_law_pick" "_law_pick" s_l_pick A.l_pick A.l_pick_fd
  b_l_pick : L2.Binds K A.l_pick_fd ["_law_pot_here", "_law_some"] []
  m_l_pick : mg "_law_pick" = some (.ref A.l_pick)
  F_l_lanes : Fun K "_law_lanes" "_law_lanes" s_l_lanes A.l_lanes A.l_lanes_fd
  b_l_lanes : L2.Binds K A.l_lanes_fd ["_law_pot_here", "_law_most"] []
  m_l_lanes : mg "_law_lanes" = some (.ref A.l_lanes)
  F_l_beside : Fun K "_law_beside" "_law_beside" s_l_beside A.l_beside A.l_beside_fd
  b_l_beside : L2.Binds K A.l_beside_fd ["_law_lanes_here", "_law_place"] []
  m_l_beside : mg "_law_beside" = some (.ref A.l_beside)
  F_l_yards : Fun K "_law_yards" "_law_yards" s_l_yards A.l_yards A.l_yards_fd
  b_l_yards : L2.Binds K A.l_yards_fd ["_law_lanes_here"] []
  m_l_yards : mg "_law_yards" = some (.ref A.l_yards)
  F_l_pairs : Fun K "_law_pairs" "_law_pairs" s_l_pairs A.l_pairs A.l_pairs_fd
  b_l_pairs : L2.Binds K A.l_pairs_fd ["_law_lanes_here", "_law_yard"] []
  m_l_pairs : mg "_law_pairs" = some (.ref A.l_pairs)
  F_l_many : Fun K "_law_many" "_law_many" s_l_many A.l_many A.l_many_fd
  b_l_many : L2.Binds K A.l_many_fd ["_law_load_here", "_law_pair"] []
  m_l_many : mg "_law_many" = some (.ref A.l_many)
  F_l_size : Fun K "_law_size" "_law_size" s_l_size A.l_size A.l_size_fd
  b_l_size : L2.Binds K A.l_size_fd ["_law_load_here"] []
  m_l_size : mg "_law_size" = some (.ref A.l_size)
  F_l_plus : Fun K "_law_plus" "_law_plus" s_l_plus A.l_plus A.l_plus_fd
  b_l_plus : L2.Binds K A.l_plus_fd ["_law_load_here", "_law_pair"] []
  m_l_plus : mg "_law_plus" = some (.ref A.l_plus)
  F_l_is_most : Fun K "_law_is_most" "_law_is_most" s_l_is_most A.l_is_most A.l_is_most_fd
  b_l_is_most : L2.Binds K A.l_is_most_fd ["_law_load_here", "_law_other"] []
  m_l_is_most : mg "_law_is_most" = some (.ref A.l_is_most)
  F_l_load : Fun K "_law_load" "_law_load" s_l_load A.l_load A.l_load_fd
  b_l_load : L2.Binds K A.l_load_fd ["_law_pot_here", "_law_pairs_here", "_law_size_here"] []
  m_l_load : mg "_law_load" = some (.ref A.l_load)
  F_l_known : Fun K "_law_known" "_law_known" s_l_known A.l_known A.l_known_fd
  b_l_known : L2.Binds K A.l_known_fd ["_law_pot_here", "_law_lanes_here", "_law_yard", "_law_most"] []
  m_l_known : mg "_law_known" = some (.ref A.l_known)
  F_l_sure : Fun K "_law_sure" "_law_sure" s_l_sure A.l_sure A.l_sure_fd
  b_l_sure : L2.Binds K A.l_sure_fd ["_law_known_here", "_law_load_here"] []
  m_l_sure : mg "_law_sure" = some (.ref A.l_sure)
  F_l_given : Fun K "_law_given" "_law_given" s_l_given A.l_given A.l_given_fd
  b_l_given : L2.Binds K A.l_given_fd ["_law_pot_here", "_law_loads_here"] []
  m_l_given : mg "_law_given" = some (.ref A.l_given)
  F_l_known_given : Fun K "_law_known_given" "_law_known_given" s_l_known_given A.l_known_given A.l_known_given_fd
  b_l_known_given : L2.Binds K A.l_known_given_fd ["_law_pot_here", "_law_known_here"] []
  m_l_known_given : mg "_law_known_given" = some (.ref A.l_known_given)
  F_l_loads : Fun K "_law_loads" "_law_loads" s_l_loads A.l_loads A.l_loads_fd
  b_l_loads : L2.Binds K A.l_loads_fd ["_law_pot_here", "_law_lanes_here", "_law_yard", "_law_known_here"] []
  m_l_loads : mg "_law_loads" = some (.ref A.l_loads)
  F_l_noted_right : Fun K "_law_noted_right" "_law_noted_right" s_l_noted_right A.l_noted_right A.l_noted_right_fd
  b_l_noted_right : L2.Binds K A.l_noted_right_fd ["_law_country", "_law_yard", "_law_known_here", "_law_load_here", "_law_word"] []
  m_l_noted_right : mg "_law_noted_right" = some (.ref A.l_noted_right)
  F_l_right : Fun K "_law_right" "_law_right" s_l_right A.l_right A.l_right_fd
  b_l_right : L2.Binds K A.l_right_fd ["_law_pot_here"] []
  m_l_right : mg "_law_right" = some (.ref A.l_right)
  F_law : Fun K "law" "law" s_law A.law A.law_fd
  b_law : L2.Binds K A.law_fd ["_law_script"] []
  m_law : mg "law" = some (.ref A.law)
  ic_Country : C8.InsC K A.Country
  ne_Country : PySem.W.findIn K (.ref A.Country) "__ne__" = some (some (.builtin "object.__ne__"))
  nl_Country : PySem.W.kitOne K (.type "list") (.ref A.Country) = some false
  ni_Country : PySem.W.kitOne K (.type "int") (.ref A.Country) = some false
  cl_Country : Cls K A.Country
  mk_Country : Mk K A.Country A.Country_init
  m_Country : mg "Country" = some (.ref A.Country)
  na_Country_lanes : NoAttr K A.Country "_lanes"
  na_Country_around : NoAttr K A.Country "_around"
  na_Country_ahead : NoAttr K A.Country "_ahead"
  na_Country_yards : NoAttr K A.Country "_yards"
  na_Country_gates : NoAttr K A.Country "_gates"
  g_MOST_LANES_AT_A_PLACE : ∃ t, mg "MOST_LANES_AT_A_PLACE" = some (.int 4 t)
  g_MOST_YARDS : ∃ t, mg "MOST_YARDS" = some (.int 7 t)
  g_MOST_PLACES : ∃ t, mg "MOST_PLACES" = some (.int 6 t)
  g_MOST_SEEN : ∃ t, mg "MOST_SEEN" = some (.int 12 t)
  n_abs : mg "abs" = none
  n_all : mg "all" = none
  n_any : mg "any" = none
  n_bool : mg "bool" = none
  n_divmod : mg "divmod" = none
  n_int : mg "int" = none
  n_isinstance : mg "isinstance" = none
  n_len : mg "len" = none
  n_list : mg "list" = none
  n_max : mg "max" = none
  n_min : mg "min" = none
  n_range : mg "range" = none
  n_repr : mg "repr" = none
  n_sorted : mg "sorted" = none
  n_str : mg "str" = none
  n_sum : mg "sum" = none
  n_tuple : mg "tuple" = none
end K61
set_option Elab.async false
set_option linter.all false
set_option maxRecDepth 100000
set_option maxHeartbeats 4000000
namespace K61
open PySem PySem.Spec PyProof.Rows L2 TM Pr Ep
open Evl (Ex Ev EvT EvA EvL)
section
variable {P : Program} {w : World} {K : PySem.W.Frag} {mg : Str → Option Value} {base : Heap} {A : Adr}
theorem ok_is_count (T : Txt K mg A) : FnOk P w K mg base CX0 1 A.is_count A.is_count_fd ["value"] spCount := by
  refine T.F_is_count.ok sc_is_count (fun vs H Q E h => ?_) (fun cdv A' outer s H vs Q E hr h => ?_)
  · obtain ⟨i, rfl, _⟩ := h
    rfl
  · obtain ⟨i, rfl, k⟩ := h
    refine ⟨_, (pss_one (ps_ret (pe_and (show PE _ _ (tCB (rIsi K) _) from (pe_callB (id := "isinstance") call_isi (by rfl) T.n_isinstance (by decide +kernel) (pa_cons (pv 0) (pa_cons (pe_bltn (v := .ty "int") (by rfl) T.n_int (by decide +kernel) rfl) pa_nil)))) (pe_and (pe_not (show PE _ _ (tCB (rIsi K) _) from (pe_callB (id := "isinstance") call_isi (by rfl) T.n_isinstance (by decide +kernel) (pa_cons (pv 0) (pa_cons (pe_bltn (v := .ty "bool") (by rfl) T.n_bool (by decide +kernel) rfl) pa_nil))))) (pe_one (pe_cmpR op_ge (pv 0) pe_int (nomark _))))))), ?_⟩
    refine ⟨_, rfl, _, _, _, _, true, rfl, .ty _, .base (.int i), (by rfl), true, rfl, iteT ?_⟩
    refine ⟨_, rfl, _, _, _, _, false, rfl, .ty _, .base (.int i), (by rfl), false, rfl, true, rfl, iteT ?_⟩
    exact ⟨_, rfl, i, 0, rfl, rfl, k⟩
theorem ok_is_row (T : Txt K mg A) : FnOk P w K mg base CX0 1 A.is_row A.is_row_fd ["value"] (spRow K) := by
  refine T.F_is_row.ok sc_is_row (fun vs H Q E h => ?_) (fun cdv A' outer s H vs Q E hr h => ?_)
  · obtain ⟨a, xs, rfl, _⟩ := h
    rfl
  · obtain ⟨a, xs, rfl, hx, k⟩ := h
    refine ⟨_, (pss_one (ps_ret (show PE _ _ (tCB (rIsiT K) _) from (pe_callB (id := "isinstance") call_isiT (by rfl) T.n_isinstance (by decide +kernel) (pa_cons (pv 0) (pa_cons (pe_tup (pa_cons (pe_bltn (v := .ty "list") (by rfl) T.n_list (by decide +kernel) rfl) (pa_cons (pe_bltn (v := .ty "tuple") (by rfl) T.n_tuple (by decide +kernel) rfl) pa_nil))) pa_nil)))))), ?_⟩
    refine ⟨_, rfl, by decide, fun p hp => ?_⟩
    have e := Ex.new (o := .tup [.ty "list", .ty "tuple"]) hp
    rcases hx with hx | hx
    · exact ⟨_, p, _, _, _, true, rfl, upd_same, .cons (.ty _) (.cons (.ty _) .nil), .base (.lst (e _ _ hx)), (by rfl), k _ e⟩
    · exact ⟨_, p, _, _, _, true, rfl, upd_same, .cons (.ty _) (.cons (.ty _) .nil), .base (.tup (e _ _ hx)), (by rfl), k _ e⟩
theorem ok_is_pair_up_to (T : Txt K mg A) : FnOk P w K mg base CX0 2 A.is_pair_up_to A.is_pair_up_to_fd ["value", "last"] spPair := by
  refine T.F_is_pair_up_to.ok sc_is_pair_up_to (fun vs H Q E h => ?_) (fun cdv A' outer s H vs Q E hr h => ?_)
  · obtain ⟨t, p, last, rfl, _⟩ := h
    rfl
  · obtain ⟨t, p, last, rfl, ht, k⟩ := h
    refine ⟨_, (pss_one (ps_ret (pe_and (pe_call (ok_is_row T) (hr.mono (by decide)) (by rfl) T.m_is_row T.F_is_row.kp T.b_is_row .nil pass0 (pa_cons (pv 0) pa_nil)) (pe_and (pe_cmpR op_eq (show PE _ _ (tCB (rLenA K) _) from (pe_callB (id := "len") call_len (by rfl) T.n_len (by decide +kernel) (pa_cons (pv 0) pa_nil))) pe_int (nomark _)) (pe_one (show PE _ _ (tCB (rAll K) _) from (pe_callB (id := "all") (cr_all rfl) (by rfl) T.n_all (by decide +kernel) (pa_cons (pe_lc (own := [("place", 2)]) rfl sc_is_pair_up_to.nd (show PI _ _ _ (iTup K _) from pi_tup (pv 0)) (blkOk_by (N := n_is_pair_up_to) (sc := defScope s_is_pair_up_to) (by decide +kernel)) (fun _ _ _ _ _ => (pg_name (i := 2) sc_is_pair_up_to.nd rfl (Or.inl rfl))) (fun _ _ _ _ _ => pts_nil) (fun _ _ _ _ _ => (pe_and (pe_call (ok_is_count T) (hr.mono (by decide)) (by rfl) T.m_is_count T.F_is_count.kp T.b_is_count .nil pass0 (pa_cons (pv 2) pa_nil)) (pe_one (pe_cmpR op_le (pv 2) (pv 1) (nomark _)))))) pa_nil)))))))), ?_⟩
    refine ⟨_, rfl, _, _, rfl, .inr ht, fun H1 e1 => ⟨true, rfl, iteT ?_⟩⟩
    refine ⟨_, rfl, _, 2, rfl, .inr ⟨_, Evl.st_of (e1 _ _ ht), rfl⟩, rfl, true, rfl, iteT ?_⟩
    refine cb_one (lcV (src_tup (K := K) (Evl.ev_var (v := .ref t) rfl) (Evl.st_of (e1 _ _ ht))) (by show 2 ≤ 50000; decide) (fun i x => [some (.ref t), some (vI last), some x]) (fun _ _ => rfl) (fun _ _ _ _ _ _ _ q => q) (fun _ => true)
      (fun i => .bl (decide ((if i = 0 then p.1 else p.2) ≤ last))) (fun _ _ _ _ _ _ => fun H1 e Q q => q H1 (Ex.refl _)) (fun i x H2 e2 hi hx _ => ?_)) fun v H2 e2 hv => ?_
    · have ex : x = vI (if i = 0 then p.1 else p.2) := by
        match i, hi, hx with
        | 0, _, hx => exact (Option.some.inj hx).symm
        | 1, _, hx => exact (Option.some.inj hx).symm
      subst ex
      intro H3 e3 Q q
      refine ⟨_, rfl, _, rfl, true, ?_, iteT ?_⟩
      · rw [decide_eq_true (Int.natCast_nonneg _)]
      · refine ⟨_, rfl, _, rfl, _, _, rfl, rfl, ?_⟩
        have z := q H3 (Ex.refl _)
        have d : decide (((if i = 0 then p.1 else p.2 : Nat) : Int) ≤ (last : Int)) = decide ((if i = 0 then p.1 else p.2) ≤ last) := by
          by_cases c : (if i = 0 then p.1 else p.2) ≤ last
          · rw [decide_eq_true c, decide_eq_true (Int.ofNat_le.mpr c)]
          · rw [decide_eq_false c, decide_eq_false (fun z => c (Int.ofNat_le.mp z))]
        show Q (V.bl (decide (((if i = 0 then p.1 else p.2 : Nat) : Int) ≤ (last : Int)))) H3
        rw [d]
        exact z
    · obtain ⟨D, rfl, _, hD⟩ := hv
      refine ⟨D, [decide (p.1 ≤ last), decide (p.2 ≤ last)], rfl, Evl.sq_of hD, ?_⟩
      have z := k H2 (e1.trans e2)
      show Q (V.bl (decide (p.1 ≤ last) && (decide (p.2 ≤ last) && true))) H2
      rw [Bool.and_true]
      exact z
end
end K61
set_option Elab.async false
set_option linter.all false
set_option maxRecDepth 100000
set_option maxHeartbeats 4000000
namespace K61
open PySem PySem.Spec PyProof.Rows L2 TM Pr Ep
open Evl (Ex Ev EvT EvA EvL)
section
variable {P : Program} {w : World} {K : PySem.W.Frag} {mg : Str → Option Value} {base : Heap} {A : Adr}
theorem ok_neighbours_by_place (T : Txt K mg A) : FnOk P w K mg base CX0 1 A.neighbours_by_place A.neighbours_by_place_fd ["lanes"] spNeigh := by
  refine T.F_neighbours_by_place.ok sc_neighbours_by_place (fun vs H Q E h => ?_) (fun cdv A' outer s H vs Q E hr h => ?_)
  · obtain ⟨a, L, rfl, _⟩ := h
    rfl
  · obtain ⟨a, L, rfl, hL, hb, hlen, k⟩ := h
    have hu := hu_of hr
    refine ⟨_, (pss_cons (ps_set (i := 1) sc_neighbours_by_place.nd rfl (Or.inr rfl) (pe_dc (own := [("place", 4)]) rfl sc_neighbours_by_place.nd (pi_range1 (by rfl) T.n_range (pa_cons (pe_op op_add (show PE _ _ (tCB (rLenA K) _) from (pe_callB (id := "len") call_len (by rfl) T.n_len (by decide +kernel) (pa_cons (pv 0) pa_nil))) pe_int) pa_nil)) (blkOk_by (N := n_neighbours_by_place) (sc := defScope s_neighbours_by_place) (by decide +kernel)) (fun _ _ _ _ _ => (pg_name (i := 4) sc_neighbours_by_place.nd rfl (Or.inl rfl))) (fun _ _ _ _ _ => pts_nil) (fun _ _ _ _ _ => (pv 4)) (fun _ _ _ _ _ => (pe_lst pa_nil)))) (pss_cons (ps_for PassesOwn.never rfl (show PI _ _ _ (iList K _) from pi_list (pv 0)) (show PG _ _ (gTup K 2 _) from pg_tup rfl (pgs_cons (pg_name (i := 2) sc_neighbours_by_place.nd rfl (Or.inl rfl)) (pgs_cons (pg_name (i := 3) sc_neighbours_by_place.nd rfl (Or.inl rfl)) pgs_nil))) (pss_cons (ps_expr (show PE _ _ (tBM K "list" rAppend _ _) from pe_bm PySem.F.plainAttrs_list PySem.F.slot_list_append PySem.F.type_list_append mt_append (pe_dget hu (pv 1) (pv 2) (fun _ _ => rfl)) (pa_cons (pv 3) pa_nil))) (pss_one (ps_expr (show PE _ _ (tBM K "list" rAppend _ _) from pe_bm PySem.F.plainAttrs_list PySem.F.slot_list_append PySem.F.type_list_append mt_append (pe_dget hu (pv 1) (pv 3) (fun _ _ => rfl)) (pa_cons (pv 2) pa_nil)))))) (pss_one (ps_ret (pe_lock (pe_dc (own := [("place", 4)]) rfl sc_neighbours_by_place.nd (pi_keys (pv 1)) (blkOk_by (N := n_neighbours_by_place) (sc := defScope s_neighbours_by_place) (by decide +kernel)) (fun _ _ _ _ _ => (pg_name (i := 4) sc_neighbours_by_place.nd rfl (Or.inl rfl))) (fun _ _ _ _ _ => pts_nil) (fun _ _ _ _ _ => (pv 4)) (fun _ _ _ _ _ => (show PE _ _ (tCB (rSortedI K) _) from (pe_callB (id := "sorted") cr_sortedI (by rfl) T.n_sorted (by decide +kernel) (pa_cons (pe_dget hu (pv 1) (pv 4) (fun _ _ => rfl)) pa_nil)))))))))), ?_⟩
    obtain ⟨ls, ha, hp⟩ := hL
    have hll : ls.length = L.length := PySem.Paired.length hp
    -- around = {place: [] ..}
    refine p_asg (dcI (n := L.length + 1) (src_rng1 (n := L.length + 1) ?_ (by omega)) (by omega) (fun i x => [some (.ref a), none, none, none, some x]) (fun _ _ => rfl)
      (fun D i ys H' => ∃ rs : List Addr, ys = rs.map V.ref ∧ rs.Nodup ∧ rs.length = i ∧ ∀ r ∈ rs, r ≠ D ∧ H r = none ∧ H' r = some (HO.lst [])) (fun _ _ _ _ _ _ _ q => q) keyN (fun i j h1 h2 e => ?_) (fun i x H1 _ _ hx => ?_) (fun _ => NewL []) (fun i x H1 _ _ _ => ?_) (fun D H1 _ _ => ?_) (fun D i ys Ha Hb e h => ?_) (fun D i ys v Ha Hb kvs e1 e2 hD hi h p xs => ?_)) fun v H1 e1 hv => ?_
    · intro H1 e1 Q' q
      refine ⟨_, rfl, _, ls.length, rfl, .inl ⟨_, Evl.sq_of (e1 _ _ ha), rfl⟩, _, _, rfl, rfl, ?_⟩
      have z := q H1 (Ex.refl _)
      rw [hll]
      exact z
    · injection e with e
      omega
    · subst hx
      exact Evl.ev_var rfl
    · exact evp_lst Evl.ea_nil (by decide)
    · exact ⟨[], rfl, List.nodup_nil, rfl, fun r hr => nomatch hr⟩
    · obtain ⟨rs, h1, h2, h3, h4⟩ := h
      exact ⟨rs, h1, h2, h3, fun r hr => ⟨(h4 r hr).1, (h4 r hr).2.1, e _ _ (h4 r hr).2.2⟩⟩
    · obtain ⟨rs, h1, h2, h3, h4⟩ := h
      obtain ⟨q, rfl, hq, hq2⟩ := p
      have qD : q ≠ D := fun z => by rw [z, hD] at hq; cases hq
      refine ⟨rs ++ [q], by rw [h1, List.map_append]; rfl, ?_, by simp [h3], fun r hr => ?_⟩
      · refine List.nodup_append.mpr ⟨h2, by simp, fun x hx y hy z => ?_⟩
        have : y = q := by simpa using hy
        subst this
        subst z
        have z2 := (h4 x hx).2.2
        rw [hq] at z2
        cases z2
      · rcases List.mem_append.mp hr with hr | hr
        · refine ⟨(h4 r hr).1, (h4 r hr).2.1, ?_⟩
          rw [upd_ne (h4 r hr).1]
          exact e2 _ _ (h4 r hr).2.2
        · have : r = q := by simpa using hr
          subst this
          refine ⟨qD, Evl.fresh_back e1 hq, ?_⟩
          rw [upd_ne qD]
          exact hq2
    · obtain ⟨d, ys, rfl, hd0, hd, hyl, rs, rfl, nd, hrl, hrs⟩ := hv
      -- for one, other in lanes
      have hm : ∀ {j : Nat}, j ≤ L.length → j < L.length + 1 := fun h => by omega
      refine Evl.q_forL (K := K) (a := a) (xs := ls) (Evl.ev_var rfl) (Evl.sq_of (e1 _ _ ha)) (fun i σ' H' => ∃ y2 y3, σ' = [some (.ref a), some (.ref d), y2, y3, none] ∧ Ex H H' ∧ H' d = some (dkOf (L.length + 1) rs) ∧ RowsAt H' (L.length + 1) rs (fun j => nbP (L.take i) j))
        (fun H2 e2 => ⟨none, none, rfl, e1.trans e2, e2 _ _ hd, hrl, fun i r hi => e2 _ _ (hrs r (List.mem_of_getElem? hi)).2.2⟩) (fun i σ' H' _ ⟨_, _, _, e, _⟩ => Evl.sq_of (e _ _ ha)) (fun i x σ' H2 hi h => ?_) (fun σ' H2 h => ?_)
      · obtain ⟨y2, y3, rfl, e2, hd2, R⟩ := h
        obtain ⟨⟨o1, o2⟩, hpi, t, rfl, ht⟩ := paired_ix hp hi
        obtain ⟨b1, b2⟩ := hb _ (List.mem_of_getElem? hpi)
        have b1 : o1 < L.length + 1 := hm b1
        have b2 : o2 < L.length + 1 := hm b2
        refine ⟨t, _, rfl, Evl.st_of (e2 _ _ ht), rfl, _, _, rfl, _, _, rfl, rfl, ?_⟩
        obtain ⟨r1, q1, h1, v1⟩ := R.get b1
        have f1 : H r1 = none := (hrs r1 (List.mem_of_getElem? q1)).2.1
        have nd1 : r1 ≠ d := (hrs r1 (List.mem_of_getElem? q1)).1
        have n1 : (vIs (nbP (L.take i) o1)).length < sizeLine := by
          rw [List.length_map]
          have := nbP_len (L.take i) o1
          have : (L.take i).length ≤ L.length := by rw [List.length_take]; omega
          exact szN (by omega)
        refine ⟨_, rfl, _, rfl, d, _, rfl, .inl ⟨_, keyN o1, .inl hd2, rfl, v1.symm⟩, .inl ⟨rfl, _, .inl (.inl h1)⟩, _, rfl, r1, _, _, rfl, rfl, h1, n1, ?_⟩
        have R1 := R.app nd (x := o2) q1
        have e3 : Ex H (upd H2 r1 (.lst (vIs (nbP (L.take i) o1) ++ [vI o2]))) := Ex.mut e2 f1
        generalize hH3 : upd H2 r1 (.lst (vIs (nbP (L.take i) o1) ++ [vI o2])) = H3 at R1 e3
        have hd3 : H3 d = some (dkOf (L.length + 1) rs) := by
          rw [← hH3, upd_ne nd1.symm]
          exact hd2
        obtain ⟨r2, q2, h2, v2⟩ := R1.get b2
        have f2 : H r2 = none := (hrs r2 (List.mem_of_getElem? q2)).2.1
        have nd2 : r2 ≠ d := (hrs r2 (List.mem_of_getElem? q2)).1
        have n2 : (vIs (nbP (L.take i) o2 ++ if o1 = o2 then [o2] else [])).length < sizeLine := by
          rw [List.length_map, List.length_append]
          have := nbP_len (L.take i) o2
          have : (L.take i).length ≤ L.length := by rw [List.length_take]; omega
          have : (if o1 = o2 then [o2] else []).length ≤ 1 := by split <;> simp
          exact szN (by omega)
        refine ⟨_, rfl, _, rfl, d, _, rfl, .inl ⟨_, keyN o2, .inl hd3, rfl, v2.symm⟩, .inl ⟨rfl, _, .inl (.inl h2)⟩, _, rfl, r2, _, _, rfl, rfl, h2, n2, ?_⟩
        have R2 := R1.app nd (x := o1) q2
        refine ⟨_, _, rfl, Ex.mut e3 f2, by rw [upd_ne nd2.symm]; exact hd3, R2.congr fun j _ => ?_⟩
        rw [take_more hpi, nbP_snoc]
        simp only [List.append_assoc]
      · obtain ⟨y2, y3, rfl, e2, hd2, R⟩ := h
        rw [hll, List.take_length] at R
        -- return {place: sorted(around[place]) for place in around}
        refine p_ret (P := fun v Ha Hb => ∃ p, v = .ref p ∧ Ha p = none ∧ AroundAt Hb p (L.length + 1) (adj L)) (evp_lock (d := d) (u := dkOf (L.length + 1) rs) hd2 trivial (P := fun v Ha Hb => ∃ p qs, v = .ref p ∧ Ha p = none ∧ p ≠ d ∧ Hb p = some (dkOf (L.length + 1) qs) ∧ RowsAt Hb (L.length + 1) qs (adj L) ∧ ∀ r ∈ qs, r ≠ d) (fun Ha od ea => ?_) (fun v Ha Hb od ea eb h => ?_)) (fun v H3 e3 h => ?_)
        · have hd3 : Ha d = some (dkOf (L.length + 1) rs) := ea _ _ hd2
          have R3 := (R.ex ea).lock hd3 od
          have hkl : ((keysN (L.length + 1)).zip (rs.map V.ref)).length = L.length + 1 := by
            rw [List.length_zip, keysN_length, List.length_map, hrl, Nat.min_self]
          have src := src_keys (σ := [some (.ref a), some (.ref d), y2, y3, none]) (H := upd Ha d (.frz od (dkOf (L.length + 1) rs))) (td := tVar 1) (d := d) (o := od) (Evl.ev_var rfl) upd_same
          rw [hkl] at src
          have hX : ∀ {i : Nat} {x : V}, i < L.length + 1 → (∃ k z, ((keysN (L.length + 1)).zip (rs.map V.ref))[i]? = some (k, z) ∧ x = kV k) → x = vI i := fun {i x} hi h => by
            obtain ⟨k, z, e1, e2⟩ := h
            have := List.getElem?_zip_eq_some.mp e1
            rw [keysN_at hi] at this
            obtain ⟨e3, _⟩ := this
            cases e3
            exact e2
          refine (dcI src (by omega) (fun i x => [some (.ref a), some (.ref d), y2, y3, some x]) (fun _ _ => rfl)
            (fun D i ys H' => D ≠ d ∧ ∃ qs : List Addr, ys = qs.map V.ref ∧ qs.length = i ∧ (∀ r ∈ qs, r ≠ D ∧ r ≠ d) ∧ ∀ j r, qs[j]? = some r → H' r = some (HO.lst (vIs (adj L j)))) (fun _ _ _ _ _ _ _ q => q) keyN (fun i j h1 h2 e => ?_) (fun i x H1 _ hi hx => ?_) (fun i => NewL (vIs (adj L i))) (fun i x H1 e4 hi hx => ?_) (fun D H1 e4 hD => ?_) (fun D i ys Ha Hb e h => ?_) (fun D i ys v Ha' Hb' kvs e4 e5 hD hi h p xs => ?_)).imp ?_
          · injection e with e
            omega
          · cases hX hi hx
            exact Evl.ev_var rfl
          · cases hX hi hx
            intro H5 e5 Q' q'
            obtain ⟨r, hr, h5, v5⟩ := R3.get hi
            refine ⟨_, rfl, _, rfl, d, _, rfl, .inl ⟨_, keyN i, .inr ⟨od, e5 _ _ (e4 _ _ upd_same)⟩, rfl, v5.symm⟩, ?_⟩
            refine ⟨r, (nbP L i).map fun (n : Nat) => (n : Int), rfl, ?_, fun ns' p perm srt hp => ?_⟩
            · rw [← vIs_int]
              exact Evl.sq_of (e5 _ _ (e4 _ _ h5))
            · have := int_sorted perm srt
              rw [adjP] at this
              subst this
              rw [← vIs_int]
              exact q' _ _ (Ex.new hp) ⟨p, rfl, hp, upd_same⟩
          · refine ⟨fun z => ?_, [], rfl, rfl, (fun r hr => nomatch hr), (fun j r hr => by simp at hr)⟩
            subst z
            rw [e4 _ _ upd_same] at hD
            cases hD
          · obtain ⟨h0, qs, h1, h2, h3, h4⟩ := h
            exact ⟨h0, qs, h1, h2, h3, fun j r hr => e _ _ (h4 j r hr)⟩
          · obtain ⟨h0, qs, h1, h2, h3, h4⟩ := h
            obtain ⟨q, rfl, hq, hq2⟩ := p
            have qD : q ≠ D := fun z => by rw [z, hD] at hq; cases hq
            have qd : q ≠ d := fun z => by rw [z, e4 _ _ upd_same] at hq; cases hq
            refine ⟨h0, qs ++ [q], by rw [h1, List.map_append]; rfl, by simp [h2], fun r hr => ?_, fun j r hr => ?_⟩
            · rcases List.mem_append.mp hr with hr | hr
              · exact h3 r hr
              · have : r = q := by simpa using hr
                subst this
                exact ⟨qD, qd⟩
            · by_cases hj : j < qs.length
              · rw [List.getElem?_append_left hj] at hr
                rw [upd_ne (h3 r (List.mem_of_getElem? hr)).1]
                exact e5 _ _ (h4 j r hr)
              · rw [List.getElem?_append_right (by omega)] at hr
                have e0 : j - qs.length = 0 := by
                  have := (List.getElem?_eq_some_iff.mp hr).1
                  simp at this
                  omega
                rw [e0] at hr
                have : q = r := Option.some.inj hr
                subst this
                have ej : j = i := by omega
                subst ej
                rw [upd_ne qD]
                exact hq2
          · rintro v H1 H2 e4 e5 ⟨p, ys, rfl, hp0, hp1, hl, npd, qs, rfl, hql, h3, h4⟩
            exact ⟨p, qs, rfl, hp0, npd, hp1, ⟨hql, h4⟩, fun r hr => (h3 r hr).2⟩
        · obtain ⟨p, qs, rfl, hp0, npd, hp1, R3, nq⟩ := h
          refine ⟨p, rfl, ?_, qs, ?_, R3.len, fun i r hi => ?_⟩
          · rw [upd_ne npd] at hp0
            exact hp0
          · rw [upd_ne npd]
            exact hp1
          · rw [upd_ne (nq r (List.mem_of_getElem? hi))]
            exact R3.at_ i r hi
        · obtain ⟨p, rfl, hp0, hA⟩ := h
          exact k p H3 (e2.trans e3) (Evl.fresh_back e2 hp0) hA
end
end K61
set_option Elab.async false
set_option linter.all false
set_option maxRecDepth 100000
set_option maxHeartbeats 4000000
namespace Pr
open PySem PySem.Spec PyProof.Rows L2 TM
open Evl (Ex)
abbrev kvO (kvs : List (Nat × Nat)) : HO := .dK (kvs.map fun q => (keyN q.1, vI q.2))
theorem keyN_inj {a b : Nat} : keyN a = keyN b ↔ a = b := by
  constructor
  · intro h
    injection h with h
    omega
  · intro h
    rw [h]
theorem valV_kv : ∀ (kvs : List (Nat × Nat)) (y : Nat), valV (kvs.map fun q => (keyN q.1, vI q.2)) (keyN y) = (look kvs y).map vI
  | [], y => rfl
  | (a, b) :: kvs, y => by
    show valV ((keyN a, vI b) :: kvs.map fun q => (keyN q.1, vI q.2)) (keyN y) = _
    by_cases e : a = y
    · subst e
      rw [valV_pos rfl]
      simp [look]
    · rw [valV_neg (fun h => e (keyN_inj.mp h)), valV_kv kvs y]
      simp [look, List.find?_cons, e]
theorem look_none {kvs : List (Nat × Nat)} {y : Nat} : look kvs y = none ↔ y ∉ keys kvs := by
  constructor
  · intro h m
    obtain ⟨v, e⟩ := look_some m
    rw [h] at e
    cases e
  · intro h
    cases e : look kvs y with
    | none => rfl
    | some v =>
      obtain ⟨i, hi⟩ := look_ix e
      exact absurd (List.mem_map.mpr ⟨_, List.mem_of_getElem? hi, rfl⟩) h
end Pr
namespace K61
open PySem PySem.Spec PyProof.Rows L2 TM Pr Ep
open Evl (Ex Ev EvT EvA EvL)
section
variable {P : Program} {w : World} {K : PySem.W.Frag} {mg : Str → Option Value} {base : Heap} {A : Adr}
theorem ok_places_ahead (T : Txt K mg A) : FnOk P w K mg base CX0 1 A.places_ahead A.places_ahead_fd ["around", "goal"] spAhead := by
  refine T.F_places_ahead.ok sc_places_ahead (fun vs H Q E h => ?_) (fun cdv A' outer s H vs Q E hr h => ?_)
  · obtain ⟨L, d, goal, vt, rfl, _⟩ := h
    rfl
  · obtain ⟨L, d, goal, vt, rfl, g, hA, hg, hvt, hlen, k⟩ := h
    have hu := hu_of hr
    refine ⟨_, (pss_cons (ps_set (i := 2) sc_places_ahead.nd rfl (Or.inl rfl) pe_dnewK) (pss_cons (ps_set (i := 3) sc_places_ahead.nd rfl (Or.inl rfl) (pe_lst (pa_cons (pv 1) pa_nil))) (pss_cons (ps_while PassesOwn.never (pt_truth (pv 3) (by intro _; rfl)) (pss_cons (ps_set (i := 4) sc_places_ahead.nd rfl (Or.inl rfl) (show PE _ _ (tBM0 K "list" rPop _) from pe_bm0 PySem.F.plainAttrs_list PySem.F.slot_list_pop PySem.F.type_list_pop mt_pop (pv 3))) (pss_one (ps_for PassesOwn.never rfl (show PI _ _ _ (iList K _) from pi_list (pe_dget hu (pv 0) (pv 4) (fun _ _ => rfl))) (pg_name (i := 5) sc_places_ahead.nd rfl (Or.inl rfl)) (pss_one (ps_if (PW.pt (pw_and (pt_cmpR op_ne (pv 5) (pv 1) (nomark _)) (pw_and1 (pt_cmp (pc_dnotin hu (pv 5) (pv 2)))))) (pss_cons (ps_dput hu (pv 2) (pv 5) (pv 4) rfl) (pss_one (ps_expr (show PE _ _ (tBM K "list" rAppend _ _) from pe_bm PySem.F.plainAttrs_list PySem.F.slot_list_append PySem.F.type_list_append mt_append (pv 3) (pa_cons (pv 5) pa_nil))))) pss_nil)))))) (pss_one (ps_ret (pv 2)))))), ?_⟩
    -- ahead = {}; waiting = [goal]
    refine p_asg evp_dnew fun v H1 e1 hv => ?_
    obtain ⟨p, rfl, hp, hp1⟩ := hv
    refine p_asg (evp_lst (vs := [vI goal]) (Evl.ea_cons (Evl.ev_var rfl) Evl.ea_nil) (by show 1 ≤ 100000; decide)) fun v H2 e2 hv => ?_
    obtain ⟨q, rfl, hq, hq2⟩ := hv
    have npq : p ≠ q := ne_of_none hp1 hq
    have fq : H q = none := Evl.fresh_back e1 hq
    have e0 : Ex H H2 := e1.trans e2
    have hp2 := e2 _ _ hp1
    have vl := g.length
    obtain ⟨rs, hd0, R0⟩ := hA
    refine Evl.q_while (fun m σ' H' => ∃ kvs wt y4 y5, σ' = [some (.ref d), some (vI goal), some (.ref p), some (.ref q), y4, y5] ∧ Ex H H' ∧ H' p = some (kvO kvs) ∧ H' q = some (.lst (vIs wt)) ∧ DOut L goal kvs wt ∧ m = 2 * (vt.length - kvs.length) + wt.length ∧ 2 * (vt.length - kvs.length) + wt.length ≤ 2 * vt.length + 1) (2 * (vt.length - 0) + 1)
      ⟨[], [goal], none, none, rfl, e0, hp2, hq2, DOut.start L goal, rfl, by simp⟩ (fun m σ' H' h => ?_)
    obtain ⟨kvs, wt, y4, y5, rfl, e1, hp1, hq1, D, rfl, hsz⟩ := h
    refine ⟨!wt.isEmpty, fun H2 e2 Q' q' => ⟨_, rfl, !wt.isEmpty, .inl ⟨_, Evl.sq_of (e2 _ _ hq1), ?_⟩, q' _ (Ex.refl _)⟩, fun hb H2 e2 => ?_, fun hb H2 e2 => ?_⟩
    · cases wt <;> rfl
    · -- a turn
      obtain ⟨here, wt', rfl⟩ : ∃ here wt', wt = wt' ++ [here] := by
        rcases List.eq_nil_or_concat wt with e | ⟨a, b, e⟩
        · subst e; cases hb
        · exact ⟨b, a, by rw [e, List.concat_eq_append]⟩
      have DI := D.pop
      have e3 := e1.trans e2
      have hp2 := e2 _ _ hp1
      have hq2 := e2 _ _ hq1
      have hin : here ∈ vt := by
        rcases DI.me with e | e
        · exact e ▸ hg
        · obtain ⟨pr, hpr, e⟩ := List.mem_map.mp e
          obtain ⟨j, hj⟩ := List.getElem?_of_mem hpr
          exact e ▸ (g.ends (DI.told.ord j pr.1 pr.2 hj).1).2
      refine ⟨fun σ2 H3 => ∃ kvs' wt2 y4 y5, σ2 = [some (.ref d), some (vI goal), some (.ref p), some (.ref q), y4, y5] ∧ Ex H H3 ∧ H3 p = some (kvO kvs') ∧ H3 q = some (.lst (vIs wt2)) ∧ DOut L goal kvs' wt2 ∧ 2 * (vt.length - kvs'.length) + wt2.length < 2 * (vt.length - kvs.length) + (wt' ++ [here]).length,
        fun σ2 H3 ⟨kvs', wt2, y4, y5, h1, h2, h3, h4, h5, h6⟩ => ⟨_, h6, kvs', wt2, y4, y5, h1, h2, h3, h4, h5, rfl, by omega⟩, ?_⟩
      -- here = waiting.pop()
      refine ⟨_, rfl, .inl ⟨rfl, _, .inl (.inl hq2)⟩, q, _, vI here, rfl, rfl, hq2, ?_, ?_⟩
      · simp [vIs]
      have hdl : (vIs (wt' ++ [here])).dropLast = vIs wt' := by simp [vIs]
      rw [hdl]
      have e4 : Ex H (upd H2 q (.lst (vIs wt'))) := Ex.mut e3 fq
      have hp4 : (upd H2 q (.lst (vIs wt'))) p = some (kvO kvs) := by rw [upd_ne npq]; exact hp2
      have hq4 : (upd H2 q (.lst (vIs wt'))) q = some (.lst (vIs wt')) := upd_same
      generalize upd H2 q (.lst (vIs wt')) = H4 at e4 hp4 hq4
      obtain ⟨r, hr1, hrH, vr⟩ := R0.get (hvt _ hin)
      have hr2 := e4 _ _ hrH
      have npr : r ≠ p := ne_of_none hrH hp
      have nqr : r ≠ q := ne_of_none hrH fq
      have evr : Ev (tDGet (tVar 0) (tVar 4)) [some (.ref d), some (vI goal), some (.ref p), some (.ref q), some (vI here), y5] H4 (.ref r) := fun H5 e5 Q' q' => ⟨_, rfl, _, rfl, d, _, rfl, .inl ⟨_, keyN here, Evl.ex_rd (e4.trans e5) hd0, rfl, vr.symm⟩, q' H5 (Ex.refl _)⟩
      refine Evl.s_forL (K := K) evr (Evl.sq_of hr2) (fun i σ' H' => ∃ kvs' wt2 y5, σ' = [some (.ref d), some (vI goal), some (.ref p), some (.ref q), some (vI here), y5] ∧ Ex H H' ∧ H' p = some (kvO kvs') ∧ H' q = some (.lst (vIs wt2)) ∧ DIn L goal here i kvs' wt2 ∧ 2 * (vt.length - kvs'.length) + wt2.length < 2 * (vt.length - kvs.length) + (wt' ++ [here]).length)
        (fun H5 e5 => ⟨kvs, wt', y5, rfl, e4.trans e5, e5 _ _ hp4, e5 _ _ hq4, DI, by simp⟩) (fun i σ' H' _ ⟨_, _, _, _, e, _⟩ => Evl.sq_of (e _ _ hrH)) (fun i x σ' H5 hi h => ?_) (fun σ' H5 h => ?_)
      · obtain ⟨kvs', wt2, y5', rfl, e5, hp5, hq5, DI5, hm5⟩ := h
        obtain ⟨near, hnear, rfl⟩ : ∃ near, (adj L here)[i]? = some near ∧ vI near = x := by
          rw [List.getElem?_map] at hi
          cases e : (adj L here)[i]? with
          | none => rw [e] at hi; cases hi
          | some z => rw [e] at hi; exact ⟨z, rfl, Option.some.inj hi⟩
        have nv : near ∈ vt := (g.ends (mem_adj.mp (List.mem_of_getElem? hnear))).2
        show tIfS _ _ _ _ _ _
        -- near != goal and near not in ahead
        have et : EvT (tAnd (tTest (tOp rNe (tVar 5) (tVar 1))) (tB (tDNotIn (tVar 5) (tVar 2)))) [some (.ref d), some (vI goal), some (.ref p), some (.ref q), some (vI here), some (vI near)] H5 (!decide (near = goal) && !(look kvs' near).isSome) := by
          refine Evl.et_and (Evl.et_is (Evl.et_test (Evl.ev_op (Evl.ev_var rfl) (Evl.ev_var rfl) (Evl.rv_ne rfl))) ?_) fun _ => ?_
          · congr 1
            by_cases e : near = goal
            · subst e; simp
            · rw [decide_eq_false e, decide_eq_false (fun z => e (by injection z with z; omega))]
          · intro H6 e6 Q' q'
            refine ⟨_, rfl, _, rfl, p, _, rfl, .inl ⟨_, keyN near, .inl (e6 _ _ hp5), rfl, rfl⟩, _, rfl, ?_⟩
            rw [valV_kv]
            have := q' H6 (Ex.refl _)
            cases e : look kvs' near with
            | none => rw [e] at this; exact this
            | some v => rw [e] at this; exact this
        refine Evl.s_when et (fun hb H6 e6 => ?_) (fun hb H6 e6 => ?_)
        · have n1 : near ≠ goal := fun e => by rw [decide_eq_true e] at hb; cases hb
          have n2 : look kvs' near = none := by
            cases e : look kvs' near with
            | none => rfl
            | some v => rw [e] at hb; simp at hb
          have nk : ¬ Known goal kvs' near := fun z => z.elim n1 (look_none.mp n2)
          have hroom := DI5.room g hg nv nk
          have hp6 := e6 _ _ hp5
          have hq6 := e6 _ _ hq5
          have hz : (kvs'.map fun q => (keyN q.1, vI q.2)).length < sizeLine := by
            rw [List.length_map]
            exact szN (by omega)
          refine ⟨_, rfl, _, rfl, _, rfl, p, _, rfl, DPut.k (k := keyN near) hp6 hz, ?_⟩
          have hv : valV (kvs'.map fun q => (keyN q.1, vI q.2)) (keyN near) = none := by rw [valV_kv, n2]; rfl
          rw [putK_new _ hv]
          have ek : (kvs'.map fun q => (keyN q.1, vI q.2)) ++ [(keyN near, vI here)] = (kvs' ++ [(near, here)]).map fun q => (keyN q.1, vI q.2) := by rw [List.map_append]; rfl
          rw [ek]
          have hq7 : (upd H6 p (kvO (kvs' ++ [(near, here)]))) q = some (.lst (vIs wt2)) := by rw [upd_ne npq.symm]; exact hq6
          have hz2 : (vIs wt2).length < sizeLine := by
            rw [List.length_map]
            exact szN (by omega)
          refine ⟨_, rfl, .inl ⟨rfl, _, .inl (.inl hq7)⟩, _, rfl, q, _, _, rfl, rfl, hq7, hz2, ?_⟩
          refine ⟨kvs' ++ [(near, here)], wt2 ++ [near], _, rfl, Ex.mut (Ex.mut (e5.trans e6) hp) fq, ?_, ?_, DI5.add hnear nk, ?_⟩
          · rw [upd_ne npq, upd_same]
          · rw [upd_same]
            simp [vIs]
          · simp only [List.length_append, List.length_cons, List.length_nil] at hm5 ⊢
            omega
        · have kn : Known goal kvs' near := by
            by_cases e : near = goal
            · exact .inl e
            · refine .inr ?_
              rw [decide_eq_false e] at hb
              cases e2 : look kvs' near with
              | none => rw [e2] at hb; cases hb
              | some v =>
                obtain ⟨j, hj⟩ := look_ix e2
                exact List.mem_map.mpr ⟨_, List.mem_of_getElem? hj, rfl⟩
          exact ⟨kvs', wt2, _, rfl, e5.trans e6, e6 _ _ hp5, e6 _ _ hq5, DI5.skip hnear kn, hm5⟩
      · obtain ⟨kvs', wt2, y5', rfl, e5, hp5, hq5, DI5, hm5⟩ := h
        rw [List.length_map] at DI5
        exact ⟨kvs', wt2, _, _, rfl, e5, hp5, hq5, DI5.done, hm5⟩
    · -- nothing waits
      have : wt = [] := by cases wt with | nil => rfl | cons a b => cases hb
      subst this
      exact ⟨_, rfl, k p H2 kvs (e1.trans e2) hp D.ahead (e2 _ _ hp1)⟩
end
end K61
set_option Elab.async false
set_option linter.all false
set_option maxRecDepth 100000
set_option maxHeartbeats 4000000
namespace K61
open PySem PySem.Spec PyProof.Rows L2 TM Pr Ep
open Evl (Ex Ev EvT EvA EvL)
section
variable {P : Program} {w : World} {K : PySem.W.Frag} {mg : Str → Option Value} {base : Heap} {A : Adr}
theorem keys_x {m i : Nat} {rs : List Addr} {x : V} (hi : i < m) (h : ∃ k z, ((keysN m).zip (rs.map V.ref))[i]? = some (k, z) ∧ x = kV k) : x = vI i := by
  obtain ⟨k, z, e1, e2⟩ := h
  have := List.getElem?_zip_eq_some.mp e1
  rw [keysN_at hi] at this
  obtain ⟨e3, _⟩ := this
  cases e3
  exact e2
theorem src_rows {td : TE} {σ : L2.St} {H : Hp} {d : Addr} {od : Obj} {m : Nat} {rs : List Addr} (hrl : rs.length = m) (h : Ev td σ H (.ref d)) (hd : H d = some (.frz od (dkOf m rs))) : Src (iKeys td) σ H m (fun i v => ∃ k z, ((keysN m).zip (rs.map V.ref))[i]? = some (k, z) ∧ v = kV k) := by
  have src := src_keys (σ := σ) (H := H) (td := td) (d := d) (o := od) h hd
  have hkl : ((keysN m).zip (rs.map V.ref)).length = m := by rw [List.length_zip, keysN_length, List.length_map, hrl, Nat.min_self]
  rw [hkl] at src
  exact src
theorem ev_row {td tk : TE} {σ : L2.St} {H : Hp} {d r : Addr} {m i : Nat} {rs : List Addr} (h : Ev td σ H (.ref d)) (hk : Ev tk σ H (vI i)) (hd : Rd H d (dkOf m rs)) (hv : valV ((keysN m).zip (rs.map V.ref)) (keyN i) = some (.ref r)) : Ev (tDGet td tk) σ H (.ref r) := fun H1 e1 Q q =>
  h H1 e1 _ fun H2 e2 => hk H2 (e1.trans e2) _ fun H3 e3 => ⟨d, _, rfl, .inl ⟨_, keyN i, Evl.ex_rd ((e1.trans e2).trans e3) hd, rfl, hv.symm⟩, q H3 (e2.trans e3)⟩
theorem ok_yards_among (T : Txt K mg A) : FnOk P w K mg base CX0 1 A.yards_among A.yards_among_fd ["around"] spYards := by
  refine T.F_yards_among.ok sc_yards_among (fun vs H Q E h => ?_) (fun cdv A' outer s H vs Q E hr h => ?_)
  · obtain ⟨L, d, rfl, _⟩ := h
    rfl
  · obtain ⟨L, d, rfl, ⟨rs, hd, R⟩, hlen, k⟩ := h
    have hu := hu_of hr
    refine ⟨_, (pss_one (ps_ret (pe_lock (pe_lc (own := [("place", 1)]) rfl sc_yards_among.nd (pi_keys (pv 0)) (blkOk_by (N := n_yards_among) (sc := defScope s_yards_among) (by decide +kernel)) (fun _ _ _ _ _ => (pg_name (i := 1) sc_yards_among.nd rfl (Or.inl rfl))) (fun _ _ _ _ _ => (pts_one (pt_cmpR op_gt (show PE _ _ (tCB (rLenA K) _) from (pe_callB (id := "len") call_len (by rfl) T.n_len (by decide +kernel) (pa_cons (pe_dget hu (pv 0) (pv 1) (fun _ _ => rfl)) pa_nil))) pe_int (nomark _)))) (fun _ _ _ _ _ => (pv 1)))))), ?_⟩
    refine p_ret (P := NewL (vIs (yardsL L))) (evp_lock (d := d) (u := dkOf (L.length + 1) rs) hd trivial (P := fun v Ha Hb => ∃ p, v = .ref p ∧ Ha p = none ∧ p ≠ d ∧ Hb p = some (.lst (vIs (yardsL L)))) (fun Ha od ea => ?_) (fun v Ha Hb od ea eb h => ?_)) (fun v H1 e1 h => ?_)
    · have R3 := (R.ex ea).lock (ea _ _ hd) od
      refine (lcV (src_rows R.len (Evl.ev_var (v := .ref d) rfl) upd_same) (by omega) (fun i x => [some (.ref d), some x]) (fun _ _ => rfl) (fun _ _ _ _ _ _ _ q => q) (fun i => decide (1 < (adj L i).length)) (fun i => vI i) (fun i x H1 e1 hi hx => ?_) (fun i x H1 e1 hi hx _ => ?_)).imp (fun v H1 H2 e1 e2 h => ?_)
      · cases keys_x hi hx
        obtain ⟨r, hr1, hr2, vr⟩ := R3.get hi
        refine Evl.et_is (Evl.et_test (Evl.ev_op (ev_lenL (K := K) (ev_row (Evl.ev_var rfl) (Evl.ev_var rfl) (.inr ⟨od, e1 _ _ upd_same⟩) vr) (Evl.sq_of (e1 _ _ hr2))) Evl.ev_c rv_I0P)) ?_
        rw [List.length_map]
        by_cases c : 1 < (adj L i).length
        · rw [decide_eq_true c, decide_eq_true (by omega)]
        · rw [decide_eq_false c, decide_eq_false (by omega)]
      · cases keys_x hi hx
        exact Evl.ev_var rfl
      · obtain ⟨p, rfl, hp, k⟩ := h
        refine ⟨p, rfl, hp, fun z => ?_, k⟩
        rw [z, e1 _ _ upd_same] at hp
        cases hp
    · obtain ⟨p, rfl, hp, npd, k⟩ := h
      rw [upd_ne npd] at hp
      exact ⟨p, rfl, hp, by rw [upd_ne npd]; exact k⟩
    · obtain ⟨p, rfl, hp, k2⟩ := h
      exact k p H1 e1 hp k2
theorem ok_are_lanes (T : Txt K mg A) : FnOk P w K mg base CX0 3 A.are_lanes A.are_lanes_fd ["value"] spLanes := by
  refine T.F_are_lanes.ok sc_are_lanes (fun vs H Q E h => ?_) (fun cdv A' outer s H vs Q E hr h => ?_)
  · obtain ⟨L, a, vt, rfl, _⟩ := h
    rfl
  · obtain ⟨L, a, vt, rfl, hL, g, k⟩ := h
    have hu := hu_of hr
    refine ⟨_, (pss_cons (ps_if (PW.pt (pw_or (pt_not (pt_val (pe_call (ok_is_row T) (hr.mono (by decide)) (by rfl) T.m_is_row T.F_is_row.kp T.b_is_row .nil pass0 (pa_cons (pv 0) pa_nil)))) (pw_or1 (pt_not (pt_val (show PE _ _ (tCB (rAll K) _) from (pe_callB (id := "all") (cr_all rfl) (by rfl) T.n_all (by decide +kernel) (pa_cons (pe_lc (own := [("pair", 2)]) rfl sc_are_lanes.nd (show PI _ _ _ (iList K _) from pi_list (pv 0)) (blkOk_by (N := n_are_lanes) (sc := defScope s_are_lanes) (by decide +kernel)) (fun _ _ _ _ _ => (pg_name (i := 2) sc_are_lanes.nd rfl (Or.inl rfl))) (fun _ _ _ _ _ => pts_nil) (fun _ _ _ _ _ => (pe_call (ok_is_pair_up_to T) (hr.mono (by decide)) (by rfl) T.m_is_pair_up_to T.F_is_pair_up_to.kp T.b_is_pair_up_to .nil pass0 (pa_cons (pv 2) (pa_cons (show PE _ _ (tCB (rLenA K) _) from (pe_callB (id := "len") call_len (by rfl) T.n_len (by decide +kernel) (pa_cons (pv 0) pa_nil))) pa_nil))))) pa_nil)))))))) (pss_one (ps_ret pe_bl)) pss_nil) (pss_cons (ps_set (i := 1) sc_are_lanes.nd rfl (Or.inr rfl) (pe_call (ok_neighbours_by_place T) (hr.mono (by decide)) (by rfl) T.m_neighbours_by_place T.F_neighbours_by_place.kp T.b_neighbours_by_place .nil pass0 (pa_cons (pv 0) pa_nil))) (pss_cons (ps_if (pt_cmpR op_lt (show PE _ _ (tCB rLenD _) from pe_callB (id := "len") call_lenD (by rfl) T.n_len (by decide +kernel) (pa_cons (pe_call (ok_places_ahead T) (hr.mono (by decide)) (by rfl) T.m_places_ahead T.F_places_ahead.kp T.b_places_ahead .nil pass0 (pa_cons (pv 1) (pa_cons pe_int pa_nil))) pa_nil)) (show PE _ _ (tCB (rLenA K) _) from (pe_callB (id := "len") call_len (by rfl) T.n_len (by decide +kernel) (pa_cons (pv 0) pa_nil))) (nomark _)) (pss_one (ps_ret pe_bl)) pss_nil) (pss_cons (ps_if (pt_cmpR op_gt (show PE _ _ (tCB (rMax K) _) from (pe_callB (id := "max") (cr_max rfl) (by rfl) T.n_max (by decide +kernel) (pa_cons (pe_lock (pe_lc (own := [("place", 3)]) rfl sc_are_lanes.nd (pi_keys (pv 1)) (blkOk_by (N := n_are_lanes) (sc := defScope s_are_lanes) (by decide +kernel)) (fun _ _ _ _ _ => (pg_name (i := 3) sc_are_lanes.nd rfl (Or.inl rfl))) (fun _ _ _ _ _ => pts_nil) (fun _ _ _ _ _ => (show PE _ _ (tCB (rLenA K) _) from (pe_callB (id := "len") call_len (by rfl) T.n_len (by decide +kernel) (pa_cons (pe_dget hu (pv 1) (pv 3) (fun _ _ => rfl)) pa_nil)))))) pa_nil))) (pe_globI rfl T.g_MOST_LANES_AT_A_PLACE) (nomark _)) (pss_one (ps_ret pe_bl)) pss_nil) (pss_one (ps_ret (pe_chain op_le op_le pe_int (show PE _ _ (tCB (rLenA K) _) from (pe_callB (id := "len") call_len (by rfl) T.n_len (by decide +kernel) (pa_cons (pe_call (ok_yards_among T) (hr.mono (by decide)) (by rfl) T.m_yards_among T.F_yards_among.kp T.b_yards_among .nil pass0 (pa_cons (pv 1) pa_nil)) pa_nil))) (pe_globI rfl T.g_MOST_YARDS)))))))), ?_⟩
    obtain ⟨ls, ha, hp⟩ := id hL
    have hll : ls.length = L.length := PySem.Paired.length hp
    have hsm := g.small
    have hlen : ∀ {σ : L2.St} {H1 : Hp} (i : Nat), σ[i]? = some (some (.ref a)) → Ex H H1 → Ev (tCB (rLenA K) (tCons (tVar i) tNil)) σ H1 (vI L.length) := fun {σ H1} i hv e => by
      have := ev_lenL (K := K) (σ := σ) (H := H1) (Evl.ev_var hv) (Evl.sq_of (e _ _ ha))
      rw [hll] at this
      exact this
    -- all pairs
    refine p_skip (Evl.et_is (Evl.et_or (a := false) (b := false) (Evl.et_is (Evl.et_not (a := true) (evt_P (evp_callA (vs := [.ref a]) (Evl.ea_cons (Evl.ev_var rfl) Evl.ea_nil) (fun H2 e2 Q q => ⟨a, ls, rfl, .inl (e2 _ _ ha), fun H3 e3 => q _ H3 e3 rfl⟩) (fun _ _ _ _ _ _ _ h => h)))) rfl) (fun _ => Evl.et_is (Evl.et_not (a := true) (evt_P (evp_cb1 (lcV (src_list (K := K) (a := a) (xs := ls) (Evl.ev_var rfl) (Evl.sq_of ha)) (by omega) (fun i x => [some (.ref a), none, some x, none]) (fun _ _ => rfl) (fun _ _ _ _ _ _ _ q => q) (fun _ => true) (fun _ => .bl true) (fun _ _ _ _ _ _ => fun H1 e Q q => q H1 (Ex.refl _)) (fun i x H1 e1 hi hx _ => ?_)) (fun v H1 H2 e1 e2 h Q q => ?_)))) rfl)) rfl) fun H1 e1 => ?_
    · obtain ⟨p, hpi, t, rfl, ht⟩ := paired_ix hp hx
      obtain ⟨b1, b2⟩ := g.bound p (List.mem_of_getElem? hpi)
      refine ev_evp (evp_callA (vs := [.ref t, vI L.length]) (Evl.ea_cons (Evl.ev_var rfl) (Evl.ea_cons (hlen 0 rfl e1) Evl.ea_nil)) (fun H2 e2 Q q => ⟨t, p, L.length, rfl, (e1.trans e2) _ _ ht, fun H3 e3 => q _ H3 e3 ?_⟩) (fun _ _ _ _ _ _ _ h => h))
      show V.bl _ = V.bl true
      rw [decide_eq_true b1, decide_eq_true b2]
      rfl
    · obtain ⟨D, rfl, hD0, hD⟩ := h
      refine ⟨D, ((List.range ls.length).filter fun _ => true).map fun _ => true, rfl, Evl.sq_of (by rw [hD, List.map_map]; rfl), q _ _ (Ex.refl _) ?_⟩
      show V.bl _ = V.bl true
      congr 1
      rw [List.all_eq_true]
      intro x hx
      obtain ⟨_, _, e⟩ := List.mem_map.mp hx
      rw [← e]
      rfl
    -- around = ..
    refine p_asg (evp_callA (vs := [.ref a]) (P := fun v Ha Hb => ∃ p, v = .ref p ∧ Ha p = none ∧ AroundAt Hb p (L.length + 1) (adj L)) (Evl.ea_cons (Evl.ev_var rfl) Evl.ea_nil) (fun H2 e2 Q q => ⟨a, L, rfl, hL.ex (e1.trans e2), g.bound, hsm, fun p H3 e3 hp hA => q _ H3 e3 ⟨p, rfl, hp, hA⟩⟩) (fun v H1 H2 H3 _ e2 _ h => by
      obtain ⟨p, r, hp, hA⟩ := h
      exact ⟨p, r, Evl.fresh_back e2 hp, hA⟩)) fun v H2 e2 h => ?_
    obtain ⟨d, rfl, hd0, hA⟩ := h
    -- as many places ahead as lanes
    have e12 := e1.trans e2
    refine p_skip (Evl.et_is (Evl.et_test (Evl.ev_op (x := vI L.length) (y := vI L.length) (ev_evp (evp_cb1 (evp_callA (vs := [.ref d, vI 0]) (P := fun v _ Hb => ∃ p kvs, v = .ref p ∧ Ahead L 0 kvs ∧ Hb p = some (kvO kvs)) (Evl.ea_cons (Evl.ev_var rfl) (Evl.ea_cons Evl.ev_c Evl.ea_nil)) (fun H3 e3 Q q => ⟨L, d, 0, vt, rfl, g.tr, (hA.ex e3).r, g.zero, fun v hv => (g.vs_ v).mp hv, hsm, fun p H4 kvs e4 _ hk hp => q _ H4 e4 ⟨p, kvs, rfl, hk, hp⟩⟩) (fun _ _ _ _ _ _ _ h => h)) (fun v H1 H2 _ _ h Q q => ?_))) (hlen 0 rfl e12) rv_I0P)) ?_) fun H3 e3 => ?_
    · obtain ⟨p, kvs, rfl, hk, hp⟩ := h
      refine ⟨p, _, rfl, hp, q _ _ (Ex.refl _) ?_⟩
      rw [List.length_map, hk.count g.tr g.zero]
      rfl
    · exact decide_eq_false (by omega)
    -- at most four lanes at each
    have hA3 := hA.ex e3
    obtain ⟨rs, hd, R⟩ := id hA3
    refine p_skip (evt_leC (evp_cb1 (evp_lock (d := d) (u := dkOf (L.length + 1) rs) hd trivial (P := fun v Ha Hb => ∃ p, v = .ref p ∧ p ≠ d ∧ Hb p = some (.lst (((List.range (L.length + 1)).filter fun _ => true).map fun i => .int ((adj L i).length : Int))))
      (P' := fun v _ Hb => ∃ p, v = .ref p ∧ Hb p = some (.lst (((List.range (L.length + 1)).filter fun _ => true).map fun i => .int ((adj L i).length : Int)))) (fun Ha od ea => ?_) (fun v Ha Hb od ea eb h => ?_)) (fun v H1 H2 _ _ h Q q => ?_))) fun H4 e4 => ?_
    · have R3 := (R.ex ea).lock (ea _ _ hd) od
      refine (lcV (src_rows R.len (Evl.ev_var (v := .ref d) rfl) upd_same) (by omega) (fun i x => [some (.ref a), some (.ref d), none, some x]) (fun _ _ => rfl) (fun _ _ _ _ _ _ _ q => q) (fun _ => true) (fun i => .int ((adj L i).length : Int)) (fun _ _ _ _ _ _ => fun H1 e Q q => q H1 (Ex.refl _)) (fun i x H1 e1 hi hx _ => ?_)).imp (fun v H1 H2 e1 e2 h => ?_)
      · cases keys_x hi hx
        obtain ⟨r, hr1, hr2, vr⟩ := R3.get hi
        have := ev_lenL (K := K) (ev_row (td := tVar 1) (tk := tVar 3) (σ := [some (.ref a), some (.ref d), none, some (vI i)]) (H := H1) (Evl.ev_var rfl) (Evl.ev_var rfl) (.inr ⟨od, e1 _ _ upd_same⟩) vr) (Evl.sq_of (e1 _ _ hr2))
        rw [List.length_map] at this
        exact this
      · obtain ⟨p, rfl, hp, k⟩ := h
        refine ⟨p, rfl, fun z => ?_, k⟩
        rw [z, e1 _ _ upd_same] at hp
        cases hp
    · obtain ⟨p, rfl, npd, k⟩ := h
      exact ⟨p, rfl, by rw [upd_ne npd]; exact k⟩
    · obtain ⟨p, rfl, hp⟩ := h
      refine ⟨p, ((List.range (L.length + 1)).filter fun _ => true).map fun i => ((adj L i).length : Int), rfl, Evl.sq_of (by rw [hp, List.map_map]; rfl), ?_, fun m hm _ => q _ _ (Ex.refl _) ⟨m, rfl, ?_⟩⟩
      · have : ((List.range (L.length + 1)).filter fun _ => true) = List.range (L.length + 1) := List.filter_eq_self.mpr fun _ _ => rfl
        rw [List.length_map, this, List.length_range]
        omega
      · obtain ⟨i, _, e⟩ := List.mem_map.mp hm
        have := g.deg i
        omega
    -- 1 <= len(yards_among(around)) <= 7
    have hA4 := hA3.ex e4
    have hy : Ev (tCB (rLenA K) (tCons (tCall spYards [] E0 (tCons (tVar 1) tNil)) tNil)) [some (.ref a), some (.ref d), none, none] H4 (vI (yardsL L).length) := by
      have := ev_lenP (K := K) (xs := vIs (yardsL L)) (evp_callA (σ := [some (.ref a), some (.ref d), none, none]) (H := H4) (sp := spYards) (E := E0) (dvs := []) (vs := [.ref d]) (ta := tCons (tVar 1) tNil) (P := fun v _ Hb => ∃ p, v = .ref p ∧ Hb p = some (.lst (vIs (yardsL L)))) (Evl.ea_cons (Evl.ev_var rfl) Evl.ea_nil) (fun H2 e2 Q q => ⟨L, d, rfl, hA4.ex e2, hsm, fun p H3 e3 _ hp => q _ H3 e3 ⟨p, rfl, hp⟩⟩) (fun _ _ _ _ _ _ _ h => h))
      rw [List.length_map] at this
      exact this
    refine hy H4 (Ex.refl _) _ fun H5 e5 => ?_
    have h1 := g.least
    have h2 := g.most
    refine ⟨1, _, rfl, rfl, true, ?_, iteT ?_⟩
    · show V.bl (decide _) = _
      rw [decide_eq_true (by omega)]
    · refine ⟨_, 7, rfl, rfl, ?_⟩
      have z := k H5 ((e12.trans e3).trans (e4.trans e5))
      show Q (V.bl (decide _)) H5
      rw [decide_eq_true (by omega)]
      exact z
end
end K61
set_option Elab.async false
set_option linter.all false
set_option maxRecDepth 100000
set_option maxHeartbeats 4000000
namespace Pr
open PySem PySem.Spec PyProof.Rows L2 TM
open Evl (Ex)
def pairOf (H : Hp) : V → Int × Int
  | .ref t => match H t with
    | some (.tup [.int a, .int b]) => (a, b)
    | _ => (0, 0)
  | _ => (0, 0)
theorem pairOf_at {H : Hp} {v : V} {q : Nat × Nat} (h : PairAt H v q) : pairOf H v = ((q.1 : Int), (q.2 : Int)) := by
  obtain ⟨t, rfl, e⟩ := h
  unfold pairOf
  simp only [e]
theorem paired_map {α β : Type} {R : α → β → Prop} {f : α → β} : ∀ {xs : List α}, (∀ x ∈ xs, R x (f x)) → Paired R xs (xs.map f)
  | [], _ => .nil
  | x :: xs, h => .cons (h x List.mem_cons_self) (paired_map fun y hy => h y (List.mem_cons_of_mem _ hy))
theorem map_paired {α β : Type} {R : α → β → Prop} {f : α → β} (k : ∀ x y, R x y → f x = y) : ∀ {xs : List α} {ys : List β}, Paired R xs ys → xs.map f = ys
  | _, _, .nil => rfl
  | _, _, .cons h t => by rw [List.map_cons, k _ _ h, map_paired k t]
theorem paired_mem {α β : Type} {R : α → β → Prop} : ∀ {xs : List α} {ys : List β} {x : α}, Paired R xs ys → x ∈ xs → ∃ y, R x y
  | _, _, x, .nil, h => nomatch h
  | _, _, x, .cons (a := a) r t, h => by
    rcases List.mem_cons.mp h with e | h
    · exact ⟨_, e ▸ r⟩
    · exact paired_mem t h
end Pr
namespace K61
open PySem PySem.Spec PyProof.Rows L2 TM Pr Ep
open Evl (Ex Ev EvT EvA EvL)
section
variable {P : Program} {w : World} {K : PySem.W.Frag} {mg : Str → Option Value} {base : Heap} {A : Adr}
theorem ok_Country_init (T : Txt K mg A) : FnOk P w K mg base CX0 4 A.Country_init A.Country_init_fd ["self", "lanes"] (spInit A.Country) := by
  refine T.F_Country_init.ok sc_Country_init (fun vs H Q E h => ?_) (fun cdv A' outer s H vs Q E hr h => ?_)
  · obtain ⟨L, p, dx, a, vt, rfl, _⟩ := h
    rfl
  · obtain ⟨L, p, dx, a, vt, rfl, ho, hL, g, k⟩ := h
    have hu := hu_of hr
    refine ⟨_, (pss_cons (ps_if (pt_not (pt_val (pe_call (ok_are_lanes T) (hr.mono (by decide)) (by rfl) T.m_are_lanes T.F_are_lanes.kp T.b_are_lanes .nil pass0 (pa_cons (pv 1) pa_nil)))) (pss_one ps_never) pss_nil) (pss_cons (ps_fld (pv 0) (show PE _ _ (tCB (rSortedPO K) _) from (pe_callB (id := "sorted") cr_sortedPO (by rfl) T.n_sorted (by decide +kernel) (pa_cons (pe_lc (own := [("pair", 2)]) rfl sc_Country_init.nd (show PI _ _ _ (iList K _) from pi_list (pv 1)) (blkOk_by (N := n_Country_init) (sc := defScope s_Country_init) (by decide +kernel)) (fun _ _ _ _ _ => (pg_name (i := 2) sc_Country_init.nd rfl (Or.inl rfl))) (fun _ _ _ _ _ => pts_nil) (fun _ _ _ _ _ => (pe_tup (pa_cons (pe_callB (id := "min") (call_min2 rfl) (by rfl) T.n_min (by decide +kernel) (pa_cons (show PE _ _ (tOp (rIxT K) _ _) from pe_ix ix_tup (pv 2) pe_int (fun _ _ => rfl)) (pa_cons (show PE _ _ (tOp (rIxT K) _ _) from pe_ix ix_tup (pv 2) pe_int (fun _ _ => rfl)) pa_nil))) (pa_cons (pe_callB (id := "max") (call_max2 rfl) (by rfl) T.n_max (by decide +kernel) (pa_cons (show PE _ _ (tOp (rIxT K) _ _) from pe_ix ix_tup (pv 2) pe_int (fun _ _ => rfl)) (pa_cons (show PE _ _ (tOp (rIxT K) _ _) from pe_ix ix_tup (pv 2) pe_int (fun _ _ => rfl)) pa_nil))) pa_nil))))) pa_nil))) rfl) (pss_cons (ps_fld (pv 0) (pe_call (ok_neighbours_by_place T) (hr.mono (by decide)) (by rfl) T.m_neighbours_by_place T.F_neighbours_by_place.kp T.b_neighbours_by_place .nil pass0 (pa_cons (show PE _ _ (tFld K _ _) from pe_fld (pv 0) rfl) pa_nil)) rfl) (pss_cons (ps_fld (pv 0) (pe_lock (pe_dc (own := [("goal", 3)]) rfl sc_Country_init.nd (pi_keys (show PE _ _ (tFld K _ _) from pe_fld (pv 0) rfl)) (blkOk_by (N := n_Country_init) (sc := defScope s_Country_init) (by decide +kernel)) (fun _ _ _ _ _ => (pg_name (i := 3) sc_Country_init.nd rfl (Or.inl rfl))) (fun _ _ _ _ _ => pts_nil) (fun _ _ _ _ _ => (pv 3)) (fun _ _ _ _ _ => (pe_call (ok_places_ahead T) (hr.mono (by decide)) (by rfl) T.m_places_ahead T.F_places_ahead.kp T.b_places_ahead .nil pass0 (pa_cons (show PE _ _ (tFld K _ _) from pe_fld (pv 0) rfl) (pa_cons (pv 3) pa_nil)))))) rfl) (pss_cons (ps_fld (pv 0) (pe_call (ok_yards_among T) (hr.mono (by decide)) (by rfl) T.m_yards_among T.F_yards_among.kp T.b_yards_among .nil pass0 (pa_cons (show PE _ _ (tFld K _ _) from pe_fld (pv 0) rfl) pa_nil)) rfl) (pss_one (ps_fld (pv 0) (pe_lock (pe_lc (own := [("place", 4)]) rfl sc_Country_init.nd (pi_keys (show PE _ _ (tFld K _ _) from pe_fld (pv 0) rfl)) (blkOk_by (N := n_Country_init) (sc := defScope s_Country_init) (by decide +kernel)) (fun _ _ _ _ _ => (pg_name (i := 4) sc_Country_init.nd rfl (Or.inl rfl))) (fun _ _ _ _ _ => (pts_one (pt_cmpR op_eq (show PE _ _ (tCB (rLenA K) _) from (pe_callB (id := "len") call_len (by rfl) T.n_len (by decide +kernel) (pa_cons (pe_dget hu (show PE _ _ (tFld K _ _) from pe_fld (pv 0) rfl) (pv 4) (fun _ _ => rfl)) pa_nil))) pe_int (nomark _)))) (fun _ _ _ _ _ => (pv 4)))) rfl))))))), ?_⟩
    have hsm := g.small
    have hn : ∀ {b : Addr} {o : HO}, H b = some o → (∀ C dx fs, o ≠ .ins C dx fs) → but H p b = some o := fun {b o} h n => but_ne h (ne_of h ho (n _ _ _))
    have hL0 : LanesAt (but H p) a L := by
      obtain ⟨ls, ha, hp⟩ := hL
      refine ⟨ls, hn ha (fun _ _ _ z => nomatch z), paired_imp (fun v q ⟨t, r, e⟩ => ⟨t, r, hn e (fun _ _ _ z => nomatch z)⟩) hp⟩
    have fp : but H p p = none := but_at
    have hx0 : ∀ b o, H b = some o → b ≠ p → but H p b = some o := fun b o h n => but_ne h n
    have x0 : Ex (but H p) H := but_ex
    generalize but H p = H0 at hL0 fp x0 hn hx0
    obtain ⟨ls, ha0, hp0⟩ := id hL0
    have hll : ls.length = L.length := PySem.Paired.length hp0
    -- if not are_lanes(lanes)
    refine p_skip (Evl.et_is (Evl.et_not (a := true) (evt_P (evp_callA (vs := [.ref a]) (Evl.ea_cons (Evl.ev_var rfl) Evl.ea_nil) (fun H2 e2 Q q => ⟨L, a, vt, rfl, hL.ex e2, g, fun H3 e3 => q _ H3 e3 rfl⟩) (fun _ _ _ _ _ _ _ h => h)))) rfl) fun H1 e1 => ?_
    have x1 := x0.trans e1
    have ho1 := e1 _ _ ho
    -- self._lanes
    refine p_fld (i := 0) (p := p) (P := fun v _ Hb => ∃ l M, v = .ref l ∧ LanesAt Hb l M ∧ M.Perm (norm L) ∧ LexS M) (evp_cb1 (P := fun v Ha Hb => ∃ D ys, v = .ref D ∧ Hb D = some (.lst ys) ∧ Paired (PairAt Hb) ys (norm L)) ?_ (fun v Ha Hb _ _ h Q q => ?_)) rfl ho1 T.cl_Country T.na_Country_lanes (by decide) fun v H2 e2 h => ?_
    · refine (lcI (src_list (K := K) (a := a) (xs := ls) (Evl.ev_var rfl) (Evl.sq_of (x1 _ _ ha0))) (by omega) (fun i x => [some (.ref p), some (.ref a), some x, none, none]) (fun _ _ => rfl)
        (fun D i ys H' => Paired (fun v q => ∃ t, t ≠ D ∧ v = .ref t ∧ H' t = some (.tup [vI q.1, vI q.2])) ys (norm (L.take i))) (fun _ _ _ _ _ _ _ q => q) (fun _ => true) (fun _ _ _ _ _ _ => fun H1 e Q q => q H1 (Ex.refl _))
        (fun i v Ha Hb => ∃ q t, L[i]? = some q ∧ v = .ref t ∧ Ha t = none ∧ Hb t = some (.tup [vI (norm1 q).1, vI (norm1 q).2])) (fun i x Ha ea hi hx _ => ?_) (fun D Ha _ _ => .nil) (fun D i ys Ha Hb e h => ?_) (fun D i ys Ha xs _ h => ?_) (fun D i ys v Ha Hb _ eab hD hi _ h hq xs => ?_) (fun _ _ _ _ _ _ h => nomatch h)).imp (fun v Ha Hb _ _ h => ?_)
      · obtain ⟨q, hq, t, rfl, ht⟩ := paired_ix hp0 hx
        have ht1 := ea _ _ (x1 _ _ ht)
        have i0 : ∀ {σ : L2.St} {H5 : Hp}, σ[2]? = some (some (.ref t)) → Ex Ha H5 → Ev (tOp (rIxT K) (tVar 2) (tC (.int 0))) σ H5 (vI q.1) := fun hs e => Evl.ev_op (Evl.ev_var hs) Evl.ev_c (Evl.rv_ixT (Evl.st_of (e _ _ ht1)) (at_of (j := 0) rfl rfl))
        have i1 : ∀ {σ : L2.St} {H5 : Hp}, σ[2]? = some (some (.ref t)) → Ex Ha H5 → Ev (tOp (rIxT K) (tVar 2) (tC (.int 1))) σ H5 (vI q.2) := fun hs e => Evl.ev_op (Evl.ev_var hs) Evl.ev_c (Evl.rv_ixT (Evl.st_of (e _ _ ht1)) (at_of (j := 1) rfl rfl))
        refine (evp_tup (vs := [vI (norm1 q).1, vI (norm1 q).2]) (Evl.ea_cons (ev_cb2 (i0 rfl (Ex.refl _)) (i1 rfl (Ex.refl _)) fun H7 e7 Q z => ⟨_, _, rfl, ?_⟩) (Evl.ea_cons (ev_cb2 (i0 rfl (Ex.refl _)) (i1 rfl (Ex.refl _)) fun H7 e7 Q z => ⟨_, _, rfl, ?_⟩) Evl.ea_nil)) (by show 2 ≤ 100000; decide)).imp fun v Hc Hd _ _ h => ?_
        · obtain ⟨t2, r, h1, h2⟩ := h
          exact ⟨q, t2, hq, r, h1, h2⟩
        · have e : (if (q.2 : Int) < (q.1 : Int) then (q.2 : Int) else (q.1 : Int)) = ((norm1 q).1 : Int) := by
            unfold norm1
            split <;> simp only [Nat.min_def] <;> split <;> omega
          rw [e]
          exact z
        · have e : (if (q.2 : Int) > (q.1 : Int) then (q.2 : Int) else (q.1 : Int)) = ((norm1 q).2 : Int) := by
            unfold norm1
            split <;> simp only [Nat.max_def] <;> split <;> omega
          rw [e]
          exact z
      · exact paired_imp (fun v q ⟨t, n, r, h⟩ => ⟨t, n, r, e _ _ h⟩) h
      · exact paired_imp (fun v q ⟨t, n, r, h⟩ => ⟨t, n, r, by rw [upd_ne n]; exact h⟩) h
      · obtain ⟨q, t, hq1, rfl, ht1, ht2⟩ := hq
        have nt : t ≠ D := fun z => by rw [z, hD] at ht1; cases ht1
        have e : norm (L.take (i + 1)) = norm (L.take i) ++ [norm1 q] := by
          rw [take_more hq1]
          unfold norm
          rw [List.map_append]
          rfl
        rw [e]
        exact Paired.snoc (paired_imp (fun v q ⟨t', n, r, h⟩ => ⟨t', n, r, by rw [upd_ne n]; exact eab _ _ h⟩) h) ⟨t, nt, rfl, by rw [upd_ne nt]; exact ht2⟩
      · obtain ⟨D, ys, rfl, _, hD, _, h⟩ := h
        rw [hll, List.take_length] at h
        exact ⟨D, ys, rfl, hD, paired_imp (fun v q ⟨t, _, r, h⟩ => ⟨t, r, h⟩) h⟩
    · obtain ⟨D, ys, rfl, hD, hp⟩ := h
      refine ⟨D, ys, pairOf Hb, rfl, Evl.sq_of hD, fun x hx => ?_, fun zs l sd st hl => ?_⟩
      · obtain ⟨q, hq⟩ := paired_mem hp hx
        have e := pairOf_at hq
        obtain ⟨t, r, h⟩ := hq
        exact ⟨t, r, by rw [e]; exact h⟩
      · let f : V → Nat × Nat := fun v => ((pairOf Hb v).1.toNat, (pairOf Hb v).2.toNat)
        have f_at : ∀ v q, PairAt Hb v q → f v = q := fun v q h => by
          show ((pairOf Hb v).1.toNat, (pairOf Hb v).2.toNat) = q
          rw [pairOf_at h]
          simp
        have em : ys.map f = norm L := map_paired f_at hp
        refine q _ _ (Ex.new hl) ⟨l, zs.map f, rfl, ⟨zs, upd_same, paired_map fun x hx => ?_⟩, ?_⟩
        · obtain ⟨q', hq'⟩ := paired_mem hp (st.perm.mem_iff.mp hx)
          rw [f_at x q' hq']
          exact hq'.ex (Ex.new hl)
        · refine ⟨by rw [← em]; exact st.perm.map f, ?_⟩
          have h2 : ∀ x ∈ zs, ∃ q, PairAt Hb x q := fun x hx => (paired_mem hp (st.perm.mem_iff.mp hx))
          have h3 := List.Pairwise.and_mem.mp sd
          refine List.pairwise_map.mpr (h3.imp fun {x y} ⟨hx, hy, z⟩ => ?_)
          obtain ⟨p1, k1⟩ := h2 x hx
          obtain ⟨p2, k2⟩ := h2 y hy
          rw [f_at x p1 k1, f_at y p2 k2]
          have z' := SrtO.lexB_no.mp z
          rw [pairOf_at k1, pairOf_at k2] at z'
          unfold lexLe
          simp only at z'
          omega
    obtain ⟨l, M, rfl, hM, pM, sM⟩ := h
    have x2 := x1.trans e2
    have ho2 := e2 _ _ ho1
    rw [pf1]
    have nM : ∀ i, (nb M i).Perm (nb L i) := fun i => (nb_perm pM i).trans (nb_norm L i)
    have lM : M.length = L.length := by rw [pM.length_eq]; unfold norm; rw [List.length_map]
    have gM := g.same nM lM
    have y2 : Ki H2 (upd H2 p (.ins A.Country dx (g1 (.ref l)))) := .put ho2
    have x3 : Ex H0 (upd H2 p (.ins A.Country dx (g1 (.ref l)))) := Ex.mut x2 fp
    have ho3 : (upd H2 p (.ins A.Country dx (g1 (.ref l)))) p = some (.ins A.Country dx (g1 (.ref l))) := upd_same
    generalize upd H2 p (.ins A.Country dx (g1 (.ref l))) = H3 at y2 x3 ho3
    have hM3 := hM.ki y2
    -- self._around
    refine p_fld (i := 0) (p := p) (P := fun v Ha Hb => ∃ d, v = .ref d ∧ AroundAt Hb d (L.length + 1) (adj L)) (evp_callA (vs := [.ref l]) (Evl.ea_cons (ev_fld (v := .ref l) rfl ho3 T.cl_Country T.na_Country_lanes (by rfl)) Evl.ea_nil) (fun H4 e4 Q q => ⟨l, M, rfl, hM3.ex e4, gM.bound, gM.small, fun d H5 e5 _ hA => q _ H5 e5 ⟨d, rfl, by rw [lM, adj_of nM] at hA; exact hA⟩⟩) (fun _ _ _ _ _ _ _ h => h)) rfl ho3 T.cl_Country T.na_Country_around (by show 1 < 1000; decide) fun v H4 e4 h => ?_
    obtain ⟨d, rfl, rs, hd, R⟩ := h
    have ho4 := e4 _ _ ho3
    rw [pf2]
    have y4 : Ki H4 (upd H4 p (.ins A.Country dx (g2 (.ref l) (.ref d)))) := .put ho4
    have x5 : Ex H0 (upd H4 p (.ins A.Country dx (g2 (.ref l) (.ref d)))) := Ex.mut (x3.trans e4) fp
    have ho5 : (upd H4 p (.ins A.Country dx (g2 (.ref l) (.ref d)))) p = some (.ins A.Country dx (g2 (.ref l) (.ref d))) := upd_same
    generalize upd H4 p (.ins A.Country dx (g2 (.ref l) (.ref d))) = H5 at y4 x5 ho5
    have hM5 := (hM3.ex e4).ki y4
    have hd5 := y4 _ _ hd dkOf_ni
    have R5 := R.ki y4
    have npd : p ≠ d := ne_of ho5 hd5 (fun z => nomatch z)
    -- self._ahead
    refine p_fld (i := 0) (p := p) (P := fun v Ha Hb => ∃ e qs, v = .ref e ∧ Hb e = some (dkOf (L.length + 1) qs) ∧ qs.length = L.length + 1 ∧ ∀ (i : Nat) (q : Addr), qs[i]? = some q → ∃ kvs, Ahead L i kvs ∧ Hb q = some (kvO kvs)) (evp_lock (d := d) (u := dkOf (L.length + 1) rs) hd5 trivial (P := fun v Ha Hb => ∃ e qs, v = .ref e ∧ e ≠ d ∧ Hb e = some (dkOf (L.length + 1) qs) ∧ qs.length = L.length + 1 ∧ ∀ (i : Nat) (q : Addr), qs[i]? = some q → q ≠ d ∧ ∃ kvs, Ahead L i kvs ∧ Hb q = some (kvO kvs)) (fun Ha od ea => ?_) (fun v Ha Hb od ea eb h => ?_)) rfl ho5 T.cl_Country T.na_Country_ahead (by show 2 < 1000; decide) fun v H6 e6 h => ?_
    · have R6 := (R5.ex ea).lock (ea _ _ hd5) od
      have hoA : (upd Ha d (.frz od (dkOf (L.length + 1) rs))) p = some (.ins A.Country dx (g2 (.ref l) (.ref d))) := by rw [upd_ne npd]; exact ea _ _ ho5
      refine (dcI (src_rows R5.len (ev_fld (v := .ref d) rfl hoA T.cl_Country T.na_Country_around (by rfl)) upd_same) (by omega) (fun i x => [some (.ref p), some (.ref a), none, some x, none]) (fun _ _ => rfl)
        (fun D i ys H' => D ≠ d ∧ ∃ qs : List Addr, ys = qs.map V.ref ∧ qs.length = i ∧ ∀ (j : Nat) (q : Addr), qs[j]? = some q → q ≠ D ∧ q ≠ d ∧ ∃ kvs, Ahead L j kvs ∧ H' q = some (kvO kvs)) (fun _ _ _ _ _ _ _ q => q) keyN (fun i j h1 h2 e => ?_) (fun i x H1 _ hi hx => ?_) (fun i v Ha Hb => ∃ q kvs, v = .ref q ∧ Ha q = none ∧ Ahead L i kvs ∧ Hb q = some (kvO kvs)) (fun i x H1 e4 hi hx => ?_) (fun D H1 e4 hD => ?_) (fun D i ys Ha Hb e h => ?_) (fun D i ys v Ha' Hb' kvs e4 e5 hD hi h p xs => ?_)).imp ?_
      · injection e with e
        omega
      · cases keys_x hi hx
        exact Evl.ev_var rfl
      · cases keys_x hi hx
        refine evp_callA (vs := [.ref d, vI i]) (Evl.ea_cons (ev_fld (v := .ref d) rfl (e4 _ _ hoA) T.cl_Country T.na_Country_around (by rfl)) (Evl.ea_cons (Evl.ev_var rfl) Evl.ea_nil)) (fun H2 e2 Q q => ⟨L, d, i, vt, rfl, g.tr, ⟨rs, .inr ⟨od, e2 _ _ (e4 _ _ upd_same)⟩, (R6.ex e4).ex e2⟩, (g.vs_ i).mpr hi, fun v hv => (g.vs_ v).mp hv, hsm, fun p H3 kvs e3 hp hk hq => q _ H3 e3 ⟨p, kvs, rfl, hp, hk, hq⟩⟩) (fun v Hx Hy Hz _ eb _ h => ?_)
        obtain ⟨q, kvs, h1, h2, h3, h4⟩ := h
        exact ⟨q, kvs, h1, Evl.fresh_back eb h2, h3, h4⟩
      · refine ⟨fun z => ?_, [], rfl, rfl, (fun j r hr => by simp at hr)⟩
        subst z
        rw [e4 _ _ upd_same] at hD
        cases hD
      · obtain ⟨h0, qs, h1, h2, h3⟩ := h
        refine ⟨h0, qs, h1, h2, fun j r hr => ?_⟩
        obtain ⟨b1, b2, kvs, b3, b4⟩ := h3 j r hr
        exact ⟨b1, b2, kvs, b3, e _ _ b4⟩
      · obtain ⟨h0, qs, h1, h2, h3⟩ := h
        obtain ⟨q, kvs', rfl, hq, hk, hq2⟩ := p
        have qD : q ≠ D := fun z => by rw [z, hD] at hq; cases hq
        have qd : q ≠ d := fun z => by rw [z, e4 _ _ upd_same] at hq; cases hq
        refine ⟨h0, qs ++ [q], by rw [h1, List.map_append]; rfl, by simp [h2], fun j r hr => ?_⟩
        by_cases hj : j < qs.length
        · rw [List.getElem?_append_left hj] at hr
          obtain ⟨b1, b2, kvs, b3, b4⟩ := h3 j r hr
          exact ⟨b1, b2, kvs, b3, by rw [upd_ne b1]; exact e5 _ _ b4⟩
        · rw [List.getElem?_append_right (by omega)] at hr
          have e0 : j - qs.length = 0 := by
            have := (List.getElem?_eq_some_iff.mp hr).1
            simp at this
            omega
          rw [e0] at hr
          have : q = r := Option.some.inj hr
          subst this
          have ej : j = i := by omega
          subst ej
          exact ⟨qD, qd, kvs', hk, by rw [upd_ne qD]; exact hq2⟩
      · rintro v Hx Hy e4 e5 ⟨e, ys, rfl, he0, he1, hl, ned, qs, rfl, hql, h3⟩
        exact ⟨e, qs, rfl, ned, he1, hql, fun j q hq => (h3 j q hq).2⟩
    · obtain ⟨e, qs, rfl, ned, h1, h2, h3⟩ := h
      refine ⟨e, qs, rfl, by rw [upd_ne ned]; exact h1, h2, fun i q hq => ?_⟩
      obtain ⟨b1, kvs, b2, b3⟩ := h3 i q hq
      exact ⟨kvs, b2, by rw [upd_ne b1]; exact b3⟩
    obtain ⟨e, qs, rfl, he, hql, hqs⟩ := h
    have ho6 := e6 _ _ ho5
    rw [pf3]
    have y6 : Ki H6 (upd H6 p (.ins A.Country dx (g3 (.ref l) (.ref d) (.ref e)))) := .put ho6
    have x7 : Ex H0 (upd H6 p (.ins A.Country dx (g3 (.ref l) (.ref d) (.ref e)))) := Ex.mut (x5.trans e6) fp
    have ho7 : (upd H6 p (.ins A.Country dx (g3 (.ref l) (.ref d) (.ref e)))) p = some (.ins A.Country dx (g3 (.ref l) (.ref d) (.ref e))) := upd_same
    generalize upd H6 p (.ins A.Country dx (g3 (.ref l) (.ref d) (.ref e))) = H7 at y6 x7 ho7
    have hM7 := (hM5.ex e6).ki y6
    have hd7 := y6 _ _ (e6 _ _ hd5) dkOf_ni
    have R7 := (R5.ex e6).ki y6
    have he7 := y6 _ _ he dkOf_ni
    have hq7 : ∀ (i : Nat) (q : Addr), qs[i]? = some q → ∃ kvs, Ahead L i kvs ∧ H7 q = some (kvO kvs) := fun i q hq => by
      obtain ⟨kvs, b1, b2⟩ := hqs i q hq
      exact ⟨kvs, b1, y6 _ _ b2 dK_ni⟩
    -- self._yards
    refine p_fld (i := 0) (p := p) (P := fun v Ha Hb => ∃ y, v = .ref y ∧ Hb y = some (.lst (vIs (yardsL L)))) (evp_callA (vs := [.ref d]) (Evl.ea_cons (ev_fld (v := .ref d) rfl ho7 T.cl_Country T.na_Country_around (by rfl)) Evl.ea_nil) (fun H4 e4 Q q => ⟨L, d, rfl, ⟨rs, e4 _ _ hd7, R7.ex e4⟩, hsm, fun y H5 e5 _ hy => q _ H5 e5 ⟨y, rfl, hy⟩⟩) (fun _ _ _ _ _ _ _ h => h)) rfl ho7 T.cl_Country T.na_Country_yards (by show 3 < 1000; decide) fun v H8 e8 h => ?_
    obtain ⟨y, rfl, hy⟩ := h
    have ho8 := e8 _ _ ho7
    rw [pf4]
    have y8 : Ki H8 (upd H8 p (.ins A.Country dx (g4 (.ref l) (.ref d) (.ref e) (.ref y)))) := .put ho8
    have x9 : Ex H0 (upd H8 p (.ins A.Country dx (g4 (.ref l) (.ref d) (.ref e) (.ref y)))) := Ex.mut (x7.trans e8) fp
    have ho9 : (upd H8 p (.ins A.Country dx (g4 (.ref l) (.ref d) (.ref e) (.ref y)))) p = some (.ins A.Country dx (g4 (.ref l) (.ref d) (.ref e) (.ref y))) := upd_same
    generalize upd H8 p (.ins A.Country dx (g4 (.ref l) (.ref d) (.ref e) (.ref y))) = H9 at y8 x9 ho9
    have hM9 := (hM7.ex e8).ki y8
    have hd9 := y8 _ _ (e8 _ _ hd7) dkOf_ni
    have R9 := (R7.ex e8).ki y8
    have he9 := y8 _ _ (e8 _ _ he7) dkOf_ni
    have hy9 := y8 _ _ hy lst_ni
    have hq9 : ∀ (i : Nat) (q : Addr), qs[i]? = some q → ∃ kvs, Ahead L i kvs ∧ H9 q = some (kvO kvs) := fun i q hq => by
      obtain ⟨kvs, b1, b2⟩ := hq7 i q hq
      exact ⟨kvs, b1, y8 _ _ (e8 _ _ b2) dK_ni⟩
    have npd9 : p ≠ d := npd
    -- self._gates
    refine p_fld1 (i := 0) (p := p) (P := fun v Ha Hb => ∃ y, v = .ref y ∧ Hb y = some (.lst (vIs (gatesL L)))) (evp_lock (d := d) (u := dkOf (L.length + 1) rs) hd9 trivial (P := fun v Ha Hb => ∃ p, v = .ref p ∧ p ≠ d ∧ Hb p = some (.lst (vIs (gatesL L)))) (fun Ha od ea => ?_) (fun v Ha Hb od ea eb h => ?_)) rfl ho9 T.cl_Country T.na_Country_gates (by show 4 < 1000; decide) fun v H10 e10 h => ?_
    · have R3 := (R9.ex ea).lock (ea _ _ hd9) od
      have hoA : (upd Ha d (.frz od (dkOf (L.length + 1) rs))) p = some (.ins A.Country dx (g4 (.ref l) (.ref d) (.ref e) (.ref y))) := by rw [upd_ne npd]; exact ea _ _ ho9
      refine (lcV (src_rows R9.len (ev_fld (v := .ref d) rfl hoA T.cl_Country T.na_Country_around (by rfl)) upd_same) (by omega) (fun i x => [some (.ref p), some (.ref a), none, none, some x]) (fun _ _ => rfl) (fun _ _ _ _ _ _ _ q => q) (fun i => decide ((adj L i).length = 1)) (fun i => vI i) (fun i x H1 e1 hi hx => ?_) (fun i x H1 e1 hi hx _ => ?_)).imp (fun v H1 H2 e1 e2 h => ?_)
      · cases keys_x hi hx
        obtain ⟨r, hr1, hr2, vr⟩ := R3.get hi
        refine Evl.et_is (Evl.et_test (Evl.ev_op (ev_lenL (K := K) (ev_row (ev_fld (v := .ref d) rfl (e1 _ _ hoA) T.cl_Country T.na_Country_around (by rfl)) (Evl.ev_var rfl) (.inr ⟨od, e1 _ _ upd_same⟩) vr) (Evl.sq_of (e1 _ _ hr2))) Evl.ev_c (Evl.rv_eq rfl))) ?_
        rw [List.length_map]
        by_cases c : (adj L i).length = 1
        · rw [decide_eq_true c, c]
          rfl
        · rw [decide_eq_false c, decide_eq_false (fun z => c (by injection z with z; omega))]
      · cases keys_x hi hx
        exact Evl.ev_var rfl
      · obtain ⟨p, rfl, hp, k⟩ := h
        refine ⟨p, rfl, fun z => ?_, k⟩
        rw [z, e1 _ _ upd_same] at hp
        cases hp
    · obtain ⟨p, rfl, npd, k⟩ := h
      exact ⟨p, rfl, by rw [upd_ne npd]; exact k⟩
    obtain ⟨z, rfl, hz⟩ := h
    have ho10 := e10 _ _ ho9
    rw [pf5]
    have y10 : Ki H10 (upd H10 p (.ins A.Country dx (g5 (.ref l) (.ref d) (.ref e) (.ref y) (.ref z)))) := .put ho10
    refine k _ (fun b o hb nb => ?_) ⟨dx, l, d, e, y, z, rs, qs, upd_same, ?_⟩
    · rw [upd_ne nb]
      exact (x9.trans e10) b o (hx0 b o hb nb)
    · refine ⟨⟨M, (hM9.ex e10).ki y10, pM, sM⟩, y10 _ _ (e10 _ _ hd9) dkOf_ni, (R9.ex e10).ki y10, y10 _ _ (e10 _ _ he9) dkOf_ni, hql, fun i q hq => ?_, y10 _ _ (e10 _ _ hy9) lst_ni, y10 _ _ hz lst_ni⟩
      obtain ⟨kvs, b1, b2⟩ := hq9 i q hq
      exact ⟨kvs, b1, y10 _ _ (e10 _ _ b2) dK_ni⟩
end
end K61
set_option Elab.async false
set_option linter.all false
set_option maxRecDepth 100000
set_option maxHeartbeats 4000000
namespace K61
open PySem PySem.Spec PyProof.Rows L2 TM Pr Ep
open Evl (Ex Ev EvT EvA EvL)
section
variable {P : Program} {w : World} {K : PySem.W.Frag} {mg : Str → Option Value} {base : Heap} {A : Adr}
theorem ok_Country_lanes (T : Txt K mg A) : FnOk P w K mg base CX0 1 A.Country_lanes A.Country_lanes_fd ["self"] (spGet A.Country rLanesG) := by
  refine T.F_Country_lanes.ok sc_Country_lanes (fun vs H Q E h => ?_) (fun cdv A' outer s H vs Q E hr h => ?_)
  · obtain ⟨L, p, rfl, _⟩ := h
    rfl
  · obtain ⟨L, p, rfl, ⟨dx, l, d, e, y, g, rs, qs, ho, C⟩, k⟩ := h
    refine ⟨_, (pss_one (ps_ret (show PE _ _ (tCB (rListOf K) _) from (pe_callTy (T := "list") call_list_of (by rfl) T.n_list (by decide +kernel) (pa_cons (show PE _ _ (tFld K _ _) from pe_fld (pv 0) rfl) pa_nil))))), ?_⟩
    obtain ⟨M, hM, pM, sM⟩ := C.l_
    obtain ⟨ls, hl, hp⟩ := id hM
    refine ⟨_, rfl, p, _, dx, _, _, rfl, ho, T.cl_Country, T.na_Country_lanes, fl_l, l, ls, rfl, .inl (Evl.sq_of hl), fun q hq => ?_⟩
    have e := Ex.new (o := .lst ls) hq
    exact k q _ e hq ⟨M, ⟨ls, upd_same, paired_imp (fun _ _ z => z.ex e) hp⟩, pM, sM⟩
theorem ok_Country_yards (T : Txt K mg A) : FnOk P w K mg base CX0 1 A.Country_yards A.Country_yards_fd ["self"] (spGet A.Country rYardsG) := by
  refine T.F_Country_yards.ok sc_Country_yards (fun vs H Q E h => ?_) (fun cdv A' outer s H vs Q E hr h => ?_)
  · obtain ⟨L, p, rfl, _⟩ := h
    rfl
  · obtain ⟨L, p, rfl, ⟨dx, l, d, e, y, g, rs, qs, ho, C⟩, k⟩ := h
    refine ⟨_, (pss_one (ps_ret (show PE _ _ (tCB (rListOf K) _) from (pe_callTy (T := "list") call_list_of (by rfl) T.n_list (by decide +kernel) (pa_cons (show PE _ _ (tFld K _ _) from pe_fld (pv 0) rfl) pa_nil))))), ?_⟩
    refine ⟨_, rfl, p, _, dx, _, _, rfl, ho, T.cl_Country, T.na_Country_yards, fl_y, y, _, rfl, .inl (Evl.sq_of C.y_), fun q hq => ?_⟩
    exact k q _ (Ex.new hq) hq upd_same
theorem ok_is_place (T : Txt K mg A) : FnOk P w K mg base CX0 3 A.is_place A.is_place_fd ["country", "value"] (spPlace A.Country) := by
  refine T.F_is_place.ok sc_is_place (fun vs H Q E h => ?_) (fun cdv A' outer s H vs Q E hr h => ?_)
  · obtain ⟨L, p, i, rfl, _⟩ := h
    rfl
  · obtain ⟨L, p, i, rfl, hC, k⟩ := h
    refine ⟨_, (pss_one (ps_ret (pe_and (pe_call (ok_is_count T) (hr.mono (by decide)) (by rfl) T.m_is_count T.F_is_count.kp T.b_is_count .nil pass0 (pa_cons (pv 1) pa_nil)) (pe_one (pe_cmpR op_le (pv 1) (show PE _ _ (tCB (rLenA K) _) from (pe_callB (id := "len") call_len (by rfl) T.n_len (by decide +kernel) (pa_cons (pe_prop (pv 0) T.cl_Country T.pr_Country_lanes (ok_Country_lanes T) (hr.mono (by decide)) T.b_Country_lanes .nil pass0 rfl) pa_nil))) (nomark _)))))), ?_⟩
    obtain ⟨dx, l, d, e, y, g, rs, qs, ho, C⟩ := id hC
    refine ⟨_, rfl, (i : Int), rfl, true, ?_, iteT ?_⟩
    · rw [decide_eq_true (Int.natCast_nonneg _)]
    · refine ⟨_, rfl, _, rfl, p, dx, _, rfl, ho, L, p, rfl, hC, fun q H1 e1 hq ⟨M, ⟨ls, hl, hp⟩, pM, _⟩ => ?_⟩
      have lM : ls.length = L.length := by rw [PySem.Paired.length hp, pM.length_eq]; unfold norm; rw [List.length_map]
      refine ⟨_, _, rfl, .inl ⟨ls, Evl.sq_of hl, rfl⟩, _, _, rfl, rfl, ?_⟩
      have z := k H1 e1
      show Q (V.bl (decide ((i : Int) ≤ (ls.length : Int)))) H1
      rw [lM]
      by_cases c : i < L.length + 1
      · rw [decide_eq_true c] at z
        rw [decide_eq_true (by omega)]
        exact z
      · rw [decide_eq_false c] at z
        rw [decide_eq_false (by omega)]
        exact z
theorem ok_Country_neighbours (T : Txt K mg A) : FnOk P w K mg base CX0 4 A.Country_neighbours A.Country_neighbours_fd ["self", "place"] (spNbs A.Country) := by
  refine T.F_Country_neighbours.ok sc_Country_neighbours (fun vs H Q E h => ?_) (fun cdv A' outer s H vs Q E hr h => ?_)
  · obtain ⟨L, p, i, rfl, _⟩ := h
    rfl
  · obtain ⟨L, p, i, rfl, hC, hi, k⟩ := h
    have hu := hu_of hr
    refine ⟨_, (pss_cons (ps_if (pt_not (pt_val (pe_call (ok_is_place T) (hr.mono (by decide)) (by rfl) T.m_is_place T.F_is_place.kp T.b_is_place .nil pass0 (pa_cons (pv 0) (pa_cons (pv 1) pa_nil))))) (pss_one ps_never) pss_nil) (pss_one (ps_ret (show PE _ _ (tCB (rListOf K) _) from (pe_callTy (T := "list") call_list_of (by rfl) T.n_list (by decide +kernel) (pa_cons (pe_dget hu (show PE _ _ (tFld K _ _) from pe_fld (pv 0) rfl) (pv 1) (fun _ _ => rfl)) pa_nil)))))), ?_⟩
    refine p_skip (Evl.et_is (Evl.et_not (a := true) (evt_P (evp_callA (vs := [.ref p, vI i]) (Evl.ea_cons (Evl.ev_var rfl) (Evl.ea_cons (Evl.ev_var rfl) Evl.ea_nil)) (fun H2 e2 Q q => ⟨L, p, i, rfl, hC.ex e2, fun H3 e3 => q _ H3 e3 (by rw [decide_eq_true hi]; rfl)⟩) (fun _ _ _ _ _ _ _ h => h)))) rfl) fun H1 e1 => ?_
    obtain ⟨dx, l, d, e, y, g, rs, qs, ho, C⟩ := hC.ex e1
    obtain ⟨r, hr1, hr2, vr⟩ := C.r_.get hi
    refine ⟨_, rfl, p, _, dx, _, _, rfl, ho, T.cl_Country, T.na_Country_around, fl_d, _, rfl, d, _, rfl, .inl ⟨_, keyN i, .inl C.d_, rfl, vr.symm⟩, r, _, rfl, .inl (Evl.sq_of hr2), fun q hq => ?_⟩
    exact k q _ (e1.trans (Ex.new hq)) (Evl.fresh_back e1 hq) upd_same
theorem ok_check_country (T : Txt K mg A) : FnOk P w K mg base CX0 1 A.check_country A.check_country_fd ["country"] (spCheckC A.Country) := by
  refine T.F_check_country.ok sc_check_country (fun vs H Q E h => ?_) (fun cdv A' outer s H vs Q E hr h => ?_)
  · obtain ⟨L, p, rfl, _⟩ := h
    rfl
  · obtain ⟨L, p, rfl, hC, k⟩ := h
    refine ⟨_, (pss_one (ps_if (pt_not (pt_val (show PE _ _ (tCB (rIsi K) _) from (pe_callB (id := "isinstance") call_isi (by rfl) T.n_isinstance (by decide +kernel) (pa_cons (pv 0) (pa_cons (pe_glob (v := .ref A.Country) rfl T.m_Country rfl) pa_nil)))))) (pss_one ps_never) pss_nil)), ?_⟩
    obtain ⟨dx, l, d, e, y, g, rs, qs, ho, C⟩ := id hC
    have I := T.ic_Country
    refine p_skip1 (Evl.et_is (Evl.et_not (a := true) (evt_P (evp_ev (ev_cb2 (z := .bl true) (Evl.ev_var rfl) Evl.ev_c fun H1 e1 Q q => ⟨_, _, _, _, true, rfl, .own _, .base (.ins (e1 _ _ ho) I.cl I.ha I.hn I.htk I.hm), I.me, q⟩)))) rfl) fun H1 e1 => k H1 e1
end
end K61
set_option Elab.async false
set_option linter.all false
set_option maxRecDepth 100000
set_option maxHeartbeats 4000000
namespace K61
open PySem PySem.Spec PyProof.Rows L2 TM Pr Ep Nw
open Evl (Ex Ev EvT EvA EvL EvU EvO)
section
variable {P : Program} {w : World} {K : PySem.W.Frag} {mg : Str → Option Value} {base : Heap} {A : Adr}
theorem ok_l_pot (T : Txt K mg A) : FnOk P w K mg base CX0 1 A.l_pot A.l_pot_fd ["_law_script", "_law_k"] (spPot K) := by
  refine T.F_l_pot.ok sc_l_pot (fun vs H Q E h => ?_) (fun cdv A' outer s H vs Q E hr h => ?_)
  · obtain ⟨a, ns, k, rfl, _⟩ := h
    rfl
  · obtain ⟨a, ns, k, rfl, hS, hk, q⟩ := h
    refine ⟨_, (pss_cons (ps_set (i := 2) sc_l_pot.nd rfl (Or.inl rfl) (pe_ifExp (pt_cmpR op_lt (pv 1) (show PE _ _ (tCB (rLenA K) _) from (pe_callB (id := "len") call_len (by rfl) T.n_len (by decide +kernel) (pa_cons (pv 0) pa_nil))) (nomark _)) (pe_callB (id := "abs") call_abs (by rfl) T.n_abs (by decide +kernel) (pa_cons (show PE _ _ (tOp (rIxL K) _ _) from pe_ix ix_list (pv 0) (pv 1) (fun _ _ => rfl)) pa_nil)) (pe_op op_add (pe_op op_mul pe_int (pv 1)) pe_int))) (pss_one (ps_ret (pe_lst (pa_cons (pe_callB (id := "max") (call_max2 rfl) (by rfl) T.n_max (by decide +kernel) (pa_cons pe_int (pa_cons (pe_op op_sub (pv 2) (pe_op op_pow pe_int pe_int)) pa_nil))) (pa_cons (pe_op op_add (pe_op op_modN (pe_callTy (T := "int") call_int1 (by rfl) T.n_int (by decide +kernel) (pa_cons (pe_op op_add (pe_op op_add (pe_op op_mul (pe_op op_modN (pe_callTy (T := "int") call_int1 (by rfl) T.n_int (by decide +kernel) (pa_cons (pv 2) pa_nil)) pe_int) pe_int) (pe_op op_mul pe_int (pv 1))) pe_int) pa_nil)) pe_int) pe_int) pa_nil)))))), ?_⟩
    have hcell : EvP (tIf (tTest (tOp (rI0 fun i j => V.bl (decide (i < j))) (tVar 1) (tCB (rLenA K) (tCons (tVar 0) tNil)))) (tCB (fun xs H Q => ∃ i, xs = [.int i] ∧ Q (.int (if i < 0 then -i else i)) H) (tCons (tOp (rIxL K) (tVar 0) (tVar 1)) tNil)) (tOp (rI0 fun i j => V.int (i + j)) (tOp (rI CMul fun i j => V.int (i * j)) (tC (.int 883)) (tVar 1)) (tC (.int 739)))) [some (.ref a), some (vI k), none] H (fun v _ _ => ∃ c : Int, v = .int c ∧ 0 ≤ c) := by
      intro H1 e1 Q' q'
      have hS1 := Evl.ex_l e1 hS
      refine ⟨_, rfl, _, rfl, .ref a, _, rfl, .inl ⟨_, hS1, rfl⟩, _, _, rfl, rfl, _, rfl, ?_⟩
      refine ite2 (fun hc => ?_) (fun hc => ?_)
      · have hlt : k < ns.length := by
          have := of_decide_eq_true hc
          rw [List.length_map] at this
          omega
        refine ⟨_, rfl, _, rfl, a, _, _, .int ns[k], rfl, rfl, hS1, at_of rfl (by rw [List.getElem?_map, List.getElem?_eq_getElem hlt]; rfl), ns[k], rfl, q' _ H1 (Ex.refl _) ⟨_, rfl, ?_⟩⟩
        split <;> omega
      · refine ⟨_, rfl, _, _, rfl, rfl, .inl ⟨by decide, by decide⟩, _, _, rfl, rfl, q' _ H1 (Ex.refl _) ⟨_, rfl, ?_⟩⟩
        omega
    refine p_asg hcell fun v H1 e1 hv => ?_
    obtain ⟨c, rfl, hc⟩ := hv
    refine ⟨_, rfl, _, _, rfl, rfl, (by exact ⟨by decide, by decide, by decide⟩), _, _, rfl, rfl, _, _, rfl, ?_⟩
    refine ⟨_, rfl, .inl ⟨c, rfl, c, _, rfl, rfl, (by show (2147483549 : Int) ≠ 0; decide), _, _, rfl, rfl, .inr ⟨by decide, by decide⟩, _, rfl, _, _, rfl, rfl, .inl ⟨by decide, by decide⟩, _, _, rfl, rfl, _, _, rfl, rfl, .inl ⟨_, rfl, _, _, rfl, rfl, (by show (2147483563 : Int) ≠ 0; decide), _, _, rfl, rfl, ?_⟩⟩⟩
    refine ⟨(by show 2 ≤ sizeLine; decide), fun p hp => ?_⟩
    refine q p _ (e1.trans (Ex.new hp)) (Evl.fresh_back e1 hp) ⟨_, _, upd_same, ?_, ?_, ?_⟩
    · split <;> omega
    · have := Int.fmod_nonneg_of_pos ((c.fmod 2147483549) * 48271 + 30658 * (k : Int) + 647) (b := 2147483563) (by decide)
      omega
    · have := Int.fmod_lt_of_pos ((c.fmod 2147483549) * 48271 + 30658 * (k : Int) + 647) (b := 2147483563) (by decide)
      omega
theorem ok_l_draw (T : Txt K mg A) : FnOk P w K mg base CX0 1 A.l_draw A.l_draw_fd ["_law_pot_here", "_law_many_here"] spDraw := by
  refine T.F_l_draw.ok sc_l_draw (fun vs H Q E h => ?_) (fun cdv A' outer s H vs Q E hr h => ?_)
  · obtain ⟨p, m, rfl, _⟩ := h
    rfl
  · obtain ⟨p, m, rfl, ⟨a, b, hp, ha, hb, hb2⟩, hm, hm2, k⟩ := h
    refine ⟨_, (pss_cons (ps_if (pt_cmpR op_gt (show PE _ _ (tOp (rIxL K) _ _) from pe_ix ix_list (pv 0) pe_int (fun _ _ => rfl)) pe_int (nomark _)) (pss_cons (ps_asg (pe_callB (id := "divmod") call_divmod (by rfl) T.n_divmod (by decide +kernel) (pa_cons (show PE _ _ (tOp (rIxL K) _ _) from pe_ix ix_list (pv 0) pe_int (fun _ _ => rfl)) (pa_cons (pv 1) pa_nil))) (show PG _ _ (gTup K 2 _) from pg_tup rfl (pgs_cons (pg_sub (pv 0) pe_int set_list) (pgs_cons (pg_name (i := 2) sc_l_draw.nd rfl (Or.inl rfl)) pgs_nil)))) (pss_one (ps_ret (pv 2)))) pss_nil) (pss_cons (ps_asg (pe_op op_modN (pe_callTy (T := "int") call_int1 (by rfl) T.n_int (by decide +kernel) (pa_cons (pe_op op_add (pe_op op_mul (show PE _ _ (tOp (rIxL K) _ _) from pe_ix ix_list (pv 0) pe_int (fun _ _ => rfl)) pe_int) pe_int) pa_nil)) pe_int) (pg_sub (pv 0) pe_int set_list)) (pss_one (ps_ret (pe_op op_modN (pe_callTy (T := "int") call_int1 (by rfl) T.n_int (by decide +kernel) (pa_cons (pe_op op_fdiv (pe_op op_modN (pe_callTy (T := "int") call_int1 (by rfl) T.n_int (by decide +kernel) (pa_cons (pe_op op_mul (show PE _ _ (tOp (rIxL K) _ _) from pe_ix ix_list (pv 0) pe_int (fun _ _ => rfl)) (show PE _ _ (tOp (rIxL K) _ _) from pe_ix ix_list (pv 0) pe_int (fun _ _ => rfl))) pa_nil)) pe_int) pe_int) pa_nil)) (pv 1)))))), ?_⟩
    have hc : ∀ (z : Int), CDiv z (m : Int) := fun z => ⟨by omega, by omega⟩
    have item : ∀ {H1 : Hp} {xs : List V} {j : Nat} {v : V}, H1 p = some (.lst xs) → xs[j]? = some v → Ev (tOp (rIxL K) (tVar 0) (tC (.int (j : Int)))) [some (.ref p), some (vI m), none] H1 v := fun h g => Evl.ev_op (Evl.ev_var rfl) Evl.ev_c (Evl.rv_ixL (Evl.sq_of h) (at_of rfl g))
    refine Evl.q_when (Evl.et_test (Evl.ev_op (item (j := 0) hp rfl) Evl.ev_c rv_I0P)) (fun _ H0 e0 => ?_) (fun _ H0 e0 => ?_)
    all_goals
      have hp := e0 _ _ hp
      have k : ∀ (d : Nat) (H' : Hp), d < m → PotAt H' p → ExB p H0 H' → Q (vI d) H' := fun d H' h1 h2 h3 => k d H' h1 h2 ((ExB.of e0).trans h3)
    · -- a digit
      refine ⟨_, rfl, p, _, 0, .int a, rfl, rfl, Evl.sq_of hp, at_of (j := 0) rfl rfl, _, rfl, a, m, rfl, hc a, fun t ht => ?_⟩
      have npt : p ≠ t := ne_of_none hp ht
      refine ⟨t, _, rfl, Evl.st_of upd_same, rfl, _, _, rfl, _, rfl, p, _, 0, 0, rfl, rfl, (by rw [upd_ne npt]; exact hp), (Evl.ixN_nat (j := 0) (by show 0 < 2; decide)), _, _, rfl, rfl, ?_⟩
      have hmod := Int.emod_nonneg a (b := (m : Int)) (by omega)
      have hlt := Int.emod_lt_of_pos a (b := (m : Int)) (by omega)
      refine ⟨_, rfl, ?_⟩
      have e : a % (m : Int) = ((a % (m : Int)).toNat : Int) := by omega
      have z := k (a % (m : Int)).toNat (upd (upd H0 t (.tup [.int (a / m), .int (a % m)])) p (.lst [.int (a / m), .int b])) (by omega) ⟨_, _, upd_same, Int.ediv_nonneg ha (by omega), hb, hb2⟩ (fun c o h n => by rw [upd_ne n, upd_ne (ne_of_none h ht)]; exact h)
      have ev : vI (a % (m : Int)).toNat = V.int (a % (m : Int)) := by show V.int _ = _; rw [← e]
      rw [ev] at z
      exact z
    · -- a number of its own
      have hn := Int.fmod_nonneg_of_pos (b * 39373 + 647) (b := 2147483587) (by decide)
      have hl := Int.fmod_lt_of_pos (b * 39373 + 647) (b := 2147483587) (by decide)
      refine Evl.q_setL (l := p) (xs := [.int a, .int b]) (j := 1) (v := .int ((b * 39373 + 647).fmod 2147483587)) hp (Evl.ev_op (ev_cb1 (Evl.ev_op (Evl.ev_op (item (j := 1) hp rfl) Evl.ev_c (Evl.rv_I (.inr ⟨by decide, by decide⟩))) Evl.ev_c rv_I0P) fun _ _ _ q => .inl ⟨_, rfl, q⟩) Evl.ev_c (Evl.rv_I (by show (2147483587 : Int) ≠ 0; decide))) (Evl.ev_var rfl) Evl.ev_c (by show 1 < 2; decide) fun H1 e1 => ?_
      have es : ([V.int a, V.int b]).set 1 (V.int ((b * 39373 + 647).fmod 2147483587)) = [V.int a, V.int ((b * 39373 + 647).fmod 2147483587)] := by rfl
      rw [es]
      generalize (b * 39373 + 647).fmod 2147483587 = c at hn hl ⊢
      have hp2 : (upd H1 p (.lst [.int a, .int c])) p = some (.lst [.int a, .int c]) := upd_same
      refine ⟨_, rfl, p, _, 1, .int c, rfl, rfl, Evl.sq_of hp2, at_of (j := 1) rfl rfl, _, rfl, p, _, 1, .int c, rfl, rfl, Evl.sq_of hp2, at_of (j := 1) rfl rfl, _, _, rfl, rfl, .inl ⟨by omega, by omega⟩, .inl ⟨_, rfl, _, _, rfl, rfl, (by show (2147483563 : Int) ≠ 0; decide), _, _, rfl, rfl, ⟨by decide, by decide⟩, .inl ⟨_, rfl, _, rfl, _, _, rfl, rfl, (by show (m : Int) ≠ 0; omega), ?_⟩⟩⟩
      have hn2 := Int.fmod_nonneg_of_pos ((c * c).fmod 2147483563 / 17) (b := (m : Int)) (by omega)
      have hl2 := Int.fmod_lt_of_pos ((c * c).fmod 2147483563 / 17) (b := (m : Int)) (by omega)
      have e : ((c * c).fmod 2147483563 / 17).fmod (m : Int) = ((((c * c).fmod 2147483563 / 17).fmod (m : Int)).toNat : Int) := by omega
      have z := k (((c * c).fmod 2147483563 / 17).fmod (m : Int)).toNat (upd H1 p (.lst [.int a, .int c])) (by omega) ⟨_, _, upd_same, ha, hn, by omega⟩ (fun d o h n => by rw [upd_ne n]; exact e1 _ _ h)
      have ev : vI (((c * c).fmod 2147483563 / 17).fmod (m : Int)).toNat = V.int (((c * c).fmod 2147483563 / 17).fmod (m : Int)) := by show V.int _ = _; rw [← e]
      rw [ev] at z
      exact z
end
end K61
set_option Elab.async false
set_option linter.all false
set_option maxRecDepth 100000
set_option maxHeartbeats 4000000
namespace DL
open PySem PySem.Spec PyProof.Rows L2 TM Pr Ep Nw
open Evl (Ex)
abbrev dN (n : Nat) : D := .int (n : Int)
abbrev dNs (l : List Nat) : List D := l.map dN
def dPair (p : Nat × Nat) : D := .tup [dN p.1, dN p.2]
def dLanes (L : Lanes) : D := .lst (L.map dPair)
def b_yards : List D → (List D → Prop) → Prop := fun ds k => ∃ L, ds = [.ob (.cty L)] ∧ k (dNs (yardsL L))
def b_neighbours : List D → (List D → Prop) → Prop := fun ds k => ∃ L i, ds = [.ob (.cty L), dN i] ∧ i < L.length + 1 ∧ k (dNs (adj L i))
def b_checkC : List D → (D → Prop) → Prop := fun ds k => ∃ L, ds = [.ob (.cty L)] ∧ k .non
def b_draw : List D → (D → Prop) → Prop := fun ds k => ∃ m, ds = [dN m] ∧ 0 < m ∧ m ≤ 1000 ∧ ∀ d, d < m → k (dN d)
section
variable {R : OR} {B H : Hp}
theorem rpa_nats : ∀ {l : List Nat}, RpA R B (vIs l) (dNs l)
  | [] => .nil
  | _ :: _ => .cons rp_int rpa_nats
theorem pairs_rpa : ∀ {L : Lanes} {vs : List V}, RpA R B vs (L.map dPair) → Paired (PairAt B) vs L
  | [], [], _ => .nil
  | p :: L, v :: vs, h => by
    simp only [List.map_cons, RpA, dPair, Rp] at h
    obtain ⟨⟨t, ws, rfl, ht, a⟩, h2⟩ := h
    match ws, a with
    | [x, y], a =>
      obtain ⟨rfl, rfl, _⟩ := a
      exact .cons ⟨t, rfl, ht⟩ (pairs_rpa h2)
  | [], _ :: _, h => by simp only [List.map_nil, RpA] at h
  | _ :: _, [], h => by simp only [List.map_cons, RpA] at h
theorem rp_cty {C CW : Addr} {v : V} {L : List (Nat × Nat)} (h : Rp (oR C CW) B v (.ob (.cty L))) : ∃ p, v = .ref p ∧ CAt C B p L ∧ ∃ vt, Good vt L := by
  simpa only [Rp, oR, oRr] using h
end
theorem butP_none {H : Hp} : butP none H = H := rfl
def eMkCountry (ea : EL) : EE := fun env k => ea env fun ds => ∃ L vt, ds = [dLanes L] ∧ Good vt L ∧ k (.ob (.cty L))
theorem we_mkC {C CW : Addr} {ta : TA} {ea : EL} {E : XK} (h : WA (oR C CW) ta ea) : WE (oR C CW) (tMake C (spFr (spInit C)) [] E ta) (eMkCountry ea) := fun P env σ B H Q k Ev he q =>
  h P env σ B H _ _ Ev he fun ds vs B1 H1 kd s1 E1 r1 => by
    obtain ⟨L, vt, rfl, G, hk⟩ := kd
    match vs, r1 with
    | [v], r1 =>
      simp only [RpA, dLanes, Rp] at r1
      obtain ⟨⟨a, ws, rfl, ha, aw⟩, _⟩ := r1
      intro x dx hx hdx nx
      have hb : ∀ {b : Addr}, H1 b = none → B1 b = none := fun z => Evl.fresh_back E1.bh z
      let Hx : Hp := upd (upd H1 dx (.own x)) x (.ins C dx [])
      let B2 : Hp := upd B1 x (.ins C dx [])
      have e12 : Ex B1 B2 := Ex.new (hb hx)
      have ex0 : Ex H1 Hx := (Ex.new hdx).trans (Ex.new (by rw [upd_ne nx.symm]; exact hx))
      have b2h : Ex B2 Hx := fun b o z => by
        by_cases n : b = x
        · subst n
          rw [show B2 b = some (.ins C dx []) from upd_same] at z
          cases z
          exact upd_same
        · rw [show B2 b = B1 b from upd_ne n] at z
          exact ex0 b o (E1.bh b o z)
      have po0 : PotOk none Hx := fun _ z => nomatch z
      have cl := clo_ok (P := none) b2h po0
      have at2 : ∀ {b o}, B2 b = some o → (∀ a, o ≠ HO.own a) → cloB none B2 Hx b = some o := fun z no => clo_at b2h z no
      refine ⟨cloB none B2 Hx, cl, L, x, dx, a, vt, rfl, at2 upd_same (fun _ z => nomatch z), ⟨ws, at2 (e12 _ _ ha) (fun _ z => nomatch z), ?_⟩, G, fun B' k1 hC => ?_⟩
      · exact paired_imp (fun v q ⟨t, r, ht⟩ => ⟨t, r, at2 (e12 _ _ ht) (fun _ z => nomatch z)⟩) (pairs_rpa aw)
      · intro H' x1 x2 x3
        refine ⟨rfl, ?_⟩
        have hh : ∀ b o, Hx b = some o → b ≠ x → H' b = some o := fun b o z n => by
          cases y : cloB none B2 Hx b with
          | none => exact x2 b o z y
          | some u =>
            have := cl.ex b u y
            rw [z] at this
            cases this
            exact x1 b _ (k1 b _ y n)
        have h1x : ∀ b o, H1 b = some o → b ≠ x := fun b o z n => by rw [n, hx] at z; cases z
        let B3 : Hp := fun b => match B1 b with
          | some o => some o
          | none => B' b
        have c1 : ∀ b o, B1 b = some o → B3 b = some o := fun b o h => by
          show (match B1 b with | some o => some o | none => B' b) = _
          rw [h]
        have c2 : ∀ b, B1 b = none → B3 b = B' b := fun b h => by
          show (match B1 b with | some o => some o | none => B' b) = _
          rw [h]
        have st : Step P B1 H1 B3 H' := ⟨fun b o h => c1 b o h, fun b o h => by
            cases z : B1 b with
            | some u =>
              rw [c1 b u z] at h
              cases h
              have := E1.bh b _ z
              exact hh b _ (ex0 b _ this) (h1x b _ this)
            | none =>
              rw [c2 b z] at h
              exact x1 b o h, fun b o h _ => hh b o (ex0 b o h) (h1x b o h), fun b o h => by
            cases z : B1 b with
            | some u => rw [c1 b u z] at h; cases h; exact .inl rfl
            | none =>
              rw [c2 b z] at h
              by_cases n : b = x
              · subst n; exact .inr (.inl hx)
              rcases x3 b o h with w | w
              · cases y : cloB none B2 Hx b with
                | none => exact absurd y w
                | some u =>
                  have := k1 b u y n
                  rw [h] at this
                  cases this
                  rcases clo_nw y with q | q | q
                  · rw [show B2 b = B1 b from upd_ne n, z] at q; cases q
                  · exact .inr (.inr q)
                  · cases q
              · refine .inr (.inl ?_)
                cases y : H1 b with
                | none => rfl
                | some u =>
                  have w2 : Hx b = none := w
                  rw [ex0 b u y] at w2
                  cases w2⟩
        have po : PotOk P H' := fun p hp => by
          obtain ⟨a, c, z, r⟩ := E1.pot p hp
          exact ⟨a, c, hh p _ (ex0 p _ z) (h1x p _ z), r⟩
        have exo : Exo B' B3 := fun b o h no => by
          cases z : B1 b with
          | none => rw [c2 b z]; exact h
          | some u =>
            have n := h1x b u (E1.bh b u z)
            by_cases w : ∃ a, u = .own a
            · obtain ⟨a, rfl⟩ := w
              have g1 := hh b _ (ex0 b _ (E1.bh b _ z)) n
              rw [x1 b o h] at g1
              cases g1
              exact absurd rfl (no a)
            · have g1 := k1 b u (at2 (e12 _ _ z) fun a q => w ⟨a, q⟩) n
              rw [h] at g1
              cases g1
              exact c1 b _ z
        refine q _ _ B3 H' hk (s1.trans E1.pot st) (Ev.step (s1.trans E1.pot st) po) ?_
        simp only [Rp, oR, oRr]
        exact ⟨x, rfl, CAt.exo exo hC, vt, G⟩
end DL
namespace G8
open PySem PySem.Spec PyProof.Rows L2
theorem fng_imp {P : Program} {w : World} {K : PySem.W.Frag} {mg : Str → Option Value} {base : Heap} {CX : CXT} {k : Nat} {f : Addr} {fd : FuncData} {ps : List Str} {sp sp' : Sp} (F : FnOkG P w K mg base CX k f fd ps sp)
    (h : ∀ vs H Q E, sp' vs H Q E → sp vs H Q E) : FnOkG P w K mg base CX k f fd ps sp' :=
  ⟨fun vs H Q E q => F.len vs H Q E (h _ _ _ _ q), fun A outer s H args us vs Q E hr hg he hb hv hs => F.run A outer s H args us vs Q E hr hg he hb hv (h _ _ _ _ hs)⟩
end G8
namespace K61
open PySem PySem.Spec PyProof.Rows L2 TM Pr Ep Nw DL
open Evl (Ex)
abbrev oRA (A : Adr) : OR := oR A.Country 0
section
variable {P : Program} {w : World} {K : PySem.W.Frag} {mg : Str → Option Value} {base : Heap} {A : Adr}
theorem okb_Country_init (T : Txt K mg A) : FnOk P w K mg base CX0 4 A.Country_init A.Country_init_fd ["self", "lanes"] (spFr (spInit A.Country)) := fn_frame (ok_Country_init T)
theorem we_mkCountry {ta : TA} {ea : EL} {E : XK} (h : WA (oRA A) ta ea) : WE (oRA A) (tMake A.Country (spFr (spInit A.Country)) [] E ta) (eMkCountry ea) := we_mkC h
theorem okb_Country_yards (T : Txt K mg A) : FnOk P w K mg base CX0 1 A.Country_yards A.Country_yards_fd ["self"] (spF (oRA A) false 1 b_yards) := (fn_frame (ok_Country_yards T)).imp (br_F fun P B vs us ds k Q hP po hn r he q E => by
  obtain ⟨L, rfl, hk⟩ := he
  rcases hP with ⟨rfl, _, rfl⟩ | ⟨p, _, z, _⟩
  · rw [butP_none] at r
    match vs, r with
    | [v], r =>
      simp only [RpA] at r
      obtain ⟨p, rfl, hC, _⟩ := rp_cty r.1
      exact ⟨L, p, rfl, hC, fun c H' e hc hR => q _ c _ H' hk (ExP.of e) (fun _ z => nomatch z) hc hR rpa_nats⟩
  · cases z)
theorem okb_Country_neighbours (T : Txt K mg A) : FnOk P w K mg base CX0 4 A.Country_neighbours A.Country_neighbours_fd ["self", "place"] (spF (oRA A) false 2 b_neighbours) := (fn_frame (ok_Country_neighbours T)).imp (br_F fun P B vs us ds k Q hP po hn r he q E => by
  obtain ⟨L, i, rfl, hi, hk⟩ := he
  rcases hP with ⟨rfl, _, rfl⟩ | ⟨p, _, z, _⟩
  · rw [butP_none] at r
    match vs, r with
    | [v, u], r =>
      simp only [RpA] at r
      obtain ⟨p, rfl, hC, _⟩ := rp_cty r.1
      have hu := r.2.1
      simp only [Rp] at hu
      subst hu
      exact ⟨L, p, i, rfl, hC, hi, fun c H' e hc hR => q _ c _ H' hk (ExP.of e) (fun _ z => nomatch z) hc hR rpa_nats⟩
  · cases z)
theorem okb_check_country (T : Txt K mg A) : FnOk P w K mg base CX0 1 A.check_country A.check_country_fd ["country"] (spE (oRA A) false 1 b_checkC) := (fn_frame (ok_check_country T)).imp (br_E fun P B vs us ds k Q hP po hn r he q E => by
  obtain ⟨L, rfl, hk⟩ := he
  rcases hP with ⟨rfl, _, rfl⟩ | ⟨p, _, z, _⟩
  · rw [butP_none] at r
    match vs, r with
    | [v], r =>
      simp only [RpA] at r
      obtain ⟨p, rfl, hC, _⟩ := rp_cty r.1
      exact ⟨L, p, rfl, hC, fun H' e => q .non .non H' hk (ExP.of e) (fun _ z => nomatch z) rp_non⟩
  · cases z)
theorem okb_l_draw (T : Txt K mg A) : FnOk P w K mg base CX0 1 A.l_draw A.l_draw_fd ["_law_pot_here", "_law_many_here"] (spE (oRA A) true 1 b_draw) := (fn_frame (ok_l_draw T)).imp (br_E fun P B vs us ds k Q hP po hn r he q E => by
  obtain ⟨m, rfl, h0, hm, hk⟩ := he
  rcases hP with ⟨_, z, _⟩ | ⟨p, rfl, _, rfl⟩
  · cases z
  · match us, r with
    | [u], r =>
      simp only [RpA, Rp] at r
      obtain ⟨rfl, _⟩ := r
      exact ⟨p, m, rfl, po p rfl, h0, by omega, fun d H' hd hp' e => q _ _ H' (hk d hd) (fun b o hb n => e b o hb fun z => n (by rw [z])) (fun p' z => by cases z; exact hp') rp_int⟩)
end
end K61
set_option Elab.async false
set_option linter.all false
set_option maxRecDepth 100000
set_option maxHeartbeats 4000000
namespace K61
open PySem PySem.Spec PyProof.Rows L2 TM Pr Ep Nw DL
section
variable {P : Program} {w : World} {K : PySem.W.Frag} {mg : Str → Option Value} {base : Heap} {A : Adr}
def e_is_count : ES := (sRet (eAnd (eIsi "int" (eVar 0)) (eAnd (eNot (eIsi "bool" (eVar 0))) (eOp geD (eVar 0) (eC (.int 0))))))
def d_is_count : List D → (D → Prop) → Prop := fun ds k => e_is_count (env0 false n_is_count ds) (knE k)
theorem okd_is_count (T : Txt K mg A) : FnOk P w K mg base CX0 1 A.is_count A.is_count_fd ["value"] (spE (oRA A) false 1 d_is_count) := by
  refine T.F_is_count.ok sc_is_count (fun vs H Q E h => len_E h) (fun cdv A' outer s H vs Q E hr h => ?_)
  have hu := hu_of hr
  refine ⟨_, (pss_one (ps_ret (pe_and (show PE _ _ (tCB (rIsi K) _) from (pe_callB (id := "isinstance") call_isi (by rfl) T.n_isinstance (by decide +kernel) (pa_cons (pv 0) (pa_cons (pe_bltn (v := .ty "int") (by rfl) T.n_int (by decide +kernel) rfl) pa_nil)))) (pe_and (pe_not (show PE _ _ (tCB (rIsi K) _) from (pe_callB (id := "isinstance") call_isi (by rfl) T.n_isinstance (by decide +kernel) (pa_cons (pv 0) (pa_cons (pe_bltn (v := .ty "bool") (by rfl) T.n_bool (by decide +kernel) rfl) pa_nil))))) (pe_one (show PE _ _ (tOp (rI0 fun i j => V.bl (decide (j ≤ i))) _ _) from pe_cmpR op_ge (pv 0) pe_int (nomark _))))))), ?_⟩
  exact body_E (es := e_is_count) ((wb_ret (we_and (we_isi (wo_of we_var)) (we_and (we_not (we_isi (wo_of we_var))) (we_op od_ge (wo_of we_var) (wo_of we_int)))))) h
end
end K61
set_option Elab.async false
set_option linter.all false
set_option maxRecDepth 100000
set_option maxHeartbeats 4000000
namespace K61
open PySem PySem.Spec PyProof.Rows L2 TM Pr Ep Nw DL
section
variable {P : Program} {w : World} {K : PySem.W.Frag} {mg : Str → Option Value} {base : Heap} {A : Adr}
def e_is_among : ES := (sRet (eAnd (eCall 1 d_is_count (eaCons (eVar 1) eaNil)) (eOp (inD false) (eVar 1) (eVar 0))))
def d_is_among : List D → (D → Prop) → Prop := fun ds k => e_is_among (env0 false n_is_among ds) (knE k)
theorem okd_is_among (T : Txt K mg A) : FnOk P w K mg base CX0 2 A.is_among A.is_among_fd ["around", "value"] (spE (oRA A) false 2 d_is_among) := by
  refine T.F_is_among.ok sc_is_among (fun vs H Q E h => len_E h) (fun cdv A' outer s H vs Q E hr h => ?_)
  have hu := hu_of hr
  refine ⟨_, (pss_one (ps_ret (pe_and (pe_call (okd_is_count T) (hr.mono (by decide)) (by rfl) T.m_is_count T.F_is_count.kp T.b_is_count .nil pass0 (pa_cons (pv 1) pa_nil)) (pe_one (show PE _ _ (tOp (rInU K false) _ _) from pe_cmpR (op_inU hr.u65) (pv 1) (pv 0) (by rfl)))))), ?_⟩
  exact body_E (es := e_is_among) ((wb_ret (we_and (we_call (wa_cons we_var wa_nil)) (we_op od_in (wo_of we_var) (wo_of we_var))))) h
end
end K61
set_option Elab.async false
set_option linter.all false
set_option maxRecDepth 100000
set_option maxHeartbeats 4000000
namespace K61
open PySem PySem.Spec PyProof.Rows L2 TM Pr Ep Nw DL
section
variable {P : Program} {w : World} {K : PySem.W.Frag} {mg : Str → Option Value} {base : Heap} {A : Adr}
def e_is_pair_of : ES := (sRet (eAnd (eCall 2 d_is_among (eaCons (eVar 0) (eaCons (eVar 1) eaNil))) (eAnd (eCall 2 d_is_among (eaCons (eVar 0) (eaCons (eVar 2) eaNil))) (eOp neD (eVar 1) (eVar 2)))))
def d_is_pair_of : List D → (D → Prop) → Prop := fun ds k => e_is_pair_of (env0 false n_is_pair_of ds) (knE k)
theorem okd_is_pair_of (T : Txt K mg A) : FnOk P w K mg base CX0 3 A.is_pair_of A.is_pair_of_fd ["around", "origin", "target"] (spE (oRA A) false 3 d_is_pair_of) := by
  refine T.F_is_pair_of.ok sc_is_pair_of (fun vs H Q E h => len_E h) (fun cdv A' outer s H vs Q E hr h => ?_)
  have hu := hu_of hr
  refine ⟨_, (pss_one (ps_ret (pe_and (pe_call (okd_is_among T) (hr.mono (by decide)) (by rfl) T.m_is_among T.F_is_among.kp T.b_is_among .nil pass0 (pa_cons (pv 0) (pa_cons (pv 1) pa_nil))) (pe_and (pe_call (okd_is_among T) (hr.mono (by decide)) (by rfl) T.m_is_among T.F_is_among.kp T.b_is_among .nil pass0 (pa_cons (pv 0) (pa_cons (pv 2) pa_nil))) (pe_one (show PE _ _ (tOp (rNeD K) _ _) from pe_cmpR (op_neD hr.units) (pv 1) (pv 2) (nomark _))))))), ?_⟩
  exact body_E (es := e_is_pair_of) ((wb_ret (we_and (we_call (wa_cons we_var (wa_cons we_var wa_nil))) (we_and (we_call (wa_cons we_var (wa_cons we_var wa_nil))) (we_op od_ne (wo_of we_var) (wo_of we_var)))))) h
end
end K61
set_option Elab.async false
set_option linter.all false
set_option maxRecDepth 100000
set_option maxHeartbeats 4000000
namespace K61
open PySem PySem.Spec PyProof.Rows L2 TM Pr Ep Nw DL
section
variable {P : Program} {w : World} {K : PySem.W.Frag} {mg : Str → Option Value} {base : Heap} {A : Adr}
def e_is_entry : ES := (sSeq (sIf (eOrT (eNotT (eB (eIsi "tuple" (eVar 1)))) (eB (eOp neD (eUn lenD (eVar 1)) (eC (.int 3))))) (sRet (eC (.bl false))) sNext) (sRet (eAnd (eCall 3 d_is_pair_of (eaCons (eVar 0) (eaCons (eOp ixD (eVar 1) (eC (.int 0))) (eaCons (eOp ixD (eVar 1) (eC (.int 1))) eaNil)))) (eAnd (eCall 1 d_is_count (eaCons (eOp ixD (eVar 1) (eC (.int 2))) eaNil)) (eOp gtD (eOp ixD (eVar 1) (eC (.int 2))) (eC (.int 0)))))))
def d_is_entry : List D → (D → Prop) → Prop := fun ds k => e_is_entry (env0 false n_is_entry ds) (knE k)
theorem okd_is_entry (T : Txt K mg A) : FnOk P w K mg base CX0 4 A.is_entry A.is_entry_fd ["around", "value"] (spE (oRA A) false 2 d_is_entry) := by
  refine T.F_is_entry.ok sc_is_entry (fun vs H Q E h => len_E h) (fun cdv A' outer s H vs Q E hr h => ?_)
  have hu := hu_of hr
  refine ⟨_, (pss_cons (ps_if (PW.pt (pw_or (pt_not (pt_val (show PE _ _ (tCB (rIsi K) _) from (pe_callB (id := "isinstance") call_isi (by rfl) T.n_isinstance (by decide +kernel) (pa_cons (pv 1) (pa_cons (pe_bltn (v := .ty "tuple") (by rfl) T.n_tuple (by decide +kernel) rfl) pa_nil)))))) (pw_or1 (show PT _ _ (tTest (tOp (rNeD K) _ _)) from pt_cmpR (op_neD hr.units) (show PE _ _ (tCB (rLenA K) _) from (pe_callB (id := "len") call_len (by rfl) T.n_len (by decide +kernel) (pa_cons (pv 1) pa_nil))) pe_int (nomark _))))) (pss_one (ps_ret pe_bl)) pss_nil) (pss_one (ps_ret (pe_and (pe_call (okd_is_pair_of T) (hr.mono (by decide)) (by rfl) T.m_is_pair_of T.F_is_pair_of.kp T.b_is_pair_of .nil pass0 (pa_cons (pv 0) (pa_cons (show PE _ _ (tOp (rIx K) _ _) from pe_ix ix_seq (pv 1) pe_int (fun _ _ => rfl)) (pa_cons (show PE _ _ (tOp (rIx K) _ _) from pe_ix ix_seq (pv 1) pe_int (fun _ _ => rfl)) pa_nil)))) (pe_and (pe_call (okd_is_count T) (hr.mono (by decide)) (by rfl) T.m_is_count T.F_is_count.kp T.b_is_count .nil pass0 (pa_cons (show PE _ _ (tOp (rIx K) _ _) from pe_ix ix_seq (pv 1) pe_int (fun _ _ => rfl)) pa_nil)) (pe_one (show PE _ _ (tOp (rI0 fun i j => V.bl (decide (j < i))) _ _) from pe_cmpR op_gt (show PE _ _ (tOp (rIx K) _ _) from pe_ix ix_seq (pv 1) pe_int (fun _ _ => rfl)) pe_int (nomark _)))))))), ?_⟩
  exact body_E (es := e_is_entry) ((wb_seq (wb_if (wt_or (wt_not (wt_B (we_isi (wo_of we_var)))) (wt_test (we_op od_ne (wo_of (we_cb1 ud_len (wo_of we_var))) (wo_of we_int)))) (wb_ret we_bl) wb_next) (wb_ret (we_and (we_call (wa_cons we_var (wa_cons (we_op od_ix (wo_of we_var) (wo_of we_int)) (wa_cons (we_op od_ix (wo_of we_var) (wo_of we_int)) wa_nil)))) (we_and (we_call (wa_cons (we_op od_ix (wo_of we_var) (wo_of we_int)) wa_nil)) (we_op od_gt (wo_of (we_op od_ix (wo_of we_var) (wo_of we_int))) (wo_of we_int))))))) h
end
end K61
set_option Elab.async false
set_option linter.all false
set_option maxRecDepth 100000
set_option maxHeartbeats 4000000
namespace K61
open PySem PySem.Spec PyProof.Rows L2 TM Pr Ep Nw DL
section
variable {P : Program} {w : World} {K : PySem.W.Frag} {mg : Str → Option Value} {base : Heap} {A : Adr}
def e_is_row : ES := (sRet (eIsi2 "list" "tuple" (eVar 0)))
def d_is_row : List D → (D → Prop) → Prop := fun ds k => e_is_row (env0 false n_is_row ds) (knE k)
theorem okd_is_row (T : Txt K mg A) : FnOk P w K mg base CX0 1 A.is_row A.is_row_fd ["value"] (spE (oRA A) false 1 d_is_row) := by
  refine T.F_is_row.ok sc_is_row (fun vs H Q E h => len_E h) (fun cdv A' outer s H vs Q E hr h => ?_)
  have hu := hu_of hr
  refine ⟨_, (pss_one (ps_ret (show PE _ _ (tCB (rIsiT K) _) from (pe_callB (id := "isinstance") call_isiT (by rfl) T.n_isinstance (by decide +kernel) (pa_cons (pv 0) (pa_cons (pe_tup (pa_cons (pe_bltn (v := .ty "list") (by rfl) T.n_list (by decide +kernel) rfl) (pa_cons (pe_bltn (v := .ty "tuple") (by rfl) T.n_tuple (by decide +kernel) rfl) pa_nil))) pa_nil)))))), ?_⟩
  exact body_E (es := e_is_row) ((wb_ret (we_isi2 (wo_of we_var)))) h
end
end K61
set_option Elab.async false
set_option linter.all false
set_option maxRecDepth 100000
set_option maxHeartbeats 4000000
namespace K61
open PySem PySem.Spec PyProof.Rows L2 TM Pr Ep Nw DL
section
variable {P : Program} {w : World} {K : PySem.W.Frag} {mg : Str → Option Value} {base : Heap} {A : Adr}
def e_is_load_of : ES := (sSeq (sIf (eOrT (eNotT (eB (eCall 1 d_is_row (eaCons (eVar 1) eaNil)))) (eNotT (eB (eUn allD (eF (eLc (eSeq (eVar 1)) (egName 3) eYes (eCall 2 d_is_entry (eaCons (eVar 0) (eaCons (eVar 3) eaNil))) [3])))))) (sRet (eC (.bl false))) sNext) (sSeq (sAsg (eF (eLc (eSeq (eVar 1)) (egTup 3 (egCons (egName 4) (egCons (egName 5) (egCons (egName 6) egNil)))) eYes (eTup (eaCons (eVar 4) (eaCons (eVar 5) eaNil))) [4, 5, 6])) (egName 2)) (sRet (eUn allD (eF (eLc (eRng1 (eOp subD (eUn lenD (eVar 2)) (eC (.int 1)))) (egName 7) eYes (eOp ltU (eOp ixD (eVar 2) (eVar 7)) (eOp ixD (eVar 2) (eOp addU (eVar 7) (eC (.int 1))))) [7]))))))
def d_is_load_of : List D → (D → Prop) → Prop := fun ds k => e_is_load_of (env0 false n_is_load_of ds) (knE k)
theorem okd_is_load_of (T : Txt K mg A) : FnOk P w K mg base CX0 5 A.is_load_of A.is_load_of_fd ["around", "value"] (spE (oRA A) false 2 d_is_load_of) := by
  refine T.F_is_load_of.ok sc_is_load_of (fun vs H Q E h => len_E h) (fun cdv A' outer s H vs Q E hr h => ?_)
  have hu := hu_of hr
  refine ⟨_, (pss_cons (ps_if (PW.pt (pw_or (pt_not (pt_val (pe_call (okd_is_row T) (hr.mono (by decide)) (by rfl) T.m_is_row T.F_is_row.kp T.b_is_row .nil pass0 (pa_cons (pv 1) pa_nil)))) (pw_or1 (pt_not (pt_val (show PE _ _ (tCB (rAll K) _) from (pe_callB (id := "all") (cr_all rfl) (by rfl) T.n_all (by decide +kernel) (pa_cons (pe_lc (own := [("entry", 3)]) rfl sc_is_load_of.nd (show PI _ _ _ (iSeq K _) from pi_seqU (pv 1)) (blkOk_by (N := n_is_load_of) (sc := defScope s_is_load_of) (by decide +kernel)) (fun _ _ _ _ _ => (pg_name (i := 3) sc_is_load_of.nd rfl (Or.inl rfl))) (fun _ _ _ _ _ => pts_nil) (fun _ _ _ _ _ => (pe_call (okd_is_entry T) (hr.mono (by decide)) (by rfl) T.m_is_entry T.F_is_entry.kp T.b_is_entry .nil pass0 (pa_cons (pv 0) (pa_cons (pv 3) pa_nil))))) pa_nil)))))))) (pss_one (ps_ret pe_bl)) pss_nil) (pss_cons (ps_set (i := 2) sc_is_load_of.nd rfl (Or.inr rfl) (pe_lc (own := [("origin", 4), ("target", 5), ("_", 6)]) rfl sc_is_load_of.nd (show PI _ _ _ (iSeq K _) from pi_seqU (pv 1)) (blkOk_by (N := n_is_load_of) (sc := defScope s_is_load_of) (by decide +kernel)) (fun _ _ _ _ _ => (show PG _ _ (gTup K 3 _) from pg_tup rfl (pgs_cons (pg_name (i := 4) sc_is_load_of.nd rfl (Or.inl rfl)) (pgs_cons (pg_name (i := 5) sc_is_load_of.nd rfl (Or.inl rfl)) (pgs_cons (pg_name (i := 6) sc_is_load_of.nd rfl (Or.inl rfl)) pgs_nil))))) (fun _ _ _ _ _ => pts_nil) (fun _ _ _ _ _ => (pe_tup (pa_cons (pv 4) (pa_cons (pv 5) pa_nil)))))) (pss_one (ps_ret (show PE _ _ (tCB (rAll K) _) from (pe_callB (id := "all") (cr_all rfl) (by rfl) T.n_all (by decide +kernel) (pa_cons (pe_lc (own := [("at", 7)]) rfl sc_is_load_of.nd (pi_range1 (by rfl) T.n_range (pa_cons (pe_op op_sub (show PE _ _ (tCB (rLenA K) _) from (pe_callB (id := "len") call_len (by rfl) T.n_len (by decide +kernel) (pa_cons (pv 2) pa_nil))) pe_int) pa_nil)) (blkOk_by (N := n_is_load_of) (sc := defScope s_is_load_of) (by decide +kernel)) (fun _ _ _ _ _ => (pg_name (i := 7) sc_is_load_of.nd rfl (Or.inl rfl))) (fun _ _ _ _ _ => pts_nil) (fun _ _ _ _ _ => (show PE _ _ (tOp (rLtU K) _ _) from pe_cmpR (op_ltU hr.units) (show PE _ _ (tOp (rIx K) _ _) from pe_ix ix_seq (pv 2) (pv 7) (fun _ _ => rfl)) (show PE _ _ (tOp (rIx K) _ _) from pe_ix ix_seq (pv 2) (show PE _ _ (tOp (rAddU K) _ _) from pe_op op_addU (pv 7) pe_int) (fun _ _ => rfl)) (nomark _)))) pa_nil))))))), ?_⟩
  exact body_E (es := e_is_load_of) ((wb_seq (wb_if (wt_or (wt_not (wt_B (we_call (wa_cons we_var wa_nil)))) (wt_not (wt_B (we_cb1 ud_all (wo_of (we_of_wf (wf_lc (wi_seq we_var) wg_name (by decide) wt_yes (we_call (wa_cons we_var (wa_cons we_var wa_nil)))))))))) (wb_ret we_bl) wb_next) (wb_seq (wb_asg (we_of_wf (wf_lc (wi_seq we_var) (wg_tup (wgs_cons wg_name (wgs_cons wg_name (wgs_cons wg_name wgs_nil)))) (by decide) wt_yes (we_tup (wa_cons we_var (wa_cons we_var wa_nil))))) wg_name) (wb_ret (we_cb1 ud_all (wo_of (we_of_wf (wf_lc (wi_rng1 (we_op od_sub (wo_of (we_cb1 ud_len (wo_of we_var))) (wo_of we_int))) wg_name (by decide) wt_yes (we_op od_ltU (wo_of (we_op od_ix (wo_of we_var) (wo_of we_var))) (wo_of (we_op od_ix (wo_of we_var) (wo_of (we_op od_addU (wo_of we_var) (wo_of we_int)))))))))))))) h
end
end K61
set_option Elab.async false
set_option linter.all false
set_option maxRecDepth 100000
set_option maxHeartbeats 4000000
namespace K61
open PySem PySem.Spec PyProof.Rows L2 TM Pr Ep Nw DL
section
variable {P : Program} {w : World} {K : PySem.W.Frag} {mg : Str → Option Value} {base : Heap} {A : Adr}
def e_are_seen : ES := (sRet (eAnd (eCall 1 d_is_row (eaCons (eVar 1) eaNil)) (eAnd (eOp leD (eUn lenD (eVar 1)) (eC (.int 12))) (eUn allD (eF (eLc (eSeq (eVar 1)) (egName 2) eYes (eCall 2 d_is_load_of (eaCons (eVar 0) (eaCons (eVar 2) eaNil))) [2]))))))
def d_are_seen : List D → (D → Prop) → Prop := fun ds k => e_are_seen (env0 false n_are_seen ds) (knE k)
theorem okd_are_seen (T : Txt K mg A) : FnOk P w K mg base CX0 6 A.are_seen A.are_seen_fd ["around", "value"] (spE (oRA A) false 2 d_are_seen) := by
  refine T.F_are_seen.ok sc_are_seen (fun vs H Q E h => len_E h) (fun cdv A' outer s H vs Q E hr h => ?_)
  have hu := hu_of hr
  refine ⟨_, (pss_one (ps_ret (pe_and (pe_call (okd_is_row T) (hr.mono (by decide)) (by rfl) T.m_is_row T.F_is_row.kp T.b_is_row .nil pass0 (pa_cons (pv 1) pa_nil)) (pe_and (show PE _ _ (tOp (rI0 fun i j => V.bl (decide (i ≤ j))) _ _) from pe_cmpR op_le (show PE _ _ (tCB (rLenA K) _) from (pe_callB (id := "len") call_len (by rfl) T.n_len (by decide +kernel) (pa_cons (pv 1) pa_nil))) (pe_globI rfl T.g_MOST_SEEN) (nomark _)) (pe_one (show PE _ _ (tCB (rAll K) _) from (pe_callB (id := "all") (cr_all rfl) (by rfl) T.n_all (by decide +kernel) (pa_cons (pe_lc (own := [("load", 2)]) rfl sc_are_seen.nd (show PI _ _ _ (iSeq K _) from pi_seqU (pv 1)) (blkOk_by (N := n_are_seen) (sc := defScope s_are_seen) (by decide +kernel)) (fun _ _ _ _ _ => (pg_name (i := 2) sc_are_seen.nd rfl (Or.inl rfl))) (fun _ _ _ _ _ => pts_nil) (fun _ _ _ _ _ => (pe_call (okd_is_load_of T) (hr.mono (by decide)) (by rfl) T.m_is_load_of T.F_is_load_of.kp T.b_is_load_of .nil pass0 (pa_cons (pv 0) (pa_cons (pv 2) pa_nil))))) pa_nil)))))))), ?_⟩
  exact body_E (es := e_are_seen) ((wb_ret (we_and (we_call (wa_cons we_var wa_nil)) (we_and (we_op od_le (wo_of (we_cb1 ud_len (wo_of we_var))) (wo_of we_int)) (we_cb1 ud_all (wo_of (we_of_wf (wf_lc (wi_seq we_var) wg_name (by decide) wt_yes (we_call (wa_cons we_var (wa_cons we_var wa_nil))))))))))) h
end
end K61
set_option Elab.async false
set_option linter.all false
set_option maxRecDepth 100000
set_option maxHeartbeats 4000000
namespace K61
open PySem PySem.Spec PyProof.Rows L2 TM Pr Ep Nw DL
section
variable {P : Program} {w : World} {K : PySem.W.Frag} {mg : Str → Option Value} {base : Heap} {A : Adr}
def e_carts_of : ES := (sRet (eUn sumU (eF (eLc (eSeq (eVar 0)) (egTup 3 (egCons (egName 3) (egCons (egName 4) (egCons (egName 5) egNil)))) (eAndT (eB (eOp (inD false) (eVar 1) (eTup (eaCons (eC .non) (eaCons (eVar 3) eaNil))))) (eB (eOp (inD false) (eVar 2) (eTup (eaCons (eC .non) (eaCons (eVar 4) eaNil)))))) (eVar 5) [3, 4, 5]))))
def d_carts_of : List D → (D → Prop) → Prop := fun ds k => e_carts_of (env0 false n_carts_of ds) (knE k)
theorem okd_carts_of (T : Txt K mg A) : FnOk P w K mg base CX0 1 A.carts_of A.carts_of_fd ["load", "origin", "target"] (spE (oRA A) false 3 d_carts_of) := by
  refine T.F_carts_of.ok sc_carts_of (fun vs H Q E h => len_E h) (fun cdv A' outer s H vs Q E hr h => ?_)
  have hu := hu_of hr
  refine ⟨_, (pss_one (ps_ret (show PE _ _ (tCB (rSumA K) _) from (pe_callB (id := "sum") (cr_sumA rfl) (by rfl) T.n_sum (by decide +kernel) (pa_cons (pe_lc (own := [("start", 3), ("end", 4), ("many", 5)]) rfl sc_carts_of.nd (show PI _ _ _ (iSeq K _) from pi_seqU (pv 0)) (blkOk_by (N := n_carts_of) (sc := defScope s_carts_of) (by decide +kernel)) (fun _ _ _ _ _ => (show PG _ _ (gTup K 3 _) from pg_tup rfl (pgs_cons (pg_name (i := 3) sc_carts_of.nd rfl (Or.inl rfl)) (pgs_cons (pg_name (i := 4) sc_carts_of.nd rfl (Or.inl rfl)) (pgs_cons (pg_name (i := 5) sc_carts_of.nd rfl (Or.inl rfl)) pgs_nil))))) (fun _ _ _ _ _ => (pts_one (PW.pt (pw_and (show PT _ _ (tTest (tOp (rInU K false) _ _)) from pt_cmpR (op_inU hr.u65) (pv 1) (pe_tup (pa_cons pe_non (pa_cons (pv 3) pa_nil))) (by rfl)) (pw_and1 (show PT _ _ (tTest (tOp (rInU K false) _ _)) from pt_cmpR (op_inU hr.u65) (pv 2) (pe_tup (pa_cons pe_non (pa_cons (pv 4) pa_nil))) (by rfl))))))) (fun _ _ _ _ _ => (pv 5))) pa_nil))))), ?_⟩
  exact body_E (es := e_carts_of) ((wb_ret (we_cb1 ud_sumU (wo_of (we_of_wf (wf_lc (wi_seq we_var) (wg_tup (wgs_cons wg_name (wgs_cons wg_name (wgs_cons wg_name wgs_nil)))) (by decide) (wt_and (wt_test (we_op od_in (wo_of we_var) (wo_of (we_tup (wa_cons we_non (wa_cons we_var wa_nil)))))) (wt_test (we_op od_in (wo_of we_var) (wo_of (we_tup (wa_cons we_non (wa_cons we_var wa_nil))))))) we_var)))))) h
end
end K61
set_option Elab.async false
set_option linter.all false
set_option maxRecDepth 100000
set_option maxHeartbeats 4000000
namespace K61
open PySem PySem.Spec PyProof.Rows L2 TM Pr Ep Nw DL
section
variable {P : Program} {w : World} {K : PySem.W.Frag} {mg : Str → Option Value} {base : Heap} {A : Adr}
def e_is_yard : ES := (sRet (eAnd (eCall 1 d_is_count (eaCons (eVar 1) eaNil)) (eOp (inD false) (eVar 1) (eF (ePropF isCty b_yards (eVar 0))))))
def d_is_yard : List D → (D → Prop) → Prop := fun ds k => e_is_yard (env0 false n_is_yard ds) (knE k)
theorem okd_is_yard (T : Txt K mg A) : FnOk P w K mg base CX0 3 A.is_yard A.is_yard_fd ["country", "value"] (spE (oRA A) false 2 d_is_yard) := by
  refine T.F_is_yard.ok sc_is_yard (fun vs H Q E h => len_E h) (fun cdv A' outer s H vs Q E hr h => ?_)
  have hu := hu_of hr
  refine ⟨_, (pss_one (ps_ret (pe_and (pe_call (okd_is_count T) (hr.mono (by decide)) (by rfl) T.m_is_count T.F_is_count.kp T.b_is_count .nil pass0 (pa_cons (pv 1) pa_nil)) (pe_one (show PE _ _ (tOp (rInU K false) _ _) from pe_cmpR (op_inU hr.u65) (pv 1) (pe_prop (pv 0) T.cl_Country T.pr_Country_yards (okb_Country_yards T) (hr.mono (by decide)) T.b_Country_yards .nil pass0 rfl) (by rfl)))))), ?_⟩
  exact body_E (es := e_is_yard) ((wb_ret (we_and (we_call (wa_cons we_var wa_nil)) (we_op od_in (wo_of we_var) (wo_of (we_of_wf (wf_prop (m := "yards") (ins_cty rfl) we_var))))))) h
end
end K61
set_option Elab.async false
set_option linter.all false
set_option maxRecDepth 100000
set_option maxHeartbeats 4000000
namespace K61
open PySem PySem.Spec PyProof.Rows L2 TM Pr Ep Nw DL
section
variable {P : Program} {w : World} {K : PySem.W.Frag} {mg : Str → Option Value} {base : Heap} {A : Adr}
def e_check_yard : ES := (sIf (eNotT (eB (eCall 2 d_is_yard (eaCons (eVar 0) (eaCons (eVar 1) eaNil))))) sNever sNext)
def d_check_yard : List D → (D → Prop) → Prop := fun ds k => e_check_yard (env0 false n_check_yard ds) (knE k)
theorem okd_check_yard (T : Txt K mg A) : FnOk P w K mg base CX0 4 A.check_yard A.check_yard_fd ["country", "yard"] (spE (oRA A) false 2 d_check_yard) := by
  refine T.F_check_yard.ok sc_check_yard (fun vs H Q E h => len_E h) (fun cdv A' outer s H vs Q E hr h => ?_)
  have hu := hu_of hr
  refine ⟨_, (pss_one (ps_if (pt_not (pt_val (pe_call (okd_is_yard T) (hr.mono (by decide)) (by rfl) T.m_is_yard T.F_is_yard.kp T.b_is_yard .nil pass0 (pa_cons (pv 0) (pa_cons (pv 1) pa_nil))))) (pss_one ps_never) pss_nil)), ?_⟩
  exact body_E (es := e_check_yard) ((wb_if (wt_not (wt_B (we_call (wa_cons we_var (wa_cons we_var wa_nil))))) wb_never wb_next)) h
end
end K61
set_option Elab.async false
set_option linter.all false
set_option maxRecDepth 100000
set_option maxHeartbeats 4000000
namespace K61
open PySem PySem.Spec PyProof.Rows L2 TM Pr Ep Nw DL
section
variable {P : Program} {w : World} {K : PySem.W.Frag} {mg : Str → Option Value} {base : Heap} {A : Adr}
def e_check_country_and_yard : ES := (sSeq (sDrop (eCall 1 b_checkC (eaCons (eVar 0) eaNil))) (sDrop (eCall 2 d_check_yard (eaCons (eVar 0) (eaCons (eVar 1) eaNil)))))
def d_check_country_and_yard : List D → (D → Prop) → Prop := fun ds k => e_check_country_and_yard (env0 false n_check_country_and_yard ds) (knE k)
theorem okd_check_country_and_yard (T : Txt K mg A) : FnOk P w K mg base CX0 5 A.check_country_and_yard A.check_country_and_yard_fd ["country", "yard"] (spE (oRA A) false 2 d_check_country_and_yard) := by
  refine T.F_check_country_and_yard.ok sc_check_country_and_yard (fun vs H Q E h => len_E h) (fun cdv A' outer s H vs Q E hr h => ?_)
  have hu := hu_of hr
  refine ⟨_, (pss_cons (ps_expr (pe_call (okb_check_country T) (hr.mono (by decide)) (by rfl) T.m_check_country T.F_check_country.kp T.b_check_country .nil pass0 (pa_cons (pv 0) pa_nil))) (pss_one (ps_expr (pe_call (okd_check_yard T) (hr.mono (by decide)) (by rfl) T.m_check_yard T.F_check_yard.kp T.b_check_yard .nil pass0 (pa_cons (pv 0) (pa_cons (pv 1) pa_nil)))))), ?_⟩
  exact body_E (es := e_check_country_and_yard) ((wb_seq (wb_drop (wo_of (we_call (wa_cons we_var wa_nil)))) (wb_drop (wo_of (we_call (wa_cons we_var (wa_cons we_var wa_nil))))))) h
end
end K61
set_option Elab.async false
set_option linter.all false
set_option maxRecDepth 100000
set_option maxHeartbeats 4000000
namespace K61
open PySem PySem.Spec PyProof.Rows L2 TM Pr Ep Nw DL
section
variable {P : Program} {w : World} {K : PySem.W.Frag} {mg : Str → Option Value} {base : Heap} {A : Adr}
def e_is_within : ES := (sSeq (sAsg (eDcT (eSeq (eVar 1)) (egTup 3 (egCons (egName 3) (egCons (egName 4) (egCons (egName 5) egNil)))) (eTup (eaCons (eVar 3) (eaCons (eVar 4) eaNil))) (eVar 5) [3, 4, 5]) (egName 2)) (sRet (eUn allD (eF (eLc (eSeq (eVar 0)) (egTup 3 (egCons (egName 3) (egCons (egName 4) (egCons (egName 5) egNil)))) eYes (eOp leD (eVar 5) (eGet2 (eVar 2) (eTup (eaCons (eVar 3) (eaCons (eVar 4) eaNil))) (eC (.int 0)))) [3, 4, 5])))))
def d_is_within : List D → (D → Prop) → Prop := fun ds k => e_is_within (env0 false n_is_within ds) (knE k)
theorem okd_is_within (T : Txt K mg A) : FnOk P w K mg base CX0 1 A.is_within A.is_within_fd ["load", "other"] (spE (oRA A) false 2 d_is_within) := by
  refine T.F_is_within.ok sc_is_within (fun vs H Q E h => len_E h) (fun cdv A' outer s H vs Q E hr h => ?_)
  have hu := hu_of hr
  refine ⟨_, (pss_cons (ps_set (i := 2) sc_is_within.nd rfl (Or.inr rfl) (DC.pe_dcT hu (own := [("origin", 3), ("target", 4), ("many", 5)]) rfl sc_is_within.nd (show PI _ _ _ (iSeq K _) from pi_seqU (pv 1)) (blkOk_by (N := n_is_within) (sc := defScope s_is_within) (by decide +kernel)) (fun _ _ _ _ _ => (show PG _ _ (gTup K 3 _) from pg_tup rfl (pgs_cons (pg_name (i := 3) sc_is_within.nd rfl (Or.inl rfl)) (pgs_cons (pg_name (i := 4) sc_is_within.nd rfl (Or.inl rfl)) (pgs_cons (pg_name (i := 5) sc_is_within.nd rfl (Or.inl rfl)) pgs_nil))))) (fun _ _ _ _ _ => pts_nil) (fun _ _ _ _ _ => (pe_tup (pa_cons (pv 3) (pa_cons (pv 4) pa_nil)))) (fun _ _ _ _ _ => (pv 5)))) (pss_one (ps_ret (show PE _ _ (tCB (rAll K) _) from (pe_callB (id := "all") (cr_all rfl) (by rfl) T.n_all (by decide +kernel) (pa_cons (pe_lc (own := [("origin", 3), ("target", 4), ("many", 5)]) rfl sc_is_within.nd (show PI _ _ _ (iSeq K _) from pi_seqU (pv 0)) (blkOk_by (N := n_is_within) (sc := defScope s_is_within) (by decide +kernel)) (fun _ _ _ _ _ => (show PG _ _ (gTup K 3 _) from pg_tup rfl (pgs_cons (pg_name (i := 3) sc_is_within.nd rfl (Or.inl rfl)) (pgs_cons (pg_name (i := 4) sc_is_within.nd rfl (Or.inl rfl)) (pgs_cons (pg_name (i := 5) sc_is_within.nd rfl (Or.inl rfl)) pgs_nil))))) (fun _ _ _ _ _ => pts_nil) (fun _ _ _ _ _ => (show PE _ _ (tOp (rI0 fun i j => V.bl (decide (i ≤ j))) _ _) from pe_cmpR op_le (pv 5) (pe_dget2 hu (pv 2) (pe_tup (pa_cons (pv 3) (pa_cons (pv 4) pa_nil))) pe_int ⟨rfl, rfl, rfl, rfl⟩) (nomark _)))) pa_nil)))))), ?_⟩
  exact body_E (es := e_is_within) ((wb_seq (wb_asg (we_dcT (wi_seq we_var) (wg_tup (wgs_cons wg_name (wgs_cons wg_name (wgs_cons wg_name wgs_nil)))) (by decide) (we_tup (wa_cons we_var (wa_cons we_var wa_nil))) we_var) wg_name) (wb_ret (we_cb1 ud_all (wo_of (we_of_wf (wf_lc (wi_seq we_var) (wg_tup (wgs_cons wg_name (wgs_cons wg_name (wgs_cons wg_name wgs_nil)))) (by decide) wt_yes (we_op od_le (wo_of we_var) (wo_of (we_get2 (wo_of we_var) (we_tup (wa_cons we_var (wa_cons we_var wa_nil))) we_int)))))))))) h
end
end K61
set_option Elab.async false
set_option linter.all false
set_option maxRecDepth 100000
set_option maxHeartbeats 4000000
namespace K61
open PySem PySem.Spec PyProof.Rows L2 TM Pr Ep Nw DL
section
variable {P : Program} {w : World} {K : PySem.W.Frag} {mg : Str → Option Value} {base : Heap} {A : Adr}
def e_is_surely_let : ES := (sRet (eOr (eOp leD (eCall 3 d_carts_of (eaCons (eVar 1) (eaCons (eC .non) (eaCons (eC .non) eaNil)))) (eC (.int 1))) (eUn anyD (eF (eLc (eSeq (eOp ixD (eVar 0) (eC (.int 1)))) (egName 2) eYes (eCall 2 d_is_within (eaCons (eVar 1) (eaCons (eVar 2) eaNil))) [2])))))
def d_is_surely_let : List D → (D → Prop) → Prop := fun ds k => e_is_surely_let (env0 false n_is_surely_let ds) (knE k)
theorem okd_is_surely_let (T : Txt K mg A) : FnOk P w K mg base CX0 2 A.is_surely_let A.is_surely_let_fd ["known", "load"] (spE (oRA A) false 2 d_is_surely_let) := by
  refine T.F_is_surely_let.ok sc_is_surely_let (fun vs H Q E h => len_E h) (fun cdv A' outer s H vs Q E hr h => ?_)
  have hu := hu_of hr
  refine ⟨_, (pss_one (ps_ret (pe_or (show PE _ _ (tOp (rI0 fun i j => V.bl (decide (i ≤ j))) _ _) from pe_cmpR op_le (pe_call (okd_carts_of T) (hr.mono (by decide)) (by rfl) T.m_carts_of T.F_carts_of.kp T.b_carts_of .nil pass0 (pa_cons (pv 1) (pa_cons pe_non (pa_cons pe_non pa_nil)))) pe_int (nomark _)) (pe_one (show PE _ _ (tCB (rAny K) _) from (pe_callB (id := "any") (cr_any rfl) (by rfl) T.n_any (by decide +kernel) (pa_cons (pe_lc (own := [("seen", 2)]) rfl sc_is_surely_let.nd (show PI _ _ _ (iSeq K _) from pi_seqU (show PE _ _ (tOp (rIx K) _ _) from pe_ix ix_seq (pv 0) pe_int (fun _ _ => rfl))) (blkOk_by (N := n_is_surely_let) (sc := defScope s_is_surely_let) (by decide +kernel)) (fun _ _ _ _ _ => (pg_name (i := 2) sc_is_surely_let.nd rfl (Or.inl rfl))) (fun _ _ _ _ _ => pts_nil) (fun _ _ _ _ _ => (pe_call (okd_is_within T) (hr.mono (by decide)) (by rfl) T.m_is_within T.F_is_within.kp T.b_is_within .nil pass0 (pa_cons (pv 1) (pa_cons (pv 2) pa_nil))))) pa_nil))))))), ?_⟩
  exact body_E (es := e_is_surely_let) ((wb_ret (we_or (we_op od_le (wo_of (we_call (wa_cons we_var (wa_cons we_non (wa_cons we_non wa_nil))))) (wo_of we_int)) (we_cb1 ud_any (wo_of (we_of_wf (wf_lc (wi_seq (we_op od_ix (wo_of we_var) (wo_of we_int))) wg_name (by decide) wt_yes (we_call (wa_cons we_var (wa_cons we_var wa_nil)))))))))) h
end
end K61
set_option Elab.async false
set_option linter.all false
set_option maxRecDepth 100000
set_option maxHeartbeats 4000000
namespace K61
open PySem PySem.Spec PyProof.Rows L2 TM Pr Ep Nw DL
section
variable {P : Program} {w : World} {K : PySem.W.Frag} {mg : Str → Option Value} {base : Heap} {A : Adr}
def e_is_known_of : ES := (sSeq (sIf (eOrT (eNotT (eB (eIsi "tuple" (eVar 1)))) (eB (eOp neD (eUn lenD (eVar 1)) (eC (.int 3))))) (sRet (eC (.bl false))) sNext) (sSeq (sAsg (eVar 1) (egTup 3 (egCons (egName 2) (egCons (egName 3) (egCons (egName 4) egNil))))) (sSeq (sIf (eOrT (eNotT (eB (eCall 1 d_is_count (eaCons (eVar 2) eaNil)))) (eNotT (eB (eChain leD leD (eC (.int 1)) (eVar 2) (eC (.int 6)))))) (sRet (eC (.bl false))) sNext) (sSeq (sIf (eOrT (eNotT (eB (eCall 2 d_are_seen (eaCons (eVar 0) (eaCons (eVar 3) eaNil))))) (eNotT (eB (eCall 2 d_are_seen (eaCons (eVar 0) (eaCons (eVar 4) eaNil)))))) (sRet (eC (.bl false))) sNext) (sSeq (sIf (eB (eUn anyD (eF (eLc (eSeq (eVar 3)) (egName 5) eYes (eOp gtD (eCall 3 d_carts_of (eaCons (eVar 5) (eaCons (eC .non) (eaCons (eC .non) eaNil)))) (eVar 2)) [5])))) (sRet (eC (.bl false))) sNext) (sRet (eNot (eUn anyD (eF (eLc (eSeq (eVar 4)) (egName 5) eYes (eCall 2 d_is_surely_let (eaCons (eVar 1) (eaCons (eVar 5) eaNil))) [5]))))))))))
def d_is_known_of : List D → (D → Prop) → Prop := fun ds k => e_is_known_of (env0 false n_is_known_of ds) (knE k)
theorem okd_is_known_of (T : Txt K mg A) : FnOk P w K mg base CX0 7 A.is_known_of A.is_known_of_fd ["around", "value"] (spE (oRA A) false 2 d_is_known_of) := by
  refine T.F_is_known_of.ok sc_is_known_of (fun vs H Q E h => len_E h) (fun cdv A' outer s H vs Q E hr h => ?_)
  have hu := hu_of hr
  refine ⟨_, (pss_cons (ps_if (PW.pt (pw_or (pt_not (pt_val (show PE _ _ (tCB (rIsi K) _) from (pe_callB (id := "isinstance") call_isi (by rfl) T.n_isinstance (by decide +kernel) (pa_cons (pv 1) (pa_cons (pe_bltn (v := .ty "tuple") (by rfl) T.n_tuple (by decide +kernel) rfl) pa_nil)))))) (pw_or1 (show PT _ _ (tTest (tOp (rNeD K) _ _)) from pt_cmpR (op_neD hr.units) (show PE _ _ (tCB (rLenA K) _) from (pe_callB (id := "len") call_len (by rfl) T.n_len (by decide +kernel) (pa_cons (pv 1) pa_nil))) pe_int (nomark _))))) (pss_one (ps_ret pe_bl)) pss_nil) (pss_cons (ps_asg (pv 1) (show PG _ _ (gTup K 3 _) from pg_tup rfl (pgs_cons (pg_name (i := 2) sc_is_known_of.nd rfl (Or.inr rfl)) (pgs_cons (pg_name (i := 3) sc_is_known_of.nd rfl (Or.inl rfl)) (pgs_cons (pg_name (i := 4) sc_is_known_of.nd rfl (Or.inl rfl)) pgs_nil))))) (pss_cons (ps_if (PW.pt (pw_or (pt_not (pt_val (pe_call (okd_is_count T) (hr.mono (by decide)) (by rfl) T.m_is_count T.F_is_count.kp T.b_is_count .nil pass0 (pa_cons (pv 2) pa_nil)))) (pw_or1 (pt_not (show PT _ _ (tTest (tChain (rI0 fun i j => V.bl (decide (i ≤ j))) (rI0 fun i j => V.bl (decide (i ≤ j))) _ _ _)) from pt_chain op_le op_le pe_int (pv 2) (pe_globI rfl T.g_MOST_PLACES)))))) (pss_one (ps_ret pe_bl)) pss_nil) (pss_cons (ps_if (PW.pt (pw_or (pt_not (pt_val (pe_call (okd_are_seen T) (hr.mono (by decide)) (by rfl) T.m_are_seen T.F_are_seen.kp T.b_are_seen .nil pass0 (pa_cons (pv 0) (pa_cons (pv 3) pa_nil))))) (pw_or1 (pt_not (pt_val (pe_call (okd_are_seen T) (hr.mono (by decide)) (by rfl) T.m_are_seen T.F_are_seen.kp T.b_are_seen .nil pass0 (pa_cons (pv 0) (pa_cons (pv 4) pa_nil)))))))) (pss_one (ps_ret pe_bl)) pss_nil) (pss_cons (ps_if (pt_val (show PE _ _ (tCB (rAny K) _) from (pe_callB (id := "any") (cr_any rfl) (by rfl) T.n_any (by decide +kernel) (pa_cons (pe_lc (own := [("load", 5)]) rfl sc_is_known_of.nd (show PI _ _ _ (iSeq K _) from pi_seqU (pv 3)) (blkOk_by (N := n_is_known_of) (sc := defScope s_is_known_of) (by decide +kernel)) (fun _ _ _ _ _ => (pg_name (i := 5) sc_is_known_of.nd rfl (Or.inl rfl))) (fun _ _ _ _ _ => pts_nil) (fun _ _ _ _ _ => (show PE _ _ (tOp (rI0 fun i j => V.bl (decide (j < i))) _ _) from pe_cmpR op_gt (pe_call (okd_carts_of T) (hr.mono (by decide)) (by rfl) T.m_carts_of T.F_carts_of.kp T.b_carts_of .nil pass0 (pa_cons (pv 5) (pa_cons pe_non (pa_cons pe_non pa_nil)))) (pv 2) (nomark _)))) pa_nil)))) (pss_one (ps_ret pe_bl)) pss_nil) (pss_one (ps_ret (pe_not (show PE _ _ (tCB (rAny K) _) from (pe_callB (id := "any") (cr_any rfl) (by rfl) T.n_any (by decide +kernel) (pa_cons (pe_lc (own := [("load", 5)]) rfl sc_is_known_of.nd (show PI _ _ _ (iSeq K _) from pi_seqU (pv 4)) (blkOk_by (N := n_is_known_of) (sc := defScope s_is_known_of) (by decide +kernel)) (fun _ _ _ _ _ => (pg_name (i := 5) sc_is_known_of.nd rfl (Or.inl rfl))) (fun _ _ _ _ _ => pts_nil) (fun _ _ _ _ _ => (pe_call (okd_is_surely_let T) (hr.mono (by decide)) (by rfl) T.m_is_surely_let T.F_is_surely_let.kp T.b_is_surely_let .nil pass0 (pa_cons (pv 1) (pa_cons (pv 5) pa_nil))))) pa_nil))))))))))), ?_⟩
  exact body_E (es := e_is_known_of) ((wb_seq (wb_if (wt_or (wt_not (wt_B (we_isi (wo_of we_var)))) (wt_test (we_op od_ne (wo_of (we_cb1 ud_len (wo_of we_var))) (wo_of we_int)))) (wb_ret we_bl) wb_next) (wb_seq (wb_asg we_var (wg_tup (wgs_cons wg_name (wgs_cons wg_name (wgs_cons wg_name wgs_nil))))) (wb_seq (wb_if (wt_or (wt_not (wt_B (we_call (wa_cons we_var wa_nil)))) (wt_not (wt_test (we_chain od_le od_le (wo_of we_int) (wo_of we_var) (wo_of we_int))))) (wb_ret we_bl) wb_next) (wb_seq (wb_if (wt_or (wt_not (wt_B (we_call (wa_cons we_var (wa_cons we_var wa_nil))))) (wt_not (wt_B (we_call (wa_cons we_var (wa_cons we_var wa_nil)))))) (wb_ret we_bl) wb_next) (wb_seq (wb_if (wt_B (we_cb1 ud_any (wo_of (we_of_wf (wf_lc (wi_seq we_var) wg_name (by decide) wt_yes (we_op od_gt (wo_of (we_call (wa_cons we_var (wa_cons we_non (wa_cons we_non wa_nil))))) (wo_of we_var))))))) (wb_ret we_bl) wb_next) (wb_ret (we_not (we_cb1 ud_any (wo_of (we_of_wf (wf_lc (wi_seq we_var) wg_name (by decide) wt_yes (we_call (wa_cons we_var (wa_cons we_var wa_nil))))))))))))))) h
end
end K61
set_option Elab.async false
set_option linter.all false
set_option maxRecDepth 100000
set_option maxHeartbeats 4000000
namespace K61
open PySem PySem.Spec PyProof.Rows L2 TM Pr Ep Nw DL
section
variable {P : Program} {w : World} {K : PySem.W.Frag} {mg : Str → Option Value} {base : Heap} {A : Adr}
def e_check_known : ES := (sIf (eNotT (eB (eCall 2 d_is_known_of (eaCons (eF (eMethF isCty 2 b_neighbours (eVar 0) (eaCons (eVar 1) eaNil))) (eaCons (eVar 2) eaNil))))) sNever sNext)
def d_check_known : List D → (D → Prop) → Prop := fun ds k => e_check_known (env0 false n_check_known ds) (knE k)
theorem okd_check_known (T : Txt K mg A) : FnOk P w K mg base CX0 8 A.check_known A.check_known_fd ["country", "yard", "known"] (spE (oRA A) false 3 d_check_known) := by
  refine T.F_check_known.ok sc_check_known (fun vs H Q E h => len_E h) (fun cdv A' outer s H vs Q E hr h => ?_)
  have hu := hu_of hr
  refine ⟨_, (pss_one (ps_if (pt_not (pt_val (pe_call (okd_is_known_of T) (hr.mono (by decide)) (by rfl) T.m_is_known_of T.F_is_known_of.kp T.b_is_known_of .nil pass0 (pa_cons (pe_meth (pv 0) T.cl_Country T.me_Country_neighbours (okb_Country_neighbours T) (hr.mono (by decide)) T.b_Country_neighbours .nil pass0 (pa_cons (pv 1) pa_nil)) (pa_cons (pv 2) pa_nil))))) (pss_one ps_never) pss_nil)), ?_⟩
  exact body_E (es := e_check_known) ((wb_if (wt_not (wt_B (we_call (wa_cons (we_of_wf (wf_meth (ins_cty rfl) we_var (wa_cons we_var wa_nil))) (wa_cons we_var wa_nil))))) wb_never wb_next)) h
end
end K61
set_option Elab.async false
set_option linter.all false
set_option maxRecDepth 100000
set_option maxHeartbeats 4000000
namespace K61
open PySem PySem.Spec PyProof.Rows L2 TM Pr Ep Nw DL
section
variable {P : Program} {w : World} {K : PySem.W.Frag} {mg : Str → Option Value} {base : Heap} {A : Adr}
def e_check_load : ES := (sIf (eNotT (eB (eCall 2 d_is_load_of (eaCons (eF (eMethF isCty 2 b_neighbours (eVar 0) (eaCons (eVar 1) eaNil))) (eaCons (eVar 2) eaNil))))) sNever sNext)
def d_check_load : List D → (D → Prop) → Prop := fun ds k => e_check_load (env0 false n_check_load ds) (knE k)
theorem okd_check_load (T : Txt K mg A) : FnOk P w K mg base CX0 6 A.check_load A.check_load_fd ["country", "yard", "load"] (spE (oRA A) false 3 d_check_load) := by
  refine T.F_check_load.ok sc_check_load (fun vs H Q E h => len_E h) (fun cdv A' outer s H vs Q E hr h => ?_)
  have hu := hu_of hr
  refine ⟨_, (pss_one (ps_if (pt_not (pt_val (pe_call (okd_is_load_of T) (hr.mono (by decide)) (by rfl) T.m_is_load_of T.F_is_load_of.kp T.b_is_load_of .nil pass0 (pa_cons (pe_meth (pv 0) T.cl_Country T.me_Country_neighbours (okb_Country_neighbours T) (hr.mono (by decide)) T.b_Country_neighbours .nil pass0 (pa_cons (pv 1) pa_nil)) (pa_cons (pv 2) pa_nil))))) (pss_one ps_never) pss_nil)), ?_⟩
  exact body_E (es := e_check_load) ((wb_if (wt_not (wt_B (we_call (wa_cons (we_of_wf (wf_meth (ins_cty rfl) we_var (wa_cons we_var wa_nil))) (wa_cons we_var wa_nil))))) wb_never wb_next)) h
end
end K61
set_option Elab.async false
set_option linter.all false
set_option maxRecDepth 100000
set_option maxHeartbeats 4000000
namespace K61
open PySem PySem.Spec PyProof.Rows L2 TM Pr Ep Nw DL
section
variable {P : Program} {w : World} {K : PySem.W.Frag} {mg : Str → Option Value} {base : Heap} {A : Adr}
def e_is_known : ES := (sSeq (sDrop (eCall 2 d_check_country_and_yard (eaCons (eVar 0) (eaCons (eVar 1) eaNil)))) (sRet (eCall 2 d_is_known_of (eaCons (eF (eMethF isCty 2 b_neighbours (eVar 0) (eaCons (eVar 1) eaNil))) (eaCons (eVar 2) eaNil)))))
def d_is_known : List D → (D → Prop) → Prop := fun ds k => e_is_known (env0 false n_is_known ds) (knE k)
theorem okd_is_known (T : Txt K mg A) : FnOk P w K mg base CX0 8 A.is_known A.is_known_fd ["country", "yard", "value"] (spE (oRA A) false 3 d_is_known) := by
  refine T.F_is_known.ok sc_is_known (fun vs H Q E h => len_E h) (fun cdv A' outer s H vs Q E hr h => ?_)
  have hu := hu_of hr
  refine ⟨_, (pss_cons (ps_expr (pe_call (okd_check_country_and_yard T) (hr.mono (by decide)) (by rfl) T.m_check_country_and_yard T.F_check_country_and_yard.kp T.b_check_country_and_yard .nil pass0 (pa_cons (pv 0) (pa_cons (pv 1) pa_nil)))) (pss_one (ps_ret (pe_call (okd_is_known_of T) (hr.mono (by decide)) (by rfl) T.m_is_known_of T.F_is_known_of.kp T.b_is_known_of .nil pass0 (pa_cons (pe_meth (pv 0) T.cl_Country T.me_Country_neighbours (okb_Country_neighbours T) (hr.mono (by decide)) T.b_Country_neighbours .nil pass0 (pa_cons (pv 1) pa_nil)) (pa_cons (pv 2) pa_nil)))))), ?_⟩
  exact body_E (es := e_is_known) ((wb_seq (wb_drop (wo_of (we_call (wa_cons we_var (wa_cons we_var wa_nil))))) (wb_ret (we_call (wa_cons (we_of_wf (wf_meth (ins_cty rfl) we_var (wa_cons we_var wa_nil))) (wa_cons we_var wa_nil)))))) h
end
end K61
set_option Elab.async false
set_option linter.all false
set_option maxRecDepth 100000
set_option maxHeartbeats 4000000
namespace K61
open PySem PySem.Spec PyProof.Rows L2 TM Pr Ep Nw DL
section
variable {P : Program} {w : World} {K : PySem.W.Frag} {mg : Str → Option Value} {base : Heap} {A : Adr}
def e_is_surely_refused : ES := (sRet (eOr (eOp gtD (eCall 3 d_carts_of (eaCons (eVar 1) (eaCons (eC .non) (eaCons (eC .non) eaNil)))) (eOp ixD (eVar 0) (eC (.int 0)))) (eUn anyD (eF (eLc (eSeq (eOp ixD (eVar 0) (eC (.int 2)))) (egName 2) eYes (eCall 2 d_is_within (eaCons (eVar 2) (eaCons (eVar 1) eaNil))) [2])))))
def d_is_surely_refused : List D → (D → Prop) → Prop := fun ds k => e_is_surely_refused (env0 false n_is_surely_refused ds) (knE k)
theorem okd_is_surely_refused (T : Txt K mg A) : FnOk P w K mg base CX0 2 A.is_surely_refused A.is_surely_refused_fd ["known", "load"] (spE (oRA A) false 2 d_is_surely_refused) := by
  refine T.F_is_surely_refused.ok sc_is_surely_refused (fun vs H Q E h => len_E h) (fun cdv A' outer s H vs Q E hr h => ?_)
  have hu := hu_of hr
  refine ⟨_, (pss_one (ps_ret (pe_or (show PE _ _ (tOp (rI0 fun i j => V.bl (decide (j < i))) _ _) from pe_cmpR op_gt (pe_call (okd_carts_of T) (hr.mono (by decide)) (by rfl) T.m_carts_of T.F_carts_of.kp T.b_carts_of .nil pass0 (pa_cons (pv 1) (pa_cons pe_non (pa_cons pe_non pa_nil)))) (show PE _ _ (tOp (rIx K) _ _) from pe_ix ix_seq (pv 0) pe_int (fun _ _ => rfl)) (nomark _)) (pe_one (show PE _ _ (tCB (rAny K) _) from (pe_callB (id := "any") (cr_any rfl) (by rfl) T.n_any (by decide +kernel) (pa_cons (pe_lc (own := [("seen", 2)]) rfl sc_is_surely_refused.nd (show PI _ _ _ (iSeq K _) from pi_seqU (show PE _ _ (tOp (rIx K) _ _) from pe_ix ix_seq (pv 0) pe_int (fun _ _ => rfl))) (blkOk_by (N := n_is_surely_refused) (sc := defScope s_is_surely_refused) (by decide +kernel)) (fun _ _ _ _ _ => (pg_name (i := 2) sc_is_surely_refused.nd rfl (Or.inl rfl))) (fun _ _ _ _ _ => pts_nil) (fun _ _ _ _ _ => (pe_call (okd_is_within T) (hr.mono (by decide)) (by rfl) T.m_is_within T.F_is_within.kp T.b_is_within .nil pass0 (pa_cons (pv 2) (pa_cons (pv 1) pa_nil))))) pa_nil))))))), ?_⟩
  exact body_E (es := e_is_surely_refused) ((wb_ret (we_or (we_op od_gt (wo_of (we_call (wa_cons we_var (wa_cons we_non (wa_cons we_non wa_nil))))) (wo_of (we_op od_ix (wo_of we_var) (wo_of we_int)))) (we_cb1 ud_any (wo_of (we_of_wf (wf_lc (wi_seq (we_op od_ix (wo_of we_var) (wo_of we_int))) wg_name (by decide) wt_yes (we_call (wa_cons we_var (wa_cons we_var wa_nil)))))))))) h
end
end K61
set_option Elab.async false
set_option linter.all false
set_option maxRecDepth 100000
set_option maxHeartbeats 4000000
namespace K61
open PySem PySem.Spec PyProof.Rows L2 TM Pr Ep Nw DL
section
variable {P : Program} {w : World} {K : PySem.W.Frag} {mg : Str → Option Value} {base : Heap} {A : Adr}
def e_is_let : ES := (sSeq (sDrop (eCall 2 d_check_country_and_yard (eaCons (eVar 0) (eaCons (eVar 1) eaNil)))) (sSeq (sDrop (eCall 3 d_check_known (eaCons (eVar 0) (eaCons (eVar 1) (eaCons (eVar 2) eaNil))))) (sSeq (sDrop (eCall 3 d_check_load (eaCons (eVar 0) (eaCons (eVar 1) (eaCons (eVar 3) eaNil))))) (sSeq (sIf (eB (eCall 2 d_is_surely_let (eaCons (eVar 2) (eaCons (eVar 3) eaNil)))) (sRet (eC (.bl true))) sNext) (sRet (eIf (eB (eCall 2 d_is_surely_refused (eaCons (eVar 2) (eaCons (eVar 3) eaNil)))) (eC (.bl false)) (eC .non)))))))
def d_is_let : List D → (D → Prop) → Prop := fun ds k => e_is_let (env0 false n_is_let ds) (knE k)
theorem okd_is_let (T : Txt K mg A) : FnOk P w K mg base CX0 9 A.is_let A.is_let_fd ["country", "yard", "known", "load"] (spE (oRA A) false 4 d_is_let) := by
  refine T.F_is_let.ok sc_is_let (fun vs H Q E h => len_E h) (fun cdv A' outer s H vs Q E hr h => ?_)
  have hu := hu_of hr
  refine ⟨_, (pss_cons (ps_expr (pe_call (okd_check_country_and_yard T) (hr.mono (by decide)) (by rfl) T.m_check_country_and_yard T.F_check_country_and_yard.kp T.b_check_country_and_yard .nil pass0 (pa_cons (pv 0) (pa_cons (pv 1) pa_nil)))) (pss_cons (ps_expr (pe_call (okd_check_known T) (hr.mono (by decide)) (by rfl) T.m_check_known T.F_check_known.kp T.b_check_known .nil pass0 (pa_cons (pv 0) (pa_cons (pv 1) (pa_cons (pv 2) pa_nil))))) (pss_cons (ps_expr (pe_call (okd_check_load T) (hr.mono (by decide)) (by rfl) T.m_check_load T.F_check_load.kp T.b_check_load .nil pass0 (pa_cons (pv 0) (pa_cons (pv 1) (pa_cons (pv 3) pa_nil))))) (pss_cons (ps_if (pt_val (pe_call (okd_is_surely_let T) (hr.mono (by decide)) (by rfl) T.m_is_surely_let T.F_is_surely_let.kp T.b_is_surely_let .nil pass0 (pa_cons (pv 2) (pa_cons (pv 3) pa_nil)))) (pss_one (ps_ret pe_bl)) pss_nil) (pss_one (ps_ret (pe_ifExp (pt_val (pe_call (okd_is_surely_refused T) (hr.mono (by decide)) (by rfl) T.m_is_surely_refused T.F_is_surely_refused.kp T.b_is_surely_refused .nil pass0 (pa_cons (pv 2) (pa_cons (pv 3) pa_nil)))) pe_bl pe_non))))))), ?_⟩
  exact body_E (es := e_is_let) ((wb_seq (wb_drop (wo_of (we_call (wa_cons we_var (wa_cons we_var wa_nil))))) (wb_seq (wb_drop (wo_of (we_call (wa_cons we_var (wa_cons we_var (wa_cons we_var wa_nil)))))) (wb_seq (wb_drop (wo_of (we_call (wa_cons we_var (wa_cons we_var (wa_cons we_var wa_nil)))))) (wb_seq (wb_if (wt_B (we_call (wa_cons we_var (wa_cons we_var wa_nil)))) (wb_ret we_bl) wb_next) (wb_ret (we_if (wt_B (we_call (wa_cons we_var (wa_cons we_var wa_nil)))) we_bl we_non))))))) h
end
end K61
set_option Elab.async false
set_option linter.all false
set_option maxRecDepth 100000
set_option maxHeartbeats 4000000
namespace K61
open PySem PySem.Spec PyProof.Rows L2 TM Pr Ep Nw DL
section
variable {P : Program} {w : World} {K : PySem.W.Frag} {mg : Str → Option Value} {base : Heap} {A : Adr}
end
end K61
set_option Elab.async false
set_option linter.all false
set_option maxRecDepth 100000
set_option maxHeartbeats 4000000
namespace K61
open PySem PySem.Spec PyProof.Rows L2 TM Pr Ep Nw DL
section
variable {P : Program} {w : World} {K : PySem.W.Frag} {mg : Str → Option Value} {base : Heap} {A : Adr}
def e_l_beside : ES := (sRetF (eUnF sortF (eOp addU (eF (eLc (eSeq (eVar 0)) (egTup 2 (egCons (egName 2) (egCons (egName 3) egNil))) (eB (eOp eqD (eVar 2) (eVar 1))) (eVar 3) [2, 3])) (eF (eLc (eSeq (eVar 0)) (egTup 2 (egCons (egName 2) (egCons (egName 3) egNil))) (eB (eOp eqD (eVar 3) (eVar 1))) (eVar 2) [2, 3])))))
def d_l_beside : List D → (List D → Prop) → Prop := fun ds k => e_l_beside (env0 false n_l_beside ds) (knF k)
theorem okd_l_beside (T : Txt K mg A) : FnOk P w K mg base CX0 1 A.l_beside A.l_beside_fd ["_law_lanes_here", "_law_place"] (spF (oRA A) false 2 d_l_beside) := by
  refine T.F_l_beside.ok sc_l_beside (fun vs H Q E h => len_F h) (fun cdv A' outer s H vs Q E hr h => ?_)
  have hu := hu_of hr
  refine ⟨_, (pss_one (ps_ret (show PE _ _ (tCB (SD.rSortD K) _) from (pe_callB (id := "sorted") (SD.cr_sortD hr.units) (by rfl) T.n_sorted (by decide +kernel) (pa_cons (show PE _ _ (tOp (rAddU K) _ _) from pe_op op_addU (pe_lc (own := [("_law_near", 2), ("_law_far", 3)]) rfl sc_l_beside.nd (show PI _ _ _ (iSeq K _) from pi_seqU (pv 0)) (blkOk_by (N := n_l_beside) (sc := defScope s_l_beside) (by decide +kernel)) (fun _ _ _ _ _ => (show PG _ _ (gTup K 2 _) from pg_tup rfl (pgs_cons (pg_name (i := 2) sc_l_beside.nd rfl (Or.inl rfl)) (pgs_cons (pg_name (i := 3) sc_l_beside.nd rfl (Or.inl rfl)) pgs_nil)))) (fun _ _ _ _ _ => (pts_one (show PT _ _ (tTest (tOp (rEqD K) _ _)) from pt_cmpR (op_eqD hr.units) (pv 2) (pv 1) (nomark _)))) (fun _ _ _ _ _ => (pv 3))) (pe_lc (own := [("_law_near", 2), ("_law_far", 3)]) rfl sc_l_beside.nd (show PI _ _ _ (iSeq K _) from pi_seqU (pv 0)) (blkOk_by (N := n_l_beside) (sc := defScope s_l_beside) (by decide +kernel)) (fun _ _ _ _ _ => (show PG _ _ (gTup K 2 _) from pg_tup rfl (pgs_cons (pg_name (i := 2) sc_l_beside.nd rfl (Or.inl rfl)) (pgs_cons (pg_name (i := 3) sc_l_beside.nd rfl (Or.inl rfl)) pgs_nil)))) (fun _ _ _ _ _ => (pts_one (show PT _ _ (tTest (tOp (rEqD K) _ _)) from pt_cmpR (op_eqD hr.units) (pv 3) (pv 1) (nomark _)))) (fun _ _ _ _ _ => (pv 2)))) pa_nil))))), ?_⟩
  exact body_F (es := e_l_beside) ((wb_retF (wf_cb1 uf_sort (wo_of (we_op od_addU (wo_of (we_of_wf (wf_lc (wi_seq we_var) (wg_tup (wgs_cons wg_name (wgs_cons wg_name wgs_nil))) (by decide) (wt_test (we_op od_eq (wo_of we_var) (wo_of we_var))) we_var))) (wo_of (we_of_wf (wf_lc (wi_seq we_var) (wg_tup (wgs_cons wg_name (wgs_cons wg_name wgs_nil))) (by decide) (wt_test (we_op od_eq (wo_of we_var) (wo_of we_var))) we_var)))))))) h
end
end K61
set_option Elab.async false
set_option linter.all false
set_option maxRecDepth 100000
set_option maxHeartbeats 4000000
namespace K61
open PySem PySem.Spec PyProof.Rows L2 TM Pr Ep Nw DL
section
variable {P : Program} {w : World} {K : PySem.W.Frag} {mg : Str → Option Value} {base : Heap} {A : Adr}
def e_l_given : ES := (sSeq (sAsg (eF (eLc (eSeq (eVar 1)) (egName 3) eYes (eIf (eB (eOp eqD (eCallP 0 1 b_draw (eaCons (eC (.int 3)) eaNil)) (eC (.int 0)))) (eUn tupD (eVar 3)) (eF (eUnF listF (eVar 3)))) [3])) (egName 2)) (sRet (eIf (eB (eOp eqD (eCallP 0 1 b_draw (eaCons (eC (.int 3)) eaNil)) (eC (.int 0)))) (eUn tupD (eVar 2)) (eVar 2))))
def d_l_given : List D → (D → Prop) → Prop := fun ds k => e_l_given (env0 true n_l_given ds) (knE k)
theorem okd_l_given (T : Txt K mg A) : FnOk P w K mg base CX0 2 A.l_given A.l_given_fd ["_law_pot_here", "_law_loads_here"] (spE (oRA A) true 1 d_l_given) := by
  refine T.F_l_given.ok sc_l_given (fun vs H Q E h => len_E h) (fun cdv A' outer s H vs Q E hr h => ?_)
  have hu := hu_of hr
  refine ⟨_, (pss_cons (ps_setLc (i := 2) (own := [("_law_load_here", 3)]) rfl sc_l_given.nd rfl rfl (sw_true rfl rfl rfl (by decide +kernel)) (show PI _ _ _ (iSeq K _) from pi_seqU (pv 1)) (blkOk_by (N := n_l_given) (sc := defScope s_l_given) (by decide +kernel)) (fun _ _ _ _ _ => (pg_name (i := 3) sc_l_given.nd rfl (Or.inl rfl))) (fun _ _ _ _ _ => pts_nil) (fun _ _ _ _ _ => (pe_ifExp (show PT _ _ (tTest (tOp (rEqD K) _ _)) from pt_cmpR (op_eqD hr.units) (pe_call (okb_l_draw T) (hr.mono (by decide)) (by rfl) T.m_l_draw T.F_l_draw.kp T.b_l_draw .nil pass0 (pa_cons (pv 0) (pa_cons pe_int pa_nil))) pe_int (nomark _)) (show PE _ _ (tCB (rTupOf K) _) from (pe_callTy (T := "tuple") call_tuple_of (by rfl) T.n_tuple (by decide +kernel) (pa_cons (pv 3) pa_nil))) (show PE _ _ (tCB (rListOf K) _) from (pe_callTy (T := "list") call_list_of (by rfl) T.n_list (by decide +kernel) (pa_cons (pv 3) pa_nil)))))) (pss_one (ps_ret (pe_ifExp (show PT _ _ (tTest (tOp (rEqD K) _ _)) from pt_cmpR (op_eqD hr.units) (pe_call (okb_l_draw T) (hr.mono (by decide)) (by rfl) T.m_l_draw T.F_l_draw.kp T.b_l_draw .nil pass0 (pa_cons (pv 0) (pa_cons pe_int pa_nil))) pe_int (nomark _)) (show PE _ _ (tCB (rTupOf K) _) from (pe_callTy (T := "tuple") call_tuple_of (by rfl) T.n_tuple (by decide +kernel) (pa_cons (pv 2) pa_nil))) (pv 2))))), ?_⟩
  exact body_E (es := e_l_given) ((wb_seq (wb_asg (we_of_wf (wf_lc (wi_seq we_var) wg_name (by decide) wt_yes (we_if (wt_test (we_op od_eq (wo_of (we_callP (wa_cons we_int wa_nil))) (wo_of we_int))) (we_cb1 ud_tup (wo_of we_var)) (we_of_wf (wf_cb1 uf_list (wo_of we_var)))))) wg_name) (wb_ret (we_if (wt_test (we_op od_eq (wo_of (we_callP (wa_cons we_int wa_nil))) (wo_of we_int))) (we_cb1 ud_tup (wo_of we_var)) we_var)))) h
end
end K61
set_option Elab.async false
set_option linter.all false
set_option maxRecDepth 100000
set_option maxHeartbeats 4000000
namespace K61
open PySem PySem.Spec PyProof.Rows L2 TM Pr Ep Nw DL
section
variable {P : Program} {w : World} {K : PySem.W.Frag} {mg : Str → Option Value} {base : Heap} {A : Adr}
def e_l_many : ES := (sRet (eUn sumU (eF (eLc (eSeq (eVar 0)) (egTup 3 (egCons (egName 2) (egCons (egName 3) (egCons (egName 4) egNil)))) (eB (eOp eqD (eTup (eaCons (eVar 2) (eaCons (eVar 3) eaNil))) (eVar 1))) (eVar 4) [2, 3, 4]))))
def d_l_many : List D → (D → Prop) → Prop := fun ds k => e_l_many (env0 false n_l_many ds) (knE k)
theorem okd_l_many (T : Txt K mg A) : FnOk P w K mg base CX0 1 A.l_many A.l_many_fd ["_law_load_here", "_law_pair"] (spE (oRA A) false 2 d_l_many) := by
  refine T.F_l_many.ok sc_l_many (fun vs H Q E h => len_E h) (fun cdv A' outer s H vs Q E hr h => ?_)
  have hu := hu_of hr
  refine ⟨_, (pss_one (ps_ret (show PE _ _ (tCB (rSumA K) _) from (pe_callB (id := "sum") (cr_sumA rfl) (by rfl) T.n_sum (by decide +kernel) (pa_cons (pe_lc (own := [("_law_origin", 2), ("_law_target", 3), ("_law_many_here", 4)]) rfl sc_l_many.nd (show PI _ _ _ (iSeq K _) from pi_seqU (pv 0)) (blkOk_by (N := n_l_many) (sc := defScope s_l_many) (by decide +kernel)) (fun _ _ _ _ _ => (show PG _ _ (gTup K 3 _) from pg_tup rfl (pgs_cons (pg_name (i := 2) sc_l_many.nd rfl (Or.inl rfl)) (pgs_cons (pg_name (i := 3) sc_l_many.nd rfl (Or.inl rfl)) (pgs_cons (pg_name (i := 4) sc_l_many.nd rfl (Or.inl rfl)) pgs_nil))))) (fun _ _ _ _ _ => (pts_one (show PT _ _ (tTest (tOp (rEqD K) _ _)) from pt_cmpR (op_eqD hr.units) (pe_tup (pa_cons (pv 2) (pa_cons (pv 3) pa_nil))) (pv 1) (nomark _)))) (fun _ _ _ _ _ => (pv 4))) pa_nil))))), ?_⟩
  exact body_E (es := e_l_many) ((wb_ret (we_cb1 ud_sumU (wo_of (we_of_wf (wf_lc (wi_seq we_var) (wg_tup (wgs_cons wg_name (wgs_cons wg_name (wgs_cons wg_name wgs_nil)))) (by decide) (wt_test (we_op od_eq (wo_of (we_tup (wa_cons we_var (wa_cons we_var wa_nil)))) (wo_of we_var))) we_var)))))) h
end
end K61
set_option Elab.async false
set_option linter.all false
set_option maxRecDepth 100000
set_option maxHeartbeats 4000000
namespace K61
open PySem PySem.Spec PyProof.Rows L2 TM Pr Ep Nw DL
section
variable {P : Program} {w : World} {K : PySem.W.Frag} {mg : Str → Option Value} {base : Heap} {A : Adr}
def e_l_is_most : ES := (sRet (eUn allD (eF (eLc (eSeq (eVar 0)) (egTup 3 (egCons (egName 2) (egCons (egName 3) (egCons (egName 4) egNil)))) eYes (eOp leD (eVar 4) (eCall 2 d_l_many (eaCons (eVar 1) (eaCons (eTup (eaCons (eVar 2) (eaCons (eVar 3) eaNil))) eaNil)))) [2, 3, 4]))))
def d_l_is_most : List D → (D → Prop) → Prop := fun ds k => e_l_is_most (env0 false n_l_is_most ds) (knE k)
theorem okd_l_is_most (T : Txt K mg A) : FnOk P w K mg base CX0 2 A.l_is_most A.l_is_most_fd ["_law_load_here", "_law_other"] (spE (oRA A) false 2 d_l_is_most) := by
  refine T.F_l_is_most.ok sc_l_is_most (fun vs H Q E h => len_E h) (fun cdv A' outer s H vs Q E hr h => ?_)
  have hu := hu_of hr
  refine ⟨_, (pss_one (ps_ret (show PE _ _ (tCB (rAll K) _) from (pe_callB (id := "all") (cr_all rfl) (by rfl) T.n_all (by decide +kernel) (pa_cons (pe_lc (own := [("_law_origin", 2), ("_law_target", 3), ("_law_many_here", 4)]) rfl sc_l_is_most.nd (show PI _ _ _ (iSeq K _) from pi_seqU (pv 0)) (blkOk_by (N := n_l_is_most) (sc := defScope s_l_is_most) (by decide +kernel)) (fun _ _ _ _ _ => (show PG _ _ (gTup K 3 _) from pg_tup rfl (pgs_cons (pg_name (i := 2) sc_l_is_most.nd rfl (Or.inl rfl)) (pgs_cons (pg_name (i := 3) sc_l_is_most.nd rfl (Or.inl rfl)) (pgs_cons (pg_name (i := 4) sc_l_is_most.nd rfl (Or.inl rfl)) pgs_nil))))) (fun _ _ _ _ _ => pts_nil) (fun _ _ _ _ _ => (show PE _ _ (tOp (rI0 fun i j => V.bl (decide (i ≤ j))) _ _) from pe_cmpR op_le (pv 4) (pe_call (okd_l_many T) (hr.mono (by decide)) (by rfl) T.m_l_many T.F_l_many.kp T.b_l_many .nil pass0 (pa_cons (pv 1) (pa_cons (pe_tup (pa_cons (pv 2) (pa_cons (pv 3) pa_nil))) pa_nil))) (nomark _)))) pa_nil))))), ?_⟩
  exact body_E (es := e_l_is_most) ((wb_ret (we_cb1 ud_all (wo_of (we_of_wf (wf_lc (wi_seq we_var) (wg_tup (wgs_cons wg_name (wgs_cons wg_name (wgs_cons wg_name wgs_nil)))) (by decide) wt_yes (we_op od_le (wo_of we_var) (wo_of (we_call (wa_cons we_var (wa_cons (we_tup (wa_cons we_var (wa_cons we_var wa_nil))) wa_nil))))))))))) h
end
end K61
set_option Elab.async false
set_option linter.all false
set_option maxRecDepth 100000
set_option maxHeartbeats 4000000
namespace K61
open PySem PySem.Spec PyProof.Rows L2 TM Pr Ep Nw DL
section
variable {P : Program} {w : World} {K : PySem.W.Frag} {mg : Str → Option Value} {base : Heap} {A : Adr}
def e_l_pick : ES := (sRet (eOp ixD (eVar 1) (eCallP 0 1 b_draw (eaCons (eUn lenD (eVar 1)) eaNil))))
def d_l_pick : List D → (D → Prop) → Prop := fun ds k => e_l_pick (env0 true n_l_pick ds) (knE k)
theorem okd_l_pick (T : Txt K mg A) : FnOk P w K mg base CX0 2 A.l_pick A.l_pick_fd ["_law_pot_here", "_law_some"] (spE (oRA A) true 1 d_l_pick) := by
  refine T.F_l_pick.ok sc_l_pick (fun vs H Q E h => len_E h) (fun cdv A' outer s H vs Q E hr h => ?_)
  have hu := hu_of hr
  refine ⟨_, (pss_one (ps_ret (show PE _ _ (tOp (rIx K) _ _) from pe_ix ix_seq (pv 1) (pe_call (okb_l_draw T) (hr.mono (by decide)) (by rfl) T.m_l_draw T.F_l_draw.kp T.b_l_draw .nil pass0 (pa_cons (pv 0) (pa_cons (show PE _ _ (tCB (rLenA K) _) from (pe_callB (id := "len") call_len (by rfl) T.n_len (by decide +kernel) (pa_cons (pv 1) pa_nil))) pa_nil))) (fun _ _ => rfl)))), ?_⟩
  exact body_E (es := e_l_pick) ((wb_ret (we_op od_ix (wo_of we_var) (wo_of (we_callP (wa_cons (we_cb1 ud_len (wo_of we_var)) wa_nil)))))) h
end
end K61
set_option Elab.async false
set_option linter.all false
set_option maxRecDepth 100000
set_option maxHeartbeats 4000000
namespace K61
open PySem PySem.Spec PyProof.Rows L2 TM Pr Ep Nw DL
section
variable {P : Program} {w : World} {K : PySem.W.Frag} {mg : Str → Option Value} {base : Heap} {A : Adr}
def e_l_plus : ES := (sSeq (sAsg (eF (eLc (eSeq (eVar 0)) (egName 3) (eB (eOp neD (eTup (eaCons (eOp ixD (eVar 3) (eC (.int 0))) (eaCons (eOp ixD (eVar 3) (eC (.int 1))) eaNil))) (eVar 1))) (eVar 3) [3])) (egName 2)) (sRetF (eUnF sortF (eOp addU (eVar 2) (eF (eLst (eaCons (eTup (eaCons (eOp ixD (eVar 1) (eC (.int 0))) (eaCons (eOp ixD (eVar 1) (eC (.int 1))) (eaCons (eOp addU (eCall 2 d_l_many (eaCons (eVar 0) (eaCons (eVar 1) eaNil))) (eC (.int 1))) eaNil)))) eaNil)))))))
def d_l_plus : List D → (List D → Prop) → Prop := fun ds k => e_l_plus (env0 false n_l_plus ds) (knF k)
theorem okd_l_plus (T : Txt K mg A) : FnOk P w K mg base CX0 2 A.l_plus A.l_plus_fd ["_law_load_here", "_law_pair"] (spF (oRA A) false 2 d_l_plus) := by
  refine T.F_l_plus.ok sc_l_plus (fun vs H Q E h => len_F h) (fun cdv A' outer s H vs Q E hr h => ?_)
  have hu := hu_of hr
  refine ⟨_, (pss_cons (ps_setLc (i := 2) (own := [("_law_one", 3)]) rfl sc_l_plus.nd rfl rfl (sw_true rfl rfl rfl (by decide +kernel)) (show PI _ _ _ (iSeq K _) from pi_seqU (pv 0)) (blkOk_by (N := n_l_plus) (sc := defScope s_l_plus) (by decide +kernel)) (fun _ _ _ _ _ => (pg_name (i := 3) sc_l_plus.nd rfl (Or.inl rfl))) (fun _ _ _ _ _ => (pts_one (show PT _ _ (tTest (tOp (rNeD K) _ _)) from pt_cmpR (op_neD hr.units) (pe_tup (pa_cons (show PE _ _ (tOp (rIx K) _ _) from pe_ix ix_seq (pv 3) pe_int (fun _ _ => rfl)) (pa_cons (show PE _ _ (tOp (rIx K) _ _) from pe_ix ix_seq (pv 3) pe_int (fun _ _ => rfl)) pa_nil))) (pv 1) (nomark _)))) (fun _ _ _ _ _ => (pv 3))) (pss_one (ps_ret (show PE _ _ (tCB (SD.rSortD K) _) from (pe_callB (id := "sorted") (SD.cr_sortD hr.units) (by rfl) T.n_sorted (by decide +kernel) (pa_cons (show PE _ _ (tOp (rAddU K) _ _) from pe_op op_addU (pv 2) (pe_lst (pa_cons (pe_tup (pa_cons (show PE _ _ (tOp (rIx K) _ _) from pe_ix ix_seq (pv 1) pe_int (fun _ _ => rfl)) (pa_cons (show PE _ _ (tOp (rIx K) _ _) from pe_ix ix_seq (pv 1) pe_int (fun _ _ => rfl)) (pa_cons (show PE _ _ (tOp (rAddU K) _ _) from pe_op op_addU (pe_call (okd_l_many T) (hr.mono (by decide)) (by rfl) T.m_l_many T.F_l_many.kp T.b_l_many .nil pass0 (pa_cons (pv 0) (pa_cons (pv 1) pa_nil))) pe_int) pa_nil)))) pa_nil))) pa_nil)))))), ?_⟩
  exact body_F (es := e_l_plus) ((wb_seq (wb_asg (we_of_wf (wf_lc (wi_seq we_var) wg_name (by decide) (wt_test (we_op od_ne (wo_of (we_tup (wa_cons (we_op od_ix (wo_of we_var) (wo_of we_int)) (wa_cons (we_op od_ix (wo_of we_var) (wo_of we_int)) wa_nil)))) (wo_of we_var))) we_var)) wg_name) (wb_retF (wf_cb1 uf_sort (wo_of (we_op od_addU (wo_of we_var) (wo_of (we_of_wf (wf_lst (wa_cons (we_tup (wa_cons (we_op od_ix (wo_of we_var) (wo_of we_int)) (wa_cons (we_op od_ix (wo_of we_var) (wo_of we_int)) (wa_cons (we_op od_addU (wo_of (we_call (wa_cons we_var (wa_cons we_var wa_nil)))) (wo_of we_int)) wa_nil)))) wa_nil)))))))))) h
end
end K61
set_option Elab.async false
set_option linter.all false
set_option maxRecDepth 100000
set_option maxHeartbeats 4000000
namespace K61
open PySem PySem.Spec PyProof.Rows L2 TM Pr Ep Nw DL
section
variable {P : Program} {w : World} {K : PySem.W.Frag} {mg : Str → Option Value} {base : Heap} {A : Adr}
def e_l_load : ES := (sSeq (sAsg (eF (eLst eaNil)) (egName 3)) (sSeq (sFor (eRng1 (eVar 2)) (egName 4) (sAsg (eF (eCallF 2 d_l_plus (eaCons (eVar 3) (eaCons (eCallP 0 1 d_l_pick (eaCons (eVar 1) eaNil)) eaNil)))) (egName 3)) [4]) (sRet (eVar 3))))
def d_l_load : List D → (D → Prop) → Prop := fun ds k => e_l_load (env0 true n_l_load ds) (knE k)
theorem okd_l_load (T : Txt K mg A) : FnOk P w K mg base CX0 3 A.l_load A.l_load_fd ["_law_pot_here", "_law_pairs_here", "_law_size_here"] (spE (oRA A) true 2 d_l_load) := by
  refine T.F_l_load.ok sc_l_load (fun vs H Q E h => len_E h) (fun cdv A' outer s H vs Q E hr h => ?_)
  have hu := hu_of hr
  refine ⟨_, (pss_cons (ps_set (i := 3) sc_l_load.nd rfl (Or.inl rfl) (pe_lst pa_nil)) (pss_cons (ps_for PassesOwn.never rfl (pi_range1 (by rfl) T.n_range (pa_cons (pv 2) pa_nil)) (pg_name (i := 4) sc_l_load.nd rfl (Or.inl rfl)) (pss_one (ps_set (i := 3) sc_l_load.nd rfl (Or.inl rfl) (pe_call (okd_l_plus T) (hr.mono (by decide)) (by rfl) T.m_l_plus T.F_l_plus.kp T.b_l_plus .nil pass0 (pa_cons (pv 3) (pa_cons (pe_call (okd_l_pick T) (hr.mono (by decide)) (by rfl) T.m_l_pick T.F_l_pick.kp T.b_l_pick .nil pass0 (pa_cons (pv 0) (pa_cons (pv 1) pa_nil))) pa_nil)))))) (pss_one (ps_ret (pv 3))))), ?_⟩
  exact body_E (es := e_l_load) ((wb_seq (wb_asg (we_of_wf (wf_lst wa_nil)) wg_name) (wb_seq (wb_for (wi_rng1 we_var) wg_name (wb_asg (we_of_wf (wf_call (wa_cons we_var (wa_cons (we_callP (wa_cons we_var wa_nil)) wa_nil)))) wg_name)) (wb_ret we_var)))) h
end
end K61
set_option Elab.async false
set_option linter.all false
set_option maxRecDepth 100000
set_option maxHeartbeats 4000000
namespace K61
open PySem PySem.Spec PyProof.Rows L2 TM Pr Ep Nw DL
section
variable {P : Program} {w : World} {K : PySem.W.Frag} {mg : Str → Option Value} {base : Heap} {A : Adr}
def e_l_pairs : ES := (sSeq (sAsg (eF (eCallF 2 d_l_beside (eaCons (eVar 0) (eaCons (eVar 1) eaNil)))) (egName 2)) (sSeq (sAsgF 3 (eLst eaNil)) (sSeq (sFor (eSeq (eVar 2)) (egName 4) (sExt 3 (eF (eLc (eSeq (eVar 2)) (egName 5) (eB (eOp neD (eVar 5) (eVar 4))) (eTup (eaCons (eVar 4) (eaCons (eVar 5) eaNil))) [5]))) [4]) (sRetM 3))))
def d_l_pairs : List D → (List D → Prop) → Prop := fun ds k => e_l_pairs (env0 false n_l_pairs ds) (knF k)
theorem okd_l_pairs (T : Txt K mg A) : FnOk P w K mg base CX0 2 A.l_pairs A.l_pairs_fd ["_law_lanes_here", "_law_yard"] (spF (oRA A) false 2 d_l_pairs) := by
  refine T.F_l_pairs.ok sc_l_pairs (fun vs H Q E h => len_F h) (fun cdv A' outer s H vs Q E hr h => ?_)
  have hu := hu_of hr
  refine ⟨_, (pss_cons (ps_set (i := 2) sc_l_pairs.nd rfl (Or.inl rfl) (pe_call (okd_l_beside T) (hr.mono (by decide)) (by rfl) T.m_l_beside T.F_l_beside.kp T.b_l_beside .nil pass0 (pa_cons (pv 0) (pa_cons (pv 1) pa_nil)))) (pss_cons (ps_set (i := 3) sc_l_pairs.nd rfl (Or.inl rfl) (pe_lst pa_nil)) (pss_cons (ps_for PassesOwn.never rfl (show PI _ _ _ (iSeq K _) from pi_seqU (pv 2)) (pg_name (i := 4) sc_l_pairs.nd rfl (Or.inr rfl)) (pss_one (ps_expr (show PE _ _ (tBM K "list" rExtend _ _) from pe_bm PySem.F.plainAttrs_list PySem.F.slot_list_extend PySem.F.type_list_extend mt_extend (pv 3) (pa_cons (pe_lc (own := [("_law_target", 5)]) rfl sc_l_pairs.nd (show PI _ _ _ (iSeq K _) from pi_seqU (pv 2)) (blkOk_by (N := n_l_pairs) (sc := defScope s_l_pairs) (by decide +kernel)) (fun _ _ _ _ _ => (pg_name (i := 5) sc_l_pairs.nd rfl (Or.inl rfl))) (fun _ _ _ _ _ => (pts_one (show PT _ _ (tTest (tOp (rNeD K) _ _)) from pt_cmpR (op_neD hr.units) (pv 5) (pv 4) (nomark _)))) (fun _ _ _ _ _ => (pe_tup (pa_cons (pv 4) (pa_cons (pv 5) pa_nil))))) pa_nil))))) (pss_one (ps_ret (pv 3)))))), ?_⟩
  exact body_F (es := e_l_pairs) ((wb_seq (wb_asg (we_of_wf (wf_call (wa_cons we_var (wa_cons we_var wa_nil)))) wg_name) (wb_seq (wb_asgF (wf_lst wa_nil)) (wb_seq (wb_for (wi_seq we_var) wg_name (wb_ext (we_of_wf (wf_lc (wi_seq we_var) wg_name (by decide) (wt_test (we_op od_ne (wo_of we_var) (wo_of we_var))) (we_tup (wa_cons we_var (wa_cons we_var wa_nil))))))) wb_retM)))) h
end
end K61
set_option Elab.async false
set_option linter.all false
set_option maxRecDepth 100000
set_option maxHeartbeats 4000000
namespace K61
open PySem PySem.Spec PyProof.Rows L2 TM Pr Ep Nw DL
section
variable {P : Program} {w : World} {K : PySem.W.Frag} {mg : Str → Option Value} {base : Heap} {A : Adr}
def e_l_known : ES := (sSeq (sPar 4 5 (emE (eOp addU (eC (.int 1)) (eCallP 0 1 b_draw (eaCons (eVar 3) eaNil)))) (emE (eF (eCallF 2 d_l_pairs (eaCons (eVar 1) (eaCons (eVar 2) eaNil)))))) (sSeq (sPar 6 7 (emF (eLst eaNil)) (emF (eLst eaNil))) (sSeq (sFor (eRng1 (eCallP 0 1 b_draw (eaCons (eC (.int 3)) eaNil))) (egName 8) (sApp 6 (eCallP 0 2 d_l_load (eaCons (eVar 5) (eaCons (eOp addU (eC (.int 1)) (eCallP 0 1 b_draw (eaCons (eVar 4) eaNil))) eaNil)))) []) (sKnow 6 (sSeq (sFor (eRng1 (eCallP 0 1 b_draw (eaCons (eC (.int 3)) eaNil))) (egName 8) (sSeq (sAsg (eCallP 0 2 d_l_load (eaCons (eVar 5) (eaCons (eOp addU (eC (.int 2)) (eCallP 0 1 b_draw (eaCons (eVar 4) eaNil))) eaNil))) (egName 9)) (sIf (eNotT (eB (eUn anyD (eF (eLc (eSeq (eVar 6)) (egName 10) eYes (eCall 2 d_l_is_most (eaCons (eVar 9) (eaCons (eVar 10) eaNil))) [10]))))) (sApp 7 (eVar 9)) sNext)) [9]) (sKnow 7 (sRet (eTup (eaCons (eVar 4) (eaCons (eVar 6) (eaCons (eVar 7) eaNil)))))))))))
def d_l_known : List D → (D → Prop) → Prop := fun ds k => e_l_known (env0 true n_l_known ds) (knE k)
theorem okd_l_known (T : Txt K mg A) : FnOk P w K mg base CX0 4 A.l_known A.l_known_fd ["_law_pot_here", "_law_lanes_here", "_law_yard", "_law_most"] (spE (oRA A) true 3 d_l_known) := by
  refine T.F_l_known.ok sc_l_known (fun vs H Q E h => len_E h) (fun cdv A' outer s H vs Q E hr h => ?_)
  have hu := hu_of hr
  refine ⟨_, (pss_cons (ps_par (i := 4) (j := 5) (by rfl) sc_l_known.nd rfl rfl (by decide) rfl rfl (pa_cons (show PE _ _ (tOp (rAddU K) _ _) from pe_op op_addU pe_int (pe_call (okb_l_draw T) (hr.mono (by decide)) (by rfl) T.m_l_draw T.F_l_draw.kp T.b_l_draw .nil pass0 (pa_cons (pv 0) (pa_cons (pv 3) pa_nil)))) (pa_cons (pe_call (okd_l_pairs T) (hr.mono (by decide)) (by rfl) T.m_l_pairs T.F_l_pairs.kp T.b_l_pairs .nil pass0 (pa_cons (pv 1) (pa_cons (pv 2) pa_nil))) pa_nil)) (by rfl)) (pss_cons (ps_par (i := 6) (j := 7) (by rfl) sc_l_known.nd rfl rfl (by decide) rfl rfl (pa_cons (pe_lst pa_nil) (pa_cons (pe_lst pa_nil) pa_nil)) (by rfl)) (pss_cons (ps_for PassesOwn.never rfl (pi_range1 (by rfl) T.n_range (pa_cons (pe_call (okb_l_draw T) (hr.mono (by decide)) (by rfl) T.m_l_draw T.F_l_draw.kp T.b_l_draw .nil pass0 (pa_cons (pv 0) (pa_cons pe_int pa_nil))) pa_nil)) (pg_name (i := 8) sc_l_known.nd rfl (Or.inl rfl)) (pss_one (ps_expr (show PE _ _ (tBM K "list" rAppend _ _) from pe_bm PySem.F.plainAttrs_list PySem.F.slot_list_append PySem.F.type_list_append mt_append (pv 6) (pa_cons (pe_call (okd_l_load T) (hr.mono (by decide)) (by rfl) T.m_l_load T.F_l_load.kp T.b_l_load .nil pass0 (pa_cons (pv 0) (pa_cons (pv 5) (pa_cons (show PE _ _ (tOp (rAddU K) _ _) from pe_op op_addU pe_int (pe_call (okb_l_draw T) (hr.mono (by decide)) (by rfl) T.m_l_draw T.F_l_draw.kp T.b_l_draw .nil pass0 (pa_cons (pv 0) (pa_cons (pv 4) pa_nil)))) pa_nil)))) pa_nil))))) (pss_cons (ps_for PassesOwn.never rfl (pi_range1 (by rfl) T.n_range (pa_cons (pe_call (okb_l_draw T) (hr.mono (by decide)) (by rfl) T.m_l_draw T.F_l_draw.kp T.b_l_draw .nil pass0 (pa_cons (pv 0) (pa_cons pe_int pa_nil))) pa_nil)) (pg_name (i := 8) sc_l_known.nd rfl (Or.inl rfl)) (pss_cons (ps_set (i := 9) sc_l_known.nd rfl (Or.inr rfl) (pe_call (okd_l_load T) (hr.mono (by decide)) (by rfl) T.m_l_load T.F_l_load.kp T.b_l_load .nil pass0 (pa_cons (pv 0) (pa_cons (pv 5) (pa_cons (show PE _ _ (tOp (rAddU K) _ _) from pe_op op_addU pe_int (pe_call (okb_l_draw T) (hr.mono (by decide)) (by rfl) T.m_l_draw T.F_l_draw.kp T.b_l_draw .nil pass0 (pa_cons (pv 0) (pa_cons (pv 4) pa_nil)))) pa_nil))))) (pss_one (ps_if (pt_not (pt_val (show PE _ _ (tCB (rAny K) _) from (pe_callB (id := "any") (cr_any rfl) (by rfl) T.n_any (by decide +kernel) (pa_cons (pe_lc (own := [("_law_one", 10)]) rfl sc_l_known.nd (show PI _ _ _ (iSeq K _) from pi_seqU (pv 6)) (blkOk_by (N := n_l_known) (sc := defScope s_l_known) (by decide +kernel)) (fun _ _ _ _ _ => (pg_name (i := 10) sc_l_known.nd rfl (Or.inl rfl))) (fun _ _ _ _ _ => pts_nil) (fun _ _ _ _ _ => (pe_call (okd_l_is_most T) (hr.mono (by decide)) (by rfl) T.m_l_is_most T.F_l_is_most.kp T.b_l_is_most .nil pass0 (pa_cons (pv 9) (pa_cons (pv 10) pa_nil))))) pa_nil))))) (pss_one (ps_expr (show PE _ _ (tBM K "list" rAppend _ _) from pe_bm PySem.F.plainAttrs_list PySem.F.slot_list_append PySem.F.type_list_append mt_append (pv 7) (pa_cons (pv 9) pa_nil)))) pss_nil)))) (pss_one (ps_ret (pe_tup (pa_cons (pv 4) (pa_cons (pv 6) (pa_cons (pv 7) pa_nil)))))))))), ?_⟩
  exact body_E (es := e_l_known) ((wb_seq (wb_par (wm_E (we_op od_addU (wo_of we_int) (wo_of (we_callP (wa_cons we_var wa_nil))))) (wm_E (we_of_wf (wf_call (wa_cons we_var (wa_cons we_var wa_nil)))))) (wb_seq (wb_par (wm_F (wf_lst wa_nil)) (wm_F (wf_lst wa_nil))) (wb_seq (wb_for (wi_rng1 (we_callP (wa_cons we_int wa_nil))) wg_name (wb_app (we_callP (wa_cons we_var (wa_cons (we_op od_addU (wo_of we_int) (wo_of (we_callP (wa_cons we_var wa_nil)))) wa_nil))))) (wb_know (i := 6) (wb_seq (wb_for (wi_rng1 (we_callP (wa_cons we_int wa_nil))) wg_name (wb_seq (wb_asg (we_callP (wa_cons we_var (wa_cons (we_op od_addU (wo_of we_int) (wo_of (we_callP (wa_cons we_var wa_nil)))) wa_nil))) wg_name) (wb_if (wt_not (wt_B (we_cb1 ud_any (wo_of (we_of_wf (wf_lc (wi_seq we_var) wg_name (by decide) wt_yes (we_call (wa_cons we_var (wa_cons we_var wa_nil))))))))) (wb_app we_var) wb_next))) (wb_know (i := 7) (wb_ret (we_tup (wa_cons we_var (wa_cons we_var (wa_cons we_var wa_nil)))))))))))) h
end
end K61
set_option Elab.async false
set_option linter.all false
set_option maxRecDepth 100000
set_option maxHeartbeats 4000000
namespace K61
open PySem PySem.Spec PyProof.Rows L2 TM Pr Ep Nw DL
section
variable {P : Program} {w : World} {K : PySem.W.Frag} {mg : Str → Option Value} {base : Heap} {A : Adr}
def e_l_known_given : ES := (sRet (eTup (eaCons (eOp ixD (eVar 1) (eC (.int 0))) (eaCons (eCallP 0 1 d_l_given (eaCons (eOp ixD (eVar 1) (eC (.int 1))) eaNil)) (eaCons (eCallP 0 1 d_l_given (eaCons (eOp ixD (eVar 1) (eC (.int 2))) eaNil)) eaNil)))))
def d_l_known_given : List D → (D → Prop) → Prop := fun ds k => e_l_known_given (env0 true n_l_known_given ds) (knE k)
theorem okd_l_known_given (T : Txt K mg A) : FnOk P w K mg base CX0 3 A.l_known_given A.l_known_given_fd ["_law_pot_here", "_law_known_here"] (spE (oRA A) true 1 d_l_known_given) := by
  refine T.F_l_known_given.ok sc_l_known_given (fun vs H Q E h => len_E h) (fun cdv A' outer s H vs Q E hr h => ?_)
  have hu := hu_of hr
  refine ⟨_, (pss_one (ps_ret (pe_tup (pa_cons (show PE _ _ (tOp (rIx K) _ _) from pe_ix ix_seq (pv 1) pe_int (fun _ _ => rfl)) (pa_cons (pe_call (okd_l_given T) (hr.mono (by decide)) (by rfl) T.m_l_given T.F_l_given.kp T.b_l_given .nil pass0 (pa_cons (pv 0) (pa_cons (show PE _ _ (tOp (rIx K) _ _) from pe_ix ix_seq (pv 1) pe_int (fun _ _ => rfl)) pa_nil))) (pa_cons (pe_call (okd_l_given T) (hr.mono (by decide)) (by rfl) T.m_l_given T.F_l_given.kp T.b_l_given .nil pass0 (pa_cons (pv 0) (pa_cons (show PE _ _ (tOp (rIx K) _ _) from pe_ix ix_seq (pv 1) pe_int (fun _ _ => rfl)) pa_nil))) pa_nil)))))), ?_⟩
  exact body_E (es := e_l_known_given) ((wb_ret (we_tup (wa_cons (we_op od_ix (wo_of we_var) (wo_of we_int)) (wa_cons (we_callP (wa_cons (we_op od_ix (wo_of we_var) (wo_of we_int)) wa_nil)) (wa_cons (we_callP (wa_cons (we_op od_ix (wo_of we_var) (wo_of we_int)) wa_nil)) wa_nil)))))) h
end
end K61
set_option Elab.async false
set_option linter.all false
set_option maxRecDepth 100000
set_option maxHeartbeats 4000000
namespace K61
open PySem PySem.Spec PyProof.Rows L2 TM Pr Ep Nw DL
section
variable {P : Program} {w : World} {K : PySem.W.Frag} {mg : Str → Option Value} {base : Heap} {A : Adr}
def e_l_lanes : ES := (sSeq (sPar 2 3 (emE (eCallP 0 1 b_draw (eaCons (eC (.int 4)) eaNil))) (emE (eOp addU (eC (.int 1)) (eCallP 0 1 b_draw (eaCons (eVar 1) eaNil))))) (sSeq (sIf (eB (eOp eqD (eVar 2) (eC (.int 0)))) (sRet (eOp ixD (eF (eLst (eaCons (eF (eLst (eaCons (eTup (eaCons (eC (.int 0)) (eaCons (eC (.int 1)) eaNil))) (eaCons (eTup (eaCons (eC (.int 0)) (eaCons (eC (.int 2)) eaNil))) (eaCons (eTup (eaCons (eC (.int 0)) (eaCons (eC (.int 3)) eaNil))) eaNil))))) (eaCons (eF (eLst (eaCons (eTup (eaCons (eC (.int 0)) (eaCons (eC (.int 1)) eaNil))) (eaCons (eTup (eaCons (eC (.int 0)) (eaCons (eC (.int 2)) eaNil))) (eaCons (eTup (eaCons (eC (.int 1)) (eaCons (eC (.int 3)) eaNil))) (eaCons (eTup (eaCons (eC (.int 1)) (eaCons (eC (.int 4)) eaNil))) eaNil)))))) (eaCons (eF (eLst (eaCons (eTup (eaCons (eC (.int 0)) (eaCons (eC (.int 1)) eaNil))) (eaCons (eTup (eaCons (eC (.int 0)) (eaCons (eC (.int 2)) eaNil))) (eaCons (eTup (eaCons (eC (.int 0)) (eaCons (eC (.int 3)) eaNil))) (eaCons (eTup (eaCons (eC (.int 1)) (eaCons (eC (.int 4)) eaNil))) (eaCons (eTup (eaCons (eC (.int 2)) (eaCons (eC (.int 5)) eaNil))) (eaCons (eTup (eaCons (eC (.int 3)) (eaCons (eC (.int 6)) eaNil))) eaNil)))))))) eaNil))))) (eCallP 0 1 b_draw (eaCons (eC (.int 3)) eaNil)))) sNext) (sRet (eF (eLc (eRng1 (eOp addU (eVar 3) (eC (.int 1)))) (egName 4) eYes (eTup (eaCons (eVar 4) (eaCons (eOp addU (eVar 4) (eC (.int 1))) eaNil))) [4])))))
def d_l_lanes : List D → (D → Prop) → Prop := fun ds k => e_l_lanes (env0 true n_l_lanes ds) (knE k)
theorem okd_l_lanes (T : Txt K mg A) : FnOk P w K mg base CX0 2 A.l_lanes A.l_lanes_fd ["_law_pot_here", "_law_most"] (spE (oRA A) true 1 d_l_lanes) := by
  refine T.F_l_lanes.ok sc_l_lanes (fun vs H Q E h => len_E h) (fun cdv A' outer s H vs Q E hr h => ?_)
  have hu := hu_of hr
  refine ⟨_, (pss_cons (ps_par (i := 2) (j := 3) (by rfl) sc_l_lanes.nd rfl rfl (by decide) rfl rfl (pa_cons (pe_call (okb_l_draw T) (hr.mono (by decide)) (by rfl) T.m_l_draw T.F_l_draw.kp T.b_l_draw .nil pass0 (pa_cons (pv 0) (pa_cons pe_int pa_nil))) (pa_cons (show PE _ _ (tOp (rAddU K) _ _) from pe_op op_addU pe_int (pe_call (okb_l_draw T) (hr.mono (by decide)) (by rfl) T.m_l_draw T.F_l_draw.kp T.b_l_draw .nil pass0 (pa_cons (pv 0) (pa_cons (pv 1) pa_nil)))) pa_nil)) (by rfl)) (pss_cons (ps_if (show PT _ _ (tTest (tOp (rEqD K) _ _)) from pt_cmpR (op_eqD hr.units) (pv 2) pe_int (nomark _)) (pss_one (ps_ret (show PE _ _ (tOp (rIx K) _ _) from pe_ix ix_seq (pe_lst (pa_cons (pe_lst (pa_cons (pe_tup (pa_cons pe_int (pa_cons pe_int pa_nil))) (pa_cons (pe_tup (pa_cons pe_int (pa_cons pe_int pa_nil))) (pa_cons (pe_tup (pa_cons pe_int (pa_cons pe_int pa_nil))) pa_nil)))) (pa_cons (pe_lst (pa_cons (pe_tup (pa_cons pe_int (pa_cons pe_int pa_nil))) (pa_cons (pe_tup (pa_cons pe_int (pa_cons pe_int pa_nil))) (pa_cons (pe_tup (pa_cons pe_int (pa_cons pe_int pa_nil))) (pa_cons (pe_tup (pa_cons pe_int (pa_cons pe_int pa_nil))) pa_nil))))) (pa_cons (pe_lst (pa_cons (pe_tup (pa_cons pe_int (pa_cons pe_int pa_nil))) (pa_cons (pe_tup (pa_cons pe_int (pa_cons pe_int pa_nil))) (pa_cons (pe_tup (pa_cons pe_int (pa_cons pe_int pa_nil))) (pa_cons (pe_tup (pa_cons pe_int (pa_cons pe_int pa_nil))) (pa_cons (pe_tup (pa_cons pe_int (pa_cons pe_int pa_nil))) (pa_cons (pe_tup (pa_cons pe_int (pa_cons pe_int pa_nil))) pa_nil))))))) pa_nil)))) (pe_call (okb_l_draw T) (hr.mono (by decide)) (by rfl) T.m_l_draw T.F_l_draw.kp T.b_l_draw .nil pass0 (pa_cons (pv 0) (pa_cons pe_int pa_nil))) (fun _ _ => rfl)))) pss_nil) (pss_one (ps_ret (pe_lc (own := [("_law_at", 4)]) rfl sc_l_lanes.nd (pi_range1 (by rfl) T.n_range (pa_cons (show PE _ _ (tOp (rAddU K) _ _) from pe_op op_addU (pv 3) pe_int) pa_nil)) (blkOk_by (N := n_l_lanes) (sc := defScope s_l_lanes) (by decide +kernel)) (fun _ _ _ _ _ => (pg_name (i := 4) sc_l_lanes.nd rfl (Or.inl rfl))) (fun _ _ _ _ _ => pts_nil) (fun _ _ _ _ _ => (pe_tup (pa_cons (pv 4) (pa_cons (show PE _ _ (tOp (rAddU K) _ _) from pe_op op_addU (pv 4) pe_int) pa_nil))))))))), ?_⟩
  exact body_E (es := e_l_lanes) ((wb_seq (wb_par (wm_E (we_callP (wa_cons we_int wa_nil))) (wm_E (we_op od_addU (wo_of we_int) (wo_of (we_callP (wa_cons we_var wa_nil)))))) (wb_seq (wb_if (wt_test (we_op od_eq (wo_of we_var) (wo_of we_int))) (wb_ret (we_op od_ix (wo_of (we_of_wf (wf_lst (wa_cons (we_of_wf (wf_lst (wa_cons (we_tup (wa_cons we_int (wa_cons we_int wa_nil))) (wa_cons (we_tup (wa_cons we_int (wa_cons we_int wa_nil))) (wa_cons (we_tup (wa_cons we_int (wa_cons we_int wa_nil))) wa_nil))))) (wa_cons (we_of_wf (wf_lst (wa_cons (we_tup (wa_cons we_int (wa_cons we_int wa_nil))) (wa_cons (we_tup (wa_cons we_int (wa_cons we_int wa_nil))) (wa_cons (we_tup (wa_cons we_int (wa_cons we_int wa_nil))) (wa_cons (we_tup (wa_cons we_int (wa_cons we_int wa_nil))) wa_nil)))))) (wa_cons (we_of_wf (wf_lst (wa_cons (we_tup (wa_cons we_int (wa_cons we_int wa_nil))) (wa_cons (we_tup (wa_cons we_int (wa_cons we_int wa_nil))) (wa_cons (we_tup (wa_cons we_int (wa_cons we_int wa_nil))) (wa_cons (we_tup (wa_cons we_int (wa_cons we_int wa_nil))) (wa_cons (we_tup (wa_cons we_int (wa_cons we_int wa_nil))) (wa_cons (we_tup (wa_cons we_int (wa_cons we_int wa_nil))) wa_nil)))))))) wa_nil)))))) (wo_of (we_callP (wa_cons we_int wa_nil))))) wb_next) (wb_ret (we_of_wf (wf_lc (wi_rng1 (we_op od_addU (wo_of we_var) (wo_of we_int))) wg_name (by decide) wt_yes (we_tup (wa_cons we_var (wa_cons (we_op od_addU (wo_of we_var) (wo_of we_int)) wa_nil))))))))) h
end
end K61
set_option Elab.async false
set_option linter.all false
set_option maxRecDepth 100000
set_option maxHeartbeats 4000000
namespace K61
open PySem PySem.Spec PyProof.Rows L2 TM Pr Ep Nw DL
section
variable {P : Program} {w : World} {K : PySem.W.Frag} {mg : Str → Option Value} {base : Heap} {A : Adr}
def e_l_loads : ES := (sSeq (sAsg (eF (eCallF 2 d_l_pairs (eaCons (eVar 1) (eaCons (eVar 2) eaNil)))) (egName 4)) (sSeq (sAsgF 5 (eLst (eaCons (eF (eLst eaNil)) (eaCons (eCallP 0 2 d_l_load (eaCons (eVar 4) (eaCons (eC (.int 1)) eaNil))) (eaCons (eCallP 0 2 d_l_load (eaCons (eVar 4) (eaCons (eC (.int 2)) eaNil))) (eaCons (eCallP 0 2 d_l_load (eaCons (eVar 4) (eaCons (eC (.int 3)) eaNil))) (eaCons (eCallP 0 2 d_l_load (eaCons (eVar 4) (eaCons (eOp addU (eOp ixD (eVar 3) (eC (.int 0))) (eC (.int 1))) eaNil))) eaNil))))))) (sSeq (sFor (eSeq (eOp addU (eOp ixD (eVar 3) (eC (.int 1))) (eOp ixD (eVar 3) (eC (.int 2))))) (egName 6) (sSeq (sApp 5 (eVar 6)) (sSeq (sApp 5 (eF (eCallF 2 d_l_plus (eaCons (eVar 6) (eaCons (eCallP 0 1 d_l_pick (eaCons (eVar 4) eaNil)) eaNil))))) (sApp 5 (eSl slU (eVar 6) (eP (eC (.int 1))) eNoP)))) [6]) (sRetM 5))))
def d_l_loads : List D → (List D → Prop) → Prop := fun ds k => e_l_loads (env0 true n_l_loads ds) (knF k)
theorem okd_l_loads (T : Txt K mg A) : FnOk P w K mg base CX0 4 A.l_loads A.l_loads_fd ["_law_pot_here", "_law_lanes_here", "_law_yard", "_law_known_here"] (spF (oRA A) true 3 d_l_loads) := by
  refine T.F_l_loads.ok sc_l_loads (fun vs H Q E h => len_F h) (fun cdv A' outer s H vs Q E hr h => ?_)
  have hu := hu_of hr
  refine ⟨_, (pss_cons (ps_set (i := 4) sc_l_loads.nd rfl (Or.inl rfl) (pe_call (okd_l_pairs T) (hr.mono (by decide)) (by rfl) T.m_l_pairs T.F_l_pairs.kp T.b_l_pairs .nil pass0 (pa_cons (pv 1) (pa_cons (pv 2) pa_nil)))) (pss_cons (ps_set (i := 5) sc_l_loads.nd rfl (Or.inl rfl) (pe_lst (pa_cons (pe_lst pa_nil) (pa_cons (pe_call (okd_l_load T) (hr.mono (by decide)) (by rfl) T.m_l_load T.F_l_load.kp T.b_l_load .nil pass0 (pa_cons (pv 0) (pa_cons (pv 4) (pa_cons pe_int pa_nil)))) (pa_cons (pe_call (okd_l_load T) (hr.mono (by decide)) (by rfl) T.m_l_load T.F_l_load.kp T.b_l_load .nil pass0 (pa_cons (pv 0) (pa_cons (pv 4) (pa_cons pe_int pa_nil)))) (pa_cons (pe_call (okd_l_load T) (hr.mono (by decide)) (by rfl) T.m_l_load T.F_l_load.kp T.b_l_load .nil pass0 (pa_cons (pv 0) (pa_cons (pv 4) (pa_cons pe_int pa_nil)))) (pa_cons (pe_call (okd_l_load T) (hr.mono (by decide)) (by rfl) T.m_l_load T.F_l_load.kp T.b_l_load .nil pass0 (pa_cons (pv 0) (pa_cons (pv 4) (pa_cons (show PE _ _ (tOp (rAddU K) _ _) from pe_op op_addU (show PE _ _ (tOp (rIx K) _ _) from pe_ix ix_seq (pv 3) pe_int (fun _ _ => rfl)) pe_int) pa_nil)))) pa_nil))))))) (pss_cons (ps_for PassesOwn.never rfl (show PI _ _ _ (iSeq K _) from pi_seqU (show PE _ _ (tOp (rAddU K) _ _) from pe_op op_addU (show PE _ _ (tOp (rIx K) _ _) from pe_ix ix_seq (pv 3) pe_int (fun _ _ => rfl)) (show PE _ _ (tOp (rIx K) _ _) from pe_ix ix_seq (pv 3) pe_int (fun _ _ => rfl)))) (pg_name (i := 6) sc_l_loads.nd rfl (Or.inl rfl)) (pss_cons (ps_expr (show PE _ _ (tBM K "list" rAppend _ _) from pe_bm PySem.F.plainAttrs_list PySem.F.slot_list_append PySem.F.type_list_append mt_append (pv 5) (pa_cons (pv 6) pa_nil))) (pss_cons (ps_expr (show PE _ _ (tBM K "list" rAppend _ _) from pe_bm PySem.F.plainAttrs_list PySem.F.slot_list_append PySem.F.type_list_append mt_append (pv 5) (pa_cons (pe_call (okd_l_plus T) (hr.mono (by decide)) (by rfl) T.m_l_plus T.F_l_plus.kp T.b_l_plus .nil pass0 (pa_cons (pv 6) (pa_cons (pe_call (okd_l_pick T) (hr.mono (by decide)) (by rfl) T.m_l_pick T.F_l_pick.kp T.b_l_pick .nil pass0 (pa_cons (pv 0) (pa_cons (pv 4) pa_nil))) pa_nil))) pa_nil))) (pss_one (ps_expr (show PE _ _ (tBM K "list" rAppend _ _) from pe_bm PySem.F.plainAttrs_list PySem.F.slot_list_append PySem.F.type_list_append mt_append (pv 5) (pa_cons (show PE _ _ (tSl (rSlU K) _ _ _) from pe_slice sl_U (pv 6) (po_some pe_int) po_none) pa_nil))))))) (pss_one (ps_ret (pv 5)))))), ?_⟩
  exact body_F (es := e_l_loads) ((wb_seq (wb_asg (we_of_wf (wf_call (wa_cons we_var (wa_cons we_var wa_nil)))) wg_name) (wb_seq (wb_asgF (wf_lst (wa_cons (we_of_wf (wf_lst wa_nil)) (wa_cons (we_callP (wa_cons we_var (wa_cons we_int wa_nil))) (wa_cons (we_callP (wa_cons we_var (wa_cons we_int wa_nil))) (wa_cons (we_callP (wa_cons we_var (wa_cons we_int wa_nil))) (wa_cons (we_callP (wa_cons we_var (wa_cons (we_op od_addU (wo_of (we_op od_ix (wo_of we_var) (wo_of we_int))) (wo_of we_int)) wa_nil))) wa_nil))))))) (wb_seq (wb_for (wi_seq (we_op od_addU (wo_of (we_op od_ix (wo_of we_var) (wo_of we_int))) (wo_of (we_op od_ix (wo_of we_var) (wo_of we_int))))) wg_name (wb_seq (wb_app we_var) (wb_seq (wb_app (we_of_wf (wf_call (wa_cons we_var (wa_cons (we_callP (wa_cons we_var wa_nil)) wa_nil))))) (wb_app (we_sl sd_slU (wo_of we_var) (wp_some we_int) wp_none))))) wb_retM)))) h
end
end K61
set_option Elab.async false
set_option linter.all false
set_option maxRecDepth 100000
set_option maxHeartbeats 4000000
namespace DL
open PySem PySem.Spec PyProof.Rows L2
open Evl (Ex)
section
variable {R : OR} {P : Option Addr} {B0 H0 : Hp} {env : Env} {σ : L2.St} {B H : Hp} {K : PySem.W.Frag}
theorem SOk.setU (S : SOk R P B0 H0 env σ B H) (i : Nat) (o : Option V) : SOk R P B0 H0 (env.set i .un) (σ.set i o) B H := ⟨S.e.setU i o, S.s, fun j sv p h m q => by
  by_cases e : i = j
  · subst e
    have hi : i < env.length := by
      have := (List.getElem?_eq_some_iff.mp h).1
      simpa using this
    rw [List.getElem?_set_self hi] at h
    cases h
    cases m
  · rw [List.getElem?_set_ne e] at h q
    exact S.fr j sv p h m q⟩
def sGrow (t : EB) (a b i n : Nat) (ee : EE) : ES := fun env k => t env fun c => match env[if c = true then a else b]? with
  | some (.ml l) => i < env.length ∧ l.length < n ∧ ee (env.set i .un) fun d => k.nx ((env.set i .un).set (if c = true then a else b) (.ml (l ++ [d])))
  | _ => False
theorem wb_grow {tt tg : TT} {t : EB} {a b i n : Nat} {te : TE} {ee : EE} (ht : WT R tt t) (hai : a ≠ i) (hbi : b ≠ i) (hn : n ≤ 100000)
    (htg : ∀ (σ : L2.St) (H : Hp) (Q : Bool → Hp → Prop) (p : Addr) (vs : List V), σ[i]? = some (some (.ref p)) → H p = some (.lst vs) → vs.length < n → Q false H → tg σ H Q) (h : WE R te ee) :
    WB R (tSeq (tAsg (tIf tt (tVar a) (tVar b)) (gName i)) (tSeq (tIfS tg tNever tNext) (tDrop (tBM K "list" rAppend (tVar i) (tCons te tNil))))) (sGrow t a b i n ee) := fun P B0 H0 env σ B H D k S he Kk => by
  refine ht P env σ B H _ _ S.e he fun c B1 H1 kc s1 E1 => ?_
  have S1 := S.step s1 E1
  have main : ∀ x : Nat, x ≠ i → (match env[x]? with
      | some (.ml l) => i < env.length ∧ l.length < n ∧ ee (env.set i .un) fun d => k.nx ((env.set i .un).set x (.ml (l ++ [d])))
      | _ => False) → tVar x σ H1 (fun v H2 => gName i v σ H2 (fun σ' H' => (tSeq (tIfS tg tNever tNext) (tDrop (tBM K "list" rAppend (tVar i) (tCons te tNil)))) D σ' H')) := fun x hxi kc => by
    split at kc
    · next l hi =>
      obtain ⟨p, vs, ha, hb, hc, nP, r⟩ := E1.sl x _ hi
      refine ⟨_, ha, ?_⟩
      have S2 := S1.setU i (some (V.ref p))
      have si : (σ.set i (some (V.ref p)))[i]? = some (some (V.ref p)) := List.getElem?_set_self (by rw [E1.len]; exact kc.1)
      refine htg (σ.set i (some (V.ref p))) H1 _ p vs si hb (by rw [r.len]; exact kc.2.1) ?_
      show tDrop (tBM K "list" rAppend (tVar i) (tCons te tNil)) D (σ.set i (some (V.ref p))) H1
      refine ⟨_, si, tyV_l hb, h P _ _ B1 H1 _ _ S2.e kc.2.2 fun d v B' H' kd s E rd => ?_⟩
      have S' := S2.step s E
      have hi2 : (env.set i SV.un)[x]? = some (.ml l) := by rw [List.getElem?_set_ne (Ne.symm hxi)]; exact hi
      obtain ⟨p', vs', a', b', c', nP', r'⟩ := E.sl x _ hi2
      have ax : (σ.set i (some (V.ref p)))[x]? = some (some (V.ref p)) := by rw [List.getElem?_set_ne (Ne.symm hxi)]; exact ha
      have e1 : p = p' := by rw [ax] at a'; cases a'; rfl
      subst e1
      have hl := kc.2.1
      refine ⟨p, vs', v, rfl, rfl, b', Evl.sz_lt (by rw [r'.len]; omega), ?_⟩
      exact Kk.nx _ _ B' _ kd (S'.mut hi2 rfl ax c' nP' ⟨p, vs' ++ [v], ax, upd_same, c', nP', r'.app (.cons rd .nil)⟩)
    · exact kc.elim
  cases c with
  | true => exact main a hai kc
  | false => exact main b hbi kc
end
end DL
set_option Elab.async false
set_option linter.all false
set_option maxRecDepth 100000
set_option maxHeartbeats 4000000
namespace DL
open PySem PySem.Spec PyProof.Rows L2
open Evl (Ex)
section
variable {P : Program} {w : World} {K : PySem.W.Frag} {mg : Str → Option Value} {base : Heap} {CX : CXT} {k : Nat} {f : Addr} {fd : FuncData} {ps : List Str} {sp sp' : Sp}
theorem fn_or (F : FnOk P w K mg base CX k f fd ps sp) (G : FnOk P w K mg base CX k f fd ps sp') : FnOk P w K mg base CX k f fd ps (fun vs H Q E => sp vs H Q E ∨ sp' vs H Q E) :=
  ⟨fun vs H Q E h => h.elim (F.len vs H Q E) (G.len vs H Q E), fun A outer s H args us vs Q E hr he hb hv h => h.elim (F.run A outer s H args us vs Q E hr he hb hv) (G.run A outer s H args us vs Q E hr he hb hv)⟩
theorem fn_cx (F : FnOk P w K mg base CX0 k f fd ps sp) : FnOk P w K mg base CX k f fd ps sp :=
  ⟨F.len, fun A outer s H args us vs Q E hr he hb hv h => codeAny_mono (F.run A outer s H args us vs Q E hr he hb hv h) fun r s' hq => by
    cases r with
    | ok fl =>
      cases fl with
      | ret u => exact hq
      | next => exact (show False from hq).elim
      | brk => exact (show False from hq).elim
      | cont => exact (show False from hq).elim
    | error e => exact (show False from hq).elim⟩
end
section
variable {R : OR}
def knN (i j l : Nat) (k : D → List D → List D → Prop) : Kn where
  nx := fun env => ∃ a l1 l2, env[i]? = some (.val a) ∧ env[j]? = some (.ml l1) ∧ env[l]? = some (.ml l2) ∧ k a l1 l2
  rt := fun _ => False
  rf := fun _ => False
def spN (R : OR) (n : Nat) (ef : List D → (D → List D → List D → Prop) → Prop) : Sp := fun vs H Q _ => ∃ B ds k, Ex B H ∧ RpA R B vs ds ∧ ds.length = n ∧ ef ds k ∧
  ∀ a l1 l2 v p1 p2 t vs1 vs2 B' H', k a l1 l2 → Step none B H B' H' → Rp R B' v a → H p1 = none → H p2 = none → H t = none → p1 ≠ p2 → B' p1 = none → B' p2 = none → B' t = none →
    H' p1 = some (.lst vs1) → H' p2 = some (.lst vs2) → RpA R B' vs1 l1 → RpA R B' vs2 l2 → H' t = some (.tup [v, .ref p1, .ref p2]) → Q (.ref t) H'
theorem body_N {t : TS} {es : ES} {N : List Str} {n i j l : Nat} (w : WB R t es) (jl : j ≠ l) {vs : List V} {H : Hp} {Q : VK} {E : XK} (h : spN R n (fun ds k => es (env0 false N ds) (knN i j l k)) vs H Q E) :
    (tSeq t (tRet (tTup (tCons (tVar i) (tCons (tVar j) (tCons (tVar l) tNil)))))) { nx := fun _ H' => Q .non H', rt := Q } (L2.start N vs) H := by
  obtain ⟨B, ds, k, bh, r, hn, he, q⟩ := h
  refine w none B H _ _ B H _ (knN i j l k) (start_ok (.inl ⟨rfl, rfl, rfl⟩) (fun _ z => (nomatch z)) (fun _ z => (nomatch z)) bh r) he ⟨fun env σ B' H' hk S => ?_, fun _ _ _ _ z => z.elim, fun _ _ _ _ _ z => z.elim, fun _ _ _ _ z => z.elim, fun _ _ _ _ z => z.elim, fun _ _ _ _ _ _ z => z.elim⟩
  obtain ⟨a, l1, l2, h1, h2, h3, kk⟩ := hk
  obtain ⟨v, sv, rv⟩ := S.e.sl i _ h1
  obtain ⟨p1, vs1, a1, b1, c1, n1, r1⟩ := S.e.sl j _ h2
  obtain ⟨p2, vs2, a2, b2, c2, n2, r2⟩ := S.e.sl l _ h3
  refine ⟨_, sv, _, a1, _, a2, ?_⟩
  refine ⟨(by show 3 ≤ sizeLine; decide), fun t ht => ?_⟩
  have t1 : p1 ≠ t := fun z => by rw [z, ht] at b1; cases b1
  have t2 : p2 ≠ t := fun z => by rw [z, ht] at b2; cases b2
  obtain ⟨s2, _⟩ := S.e.allocU (o := .tup [v, .ref p1, .ref p2]) ht
  exact q a l1 l2 v p1 p2 t vs1 vs2 B' _ kk (S.s.trans S.e.pot s2) rv (S.fr j _ p1 h2 rfl a1) (S.fr l _ p2 h3 rfl a2) (fresh_backP S.s.hh (fun z => nomatch z) ht)
    (fun z => jl (S.e.nd j l _ _ p1 h2 h3 rfl rfl a1 (by rw [z]; exact a2))) c1 c2 (Evl.fresh_back S.e.bh ht) (by rw [upd_ne t1]; exact b1) (by rw [upd_ne t2]; exact b2) r1 r2 upd_same
end
end DL
set_option Elab.async false
set_option linter.all false
set_option maxRecDepth 100000
set_option maxHeartbeats 4000000
namespace DL
open PySem PySem.Spec PyProof.Rows L2
open Evl (Ex)
theorem pmk_own0 {X : Cx} {C : Addr} {bmB : List Value} {B newId initId : String} {x : Str} {p pos : Pos} (F : ExcBaseFacts B newId initId bmB) (q : PySem.W.excIn X.K C bmB newId = true) (gC : X.mg x = some (.ref C))
    (kC : PySem.W.keepIn X.K (.ref C) = true) (r : Raises X (.ref C)) (hg : Gl X x) (hdb : (x == ("__debug__" : Str)) = false := by decide) :
    PMk X (.Call (.Name x p) [] [] pos) (fun _ H Q => Q (.ref C) none H) := by
  intro pins s σ H Q I h
  refine wpAny_Call_Name_kw (ld_glob I hg gC ?_ hdb)
  refine PySem.W.callWith_K0 I.kIn kC ?_
  show wpAny _ _ (call (.ref C) []) _ _ _
  obtain ⟨bm, N, nm, qn, bs, hdct, sn, sub, ab, col, dd, k0, k1, k2, k3, k5, mN, hC, hN, hni, T⟩ := exc_obj I.kIn q
  refine wpAny_call_exc_subT F T hC hN hni (fun h' e hm => ?_) (Nat.zero_le _)
  exact mk_of I hm r h (I.hok.gone hm.new)
section
variable {R : OR}
def spX (R : OR) (C : Addr) (n : Nat) (ex : List D → Prop) : Sp := fun vs H _ E => ∃ B ds, Ex B H ∧ RpA R B vs ds ∧ ds.length = n ∧ ex ds ∧ ∀ B' H', Step none B H B' H' → E (.ref C) none H'
def knX (eb : EB) : Kn where
  nx := fun env => eb env fun c => c = true
  rt := fun _ => False
  rf := fun _ => False
theorem body_X {t : TS} {es : ES} {tt : TT} {eb : EB} {C : Addr} {N : List Str} {n : Nat} (w : WB R t es) (wt : WT R tt eb) {vs : List V} {H : Hp} {Q : VK} {E : XK} (h : spX R C n (fun ds => es (env0 false N ds) (knX eb)) vs H Q E) :
    (tSeq t (tSeq (tIfS tt (fun _ _ H => E (.ref C) none H) tNext) tNever)) { nx := fun _ H' => Q .non H', rt := Q } (L2.start N vs) H := by
  obtain ⟨B, ds, bh, r, hn, he, q⟩ := h
  refine w none B H _ _ B H _ (knX eb) (start_ok (.inl ⟨rfl, rfl, rfl⟩) (fun _ z => (nomatch z)) (fun _ z => (nomatch z)) bh r) he ⟨fun env σ B' H' hk S => ?_, fun _ _ _ _ z => z.elim, fun _ _ _ _ _ z => z.elim, fun _ _ _ _ z => z.elim, fun _ _ _ _ z => z.elim, fun _ _ _ _ _ _ z => z.elim⟩
  refine wt none env σ B' H' _ _ S.e hk fun c B2 H2 hc s2 E2 => ?_
  subst hc
  exact q B2 H2 (S.s.trans S.e.pot s2)
end
end DL
set_option Elab.async false
set_option linter.all false
set_option maxRecDepth 100000
set_option maxHeartbeats 4000000
namespace K61
open PySem PySem.Spec PyProof.Rows L2 TM Pr Ep Nw DL
section
variable {P : Program} {w : World} {K : PySem.W.Frag} {mg : Str → Option Value} {base : Heap} {A : Adr}
def e_noted1 : ES := sSeq (sDrop (eCall 2 d_check_country_and_yard (eaCons (eVar 0) (eaCons (eVar 1) eaNil)))) (sSeq (sDrop (eCall 3 d_check_known (eaCons (eVar 0) (eaCons (eVar 1) (eaCons (eVar 2) eaNil))))) (sSeq (sDrop (eCall 3 d_check_load (eaCons (eVar 0) (eaCons (eVar 1) (eaCons (eVar 3) eaNil))))) (sIf (eOrT (eNotT (eB (eIsi "str" (eVar 4)))) (eB (eOp (inD true) (eVar 4) (eTup (eaCons (eC (.str "let")) (eaCons (eC (.str "refused")) eaNil)))))) sNever sNext)))
def t_noted1 : EB := (eOrT (eAndT (eB (eOp eqD (eVar 4) (eC (.str "let")))) (eB (eCall 2 d_is_surely_refused (eaCons (eVar 2) (eaCons (eVar 3) eaNil))))) (eAndT (eB (eOp eqD (eVar 4) (eC (.str "refused")))) (eB (eCall 2 d_is_surely_let (eaCons (eVar 2) (eaCons (eVar 3) eaNil))))))
def e_noted2 : ES := sSeq (sIf t_noted1 sNever sNext) (sSeq (sPar3 5 6 7 (emE (eOp ixD (eVar 2) (eC (.int 0)))) (emF (eLc (eSeq (eOp ixD (eVar 2) (eC (.int 1)))) (egName 9) eYes (eF (eUnF listF (eVar 9))) [9])) (emF (eLc (eSeq (eOp ixD (eVar 2) (eC (.int 2)))) (egName 9) eYes (eF (eUnF listF (eVar 9))) [9]))) (sGrow (eB (eOp eqD (eVar 4) (eC (.str "let")))) 6 7 8 12 (eF (eUnF listF (eVar 3)))))
def d_noted : List D → (D → List D → List D → Prop) → Prop := fun ds k => (sSeq e_noted1 e_noted2) (env0 false n_noted ds) (knN 5 6 7 k)
theorem nest9 {T0 T1 T2 T3 T4 T5 T6 T7 T8 TR : TS} {D : Ends} {σ : L2.St} {H : Hp} (h : tSeq (tSeq (tSeq T0 (tSeq T1 (tSeq T2 T3))) (tSeq T4 (tSeq T5 (tSeq T6 (tSeq T7 T8))))) TR D σ H) : tSeq T0 (tSeq T1 (tSeq T2 (tSeq T3 (tSeq T4 (tSeq T5 (tSeq T6 (tSeq T7 (tSeq T8 TR)))))))) D σ H := h
theorem few (σ : L2.St) (H : Hp) (Q : Bool → Hp → Prop) (p : Addr) (vs : List V) (hs : σ[8]? = some (some (V.ref p))) (hh : H p = some (.lst vs)) (hl : vs.length < 12) (hq : Q false H) : (tTest (tOp (rI0 fun i j => .bl (decide (j ≤ i))) (tCB (rLenA K) (tCons (tVar 8) tNil)) (tC (.int 12)))) σ H Q := by
  refine ⟨_, hs, _, vs.length, rfl, .inl ⟨vs, Evl.sq_of hh, rfl⟩, _, _, rfl, rfl, _, rfl, ?_⟩
  rw [show decide ((12 : Int) ≤ (vs.length : Int)) = false from decide_eq_false (by omega)]
  exact hq
theorem okN_noted (T : Txt K mg A) : FnOk P w K mg base CX0 9 A.noted A.noted_fd ["country", "yard", "known", "load", "word"] (spN (oRA A) 5 d_noted) := by
  refine T.F_noted.ok sc_noted (fun vs H Q E h => ?_) (fun cdv A' outer s H vs Q E hr h => ?_)
  · obtain ⟨B, ds, k, _, r, hn, _⟩ := h
    rw [r.len, hn]
    rfl
  have hu := hu_of hr
  refine ⟨_, (pss_cons (ps_expr (pe_call (okd_check_country_and_yard T) (hr.mono (by decide)) (by rfl) T.m_check_country_and_yard T.F_check_country_and_yard.kp T.b_check_country_and_yard .nil pass0 (pa_cons (pv 0) (pa_cons (pv 1) pa_nil)))) (pss_cons (ps_expr (pe_call (okd_check_known T) (hr.mono (by decide)) (by rfl) T.m_check_known T.F_check_known.kp T.b_check_known .nil pass0 (pa_cons (pv 0) (pa_cons (pv 1) (pa_cons (pv 2) pa_nil))))) (pss_cons (ps_expr (pe_call (okd_check_load T) (hr.mono (by decide)) (by rfl) T.m_check_load T.F_check_load.kp T.b_check_load .nil pass0 (pa_cons (pv 0) (pa_cons (pv 1) (pa_cons (pv 3) pa_nil))))) (pss_cons (ps_if (PW.pt (pw_or (pt_not (pt_val (show PE _ _ (tCB (rIsi K) _) from (pe_callB (id := "isinstance") call_isi (by rfl) T.n_isinstance (by decide +kernel) (pa_cons (pv 4) (pa_cons (pe_bltn (v := .ty "str") (by rfl) T.n_str (by decide +kernel) rfl) pa_nil)))))) (pw_or1 (show PT _ _ (tTest (tOp (rInU K true) _ _)) from pt_cmpR (op_notInU hr.u65) (pv 4) (pe_tup (pa_cons pe_str (pa_cons pe_str pa_nil))) (by rfl))))) (pss_one ps_never) pss_nil) (pss_cons (ps_if (PW.pt (pw_or (PW.pt (pw_and (show PT _ _ (tTest (tOp (rEqD K) _ _)) from pt_cmpR (op_eqD hr.units) (pv 4) pe_str (nomark _)) (pw_and1 (pt_val (pe_call (okd_is_surely_refused T) (hr.mono (by decide)) (by rfl) T.m_is_surely_refused T.F_is_surely_refused.kp T.b_is_surely_refused .nil pass0 (pa_cons (pv 2) (pa_cons (pv 3) pa_nil))))))) (pw_or1 (PW.pt (pw_and (show PT _ _ (tTest (tOp (rEqD K) _ _)) from pt_cmpR (op_eqD hr.units) (pv 4) pe_str (nomark _)) (pw_and1 (pt_val (pe_call (okd_is_surely_let T) (hr.mono (by decide)) (by rfl) T.m_is_surely_let T.F_is_surely_let.kp T.b_is_surely_let .nil pass0 (pa_cons (pv 2) (pa_cons (pv 3) pa_nil)))))))))) (pss_one ps_never) pss_nil) (pss_cons (ps_par3 (i := 5) (j := 6) (l := 7) (by rfl) sc_noted.nd rfl rfl rfl (by decide) (by decide) (by decide) rfl rfl rfl (pa_cons (show PE _ _ (tOp (rIx K) _ _) from pe_ix ix_seq (pv 2) pe_int (fun _ _ => rfl)) (pa_cons (pe_lc (own := [("seen", 9)]) rfl sc_noted.nd (show PI _ _ _ (iSeq K _) from pi_seqU (show PE _ _ (tOp (rIx K) _ _) from pe_ix ix_seq (pv 2) pe_int (fun _ _ => rfl))) (blkOk_by (N := n_noted) (sc := defScope s_noted) (by decide +kernel)) (fun _ _ _ _ _ => (pg_name (i := 9) sc_noted.nd rfl (Or.inl rfl))) (fun _ _ _ _ _ => pts_nil) (fun _ _ _ _ _ => (show PE _ _ (tCB (rListOf K) _) from (pe_callTy (T := "list") call_list_of (by rfl) T.n_list (by decide +kernel) (pa_cons (pv 9) pa_nil))))) (pa_cons (pe_lc (own := [("seen", 9)]) rfl sc_noted.nd (show PI _ _ _ (iSeq K _) from pi_seqU (show PE _ _ (tOp (rIx K) _ _) from pe_ix ix_seq (pv 2) pe_int (fun _ _ => rfl))) (blkOk_by (N := n_noted) (sc := defScope s_noted) (by decide +kernel)) (fun _ _ _ _ _ => (pg_name (i := 9) sc_noted.nd rfl (Or.inl rfl))) (fun _ _ _ _ _ => pts_nil) (fun _ _ _ _ _ => (show PE _ _ (tCB (rListOf K) _) from (pe_callTy (T := "list") call_list_of (by rfl) T.n_list (by decide +kernel) (pa_cons (pv 9) pa_nil))))) pa_nil))) (by rfl)) (pss_cons (ps_set (i := 8) sc_noted.nd rfl (Or.inl rfl) (pe_ifExp (show PT _ _ (tTest (tOp (rEqD K) _ _)) from pt_cmpR (op_eqD hr.units) (pv 4) pe_str (nomark _)) (pv 6) (pv 7))) (pss_cons (ps_if (pt_cmpR op_ge (show PE _ _ (tCB (rLenA K) _) from (pe_callB (id := "len") call_len (by rfl) T.n_len (by decide +kernel) (pa_cons (pv 8) pa_nil))) (pe_globI rfl T.g_MOST_SEEN) (nomark _)) (pss_one ps_never) pss_nil) (pss_cons (ps_expr (show PE _ _ (tBM K "list" rAppend _ _) from pe_bm PySem.F.plainAttrs_list PySem.F.slot_list_append PySem.F.type_list_append mt_append (pv 8) (pa_cons (show PE _ _ (tCB (rListOf K) _) from (pe_callTy (T := "list") call_list_of (by rfl) T.n_list (by decide +kernel) (pa_cons (pv 3) pa_nil))) pa_nil))) (pss_one (ps_ret (pe_tup (pa_cons (pv 5) (pa_cons (pv 6) (pa_cons (pv 7) pa_nil))))))))))))))), ?_⟩
  refine nest9 ?_
  exact body_N (es := sSeq e_noted1 e_noted2) (i := 5) (j := 6) (l := 7) (wb_seq (wb_seq (wb_drop (wo_of (we_call (wa_cons we_var (wa_cons we_var wa_nil))))) (wb_seq (wb_drop (wo_of (we_call (wa_cons we_var (wa_cons we_var (wa_cons we_var wa_nil)))))) (wb_seq (wb_drop (wo_of (we_call (wa_cons we_var (wa_cons we_var (wa_cons we_var wa_nil)))))) (wb_if (wt_or (wt_not (wt_B (we_isi (wo_of we_var)))) (wt_test (we_op od_in (wo_of we_var) (wo_of (we_tup (wa_cons we_str (wa_cons we_str wa_nil))))))) wb_never wb_next)))) (wb_seq (wb_if (wt_or (wt_and (wt_test (we_op od_eq (wo_of we_var) (wo_of we_str))) (wt_B (we_call (wa_cons we_var (wa_cons we_var wa_nil))))) (wt_and (wt_test (we_op od_eq (wo_of we_var) (wo_of we_str))) (wt_B (we_call (wa_cons we_var (wa_cons we_var wa_nil)))))) wb_never wb_next) (wb_seq (wb_par3 (wm_E (we_op od_ix (wo_of we_var) (wo_of we_int))) (wm_F (wf_lc (wi_seq (we_op od_ix (wo_of we_var) (wo_of we_int))) wg_name (by decide) wt_yes (we_of_wf (wf_cb1 uf_list (wo_of we_var))))) (wm_F (wf_lc (wi_seq (we_op od_ix (wo_of we_var) (wo_of we_int))) wg_name (by decide) wt_yes (we_of_wf (wf_cb1 uf_list (wo_of we_var)))))) (wb_grow (wt_test (we_op od_eq (wo_of we_var) (wo_of we_str))) (by decide) (by decide) (by decide) few (we_of_wf (wf_cb1 uf_list (wo_of we_var))))))) (by decide) h
end
end K61
set_option Elab.async false
set_option linter.all false
set_option maxRecDepth 100000
set_option maxHeartbeats 4000000
namespace K61
open PySem PySem.Spec PyProof.Rows L2 TM Pr Ep Nw DL
section
variable {P : Program} {w : World} {K : PySem.W.Frag} {mg : Str → Option Value} {base : Heap} {A : Adr}
structure ExT (K : PySem.W.Frag) (mg : Str → Option Value) (C : Addr) : Prop where
  gF : mg "Contrary" = some (.ref C)
  xF : PySem.W.excIn K C [.type "RuntimeError", .type "Exception", .type "BaseException", .type "object"] "RuntimeError.__new__" = true
  kF : PySem.W.keepIn K (.ref C) = true
  bF : PySem.W.subIn K (.ref C) (.type "BaseException") = some true
  tF : PySem.W.typeIn K (.ref C) = some (.type "type")
  eF : PySem.W.exmOne K (.ref C) (.ref C) = some true
def x_noted : List D → Prop := fun ds => e_noted1 (env0 false n_noted ds) (knX t_noted1)
theorem nest5 {T0 T1 T2 T3 T4 TR : TS} {D : Ends} {σ : L2.St} {H : Hp} (h : tSeq (tSeq T0 (tSeq T1 (tSeq T2 T3))) (tSeq T4 TR) D σ H) : tSeq T0 (tSeq T1 (tSeq T2 (tSeq T3 (tSeq T4 TR)))) D σ H := h
theorem okX_noted (T : Txt K mg A) {C : Addr} (X : ExT K mg C) : FnOk P w K mg base (L2.CX P w) 9 A.noted A.noted_fd ["country", "yard", "known", "load", "word"] (spX (oRA A) C 5 x_noted) := by
  refine T.F_noted.okX sc_noted (fun vs H Q E h => ?_) (fun cdv A' outer s H vs Q E hr h => ?_)
  · obtain ⟨B, ds, _, r, hn, _⟩ := h
    rw [r.len, hn]
    rfl
  have hu := hu_of hr
  refine ⟨_, (pss_cons (ps_expr (pe_call (okd_check_country_and_yard T) (hr.mono (by decide)) (by rfl) T.m_check_country_and_yard T.F_check_country_and_yard.kp T.b_check_country_and_yard .nil pass0 (pa_cons (pv 0) (pa_cons (pv 1) pa_nil)))) (pss_cons (ps_expr (pe_call (okd_check_known T) (hr.mono (by decide)) (by rfl) T.m_check_known T.F_check_known.kp T.b_check_known .nil pass0 (pa_cons (pv 0) (pa_cons (pv 1) (pa_cons (pv 2) pa_nil))))) (pss_cons (ps_expr (pe_call (okd_check_load T) (hr.mono (by decide)) (by rfl) T.m_check_load T.F_check_load.kp T.b_check_load .nil pass0 (pa_cons (pv 0) (pa_cons (pv 1) (pa_cons (pv 3) pa_nil))))) (pss_cons (ps_if (PW.pt (pw_or (pt_not (pt_val (show PE _ _ (tCB (rIsi K) _) from (pe_callB (id := "isinstance") call_isi (by rfl) T.n_isinstance (by decide +kernel) (pa_cons (pv 4) (pa_cons (pe_bltn (v := .ty "str") (by rfl) T.n_str (by decide +kernel) rfl) pa_nil)))))) (pw_or1 (show PT _ _ (tTest (tOp (rInU K true) _ _)) from pt_cmpR (op_notInU hr.u65) (pv 4) (pe_tup (pa_cons pe_str (pa_cons pe_str pa_nil))) (by rfl))))) (pss_one ps_never) pss_nil) (pss_cons (ps_if (PW.pt (pw_or (PW.pt (pw_and (show PT _ _ (tTest (tOp (rEqD K) _ _)) from pt_cmpR (op_eqD hr.units) (pv 4) pe_str (nomark _)) (pw_and1 (pt_val (pe_call (okd_is_surely_refused T) (hr.mono (by decide)) (by rfl) T.m_is_surely_refused T.F_is_surely_refused.kp T.b_is_surely_refused .nil pass0 (pa_cons (pv 2) (pa_cons (pv 3) pa_nil))))))) (pw_or1 (PW.pt (pw_and (show PT _ _ (tTest (tOp (rEqD K) _ _)) from pt_cmpR (op_eqD hr.units) (pv 4) pe_str (nomark _)) (pw_and1 (pt_val (pe_call (okd_is_surely_let T) (hr.mono (by decide)) (by rfl) T.m_is_surely_let T.F_is_surely_let.kp T.b_is_surely_let .nil pass0 (pa_cons (pv 2) (pa_cons (pv 3) pa_nil)))))))))) (pss_one (ps_raise rfl (takes_of rfl rfl rfl rfl) (pmk_own0 PySem.F.excBase_RuntimeError X.xF X.gF X.kF (raises_own X.bF X.tF) (by exact rfl)))) pss_nil) pss_never))))), ?_⟩
  refine nest5 ?_
  exact body_X (es := e_noted1) (eb := t_noted1) (C := C) (wb_seq (wb_drop (wo_of (we_call (wa_cons we_var (wa_cons we_var wa_nil))))) (wb_seq (wb_drop (wo_of (we_call (wa_cons we_var (wa_cons we_var (wa_cons we_var wa_nil)))))) (wb_seq (wb_drop (wo_of (we_call (wa_cons we_var (wa_cons we_var (wa_cons we_var wa_nil)))))) (wb_if (wt_or (wt_not (wt_B (we_isi (wo_of we_var)))) (wt_test (we_op od_in (wo_of we_var) (wo_of (we_tup (wa_cons we_str (wa_cons we_str wa_nil))))))) wb_never wb_next)))) (wt_or (wt_and (wt_test (we_op od_eq (wo_of we_var) (wo_of we_str))) (wt_B (we_call (wa_cons we_var (wa_cons we_var wa_nil))))) (wt_and (wt_test (we_op od_eq (wo_of we_var) (wo_of we_str))) (wt_B (we_call (wa_cons we_var (wa_cons we_var wa_nil)))))) h
def spNX (R : OR) (C : Addr) : Sp := fun vs H Q E => spN R 5 d_noted vs H Q E ∨ spX R C 5 x_noted vs H Q E
theorem okNX_noted (T : Txt K mg A) {C : Addr} (X : ExT K mg C) : FnOk P w K mg base (L2.CX P w) 9 A.noted A.noted_fd ["country", "yard", "known", "load", "word"] (spNX (oRA A) C) := fn_or (fn_cx (okN_noted T)) (okX_noted T X)
end
end K61
set_option Elab.async false
set_option linter.all false
set_option maxRecDepth 100000
set_option maxHeartbeats 4000000
namespace DL
open PySem PySem.Spec PyProof.Rows L2
open Evl (Ex)
section
variable {R : OR}
structure Told (R : OR) (σ : L2.St) (B H : Hp) (i : Nat) (t p1 p2 : Addr) (v : V) (vs1 vs2 : List V) (a : D) (l1 l2 : List D) : Prop where
  s : σ[i]? = some (some (V.ref t))
  ht : H t = some (.tup [v, .ref p1, .ref p2])
  h1 : H p1 = some (.lst vs1)
  h2 : H p2 = some (.lst vs2)
  b1 : B p1 = none
  b2 : B p2 = none
  ne : p1 ≠ p2
  rv : Rp R B v a
  r1 : RpA R B vs1 l1
  r2 : RpA R B vs2 l2
theorem ex_again {B : Hp} {p : Addr} {o : HO} (h : ∀ u, B p = some u → u = o) : Ex B (upd B p o) := fun c u z => by
  by_cases e : c = p
  · subst e; rw [upd_same, h u z]
  · rw [upd_ne e]; exact z
theorem Told.ok {env : Env} {σ : L2.St} {B H : Hp} {i : Nat} {t p1 p2 : Addr} {v : V} {vs1 vs2 : List V} {a : D} {l1 l2 : List D} (T : Told R σ B H i t p1 p2 v vs1 vs2 a l1 l2) (E : EnvOk R none env σ B H) (nm : ∀ (j : Nat) (sv : SV), env[j]? = some sv → isM sv = false) :
    ∃ B1, Ex B B1 ∧ EnvOk R none (env.set i (.val (.tup [a, .lst l1, .lst l2]))) σ B1 H := by
  have t1 : t ≠ p1 := fun z => by have h := T.ht; rw [z, T.h1] at h; cases h
  have t2 : t ≠ p2 := fun z => by have h := T.ht; rw [z, T.h2] at h; cases h
  have e1 : Ex B (upd B p1 (.lst vs1)) := Ex.new T.b1
  have e2 : Ex (upd B p1 (.lst vs1)) (upd (upd B p1 (.lst vs1)) p2 (.lst vs2)) := Ex.new (by rw [upd_ne (Ne.symm T.ne)]; exact T.b2)
  have e3 : Ex (upd (upd B p1 (.lst vs1)) p2 (.lst vs2)) (upd (upd (upd B p1 (.lst vs1)) p2 (.lst vs2)) t (.tup [v, .ref p1, .ref p2])) := ex_again fun u z => by
    rw [upd_ne t2, upd_ne t1] at z
    have := E.bh t u z
    rw [T.ht] at this
    exact (Option.some.inj this).symm
  have e : Ex B _ := (e1.trans e2).trans e3
  refine ⟨_, e, ?_⟩
  have bh : Ex (upd (upd (upd B p1 (.lst vs1)) p2 (.lst vs2)) t (.tup [v, .ref p1, .ref p2])) H := fun b o z => by
    by_cases c3 : b = t
    · rw [c3, upd_same] at z; cases z; rw [c3]; exact T.ht
    · rw [upd_ne c3] at z
      by_cases c2 : b = p2
      · rw [c2, upd_same] at z; cases z; rw [c2]; exact T.h2
      · rw [upd_ne c2] at z
        by_cases c1 : b = p1
        · rw [c1, upd_same] at z; cases z; rw [c1]; exact T.h1
        · rw [upd_ne c1] at z
          exact E.bh b o z
  have q1 : Rp R (upd (upd (upd B p1 (.lst vs1)) p2 (.lst vs2)) t (.tup [v, .ref p1, .ref p2])) (.ref p1) (.lst l1) := rp_lst (by rw [upd_ne (Ne.symm t1), upd_ne T.ne]; exact upd_same) (T.r1.mono e l1)
  have q2 : Rp R (upd (upd (upd B p1 (.lst vs1)) p2 (.lst vs2)) t (.tup [v, .ref p1, .ref p2])) (.ref p2) (.lst l2) := rp_lst (by rw [upd_ne (Ne.symm t2)]; exact upd_same) (T.r2.mono e l2)
  have q0 : Rp R (upd (upd (upd B p1 (.lst vs1)) p2 (.lst vs2)) t (.tup [v, .ref p1, .ref p2])) v a := T.rv.mono e a
  refine ⟨by rw [List.length_set]; exact E.len, bh, fun _ z => (nomatch z), fun _ z => (nomatch z), fun j sv h => ?_, fun ja jb x y p ha hb mx my sa sb => ?_⟩
  · by_cases c : i = j
    · subst c
      have hi : i < env.length := by
        have := (List.getElem?_eq_some_iff.mp h).1
        simpa using this
      rw [List.getElem?_set_self hi] at h
      cases h
      exact ⟨_, T.s, rp_tup upd_same (.cons q0 (.cons q1 (.cons q2 .nil)))⟩
    · rw [List.getElem?_set_ne c] at h
      have z := E.sl j sv h
      have m := nm j sv h
      cases sv with
      | un => trivial
      | val d =>
        obtain ⟨u, hu, ru⟩ := z
        exact ⟨u, hu, ru.mono e d⟩
      | pot => exact z
      | _ => cases m
  · have go : ∀ (j : Nat) (sv : SV), (env.set i (.val (.tup [a, .lst l1, .lst l2])))[j]? = some sv → isM sv = true → False := fun j sv h m => by
      by_cases c : i = j
      · subst c
        have hi : i < env.length := by
          have := (List.getElem?_eq_some_iff.mp h).1
          simpa using this
        rw [List.getElem?_set_self hi] at h
        cases h
        cases m
      · rw [List.getElem?_set_ne c] at h
        rw [nm j sv h] at m
        cases m
    exact (go ja x ha mx).elim
theorem wt_told {tt : TT} {eb : EB} (h : WT R tt eb) {env : Env} {σ : L2.St} {B H : Hp} {i : Nat} {t p1 p2 : Addr} {v : V} {vs1 vs2 : List V} {a : D} {l1 l2 : List D} {Q : Bool → Hp → Prop} {k : Bool → Prop} (T : Told R σ B H i t p1 p2 v vs1 vs2 a l1 l2) (E : EnvOk R none env σ B H) (nm : ∀ (j : Nat) (sv : SV), env[j]? = some sv → isM sv = false)
    (he : eb (env.set i (.val (.tup [a, .lst l1, .lst l2]))) k) (q : ∀ b H', k b → Step none B H B H' → EnvOk R none env σ B H' → Told R σ B H' i t p1 p2 v vs1 vs2 a l1 l2 → Q b H') : tt σ H Q := by
  obtain ⟨B1, e, E1⟩ := T.ok E nm
  refine h none _ σ B1 H _ _ E1 he fun b B' H' kb s E' => ?_
  have s' : Step none B H B H' := .base e s
  have keep : ∀ c o, H c = some o → H' c = some o := fun c o z => s'.hh c o z (fun z => nomatch z)
  exact q b H' kb s' (E.step s' (fun _ z => (nomatch z))) ⟨T.s, keep _ _ T.ht, keep _ _ T.h1, keep _ _ T.h2, T.b1, T.b2, T.ne, T.rv, T.r1, T.r2⟩
def NoM (env : Env) : Prop := ∀ (j : Nat) (sv : SV), env[j]? = some sv → isM sv = false
theorem NoM.set {env : Env} (h : NoM env) (i : Nat) {sw : SV} (m : isM sw = false) : NoM (env.set i sw) := fun j sv z => by
  by_cases e : i = j
  · subst e
    have hi : i < env.length := by
      have := (List.getElem?_eq_some_iff.mp z).1
      simpa using this
    rw [List.getElem?_set_self hi] at z
    cases z
    exact m
  · rw [List.getElem?_set_ne e] at z
    exact h j sv z
theorem asg_told {te : TE} {ee : EE} (h : WE R te ee) {env : Env} {σ : L2.St} {B H : Hp} {De : Ends} {i j : Nat} {t p1 p2 : Addr} {v : V} {vs1 vs2 : List V} {a : D} {l1 l2 : List D} {k : DK} (ji : j ≠ i) (T : Told R σ B H i t p1 p2 v vs1 vs2 a l1 l2) (E : EnvOk R none env σ B H)
    (he : ee env k) (q : ∀ d u B' H', k d → Step none B H B' H' → EnvOk R none (env.set j (.val d)) (σ.set j (some u)) B' H' → Told R (σ.set j (some u)) B' H' i t p1 p2 v vs1 vs2 a l1 l2 → De.nx (σ.set j (some u)) H') : (tAsg te (gName j)) De σ H := by
  refine h none env σ B H _ _ E he fun d u B' H' kd s E' r => ?_
  have keep : ∀ c o, H c = some o → H' c = some o := fun c o z => s.hh c o z (fun z => nomatch z)
  have still : ∀ (p : Addr) (vs : List V), H p = some (.lst vs) → B p = none → B' p = none := fun p vs hp bp => by
    cases z : B' p with
    | none => rfl
    | some o =>
      rcases s.nw p o z with w | w | w
      · rw [bp] at w; cases w
      · rw [hp] at w; cases w
      · have := s.bh p o z
        rw [keep _ _ hp] at this
        cases this
        exact w.elim
  exact q d u B' H' kd s (E'.set j r) ⟨by rw [List.getElem?_set_ne ji]; exact T.s, keep _ _ T.ht, keep _ _ T.h1, keep _ _ T.h2, still _ _ T.h1 T.b1, still _ _ T.h2 T.b2, T.ne, T.rv.mono s.bb a, T.r1.mono s.bb l1, T.r2.mono s.bb l2⟩
end
end DL
set_option Elab.async false
set_option linter.all false
set_option maxRecDepth 100000
set_option maxHeartbeats 4000000
namespace DL
open PySem PySem.Spec PyProof.Rows L2
open Evl (Ex)
section
variable {R : OR} {K : PySem.W.Frag}
theorem try_told {ef : List D → (D → List D → List D → Prop) → Prop} {ex : List D → Prop} {C : Addr} {n i : Nat} {ta : TA} {eas : EL} {ts : TS} {env : Env} {σ : L2.St} {B H : Hp} {De : Ends} {k : D → List D → List D → Prop} (h : WA R ta eas) (eF : PySem.W.exmOne K (.ref C) (.ref C) = some true) (E : EnvOk R none env σ B H) (hi : i < env.length)
    {kk : List D → Prop} (he : eas env kk) (im : ∀ ds, kk ds → ds.length = n ∧ ((ex ds ∧ ∀ B' H', Step none B H B' H' → EnvOk R none env σ B' H' → ts De σ H') ∨ ef ds k))
    (hk : ∀ a l1 l2 v p1 p2 t vs1 vs2 B' H', k a l1 l2 → Step none B H B' H' → H p1 = none → H p2 = none → EnvOk R none (env.set i .un) (σ.set i (some (.ref t))) B' H' → Told R (σ.set i (some (.ref t))) B' H' i t p1 p2 v vs1 vs2 a l1 l2 → De.nx (σ.set i (some (.ref t))) H') :
    (tAsg (tCallSD (fun vs H Q E => spN R n ef vs H Q E ∨ spX R C n ex vs H Q E) [] (L2.WE (wOnly K (.ref C) (fun _ _ _ => ts) (fun _ _ _ _ => False) De)) ta) (gName i)) De σ H := by
  refine h none env σ B H _ _ E he fun ds vs B1 H1 kd s1 E1 r1 => ?_
  rw [List.append_nil]
  have kd := im ds kd
  rcases kd.2 with hx | hf
  · refine .inr ⟨B1, ds, E1.bh, r1, kd.1, hx.1, fun B' H' s2 => ?_⟩
    have po : PotOk none H' := fun _ z => (nomatch z)
    exact ⟨true, eF, fun _ a ha => hx.2 B' H' (s1.trans E1.pot s2) (E1.step s2 po), fun q => Bool.noConfusion q⟩
  · refine .inl ⟨B1, ds, k, E1.bh, r1, kd.1, hf, fun a l1 l2 v p1 p2 t vs1 vs2 B' H' ka s2 rv n1 n2 nt ne b1 b2 bt h1 h2 q1 q2 ht => ?_⟩
    have po : PotOk none H' := fun _ z => (nomatch z)
    have E2 := (E1.step s2 po).setU i (some (V.ref t))
    exact hk a l1 l2 v p1 p2 t vs1 vs2 B' H' ka (s1.trans E1.pot s2) (fresh_backP s1.hh (fun z => nomatch z) n1) (fresh_backP s1.hh (fun z => nomatch z) n2) E2 ⟨List.getElem?_set_self (by rw [E.len]; exact hi), ht, h1, h2, b1, b2, ne, rv, q1, q2⟩
end
end DL
set_option Elab.async false
set_option linter.all false
set_option maxRecDepth 100000
set_option maxHeartbeats 4000000
namespace DL
open PySem PySem.Spec PyProof.Rows L2
open Evl (Ex)
section
variable {R : OR} {K : PySem.W.Frag}
theorem app_told {env : Env} {σ : L2.St} {B H : Hp} {De : Ends} {i : Nat} {t p1 p2 : Addr} {v z : V} {vs1 vs2 : List V} {a : D} {l1 l2 : List D} {rest : TS} (T : Told R σ B H i t p1 p2 v vs1 vs2 a l1 l2) (E : EnvOk R none env σ B H) (nm : ∀ (j : Nat) (sv : SV), env[j]? = some sv → isM sv = false)
    (z1 : vs1.length < 100000) (z2 : vs2.length < 100000) (hk : ∀ H', EnvOk R none env σ B H' → (∀ c o, H c = some o → c ≠ p1 → c ≠ p2 → H' c = some o) → (∀ c, H c = none → H' c = none) → rest De σ H') :
    (tSeq (tDrop (tBM K "list" rAppend (tOp (rIx K) (tVar i) (tC (.int 1))) (tCons (tC z) tNil))) (tSeq (tDrop (tBM K "list" rAppend (tOp (rIx K) (tVar i) (tC (.int 2))) (tCons (tC z) tNil))) rest)) De σ H := by
  have t1 : t ≠ p1 := fun z => by have h := T.ht; rw [z, T.h1] at h; cases h
  have t2 : t ≠ p2 := fun z => by have h := T.ht; rw [z, T.h2] at h; cases h
  refine ⟨_, T.s, .inr (.inl ⟨t, _, 1, .ref p1, rfl, rfl, Evl.st_of T.ht, rfl, tyV_l T.h1, p1, vs1, z, rfl, rfl, T.h1, Evl.sz_lt z1, ?_⟩)⟩
  have h2 : (upd H p1 (.lst (vs1 ++ [z]))) p2 = some (.lst vs2) := by rw [upd_ne (Ne.symm T.ne)]; exact T.h2
  have ht : (upd H p1 (.lst (vs1 ++ [z]))) t = some (.tup [v, .ref p1, .ref p2]) := by rw [upd_ne t1]; exact T.ht
  refine ⟨_, T.s, .inr (.inl ⟨t, _, 2, .ref p2, rfl, rfl, Evl.st_of ht, rfl, tyV_l h2, p2, vs2, z, rfl, rfl, h2, Evl.sz_lt z2, ?_⟩)⟩
  refine hk _ ?_ (fun c o h n1 n2 => by rw [upd_ne n2, upd_ne n1]; exact h) (fun c h => ?_)
  · refine ⟨E.len, Ex.mut (Ex.mut E.bh T.b1) T.b2, fun _ z => (nomatch z), fun _ z => (nomatch z), fun j sv h => ?_, E.nd⟩
    have y := E.sl j sv h
    have m := nm j sv h
    cases sv with
    | un => trivial
    | val d => exact y
    | pot => exact y
    | _ => cases m
  · have n1 : c ≠ p1 := fun w => by rw [w, T.h1] at h; cases h
    have n2 : c ≠ p2 := fun w => by rw [w, T.h2] at h; cases h
    rw [upd_ne n2, upd_ne n1]; exact h
end
end DL
set_option Elab.async false
set_option linter.all false
set_option maxRecDepth 100000
set_option maxHeartbeats 4000000
namespace K61
open PySem PySem.Spec PyProof.Rows L2 TM Pr Ep Nw DL
section
variable {P : Program} {w : World} {K : PySem.W.Frag} {mg : Str → Option Value} {base : Heap} {A : Adr}
def e_l_size : ES := (sRet (eUn sumU (eF (eLc (eSeq (eVar 0)) (egTup 3 (egCons (egName 1) (egCons (egName 2) (egCons (egName 3) egNil)))) eYes (eVar 3) [1, 2, 3]))))
def d_l_size : List D → (D → Prop) → Prop := fun ds k => e_l_size (env0 false n_l_size ds) (knE k)
theorem okd_l_size (T : Txt K mg A) : FnOk P w K mg base CX0 1 A.l_size A.l_size_fd ["_law_load_here"] (spE (oRA A) false 1 d_l_size) := by
  refine T.F_l_size.ok sc_l_size (fun vs H Q E h => len_E h) (fun cdv A' outer s H vs Q E hr h => ?_)
  have hu := hu_of hr
  refine ⟨_, (pss_one (ps_ret (show PE _ _ (tCB (rSumA K) _) from (pe_callB (id := "sum") (cr_sumA rfl) (by rfl) T.n_sum (by decide +kernel) (pa_cons (pe_lc (own := [("_law_origin", 1), ("_law_target", 2), ("_law_many_here", 3)]) rfl sc_l_size.nd (show PI _ _ _ (iSeq K _) from pi_seqU (pv 0)) (blkOk_by (N := n_l_size) (sc := defScope s_l_size) (by decide +kernel)) (fun _ _ _ _ _ => (show PG _ _ (gTup K 3 _) from pg_tup rfl (pgs_cons (pg_name (i := 1) sc_l_size.nd rfl (Or.inl rfl)) (pgs_cons (pg_name (i := 2) sc_l_size.nd rfl (Or.inl rfl)) (pgs_cons (pg_name (i := 3) sc_l_size.nd rfl (Or.inl rfl)) pgs_nil))))) (fun _ _ _ _ _ => pts_nil) (fun _ _ _ _ _ => (pv 3))) pa_nil))))), ?_⟩
  exact body_E (es := e_l_size) ((wb_ret (we_cb1 ud_sumU (wo_of (we_of_wf (wf_lc (wi_seq we_var) (wg_tup (wgs_cons wg_name (wgs_cons wg_name (wgs_cons wg_name wgs_nil)))) (by decide) wt_yes we_var)))))) h
end
end K61
set_option Elab.async false
set_option linter.all false
set_option maxRecDepth 100000
set_option maxHeartbeats 4000000
namespace K61
open PySem PySem.Spec PyProof.Rows L2 TM Pr Ep Nw DL
section
variable {P : Program} {w : World} {K : PySem.W.Frag} {mg : Str → Option Value} {base : Heap} {A : Adr}
def e_l_sure : ES := (sSeq (sAsg (eVar 0) (egTup 3 (egCons (egName 2) (egCons (egName 3) (egCons (egName 4) egNil))))) (sSeq (sIf (eOrT (eB (eOp ltU (eCall 1 d_l_size (eaCons (eVar 1) eaNil)) (eC (.int 2)))) (eB (eUn anyD (eF (eLc (eSeq (eVar 3)) (egName 5) eYes (eCall 2 d_l_is_most (eaCons (eVar 1) (eaCons (eVar 5) eaNil))) [5]))))) (sRet (eC (.bl true))) sNext) (sRet (eIf (eOrT (eB (eOp gtD (eCall 1 d_l_size (eaCons (eVar 1) eaNil)) (eVar 2))) (eB (eUn anyD (eF (eLc (eSeq (eVar 4)) (egName 5) eYes (eCall 2 d_l_is_most (eaCons (eVar 5) (eaCons (eVar 1) eaNil))) [5]))))) (eC (.bl false)) (eC .non)))))
def d_l_sure : List D → (D → Prop) → Prop := fun ds k => e_l_sure (env0 false n_l_sure ds) (knE k)
theorem okd_l_sure (T : Txt K mg A) : FnOk P w K mg base CX0 3 A.l_sure A.l_sure_fd ["_law_known_here", "_law_load_here"] (spE (oRA A) false 2 d_l_sure) := by
  refine T.F_l_sure.ok sc_l_sure (fun vs H Q E h => len_E h) (fun cdv A' outer s H vs Q E hr h => ?_)
  have hu := hu_of hr
  refine ⟨_, (pss_cons (ps_asg (pv 0) (show PG _ _ (gTup K 3 _) from pg_tup rfl (pgs_cons (pg_name (i := 2) sc_l_sure.nd rfl (Or.inl rfl)) (pgs_cons (pg_name (i := 3) sc_l_sure.nd rfl (Or.inl rfl)) (pgs_cons (pg_name (i := 4) sc_l_sure.nd rfl (Or.inl rfl)) pgs_nil))))) (pss_cons (ps_if (PW.pt (pw_or (show PT _ _ (tTest (tOp (rLtU K) _ _)) from pt_cmpR (op_ltU hr.units) (pe_call (okd_l_size T) (hr.mono (by decide)) (by rfl) T.m_l_size T.F_l_size.kp T.b_l_size .nil pass0 (pa_cons (pv 1) pa_nil)) pe_int (nomark _)) (pw_or1 (pt_val (show PE _ _ (tCB (rAny K) _) from (pe_callB (id := "any") (cr_any rfl) (by rfl) T.n_any (by decide +kernel) (pa_cons (pe_lc (own := [("_law_one", 5)]) rfl sc_l_sure.nd (show PI _ _ _ (iSeq K _) from pi_seqU (pv 3)) (blkOk_by (N := n_l_sure) (sc := defScope s_l_sure) (by decide +kernel)) (fun _ _ _ _ _ => (pg_name (i := 5) sc_l_sure.nd rfl (Or.inl rfl))) (fun _ _ _ _ _ => pts_nil) (fun _ _ _ _ _ => (pe_call (okd_l_is_most T) (hr.mono (by decide)) (by rfl) T.m_l_is_most T.F_l_is_most.kp T.b_l_is_most .nil pass0 (pa_cons (pv 1) (pa_cons (pv 5) pa_nil))))) pa_nil))))))) (pss_one (ps_ret pe_bl)) pss_nil) (pss_one (ps_ret (pe_ifExp (PW.pt (pw_or (show PT _ _ (tTest (tOp (rI0 fun i j => V.bl (decide (j < i))) _ _)) from pt_cmpR op_gt (pe_call (okd_l_size T) (hr.mono (by decide)) (by rfl) T.m_l_size T.F_l_size.kp T.b_l_size .nil pass0 (pa_cons (pv 1) pa_nil)) (pv 2) (nomark _)) (pw_or1 (pt_val (show PE _ _ (tCB (rAny K) _) from (pe_callB (id := "any") (cr_any rfl) (by rfl) T.n_any (by decide +kernel) (pa_cons (pe_lc (own := [("_law_one", 5)]) rfl sc_l_sure.nd (show PI _ _ _ (iSeq K _) from pi_seqU (pv 4)) (blkOk_by (N := n_l_sure) (sc := defScope s_l_sure) (by decide +kernel)) (fun _ _ _ _ _ => (pg_name (i := 5) sc_l_sure.nd rfl (Or.inl rfl))) (fun _ _ _ _ _ => pts_nil) (fun _ _ _ _ _ => (pe_call (okd_l_is_most T) (hr.mono (by decide)) (by rfl) T.m_l_is_most T.F_l_is_most.kp T.b_l_is_most .nil pass0 (pa_cons (pv 5) (pa_cons (pv 1) pa_nil))))) pa_nil))))))) pe_bl pe_non))))), ?_⟩
  exact body_E (es := e_l_sure) ((wb_seq (wb_asg we_var (wg_tup (wgs_cons wg_name (wgs_cons wg_name (wgs_cons wg_name wgs_nil))))) (wb_seq (wb_if (wt_or (wt_test (we_op od_ltU (wo_of (we_call (wa_cons we_var wa_nil))) (wo_of we_int))) (wt_B (we_cb1 ud_any (wo_of (we_of_wf (wf_lc (wi_seq we_var) wg_name (by decide) wt_yes (we_call (wa_cons we_var (wa_cons we_var wa_nil))))))))) (wb_ret we_bl) wb_next) (wb_ret (we_if (wt_or (wt_test (we_op od_gt (wo_of (we_call (wa_cons we_var wa_nil))) (wo_of we_var))) (wt_B (we_cb1 ud_any (wo_of (we_of_wf (wf_lc (wi_seq we_var) wg_name (by decide) wt_yes (we_call (wa_cons we_var (wa_cons we_var wa_nil))))))))) we_bl we_non))))) h
end
end K61
set_option Elab.async false
set_option linter.all false
set_option maxRecDepth 100000
set_option maxHeartbeats 4000000
namespace K61
open PySem PySem.Spec PyProof.Rows L2 TM Pr Ep Nw DL
open Evl (Ex)
section
variable {P : Program} {w : World} {K : PySem.W.Frag} {mg : Str → Option Value} {base : Heap} {A : Adr}
def d_notedE : List D → DK → Prop := fun ds k => d_noted ds fun a l1 l2 => k (.tup [a, .lst l1, .lst l2])
theorem spE_N {R : OR} {vs : List V} {H : Hp} {Q : VK} {E : XK} (h : spE R false 5 d_notedE vs H Q E) : spN R 5 d_noted vs H Q E := by
  obtain ⟨P, B, us, ds, k, hP, _, _, bh, r, hn, he, q⟩ := h
  rcases hP with ⟨rfl, _, rfl⟩ | ⟨p, _, z, _⟩
  · refine ⟨B, ds, _, bh, r, hn, he, fun a l1 l2 v p1 p2 t vs1 vs2 B' H' ka s rv n1 n2 nt ne b1 b2 bt h1 h2 r1 r2 ht => ?_⟩
    have t1 : t ≠ p1 := fun z => by rw [z, h1] at ht; cases ht
    have t2 : t ≠ p2 := fun z => by rw [z, h2] at ht; cases ht
    have e1 : Ex B' (upd B' p1 (.lst vs1)) := Ex.new b1
    have e2 : Ex (upd B' p1 (.lst vs1)) (upd (upd B' p1 (.lst vs1)) p2 (.lst vs2)) := Ex.new (by rw [upd_ne (Ne.symm ne)]; exact b2)
    have e3 : Ex (upd (upd B' p1 (.lst vs1)) p2 (.lst vs2)) (upd (upd (upd B' p1 (.lst vs1)) p2 (.lst vs2)) t (.tup [v, .ref p1, .ref p2])) := Ex.new (by rw [upd_ne t2, upd_ne t1]; exact bt)
    have e := (e1.trans e2).trans e3
    have at_ : ∀ c o, (upd (upd (upd B' p1 (.lst vs1)) p2 (.lst vs2)) t (.tup [v, .ref p1, .ref p2])) c = some o → B' c = some o ∨ H c = none ∧ H' c = some o := fun c o z => by
      by_cases c3 : c = t
      · rw [c3, upd_same] at z; cases z; rw [c3]; exact .inr ⟨nt, ht⟩
      · rw [upd_ne c3] at z
        by_cases c2 : c = p2
        · rw [c2, upd_same] at z; cases z; rw [c2]; exact .inr ⟨n2, h2⟩
        · rw [upd_ne c2] at z
          by_cases c1 : c = p1
          · rw [c1, upd_same] at z; cases z; rw [c1]; exact .inr ⟨n1, h1⟩
          · rw [upd_ne c1] at z
            exact .inl z
    have bh' : Ex (upd (upd (upd B' p1 (.lst vs1)) p2 (.lst vs2)) t (.tup [v, .ref p1, .ref p2])) H' := fun c o z => (at_ c o z).elim (s.bh c o) And.right
    have q1 : Rp R (upd (upd (upd B' p1 (.lst vs1)) p2 (.lst vs2)) t (.tup [v, .ref p1, .ref p2])) (.ref p1) (.lst l1) := rp_lst (by rw [upd_ne (Ne.symm t1), upd_ne ne]; exact upd_same) (r1.mono e l1)
    have q2 : Rp R (upd (upd (upd B' p1 (.lst vs1)) p2 (.lst vs2)) t (.tup [v, .ref p1, .ref p2])) (.ref p2) (.lst l2) := rp_lst (by rw [upd_ne (Ne.symm t2)]; exact upd_same) (r2.mono e l2)
    exact q _ (.ref t) _ H' ka ⟨s.bb.trans e, bh', s.hh, fun c o z => (at_ c o z).elim (s.nw c o) fun y => .inr (.inl y.1)⟩ (fun _ z => (nomatch z)) (rp_tup upd_same (.cons (rv.mono e a) (.cons q1 (.cons q2 .nil))))
  · cases z
theorem okb_noted (T : Txt K mg A) : FnOk P w K mg base CX0 9 A.noted A.noted_fd ["country", "yard", "known", "load", "word"] (spE (oRA A) false 5 d_notedE) :=
  ⟨fun vs H Q E h => (okN_noted (P := P) (w := w) (base := base) T).len vs H Q E (spE_N h), fun A' outer s H args us vs Q E hr he hb hv hs => (okN_noted (P := P) (w := w) (base := base) T).run A' outer s H args us vs Q E hr he hb hv (spE_N hs)⟩
theorem KB_noted_43210_l_noted_right (T : Txt K mg A) : KBinds K A.noted_fd ["country", "yard", "known", "load", "word"] ["word", "load", "known", "yard", "country"] (kgP [4, 3, 2, 1, 0]) (kgPV [4, 3, 2, 1, 0]) := by
  obtain ⟨oc, od, kV, doc, pm, an, cdv, ct, osl, e, lk, hcd⟩ := T.F_noted.ex
  refine ⟨fun s us ws hk hl => ?_, kgP_rel⟩
  cases us with
  | cons u us => cases hl
  | nil =>
    have t2 : ws.length = 5 := by
      by_cases z : ws.length = ([4, 3, 2, 1, 0] : List Nat).length
      · exact z
      · have hl : (if ws.length = ([4, 3, 2, 1, 0] : List Nat).length then ([4, 3, 2, 1, 0] : List Nat).map (fun i => ws.getD i .none) else []).length = 5 := hl
        rw [if_neg z] at hl
        cases hl
    match ws, t2 with
    | [w0, w1, w2, w3, w4], _ =>
      rw [e]
      exact BindsTo.of_eq rfl
abbrev as5 : EL := eaCons (eVar 0) (eaCons (eVar 1) (eaCons (eVar 2) (eaCons (eVar 3) (eaCons (eVar 4) eaNil))))
def e_lnr0 : ES := (sPar 5 6 (emE (eCall 2 d_l_sure (eaCons (eVar 2) (eaCons (eVar 3) eaNil)))) (emE (eUn reprD (eF (eLst (eaCons (eVar 2) (eaCons (eVar 3) eaNil)))))))
def e_lnrC : EE := (eAnd (eOp eqD (eUn reprD (eVar 5)) (eUn reprD (eOp eqD (eVar 4) (eC (.str "refused"))))) (eOp eqD (eUn reprD (eF (eLst (eaCons (eVar 2) (eaCons (eVar 3) eaNil))))) (eVar 6)))
def e_lnr2 : EE := (eOp addU (eF (eUnF listF (eOp ixD (eVar 2) (eC (.int 1))))) (eIf (eB (eOp eqD (eVar 4) (eC (.str "let")))) (eF (eLst (eaCons (eVar 3) eaNil))) (eF (eLst eaNil))))
def e_lnr3 : EE := (eOp addU (eF (eUnF listF (eOp ixD (eVar 2) (eC (.int 2))))) (eIf (eB (eOp eqD (eVar 4) (eC (.str "refused")))) (eF (eLst (eaCons (eVar 3) eaNil))) (eF (eLst eaNil))))
def e_lnr4 : EB := (eOrT (eB (eOp eqD (eUn reprD (eVar 5)) (eUn reprD (eOp eqD (eVar 4) (eC (.str "refused")))))) (eOrT (eB (eOp neD (eUn reprD (eVar 7)) (eUn reprD (eTup (eaCons (eOp ixD (eVar 2) (eC (.int 0))) (eaCons (eVar 8) (eaCons (eVar 9) eaNil))))))) (eB (eOp neD (eUn reprD (eF (eLst (eaCons (eVar 2) (eaCons (eVar 3) eaNil))))) (eVar 6)))))
def e_lnr5 : EB := (eB (eOp neD (eUn reprD (eF (eLst (eaCons (eCall 3 d_is_known (eaCons (eVar 0) (eaCons (eVar 1) (eaCons (eVar 7) eaNil)))) (eaCons (eCall 4 d_is_let (eaCons (eVar 0) (eaCons (eVar 1) (eaCons (eVar 7) (eaCons (eVar 3) eaNil))))) eaNil))))) (eUn reprD (eF (eLst (eaCons (eC (.bl true)) (eaCons (eOp eqD (eVar 4) (eC (.str "let"))) eaNil)))))))
def e_lnr8 : EE := (eOp eqD (eUn reprD (eCallW [4, 3, 2, 1, 0] 5 d_notedE (eaCons (eVar 4) (eaCons (eVar 3) (eaCons (eVar 2) (eaCons (eVar 1) (eaCons (eVar 0) eaNil))))))) (eUn reprD (eTup (eaCons (eOp ixD (eVar 2) (eC (.int 0))) (eaCons (eVar 8) (eaCons (eVar 9) eaNil))))))
def toldE (env : DL.Env) (a : D) (l1 l2 : List D) : DL.Env := env.set 7 (.val (.tup [a, .lst l1, .lst l2]))
def e_lnrT (env1 : DL.Env) (k : DK) (a : D) (l1 l2 : List D) : Prop := l1.length < 100000 ∧ l2.length < 100000 ∧ e_lnr2 (env1.set 7 .un) fun d8 => e_lnr3 ((env1.set 7 .un).set 8 (.val d8)) fun d9 =>
  e_lnr4 (toldE (((env1.set 7 .un).set 8 (.val d8)).set 9 (.val d9)) a l1 l2) fun b4 => if b4 = true then k (.bl false) else e_lnr5 (toldE (((env1.set 7 .un).set 8 (.val d8)).set 9 (.val d9)) a l1 l2) fun b5 => if b5 = true then k (.bl false) else e_lnr8 (((env1.set 7 .un).set 8 (.val d8)).set 9 (.val d9)) k
def d_l_noted_right : List D → DK → Prop := fun ds k => e_lnr0 (env0 false n_l_noted_right ds) { nx := fun env1 => NoM env1 ∧ env1.length = 10 ∧ as5 env1 fun as => as.length = 5 ∧ ((x_noted as ∧ e_lnrC env1 k) ∨ d_noted as (e_lnrT env1 k)), rt := fun _ => False, rf := fun _ => False }
theorem okb_l_noted_right (T : Txt K mg A) {C : Addr} (X : ExT K mg C) : G8.FnOkG P w K mg base CX0 10 A.l_noted_right A.l_noted_right_fd ["_law_country", "_law_yard", "_law_known_here", "_law_load_here", "_law_word"] (spE (oRA A) false 5 d_l_noted_right) := by
  refine G8.okG T.F_l_noted_right sc_l_noted_right (fun vs H Q E h => len_E h) (fun cdv A' outer s H vs Q E hr hG h => ?_)
  have hu := hu_of hr
  refine ⟨_, pss_cons (ps_par (i := 5) (j := 6) (by rfl) sc_l_noted_right.nd rfl rfl (by decide) rfl rfl (pa_cons (pe_call (okd_l_sure T) (hr.mono (by decide)) (by rfl) T.m_l_sure T.F_l_sure.kp T.b_l_sure .nil pass0 (pa_cons (pv 2) (pa_cons (pv 3) pa_nil))) (pa_cons (show PE _ _ (tCB (rReprU K) _) from (pe_callB (id := "repr") (cr_reprU hG hr.units) (by rfl) T.n_repr (by decide +kernel) (pa_cons (pe_lst (pa_cons (pv 2) (pa_cons (pv 3) pa_nil))) pa_nil))) pa_nil)) (by rfl)) (pss_cons (ps_try_only (tb := fun W => tAsg (tCallSD (spNX (oRA A) C) [] (WE W) (tCons (tVar 0) (tCons (tVar 1) (tCons (tVar 2) (tCons (tVar 3) (tCons (tVar 4) tNil)))))) (gName 7)) (Wout := fun _ _ _ _ => False) rfl rfl ⟨rfl, by decide, Or.inl X.gF⟩ takes0
      (fun W pn xe tk _ => pss_one (ps_set (i := 7) sc_l_noted_right.nd rfl (Or.inl rfl) (pe_callSD (okNX_noted T X) (hr.mono (by decide)) (by rfl) T.m_noted T.F_noted.kp T.b_noted .nil (fun σ => passAt tk σ) (by exact (pa_cons (pv 0) (pa_cons (pv 1) (pa_cons (pv 2) (pa_cons (pv 3) (pa_cons (pv 4) pa_nil)))))))))
      (fun _ _ _ _ _ _ _ => pss_one (ps_ret (pe_and (show PE _ _ (tOp (rEqD K) _ _) from pe_cmpR (op_eqD hr.units) (show PE _ _ (tCB (rReprU K) _) from (pe_callB (id := "repr") (cr_reprU hG hr.units) (by rfl) T.n_repr (by decide +kernel) (pa_cons (pv 5) pa_nil))) (show PE _ _ (tCB (rReprU K) _) from (pe_callB (id := "repr") (cr_reprU hG hr.units) (by rfl) T.n_repr (by decide +kernel) (pa_cons (show PE _ _ (tOp (rEqD K) _ _) from pe_cmpR (op_eqD hr.units) (pv 4) pe_str (nomark _)) pa_nil))) (nomark _)) (pe_one (show PE _ _ (tOp (rEqD K) _ _) from pe_cmpR (op_eqD hr.units) (show PE _ _ (tCB (rReprU K) _) from (pe_callB (id := "repr") (cr_reprU hG hr.units) (by rfl) T.n_repr (by decide +kernel) (pa_cons (pe_lst (pa_cons (pv 2) (pa_cons (pv 3) pa_nil))) pa_nil))) (pv 6) (nomark _)))))))
    (pss_cons (ps_set (i := 8) sc_l_noted_right.nd rfl (Or.inl rfl) (show PE _ _ (tOp (rAddU K) _ _) from pe_op op_addU (show PE _ _ (tCB (rListOf K) _) from (pe_callTy (T := "list") call_list_of (by rfl) T.n_list (by decide +kernel) (pa_cons (show PE _ _ (tOp (rIx K) _ _) from pe_ix ix_seq (pv 2) pe_int (fun _ _ => rfl)) pa_nil))) (pe_ifExp (show PT _ _ (tTest (tOp (rEqD K) _ _)) from pt_cmpR (op_eqD hr.units) (pv 4) pe_str (nomark _)) (pe_lst (pa_cons (pv 3) pa_nil)) (pe_lst pa_nil)))) (pss_cons (ps_set (i := 9) sc_l_noted_right.nd rfl (Or.inl rfl) (show PE _ _ (tOp (rAddU K) _ _) from pe_op op_addU (show PE _ _ (tCB (rListOf K) _) from (pe_callTy (T := "list") call_list_of (by rfl) T.n_list (by decide +kernel) (pa_cons (show PE _ _ (tOp (rIx K) _ _) from pe_ix ix_seq (pv 2) pe_int (fun _ _ => rfl)) pa_nil))) (pe_ifExp (show PT _ _ (tTest (tOp (rEqD K) _ _)) from pt_cmpR (op_eqD hr.units) (pv 4) pe_str (nomark _)) (pe_lst (pa_cons (pv 3) pa_nil)) (pe_lst pa_nil)))) (pss_cons (ps_if (PW.pt (pw_or (show PT _ _ (tTest (tOp (rEqD K) _ _)) from pt_cmpR (op_eqD hr.units) (show PE _ _ (tCB (rReprU K) _) from (pe_callB (id := "repr") (cr_reprU hG hr.units) (by rfl) T.n_repr (by decide +kernel) (pa_cons (pv 5) pa_nil))) (show PE _ _ (tCB (rReprU K) _) from (pe_callB (id := "repr") (cr_reprU hG hr.units) (by rfl) T.n_repr (by decide +kernel) (pa_cons (show PE _ _ (tOp (rEqD K) _ _) from pe_cmpR (op_eqD hr.units) (pv 4) pe_str (nomark _)) pa_nil))) (nomark _)) (pw_or (show PT _ _ (tTest (tOp (rNeD K) _ _)) from pt_cmpR (op_neD hr.units) (show PE _ _ (tCB (rReprU K) _) from (pe_callB (id := "repr") (cr_reprU hG hr.units) (by rfl) T.n_repr (by decide +kernel) (pa_cons (pv 7) pa_nil))) (show PE _ _ (tCB (rReprU K) _) from (pe_callB (id := "repr") (cr_reprU hG hr.units) (by rfl) T.n_repr (by decide +kernel) (pa_cons (pe_tup (pa_cons (show PE _ _ (tOp (rIx K) _ _) from pe_ix ix_seq (pv 2) pe_int (fun _ _ => rfl)) (pa_cons (pv 8) (pa_cons (pv 9) pa_nil)))) pa_nil))) (nomark _)) (pw_or1 (show PT _ _ (tTest (tOp (rNeD K) _ _)) from pt_cmpR (op_neD hr.units) (show PE _ _ (tCB (rReprU K) _) from (pe_callB (id := "repr") (cr_reprU hG hr.units) (by rfl) T.n_repr (by decide +kernel) (pa_cons (pe_lst (pa_cons (pv 2) (pa_cons (pv 3) pa_nil))) pa_nil))) (pv 6) (nomark _)))))) (pss_one (ps_ret pe_bl)) pss_nil) (pss_cons (ps_if (show PT _ _ (tTest (tOp (rNeD K) _ _)) from pt_cmpR (op_neD hr.units) (show PE _ _ (tCB (rReprU K) _) from (pe_callB (id := "repr") (cr_reprU hG hr.units) (by rfl) T.n_repr (by decide +kernel) (pa_cons (pe_lst (pa_cons (pe_call (okd_is_known T) (hr.mono (by decide)) (by rfl) T.m_is_known T.F_is_known.kp T.b_is_known .nil pass0 (pa_cons (pv 0) (pa_cons (pv 1) (pa_cons (pv 7) pa_nil)))) (pa_cons (pe_call (okd_is_let T) (hr.mono (by decide)) (by rfl) T.m_is_let T.F_is_let.kp T.b_is_let .nil pass0 (pa_cons (pv 0) (pa_cons (pv 1) (pa_cons (pv 7) (pa_cons (pv 3) pa_nil))))) pa_nil))) pa_nil))) (show PE _ _ (tCB (rReprU K) _) from (pe_callB (id := "repr") (cr_reprU hG hr.units) (by rfl) T.n_repr (by decide +kernel) (pa_cons (pe_lst (pa_cons pe_bl (pa_cons (show PE _ _ (tOp (rEqD K) _ _) from pe_cmpR (op_eqD hr.units) (pv 4) pe_str (nomark _)) pa_nil))) pa_nil))) (nomark _)) (pss_one (ps_ret pe_bl)) pss_nil)
    (pss_cons (ps_expr (show PE _ _ (tBM K "list" rAppend _ _) from pe_bm PySem.F.plainAttrs_list PySem.F.slot_list_append PySem.F.type_list_append mt_append (show PE _ _ (tOp (rIx K) _ _) from pe_ix ix_seq (pv 7) pe_int (fun _ _ => rfl)) (pa_cons pe_non pa_nil)))
    (pss_cons (ps_expr (show PE _ _ (tBM K "list" rAppend _ _) from pe_bm PySem.F.plainAttrs_list PySem.F.slot_list_append PySem.F.type_list_append mt_append (show PE _ _ (tOp (rIx K) _ _) from pe_ix ix_seq (pv 7) pe_int (fun _ _ => rfl)) (pa_cons pe_non pa_nil)))
    (pss_one (ps_ret (show PE _ _ (tOp (rEqD K) _ _) from pe_cmpR (op_eqD hr.units) (show PE _ _ (tCB (rReprU K) _) from (pe_callB (id := "repr") (cr_reprU hG hr.units) (by rfl) T.n_repr (by decide +kernel) (pa_cons (G8.pe_callK0 (okb_noted T) (hr.mono (by decide)) (by rfl) T.m_noted T.F_noted.kp (KB_noted_43210_l_noted_right T) pass0 (pk_cons (pv 4) (pk_cons (pv 3) (pk_cons (pv 2) (pk_cons (pv 1) (pk_cons (pv 0) pk_nil)))))) pa_nil))) (show PE _ _ (tCB (rReprU K) _) from (pe_callB (id := "repr") (cr_reprU hG hr.units) (by rfl) T.n_repr (by decide +kernel) (pa_cons (pe_tup (pa_cons (show PE _ _ (tOp (rIx K) _ _) from pe_ix ix_seq (pv 2) pe_int (fun _ _ => rfl)) (pa_cons (pv 8) (pa_cons (pv 9) pa_nil)))) pa_nil))) (nomark _))))))))))), ?_⟩
  obtain ⟨P0, B, us, ds, k, hP, po, pb, bh, r, hn, he, q⟩ := h
  obtain ⟨rfl, rfl⟩ : P0 = none ∧ vs = us := hP.elim (fun h => ⟨h.1, h.2.2⟩) fun ⟨_, _, z, _⟩ => Bool.noConfusion z
  have no : ∀ {H : Hp}, PotOk none H := fun _ z => (nomatch z)
  have two : ∀ {t u : TS} {De : Ends} {σ : L2.St} {H : Hp}, t { De with nx := u De } σ H → (tSeq t u) De σ H := fun h => h
  refine two ?_
  refine (show WB (oRA A) _ e_lnr0 from (wb_par (wm_E (we_call (wa_cons we_var (wa_cons we_var wa_nil)))) (wm_E (we_cb1 ud_repr (wo_of (we_of_wf (wf_lst (wa_cons we_var (wa_cons we_var wa_nil))))))))) none B H _ _ B H _ _ (start_ok (.inl ⟨rfl, rfl, rfl⟩) po pb bh r) he ⟨fun env σ B1 H1 hk S => ?_, fun _ _ _ _ z => z.elim, fun _ _ _ _ _ z => z.elim, fun _ _ _ _ z => z.elim, fun _ _ _ _ z => z.elim, fun _ _ _ _ _ _ z => z.elim⟩
  obtain ⟨nm, le, ha⟩ := hk
  refine two ?_
  refine try_told (i := 7) (k := e_lnrT env k) (wa_cons we_var (wa_cons we_var (wa_cons we_var (wa_cons we_var (wa_cons we_var wa_nil))))) X.eF S.e (by omega) ha (fun as h => ⟨h.1, h.2.imp (fun x => ⟨x.1, fun B' H' s E' => ?_⟩) id⟩) (fun a l1 l2 v p1 p2 t vs1 vs2 B2 H2 ka s2 n1 n2 E2 T2 => ?_)
  · exact (show WE (oRA A) _ e_lnrC from (we_and (we_op od_eq (wo_of (we_cb1 ud_repr (wo_of we_var))) (wo_of (we_cb1 ud_repr (wo_of (we_op od_eq (wo_of we_var) (wo_of we_str)))))) (we_op od_eq (wo_of (we_cb1 ud_repr (wo_of (we_of_wf (wf_lst (wa_cons we_var (wa_cons we_var wa_nil))))))) (wo_of we_var)))) none env σ B' H' _ k E' x.2 fun d v B'' H'' kd s' E'' r => q d v B'' H'' kd (S.s.trans no (s.trans no s')) no r
  obtain ⟨z1, z2, k8⟩ := ka
  have nm2 : NoM (env.set 7 .un) := nm.set 7 rfl
  refine two ?_
  refine asg_told (show WE (oRA A) _ e_lnr2 from (we_op od_addU (wo_of (we_of_wf (wf_cb1 uf_list (wo_of (we_op od_ix (wo_of we_var) (wo_of we_int)))))) (wo_of (we_if (wt_test (we_op od_eq (wo_of we_var) (wo_of we_str))) (we_of_wf (wf_lst (wa_cons we_var wa_nil))) (we_of_wf (wf_lst wa_nil)))))) (by decide) T2 E2 k8 fun d8 u8 B3 H3 k9 s3 E3 T3 => ?_
  have nm3 := nm2.set 8 (sw := .val d8) rfl
  refine two ?_
  refine asg_told (show WE (oRA A) _ e_lnr3 from (we_op od_addU (wo_of (we_of_wf (wf_cb1 uf_list (wo_of (we_op od_ix (wo_of we_var) (wo_of we_int)))))) (wo_of (we_if (wt_test (we_op od_eq (wo_of we_var) (wo_of we_str))) (we_of_wf (wf_lst (wa_cons we_var wa_nil))) (we_of_wf (wf_lst wa_nil)))))) (by decide) T3 E3 k9 fun d9 u9 B4 H4 k4 s4 E4 T4 => ?_
  have nm4 := nm3.set 9 (sw := .val d9) rfl
  have st4 := S.s.trans no (s2.trans no (s3.trans no s4))
  refine two ?_
  refine wt_told (show WT (oRA A) _ e_lnr4 from (wt_or (wt_test (we_op od_eq (wo_of (we_cb1 ud_repr (wo_of we_var))) (wo_of (we_cb1 ud_repr (wo_of (we_op od_eq (wo_of we_var) (wo_of we_str))))))) (wt_or (wt_test (we_op od_ne (wo_of (we_cb1 ud_repr (wo_of we_var))) (wo_of (we_cb1 ud_repr (wo_of (we_tup (wa_cons (we_op od_ix (wo_of we_var) (wo_of we_int)) (wa_cons we_var (wa_cons we_var wa_nil))))))))) (wt_test (we_op od_ne (wo_of (we_cb1 ud_repr (wo_of (we_of_wf (wf_lst (wa_cons we_var (wa_cons we_var wa_nil))))))) (wo_of we_var)))))) T4 E4 nm4 k4 fun b4 H5 k5 s5 E5 T5 => ?_
  cases b4 with
  | true => exact q (.bl false) (.bl false) B4 H5 k5 (st4.trans no s5) no rp_bl
  | false =>
  refine iteF (two ?_)
  refine wt_told (show WT (oRA A) _ e_lnr5 from (wt_test (we_op od_ne (wo_of (we_cb1 ud_repr (wo_of (we_of_wf (wf_lst (wa_cons (we_call (wa_cons we_var (wa_cons we_var (wa_cons we_var wa_nil)))) (wa_cons (we_call (wa_cons we_var (wa_cons we_var (wa_cons we_var (wa_cons we_var wa_nil))))) wa_nil))))))) (wo_of (we_cb1 ud_repr (wo_of (we_of_wf (wf_lst (wa_cons we_bl (wa_cons (we_op od_eq (wo_of we_var) (wo_of we_str)) wa_nil)))))))))) T5 E5 nm4 k5 fun b5 H6 k6 s6 E6 T6 => ?_
  cases b5 with
  | true => exact q (.bl false) (.bl false) B4 H6 k6 (st4.trans no (s5.trans no s6)) no rp_bl
  | false =>
  refine iteF ?_
  have st6 := st4.trans no (s5.trans no s6)
  refine app_told (z := .non) T6 E6 nm4 (by rw [T6.r1.len]; exact z1) (by rw [T6.r2.len]; exact z2) fun H7 E7 keep gone => ?_
  have m1 : H p1 = none := fresh_backP S.s.hh (fun z => nomatch z) n1
  have m2 : H p2 = none := fresh_backP S.s.hh (fun z => nomatch z) n2
  have st7 : Step none B H B4 H7 := ⟨st6.bb, E7.bh, fun c o h n => keep c o (st6.hh c o h n) (fun e => by rw [e, m1] at h; cases h) (fun e => by rw [e, m2] at h; cases h), st6.nw⟩
  exact (show WE (oRA A) _ e_lnr8 from (we_op od_eq (wo_of (we_cb1 ud_repr (wo_of (we_callW rfl (wa_cons we_var (wa_cons we_var (wa_cons we_var (wa_cons we_var (wa_cons we_var wa_nil))))))))) (wo_of (we_cb1 ud_repr (wo_of (we_tup (wa_cons (we_op od_ix (wo_of we_var) (wo_of we_int)) (wa_cons we_var (wa_cons we_var wa_nil))))))))) none _ _ B4 H7 _ k E7 k6 fun d v B' H' kd s' E' r => q d v B' H' kd (st7.trans no s') no r
end
end K61
set_option Elab.async false
set_option linter.all false
set_option maxRecDepth 100000
set_option maxHeartbeats 4000000
namespace K61
open PySem PySem.Spec PyProof.Rows L2 TM Pr Ep Nw DL
section
variable {P : Program} {w : World} {K : PySem.W.Frag} {mg : Str → Option Value} {base : Heap} {A : Adr}
def e_l_yards : ES := (sRetF (eLc (eRng1 (eOp addU (eUn lenD (eVar 0)) (eC (.int 1)))) (egName 1) (eB (eOp gtD (eUn lenD (eF (eCallF 2 d_l_beside (eaCons (eVar 0) (eaCons (eVar 1) eaNil))))) (eC (.int 1)))) (eVar 1) [1]))
def d_l_yards : List D → (List D → Prop) → Prop := fun ds k => e_l_yards (env0 false n_l_yards ds) (knF k)
theorem okd_l_yards (T : Txt K mg A) : FnOk P w K mg base CX0 2 A.l_yards A.l_yards_fd ["_law_lanes_here"] (spF (oRA A) false 1 d_l_yards) := by
  refine T.F_l_yards.ok sc_l_yards (fun vs H Q E h => len_F h) (fun cdv A' outer s H vs Q E hr h => ?_)
  have hu := hu_of hr
  refine ⟨_, (pss_one (ps_ret (pe_lc (own := [("_law_place", 1)]) rfl sc_l_yards.nd (pi_range1 (by rfl) T.n_range (pa_cons (show PE _ _ (tOp (rAddU K) _ _) from pe_op op_addU (show PE _ _ (tCB (rLenA K) _) from (pe_callB (id := "len") call_len (by rfl) T.n_len (by decide +kernel) (pa_cons (pv 0) pa_nil))) pe_int) pa_nil)) (blkOk_by (N := n_l_yards) (sc := defScope s_l_yards) (by decide +kernel)) (fun _ _ _ _ _ => (pg_name (i := 1) sc_l_yards.nd rfl (Or.inl rfl))) (fun _ _ _ _ _ => (pts_one (show PT _ _ (tTest (tOp (rI0 fun i j => V.bl (decide (j < i))) _ _)) from pt_cmpR op_gt (show PE _ _ (tCB (rLenA K) _) from (pe_callB (id := "len") call_len (by rfl) T.n_len (by decide +kernel) (pa_cons (pe_call (okd_l_beside T) (hr.mono (by decide)) (by rfl) T.m_l_beside T.F_l_beside.kp T.b_l_beside .nil pass0 (pa_cons (pv 0) (pa_cons (pv 1) pa_nil))) pa_nil))) pe_int (nomark _)))) (fun _ _ _ _ _ => (pv 1))))), ?_⟩
  exact body_F (es := e_l_yards) ((wb_retF (wf_lc (wi_rng1 (we_op od_addU (wo_of (we_cb1 ud_len (wo_of we_var))) (wo_of we_int))) wg_name (by decide) (wt_test (we_op od_gt (wo_of (we_cb1 ud_len (wo_of (we_of_wf (wf_call (wa_cons we_var (wa_cons we_var wa_nil))))))) (wo_of we_int))) we_var))) h
end
end K61
set_option Elab.async false
set_option linter.all false
set_option maxRecDepth 100000
set_option maxHeartbeats 4000000
namespace K61
open PySem PySem.Spec PyProof.Rows L2 TM Pr Ep Nw DL
section
variable {P : Program} {w : World} {K : PySem.W.Frag} {mg : Str → Option Value} {base : Heap} {A : Adr}
theorem KB_is_known_210_l_right (T : Txt K mg A) : KBinds K A.is_known_fd ["country", "yard", "value"] ["value", "yard", "country"] (kgP [2, 1, 0]) (kgPV [2, 1, 0]) := by
  obtain ⟨oc, od, kV, doc, pm, an, cdv, ct, osl, e, lk, hcd⟩ := T.F_is_known.ex
  refine ⟨fun s us ws hk hl => ?_, kgP_rel⟩
  cases us with
  | cons u us => cases hl
  | nil =>
    have t2 : ws.length = 3 := by
      by_cases z : ws.length = ([2, 1, 0] : List Nat).length
      · exact z
      · have hl : (if ws.length = ([2, 1, 0] : List Nat).length then ([2, 1, 0] : List Nat).map (fun i => ws.getD i .none) else []).length = 3 := hl
        rw [if_neg z] at hl
        cases hl
    match ws, t2 with
    | [w0, w1, w2], _ =>
      rw [e]
      exact BindsTo.of_eq rfl
theorem KB_is_let_3210_l_right (T : Txt K mg A) : KBinds K A.is_let_fd ["country", "yard", "known", "load"] ["load", "known", "yard", "country"] (kgP [3, 2, 1, 0]) (kgPV [3, 2, 1, 0]) := by
  obtain ⟨oc, od, kV, doc, pm, an, cdv, ct, osl, e, lk, hcd⟩ := T.F_is_let.ex
  refine ⟨fun s us ws hk hl => ?_, kgP_rel⟩
  cases us with
  | cons u us => cases hl
  | nil =>
    have t2 : ws.length = 4 := by
      by_cases z : ws.length = ([3, 2, 1, 0] : List Nat).length
      · exact z
      · have hl : (if ws.length = ([3, 2, 1, 0] : List Nat).length then ([3, 2, 1, 0] : List Nat).map (fun i => ws.getD i .none) else []).length = 4 := hl
        rw [if_neg z] at hl
        cases hl
    match ws, t2 with
    | [w0, w1, w2, w3], _ =>
      rw [e]
      exact BindsTo.of_eq rfl
def e_l_right : ES := (sSeq (sAsg (eCallP 0 1 d_l_lanes (eaCons (eC (.int 3)) eaNil)) (egName 1)) (sSeq (sAsg (eCallP 0 1 d_l_pick (eaCons (eF (eCallF 1 d_l_yards (eaCons (eVar 1) eaNil))) eaNil)) (egName 2)) (sSeq (sPar 3 4 (emE (eMkCountry (eaCons (eVar 1) eaNil))) (emE (eCallP 0 3 d_l_known (eaCons (eVar 1) (eaCons (eVar 2) (eaCons (eC (.int 3)) eaNil)))))) (sSeq (sAsg (eCallP 0 1 d_l_known_given (eaCons (eVar 4) eaNil)) (egName 5)) (sSeq (sIf (eB (eOp neD (eUn reprD (eF (eLst (eaCons (eCall 3 d_is_known (eaCons (eVar 3) (eaCons (eVar 2) (eaCons (eVar 5) eaNil)))) (eaCons (eCallW [2, 1, 0] 3 d_is_known (eaCons (eVar 4) (eaCons (eVar 2) (eaCons (eVar 3) eaNil)))) eaNil))))) (eUn reprD (eF (eOpF mulF (eF (eLst (eaCons (eC (.bl true)) eaNil))) (eC (.int 2))))))) (sRet (eC (.bl false))) sNext) (sSeq (sFor (eSeq (eF (eCallPF 0 3 d_l_loads (eaCons (eVar 1) (eaCons (eVar 2) (eaCons (eVar 4) eaNil)))))) (egName 6) (sSeq (sAsg (eIf (eB (eOp eqD (eCallP 0 1 b_draw (eaCons (eC (.int 2)) eaNil)) (eC (.int 0)))) (eUn tupD (eVar 6)) (eF (eUnF listF (eVar 6)))) (egName 7)) (sSeq (sAsg (eCall 2 d_l_sure (eaCons (eVar 4) (eaCons (eVar 6) eaNil))) (egName 8)) (sSeq (sIf (eB (eOp neD (eUn reprD (eF (eLst (eaCons (eCall 4 d_is_let (eaCons (eVar 3) (eaCons (eVar 2) (eaCons (eVar 5) (eaCons (eVar 7) eaNil))))) (eaCons (eCallW [3, 2, 1, 0] 4 d_is_let (eaCons (eVar 6) (eaCons (eVar 4) (eaCons (eVar 2) (eaCons (eVar 3) eaNil))))) eaNil))))) (eUn reprD (eF (eLst (eaCons (eVar 8) (eaCons (eVar 8) eaNil))))))) (sRet (eC (.bl false))) sNext) (sIf (eNotT (eB (eCall 5 d_l_noted_right (eaCons (eVar 3) (eaCons (eVar 2) (eaCons (eVar 4) (eaCons (eVar 6) (eaCons (eCallP 0 1 d_l_pick (eaCons (eF (eLst (eaCons (eC (.str "let")) (eaCons (eC (.str "refused")) eaNil)))) eaNil)) eaNil)))))))) (sRet (eC (.bl false))) sNext)))) [6, 7, 8]) (sRet (eC (.bl true)))))))))
def d_l_right : List D → (D → Prop) → Prop := fun ds k => e_l_right (env0 true n_l_right ds) (knE k)
theorem okd_l_right (T : Txt K mg A) {C : Addr} (X : ExT K mg C) : G8.FnOkG P w K mg base CX0 11 A.l_right A.l_right_fd ["_law_pot_here"] (spE (oRA A) true 0 d_l_right) := by
  refine G8.okG T.F_l_right sc_l_right (fun vs H Q E h => len_E h) (fun cdv A' outer s H vs Q E hr hG h => ?_)
  have hu := hu_of hr
  refine ⟨_, (pss_cons (ps_set (i := 1) sc_l_right.nd rfl (Or.inl rfl) (pe_call (okd_l_lanes T) (hr.mono (by decide)) (by rfl) T.m_l_lanes T.F_l_lanes.kp T.b_l_lanes .nil pass0 (pa_cons (pv 0) (pa_cons pe_int pa_nil)))) (pss_cons (ps_set (i := 2) sc_l_right.nd rfl (Or.inl rfl) (pe_call (okd_l_pick T) (hr.mono (by decide)) (by rfl) T.m_l_pick T.F_l_pick.kp T.b_l_pick .nil pass0 (pa_cons (pv 0) (pa_cons (pe_call (okd_l_yards T) (hr.mono (by decide)) (by rfl) T.m_l_yards T.F_l_yards.kp T.b_l_yards .nil pass0 (pa_cons (pv 1) pa_nil)) pa_nil)))) (pss_cons (ps_par (i := 3) (j := 4) (by rfl) sc_l_right.nd rfl rfl (by decide) rfl rfl (pa_cons (pe_make T.mk_Country (okb_Country_init T) (hr.mono (by decide)) (by rfl) T.m_Country T.b_Country_init .nil pass0 (pa_cons (pv 1) pa_nil)) (pa_cons (pe_call (okd_l_known T) (hr.mono (by decide)) (by rfl) T.m_l_known T.F_l_known.kp T.b_l_known .nil pass0 (pa_cons (pv 0) (pa_cons (pv 1) (pa_cons (pv 2) (pa_cons pe_int pa_nil))))) pa_nil)) (by rfl)) (pss_cons (ps_set (i := 5) sc_l_right.nd rfl (Or.inl rfl) (pe_call (okd_l_known_given T) (hr.mono (by decide)) (by rfl) T.m_l_known_given T.F_l_known_given.kp T.b_l_known_given .nil pass0 (pa_cons (pv 0) (pa_cons (pv 4) pa_nil)))) (pss_cons (ps_if (show PT _ _ (tTest (tOp (rNeD K) _ _)) from pt_cmpR (op_neD hr.units) (show PE _ _ (tCB (rReprU K) _) from (pe_callB (id := "repr") (cr_reprU hG hr.units) (by rfl) T.n_repr (by decide +kernel) (pa_cons (pe_lst (pa_cons (pe_call (okd_is_known T) (hr.mono (by decide)) (by rfl) T.m_is_known T.F_is_known.kp T.b_is_known .nil pass0 (pa_cons (pv 3) (pa_cons (pv 2) (pa_cons (pv 5) pa_nil)))) (pa_cons (G8.pe_callK0 (okd_is_known T) (hr.mono (by decide)) (by rfl) T.m_is_known T.F_is_known.kp (KB_is_known_210_l_right T) pass0 (pk_cons (pv 4) (pk_cons (pv 2) (pk_cons (pv 3) pk_nil)))) pa_nil))) pa_nil))) (show PE _ _ (tCB (rReprU K) _) from (pe_callB (id := "repr") (cr_reprU hG hr.units) (by rfl) T.n_repr (by decide +kernel) (pa_cons (show PE _ _ (tOp rMulU _ _) from pe_op op_mulU (pe_lst (pa_cons pe_bl pa_nil)) pe_int) pa_nil))) (nomark _)) (pss_one (ps_ret pe_bl)) pss_nil) (pss_cons (ps_for PassesOwn.never rfl (show PI _ _ _ (iSeq K _) from pi_seqU (pe_call (okd_l_loads T) (hr.mono (by decide)) (by rfl) T.m_l_loads T.F_l_loads.kp T.b_l_loads .nil pass0 (pa_cons (pv 0) (pa_cons (pv 1) (pa_cons (pv 2) (pa_cons (pv 4) pa_nil)))))) (pg_name (i := 6) sc_l_right.nd rfl (Or.inl rfl)) (pss_cons (ps_set (i := 7) sc_l_right.nd rfl (Or.inl rfl) (pe_ifExp (show PT _ _ (tTest (tOp (rEqD K) _ _)) from pt_cmpR (op_eqD hr.units) (pe_call (okb_l_draw T) (hr.mono (by decide)) (by rfl) T.m_l_draw T.F_l_draw.kp T.b_l_draw .nil pass0 (pa_cons (pv 0) (pa_cons pe_int pa_nil))) pe_int (nomark _)) (show PE _ _ (tCB (rTupOf K) _) from (pe_callTy (T := "tuple") call_tuple_of (by rfl) T.n_tuple (by decide +kernel) (pa_cons (pv 6) pa_nil))) (show PE _ _ (tCB (rListOf K) _) from (pe_callTy (T := "list") call_list_of (by rfl) T.n_list (by decide +kernel) (pa_cons (pv 6) pa_nil))))) (pss_cons (ps_set (i := 8) sc_l_right.nd rfl (Or.inl rfl) (pe_call (okd_l_sure T) (hr.mono (by decide)) (by rfl) T.m_l_sure T.F_l_sure.kp T.b_l_sure .nil pass0 (pa_cons (pv 4) (pa_cons (pv 6) pa_nil)))) (pss_cons (ps_if (show PT _ _ (tTest (tOp (rNeD K) _ _)) from pt_cmpR (op_neD hr.units) (show PE _ _ (tCB (rReprU K) _) from (pe_callB (id := "repr") (cr_reprU hG hr.units) (by rfl) T.n_repr (by decide +kernel) (pa_cons (pe_lst (pa_cons (pe_call (okd_is_let T) (hr.mono (by decide)) (by rfl) T.m_is_let T.F_is_let.kp T.b_is_let .nil pass0 (pa_cons (pv 3) (pa_cons (pv 2) (pa_cons (pv 5) (pa_cons (pv 7) pa_nil))))) (pa_cons (G8.pe_callK0 (okd_is_let T) (hr.mono (by decide)) (by rfl) T.m_is_let T.F_is_let.kp (KB_is_let_3210_l_right T) pass0 (pk_cons (pv 6) (pk_cons (pv 4) (pk_cons (pv 2) (pk_cons (pv 3) pk_nil))))) pa_nil))) pa_nil))) (show PE _ _ (tCB (rReprU K) _) from (pe_callB (id := "repr") (cr_reprU hG hr.units) (by rfl) T.n_repr (by decide +kernel) (pa_cons (pe_lst (pa_cons (pv 8) (pa_cons (pv 8) pa_nil))) pa_nil))) (nomark _)) (pss_one (ps_ret pe_bl)) pss_nil) (pss_one (ps_if (pt_not (pt_val (G8.pe_callG (okb_l_noted_right T X) (hr.mono (by decide)) hG (by rfl) T.m_l_noted_right T.F_l_noted_right.kp T.b_l_noted_right .nil pass0 (pa_cons (pv 3) (pa_cons (pv 2) (pa_cons (pv 4) (pa_cons (pv 6) (pa_cons (pe_call (okd_l_pick T) (hr.mono (by decide)) (by rfl) T.m_l_pick T.F_l_pick.kp T.b_l_pick .nil pass0 (pa_cons (pv 0) (pa_cons (pe_lst (pa_cons pe_str (pa_cons pe_str pa_nil))) pa_nil))) pa_nil)))))))) (pss_one (ps_ret pe_bl)) pss_nil)))))) (pss_one (ps_ret pe_bl)))))))), ?_⟩
  exact body_E (es := e_l_right) ((wb_seq (wb_asg (we_callP (wa_cons we_int wa_nil)) wg_name) (wb_seq (wb_asg (we_callP (wa_cons (we_of_wf (wf_call (wa_cons we_var wa_nil))) wa_nil)) wg_name) (wb_seq (wb_par (wm_E (we_mkCountry (wa_cons we_var wa_nil))) (wm_E (we_callP (wa_cons we_var (wa_cons we_var (wa_cons we_int wa_nil)))))) (wb_seq (wb_asg (we_callP (wa_cons we_var wa_nil)) wg_name) (wb_seq (wb_if (wt_test (we_op od_ne (wo_of (we_cb1 ud_repr (wo_of (we_of_wf (wf_lst (wa_cons (we_call (wa_cons we_var (wa_cons we_var (wa_cons we_var wa_nil)))) (wa_cons (we_callW rfl (wa_cons we_var (wa_cons we_var (wa_cons we_var wa_nil)))) wa_nil))))))) (wo_of (we_cb1 ud_repr (wo_of (we_of_wf (wf_op of_mul (wo_of (we_of_wf (wf_lst (wa_cons we_bl wa_nil)))) (wo_of we_int)))))))) (wb_ret we_bl) wb_next) (wb_seq (wb_for (wi_seq (we_of_wf (wf_callP (wa_cons we_var (wa_cons we_var (wa_cons we_var wa_nil)))))) wg_name (wb_seq (wb_asg (we_if (wt_test (we_op od_eq (wo_of (we_callP (wa_cons we_int wa_nil))) (wo_of we_int))) (we_cb1 ud_tup (wo_of we_var)) (we_of_wf (wf_cb1 uf_list (wo_of we_var)))) wg_name) (wb_seq (wb_asg (we_call (wa_cons we_var (wa_cons we_var wa_nil))) wg_name) (wb_seq (wb_if (wt_test (we_op od_ne (wo_of (we_cb1 ud_repr (wo_of (we_of_wf (wf_lst (wa_cons (we_call (wa_cons we_var (wa_cons we_var (wa_cons we_var (wa_cons we_var wa_nil))))) (wa_cons (we_callW rfl (wa_cons we_var (wa_cons we_var (wa_cons we_var (wa_cons we_var wa_nil))))) wa_nil))))))) (wo_of (we_cb1 ud_repr (wo_of (we_of_wf (wf_lst (wa_cons we_var (wa_cons we_var wa_nil))))))))) (wb_ret we_bl) wb_next) (wb_if (wt_not (wt_B (we_call (wa_cons we_var (wa_cons we_var (wa_cons we_var (wa_cons we_var (wa_cons (we_callP (wa_cons (we_of_wf (wf_lst (wa_cons we_str (wa_cons we_str wa_nil)))) wa_nil)) wa_nil)))))))) (wb_ret we_bl) wb_next))))) (wb_ret we_bl)))))))) h
end
end K61
set_option Elab.async false
set_option linter.all false
set_option maxRecDepth 100000
set_option maxHeartbeats 4000000
namespace DL
open PySem PySem.Spec PyProof.Rows L2
theorem lc_map {α : Type} {c g : α → D} {f : D → (Option D → Prop) → Prop} : ∀ {xs : List α} {k : List D → Prop}, (∀ a ∈ xs, ∀ kk, kk (some (g a)) → f (c a) kk) → k (xs.map g) → lcGo f (xs.map c) k
  | [], k, _, hk => hk
  | x :: xs, k, h, hk => h x (List.mem_cons_self ..) _ (lc_map (xs := xs) (fun a ha => h a (List.mem_cons_of_mem _ ha)) hk)
theorem lc_filter {α : Type} {c g : α → D} {p : α → Bool} {f : D → (Option D → Prop) → Prop} : ∀ {xs : List α} {k : List D → Prop}, (∀ a ∈ xs, ∀ kk, kk (if p a = true then some (g a) else none) → f (c a) kk) → k ((xs.filter p).map g) → lcGo f (xs.map c) k
  | [], k, _, hk => hk
  | x :: xs, k, h, hk => h x (List.mem_cons_self ..) _ (lc_filter (xs := xs) (fun a ha => h a (List.mem_cons_of_mem _ ha)) (by
    cases e : p x with
    | true =>
      rw [List.filter_cons_of_pos e] at hk
      rw [if_pos rfl]; exact hk
    | false =>
      rw [List.filter_cons_of_neg (by rw [e]; decide)] at hk
      rw [if_neg (by decide)]; exact hk))
theorem for_det {α : Type} {c : α → D} {eg : EG} {eb : ES} {dead : List Nat} {E : List α → Env} {k : Kn} : ∀ {xs done : List α},
    (∀ d a, ∀ K' : Kn, (∀ e, forg e dead = E (d ++ [a]) → K'.nx e) → (∃ u, d ++ a :: u = done ++ xs) → eg (c a) (E d) fun env1 => eb env1 K') → k.nx (E (done ++ xs)) → forGo eg eb dead (xs.map c) (E done) k
  | [], done, _, hk => by rw [List.append_nil] at hk; exact hk
  | x :: xs, done, h, hk => h done x _ (fun e he => by
    show forGo eg eb dead (xs.map c) (forg e dead) k
    rw [he]
    exact for_det (xs := xs) (done := done ++ [x]) (fun d a K' z ⟨u, hu⟩ => h d a K' z ⟨u, by rw [hu]; simp⟩) (by simpa using hk)) ⟨xs, rfl⟩
theorem ix_lst {l : List D} {d : D} {i : Nat} {k : DK} (h : l[i]? = some d) (hk : k d) : ixD (.lst l) (.int (i : Int)) k := by
  refine ⟨d, ?_, hk⟩
  unfold L2.atI L2.ixN
  have := (List.getElem?_eq_some_iff.mp h).1
  rw [if_pos (by omega), if_pos (by omega)]
  simpa using h
theorem ix_tup {l : List D} {d : D} {i : Nat} {k : DK} (h : l[i]? = some d) (hk : k d) : ixD (.tup l) (.int (i : Int)) k := by
  refine ⟨d, ?_, hk⟩
  unfold L2.atI L2.ixN
  have := (List.getElem?_eq_some_iff.mp h).1
  rw [if_pos (by omega), if_pos (by omega)]
  simpa using h
theorem eq_int {i j : Int} {k : DK} (hk : k (.bl (decide (i = j)))) : eqD (.int i) (.int j) k := by
  refine ⟨⟨rfl, rfl, rfl, rfl⟩, ?_⟩
  have : PyData.eqv (toPy (.int i)) (toPy (.int j)) = decide (i = j) := by
    simp only [toPy, PyData.eqv]
    exact Bool.beq_eq_decide_eq i j
  rw [this]; exact hk
theorem ne_int {i j : Int} {k : DK} (hk : k (.bl (!decide (i = j)))) : neD (.int i) (.int j) k := by
  refine ⟨⟨rfl, rfl, rfl, rfl⟩, ?_⟩
  have : PyData.eqv (toPy (.int i)) (toPy (.int j)) = decide (i = j) := by
    simp only [toPy, PyData.eqv]
    exact Bool.beq_eq_decide_eq i j
  rw [this]; exact hk
theorem sum_lst {ns : List Nat} {k : DK} (hk : k (.int (ns.sum : Nat))) : sumU (.lst (ns.map fun (n : Nat) => D.int (n : Int))) k := by
  refine ⟨ns.map fun (n : Nat) => (n : Int), .inl (by rw [List.map_map]; rfl), ?_⟩
  have : ∀ ns : List Nat, (ns.map fun (n : Nat) => (n : Int)).sum = ((ns.sum : Nat) : Int) := fun ns => by
    induction ns with
    | nil => rfl
    | cons a l ih => simp [ih]
  rw [this]; exact hk
theorem all_lst {bs : List Bool} {k : DK} (hk : k (.bl (bs.all id))) : allD (.lst (bs.map .bl)) k := ⟨bs, rfl, hk⟩
theorem any_lst {bs : List Bool} {k : DK} (hk : k (.bl (bs.any id))) : anyD (.lst (bs.map .bl)) k := ⟨bs, rfl, hk⟩
theorem rg_map (n : Nat) : rgD (n : Int) = (List.range n).map fun (i : Nat) => D.int (i : Int) := by unfold rgD; rw [Int.toNat_natCast]
end DL
set_option linter.all false
namespace TM
def sm6 (B : Bk) : Prop := ∀ a ∈ B, a.1 ≤ 6
def put (l : Ld) (p : Nat × Nat) : Nat → Ld
  | 0 => l
  | n + 1 => l ++ [(p.1, p.2, n + 1)]
def many (B : Bk) (l : Ld) (p : Nat × Nat) : Nat := ((List.range 7).takeWhile fun n => standsB B (put l p (n + 1))).length
def withP (B : Bk) (l : Ld) (p : Nat × Nat) : List Ld := (List.range (many B l p)).map fun i => put l p (i + 1)
def standP (B : Bk) : List (Nat × Nat) → List Ld → List Ld
  | [], ls => ls
  | p :: ps, ls => standP B ps (ls ++ ls.flatMap fun l => withP B l p)
theorem flat_len {α β : Type} {f : α → List β} {k : Nat} : ∀ {l : List α}, (∀ x ∈ l, (f x).length ≤ k) → (l.flatMap f).length ≤ l.length * k
  | [], _ => by simp
  | a :: l, h => by
    have := flat_len (l := l) fun x hx => h x (List.mem_cons_of_mem _ hx)
    have := h a List.mem_cons_self
    rw [List.flatMap_cons, List.length_append, List.length_cons, Nat.succ_mul]
    omega
end TM
set_option Elab.async false
set_option linter.all false
set_option maxRecDepth 100000
set_option maxHeartbeats 1000000
namespace DL
open PySem PySem.Spec PyProof.Rows L2 PySem.W
open TM (Ent Ld Sm SmL c3 tsort tsort_of)
abbrev nN (n : Nat) : D := .int (n : Int)
def dEn (e : Ent) : D := .tup [nN e.1, nN e.2.1, nN e.2.2]
def dLd (l : Ld) : D := .lst (l.map dEn)
abbrev oLe : D → D → Bool := dataLe false toPy
theorem oLe_total : TotalLe oLe := sortLe_total (PyProof.Rows.listOrd itemOrd) false fun d => keyToks (toPy d)
theorem oLe_eq (a b : D) : oLe a b = !dataLt (toPy b) (toPy a) := rfl
theorem tk_one {l m : List (Int ⊕ List Nat)} (x : Int ⊕ List Nat) : PyProof.Rows.lexLt itemOrd (x :: l) (x :: m) = PyProof.Rows.lexLt itemOrd l m := PyProof.Rows.lex_self (O := itemOrd) x l m
theorem tk_ne {a d : Nat} {l m : List (Int ⊕ List Nat)} (h : a ≠ d) : PyProof.Rows.lexLt itemOrd (Sum.inl (a : Int) :: l) (Sum.inl (d : Int) :: m) = decide (a < d) := by
  have hne : (Sum.inl (a : Int) : Int ⊕ List Nat) ≠ Sum.inl (d : Int) := fun e => by have := Sum.inl.inj e; omega
  refine (PyProof.Rows.lex_diff (O := itemOrd) (x := Sum.inl (a : Int)) (y := Sum.inl (d : Int)) hne).trans ?_
  show decide ((a : Int) < (d : Int)) = _
  exact decide_eq_decide.mpr (by omega)
theorem tk_eq {a d : Nat} {l m : List (Int ⊕ List Nat)} (h : a = d) : PyProof.Rows.lexLt itemOrd (Sum.inl (a : Int) :: l) (Sum.inl (d : Int) :: m) = PyProof.Rows.lexLt itemOrd l m := by
  rw [h]; exact tk_one _
theorem tk_same (l : List (Int ⊕ List Nat)) : PyProof.Rows.lexLt itemOrd l l = false := by
  induction l with
  | nil => rfl
  | cons x l ih => rw [tk_one]; exact ih
theorem tk3 (a b c d e f : Nat) : PyProof.Rows.lexLt itemOrd [Sum.inl 1, Sum.inl (a : Int), Sum.inl 1, Sum.inl (b : Int), Sum.inl 1, Sum.inl (c : Int), Sum.inl 0] [Sum.inl 1, Sum.inl (d : Int), Sum.inl 1, Sum.inl (e : Int), Sum.inl 1, Sum.inl (f : Int), Sum.inl 0] = decide (a < d ∨ (a = d ∧ (b < e ∨ (b = e ∧ c < f)))) := by
  refine (tk_one _).trans ?_
  by_cases h1 : a = d
  · refine (tk_eq h1).trans ((tk_one _).trans ?_)
    by_cases h2 : b = e
    · refine (tk_eq h2).trans ((tk_one _).trans ?_)
      by_cases h3 : c = f
      · refine (tk_eq h3).trans ((tk_same _).trans ?_)
        exact (decide_eq_false (by omega)).symm
      · refine (tk_ne h3).trans ?_
        exact decide_eq_decide.mpr (by omega)
    · refine (tk_ne h2).trans ?_
      exact decide_eq_decide.mpr (by omega)
  · refine (tk_ne h1).trans ?_
    exact decide_eq_decide.mpr (by omega)
theorem oLe_en {e f : Ent} (a : Sm e) (b : Sm f) : oLe (dEn e) (dEn f) = decide (c3 e ≤ c3 f) := by
  obtain ⟨e1, e2, e3⟩ := e
  obtain ⟨f1, f2, f3⟩ := f
  obtain ⟨a1, a2, a3⟩ := a
  obtain ⟨b1, b2, b3⟩ := b
  simp only at a1 a2 a3 b1 b2 b3
  rw [oLe_eq]
  unfold dataLt dEn TM.c3
  simp only [toPy, toPys, keyToks, keyToksAll, List.cons_append, List.nil_append, List.append_nil]
  rw [tk3, ← decide_not]
  exact decide_eq_decide.mpr (by omega)
theorem perm_const {α : Type} {l m : List α} (p : l.Perm m) (h : ∀ a ∈ l, ∀ b ∈ l, a = b) : l = m := by
  cases l with
  | nil => exact (List.Perm.nil_eq p)
  | cons x xs =>
    have h1 := List.eq_replicate_of_mem (a := x) (l := x :: xs) fun b hb => h b hb x (List.mem_cons_self ..)
    have h2 := List.eq_replicate_of_mem (a := x) (l := m) fun b hb => h b (p.mem_iff.mpr hb) x (List.mem_cons_self ..)
    rw [h1, h2, p.length_eq]
theorem sort_uniq {α : Type} {le : α → α → Bool} (t : TotalLe le) {l m : List α} (anti : ∀ a ∈ l, ∀ b ∈ l, le a b = true → le b a = true → a = b) (p : m.Perm l) (pw : m.Pairwise fun a b => le a b = true) : l.mergeSort le = m := by
  refine sort_one t _ _ (sort_pairwise t _) pw fun c => ?_
  have ps := List.mergeSort_perm l le
  refine perm_const ((ps.trans p.symm).filter _) fun a ha b hb => ?_
  obtain ⟨a1, a2⟩ := List.mem_filter.mp ha
  obtain ⟨b1, b2⟩ := List.mem_filter.mp hb
  unfold sameRank at a2 b2
  rw [Bool.and_eq_true] at a2 b2
  exact anti a (ps.mem_iff.mp a1) b (ps.mem_iff.mp b1) (t.trans _ _ _ a2.2 b2.1) (t.trans _ _ _ b2.2 a2.1)
theorem sort_en {l : Ld} (h : SmL l) : (l.map dEn).mergeSort oLe = (tsort l).map dEn := by
  have p : ((tsort l).map dEn).Perm (l.map dEn) := (TM.tsort_perm l).map _
  have sm : SmL (tsort l) := fun e he => h e ((TM.tsort_perm l).mem_iff.mp he)
  have pw : ((tsort l).map dEn).Pairwise fun a b => oLe a b = true := by
    rw [List.pairwise_map]
    refine (List.Pairwise.imp_of_mem (R := fun e f => c3 e ≤ c3 f) (fun {a b} ha hb hab => ?_) (TM.tsort_srt l))
    rw [oLe_en (sm a ha) (sm b hb)]
    exact decide_eq_true hab
  refine sort_uniq oLe_total (fun a ha b hb h1 h2 => ?_) p pw
  obtain ⟨e, he, rfl⟩ := List.mem_map.mp ha
  obtain ⟨f, hf, rfl⟩ := List.mem_map.mp hb
  rw [oLe_en (h e he) (h f hf)] at h1
  rw [oLe_en (h f hf) (h e he)] at h2
  have h1 := of_decide_eq_true h1
  have h2 := of_decide_eq_true h2
  rw [TM.c3_inj (h e he) (h f hf) (by omega)]
def leL (l m : Ld) : Bool := oLe (dLd l) (dLd m)
def lsort (ls : List Ld) : List Ld := ls.mergeSort leL
end DL
set_option Elab.async false
set_option linter.all false
set_option maxRecDepth 100000
set_option maxHeartbeats 1000000
namespace DL
open TM
abbrev size (l : Ld) : Nat := carts l none none
abbrev many (l : Ld) (o t : Nat) : Nat := carts l (some o) (some t)
theorem size_add (l : Ld) (o t : Nat) : size (addL l o t) = size l + 1 := by
  unfold size
  rw [carts_add]
  rfl
def Unl (l : Ld) : Prop := l.Pairwise fun e f => ¬ (e.1 = f.1 ∧ e.2.1 = f.2.1)
theorem many_cons (x : Ent) (l : Ld) (o t : Nat) : many (x :: l) o t = (if o = x.1 ∧ t = x.2.1 then x.2.2 else 0) + many l o t := by
  unfold many
  rw [carts_cons]
  simp only [okO, Bool.and_eq_true, decide_eq_true_eq]
theorem many_zero : ∀ {l : Ld} {o t : Nat}, (∀ e ∈ l, ¬ (e.1 = o ∧ e.2.1 = t)) → many l o t = 0
  | [], _, _, _ => rfl
  | x :: l, o, t, h => by
    rw [many_cons, many_zero fun e he => h e (List.mem_cons_of_mem _ he), if_neg fun z => h x (List.mem_cons_self ..) ⟨z.1.symm, z.2.symm⟩]
theorem many_uniq : ∀ {l : Ld}, Unl l → ∀ {e : Ent}, e ∈ l → many l e.1 e.2.1 = e.2.2
  | [], _, _, h => by cases h
  | x :: l, pw, e, h => by
    obtain ⟨p1, p2⟩ := List.pairwise_cons.mp pw
    rw [many_cons]
    rcases List.mem_cons.mp h with z | z
    · subst z
      rw [if_pos ⟨rfl, rfl⟩, many_zero fun f hf z => p1 f hf ⟨z.1.symm, z.2.symm⟩]
      omega
    · rw [many_uniq p2 z, if_neg fun w => p1 e z ⟨w.1.symm, w.2.symm⟩]
      omega
theorem many_some {l : Ld} {o t : Nat} (h : 0 < many l o t) : ∃ e ∈ l, e.1 = o ∧ e.2.1 = t :=
  Classical.byContradiction fun n => by
    have := many_zero (l := l) (o := o) (t := t) fun e he z => n ⟨e, he, z⟩
    omega
theorem within_iff {l m : Ld} (u : Unl l) : withinL l m = true ↔ ∀ o t, many l o t ≤ many m o t := by
  unfold withinL
  rw [List.all_eq_true]
  constructor
  · intro h o t
    by_cases z : 0 < many l o t
    · obtain ⟨e, he, rfl, rfl⟩ := many_some z
      rw [many_uniq u he]
      exact of_decide_eq_true (h e he)
    · omega
  · intro h e he
    have := h e.1 e.2.1
    rw [many_uniq u he] at this
    exact decide_eq_true this
theorem size_cons (x : Ent) (l : Ld) : size (x :: l) = x.2.2 + size l := by
  unfold size
  rw [carts_cons]
  simp [okO]
theorem within_size : ∀ {l m : Ld}, Unl l → (∀ e ∈ l, e.2.2 ≤ many m e.1 e.2.1) → size l ≤ size m
  | [], _, _, _ => Nat.zero_le _
  | x :: l, m, u, h => by
    obtain ⟨p1, p2⟩ := List.pairwise_cons.mp u
    have e1 := carts_others m x.1 x.2.1 none none
    have e2 := within_size (l := l) (m := others m x.1 x.2.1) p2 fun e he => by
      have e3 := carts_others m x.1 x.2.1 (some e.1) (some e.2.1)
      have : (okO (some e.1) x.1 && okO (some e.2.1) x.2.1) = false := by
        have := p1 e he
        simp only [okO]
        rw [Bool.and_eq_false_iff, decide_eq_false_iff_not, decide_eq_false_iff_not]
        omega
      rw [this] at e3
      have h2 := h e (List.mem_cons_of_mem _ he)
      unfold many at h2 ⊢
      rw [e3] at h2
      simpa using h2
    have h0 := h x (List.mem_cons_self ..)
    rw [size_cons]
    simp only [okO, Bool.and_self, if_true] at e1
    unfold size many at *
    omega
theorem wi_size {l m : Ld} (u : Unl l) (h : withinL l m = true) : size l ≤ size m := within_size u fun e he => by
  unfold withinL at h
  exact of_decide_eq_true (List.all_eq_true.mp h e he)
theorem wi_trans {l m k : Ld} (u : Unl l) (v : Unl m) (h1 : withinL l m = true) (h2 : withinL m k = true) : withinL l k = true :=
  (within_iff u).mpr fun o t => Nat.le_trans ((within_iff u).mp h1 o t) ((within_iff v).mp h2 o t)
theorem good_unl {N : List Nat} {l : Ld} (g : GoodL N l) : Unl l := g.unlike
theorem good_add {N : List Nat} (sN : ∀ x ∈ N, x < 1024) {l : Ld} (g : GoodL N l) (hs : size l ≤ 1000) {o t : Nat} (p : (o, t) ∈ pairsN N) : GoodL N (addL l o t) :=
  g.add sN (g.smL sN (show carts l none none < 2000 by unfold size at hs; omega)) p (by have := carts_le l (some o) (some t); unfold size at hs; omega)
end DL
set_option Elab.async false
set_option linter.all false
set_option maxRecDepth 100000
set_option maxHeartbeats 1000000
namespace DL
open TM PySem.W
abbrev Knw := Nat × List Ld × List Ld
def surely (kn : Knw) (l : Ld) : Bool := decide (size l ≤ 1) || kn.2.1.any fun m => withinL l m
def refd (kn : Knw) (l : Ld) : Bool := decide (kn.1 < size l) || kn.2.2.any fun m => withinL m l
structure KnOk (N : List Nat) (kn : Knw) : Prop where
  p1 : 1 ≤ kn.1
  p2 : kn.1 ≤ 6
  lg : ∀ l ∈ kn.2.1, GoodL N l ∧ size l ≤ kn.1
  rg : ∀ l ∈ kn.2.2, GoodL N l ∧ size l ≤ 100 ∧ surely kn l = false
theorem surely_iff {kn : Knw} {l : Ld} : surely kn l = true ↔ size l ≤ 1 ∨ ∃ m ∈ kn.2.1, withinL l m = true := by
  unfold surely
  rw [Bool.or_eq_true, decide_eq_true_eq, List.any_eq_true]
theorem refd_iff {kn : Knw} {l : Ld} : refd kn l = true ↔ kn.1 < size l ∨ ∃ m ∈ kn.2.2, withinL m l = true := by
  unfold refd
  rw [Bool.or_eq_true, decide_eq_true_eq, List.any_eq_true]
theorem sure_not {N : List Nat} {kn : Knw} (ok : KnOk N kn) {l : Ld} (g : GoodL N l) (h : surely kn l = true) : refd kn l = false := by
  cases e : refd kn l with
  | false => rfl
  | true =>
    exfalso
    have p1 := ok.p1
    rcases surely_iff.mp h with h1 | ⟨m, hm, h1⟩
    · rcases refd_iff.mp e with e1 | ⟨r, hr, e1⟩
      · omega
      · obtain ⟨rg, _, rs⟩ := ok.rg r hr
        have := wi_size (good_unl rg) e1
        have : surely kn r = true := surely_iff.mpr (.inl (by omega))
        rw [rs] at this; cases this
    · obtain ⟨mg, ms⟩ := ok.lg m hm
      rcases refd_iff.mp e with e1 | ⟨r, hr, e1⟩
      · have := wi_size (good_unl g) h1
        omega
      · obtain ⟨rg, _, rs⟩ := ok.rg r hr
        have : surely kn r = true := surely_iff.mpr (.inr ⟨m, hm, wi_trans (good_unl rg) (good_unl g) e1 h1⟩)
        rw [rs] at this; cases this
def onceGo : List Ld → List Ld → List Ld
  | found, [] => found
  | found, x :: xs => onceGo (if x ∈ found then found else found ++ [x]) xs
def once (xs : List Ld) : List Ld := onceGo [] xs
def prsTo (N : List Nat) (g : Nat) : List (Nat × Nat) := (pairsN N).filter fun p => decide (p.2 = g)
def each (ls : List Ld) (ps : List (Nat × Nat)) : List Ld := ls.flatMap fun l => ps.map fun p => addL l p.1 p.2
def layer (N : List Nat) (g : Nat) : Nat → List Ld
  | 0 => [[]]
  | k + 1 => lsort (once (each (layer N g k) (prsTo N g)))
def towards (N : List Nat) (g : Nat) : Nat → List Ld
  | 0 => []
  | k + 1 => towards N g k ++ layer N g (k + 1)
end DL
set_option Elab.async false
set_option linter.all false
set_option maxRecDepth 100000
set_option maxHeartbeats 1000000
namespace DL
open TM PySem.W
def zs (N : List Nat) (g : Nat) : List Nat := N.filter fun z => !decide (z = g)
def plugAt (kn : Knw) (N : List Nat) (g : Nat) (l : Ld) : Option (Ld × Nat) := ((zs N g).find? fun z => !surely kn (addL l g z)).map fun z => (l, z)
def plugL (kn : Knw) (N : List Nat) (g : Nat) : Option (Ld × Nat) := (towards N g kn.1).findSome? fun l => if surely kn l || !refd kn l then plugAt kn N g l else none
def Mx (xs : List Ld) (x : Ld) : Prop := x ∈ xs ∧ ∀ o ∈ xs, withinL x o = true → o = x
def tops (xs : List Ld) : List Ld := lsort ((once xs).filter fun x => !(once xs).any fun o => !decide (o = x) && withinL x o)
structure GInv (N : List Nat) (P told : List Ld) : Prop where
  mem : ∀ x, x ∈ told ↔ Mx P x
  cov : ∀ p ∈ P, ∃ t ∈ told, withinL p t = true
  nd : told.Nodup
end DL
set_option Elab.async false
set_option linter.all false
set_option maxRecDepth 100000
set_option maxHeartbeats 1000000
namespace DL
open TM PySem.W
def singles (N : List Nat) : List Ld := (pairsN N).map fun p => [(p.1, p.2, 1)]
def behind (N : List Nat) (g : Nat) (l : Ld) : List Ld := (zs N g).map fun z => addL l g z
def more (kn : Knw) (N : List Nat) (g : Nat) : List Ld := (towards N g kn.1).flatMap fun l => if surely kn l then behind N g l else []
def freeL (kn : Knw) (N : List Nat) (g : Nat) : Option (List Ld) := if (more kn N g).any (fun m => !surely kn m && refd kn m) then none else some (tops (singles N ++ kn.2.1 ++ more kn N g))
def part (g : Nat) (l : Ld) : Ld := l.filter fun e => decide (e.2.1 = g)
section
variable {N : List Nat} {kn : Knw} {g : Nat}
end
end DL
set_option Elab.async false
set_option linter.all false
set_option maxRecDepth 100000
set_option maxHeartbeats 1000000
namespace DL
open TM PySem.W
def ext1 (e : Ent) (n : Nat) (one : Ld) : Ld := one ++ (if 0 < n then [(e.1, e.2.1, n)] else [])
def belowGo : List Ld → Ld → List Ld
  | found, [] => found
  | found, e :: l => belowGo ((List.range (e.2.2 + 1)).flatMap fun n => found.map (ext1 e n)) l
def below (l : Ld) : List Ld := (belowGo [[]] l).filter fun x => decide (0 < x.length)
theorem good_tail {N : List Nat} {e : Ent} {l : Ld} (g : GoodL N (e :: l)) : GoodL N l := ⟨fun x hx => g.pr x (List.mem_cons_of_mem _ hx), fun x hx => g.pos x (List.mem_cons_of_mem _ hx), (List.pairwise_cons.mp g.srt).2⟩
section
variable {N : List Nat} {kn : Knw} {g : Nat}
end
end DL
set_option Elab.async false
set_option linter.all false
set_option maxRecDepth 100000
set_option maxHeartbeats 1000000
namespace K61
open PySem PySem.Spec PyProof.Rows L2 DL PySem.W
open TM (Ent Ld Sm SmL c3 tsort addL others withinL carts okO GoodL pairsN)
def sqL (t : Bool) (l : List D) : D := match t with
  | true => .tup l
  | false => .lst l
def dLt (x : Bool × Ld) : D := sqL x.1 (x.2.map dEn)
def dLs (o : Bool) (xs : List (Bool × Ld)) : D := sqL o (xs.map dLt)
def nNs (l : List Nat) : D := .lst (DL.dNs l)
theorem seq_sqL {t : Bool} {l : List D} : seqD (sqL t l) = some l := by cases t <;> rfl
theorem it_sq {t : Bool} {l : List D} {ee : EE} {env : DL.Env} {k : List D → Prop} (he : ∀ kk : DK, kk (sqL t l) → ee env kk) (hk : k l) : eSeq ee env k := by
  unfold eSeq
  refine he _ ?_
  cases t with
  | true => exact hk
  | false => exact hk
theorem len_sq {t : Bool} {l : List D} {k : DK} (hk : k (nN l.length)) : lenD (sqL t l) k := by
  cases t with
  | true => exact hk
  | false => exact hk
theorem t_and {e f : EB} {env : DL.Env} {k : Bool → Prop} {x y : Bool} (he : ∀ kk : Bool → Prop, kk x → e env kk) (hf : ∀ kk : Bool → Prop, kk y → f env kk) (hk : k (x && y)) : eAndT e f env k := by
  refine he _ ?_
  cases x with
  | true => exact hf _ hk
  | false => exact hk
theorem p_is_count {n : Nat} {k : DK} (hk : k (.bl true)) : d_is_count [nN n] k := by
  unfold d_is_count e_is_count
  simp only [env0, env0L, knE, knF, sSeq, sAsg, sAsgF, sIf, sRet, sRetF, sRetM, sRetN, sDrop, sNext, sFor, sPar, sPar3, emE, emF, sKnow, sApp, sExt, eVar, eVarO, eC, eF, eOp, eOpF, eUn, eUnF, eB, eNotT, eAndT, eOrT, eAnd, eOr, eNot, eIf, eaNil, eaCons, eTup, eLst, eYes, eChain, eCall, eCallF, eCallP, eCallL, eCallW, eCallWF, eIsi, eIsi2, isiD, isi2D, eLc, eLcF, eSeq, eRng1, eEnum, eRgo, egName, egTup, egNil, egCons, wipeE, forg, List.map_cons, List.map_nil, List.cons_append, List.nil_append, List.append_nil, List.getElem?_cons_zero, List.getElem?_cons_succ, List.set_cons_zero, List.set_cons_succ, List.length_cons, List.length_nil, if_true, if_false, Nat.reduceAdd, Nat.reduceSub, Nat.reduceLeDiff, Bool.false_eq_true, List.replicate, true_and, and_true, Bool.not_true, Bool.not_false, Nat.zero_add, Nat.add_zero, Nat.sub_zero]
  refine ⟨"int", true, rfl, by decide +kernel, ?_⟩
  simp only [env0, env0L, knE, knF, sSeq, sAsg, sAsgF, sIf, sRet, sRetF, sRetM, sRetN, sDrop, sNext, sFor, sPar, sPar3, emE, emF, sKnow, sApp, sExt, eVar, eVarO, eC, eF, eOp, eOpF, eUn, eUnF, eB, eNotT, eAndT, eOrT, eAnd, eOr, eNot, eIf, eaNil, eaCons, eTup, eLst, eYes, eChain, eCall, eCallF, eCallP, eCallL, eCallW, eCallWF, eIsi, eIsi2, isiD, isi2D, eLc, eLcF, eSeq, eRng1, eEnum, eRgo, egName, egTup, egNil, egCons, wipeE, forg, List.map_cons, List.map_nil, List.cons_append, List.nil_append, List.append_nil, List.getElem?_cons_zero, List.getElem?_cons_succ, List.set_cons_zero, List.set_cons_succ, List.length_cons, List.length_nil, if_true, if_false, Nat.reduceAdd, Nat.reduceSub, Nat.reduceLeDiff, Bool.false_eq_true, List.replicate, true_and, and_true, Bool.not_true, Bool.not_false, Nat.zero_add, Nat.add_zero, Nat.sub_zero]
  refine ⟨"int", false, rfl, by decide +kernel, ?_⟩
  simp only [env0, env0L, knE, knF, sSeq, sAsg, sAsgF, sIf, sRet, sRetF, sRetM, sRetN, sDrop, sNext, sFor, sPar, sPar3, emE, emF, sKnow, sApp, sExt, eVar, eVarO, eC, eF, eOp, eOpF, eUn, eUnF, eB, eNotT, eAndT, eOrT, eAnd, eOr, eNot, eIf, eaNil, eaCons, eTup, eLst, eYes, eChain, eCall, eCallF, eCallP, eCallL, eCallW, eCallWF, eIsi, eIsi2, isiD, isi2D, eLc, eLcF, eSeq, eRng1, eEnum, eRgo, egName, egTup, egNil, egCons, wipeE, forg, List.map_cons, List.map_nil, List.cons_append, List.nil_append, List.append_nil, List.getElem?_cons_zero, List.getElem?_cons_succ, List.set_cons_zero, List.set_cons_succ, List.length_cons, List.length_nil, if_true, if_false, Nat.reduceAdd, Nat.reduceSub, Nat.reduceLeDiff, Bool.false_eq_true, List.replicate, true_and, and_true, Bool.not_true, Bool.not_false, Nat.zero_add, Nat.add_zero, Nat.sub_zero]
  show k (.bl (decide _))
  rw [decide_eq_true (by omega)]
  exact hk
theorem p_row {t : Bool} {l : List D} {k : DK} (hk : k (.bl true)) : d_is_row [sqL t l] k := by
  cases t with
  | true =>
    unfold d_is_row e_is_row
    simp only [env0, env0L, knE, knF, sSeq, sAsg, sAsgF, sIf, sRet, sRetF, sRetM, sRetN, sDrop, sNext, sFor, sPar, sPar3, emE, emF, sKnow, sApp, sExt, eVar, eVarO, eC, eF, eOp, eOpF, eUn, eUnF, eB, eNotT, eAndT, eOrT, eAnd, eOr, eNot, eIf, eaNil, eaCons, eTup, eLst, eYes, eChain, eCall, eCallF, eCallP, eCallL, eCallW, eCallWF, eIsi, eIsi2, isiD, isi2D, eLc, eLcF, eSeq, eRng1, eEnum, eRgo, egName, egTup, egNil, egCons, wipeE, forg, List.map_cons, List.map_nil, List.cons_append, List.nil_append, List.append_nil, List.getElem?_cons_zero, List.getElem?_cons_succ, List.set_cons_zero, List.set_cons_succ, List.length_cons, List.length_nil, if_true, if_false, Nat.reduceAdd, Nat.reduceSub, Nat.reduceLeDiff, Bool.false_eq_true, List.replicate, true_and, and_true, Bool.not_true, Bool.not_false, Nat.zero_add, Nat.add_zero, Nat.sub_zero]
    exact ⟨"tuple", false, true, rfl, by decide +kernel, by decide +kernel, hk⟩
  | false =>
    unfold d_is_row e_is_row
    simp only [env0, env0L, knE, knF, sSeq, sAsg, sAsgF, sIf, sRet, sRetF, sRetM, sRetN, sDrop, sNext, sFor, sPar, sPar3, emE, emF, sKnow, sApp, sExt, eVar, eVarO, eC, eF, eOp, eOpF, eUn, eUnF, eB, eNotT, eAndT, eOrT, eAnd, eOr, eNot, eIf, eaNil, eaCons, eTup, eLst, eYes, eChain, eCall, eCallF, eCallP, eCallL, eCallW, eCallWF, eIsi, eIsi2, isiD, isi2D, eLc, eLcF, eSeq, eRng1, eEnum, eRgo, egName, egTup, egNil, egCons, wipeE, forg, List.map_cons, List.map_nil, List.cons_append, List.nil_append, List.append_nil, List.getElem?_cons_zero, List.getElem?_cons_succ, List.set_cons_zero, List.set_cons_succ, List.length_cons, List.length_nil, if_true, if_false, Nat.reduceAdd, Nat.reduceSub, Nat.reduceLeDiff, Bool.false_eq_true, List.replicate, true_and, and_true, Bool.not_true, Bool.not_false, Nat.zero_add, Nat.add_zero, Nat.sub_zero]
    exact ⟨"list", true, false, rfl, by decide +kernel, by decide +kernel, hk⟩
theorem le_N {i j : Nat} {k : DK} (hk : k (.bl (decide (i ≤ j)))) : leD (nN i) (nN j) k := by
  show k (.bl (decide ((i : Int) ≤ (j : Int))))
  rw [show decide ((i : Int) ≤ (j : Int)) = decide (i ≤ j) from decide_eq_decide.mpr (by omega)]
  exact hk
theorem gt_N {a c : Nat} {k : DK} (hk : k (.bl (decide (c < a)))) : gtD (nN a) (nN c) k := by
  show k (.bl (decide ((c : Int) < (a : Int))))
  rw [show decide ((c : Int) < (a : Int)) = decide (c < a) from decide_eq_decide.mpr (by omega)]
  exact hk
theorem add_N {a c : Nat} {k : DK} (hk : k (nN (a + c))) : addU (nN a) (nN c) k := by
  show k (.int ((a : Int) + (c : Int)))
  rw [← Int.natCast_add]
  exact hk
theorem eq_N {a c : Nat} {k : DK} (hk : k (.bl (decide (a = c)))) : eqD (nN a) (nN c) k := by
  refine DL.eq_int ?_
  rw [show decide ((a : Int) = (c : Int)) = decide (a = c) from decide_eq_decide.mpr (by omega)]
  exact hk
theorem ne_N {a c : Nat} {k : DK} (hk : k (.bl (!decide (a = c)))) : neD (nN a) (nN c) k := by
  refine DL.ne_int ?_
  rw [show decide ((a : Int) = (c : Int)) = decide (a = c) from decide_eq_decide.mpr (by omega)]
  exact hk
theorem in_N {neg : Bool} {a : Nat} {l : List Nat} {t : Bool} {k : DK} (hk : k (.bl (if neg then !decide (a ∈ l) else decide (a ∈ l)))) : inD neg (nN a) (sqL t (l.map nN)) k := by
  refine ⟨l.map nN, seq_sqL, .inl ⟨.int a, l.map fun (n : Nat) => V.int (n : Int), rfl, by rw [List.map_map, List.map_map]; rfl, ?_⟩⟩
  have e : L2.inV (.int a) (l.map fun (n : Nat) => V.int (n : Int)) = decide (a ∈ l) := by
    unfold L2.inV
    rw [List.any_map, Bool.eq_iff_iff, List.any_eq_true, decide_eq_true_eq]
    constructor
    · intro ⟨x, hx, h⟩
      have h : ((x : Int) == (a : Int)) = true := h
      have : x = a := by have := of_decide_eq_true ((Bool.beq_eq_decide_eq (x : Int) (a : Int)) ▸ h); omega
      rw [← this]; exact hx
    · intro h
      exact ⟨a, h, by show ((a : Int) == (a : Int)) = true; exact beq_self_eq_true _⟩
  rw [e]; exact hk
def optD : Option Nat → D
  | none => .non
  | some n => nN n
theorem in_opt {o : Option Nat} {s : Nat} {k : DK} (hk : k (.bl (okO o s))) : inD false (optD o) (.tup [.non, nN s]) k := by
  cases o with
  | none => exact ⟨_, rfl, .inl ⟨.non, [.non, .int s], rfl, rfl, hk⟩⟩
  | some n =>
    refine ⟨_, rfl, .inl ⟨.int n, [.non, .int s], rfl, rfl, ?_⟩⟩
    have e : L2.inV (.int n) [.non, .int s] = okO (some n) s := by
      show ((false || ((((s : Int) == (n : Int))) || false)) : Bool) = decide (n = s)
      rw [Bool.false_or, Bool.or_false, Bool.beq_eq_decide_eq]
      exact decide_eq_decide.mpr (by omega)
    rw [if_neg (by decide), e]
    exact hk
theorem p_carts {x : Bool × Ld} {o t : Option Nat} {k : DK} (hl : x.2.length ≤ 100000) (hk : k (nN (carts x.2 o t))) : d_carts_of [dLt x, optD o, optD t] k := by
  have main : (x.2.map dEn).length ≤ 100000 ∧ lcGo (eLcF (egTup 3 (egCons (egName 3) (egCons (egName 4) (egCons (egName 5) egNil)))) (eAndT (eB (eOp (inD false) (eVar 1) (eTup (eaCons (eC .non) (eaCons (eVar 3) eaNil))))) (eB (eOp (inD false) (eVar 2) (eTup (eaCons (eC .non) (eaCons (eVar 4) eaNil)))))) (eVar 5) [.val (dLt x), .val (optD o), .val (optD t), .un, .un, .un]) (x.2.map dEn) fun l => sumU (.lst l) k := by
    refine ⟨by rw [List.length_map]; exact hl, lc_filter (p := fun e : Ent => okO o e.1 && okO t e.2.1) (g := fun e => nN e.2.2) (fun e _ kk h => ?_) ?_⟩
    · unfold dEn
      refine And.intro rfl ?_
      simp only [egCons, egNil, egName, List.set_cons_succ, List.set_cons_zero, true_and]
      refine t_and (x := okO o e.1) (y := okO t e.2.1) (fun kk hk => ?_) (fun kk hk => ?_) ?_
      · exact And.intro (show 2 ≤ 100000 by decide) (in_opt hk)
      · exact And.intro (show 2 ≤ 100000 by decide) (in_opt hk)
      · cases z : (okO o e.1 && okO t e.2.1) with
        | true => rw [z] at h; exact h
        | false => rw [z] at h; exact h
    · have e : (x.2.filter fun e : Ent => okO o e.1 && okO t e.2.1).map (fun e => nN e.2.2) = ((x.2.filter fun e : Ent => okO o e.1 && okO t e.2.1).map fun e => e.2.2).map fun (n : Nat) => D.int (n : Int) := by rw [List.map_map]; rfl
      rw [e]
      exact sum_lst hk
  show e_carts_of [.val (dLt x), .val (optD o), .val (optD t), .un, .un, .un] (knE k)
  unfold e_carts_of
  obtain ⟨t', l⟩ := x
  cases t' with
  | true => exact main
  | false => exact main
end K61
set_option Elab.async false
set_option linter.all false
set_option maxRecDepth 100000
set_option maxHeartbeats 1000000
namespace K61
open PySem PySem.Spec PyProof.Rows L2 DL PySem.W
open TM (Ent Ld Sm SmL c3 tsort addL others withinL carts okO GoodL pairsN)
def dPr (p : Nat × Nat) : D := .tup [nN p.1, nN p.2]
theorem py_en : ∀ s : Ld, isPys (s.map dEn) = true
  | [] => rfl
  | q :: s => by
    have := py_en s
    simp only [List.map_cons, isPys, dEn, isPy, this, Bool.and_self]
theorem al_en (l : Ld) : AllAlike ((l.map dEn).map toPy) := by
  intro x hx y hy
  obtain ⟨a, ha, rfl⟩ := List.mem_map.mp hx
  obtain ⟨s, _, rfl⟩ := List.mem_map.mp ha
  obtain ⟨b, hb, rfl⟩ := List.mem_map.mp hy
  obtain ⟨t, _, rfl⟩ := List.mem_map.mp hb
  simp only [dEn, toPy, toPys, alike, alikeAll, Bool.and_self]
theorem so_en (l : Ld) : Sortable ((l.map dEn).map toPy) := .inl fun d hd => by
  obtain ⟨a, ha, rfl⟩ := List.mem_map.mp hd
  obtain ⟨e, _, rfl⟩ := List.mem_map.mp ha
  exact ⟨_, _, rfl⟩
theorem dp_en1 (e : Ent) : (toPy (dEn e)).depth = 1 := rfl
theorem sort_ens {l : Ld} {k : List D → Prop} (h : SmL l) (hk : k ((tsort l).map dEn)) : sortF (.lst (l.map dEn)) k := by
  refine And.intro ⟨py_en l, al_en l, so_en l, fun b hb => ?_⟩ ?_
  · obtain ⟨e, _, rfl⟩ := List.mem_map.mp hb
    rw [dp_en1]; decide
  · show k ((l.map dEn).mergeSort oLe)
    rw [sort_en h]
    exact hk
theorem eqv_pr (p q : Nat × Nat) : PyData.eqv (toPy (dPr p)) (toPy (dPr q)) = decide (p = q) := by
  obtain ⟨a, b⟩ := p
  obtain ⟨c, d⟩ := q
  simp only [dPr, toPy, toPys, PyData.eqv, PyData.eqvAll]
  rw [show ((a : Int) == (c : Int)) = decide (a = c) by rw [Bool.beq_eq_decide_eq]; exact decide_eq_decide.mpr (by omega), show ((b : Int) == (d : Int)) = decide (b = d) by rw [Bool.beq_eq_decide_eq]; exact decide_eq_decide.mpr (by omega)]
  simp [Prod.mk.injEq, Bool.decide_and]
theorem ne_pr {p q : Nat × Nat} {k : DK} (hk : k (.bl (!decide (p = q)))) : neD (dPr p) (dPr q) k := by
  refine ⟨⟨rfl, rfl, rfl, rfl⟩, ?_⟩
  rw [eqv_pr]; exact hk
theorem eq_pr {p q : Nat × Nat} {k : DK} (hk : k (.bl (decide (p = q)))) : eqD (dPr p) (dPr q) k := by
  refine ⟨⟨rfl, rfl, rfl, rfl⟩, ?_⟩
  rw [eqv_pr]; exact hk
theorem en0 {e : Ent} {k : DK} (hk : k (nN e.1)) : ixD (dEn e) (.int 0) k := ix_tup (i := 0) rfl hk
theorem en1 {e : Ent} {k : DK} (hk : k (nN e.2.1)) : ixD (dEn e) (.int 1) k := ix_tup (i := 1) rfl hk
theorem en2 {e : Ent} {k : DK} (hk : k (nN e.2.2)) : ixD (dEn e) (.int 2) k := ix_tup (i := 2) rfl hk
theorem sm_add {N : List Nat} (sN : ∀ x ∈ N, x < 1024) {l : Ld} (g : GoodL N l) (hs : size l ≤ 1000) {o t : Nat} (p : (o, t) ∈ pairsN N) : SmL (others l o t ++ [(o, t, many l o t + 1)]) :=
  TM.add_sm sN (g.smL sN (show carts l none none < 2000 by unfold size at hs; omega)) p (by have := TM.carts_le l (some o) (some t); unfold size at hs; omega)
theorem len_size {N : List Nat} {l : Ld} (g : GoodL N l) : l.length ≤ size l := TM.length_carts g.pos
def keyE (e : Ent) : List Key := [.inl (e.1 : Int), .inl (e.2.1 : Int)]
theorem key_inj {a b c d : Nat} (h : ([.inl (a : Int), .inl (b : Int)] : List Key) = [.inl (c : Int), .inl (d : Int)]) : a = c ∧ b = d := by
  simp only [List.cons.injEq, Sum.inl.injEq, and_true] at h
  omega
theorem get_many : ∀ {m : Ld} {o t : Nat}, Unl m → (DL.getD (m.map keyE) (m.map fun e => nN e.2.2) [.inl (o : Int), .inl (t : Int)]).getD (.int 0) = nN (many m o t)
  | [], _, _, _ => rfl
  | e :: m, o, t, u => by
    obtain ⟨u1, u2⟩ := List.pairwise_cons.mp u
    have ih := get_many (m := m) (o := o) (t := t) u2
    unfold DL.getD at ih ⊢
    rw [List.map_cons, List.map_cons, List.zip_cons_cons, List.find?_cons, many_cons]
    by_cases h : o = e.1 ∧ t = e.2.1
    · rw [if_pos h, TM_zero u1 h]
      have : decide (keyE e = [.inl (o : Int), .inl (t : Int)]) = true := decide_eq_true (by unfold keyE; rw [h.1, h.2])
      rw [this]
      rfl
    · rw [if_neg h]
      have : decide (keyE e = [.inl (o : Int), .inl (t : Int)]) = false := decide_eq_false fun z => h (by
        have := key_inj z
        exact ⟨this.1.symm, this.2.symm⟩)
      rw [this, Nat.zero_add]
      exact ih
where TM_zero {e : Ent} {m : Ld} {o t : Nat} (u : ∀ f ∈ m, ¬ (e.1 = f.1 ∧ e.2.1 = f.2.1)) (h : o = e.1 ∧ t = e.2.1) : many m o t = 0 := many_zero fun f hf z => u f hf ⟨by rw [← h.1, z.1], by rw [← h.2, z.2]⟩
theorem dc_ents {f : D → (List Key → D → Prop) → Prop} : ∀ {m done : Ld} {k : List (List Key) → List D → Prop}, Unl (done ++ m) →
    (∀ e ∈ m, ∀ kk : List Key → D → Prop, kk (keyE e) (nN e.2.2) → f (dEn e) kk) → k ((done ++ m).map keyE) ((done ++ m).map fun e => nN e.2.2) → dcGo f (m.map dEn) (done.map keyE) (done.map fun e => nN e.2.2) k
  | [], done, k, _, _, hk => by rw [List.append_nil] at hk; exact hk
  | e :: m, done, k, u, h, hk => h e (by simp) _ (And.intro (fun z => by
      obtain ⟨f, hf, e1⟩ := List.mem_map.mp z
      have := key_inj e1
      exact (List.pairwise_append.mp u).2.2 f hf e (by simp) this) (by
      have := dc_ents (f := f) (m := m) (done := done ++ [e]) (k := k) (by rw [List.append_assoc]; exact u) (fun x hx => h x (List.mem_cons_of_mem _ hx)) (by rw [List.append_assoc]; exact hk)
      rw [List.map_append, List.map_append] at this
      exact this))
theorem c_within {x y : Bool × Ld} {K1 : Kn} (u : Unl y.2) (hx : x.2.length ≤ 100000) (hy : y.2.length ≤ 100000) (hk : K1.rt (.bl (withinL x.2 y.2))) :
    (sSeq (sAsg (eDcT (eSeq (eVar 1)) (egTup 3 (egCons (egName 3) (egCons (egName 4) (egCons (egName 5) egNil)))) (eTup (eaCons (eVar 3) (eaCons (eVar 4) eaNil))) (eVar 5) [3, 4, 5]) (egName 2)) (sRet (eUn allD (eF (eLc (eSeq (eVar 0)) (egTup 3 (egCons (egName 3) (egCons (egName 4) (egCons (egName 5) egNil)))) eYes (eOp leD (eVar 5) (eGet2 (eVar 2) (eTup (eaCons (eVar 3) (eaCons (eVar 4) eaNil))) (eC (.int 0)))) [3, 4, 5])))))
      [.val (dLt x), .val (dLt y), .un, .un, .un, .un] K1 := by
  simp only [sSeq, sAsg, eDcT]
  refine it_sq (t := y.1) (l := y.2.map dEn) (fun kk h => h) ?_
  refine And.intro (by rw [List.length_map]; exact hy) ?_
  refine dc_ents (done := []) (m := y.2) u (fun e _ kk h => ?_) ?_
  · refine And.intro rfl ?_
    simp only [egCons, egNil, egName, List.set_cons_succ, List.set_cons_zero, true_and]
    exact And.intro (show 2 ≤ 100000 by decide) ⟨keyE e, rfl, h⟩
  · simp only [egName, List.set_cons_succ, List.set_cons_zero, List.nil_append, sRet, eUn, eF, eLc]
    refine it_sq (t := x.1) (l := x.2.map dEn) (fun kk h => h) ?_
    refine And.intro (by rw [List.length_map]; exact hx) ?_
    refine lc_map (g := fun e : Ent => D.bl (decide (e.2.2 ≤ carts y.2 (some e.1) (some e.2.1)))) (fun e _ kk h => ?_) ?_
    · refine And.intro rfl ?_
      simp only [egCons, egNil, egName, List.set_cons_succ, List.set_cons_zero, true_and]
      refine And.intro (show 2 ≤ 100000 by decide) ⟨keyE e, rfl, ?_⟩
      refine (show leD (nN e.2.2) ((DL.getD (y.2.map keyE) (y.2.map fun e => nN e.2.2) [.inl (e.1 : Int), .inl (e.2.1 : Int)]).getD (.int 0)) _ from ?_)
      rw [get_many u]
      exact le_N h
    · have e : x.2.map (fun e : Ent => D.bl (decide (e.2.2 ≤ carts y.2 (some e.1) (some e.2.1)))) = (x.2.map fun e => decide (e.2.2 ≤ carts y.2 (some e.1) (some e.2.1))).map D.bl := by rw [List.map_map]; rfl
      rw [e]
      refine all_lst ?_
      rw [List.all_map]
      exact hk
theorem p_within {x y : Bool × Ld} {k : DK} (u : Unl y.2) (hx : x.2.length ≤ 100000) (hy : y.2.length ≤ 100000) (hk : k (.bl (withinL x.2 y.2))) : d_is_within [dLt x, dLt y] k := by
  show e_is_within [.val (dLt x), .val (dLt y), .un, .un, .un, .un] (knE k)
  unfold e_is_within
  exact c_within u hx hy hk
end K61
set_option Elab.async false
set_option linter.all false
set_option maxRecDepth 100000
set_option maxHeartbeats 1000000
namespace K61
open PySem PySem.Spec PyProof.Rows L2 DL PySem.W
open TM (Ent Ld Sm SmL c3 tsort addL others withinL carts okO GoodL pairsN)
structure Gk where
  pl : Nat
  o1 : Bool
  x1 : List (Bool × Ld)
  o2 : Bool
  x2 : List (Bool × Ld)
def Gk.d (g : Gk) : D := .tup [nN g.pl, dLs g.o1 g.x1, dLs g.o2 g.x2]
def Gk.kn (g : Gk) : Knw := (g.pl, g.x1.map (·.2), g.x2.map (·.2))
def Okx (x : Bool × Ld) : Prop := x.2.length ≤ 1000 ∧ Unl x.2
structure Gk.Sm (g : Gk) : Prop where
  l1 : g.x1.length ≤ 1000
  l2 : g.x2.length ≤ 1000
  k1 : ∀ x ∈ g.x1, Okx x
  k2 : ∀ x ∈ g.x2, Okx x
theorem or_t {e f : EE} {env : DL.Env} {k : DK} {x y : Bool} (he : ∀ kk : DK, kk (.bl x) → e env kk) (hf : ∀ kk : DK, kk (.bl y) → f env kk) (hk : k (.bl (x || y))) : eOr e f env k := by
  unfold eOr eB
  refine he _ ?_
  cases x with
  | true => exact hk
  | false => exact hf _ hk
theorem any_map {α : Type} {l : List α} {p : α → Bool} {k : DK} (hk : k (.bl (l.any p))) : anyD (.lst (l.map fun a => D.bl (p a))) k := by
  have e : l.map (fun a => D.bl (p a)) = (l.map p).map D.bl := by rw [List.map_map]; rfl
  rw [e]
  refine any_lst ?_
  rw [List.any_map]
  exact hk
theorem all_map {α : Type} {l : List α} {p : α → Bool} {k : DK} (hk : k (.bl (l.all p))) : allD (.lst (l.map fun a => D.bl (p a))) k := by
  have e : l.map (fun a => D.bl (p a)) = (l.map p).map D.bl := by rw [List.map_map]; rfl
  rw [e]
  refine all_lst ?_
  rw [List.all_map]
  exact hk
theorem c_surely {co wi : List D → DK → Prop} {g : Gk} {x : Bool × Ld} {K1 : Kn} (hg : g.Sm) (hco : ∀ k : DK, k (nN (size x.2)) → co [dLt x, .non, .non] k) (hwi : ∀ y ∈ g.x1, ∀ k : DK, k (.bl (withinL x.2 y.2)) → wi [dLt x, dLt y] k) (hk : K1.rt (.bl (surely g.kn x.2))) :
    (sRet (eOr (eOp leD (eCall 3 co (eaCons (eVar 1) (eaCons (eC .non) (eaCons (eC .non) eaNil)))) (eC (.int 1))) (eUn anyD (eF (eLc (eSeq (eOp ixD (eVar 0) (eC (.int 1)))) (egName 2) eYes (eCall 2 wi (eaCons (eVar 1) (eaCons (eVar 2) eaNil))) [2])))))
      [.val g.d, .val (dLt x), .un] K1 := by
  refine or_t (x := decide (size x.2 ≤ 1)) (y := g.x1.any fun y => withinL x.2 y.2) (fun kk h => ?_) (fun kk h => ?_) ?_
  · refine And.intro rfl (hco _ ?_)
    simp only [eC]
    exact (show leD (nN (size x.2)) (nN 1) _ from le_N h)
  · unfold eUn eF eLc
    refine it_sq (t := g.o1) (l := g.x1.map dLt) (fun kk h => (show ixD g.d (nN 1) kk from ix_tup (i := 1) rfl h)) ?_
    refine And.intro (by rw [List.length_map]; have := hg.l1; omega) ?_
    refine lc_map (g := fun y => D.bl (withinL x.2 y.2)) (fun y hy kk h => ?_) (any_map h)
    exact And.intro rfl (hwi y hy _ h)
  · have e : surely g.kn x.2 = (decide (size x.2 ≤ 1) || g.x1.any fun y => withinL x.2 y.2) := by
      unfold surely Gk.kn
      rw [List.any_map]
      rfl
    rw [← e]; exact hk
theorem p_surely {g : Gk} {x : Bool × Ld} {k : DK} (hg : g.Sm) (hx : Okx x) (hk : k (.bl (surely g.kn x.2))) : d_is_surely_let [g.d, dLt x] k := by
  show e_is_surely_let [.val g.d, .val (dLt x), .un] (knE k)
  unfold e_is_surely_let
  have h1 := hx.1
  exact c_surely hg (fun k h => p_carts (o := none) (t := none) (by omega) h) (fun y hy k h => p_within (hg.k1 y hy).2 (by omega) (by have := (hg.k1 y hy).1; omega) h) hk
theorem c_refd {co wi : List D → DK → Prop} {g : Gk} {x : Bool × Ld} {K1 : Kn} (hg : g.Sm) (hco : ∀ k : DK, k (nN (size x.2)) → co [dLt x, .non, .non] k) (hwi : ∀ y ∈ g.x2, ∀ k : DK, k (.bl (withinL y.2 x.2)) → wi [dLt y, dLt x] k) (hk : K1.rt (.bl (refd g.kn x.2))) :
    (sRet (eOr (eOp gtD (eCall 3 co (eaCons (eVar 1) (eaCons (eC .non) (eaCons (eC .non) eaNil)))) (eOp ixD (eVar 0) (eC (.int 0)))) (eUn anyD (eF (eLc (eSeq (eOp ixD (eVar 0) (eC (.int 2)))) (egName 2) eYes (eCall 2 wi (eaCons (eVar 2) (eaCons (eVar 1) eaNil))) [2])))))
      [.val g.d, .val (dLt x), .un] K1 := by
  refine or_t (x := decide (g.pl < size x.2)) (y := g.x2.any fun y => withinL y.2 x.2) (fun kk h => ?_) (fun kk h => ?_) ?_
  · refine And.intro rfl (hco _ ?_)
    refine (show ixD g.d (nN 0) _ from ix_tup (i := 0) (d := nN g.pl) rfl ?_)
    exact gt_N h
  · unfold eUn eF eLc
    refine it_sq (t := g.o2) (l := g.x2.map dLt) (fun kk h => (show ixD g.d (nN 2) kk from ix_tup (i := 2) rfl h)) ?_
    refine And.intro (by rw [List.length_map]; have := hg.l2; omega) ?_
    refine lc_map (g := fun y => D.bl (withinL y.2 x.2)) (fun y hy kk h => ?_) (any_map h)
    exact And.intro rfl (hwi y hy _ h)
  · have e : refd g.kn x.2 = (decide (g.pl < size x.2) || g.x2.any fun y => withinL y.2 x.2) := by
      unfold refd Gk.kn
      rw [List.any_map]
      rfl
    rw [← e]; exact hk
theorem p_refd {g : Gk} {x : Bool × Ld} {k : DK} (hg : g.Sm) (hx : Okx x) (hk : k (.bl (refd g.kn x.2))) : d_is_surely_refused [g.d, dLt x] k := by
  show e_is_surely_refused [.val g.d, .val (dLt x), .un] (knE k)
  unfold e_is_surely_refused
  have h1 := hx.1
  exact c_refd hg (fun k h => p_carts (o := none) (t := none) (by omega) h) (fun y hy k h => p_within hx.2 (by have := (hg.k2 y hy).1; omega) (by omega) h) hk
theorem p_among {N : List Nat} {a : Nat} {k : DK} (h : a ∈ N) (hk : k (.bl true)) : d_is_among [nNs N, nN a] k := by
  unfold d_is_among e_is_among
  simp only [env0, env0L, knE, knF, sSeq, sAsg, sAsgF, sIf, sRet, sRetF, sRetM, sRetN, sDrop, sNext, sFor, sPar, sPar3, emE, emF, sKnow, sApp, sExt, eVar, eVarO, eC, eF, eOp, eOpF, eUn, eUnF, eB, eNotT, eAndT, eOrT, eAnd, eOr, eNot, eIf, eaNil, eaCons, eTup, eLst, eYes, eChain, eCall, eCallF, eCallP, eCallL, eCallW, eCallWF, eIsi, eIsi2, isiD, isi2D, eLc, eLcF, eSeq, eRng1, eEnum, eRgo, egName, egTup, egNil, egCons, wipeE, forg, List.map_cons, List.map_nil, List.cons_append, List.nil_append, List.append_nil, List.getElem?_cons_zero, List.getElem?_cons_succ, List.set_cons_zero, List.set_cons_succ, List.length_cons, List.length_nil, if_true, if_false, Nat.reduceAdd, Nat.reduceSub, Nat.reduceLeDiff, Bool.false_eq_true, List.replicate, true_and, and_true, Bool.not_true, Bool.not_false, Nat.zero_add, Nat.add_zero, Nat.sub_zero]
  refine p_is_count ?_
  simp only [env0, env0L, knE, knF, sSeq, sAsg, sAsgF, sIf, sRet, sRetF, sRetM, sRetN, sDrop, sNext, sFor, sPar, sPar3, emE, emF, sKnow, sApp, sExt, eVar, eVarO, eC, eF, eOp, eOpF, eUn, eUnF, eB, eNotT, eAndT, eOrT, eAnd, eOr, eNot, eIf, eaNil, eaCons, eTup, eLst, eYes, eChain, eCall, eCallF, eCallP, eCallL, eCallW, eCallWF, eIsi, eIsi2, isiD, isi2D, eLc, eLcF, eSeq, eRng1, eEnum, eRgo, egName, egTup, egNil, egCons, wipeE, forg, List.map_cons, List.map_nil, List.cons_append, List.nil_append, List.append_nil, List.getElem?_cons_zero, List.getElem?_cons_succ, List.set_cons_zero, List.set_cons_succ, List.length_cons, List.length_nil, if_true, if_false, Nat.reduceAdd, Nat.reduceSub, Nat.reduceLeDiff, Bool.false_eq_true, List.replicate, true_and, and_true, Bool.not_true, Bool.not_false, Nat.zero_add, Nat.add_zero, Nat.sub_zero]
  refine (show inD false (nN a) (sqL false (N.map nN)) _ from in_N ?_)
  rw [if_neg (by decide), decide_eq_true h]
  exact hk
theorem p_pair_of {N : List Nat} {a b : Nat} {k : DK} (h : (a, b) ∈ pairsN N) (hk : k (.bl true)) : d_is_pair_of [nNs N, nN a, nN b] k := by
  obtain ⟨h1, h2, h3⟩ := TM.mem_pairs.mp h
  unfold d_is_pair_of e_is_pair_of
  simp only [env0, env0L, knE, knF, sSeq, sAsg, sAsgF, sIf, sRet, sRetF, sRetM, sRetN, sDrop, sNext, sFor, sPar, sPar3, emE, emF, sKnow, sApp, sExt, eVar, eVarO, eC, eF, eOp, eOpF, eUn, eUnF, eB, eNotT, eAndT, eOrT, eAnd, eOr, eNot, eIf, eaNil, eaCons, eTup, eLst, eYes, eChain, eCall, eCallF, eCallP, eCallL, eCallW, eCallWF, eIsi, eIsi2, isiD, isi2D, eLc, eLcF, eSeq, eRng1, eEnum, eRgo, egName, egTup, egNil, egCons, wipeE, forg, List.map_cons, List.map_nil, List.cons_append, List.nil_append, List.append_nil, List.getElem?_cons_zero, List.getElem?_cons_succ, List.set_cons_zero, List.set_cons_succ, List.length_cons, List.length_nil, if_true, if_false, Nat.reduceAdd, Nat.reduceSub, Nat.reduceLeDiff, Bool.false_eq_true, List.replicate, true_and, and_true, Bool.not_true, Bool.not_false, Nat.zero_add, Nat.add_zero, Nat.sub_zero]
  refine p_among h1 ?_
  simp only [env0, env0L, knE, knF, sSeq, sAsg, sAsgF, sIf, sRet, sRetF, sRetM, sRetN, sDrop, sNext, sFor, sPar, sPar3, emE, emF, sKnow, sApp, sExt, eVar, eVarO, eC, eF, eOp, eOpF, eUn, eUnF, eB, eNotT, eAndT, eOrT, eAnd, eOr, eNot, eIf, eaNil, eaCons, eTup, eLst, eYes, eChain, eCall, eCallF, eCallP, eCallL, eCallW, eCallWF, eIsi, eIsi2, isiD, isi2D, eLc, eLcF, eSeq, eRng1, eEnum, eRgo, egName, egTup, egNil, egCons, wipeE, forg, List.map_cons, List.map_nil, List.cons_append, List.nil_append, List.append_nil, List.getElem?_cons_zero, List.getElem?_cons_succ, List.set_cons_zero, List.set_cons_succ, List.length_cons, List.length_nil, if_true, if_false, Nat.reduceAdd, Nat.reduceSub, Nat.reduceLeDiff, Bool.false_eq_true, List.replicate, true_and, and_true, Bool.not_true, Bool.not_false, Nat.zero_add, Nat.add_zero, Nat.sub_zero]
  refine p_among h2 ?_
  simp only [env0, env0L, knE, knF, sSeq, sAsg, sAsgF, sIf, sRet, sRetF, sRetM, sRetN, sDrop, sNext, sFor, sPar, sPar3, emE, emF, sKnow, sApp, sExt, eVar, eVarO, eC, eF, eOp, eOpF, eUn, eUnF, eB, eNotT, eAndT, eOrT, eAnd, eOr, eNot, eIf, eaNil, eaCons, eTup, eLst, eYes, eChain, eCall, eCallF, eCallP, eCallL, eCallW, eCallWF, eIsi, eIsi2, isiD, isi2D, eLc, eLcF, eSeq, eRng1, eEnum, eRgo, egName, egTup, egNil, egCons, wipeE, forg, List.map_cons, List.map_nil, List.cons_append, List.nil_append, List.append_nil, List.getElem?_cons_zero, List.getElem?_cons_succ, List.set_cons_zero, List.set_cons_succ, List.length_cons, List.length_nil, if_true, if_false, Nat.reduceAdd, Nat.reduceSub, Nat.reduceLeDiff, Bool.false_eq_true, List.replicate, true_and, and_true, Bool.not_true, Bool.not_false, Nat.zero_add, Nat.add_zero, Nat.sub_zero]
  refine ne_N ?_
  rw [decide_eq_false h3]
  exact hk
theorem p_entry {N : List Nat} {e : Ent} {k : DK} (h : (e.1, e.2.1) ∈ pairsN N) (h0 : 0 < e.2.2) (hk : k (.bl true)) : d_is_entry [nNs N, dEn e] k := by
  unfold d_is_entry e_is_entry
  simp only [env0, env0L, knE, knF, sSeq, sAsg, sAsgF, sIf, sRet, sRetF, sRetM, sRetN, sDrop, sNext, sFor, sPar, sPar3, emE, emF, sKnow, sApp, sExt, eVar, eVarO, eC, eF, eOp, eOpF, eUn, eUnF, eB, eNotT, eAndT, eOrT, eAnd, eOr, eNot, eIf, eaNil, eaCons, eTup, eLst, eYes, eChain, eCall, eCallF, eCallP, eCallL, eCallW, eCallWF, eIsi, eIsi2, isiD, isi2D, eLc, eLcF, eSeq, eRng1, eEnum, eRgo, egName, egTup, egNil, egCons, wipeE, forg, List.map_cons, List.map_nil, List.cons_append, List.nil_append, List.append_nil, List.getElem?_cons_zero, List.getElem?_cons_succ, List.set_cons_zero, List.set_cons_succ, List.length_cons, List.length_nil, if_true, if_false, Nat.reduceAdd, Nat.reduceSub, Nat.reduceLeDiff, Bool.false_eq_true, List.replicate, true_and, and_true, Bool.not_true, Bool.not_false, Nat.zero_add, Nat.add_zero, Nat.sub_zero]
  refine ⟨"tuple", true, rfl, by decide +kernel, ?_⟩
  simp only [env0, env0L, knE, knF, sSeq, sAsg, sAsgF, sIf, sRet, sRetF, sRetM, sRetN, sDrop, sNext, sFor, sPar, sPar3, emE, emF, sKnow, sApp, sExt, eVar, eVarO, eC, eF, eOp, eOpF, eUn, eUnF, eB, eNotT, eAndT, eOrT, eAnd, eOr, eNot, eIf, eaNil, eaCons, eTup, eLst, eYes, eChain, eCall, eCallF, eCallP, eCallL, eCallW, eCallWF, eIsi, eIsi2, isiD, isi2D, eLc, eLcF, eSeq, eRng1, eEnum, eRgo, egName, egTup, egNil, egCons, wipeE, forg, List.map_cons, List.map_nil, List.cons_append, List.nil_append, List.append_nil, List.getElem?_cons_zero, List.getElem?_cons_succ, List.set_cons_zero, List.set_cons_succ, List.length_cons, List.length_nil, if_true, if_false, Nat.reduceAdd, Nat.reduceSub, Nat.reduceLeDiff, Bool.false_eq_true, List.replicate, true_and, and_true, Bool.not_true, Bool.not_false, Nat.zero_add, Nat.add_zero, Nat.sub_zero]
  refine (show lenD (.tup [nN e.1, nN e.2.1, nN e.2.2]) _ from ?_)
  simp only [lenD, List.length_cons, List.length_nil]
  refine DL.ne_int ?_
  rw [show decide (((0 + 1 + 1 + 1 : Nat) : Int) = 3) = true from rfl]
  simp only [env0, env0L, knE, knF, sSeq, sAsg, sAsgF, sIf, sRet, sRetF, sRetM, sRetN, sDrop, sNext, sFor, sPar, sPar3, emE, emF, sKnow, sApp, sExt, eVar, eVarO, eC, eF, eOp, eOpF, eUn, eUnF, eB, eNotT, eAndT, eOrT, eAnd, eOr, eNot, eIf, eaNil, eaCons, eTup, eLst, eYes, eChain, eCall, eCallF, eCallP, eCallL, eCallW, eCallWF, eIsi, eIsi2, isiD, isi2D, eLc, eLcF, eSeq, eRng1, eEnum, eRgo, egName, egTup, egNil, egCons, wipeE, forg, List.map_cons, List.map_nil, List.cons_append, List.nil_append, List.append_nil, List.getElem?_cons_zero, List.getElem?_cons_succ, List.set_cons_zero, List.set_cons_succ, List.length_cons, List.length_nil, if_true, if_false, Nat.reduceAdd, Nat.reduceSub, Nat.reduceLeDiff, Bool.false_eq_true, List.replicate, true_and, and_true, Bool.not_true, Bool.not_false, Nat.zero_add, Nat.add_zero, Nat.sub_zero]
  refine en0 (en1 (p_pair_of h ?_))
  simp only [env0, env0L, knE, knF, sSeq, sAsg, sAsgF, sIf, sRet, sRetF, sRetM, sRetN, sDrop, sNext, sFor, sPar, sPar3, emE, emF, sKnow, sApp, sExt, eVar, eVarO, eC, eF, eOp, eOpF, eUn, eUnF, eB, eNotT, eAndT, eOrT, eAnd, eOr, eNot, eIf, eaNil, eaCons, eTup, eLst, eYes, eChain, eCall, eCallF, eCallP, eCallL, eCallW, eCallWF, eIsi, eIsi2, isiD, isi2D, eLc, eLcF, eSeq, eRng1, eEnum, eRgo, egName, egTup, egNil, egCons, wipeE, forg, List.map_cons, List.map_nil, List.cons_append, List.nil_append, List.append_nil, List.getElem?_cons_zero, List.getElem?_cons_succ, List.set_cons_zero, List.set_cons_succ, List.length_cons, List.length_nil, if_true, if_false, Nat.reduceAdd, Nat.reduceSub, Nat.reduceLeDiff, Bool.false_eq_true, List.replicate, true_and, and_true, Bool.not_true, Bool.not_false, Nat.zero_add, Nat.add_zero, Nat.sub_zero]
  refine en2 (p_is_count ?_)
  simp only [env0, env0L, knE, knF, sSeq, sAsg, sAsgF, sIf, sRet, sRetF, sRetM, sRetN, sDrop, sNext, sFor, sPar, sPar3, emE, emF, sKnow, sApp, sExt, eVar, eVarO, eC, eF, eOp, eOpF, eUn, eUnF, eB, eNotT, eAndT, eOrT, eAnd, eOr, eNot, eIf, eaNil, eaCons, eTup, eLst, eYes, eChain, eCall, eCallF, eCallP, eCallL, eCallW, eCallWF, eIsi, eIsi2, isiD, isi2D, eLc, eLcF, eSeq, eRng1, eEnum, eRgo, egName, egTup, egNil, egCons, wipeE, forg, List.map_cons, List.map_nil, List.cons_append, List.nil_append, List.append_nil, List.getElem?_cons_zero, List.getElem?_cons_succ, List.set_cons_zero, List.set_cons_succ, List.length_cons, List.length_nil, if_true, if_false, Nat.reduceAdd, Nat.reduceSub, Nat.reduceLeDiff, Bool.false_eq_true, List.replicate, true_and, and_true, Bool.not_true, Bool.not_false, Nat.zero_add, Nat.add_zero, Nat.sub_zero]
  refine en2 ((show gtD (nN e.2.2) (nN 0) _ from gt_N ?_))
  rw [decide_eq_true h0]
  exact hk
theorem lt_prD {p q : Nat × Nat} {k : DK} (h : p.1 < q.1 ∨ (p.1 = q.1 ∧ p.2 < q.2)) (hk : k (.bl true)) : ltU (dPr p) (dPr q) k := by
  refine ⟨[(p.1 : Int), (p.2 : Int)], [(q.1 : Int), (q.2 : Int)], rfl, rfl, ?_⟩
  have e : HT.lexLt [(p.1 : Int), (p.2 : Int)] [(q.1 : Int), (q.2 : Int)] = true := by
    rw [HT.lexLt_cons, HT.lexLt_cons]
    rcases h with h | ⟨h1, h2⟩
    · rw [if_neg (by omega)]; exact decide_eq_true (by omega)
    · rw [if_pos (by rw [h1]), if_neg (by omega)]; exact decide_eq_true (by omega)
  rw [e]; exact hk
end K61
set_option Elab.async false
set_option linter.all false
set_option maxRecDepth 100000
set_option maxHeartbeats 1000000
namespace K61
open PySem PySem.Spec PyProof.Rows L2 DL PySem.W
open TM (Ent Ld Sm SmL c3 tsort addL others withinL carts okO GoodL pairsN)
theorem t_yes {ea : EE} {env : DL.Env} {k : Bool → Prop} (he : ∀ kk : DK, kk (.bl true) → ea env kk) (hk : k false) : eNotT (eB ea) env k := by
  unfold eNotT eB
  exact he _ hk
theorem t_or {e f : EB} {env : DL.Env} {k : Bool → Prop} {x y : Bool} (he : ∀ kk : Bool → Prop, kk x → e env kk) (hf : ∀ kk : Bool → Prop, kk y → f env kk) (hk : k (x || y)) : eOrT e f env k := by
  unfold eOrT
  refine he _ ?_
  cases x with
  | true => exact hk
  | false => exact hf _ hk
theorem rg_sub (n : Nat) : rgD ((n : Int) - 1) = (List.range (n - 1)).map fun (i : Nat) => D.int (i : Int) := by
  unfold rgD
  rw [show ((n : Int) - 1).toNat = n - 1 by omega]
theorem all_tt {α : Type} {l : List α} {k : DK} (hk : k (.bl true)) : allD (.lst (l.map fun _ => D.bl true)) k := by
  have e : l.map (fun _ => D.bl true) = (List.replicate l.length true).map D.bl := by rw [List.map_replicate, List.map_const']
  rw [e]
  refine all_lst ?_
  rw [show (List.replicate l.length true).all id = true by simp]
  exact hk
theorem c_load_of {row en : List D → DK → Prop} {N : D} {x : Bool × Ld} {K1 : Kn} (hrow : ∀ k : DK, k (.bl true) → row [dLt x] k) (hen : ∀ e ∈ x.2, ∀ k : DK, k (.bl true) → en [N, dEn e] k) (hl : x.2.length ≤ 1000) (hs : x.2.Pairwise TM.lt2) (hk : K1.rt (.bl true)) :
    (sSeq (sIf (eOrT (eNotT (eB (eCall 1 row (eaCons (eVar 1) eaNil)))) (eNotT (eB (eUn allD (eF (eLc (eSeq (eVar 1)) (egName 3) eYes (eCall 2 en (eaCons (eVar 0) (eaCons (eVar 3) eaNil))) [3])))))) (sRet (eC (.bl false))) sNext) (sSeq (sAsg (eF (eLc (eSeq (eVar 1)) (egTup 3 (egCons (egName 4) (egCons (egName 5) (egCons (egName 6) egNil)))) eYes (eTup (eaCons (eVar 4) (eaCons (eVar 5) eaNil))) [4, 5, 6])) (egName 2)) (sRet (eUn allD (eF (eLc (eRng1 (eOp subD (eUn lenD (eVar 2)) (eC (.int 1)))) (egName 7) eYes (eOp ltU (eOp ixD (eVar 2) (eVar 7)) (eOp ixD (eVar 2) (eOp addU (eVar 7) (eC (.int 1))))) [7]))))))
      [.val N, .val (dLt x), .un, .un, .un, .un, .un, .un] K1 := by
  simp only [sSeq, sIf]
  refine t_or (x := false) (y := false) (fun kk h => t_yes (fun kk h => And.intro rfl (hrow _ h)) h) (fun kk h => t_yes (fun kk h => ?_) h) ?_
  · unfold eUn eF eLc
    refine it_sq (t := x.1) (l := x.2.map dEn) (fun kk h => h) ?_
    refine And.intro (by rw [List.length_map]; omega) ?_
    refine lc_map (g := fun _ => D.bl true) (fun e he kk h => ?_) (all_tt h)
    exact And.intro rfl (hen e he _ h)
  · rw [if_neg (by decide)]
    simp only [sNext, sAsg, eF, eLc]
    refine it_sq (t := x.1) (l := x.2.map dEn) (fun kk h => h) ?_
    refine And.intro (by rw [List.length_map]; omega) ?_
    refine lc_map (g := fun e : Ent => dPr (e.1, e.2.1)) (fun e _ kk h => ?_) ?_
    · refine And.intro rfl ?_
      simp only [egCons, egNil, egName, List.set_cons_succ, List.set_cons_zero, true_and]
      exact And.intro (show 2 ≤ 100000 by decide) h
    · simp only [egName, List.set_cons_succ, List.set_cons_zero, sRet, eUn, eF, eLc, eRng1, eOp, eC, eVar, List.getElem?_cons_succ, List.getElem?_cons_zero]
      refine (show lenD (.lst (x.2.map fun e : Ent => dPr (e.1, e.2.1))) _ from ?_)
      simp only [lenD, List.length_map, subD, fI]
      refine And.intro (by omega) (And.intro (by omega) ?_)
      rw [rg_sub]
      refine And.intro (by simp; omega) ?_
      refine lc_map (g := fun _ => D.bl true) (fun i hi kk h => ?_) (all_tt hk)
      have hi := List.mem_range.mp hi
      have g1 : i < x.2.length := by omega
      have g2 : i + 1 < x.2.length := by omega
      simp only [env0, env0L, knE, knF, sSeq, sAsg, sAsgF, sIf, sRet, sRetF, sRetM, sRetN, sDrop, sNext, sFor, sPar, sPar3, emE, emF, sKnow, sApp, sExt, eVar, eVarO, eC, eF, eOp, eOpF, eUn, eUnF, eB, eNotT, eAndT, eOrT, eAnd, eOr, eNot, eIf, eaNil, eaCons, eTup, eLst, eYes, eChain, eCall, eCallF, eCallP, eCallL, eCallW, eCallWF, eIsi, eIsi2, isiD, isi2D, eLc, eLcF, eSeq, eRng1, eEnum, eRgo, egName, egTup, egNil, egCons, wipeE, forg, List.map_cons, List.map_nil, List.cons_append, List.nil_append, List.append_nil, List.getElem?_cons_zero, List.getElem?_cons_succ, List.set_cons_zero, List.set_cons_succ, List.length_cons, List.length_nil, if_true, if_false, Nat.reduceAdd, Nat.reduceSub, Nat.reduceLeDiff, Bool.false_eq_true, List.replicate, true_and, and_true, Bool.not_true, Bool.not_false, Nat.zero_add, Nat.add_zero, Nat.sub_zero]
      refine (show ixD (.lst (x.2.map fun e : Ent => dPr (e.1, e.2.1))) (nN i) _ from ix_lst (d := dPr (x.2[i].1, x.2[i].2.1)) (by rw [List.getElem?_map, List.getElem?_eq_getElem g1]; rfl) ?_)
      refine (show addU (nN i) (nN 1) _ from add_N ?_)
      refine (show ixD (.lst (x.2.map fun e : Ent => dPr (e.1, e.2.1))) (nN (i + 1)) _ from ix_lst (d := dPr (x.2[i + 1].1, x.2[i + 1].2.1)) (by rw [List.getElem?_map, List.getElem?_eq_getElem g2]; rfl) ?_)
      have := List.pairwise_iff_getElem.mp hs i (i + 1) g1 g2 (by omega)
      exact lt_prD this h
theorem p_load_of {N : List Nat} {x : Bool × Ld} {k : DK} (g : GoodL N x.2) (hl : x.2.length ≤ 1000) (hk : k (.bl true)) : d_is_load_of [nNs N, dLt x] k := by
  show e_is_load_of [.val (nNs N), .val (dLt x), .un, .un, .un, .un, .un, .un] (knE k)
  unfold e_is_load_of
  exact c_load_of (fun k h => p_row h) (fun e he k h => p_entry (g.pr e he) (g.pos e he) h) hl g.srt hk
theorem c_seen {row lo : List D → DK → Prop} {N : D} {o : Bool} {xs : List (Bool × Ld)} {K1 : Kn} (hrow : ∀ k : DK, k (.bl true) → row [dLs o xs] k) (hlo : ∀ x ∈ xs, ∀ k : DK, k (.bl true) → lo [N, dLt x] k) (hl : xs.length ≤ 12) (hk : K1.rt (.bl true)) :
    (sRet (eAnd (eCall 1 row (eaCons (eVar 1) eaNil)) (eAnd (eOp leD (eUn lenD (eVar 1)) (eC (.int 12))) (eUn allD (eF (eLc (eSeq (eVar 1)) (egName 2) eYes (eCall 2 lo (eaCons (eVar 0) (eaCons (eVar 2) eaNil))) [2]))))))
      [.val N, .val (dLs o xs), .un] K1 := by
  simp only [sRet, eAnd, eB, eOp, eUn, eC, eF, eLc]
  refine And.intro rfl (hrow _ ?_)
  simp only [if_true, eVar, List.getElem?_cons_succ, List.getElem?_cons_zero]
  refine (show lenD (sqL o (xs.map dLt)) _ from len_sq ?_)
  rw [List.length_map]
  refine (show leD (nN xs.length) (nN 12) _ from le_N ?_)
  rw [decide_eq_true hl]
  simp only [if_true]
  refine it_sq (t := o) (l := xs.map dLt) (fun kk h => h) ?_
  refine And.intro (by rw [List.length_map]; omega) ?_
  refine lc_map (g := fun _ => D.bl true) (fun e he kk h => ?_) (all_tt hk)
  exact And.intro rfl (hlo e he _ h)
theorem p_seen {N : List Nat} {o : Bool} {xs : List (Bool × Ld)} {k : DK} (g : ∀ x ∈ xs, GoodL N x.2 ∧ x.2.length ≤ 1000) (hl : xs.length ≤ 12) (hk : k (.bl true)) : d_are_seen [nNs N, dLs o xs] k := by
  show e_are_seen [.val (nNs N), .val (dLs o xs), .un] (knE k)
  unfold e_are_seen
  exact c_seen (fun k h => p_row h) (fun x hx k h => p_load_of (g x hx).1 (g x hx).2 h) hl hk
structure Gk.Ok (N : List Nat) (g : Gk) : Prop where
  k : KnOk N g.kn
  l1 : g.x1.length ≤ 12
  l2 : g.x2.length ≤ 12
theorem Gk.Ok.g1 {N : List Nat} {g : Gk} (o : g.Ok N) : ∀ x ∈ g.x1, GoodL N x.2 ∧ size x.2 ≤ g.pl := fun x hx => o.k.lg x.2 (List.mem_map.mpr ⟨x, hx, rfl⟩)
theorem Gk.Ok.g2 {N : List Nat} {g : Gk} (o : g.Ok N) : ∀ x ∈ g.x2, GoodL N x.2 ∧ size x.2 ≤ 100 ∧ surely g.kn x.2 = false := fun x hx => o.k.rg x.2 (List.mem_map.mpr ⟨x, hx, rfl⟩)
theorem Gk.Ok.sm {N : List Nat} {g : Gk} (o : g.Ok N) : g.Sm := by
  have p2 : g.pl ≤ 6 := o.k.p2
  refine ⟨by have := o.l1; omega, by have := o.l2; omega, fun x hx => ?_, fun x hx => ?_⟩
  · obtain ⟨a, b⟩ := o.g1 x hx
    have := len_size a
    exact ⟨by omega, good_unl a⟩
  · obtain ⟨a, b, _⟩ := o.g2 x hx
    have := len_size a
    exact ⟨by omega, good_unl a⟩
theorem c_known_of {ct se co su : List D → DK → Prop} {N : D} {g : Gk} {K1 : Kn} (hct : ∀ k : DK, k (.bl true) → ct [nN g.pl] k) (hs1 : ∀ k : DK, k (.bl true) → se [N, dLs g.o1 g.x1] k) (hs2 : ∀ k : DK, k (.bl true) → se [N, dLs g.o2 g.x2] k)
    (hco : ∀ x ∈ g.x1, ∀ k : DK, k (nN (size x.2)) → co [dLt x, .non, .non] k) (hsu : ∀ x ∈ g.x2, ∀ k : DK, k (.bl false) → su [g.d, dLt x] k) (p1 : 1 ≤ g.pl) (p2 : g.pl ≤ 6) (hz : ∀ x ∈ g.x1, size x.2 ≤ g.pl) (l1 : g.x1.length ≤ 1000) (l2 : g.x2.length ≤ 1000) (hk : K1.rt (.bl true)) :
    (sSeq (sIf (eOrT (eNotT (eB (eIsi "tuple" (eVar 1)))) (eB (eOp neD (eUn lenD (eVar 1)) (eC (.int 3))))) (sRet (eC (.bl false))) sNext) (sSeq (sAsg (eVar 1) (egTup 3 (egCons (egName 2) (egCons (egName 3) (egCons (egName 4) egNil))))) (sSeq (sIf (eOrT (eNotT (eB (eCall 1 ct (eaCons (eVar 2) eaNil)))) (eNotT (eB (eChain leD leD (eC (.int 1)) (eVar 2) (eC (.int 6)))))) (sRet (eC (.bl false))) sNext) (sSeq (sIf (eOrT (eNotT (eB (eCall 2 se (eaCons (eVar 0) (eaCons (eVar 3) eaNil))))) (eNotT (eB (eCall 2 se (eaCons (eVar 0) (eaCons (eVar 4) eaNil)))))) (sRet (eC (.bl false))) sNext) (sSeq (sIf (eB (eUn anyD (eF (eLc (eSeq (eVar 3)) (egName 5) eYes (eOp gtD (eCall 3 co (eaCons (eVar 5) (eaCons (eC .non) (eaCons (eC .non) eaNil)))) (eVar 2)) [5])))) (sRet (eC (.bl false))) sNext) (sRet (eNot (eUn anyD (eF (eLc (eSeq (eVar 4)) (egName 5) eYes (eCall 2 su (eaCons (eVar 1) (eaCons (eVar 5) eaNil))) [5]))))))))))
      [.val N, .val g.d, .un, .un, .un, .un] K1 := by
  simp only [sSeq, sIf]
  refine t_or (x := false) (y := false) (fun kk h => t_yes (fun kk h => ⟨"tuple", true, rfl, by decide +kernel, h⟩) h) (fun kk h => ?_) ?_
  · unfold eB eOp eUn eC eVar
    simp only [List.getElem?_cons_succ, List.getElem?_cons_zero]
    refine (show lenD (.tup [nN g.pl, dLs g.o1 g.x1, dLs g.o2 g.x2]) _ from ?_)
    simp only [lenD, List.length_cons, List.length_nil]
    refine DL.ne_int ?_
    rw [show decide (((0 + 1 + 1 + 1 : Nat) : Int) = 3) = true from rfl]
    exact h
  rw [if_neg (by decide)]
  refine And.intro rfl ?_
  simp only [sNext, egCons, egNil, egName, List.set_cons_succ, List.set_cons_zero, true_and]
  refine t_or (x := false) (y := false) (fun kk h => t_yes (fun kk h => And.intro rfl (hct _ h)) h) (fun kk h => t_yes (fun kk h => ?_) h) ?_
  · unfold eChain eC
    refine (show leD (nN 1) (nN g.pl) _ from le_N ?_)
    rw [decide_eq_true p1]
    refine (show leD (nN g.pl) (nN 6) _ from le_N ?_)
    rw [decide_eq_true p2]
    exact h
  rw [if_neg (by decide)]
  refine t_or (x := false) (y := false) (fun kk h => t_yes (fun kk h => And.intro rfl (hs1 _ h)) h) (fun kk h => t_yes (fun kk h => And.intro rfl (hs2 _ h)) h) ?_
  rw [if_neg (by decide)]
  have h3 : ∀ kk : Bool → Prop, kk false → eB (eUn anyD (eF (eLc (eSeq (eVar 3)) (egName 5) eYes (eOp gtD (eCall 3 co (eaCons (eVar 5) (eaCons (eC .non) (eaCons (eC .non) eaNil)))) (eVar 2)) [5]))) [.val N, .val g.d, .val (nN g.pl), .val (dLs g.o1 g.x1), .val (dLs g.o2 g.x2), .un] kk := fun kk h => by
    unfold eB eUn eF eLc
    refine it_sq (t := g.o1) (l := g.x1.map dLt) (fun kk h => h) ?_
    refine And.intro (by rw [List.length_map]; omega) ?_
    refine lc_map (g := fun x : Bool × Ld => D.bl (decide (g.pl < size x.2))) (fun x hx kk h => ?_) (any_map ?_)
    · refine And.intro rfl (hco x hx _ ?_)
      exact (show gtD (nN (size x.2)) (nN g.pl) _ from gt_N h)
    · have : (g.x1.any fun x => decide (g.pl < size x.2)) = false := by
        rw [List.any_eq_false]
        intro x hx h
        have := hz x hx
        have := of_decide_eq_true h
        omega
      rw [this]; exact h
  refine h3 _ ?_
  rw [if_neg (by decide)]
  simp only [sRet, eNot, eB, eUn, eF, eLc]
  refine it_sq (t := g.o2) (l := g.x2.map dLt) (fun kk h => h) ?_
  refine And.intro (by rw [List.length_map]; omega) ?_
  refine lc_map (g := fun x : Bool × Ld => D.bl false) (fun x hx kk h => And.intro rfl (hsu x hx _ h)) (any_map (p := fun _ => false) ?_)
  rw [show (g.x2.any fun _ => false) = false by simp]
  exact hk
theorem p_known_of {N : List Nat} {g : Gk} {k : DK} (o : g.Ok N) (hk : k (.bl true)) : d_is_known_of [nNs N, g.d] k := by
  show e_is_known_of [.val (nNs N), .val g.d, .un, .un, .un, .un] (knE k)
  unfold e_is_known_of
  have p2 : g.pl ≤ 6 := o.k.p2
  have sm := o.sm
  exact c_known_of (fun k h => p_is_count h) (fun k h => p_seen (fun x hx => ⟨(o.g1 x hx).1, (sm.k1 x hx).1⟩) o.l1 h) (fun k h => p_seen (fun x hx => ⟨(o.g2 x hx).1, (sm.k2 x hx).1⟩) o.l2 h)
    (fun x hx k h => p_carts (o := none) (t := none) (by have := (sm.k1 x hx).1; omega) h) (fun x hx k h => p_surely sm (sm.k2 x hx) (by rw [(o.g2 x hx).2.2]; exact h)) o.k.p1 p2 (fun x hx => (o.g1 x hx).2) sm.l1 sm.l2 hk
end K61
set_option Elab.async false
set_option linter.all false
set_option maxRecDepth 100000
set_option maxHeartbeats 1000000
namespace K61
open PySem PySem.Spec PyProof.Rows L2 DL PySem.W
open TM (Ent Ld Sm SmL c3 tsort addL others withinL carts okO GoodL pairsN standP withP put standsB sm6 adj)
end K61
set_option Elab.async false
set_option linter.all false
set_option maxRecDepth 100000
set_option maxHeartbeats 1000000
namespace K61
open PySem PySem.Spec PyProof.Rows L2 DL PySem.W
open TM (Ent Ld Sm SmL c3 tsort addL others withinL carts okO GoodL pairsN standP withP put standsB sm6 adj)
end K61
set_option Elab.async false
set_option linter.all false
set_option maxRecDepth 100000
set_option maxHeartbeats 1000000
namespace K61
open PySem PySem.Spec PyProof.Rows L2 DL PySem.W
open TM (Ent Ld Sm SmL c3 tsort addL others withinL carts okO GoodL pairsN standP withP put standsB sm6 adj)
def plugD : Option (Ld × Nat) → D
  | none => .non
  | some r => .tup [dLd r.1, nN r.2]
end K61
set_option Elab.async false
set_option linter.all false
set_option maxRecDepth 100000
set_option maxHeartbeats 1000000
namespace K61
open PySem PySem.Spec PyProof.Rows L2 DL PySem.W
open TM (Ent Ld Sm SmL c3 tsort addL others withinL carts okO GoodL pairsN standP withP put standsB sm6 adj)
structure NOk (L : TM.Lanes) (y : Nat) (N : List Nat) : Prop where
  yl : y < L.length + 1
  ad : adj L y = N
  len : N.length ≤ 3
  lt : N.Pairwise (· < ·)
  sm : ∀ x ∈ N, x < 1024
theorem NOk.nb {L : TM.Lanes} {y : Nat} {N : List Nat} (h : NOk L y N) {k : List D → Prop} (hk : k (DL.dNs N)) : b_neighbours [.ob (.cty L), nN y] k := ⟨L, y, rfl, h.yl, by rw [h.ad]; exact hk⟩
theorem pairs_len (N : List Nat) : (pairsN N).length ≤ N.length * N.length := by
  have go : ∀ M : List Nat, (M.flatMap fun o => (N.filter fun t => !decide (o = t)).map fun t => (o, t)).length ≤ M.length * N.length := fun M => by
    induction M with
    | nil => simp
    | cons a M ih =>
      rw [List.flatMap_cons, List.length_append, List.length_map, List.length_cons, Nat.succ_mul]
      have := List.length_filter_le (fun t => !decide (a = t)) N
      omega
  exact go N
section
variable {L : TM.Lanes} {y g : Nat} {N : List Nat} {gk : Gk}
theorem few_ok {x : Bool × Ld} (g : GoodL N x.2) (h : size x.2 ≤ 900) : Okx x := ⟨by have := len_size g; omega, good_unl g⟩
end
end K61
set_option Elab.async false
set_option linter.all false
set_option maxRecDepth 100000
set_option maxHeartbeats 1000000
namespace K61
open PySem PySem.Spec PyProof.Rows L2 DL PySem.W
open TM (Ent Ld Sm SmL c3 tsort addL others withinL carts okO GoodL pairsN standP withP put standsB sm6 adj)
end K61
set_option Elab.async false
set_option linter.all false
set_option maxRecDepth 100000
set_option maxHeartbeats 1000000
namespace K61
open PySem PySem.Spec PyProof.Rows L2 DL PySem.W
open TM (Ent Ld Sm SmL c3 tsort addL others withinL carts okO GoodL pairsN standP withP put standsB sm6 adj yardsL)
section
variable {L : TM.Lanes} {y g : Nat} {N : List Nat} {gk : Gk}
end
structure Ctx (L : TM.Lanes) (ys : List Nat) (ks : List Gk) : Prop where
  yd : yardsL L = ys
  len : ks.length = ys.length
  few : ys.length ≤ 100
  ok : ∀ (i y : Nat) (gk : Gk), ys[i]? = some y → ks[i]? = some gk → NOk L y (adj L y) ∧ gk.Ok (adj L y)
theorem y_yards {L : TM.Lanes} {ys : List Nat} (h : yardsL L = ys) {k : List D → Prop} (hk : k (DL.dNs ys)) : b_yards [.ob (.cty L)] k := ⟨L, rfl, by rw [h]; exact hk⟩
section
variable {L : TM.Lanes} {ys : List Nat} {ks : List Gk} {y g : Nat} {gk : Gk}
theorem p_is_yard {k : DK} (hy : yardsL L = ys) (h : y ∈ ys) (hk : k (.bl true)) : d_is_yard [.ob (.cty L), nN y] k := by
  have main : ∀ {ct : List D → DK → Prop}, (∀ k : DK, k (.bl true) → ct [nN y] k) → (sRet (eAnd (eCall 1 ct (eaCons (eVar 1) eaNil)) (eOp (inD false) (eVar 1) (eF (ePropF isCty b_yards (eVar 0)))))) [.val (.ob (.cty L)), .val (nN y)] (knE k) := fun {ct} hc => by
    refine And.intro rfl (hc _ ?_)
    refine And.intro rfl (y_yards hy ?_)
    refine (show inD false (nN y) (sqL false (ys.map nN)) _ from in_N ?_)
    rw [if_neg (by decide), decide_eq_true h]
    exact hk
  show e_is_yard [.val (.ob (.cty L)), .val (nN y)] (knE k)
  unfold e_is_yard
  exact main fun k h => p_is_count h
theorem p_check_yard {k : DK} (hy : yardsL L = ys) (h : y ∈ ys) (hk : k .non) : d_check_yard [.ob (.cty L), nN y] k := by
  have main : ∀ {iy : List D → DK → Prop}, (∀ k : DK, k (.bl true) → iy [.ob (.cty L), nN y] k) → (sIf (eNotT (eB (eCall 2 iy (eaCons (eVar 0) (eaCons (eVar 1) eaNil))))) sNever sNext) [.val (.ob (.cty L)), .val (nN y)] (knE k) := fun {iy} hc => And.intro rfl (hc _ hk)
  show e_check_yard [.val (.ob (.cty L)), .val (nN y)] (knE k)
  unfold e_check_yard
  exact main fun k hh => p_is_yard hy h hh
theorem b_check {k : DK} (hk : k .non) : b_checkC [.ob (.cty L)] k := ⟨L, rfl, hk⟩
structure Sd (L : TM.Lanes) (ys : List Nat) (ks : List Gk) (i y g : Nat) (gk : Gk) : Prop where
  y_ : ys[i]? = some y
  k_ : ks[i]? = some gk
  g_ : g ∈ adj L y
  gy : g ∈ ys
  ix : ys.idxOf y = i
end
end K61
set_option Elab.async false
set_option linter.all false
set_option maxRecDepth 100000
set_option maxHeartbeats 1000000
namespace K61
open PySem PySem.Spec PyProof.Rows L2 DL PySem.W
open TM (Ent Ld Sm SmL c3 tsort addL others withinL carts okO GoodL pairsN standP withP put standsB sm6 adj yardsL isort)
theorem dr {m : Nat} {k : DK} (h0 : 0 < m) (hm : m ≤ 1000) (h : ∀ d, d < m → k (nN d)) : b_draw [nN m] k := ⟨m, rfl, h0, hm, h⟩
theorem p_pick {α : Type} {g : α → D} {l : List α} {k : DK} (hl : 0 < l.length) (hn : l.length ≤ 1000) (hk : ∀ a ∈ l, k (g a)) : d_l_pick [.lst (l.map g)] k := by
  show e_l_pick [SV.pot, .val (.lst (l.map g))] (knE k)
  unfold e_l_pick
  refine And.intro rfl (And.intro rfl ⟨l.length, by show [D.int ((l.map g).length : Int)] = _; rw [List.length_map], hl, hn, fun d hd => ?_⟩)
  exact ix_lst (i := d) (d := g l[d]) (by rw [List.getElem?_map, List.getElem?_eq_getElem hd]; rfl) (hk _ (List.getElem_mem hd))
theorem oLe_nat {a b : Nat} : oLe (nN a) (nN b) = decide (a ≤ b) := by
  rw [oLe_eq]
  have e : dataLt (toPy (nN b)) (toPy (nN a)) = decide (b < a) := by
    unfold dataLt
    simp only [toPy, keyToks]
    by_cases h : b = a
    · refine (tk_eq h).trans ?_
      rw [tk_same]
      exact (decide_eq_false (by omega)).symm
    · exact tk_ne h
  rw [e, ← decide_not]
  exact decide_eq_decide.mpr (by omega)
theorem py_nn : ∀ l : List Nat, isPys (l.map nN) = true
  | [] => rfl
  | q :: s => by
    have := py_nn s
    simp only [List.map_cons, isPys, isPy, this, Bool.and_self]
theorem sort_natD {l : List Nat} {k : List D → Prop} (hk : k (DL.dNs (isort l))) : sortF (.lst (l.map nN)) k := by
  refine And.intro ⟨py_nn l, fun x hx y hy => ?_, .inr fun d hd => ?_, fun b hb => ?_⟩ ?_
  · obtain ⟨a, ha, rfl⟩ := List.mem_map.mp hx
    obtain ⟨s, _, rfl⟩ := List.mem_map.mp ha
    obtain ⟨b, hb, rfl⟩ := List.mem_map.mp hy
    obtain ⟨t, _, rfl⟩ := List.mem_map.mp hb
    simp only [toPy, alike]
  · obtain ⟨a, ha, rfl⟩ := List.mem_map.mp hd
    obtain ⟨s, _, rfl⟩ := List.mem_map.mp ha
    exact ⟨fun e => (nomatch e), fun xs e => (nomatch e)⟩
  · obtain ⟨s, _, rfl⟩ := List.mem_map.mp hb
    exact Nat.zero_le _
  · have e : (l.map nN).mergeSort oLe = (isort l).map nN := by
      refine sort_uniq oLe_total (fun a ha b hb h1 h2 => ?_) ((TM.isort_perm l).map _) ?_
      · obtain ⟨x, _, rfl⟩ := List.mem_map.mp ha
        obtain ⟨z, _, rfl⟩ := List.mem_map.mp hb
        rw [oLe_nat] at h1 h2
        have h1 := of_decide_eq_true h1
        have h2 := of_decide_eq_true h2
        rw [show x = z by omega]
      · rw [List.pairwise_map]
        exact (TM.isort_sorted l).imp fun {a b} h => by rw [oLe_nat]; exact decide_eq_true h
    show k ((l.map nN).mergeSort oLe)
    rw [e]; exact hk
def lnD (L : TM.Lanes) : D := .lst (L.map dPr)
theorem p_beside {L : TM.Lanes} {i : Nat} {k : List D → Prop} (hL : L.length ≤ 1000) (hk : k (DL.dNs (adj L i))) : d_l_beside [lnD L, nN i] k := by
  show e_l_beside [.val (lnD L), .val (nN i), .un, .un] (knF k)
  unfold e_l_beside
  refine And.intro (by rw [List.length_map]; omega) ?_
  refine lc_filter (p := fun p : Nat × Nat => decide (p.1 = i)) (g := fun p => nN p.2) (fun p _ kk h => ?_) ?_
  · refine And.intro rfl ?_
    simp only [egCons, egNil, egName, List.set_cons_succ, List.set_cons_zero, true_and]
    simp only [env0, env0L, knE, knF, sSeq, sAsg, sAsgF, sIf, sRet, sRetF, sRetM, sRetN, sDrop, sNext, sFor, sPar, sPar3, emE, emF, sKnow, sApp, sExt, eVar, eVarO, eC, eF, eOp, eOpF, eUn, eUnF, eB, eNotT, eAndT, eOrT, eAnd, eOr, eNot, eIf, eaNil, eaCons, eTup, eLst, eYes, eChain, eCall, eCallF, eCallP, eCallL, eCallW, eCallWF, eIsi, eIsi2, isiD, isi2D, eLc, eLcF, eSeq, eRng1, eEnum, eRgo, egName, egTup, egNil, egCons, wipeE, forg, List.map_cons, List.map_nil, List.cons_append, List.nil_append, List.append_nil, List.getElem?_cons_zero, List.getElem?_cons_succ, List.set_cons_zero, List.set_cons_succ, List.length_cons, List.length_nil, if_true, if_false, Nat.reduceAdd, Nat.reduceSub, Nat.reduceLeDiff, Bool.false_eq_true, List.replicate, true_and, and_true, Bool.not_true, Bool.not_false, Nat.zero_add, Nat.add_zero, Nat.sub_zero]
    refine eq_N ?_
    cases z : decide (p.1 = i) with
    | true => rw [z] at h; exact h
    | false => rw [z] at h; exact h
  refine And.intro (by rw [List.length_map]; omega) ?_
  refine lc_filter (p := fun p : Nat × Nat => decide (p.2 = i)) (g := fun p => nN p.1) (fun p _ kk h => ?_) ?_
  · refine And.intro rfl ?_
    simp only [egCons, egNil, egName, List.set_cons_succ, List.set_cons_zero, true_and]
    simp only [env0, env0L, knE, knF, sSeq, sAsg, sAsgF, sIf, sRet, sRetF, sRetM, sRetN, sDrop, sNext, sFor, sPar, sPar3, emE, emF, sKnow, sApp, sExt, eVar, eVarO, eC, eF, eOp, eOpF, eUn, eUnF, eB, eNotT, eAndT, eOrT, eAnd, eOr, eNot, eIf, eaNil, eaCons, eTup, eLst, eYes, eChain, eCall, eCallF, eCallP, eCallL, eCallW, eCallWF, eIsi, eIsi2, isiD, isi2D, eLc, eLcF, eSeq, eRng1, eEnum, eRgo, egName, egTup, egNil, egCons, wipeE, forg, List.map_cons, List.map_nil, List.cons_append, List.nil_append, List.append_nil, List.getElem?_cons_zero, List.getElem?_cons_succ, List.set_cons_zero, List.set_cons_succ, List.length_cons, List.length_nil, if_true, if_false, Nat.reduceAdd, Nat.reduceSub, Nat.reduceLeDiff, Bool.false_eq_true, List.replicate, true_and, and_true, Bool.not_true, Bool.not_false, Nat.zero_add, Nat.add_zero, Nat.sub_zero]
    refine eq_N ?_
    cases z : decide (p.2 = i) with
    | true => rw [z] at h; exact h
    | false => rw [z] at h; exact h
  have l1 := List.length_filter_le (fun p : Nat × Nat => decide (p.1 = i)) L
  have l2 := List.length_filter_le (fun p : Nat × Nat => decide (p.2 = i)) L
  refine And.intro (by rw [List.length_map, List.length_map]; omega) ?_
  have e : (L.filter fun p : Nat × Nat => decide (p.1 = i)).map (fun p => nN p.2) ++ (L.filter fun p : Nat × Nat => decide (p.2 = i)).map (fun p => nN p.1) = (TM.nb L i).map nN := by
    unfold TM.nb TM.out TM.inn
    rw [List.map_append, List.map_map, List.map_map]
    rfl
  rw [e]
  exact sort_natD hk
theorem c_yards {be : List D → (List D → Prop) → Prop} {L : TM.Lanes} {K1 : Kn} (hL : L.length ≤ 1000) (hbe : ∀ i, ∀ k : List D → Prop, k (DL.dNs (adj L i)) → be [lnD L, nN i] k) (hk : K1.rf (DL.dNs (yardsL L))) :
    (sRetF (eLc (eRng1 (eOp addU (eUn lenD (eVar 0)) (eC (.int 1)))) (egName 1) (eB (eOp gtD (eUn lenD (eF (eCallF 2 be (eaCons (eVar 0) (eaCons (eVar 1) eaNil))))) (eC (.int 1)))) (eVar 1) [1]))
      [.val (lnD L), .un] K1 := by
  have e : ((L.map dPr).length : Int) + 1 = ((L.length + 1 : Nat) : Int) := by rw [List.length_map]; omega
  have m : (((L.map dPr).length : Int) + 1 ≤ 100000 ∧ -100000 ≤ ((L.map dPr).length : Int) + 1 ∧ ((rgD (((L.map dPr).length : Int) + 1)).length ≤ 100000 ∧ lcGo (eLcF (egName 1) (eB (eOp gtD (eUn lenD (eF (eCallF 2 be (eaCons (eVar 0) (eaCons (eVar 1) eaNil))))) (eC (.int 1)))) (eVar 1) [.val (lnD L), .un]) (rgD (((L.map dPr).length : Int) + 1)) K1.rf)) := by
    rw [e, rg_map]
    refine ⟨by omega, by omega, by simp; omega, lc_filter (p := fun i => decide (1 < (adj L i).length)) (g := nN) (fun i _ kk h => ?_) hk⟩
    simp only [eLcF, egName, List.set_cons_succ, List.set_cons_zero]
    unfold eB eOp eUn eF
    refine And.intro rfl (hbe i _ ?_)
    simp only [eC]
    refine (show lenD (sqL false ((adj L i).map nN)) _ from len_sq ?_)
    rw [List.length_map]
    refine (show gtD (nN (adj L i).length) (nN 1) _ from gt_N ?_)
    cases z : decide (1 < (adj L i).length) with
    | true => rw [z] at h; exact h
    | false => rw [z] at h; exact h
  exact m
theorem p_yards {L : TM.Lanes} {k : List D → Prop} (hL : L.length ≤ 1000) (hk : k (DL.dNs (yardsL L))) : d_l_yards [lnD L] k := by
  show e_l_yards [.val (lnD L), .un] (knF k)
  unfold e_l_yards
  exact c_yards hL (fun i k h => p_beside hL h) hk
theorem c_pairs {be : List D → (List D → Prop) → Prop} {L : TM.Lanes} {y : Nat} {N : List Nat} {K1 : Kn} (hN : N.length ≤ 30) (hbe : ∀ k : List D → Prop, k (DL.dNs N) → be [lnD L, nN y] k) (hk : K1.rf ((pairsN N).map dPr)) :
    (sSeq (sAsg (eF (eCallF 2 be (eaCons (eVar 0) (eaCons (eVar 1) eaNil)))) (egName 2)) (sSeq (sAsgF 3 (eLst eaNil)) (sSeq (sFor (eSeq (eVar 2)) (egName 4) (sExt 3 (eF (eLc (eSeq (eVar 2)) (egName 5) (eB (eOp neD (eVar 5) (eVar 4))) (eTup (eaCons (eVar 4) (eaCons (eVar 5) eaNil))) [5]))) [4]) (sRetM 3))))
      [.val (lnD L), .val (nN y), .un, .un, .un, .un] K1 := by
  refine And.intro rfl (hbe _ ?_)
  refine And.intro (show 0 ≤ 100000 by decide) ?_
  simp only [egName, List.set_cons_succ, List.set_cons_zero]
  refine (show forGo _ _ _ (N.map nN) _ _ from for_det (E := fun d => [.val (lnD L), .val (nN y), .val (nNs N), .ml ((d.flatMap fun o => (N.filter fun t => !decide (o = t)).map fun t => (o, t)).map dPr), .un, .un]) (done := []) (fun d o K' hn hv => ?_) hk)
  obtain ⟨v, hv⟩ := hv
  have hv : d ++ o :: v = N := hv
  have hd : d.length + 1 ≤ N.length := by rw [← hv]; simp
  simp only [egName, List.set_cons_succ, List.set_cons_zero]
  have m2 : (N.map nN).length ≤ 100000 ∧ lcGo (eLcF (egName 5) (eB (eOp neD (eVar 5) (eVar 4))) (eTup (eaCons (eVar 4) (eaCons (eVar 5) eaNil))) [.val (lnD L), .val (nN y), .val (nNs N), .ml ((d.flatMap fun o => (N.filter fun t => !decide (o = t)).map fun t => (o, t)).map dPr), .val (nN o), .un]) (N.map nN) fun l => ((d.flatMap fun o => (N.filter fun t => !decide (o = t)).map fun t => (o, t)).map dPr).length + l.length ≤ 100000 ∧ K'.nx [.val (lnD L), .val (nN y), .val (nNs N), .ml ((d.flatMap fun o => (N.filter fun t => !decide (o = t)).map fun t => (o, t)).map dPr ++ l), .val (nN o), .un] := by
    refine ⟨by rw [List.length_map]; omega, lc_filter (p := fun t => !decide (o = t)) (g := fun t => dPr (o, t)) (fun t _ kk h => ?_) ?_⟩
    · simp only [env0, env0L, knE, knF, sSeq, sAsg, sAsgF, sIf, sRet, sRetF, sRetM, sRetN, sDrop, sNext, sFor, sPar, sPar3, emE, emF, sKnow, sApp, sExt, eVar, eVarO, eC, eF, eOp, eOpF, eUn, eUnF, eB, eNotT, eAndT, eOrT, eAnd, eOr, eNot, eIf, eaNil, eaCons, eTup, eLst, eYes, eChain, eCall, eCallF, eCallP, eCallL, eCallW, eCallWF, eIsi, eIsi2, isiD, isi2D, eLc, eLcF, eSeq, eRng1, eEnum, eRgo, egName, egTup, egNil, egCons, wipeE, forg, List.map_cons, List.map_nil, List.cons_append, List.nil_append, List.append_nil, List.getElem?_cons_zero, List.getElem?_cons_succ, List.set_cons_zero, List.set_cons_succ, List.length_cons, List.length_nil, if_true, if_false, Nat.reduceAdd, Nat.reduceSub, Nat.reduceLeDiff, Bool.false_eq_true, List.replicate, true_and, and_true, Bool.not_true, Bool.not_false, Nat.zero_add, Nat.add_zero, Nat.sub_zero]
      refine ne_N ?_
      have : decide (t = o) = decide (o = t) := decide_eq_decide.mpr (by omega)
      rw [this]
      cases z : decide (o = t) with
      | true => rw [z] at h; exact h
      | false => rw [z] at h; exact h
    · have l1 := List.length_filter_le (fun t => !decide (o = t)) N
      have l2 := TM.flat_len (f := fun o => (N.filter fun t => !decide (o = t)).map fun t => (o, t)) (k := N.length) (l := d) fun x _ => by
        rw [List.length_map]; exact List.length_filter_le _ _
      have l3 : d.length * N.length ≤ 30 * 30 := Nat.mul_le_mul (by omega) hN
      refine And.intro (by rw [List.length_map, List.length_map]; omega) (hn _ ?_)
      simp only [forg, List.set_cons_succ, List.set_cons_zero]
      rw [List.flatMap_append, List.map_append]
      simp only [List.flatMap_cons, List.flatMap_nil, List.append_nil, List.map_map]
      rfl
  exact m2
theorem p_pairs {L : TM.Lanes} {y : Nat} {k : List D → Prop} (hL : L.length ≤ 1000) (hN : (adj L y).length ≤ 30) (hk : k ((pairsN (adj L y)).map dPr)) : d_l_pairs [lnD L, nN y] k := by
  show e_l_pairs [.val (lnD L), .val (nN y), .un, .un, .un, .un] (knF k)
  unfold e_l_pairs
  exact c_pairs hN (fun k h => p_beside hL h) hk
theorem p_many {x : Bool × Ld} {p : Nat × Nat} {k : DK} (hl : x.2.length ≤ 100000) (hk : k (nN (many x.2 p.1 p.2))) : d_l_many [dLt x, dPr p] k := by
  have main : (x.2.map dEn).length ≤ 100000 ∧ lcGo (eLcF (egTup 3 (egCons (egName 2) (egCons (egName 3) (egCons (egName 4) egNil)))) (eB (eOp eqD (eTup (eaCons (eVar 2) (eaCons (eVar 3) eaNil))) (eVar 1))) (eVar 4) [.val (dLt x), .val (dPr p), .un, .un, .un]) (x.2.map dEn) fun l => sumU (.lst l) k := by
    refine ⟨by rw [List.length_map]; exact hl, lc_filter (p := fun e : Ent => okO (some p.1) e.1 && okO (some p.2) e.2.1) (g := fun e => nN e.2.2) (fun e _ kk h => ?_) ?_⟩
    · unfold dEn
      refine And.intro rfl ?_
      simp only [egCons, egNil, egName, List.set_cons_succ, List.set_cons_zero, true_and]
      refine And.intro (show 2 ≤ 100000 by decide) ?_
      simp only [eVar, List.getElem?_cons_succ, List.getElem?_cons_zero]
      refine (show eqD (dPr (e.1, e.2.1)) (dPr p) _ from eq_pr ?_)
      have e1 : decide ((e.1, e.2.1) = p) = (okO (some p.1) e.1 && okO (some p.2) e.2.1) := by
        obtain ⟨a, b⟩ := p
        show decide ((e.1, e.2.1) = (a, b)) = (decide (a = e.1) && decide (b = e.2.1))
        rw [← Bool.decide_and]
        exact decide_eq_decide.mpr (by simp only [Prod.mk.injEq]; omega)
      rw [e1]
      cases z : (okO (some p.1) e.1 && okO (some p.2) e.2.1) with
      | true => rw [z] at h; exact h
      | false => rw [z] at h; exact h
    · have e : (x.2.filter fun e : Ent => okO (some p.1) e.1 && okO (some p.2) e.2.1).map (fun e => nN e.2.2) = ((x.2.filter fun e : Ent => okO (some p.1) e.1 && okO (some p.2) e.2.1).map fun e => e.2.2).map fun (n : Nat) => D.int (n : Int) := by rw [List.map_map]; rfl
      rw [e]
      exact sum_lst hk
  show e_l_many [.val (dLt x), .val (dPr p), .un, .un, .un] (knE k)
  unfold e_l_many
  obtain ⟨t', l⟩ := x
  cases t' with
  | true => exact main
  | false => exact main
theorem p_size {x : Bool × Ld} {k : DK} (hl : x.2.length ≤ 100000) (hk : k (nN (size x.2))) : d_l_size [dLt x] k := by
  have main : (x.2.map dEn).length ≤ 100000 ∧ lcGo (eLcF (egTup 3 (egCons (egName 1) (egCons (egName 2) (egCons (egName 3) egNil)))) eYes (eVar 3) [.val (dLt x), .un, .un, .un]) (x.2.map dEn) fun l => sumU (.lst l) k := by
    refine ⟨by rw [List.length_map]; exact hl, lc_map (g := fun e : Ent => nN e.2.2) (fun e _ kk h => ?_) ?_⟩
    · unfold dEn
      refine And.intro rfl ?_
      simp only [egCons, egNil, egName, List.set_cons_succ, List.set_cons_zero, true_and]
      exact h
    · have e : x.2.map (fun e : Ent => nN e.2.2) = (x.2.map fun e => e.2.2).map fun (n : Nat) => D.int (n : Int) := by rw [List.map_map]; rfl
      rw [e]
      refine sum_lst ?_
      have e2 : (x.2.map fun e => e.2.2).sum = size x.2 := by
        unfold size carts
        have : (x.2.filter fun e : Ent => okO none e.1 && okO none e.2.1) = x.2 := List.filter_eq_self.mpr fun _ _ => rfl
        rw [this]
      rw [e2]; exact hk
  show e_l_size [.val (dLt x), .un, .un, .un] (knE k)
  unfold e_l_size
  obtain ⟨t', l⟩ := x
  cases t' with
  | true => exact main
  | false => exact main
end K61
set_option Elab.async false
set_option linter.all false
set_option maxRecDepth 100000
set_option maxHeartbeats 1000000
namespace K61
open PySem PySem.Spec PyProof.Rows L2 DL PySem.W
open TM (Ent Ld Sm SmL c3 tsort addL others withinL carts okO GoodL pairsN standP withP put standsB sm6 adj yardsL isort)
theorem lt_N {a c : Nat} {k : DK} (hk : k (.bl (decide (a < c)))) : ltU (nN a) (nN c) k := by
  show k (.bl (decide ((a : Int) < (c : Int))))
  rw [show decide ((a : Int) < (c : Int)) = decide (a < c) from decide_eq_decide.mpr (by omega)]
  exact hk
theorem c_plus {ma : List D → DK → Prop} {l : Ld} {p : Nat × Nat} {K1 : Kn} (hl : l.length ≤ 90000) (hma : ∀ k : DK, k (nN (many l p.1 p.2)) → ma [dLd l, dPr p] k) (sm : SmL (others l p.1 p.2 ++ [(p.1, p.2, many l p.1 p.2 + 1)])) (hk : K1.rf ((addL l p.1 p.2).map dEn)) :
    (sSeq (sAsg (eF (eLc (eSeq (eVar 0)) (egName 3) (eB (eOp neD (eTup (eaCons (eOp ixD (eVar 3) (eC (.int 0))) (eaCons (eOp ixD (eVar 3) (eC (.int 1))) eaNil))) (eVar 1))) (eVar 3) [3])) (egName 2)) (sRetF (eUnF sortF (eOp addU (eVar 2) (eF (eLst (eaCons (eTup (eaCons (eOp ixD (eVar 1) (eC (.int 0))) (eaCons (eOp ixD (eVar 1) (eC (.int 1))) (eaCons (eOp addU (eCall 2 ma (eaCons (eVar 0) (eaCons (eVar 1) eaNil))) (eC (.int 1))) eaNil)))) eaNil)))))))
      [.val (dLd l), .val (dPr p), .un, .un] K1 := by
  refine And.intro (by rw [List.length_map]; omega) ?_
  refine lc_filter (p := fun e : Ent => !(decide (e.1 = p.1) && decide (e.2.1 = p.2))) (g := dEn) (fun e _ kk h => ?_) ?_
  · simp only [eLcF, egName, List.set_cons_succ, List.set_cons_zero]
    have test : ∀ k3 : Bool → Prop, k3 (!(decide (e.1 = p.1) && decide (e.2.1 = p.2))) → eB (eOp neD (eTup (eaCons (eOp ixD (eVar 3) (eC (.int 0))) (eaCons (eOp ixD (eVar 3) (eC (.int 1))) eaNil))) (eVar 1)) [.val (dLd l), .val (dPr p), .un, .val (dEn e)] k3 := fun k3 h3 => by
      unfold eB eOp
      refine en0 (en1 (And.intro (show 2 ≤ 100000 by decide) ?_))
      simp only [eVar, List.getElem?_cons_succ, List.getElem?_cons_zero]
      refine (show neD (dPr (e.1, e.2.1)) (dPr p) _ from ne_pr ?_)
      have e1 : decide ((e.1, e.2.1) = p) = (decide (e.1 = p.1) && decide (e.2.1 = p.2)) := by
        obtain ⟨a, b⟩ := p
        rw [← Bool.decide_and]
        exact decide_eq_decide.mpr (by simp only [Prod.mk.injEq])
      rw [e1]; exact h3
    refine test _ ?_
    cases z : (decide (e.1 = p.1) && decide (e.2.1 = p.2)) with
    | true => rw [z] at h; exact h
    | false => rw [z] at h; exact h
  · simp only [egName, List.set_cons_succ, List.set_cons_zero, sRetF, eUnF]
    have arg : ∀ k3 : DK, k3 (.lst ((others l p.1 p.2).map dEn ++ [D.tup [nN p.1, nN p.2, nN (many l p.1 p.2 + 1)]])) → (eOp addU (eVar 2) (eF (eLst (eaCons (eTup (eaCons (eOp ixD (eVar 1) (eC (.int 0))) (eaCons (eOp ixD (eVar 1) (eC (.int 1))) (eaCons (eOp addU (eCall 2 ma (eaCons (eVar 0) (eaCons (eVar 1) eaNil))) (eC (.int 1))) eaNil)))) eaNil)))) [.val (dLd l), .val (dPr p), .val (.lst ((others l p.1 p.2).map dEn)), .un] k3 := fun k3 h3 => by
      unfold eOp eF
      refine (show ixD (dPr p) (nN 0) _ from ix_tup (i := 0) (d := nN p.1) rfl ?_)
      refine (show ixD (dPr p) (nN 1) _ from ix_tup (i := 1) (d := nN p.2) rfl ?_)
      refine And.intro rfl (hma _ ?_)
      simp only [eC]
      refine (show addU (nN (many l p.1 p.2)) (nN 1) _ from add_N ?_)
      refine And.intro (show 3 ≤ 100000 by decide) (And.intro (show 1 ≤ 100000 by decide) ?_)
      have hlen := (TM.others_sub l p.1 p.2).length_le
      exact And.intro (by rw [List.length_map]; show (others l p.1 p.2).length + 1 ≤ 100000; omega) h3
    refine arg _ ?_
    have e2 : (others l p.1 p.2).map dEn ++ [D.tup [nN p.1, nN p.2, nN (many l p.1 p.2 + 1)]] = (others l p.1 p.2 ++ [(p.1, p.2, many l p.1 p.2 + 1)]).map dEn := by rw [List.map_append]; rfl
    rw [e2]
    exact sort_ens sm hk
theorem p_plus {l : Ld} {p : Nat × Nat} {k : List D → Prop} (hl : l.length ≤ 90000) (sm : SmL (others l p.1 p.2 ++ [(p.1, p.2, many l p.1 p.2 + 1)])) (hk : k ((addL l p.1 p.2).map dEn)) : d_l_plus [dLd l, dPr p] k := by
  show e_l_plus [.val (dLd l), .val (dPr p), .un, .un] (knF k)
  unfold e_l_plus
  exact c_plus hl (fun k h => (show d_l_many [dLt (false, l), dPr p] k from p_many (by show l.length ≤ 100000; omega) h)) sm hk
theorem p_plusG {N : List Nat} (sN : ∀ x ∈ N, x < 1024) {l : Ld} (g : GoodL N l) (hs : size l ≤ 900) {p : Nat × Nat} (hp : p ∈ pairsN N) {k : List D → Prop} (hk : k ((addL l p.1 p.2).map dEn)) : d_l_plus [dLd l, dPr p] k :=
  p_plus (by have := len_size g; omega) (sm_add sN g (by omega) hp) hk
theorem c_most {ma : List D → DK → Prop} {x y : Bool × Ld} {K1 : Kn} (hx : x.2.length ≤ 100000) (hma : ∀ o t, ∀ k : DK, k (nN (many y.2 o t)) → ma [dLt y, dPr (o, t)] k) (hk : K1.rt (.bl (withinL x.2 y.2))) :
    (sRet (eUn allD (eF (eLc (eSeq (eVar 0)) (egTup 3 (egCons (egName 2) (egCons (egName 3) (egCons (egName 4) egNil)))) eYes (eOp leD (eVar 4) (eCall 2 ma (eaCons (eVar 1) (eaCons (eTup (eaCons (eVar 2) (eaCons (eVar 3) eaNil))) eaNil)))) [2, 3, 4]))))
      [.val (dLt x), .val (dLt y), .un, .un, .un] K1 := by
  simp only [sRet, eUn, eF, eLc]
  refine it_sq (t := x.1) (l := x.2.map dEn) (fun kk h => h) ?_
  refine And.intro (by rw [List.length_map]; omega) ?_
  refine lc_map (g := fun e : Ent => D.bl (decide (e.2.2 ≤ carts y.2 (some e.1) (some e.2.1)))) (fun e _ kk h => ?_) ?_
  · refine And.intro rfl ?_
    simp only [egCons, egNil, egName, List.set_cons_succ, List.set_cons_zero, true_and]
    refine And.intro (show 2 ≤ 100000 by decide) ?_
    refine And.intro rfl (hma e.1 e.2.1 _ ?_)
    exact (show leD (nN e.2.2) (nN _) _ from le_N h)
  · have e : x.2.map (fun e : Ent => D.bl (decide (e.2.2 ≤ carts y.2 (some e.1) (some e.2.1)))) = (x.2.map fun e => decide (e.2.2 ≤ carts y.2 (some e.1) (some e.2.1))).map D.bl := by rw [List.map_map]; rfl
    rw [e]
    refine all_lst ?_
    rw [List.all_map]
    exact hk
theorem p_most {x y : Bool × Ld} {k : DK} (hx : x.2.length ≤ 100000) (hy : y.2.length ≤ 100000) (hk : k (.bl (withinL x.2 y.2))) : d_l_is_most [dLt x, dLt y] k := by
  show e_l_is_most [.val (dLt x), .val (dLt y), .un, .un, .un] (knE k)
  unfold e_l_is_most
  exact c_most hx (fun o t k h => p_many hy h) hk
def sureD (kn : Knw) (l : Ld) : D := if surely kn l = true then .bl true else if refd kn l = true then .bl false else .non
theorem c_sure {sz mo : List D → DK → Prop} {g : Gk} {x : Bool × Ld} {K1 : Kn} (hg : g.Sm) (hsz : ∀ k : DK, k (nN (size x.2)) → sz [dLt x] k) (hm1 : ∀ y ∈ g.x1, ∀ k : DK, k (.bl (withinL x.2 y.2)) → mo [dLt x, dLt y] k) (hm2 : ∀ y ∈ g.x2, ∀ k : DK, k (.bl (withinL y.2 x.2)) → mo [dLt y, dLt x] k) (hk : K1.rt (sureD g.kn x.2)) :
    (sSeq (sAsg (eVar 0) (egTup 3 (egCons (egName 2) (egCons (egName 3) (egCons (egName 4) egNil))))) (sSeq (sIf (eOrT (eB (eOp ltU (eCall 1 sz (eaCons (eVar 1) eaNil)) (eC (.int 2)))) (eB (eUn anyD (eF (eLc (eSeq (eVar 3)) (egName 5) eYes (eCall 2 mo (eaCons (eVar 1) (eaCons (eVar 5) eaNil))) [5]))))) (sRet (eC (.bl true))) sNext) (sRet (eIf (eOrT (eB (eOp gtD (eCall 1 sz (eaCons (eVar 1) eaNil)) (eVar 2))) (eB (eUn anyD (eF (eLc (eSeq (eVar 4)) (egName 5) eYes (eCall 2 mo (eaCons (eVar 5) (eaCons (eVar 1) eaNil))) [5]))))) (eC (.bl false)) (eC .non)))))
      [.val g.d, .val (dLt x), .un, .un, .un, .un] K1 := by
  have e1 : surely g.kn x.2 = (decide (size x.2 < 2) || g.x1.any fun y => withinL x.2 y.2) := by
    unfold surely Gk.kn
    rw [List.any_map, show decide (size x.2 ≤ 1) = decide (size x.2 < 2) from decide_eq_decide.mpr (by omega)]
    rfl
  have e2 : refd g.kn x.2 = (decide (g.pl < size x.2) || g.x2.any fun y => withinL y.2 x.2) := by
    unfold refd Gk.kn
    rw [List.any_map]
    rfl
  unfold sureD at hk
  refine And.intro rfl ?_
  simp only [egCons, egNil, egName, List.set_cons_succ, List.set_cons_zero, true_and, sSeq, sIf]
  refine t_or (x := decide (size x.2 < 2)) (y := g.x1.any fun y => withinL x.2 y.2) (fun kk h => ?_) (fun kk h => ?_) ?_
  · unfold eB eOp
    refine And.intro rfl (hsz _ ?_)
    simp only [eC]
    exact (show ltU (nN (size x.2)) (nN 2) _ from lt_N h)
  · unfold eB eUn eF eLc
    refine it_sq (t := g.o1) (l := g.x1.map dLt) (fun kk h => h) ?_
    refine And.intro (by rw [List.length_map]; have := hg.l1; omega) ?_
    exact lc_map (g := fun y => D.bl (withinL x.2 y.2)) (fun y hy kk h => And.intro rfl (hm1 y hy _ h)) (any_map h)
  · rw [← e1]
    by_cases c1 : surely g.kn x.2 = true
    · rw [if_pos c1] at hk ⊢
      exact hk
    · rw [if_neg c1] at hk ⊢
      simp only [sNext, sRet, eIf]
      refine t_or (x := decide (g.pl < size x.2)) (y := g.x2.any fun y => withinL y.2 x.2) (fun kk h => ?_) (fun kk h => ?_) ?_
      · unfold eB eOp
        refine And.intro rfl (hsz _ ?_)
        exact (show gtD (nN (size x.2)) (nN g.pl) _ from gt_N h)
      · unfold eB eUn eF eLc
        refine it_sq (t := g.o2) (l := g.x2.map dLt) (fun kk h => h) ?_
        refine And.intro (by rw [List.length_map]; have := hg.l2; omega) ?_
        exact lc_map (g := fun y => D.bl (withinL y.2 x.2)) (fun y hy kk h => And.intro rfl (hm2 y hy _ h)) (any_map h)
      · rw [← e2]
        by_cases c2 : refd g.kn x.2 = true
        · rw [if_pos c2] at hk ⊢
          exact hk
        · rw [if_neg c2] at hk ⊢
          exact hk
theorem p_sure {g : Gk} {x : Bool × Ld} {k : DK} (hg : g.Sm) (hx : Okx x) (hk : k (sureD g.kn x.2)) : d_l_sure [g.d, dLt x] k := by
  show e_l_sure [.val g.d, .val (dLt x), .un, .un, .un, .un] (knE k)
  unfold e_l_sure
  have h1 := hx.1
  exact c_sure hg (fun k h => p_size (by omega) h) (fun y hy k h => p_most (by omega) (by have := (hg.k1 y hy).1; omega) h) (fun y hy k h => p_most (by have := (hg.k2 y hy).1; omega) (by omega) h) hk
end K61
set_option Elab.async false
set_option linter.all false
set_option maxRecDepth 100000
set_option maxHeartbeats 1000000
namespace K61
open PySem PySem.Spec PyProof.Rows L2 DL PySem.W
open TM (Ent Ld Sm SmL c3 tsort addL others withinL carts okO GoodL pairsN standP withP put standsB sm6 adj yardsL isort)
end K61
set_option Elab.async false
set_option linter.all false
set_option maxRecDepth 100000
set_option maxHeartbeats 1000000
namespace K61
open PySem PySem.Spec PyProof.Rows L2 DL PySem.W
open TM (Ent Ld Sm SmL c3 tsort addL others withinL carts okO GoodL pairsN standP withP put standsB sm6 adj yardsL isort)
section
variable {L : TM.Lanes} {N : List Nat} {y g : Nat} {gk : Gk}
theorem p_sureL (o : gk.Ok N) {l : Ld} (g1 : GoodL N l) (hs : size l ≤ 900) {k : DK} (hk : k (sureD gk.kn l)) : d_l_sure [gk.d, dLd l] k :=
  (show d_l_sure [gk.d, dLt (false, l)] k from p_sure o.sm (few_ok (x := (false, l)) g1 hs) hk)
end
section
variable {L : TM.Lanes} {N : List Nat} {y g : Nat} {gk : Gk}
end
def freeD : Option (List Ld) → D
  | none => .non
  | some F => .lst (F.map dLd)
end K61
set_option Elab.async false
set_option linter.all false
set_option maxRecDepth 100000
set_option maxHeartbeats 1000000
namespace K61
open PySem PySem.Spec PyProof.Rows L2 DL PySem.W
open TM (Ent Ld Sm SmL c3 tsort addL others withinL carts okO GoodL pairsN standP withP put standsB sm6 adj yardsL isort)
end K61
set_option Elab.async false
set_option linter.all false
set_option maxRecDepth 100000
set_option maxHeartbeats 1000000
namespace K61
open PySem PySem.Spec PyProof.Rows L2 DL PySem.W
open TM (Ent Ld Sm SmL c3 tsort addL others withinL carts okO GoodL pairsN standP withP put standsB sm6 adj yardsL isort)
end K61
set_option Elab.async false
set_option linter.all false
set_option maxRecDepth 100000
set_option maxHeartbeats 1000000
namespace K61
open PySem PySem.Spec PyProof.Rows L2 DL PySem.W
open TM (Ent Ld Sm SmL c3 tsort addL others withinL carts okO GoodL pairsN standP withP put standsB sm6 adj yardsL isort)
theorem for_inv {α : Type} {c : α → D} {eg : EG} {eb : ES} {dead : List Nat} {Inv : Nat → DL.Env → Prop} {k : Kn} {M : Nat} : ∀ {xs : List α} {i : Nat} {env : DL.Env}, i + xs.length ≤ M →
    (∀ i a env, ∀ K' : Kn, i < M → Inv i env → (∀ e, Inv (i + 1) (forg e dead) → K'.nx e) → eg (c a) env fun env1 => eb env1 K') → (∀ env, Inv (i + xs.length) env → k.nx env) → Inv i env → forGo eg eb dead (xs.map c) env k
  | [], i, env, _, _, hk, hi => hk env hi
  | x :: xs, i, env, hN, h, hk, hi => h i x env _ (by rw [List.length_cons] at hN; omega) hi fun e he => (show forGo eg eb dead (xs.map c) (forg e dead) k from for_inv (xs := xs) (i := i + 1) (by rw [List.length_cons] at hN; omega) h (fun env h2 => hk env (by rw [show i + (x :: xs).length = i + 1 + xs.length by rw [List.length_cons]; omega]; exact h2)) he)
theorem c_load {pk : List D → DK → Prop} {pl : List D → (List D → Prop) → Prop} {N : List Nat} {ps : List (Nat × Nat)} {n : Nat} {K1 : Kn} (hn : n ≤ 20) (hpk : ∀ k : DK, (∀ p ∈ ps, k (dPr p)) → pk [.lst (ps.map dPr)] k)
    (hpl : ∀ l : Ld, GoodL N l → size l ≤ 20 → ∀ p ∈ ps, ∀ k : List D → Prop, (GoodL N (addL l p.1 p.2) → k ((addL l p.1 p.2).map dEn)) → pl [dLd l, dPr p] k) (hk : ∀ l : Ld, GoodL N l → size l = n → K1.rt (dLd l)) :
    (sSeq (sAsg (eF (eLst eaNil)) (egName 3)) (sSeq (sFor (eRng1 (eVar 2)) (egName 4) (sAsg (eF (eCallF 2 pl (eaCons (eVar 3) (eaCons (eCallP 0 1 pk (eaCons (eVar 1) eaNil)) eaNil)))) (egName 3)) [4]) (sRet (eVar 3))))
      [.pot, .val (.lst (ps.map dPr)), .val (nN n), .un, .un] K1 := by
  refine And.intro (show 0 ≤ 100000 by decide) ?_
  simp only [egName, List.set_cons_succ, List.set_cons_zero]
  refine And.intro (show (n : Int) ≤ 100000 by omega) (And.intro (show -100000 ≤ (n : Int) by omega) ?_)
  rw [rg_map]
  refine for_inv (Inv := fun i env => ∃ l : Ld, GoodL N l ∧ size l = i ∧ env = [.pot, .val (.lst (ps.map dPr)), .val (nN n), .val (dLd l), .un]) (i := 0) (M := n) (by rw [List.length_range]; omega) (fun i a env K' hi hv hn2 => ?_) (fun env hv => ?_) ⟨[], GoodL.nil N, rfl, rfl⟩
  · obtain ⟨l, g, hs, rfl⟩ := hv
    simp only [egName, List.set_cons_succ, List.set_cons_zero]
    refine And.intro rfl (And.intro rfl (hpk _ fun p hp => ?_))
    refine And.intro rfl (hpl l g (by omega) p hp _ fun gg => ?_)
    exact hn2 _ ⟨addL l p.1 p.2, gg, by rw [size_add, hs], rfl⟩
  · obtain ⟨l, g, hs, rfl⟩ := hv
    rw [List.length_range, Nat.zero_add] at hs
    exact hk l g hs
theorem p_load {N : List Nat} {ps : List (Nat × Nat)} {n : Nat} {k : DK} (sN : ∀ x ∈ N, x < 1024) (h0 : 0 < ps.length) (h1 : ps.length ≤ 1000) (hp : ∀ p ∈ ps, p ∈ pairsN N) (hn : n ≤ 20) (hk : ∀ l : Ld, GoodL N l → size l = n → k (dLd l)) : d_l_load [.lst (ps.map dPr), nN n] k := by
  show e_l_load [.pot, .val (.lst (ps.map dPr)), .val (nN n), .un, .un] (knE k)
  unfold e_l_load
  exact c_load hn (fun k h => p_pick h0 h1 h) (fun l g hs p hp2 k h => p_plusG sN g (by omega) (hp p hp2) (h (good_add sN g (by omega) (hp p hp2)))) hk
structure Dk (N : List Nat) (m pl : Nat) (ls rs : List Ld) : Prop where
  p1 : 1 ≤ pl
  p2 : pl ≤ m
  l2 : ls.length ≤ 2
  r2 : rs.length ≤ 2
  lg : ∀ l ∈ ls, GoodL N l ∧ size l ≤ pl
  rg : ∀ l ∈ rs, GoodL N l ∧ 2 ≤ size l ∧ size l ≤ pl + 1 ∧ (ls.any fun x => withinL l x) = false
theorem c_known {pa : List D → (List D → Prop) → Prop} {lo mo : List D → DK → Prop} {L : TM.Lanes} {N : List Nat} {y m : Nat} {K1 : Kn} (h0 : 0 < m) (hm : m ≤ 6)
    (hpa : ∀ k : List D → Prop, k ((pairsN N).map dPr) → pa [lnD L, nN y] k) (hlo : ∀ n, n ≤ 20 → ∀ k : DK, (∀ l : Ld, GoodL N l → size l = n → k (dLd l)) → lo [.lst ((pairsN N).map dPr), nN n] k)
    (hmo : ∀ l x : Ld, GoodL N l → GoodL N x → size l ≤ 20 → size x ≤ 20 → ∀ k : DK, k (.bl (withinL l x)) → mo [dLd l, dLd x] k) (hk : ∀ pl ls rs, Dk N m pl ls rs → K1.rt (.tup [nN pl, .lst (ls.map dLd), .lst (rs.map dLd)])) :
    (sSeq (sPar 4 5 (emE (eOp addU (eC (.int 1)) (eCallP 0 1 b_draw (eaCons (eVar 3) eaNil)))) (emE (eF (eCallF 2 pa (eaCons (eVar 1) (eaCons (eVar 2) eaNil)))))) (sSeq (sPar 6 7 (emF (eLst eaNil)) (emF (eLst eaNil))) (sSeq (sFor (eRng1 (eCallP 0 1 b_draw (eaCons (eC (.int 3)) eaNil))) (egName 8) (sApp 6 (eCallP 0 2 lo (eaCons (eVar 5) (eaCons (eOp addU (eC (.int 1)) (eCallP 0 1 b_draw (eaCons (eVar 4) eaNil))) eaNil)))) []) (sKnow 6 (sSeq (sFor (eRng1 (eCallP 0 1 b_draw (eaCons (eC (.int 3)) eaNil))) (egName 8) (sSeq (sAsg (eCallP 0 2 lo (eaCons (eVar 5) (eaCons (eOp addU (eC (.int 2)) (eCallP 0 1 b_draw (eaCons (eVar 4) eaNil))) eaNil))) (egName 9)) (sIf (eNotT (eB (eUn anyD (eF (eLc (eSeq (eVar 6)) (egName 10) eYes (eCall 2 mo (eaCons (eVar 9) (eaCons (eVar 10) eaNil))) [10]))))) (sApp 7 (eVar 9)) sNext)) [9]) (sKnow 7 (sRet (eTup (eaCons (eVar 4) (eaCons (eVar 6) (eaCons (eVar 7) eaNil)))))))))))
      [.pot, .val (lnD L), .val (nN y), .val (nN m), .un, .un, .un, .un, .un, .un, .un] K1 := by
  refine And.intro rfl (And.intro rfl (dr h0 (by omega) fun d hd => ?_))
  refine (show addU (nN 1) (nN d) _ from add_N ?_)
  refine And.intro rfl (hpa _ ?_)
  simp only [List.set_cons_succ, List.set_cons_zero]
  generalize hpl : 1 + d = pl
  refine And.intro (show 0 ≤ 100000 by decide) (And.intro (show 0 ≤ 100000 by decide) ?_)
  simp only [List.set_cons_succ, List.set_cons_zero]
  refine And.intro rfl (And.intro rfl ((show b_draw [nN 3] _ from dr (by decide) (by decide) fun c hc => ?_)))
  refine And.intro (show (c : Int) ≤ 100000 by omega) (And.intro (show -100000 ≤ (c : Int) by omega) ?_)
  rw [rg_map]
  refine for_inv (Inv := fun i env => ∃ (ls : List Ld) (s8 : SV), ls.length = i ∧ (∀ l ∈ ls, GoodL N l ∧ size l ≤ pl) ∧ env = [.pot, .val (lnD L), .val (nN y), .val (nN m), .val (nN pl), .val (.lst ((pairsN N).map dPr)), .ml (ls.map dLd), .ml [], s8, .un, .un]) (i := 0) (M := c) (by rw [List.length_range]; omega) (fun i a env K' hi hv hn2 => ?_) (fun env hv => ?_) ⟨[], .un, rfl, fun _ h => (nomatch h), rfl⟩
  · obtain ⟨ls, s8, h1, h2, rfl⟩ := hv
    simp only [egName, List.set_cons_succ, List.set_cons_zero]
    refine And.intro rfl (And.intro rfl (And.intro rfl (dr (by omega) (by omega) fun e he => ?_)))
    refine (show addU (nN 1) (nN e) _ from add_N ?_)
    refine And.intro rfl (hlo (1 + e) (by omega) _ fun l gl hs => ?_)
    refine And.intro (by rw [List.length_map]; omega) (hn2 _ ⟨ls ++ [l], .val (.int (a : Int)), by simp [h1], fun x hx => ?_, ?_⟩)
    · rcases List.mem_append.mp hx with z | z
      · exact h2 x z
      · rw [List.mem_singleton.mp z]; exact ⟨gl, by omega⟩
    · rw [List.map_append]; rfl
  · obtain ⟨ls, s8, h1, h2, rfl⟩ := hv
    rw [List.length_range, Nat.zero_add] at h1
    refine And.intro rfl (And.intro rfl ((show b_draw [nN 3] _ from dr (by decide) (by decide) fun c2 hc2 => ?_)))
    refine And.intro (show (c2 : Int) ≤ 100000 by omega) (And.intro (show -100000 ≤ (c2 : Int) by omega) ?_)
    rw [rg_map]
    refine for_inv (Inv := fun i env => ∃ (rs : List Ld) (s8 : SV), rs.length ≤ i ∧ (∀ l ∈ rs, GoodL N l ∧ 2 ≤ size l ∧ size l ≤ pl + 1 ∧ (ls.any fun x => withinL l x) = false) ∧ env = [.pot, .val (lnD L), .val (nN y), .val (nN m), .val (nN pl), .val (.lst ((pairsN N).map dPr)), .val (.lst (ls.map dLd)), .ml (rs.map dLd), s8, .un, .un]) (i := 0) (M := c2) (by rw [List.length_range]; omega) (fun i a env K' hi hv hn2 => ?_) (fun env hv => ?_) ⟨[], s8, Nat.le_refl _, fun _ h => (nomatch h), rfl⟩
    · obtain ⟨rs, s9, h3, h4, rfl⟩ := hv
      simp only [egName, List.set_cons_succ, List.set_cons_zero]
      refine And.intro rfl (And.intro rfl (And.intro rfl (dr (by omega) (by omega) fun e he => ?_)))
      refine (show addU (nN 2) (nN e) _ from add_N ?_)
      refine And.intro rfl (hlo (2 + e) (by omega) _ fun l gl hs => ?_)
      simp only [egName, List.set_cons_succ, List.set_cons_zero, sIf]
      have test : ∀ kk : Bool → Prop, kk (!ls.any fun x => withinL l x) → eNotT (eB (eUn anyD (eF (eLc (eSeq (eVar 6)) (egName 10) eYes (eCall 2 mo (eaCons (eVar 9) (eaCons (eVar 10) eaNil))) [10])))) [.pot, .val (lnD L), .val (nN y), .val (nN m), .val (nN pl), .val (.lst ((pairsN N).map dPr)), .val (.lst (ls.map dLd)), .ml (rs.map dLd), .val (.int (a : Int)), .val (dLd l), .un] kk := fun kk h => by
        unfold eNotT eB eUn eF eLc
        refine And.intro (by rw [List.length_map]; omega) ?_
        exact lc_map (g := fun x => D.bl (withinL l x)) (fun x hx k3 h5 => And.intro rfl (hmo l x gl (h2 x hx).1 (by omega) (by have := (h2 x hx).2; omega) _ h5)) (any_map h)
      refine test _ ?_
      by_cases z : (ls.any fun x => withinL l x) = true
      · rw [z]
        exact hn2 _ ⟨rs, .val (.int (a : Int)), by omega, h4, rfl⟩
      · have z := Bool.eq_false_iff.mpr z
        rw [z, if_pos (by decide)]
        refine And.intro (by rw [List.length_map]; omega) (hn2 _ ⟨rs ++ [l], .val (.int (a : Int)), by simp; omega, fun x hx => ?_, ?_⟩)
        · rcases List.mem_append.mp hx with w | w
          · exact h4 x w
          · rw [List.mem_singleton.mp w]; exact ⟨gl, by omega, by omega, z⟩
        · rw [List.map_append]; rfl
    · obtain ⟨rs, s9, h3, h4, rfl⟩ := hv
      rw [List.length_range, Nat.zero_add] at h3
      refine And.intro (show 3 ≤ 100000 by decide) ?_
      exact hk pl ls rs ⟨by omega, by omega, by omega, by omega, h2, h4⟩
theorem p_known {L : TM.Lanes} {N : List Nat} {y m : Nat} {k : DK} (hL : L.length ≤ 1000) (h : NOk L y N) (hne : 0 < (pairsN N).length) (h0 : 0 < m) (hm : m ≤ 6) (hk : ∀ pl ls rs, Dk N m pl ls rs → k (.tup [nN pl, .lst (ls.map dLd), .lst (rs.map dLd)])) : d_l_known [lnD L, nN y, nN m] k := by
  have hN := h.ad
  subst hN
  have h1 := h.len
  have h2 := pairs_len (adj L y)
  have h3 : (adj L y).length * (adj L y).length ≤ 3 * 3 := Nat.mul_le_mul h1 h1
  show e_l_known [.pot, .val (lnD L), .val (nN y), .val (nN m), .un, .un, .un, .un, .un, .un, .un] (knE k)
  unfold e_l_known
  exact c_known h0 hm (fun k hk => p_pairs hL (by omega) hk) (fun n hn k hk => p_load h.sm hne (by omega) (fun p hp => hp) hn hk)
    (fun l x gl gx hs hx k hk => (show d_l_is_most [dLt (false, l), dLt (false, x)] k from p_most (by have := len_size gl; show l.length ≤ 100000; omega) (by have := len_size gx; show x.length ≤ 100000; omega) hk)) hk
theorem t_zero {env : DL.Env} {k : Bool → Prop} (hp : env[0]? = some .pot) (hk : ∀ x, k x) : eB (eOp eqD (eCallP 0 1 b_draw (eaCons (eC (.int 3)) eaNil)) (eC (.int 0))) env k := by
  unfold eB eOp
  refine And.intro hp (And.intro rfl ((show b_draw [nN 3] _ from dr (by decide) (by decide) fun d hd => ?_)))
  simp only [eC]
  refine (show eqD (nN d) (nN 0) _ from eq_N ?_)
  exact hk _
theorem lc_tag {f : D → (Option D → Prop) → Prop} : ∀ {xs : List Ld} {k : List D → Prop}, (∀ a ∈ xs, ∀ kk : Option D → Prop, (∀ t : Bool, kk (some (dLt (t, a)))) → f (dLd a) kk) → (∀ ts : List (Bool × Ld), ts.map (·.2) = xs → k (ts.map dLt)) → lcGo f (xs.map dLd) k
  | [], k, _, hk => hk [] rfl
  | x :: xs, k, h, hk => h x (List.mem_cons_self ..) _ fun t => lc_tag (xs := xs) (fun a ha => h a (List.mem_cons_of_mem _ ha)) fun ts e => hk ((t, x) :: ts) (by rw [List.map_cons, e])
theorem p_given {ls : List Ld} {k : DK} (hl : ls.length ≤ 1000) (hk : ∀ (o : Bool) (ts : List (Bool × Ld)), ts.map (·.2) = ls → k (dLs o ts)) : d_l_given [.lst (ls.map dLd)] k := by
  show e_l_given [.pot, .val (.lst (ls.map dLd)), .un, .un] (knE k)
  unfold e_l_given
  refine And.intro (by rw [List.length_map]; omega) ?_
  refine lc_tag (fun a ha kk h => ?_) (fun ts e => ?_)
  · simp only [eLcF, egName, List.set_cons_succ, List.set_cons_zero, eYes, if_true, eIf]
    refine t_zero rfl fun x => ?_
    cases x with
    | true => exact h true
    | false => exact h false
  · simp only [egName, List.set_cons_succ, List.set_cons_zero, sRet, eIf]
    refine t_zero rfl fun x => ?_
    cases x with
    | true => exact hk true ts e
    | false => exact hk false ts e
theorem p_known_given {pl : Nat} {ls rs : List Ld} {k : DK} (hl : ls.length ≤ 1000) (hr : rs.length ≤ 1000) (hk : ∀ gk : Gk, gk.kn = (pl, ls, rs) → k gk.d) : d_l_known_given [.tup [nN pl, .lst (ls.map dLd), .lst (rs.map dLd)]] k := by
  have main : ∀ {gi : List D → DK → Prop}, (∀ (xs : List Ld), xs.length ≤ 1000 → ∀ k : DK, (∀ (o : Bool) (ts : List (Bool × Ld)), ts.map (·.2) = xs → k (dLs o ts)) → gi [.lst (xs.map dLd)] k) →
      (sRet (eTup (eaCons (eOp ixD (eVar 1) (eC (.int 0))) (eaCons (eCallP 0 1 gi (eaCons (eOp ixD (eVar 1) (eC (.int 1))) eaNil)) (eaCons (eCallP 0 1 gi (eaCons (eOp ixD (eVar 1) (eC (.int 2))) eaNil)) eaNil))))) [.pot, .val (.tup [nN pl, .lst (ls.map dLd), .lst (rs.map dLd)])] (knE k) := fun {gi} h => by
    simp only [sRet, eTup, eaCons, eaNil, eOp, eC, eVar, List.getElem?_cons_succ, List.getElem?_cons_zero]
    refine (show ixD (.tup [nN pl, .lst (ls.map dLd), .lst (rs.map dLd)]) (nN 0) _ from ix_tup (i := 0) (d := nN pl) rfl ?_)
    refine And.intro rfl ?_
    refine (show ixD (.tup [nN pl, .lst (ls.map dLd), .lst (rs.map dLd)]) (nN 1) _ from ix_tup (i := 1) (d := .lst (ls.map dLd)) rfl ?_)
    refine And.intro rfl (h ls hl _ fun o1 t1 e1 => ?_)
    refine And.intro rfl ?_
    refine (show ixD (.tup [nN pl, .lst (ls.map dLd), .lst (rs.map dLd)]) (nN 2) _ from ix_tup (i := 2) (d := .lst (rs.map dLd)) rfl ?_)
    refine And.intro rfl (h rs hr _ fun o2 t2 e2 => ?_)
    refine And.intro (show 3 ≤ 100000 by decide) ?_
    exact hk ⟨pl, o1, t1, o2, t2⟩ (by unfold Gk.kn; rw [e1, e2])
  show e_l_known_given [.pot, .val (.tup [nN pl, .lst (ls.map dLd), .lst (rs.map dLd)])] (knE k)
  unfold e_l_known_given
  exact main fun xs hx k h => p_given hx h
end K61
set_option Elab.async false
set_option linter.all false
set_option maxRecDepth 100000
set_option maxHeartbeats 1000000
namespace DL
open PySem PySem.Spec PyProof.Rows L2 PySem.W
structure Wr (d : D) (n w : Nat) : Prop where
  py : isPy d = true
  sh : (toPy d).showable = true
  hd : (toPy d).hasDict = false
  dp : (toPy d).depth ≤ n
  lv : (toPy d).leavesShort 8 = true
  wt : (toPy d).weight ≤ w
  so : PyData.strOk (toPy d).shown = true
structure WrA (ds : List D) (n w : Nat) : Prop where
  py : isPys ds = true
  sh : PyData.showableAll (toPys ds) = true
  hd : PyData.hasDictAll (toPys ds) = false
  dp : PyData.depthAll (toPys ds) ≤ n
  lv : PyData.leavesShortAll 8 (toPys ds) = true
  wt : PyData.weightAll (toPys ds) ≤ w
  so : ∀ s ∈ PyData.shownAll (toPys ds), PyData.strOk s = true
theorem so_app (a b : Str) : PyData.strOk (a ++ b) = (PyData.strOk a && PyData.strOk b) := by
  unfold PyData.strOk
  show (a.cps ++ b.cps).all _ = _
  rw [Array.all_append]
theorem so_text : ∀ (l : List Str) (k : Nat) (acc : Str), PyData.strOk acc = true → (∀ x ∈ l, PyData.strOk x = true) → PyData.strOk (textFrom k acc l) = true
  | [], _, _, ha, _ => ha
  | x :: l, k, acc, ha, h => by
    refine so_text l (k + 1) _ ?_ fun z hz => h z (List.mem_cons_of_mem _ hz)
    rw [so_app, so_app, ha, h x (by simp)]
    by_cases z : k > 0
    · rw [if_pos z]; decide +kernel
    · rw [if_neg z]; decide +kernel
theorem so_list {l : List Str} (h : ∀ x ∈ l, PyData.strOk x = true) : PyData.strOk (listText l) = true := by
  unfold listText
  rw [so_app, so_text l 0 _ (by decide +kernel) h]
  decide +kernel
theorem so_join {sep : Str} (hs : PyData.strOk sep = true) : ∀ l : List Str, (∀ x ∈ l, PyData.strOk x = true) → PyData.strOk (Str.join sep l) = true
  | [], _ => by show PyData.strOk Str.empty = true; decide +kernel
  | [x], h => h x (by simp)
  | x :: y :: l, h => by
    have := so_join hs (y :: l) fun z hz => h z (List.mem_cons_of_mem _ hz)
    show PyData.strOk (x ++ sep ++ Str.join sep (y :: l)) = true
    rw [so_app, so_app, h x (by simp), hs, this]
    rfl
theorem so_tup {l : List Str} (h : ∀ x ∈ l, PyData.strOk x = true) : PyData.strOk (tupleText l) = true := by
  unfold tupleText
  rw [so_app, so_app, so_join (by decide +kernel) l h]
  split <;> decide +kernel
theorem wrA_nil {n : Nat} : WrA [] n 0 := ⟨rfl, rfl, rfl, Nat.zero_le _, rfl, Nat.le_refl _, fun _ h => (nomatch h)⟩
theorem wrA_cons {d : D} {ds : List D} {n w v : Nat} (h : Wr d n w) (t : WrA ds n v) : WrA (d :: ds) n (w + 1 + v) := by
  refine ⟨?_, ?_, ?_, ?_, ?_, ?_, fun s hs => ?_⟩
  · simp only [isPys, h.py, t.py, Bool.and_self]
  · simp only [toPys, PyData.showableAll, h.sh, t.sh, Bool.and_self]
  · simp only [toPys, PyData.hasDictAll, h.hd, t.hd, Bool.or_self]
  · have := h.dp
    have := t.dp
    simp only [toPys, PyData.depthAll]
    omega
  · simp only [toPys, PyData.leavesShortAll, h.lv, t.lv, Bool.and_self]
  · have := h.wt
    have := t.wt
    simp only [toPys, PyData.weightAll]
    omega
  · have hs : s ∈ PyData.shown (toPy d) :: PyData.shownAll (toPys ds) := hs
    rcases List.mem_cons.mp hs with e | e
    · rw [e]; exact h.so
    · exact t.so s e
theorem wr_lst {ds : List D} {n w : Nat} (h : WrA ds n w) : Wr (.lst ds) (n + 1) w := by
  refine ⟨h.py, h.sh, h.hd, ?_, h.lv, h.wt, so_list h.so⟩
  have := h.dp
  simp only [toPy, PyData.depth]
  omega
theorem wr_tup {ds : List D} {n w : Nat} (h : WrA ds n w) : Wr (.tup ds) (n + 1) w := by
  refine ⟨h.py, h.sh, h.hd, ?_, h.lv, h.wt, so_tup h.so⟩
  have := h.dp
  simp only [toPy, PyData.depth]
  omega
theorem Wr.up {d : D} {n w n' w' : Nat} (h : Wr d n w) (h1 : n ≤ n') (h2 : w ≤ w') : Wr d n' w' := ⟨h.py, h.sh, h.hd, Nat.le_trans h.dp h1, h.lv, Nat.le_trans h.wt h2, h.so⟩
theorem WrA.up {d : List D} {n w n' w' : Nat} (h : WrA d n w) (h1 : n ≤ n') (h2 : w ≤ w') : WrA d n' w' := ⟨h.py, h.sh, h.hd, Nat.le_trans h.dp h1, h.lv, Nat.le_trans h.wt h2, h.so⟩
theorem wr_all {α : Type} {g : α → D} {n w : Nat} : ∀ {l : List α}, (∀ a ∈ l, Wr (g a) n w) → WrA (l.map g) n (l.length * (w + 1))
  | [], _ => wrA_nil.up (Nat.le_refl _) (by omega)
  | a :: l, h => (wrA_cons (h a (by simp)) (wr_all fun b hb => h b (List.mem_cons_of_mem _ hb))).up (Nat.le_refl _) (by rw [List.length_cons, Nat.succ_mul]; omega)
theorem wr_non {n : Nat} : Wr .non n 0 := ⟨rfl, rfl, rfl, Nat.zero_le _, rfl, Nat.le_refl _, by decide +kernel⟩
theorem wr_bl {b : Bool} {n : Nat} : Wr (.bl b) n 0 := ⟨rfl, rfl, rfl, Nat.zero_le _, rfl, Nat.le_refl _, by cases b <;> decide +kernel⟩
theorem w_small : ∀ n : Nat, n < 1024 → (PyData.shown (.int (n : Int))).length ≤ 8 ∧ PyData.strOk (PyData.shown (.int (n : Int))) = true := by decide +kernel
theorem wr_nat {a n : Nat} (h : a < 1024) : Wr (.int (a : Int)) n 11 := by
  have lg : (a : Int).natAbs.log2 ≤ 10 := by
    rw [show (a : Int).natAbs = a from Int.natAbs_natCast a]
    by_cases z : a = 0
    · subst z; decide
    · have := (Nat.log2_lt z (k := 10)).mpr (by omega)
      omega
  obtain ⟨s1, s2⟩ := w_small a h
  refine ⟨rfl, ?_, rfl, Nat.zero_le _, ?_, ?_, s2⟩
  · simp only [toPy, PyData.showable]
    exact decide_eq_true (by omega)
  · simp only [toPy, PyData.leavesShort]
    exact decide_eq_true s1
  · simp only [toPy, PyData.weight]
    split <;> omega
theorem Wr.wr {d : D} {n w : Nat} (h : Wr d n w) (hn : n ≤ 60) (hw : w ≤ 1000000) : wrD d := by
  refine ⟨h.py, h.sh, h.hd, Nat.le_trans h.dp hn, ?_⟩
  rw [← sizeLine_eq]
  exact PyData.shown_fits (B := 8) (by decide) (by decide) h.lv (Nat.le_trans h.wt (Nat.le_trans hw (by decide)))
theorem shaped_str {x : Str} (h : PyData.strOk x = true) : SeqAt.shaped (toPy (.str x)) = true := by
  unfold SeqAt.shaped
  simp only [toPy, PyData.canLay0, h, PyData.depth, Bool.true_and]
  decide
theorem eq_str {x : Str} {k : DK} (h : PyData.strOk x = true) (hk : k (.bl true)) : eqD (.str x) (.str x) k := by
  have hs := shaped_str h
  refine And.intro ⟨rfl, rfl, hs, hs⟩ ?_
  rw [show PyData.eqv (toPy (.str x)) (toPy (.str x)) = true from SeqAt.eqv_refl _ h]
  exact hk
theorem ne_str {x : Str} {k : DK} (h : PyData.strOk x = true) (hk : k (.bl false)) : neD (.str x) (.str x) k := by
  have hs := shaped_str h
  refine And.intro ⟨rfl, rfl, hs, hs⟩ ?_
  rw [show PyData.eqv (toPy (.str x)) (toPy (.str x)) = true from SeqAt.eqv_refl _ h]
  exact hk
end DL
set_option Elab.async false
set_option linter.all false
set_option maxRecDepth 100000
set_option maxHeartbeats 1000000
namespace K61
open PySem PySem.Spec PyProof.Rows L2 DL PySem.W
open TM (Ent Ld Sm SmL c3 tsort addL others withinL carts okO GoodL pairsN standP withP put standsB sm6 adj yardsL isort Lanes Good Grow)
def lineL (n : Nat) : Lanes := (List.range n).map fun i => (i, i + 1)
def treeA : Lanes := [(0, 1), (0, 2), (0, 3)]
def treeB : Lanes := [(0, 1), (0, 2), (1, 3), (1, 4)]
def treeC : Lanes := [(0, 1), (0, 2), (0, 3), (1, 4), (2, 5), (3, 6)]
def lnsX : List Lanes := [treeA, treeB, treeC, lineL 2, lineL 3, lineL 4, lineL 5]
theorem lns_len : ∀ L ∈ lnsX, L.length ≤ 6 ∧ (yardsL L).length ≤ 7 := by decide +kernel
theorem lns_y : ∀ L ∈ lnsX, ∀ y ∈ yardsL L, y < L.length + 1 ∧ (adj L y).length ≤ 3 ∧ (adj L y).Pairwise (· < ·) ∧ (∀ x ∈ adj L y, x < 1024) ∧ 0 < (pairsN (adj L y)).length := by decide +kernel
theorem nok_of {L : Lanes} (hL : L ∈ lnsX) {y : Nat} (hy : y ∈ yardsL L) : NOk L y (adj L y) := by
  obtain ⟨a, b, c, d, _⟩ := lns_y L hL y hy
  exact ⟨a, rfl, b, c, d⟩
theorem good_of {L : Lanes} {vs : List Nat} (g : Grow vs L.reverse) (hv : ∀ v, v ∈ vs ↔ v < L.length + 1) (h1 : ∀ i ∈ List.range 8, (TM.nb L i).length ≤ 4) (h2 : ∀ p ∈ L, p.1 < 8 ∧ p.2 < 8) (h3 : 1 ≤ (yardsL L).length) (h4 : (yardsL L).length ≤ 7) (h5 : L.length ≤ 1000) : Good vs L := by
  refine ⟨g.tr (fun i => ?_) (by rw [List.length_reverse]), hv, fun i => ?_, h3, h4, h5⟩
  · unfold TM.nb TM.out TM.inn
    have p := (List.reverse_perm L).symm
    exact ((p.filter _).map _).append ((p.filter _).map _)
  · rw [TM.adj_length]
    by_cases hi : i < 8
    · exact h1 i (List.mem_range.mpr hi)
    · have : TM.nb L i = [] := by
        unfold TM.nb TM.out TM.inn
        rw [List.filter_eq_nil_iff.mpr, List.filter_eq_nil_iff.mpr]
        · rfl
        · intro p hp
          have := h2 p hp
          simp only [decide_eq_true_eq]
          omega
        · intro p hp
          have := h2 p hp
          simp only [decide_eq_true_eq]
          omega
      rw [this]; exact Nat.zero_le _
theorem lns_good : ∀ L ∈ lnsX, ∃ vt, Good vt L := by
  intro L hL
  unfold lnsX at hL
  simp only [List.mem_cons, List.not_mem_nil, or_false] at hL
  rcases hL with rfl | rfl | rfl | rfl | rfl | rfl | rfl
  · exact ⟨[3, 2, 1, 0], good_of ((((Grow.one 0).step (a := 0) (b := 1) (by decide) (by decide)).step (a := 0) (b := 2) (by decide) (by decide)).step (a := 0) (b := 3) (by decide) (by decide)) (fun v => by show v ∈ [3, 2, 1, 0] ↔ v < 4; simp; omega) (by decide +kernel) (by decide +kernel) (by decide +kernel) (by decide +kernel) (by decide +kernel)⟩
  · exact ⟨[4, 3, 2, 1, 0], good_of (((((Grow.one 0).step (a := 0) (b := 1) (by decide) (by decide)).step (a := 0) (b := 2) (by decide) (by decide)).step (a := 1) (b := 3) (by decide) (by decide)).step (a := 1) (b := 4) (by decide) (by decide)) (fun v => by show v ∈ [4, 3, 2, 1, 0] ↔ v < 5; simp; omega) (by decide +kernel) (by decide +kernel) (by decide +kernel) (by decide +kernel) (by decide +kernel)⟩
  · exact ⟨[6, 5, 4, 3, 2, 1, 0], good_of (((((((Grow.one 0).step (a := 0) (b := 1) (by decide) (by decide)).step (a := 0) (b := 2) (by decide) (by decide)).step (a := 0) (b := 3) (by decide) (by decide)).step (a := 1) (b := 4) (by decide) (by decide)).step (a := 2) (b := 5) (by decide) (by decide)).step (a := 3) (b := 6) (by decide) (by decide)) (fun v => by show v ∈ [6, 5, 4, 3, 2, 1, 0] ↔ v < 7; simp; omega) (by decide +kernel) (by decide +kernel) (by decide +kernel) (by decide +kernel) (by decide +kernel)⟩
  · exact ⟨[2, 1, 0], good_of (((Grow.one 0).step (a := 0) (b := 1) (by decide) (by decide)).step (a := 1) (b := 2) (by decide) (by decide)) (fun v => by show v ∈ [2, 1, 0] ↔ v < 3; simp; omega) (by decide +kernel) (by decide +kernel) (by decide +kernel) (by decide +kernel) (by decide +kernel)⟩
  · exact ⟨[3, 2, 1, 0], good_of ((((Grow.one 0).step (a := 0) (b := 1) (by decide) (by decide)).step (a := 1) (b := 2) (by decide) (by decide)).step (a := 2) (b := 3) (by decide) (by decide)) (fun v => by show v ∈ [3, 2, 1, 0] ↔ v < 4; simp; omega) (by decide +kernel) (by decide +kernel) (by decide +kernel) (by decide +kernel) (by decide +kernel)⟩
  · exact ⟨[4, 3, 2, 1, 0], good_of (((((Grow.one 0).step (a := 0) (b := 1) (by decide) (by decide)).step (a := 1) (b := 2) (by decide) (by decide)).step (a := 2) (b := 3) (by decide) (by decide)).step (a := 3) (b := 4) (by decide) (by decide)) (fun v => by show v ∈ [4, 3, 2, 1, 0] ↔ v < 5; simp; omega) (by decide +kernel) (by decide +kernel) (by decide +kernel) (by decide +kernel) (by decide +kernel)⟩
  · exact ⟨[5, 4, 3, 2, 1, 0], good_of ((((((Grow.one 0).step (a := 0) (b := 1) (by decide) (by decide)).step (a := 1) (b := 2) (by decide) (by decide)).step (a := 2) (b := 3) (by decide) (by decide)).step (a := 3) (b := 4) (by decide) (by decide)).step (a := 4) (b := 5) (by decide) (by decide)) (fun v => by show v ∈ [5, 4, 3, 2, 1, 0] ↔ v < 6; simp; omega) (by decide +kernel) (by decide +kernel) (by decide +kernel) (by decide +kernel) (by decide +kernel)⟩
end K61
set_option Elab.async false
set_option linter.all false
set_option maxRecDepth 100000
set_option maxHeartbeats 1000000
namespace K61
open PySem PySem.Spec PyProof.Rows L2 DL PySem.W
open TM (Ent Ld Sm SmL c3 tsort addL others withinL carts okO GoodL pairsN standP withP put standsB sm6 adj yardsL isort)
section
variable {L : TM.Lanes} {ys N : List Nat} {y : Nat} {gk : Gk} {x : Bool × Ld}
theorem p_check_cy {k : DK} (hy : yardsL L = ys) (h : y ∈ ys) (hk : k .non) : d_check_country_and_yard [.ob (.cty L), nN y] k := by
  have main : ∀ {cy : List D → DK → Prop}, (∀ k : DK, k .non → cy [.ob (.cty L), nN y] k) → (sSeq (sDrop (eCall 1 b_checkC (eaCons (eVar 0) eaNil))) (sDrop (eCall 2 cy (eaCons (eVar 0) (eaCons (eVar 1) eaNil))))) [.val (.ob (.cty L)), .val (nN y)] (knE k) := fun {cy} h1 =>
    And.intro rfl (b_check (And.intro rfl (h1 _ hk)))
  show e_check_country_and_yard [.val (.ob (.cty L)), .val (nN y)] (knE k)
  unfold e_check_country_and_yard
  exact main fun k hh => p_check_yard hy h hh
theorem p_check_known {k : DK} (h : NOk L y N) (o : gk.Ok N) (hk : k .non) : d_check_known [.ob (.cty L), nN y, gk.d] k := by
  have main : ∀ {kn : List D → DK → Prop}, (∀ k : DK, k (.bl true) → kn [nNs N, gk.d] k) → (sIf (eNotT (eB (eCall 2 kn (eaCons (eF (eMethF isCty 2 b_neighbours (eVar 0) (eaCons (eVar 1) eaNil))) (eaCons (eVar 2) eaNil))))) sNever sNext) [.val (.ob (.cty L)), .val (nN y), .val gk.d] (knE k) := fun {kn} h1 =>
    And.intro rfl (And.intro rfl (h.nb (And.intro rfl (h1 _ hk))))
  show e_check_known [.val (.ob (.cty L)), .val (nN y), .val gk.d] (knE k)
  unfold e_check_known
  exact main fun k hh => p_known_of o hh
theorem p_check_load {k : DK} (h : NOk L y N) (g : GoodL N x.2) (hl : x.2.length ≤ 1000) (hk : k .non) : d_check_load [.ob (.cty L), nN y, dLt x] k := by
  have main : ∀ {lo : List D → DK → Prop}, (∀ k : DK, k (.bl true) → lo [nNs N, dLt x] k) → (sIf (eNotT (eB (eCall 2 lo (eaCons (eF (eMethF isCty 2 b_neighbours (eVar 0) (eaCons (eVar 1) eaNil))) (eaCons (eVar 2) eaNil))))) sNever sNext) [.val (.ob (.cty L)), .val (nN y), .val (dLt x)] (knE k) := fun {lo} h1 =>
    And.intro rfl (And.intro rfl (h.nb (And.intro rfl (h1 _ hk))))
  show e_check_load [.val (.ob (.cty L)), .val (nN y), .val (dLt x)] (knE k)
  unfold e_check_load
  exact main fun k hh => p_load_of g hl hh
theorem p_is_known {k : DK} (hy : yardsL L = ys) (hm : y ∈ ys) (h : NOk L y N) (o : gk.Ok N) (hk : k (.bl true)) : d_is_known [.ob (.cty L), nN y, gk.d] k := by
  have main : ∀ {cy kn : List D → DK → Prop}, (∀ k : DK, k .non → cy [.ob (.cty L), nN y] k) → (∀ k : DK, k (.bl true) → kn [nNs N, gk.d] k) → (sSeq (sDrop (eCall 2 cy (eaCons (eVar 0) (eaCons (eVar 1) eaNil)))) (sRet (eCall 2 kn (eaCons (eF (eMethF isCty 2 b_neighbours (eVar 0) (eaCons (eVar 1) eaNil))) (eaCons (eVar 2) eaNil))))) [.val (.ob (.cty L)), .val (nN y), .val gk.d] (knE k) := fun {cy kn} h0 h1 =>
    And.intro rfl (h0 _ (And.intro rfl (And.intro rfl (h.nb (And.intro rfl (h1 _ hk))))))
  show e_is_known [.val (.ob (.cty L)), .val (nN y), .val gk.d] (knE k)
  unfold e_is_known
  exact main (fun k hh => p_check_cy hy hm hh) fun k hh => p_known_of o hh
theorem p_is_let {k : DK} (hy : yardsL L = ys) (hm : y ∈ ys) (h : NOk L y N) (o : gk.Ok N) (g : GoodL N x.2) (hs : size x.2 ≤ 900) (hk : k (sureD gk.kn x.2)) : d_is_let [.ob (.cty L), nN y, gk.d, dLt x] k := by
  have main : ∀ {cy ck cl sl sr : List D → DK → Prop}, (∀ k : DK, k .non → cy [.ob (.cty L), nN y] k) → (∀ k : DK, k .non → ck [.ob (.cty L), nN y, gk.d] k) → (∀ k : DK, k .non → cl [.ob (.cty L), nN y, dLt x] k) →
      (∀ k : DK, k (.bl (surely gk.kn x.2)) → sl [gk.d, dLt x] k) → (∀ k : DK, k (.bl (refd gk.kn x.2)) → sr [gk.d, dLt x] k) →
      (sSeq (sDrop (eCall 2 cy (eaCons (eVar 0) (eaCons (eVar 1) eaNil)))) (sSeq (sDrop (eCall 3 ck (eaCons (eVar 0) (eaCons (eVar 1) (eaCons (eVar 2) eaNil))))) (sSeq (sDrop (eCall 3 cl (eaCons (eVar 0) (eaCons (eVar 1) (eaCons (eVar 3) eaNil))))) (sSeq (sIf (eB (eCall 2 sl (eaCons (eVar 2) (eaCons (eVar 3) eaNil)))) (sRet (eC (.bl true))) sNext) (sRet (eIf (eB (eCall 2 sr (eaCons (eVar 2) (eaCons (eVar 3) eaNil)))) (eC (.bl false)) (eC .non))))))) [.val (.ob (.cty L)), .val (nN y), .val gk.d, .val (dLt x)] (knE k) := fun {cy ck cl sl sr} h0 h1 h2 h3 h4 => by
    refine And.intro rfl (h0 _ (And.intro rfl (h1 _ (And.intro rfl (h2 _ (And.intro rfl (h3 _ ?_)))))))
    unfold sureD at hk
    by_cases a : surely gk.kn x.2 = true
    · rw [a]
      rw [if_pos a] at hk
      exact hk
    · rw [if_neg a] at hk
      rw [Bool.eq_false_iff.mpr a]
      refine And.intro rfl (h4 _ ?_)
      by_cases b : refd gk.kn x.2 = true
      · rw [b]
        rw [if_pos b] at hk
        exact hk
      · rw [if_neg b] at hk
        rw [Bool.eq_false_iff.mpr b]
        exact hk
  have ok := few_ok (x := x) g hs
  show e_is_let [.val (.ob (.cty L)), .val (nN y), .val gk.d, .val (dLt x)] (knE k)
  unfold e_is_let
  exact main (fun k hh => p_check_cy hy hm hh) (fun k hh => p_check_known h o hh) (fun k hh => p_check_load h g ok.1 hh) (fun k hh => p_surely o.sm ok hh) fun k hh => p_refd o.sm ok hh
end
end K61
set_option Elab.async false
set_option linter.all false
set_option maxRecDepth 100000
set_option maxHeartbeats 1000000
namespace K61
open PySem PySem.Spec PyProof.Rows L2 DL PySem.W
open TM (Ent Ld Sm SmL c3 tsort addL others withinL carts okO GoodL pairsN standP withP put standsB sm6 adj yardsL isort)
theorem for_invM {α : Type} {c : α → D} {eg : EG} {eb : ES} {dead : List Nat} {Inv : Nat → DL.Env → Prop} {k : Kn} {M : Nat} : ∀ {xs : List α} {i : Nat} {env : DL.Env}, i + xs.length ≤ M →
    (∀ i a env, a ∈ xs → ∀ K' : Kn, i < M → Inv i env → (∀ e, Inv (i + 1) (forg e dead) → K'.nx e) → eg (c a) env fun env1 => eb env1 K') → (∀ env, Inv (i + xs.length) env → k.nx env) → Inv i env → forGo eg eb dead (xs.map c) env k
  | [], i, env, _, _, hk, hi => hk env hi
  | x :: xs, i, env, hN, h, hk, hi => h i x env (List.mem_cons_self ..) _ (by rw [List.length_cons] at hN; omega) hi fun e he => (show forGo eg eb dead (xs.map c) (forg e dead) k from for_invM (xs := xs) (i := i + 1) (by rw [List.length_cons] at hN; omega) (fun i a env ha => h i a env (List.mem_cons_of_mem _ ha)) (fun env h2 => hk env (by rw [show i + (x :: xs).length = i + 1 + xs.length by rw [List.length_cons]; omega]; exact h2)) he)
theorem cut_one {α : Type} (g : α → D) (l : List α) : DL.cutD (l.map g) (some (1 : Int)) none = l.tail.map g := by
  show DL.cutD (l.map g) (some ((1 : Nat) : Int)) none = l.tail.map g
  unfold DL.cutD
  rw [HT.sIx_nat, HT.sIx_none, List.length_map]
  cases l with
  | nil => rfl
  | cons a l =>
    rw [Nat.min_eq_left (by simp), ← List.map_drop, List.take_of_length_le (by simp)]
    rfl
def Ask (N : List Nat) (xs : List Ld) : Prop := xs.length ≤ 20 ∧ ∀ x ∈ xs, GoodL N x ∧ size x ≤ 20
theorem c_loads {pa pl : List D → (List D → Prop) → Prop} {lo pk : List D → DK → Prop} {L : TM.Lanes} {N : List Nat} {y m pn : Nat} {ls rs : List Ld} {K1 : Kn} (dk : Dk N m pn ls rs) (hm : m ≤ 6)
    (hpa : ∀ k : List D → Prop, k ((pairsN N).map dPr) → pa [lnD L, nN y] k) (hlo : ∀ n, n ≤ 20 → ∀ k : DK, (∀ l : Ld, GoodL N l → size l = n → k (dLd l)) → lo [.lst ((pairsN N).map dPr), nN n] k)
    (hpk : ∀ k : DK, (∀ p ∈ pairsN N, k (dPr p)) → pk [.lst ((pairsN N).map dPr)] k)
    (hpl : ∀ l : Ld, GoodL N l → size l ≤ 19 → ∀ p ∈ pairsN N, ∀ k : List D → Prop, (GoodL N (addL l p.1 p.2) → k ((addL l p.1 p.2).map dEn)) → pl [dLd l, dPr p] k)
    (hk : ∀ xs, Ask N xs → K1.rf (xs.map dLd)) :
    (sSeq (sAsg (eF (eCallF 2 pa (eaCons (eVar 1) (eaCons (eVar 2) eaNil)))) (egName 4)) (sSeq (sAsgF 5 (eLst (eaCons (eF (eLst eaNil)) (eaCons (eCallP 0 2 lo (eaCons (eVar 4) (eaCons (eC (.int 1)) eaNil))) (eaCons (eCallP 0 2 lo (eaCons (eVar 4) (eaCons (eC (.int 2)) eaNil))) (eaCons (eCallP 0 2 lo (eaCons (eVar 4) (eaCons (eC (.int 3)) eaNil))) (eaCons (eCallP 0 2 lo (eaCons (eVar 4) (eaCons (eOp addU (eOp ixD (eVar 3) (eC (.int 0))) (eC (.int 1))) eaNil))) eaNil))))))) (sSeq (sFor (eSeq (eOp addU (eOp ixD (eVar 3) (eC (.int 1))) (eOp ixD (eVar 3) (eC (.int 2))))) (egName 6) (sSeq (sApp 5 (eVar 6)) (sSeq (sApp 5 (eF (eCallF 2 pl (eaCons (eVar 6) (eaCons (eCallP 0 1 pk (eaCons (eVar 4) eaNil)) eaNil))))) (sApp 5 (eSl slU (eVar 6) (eP (eC (.int 1))) eNoP)))) [6]) (sRetM 5))))
      [.pot, .val (lnD L), .val (nN y), .val (.tup [nN pn, .lst (ls.map dLd), .lst (rs.map dLd)]), .un, .un, .un] K1 := by
  have p2 := dk.p2
  have l2 := dk.l2
  have r2 := dk.r2
  refine And.intro rfl (hpa _ ?_)
  simp only [egName, List.set_cons_succ, List.set_cons_zero]
  refine And.intro (show 0 ≤ 100000 by decide) (And.intro rfl (And.intro rfl (hlo 1 (by decide) _ fun l1 g1 s1 => ?_)))
  refine And.intro rfl (And.intro rfl (hlo 2 (by decide) _ fun l2 g2 s2 => ?_))
  refine And.intro rfl (And.intro rfl (hlo 3 (by decide) _ fun l3 g3 s3 => ?_))
  refine And.intro rfl ?_
  refine (show ixD (.tup [nN pn, .lst (ls.map dLd), .lst (rs.map dLd)]) (nN 0) _ from ix_tup (i := 0) (d := nN pn) rfl ?_)
  simp only [eC]
  refine (show addU (nN pn) (nN 1) _ from add_N ?_)
  refine And.intro rfl (hlo (pn + 1) (by omega) _ fun l4 g4 s4 => ?_)
  refine And.intro (show 5 ≤ 100000 by decide) ?_
  simp only [List.set_cons_succ, List.set_cons_zero]
  have start : Ask N [[], l1, l2, l3, l4] := ⟨(by show 5 ≤ 20; decide), fun x hx => by
    simp only [List.mem_cons, List.not_mem_nil, or_false] at hx
    rcases hx with rfl | rfl | rfl | rfl | rfl
    · exact ⟨GoodL.nil N, Nat.zero_le _⟩
    · exact ⟨g1, by omega⟩
    · exact ⟨g2, by omega⟩
    · exact ⟨g3, by omega⟩
    · exact ⟨g4, by omega⟩⟩
  have ga : ∀ a ∈ ls ++ rs, GoodL N a ∧ size a ≤ 7 := fun a ha => by
    rcases List.mem_append.mp ha with z | z
    · obtain ⟨u, v⟩ := dk.lg a z
      exact ⟨u, by omega⟩
    · obtain ⟨u, _, v, _⟩ := dk.rg a z
      exact ⟨u, by omega⟩
  refine it_sq (t := false) (l := (ls ++ rs).map dLd) (fun kk h => ?_) ?_
  · refine (show ixD (.tup [nN pn, .lst (ls.map dLd), .lst (rs.map dLd)]) (nN 1) _ from ix_tup (i := 1) (d := .lst (ls.map dLd)) rfl ?_)
    refine (show ixD (.tup [nN pn, .lst (ls.map dLd), .lst (rs.map dLd)]) (nN 2) _ from ix_tup (i := 2) (d := .lst (rs.map dLd)) rfl ?_)
    refine And.intro (by rw [List.length_map, List.length_map]; omega) ?_
    rw [← List.map_append]
    exact h
  refine for_invM (Inv := fun i env => ∃ fs : List Ld, fs.length = 5 + 3 * i ∧ (∀ x ∈ fs, GoodL N x ∧ size x ≤ 20) ∧ env = [.pot, .val (lnD L), .val (nN y), .val (.tup [nN pn, .lst (ls.map dLd), .lst (rs.map dLd)]), .val (.lst ((pairsN N).map dPr)), .ml (fs.map dLd), .un]) (i := 0) (M := 4) (by rw [List.length_append]; omega) (fun i a env ha K' hi hv hn2 => ?_) (fun env hv => ?_) ⟨[[], l1, l2, l3, l4], rfl, start.2, rfl⟩
  · obtain ⟨fs, h1, h2, rfl⟩ := hv
    obtain ⟨u, v⟩ := ga a ha
    simp only [egName, List.set_cons_succ, List.set_cons_zero]
    refine And.intro (by rw [List.length_map]; omega) ?_
    simp only [List.set_cons_succ, List.set_cons_zero]
    refine And.intro rfl (And.intro rfl (hpk _ fun p hp => ?_))
    refine And.intro rfl (hpl a u (by omega) p hp _ fun gg => ?_)
    refine And.intro (by rw [List.length_append, List.length_map]; simp; omega) ?_
    simp only [List.set_cons_succ, List.set_cons_zero]
    have test : ∀ (F : List D) (kk : DK), kk (dLd a.tail) → eSl slU (eVar 6) (eP (eC (.int 1))) eNoP [.pot, .val (lnD L), .val (nN y), .val (.tup [nN pn, .lst (ls.map dLd), .lst (rs.map dLd)]), .val (.lst ((pairsN N).map dPr)), .ml F, .val (dLd a)] kk := fun F kk h => by
      show kk (.lst (DL.cutD (a.map dEn) (some (1 : Int)) none))
      rw [cut_one]
      exact h
    refine test _ _ ?_
    refine And.intro (by rw [List.length_append, List.length_append, List.length_map]; simp; omega) (hn2 _ ⟨fs ++ [a] ++ [addL a p.1 p.2] ++ [a.tail], by simp; omega, fun x hx => ?_, ?_⟩)
    · simp only [List.mem_append, List.mem_singleton] at hx
      rcases hx with ((z | rfl) | rfl) | rfl
      · exact h2 x z
      · exact ⟨u, by omega⟩
      · exact ⟨gg, by rw [size_add]; omega⟩
      · cases a with
        | nil => exact ⟨u, by decide⟩
        | cons e l => exact ⟨good_tail u, by rw [size_cons] at v; show size l ≤ 20; omega⟩
    · rw [List.map_append, List.map_append, List.map_append]; rfl
  · obtain ⟨fs, h1, h2, rfl⟩ := hv
    exact hk fs ⟨by rw [h1, List.length_append]; omega, h2⟩
theorem p_loads {L : TM.Lanes} {N : List Nat} {y m pn : Nat} {ls rs : List Ld} {k : List D → Prop} (hL : L.length ≤ 1000) (h : NOk L y N) (hne : 0 < (pairsN N).length) (hm : m ≤ 6) (dk : Dk N m pn ls rs) (hk : ∀ xs, Ask N xs → k (xs.map dLd)) : d_l_loads [lnD L, nN y, .tup [nN pn, .lst (ls.map dLd), .lst (rs.map dLd)]] k := by
  have hN := h.ad
  subst hN
  have h1 := h.len
  have h2 := pairs_len (adj L y)
  have h3 : (adj L y).length * (adj L y).length ≤ 3 * 3 := Nat.mul_le_mul h1 h1
  show e_l_loads [.pot, .val (lnD L), .val (nN y), .val (.tup [nN pn, .lst (ls.map dLd), .lst (rs.map dLd)]), .un, .un, .un] (knF k)
  unfold e_l_loads
  exact c_loads dk hm (fun k hk => p_pairs hL (by omega) hk) (fun n hn k hk => p_load h.sm hne (by omega) (fun p hp => hp) hn hk) (fun k hk => p_pick hne (by omega) hk)
    (fun l g hs p hp k hk => p_plusG h.sm g (by omega) hp (hk (good_add h.sm g (by omega) hp))) hk
end K61
set_option Elab.async false
set_option linter.all false
set_option maxRecDepth 100000
set_option maxHeartbeats 1000000
namespace K61
open PySem PySem.Spec PyProof.Rows L2 DL PySem.W
open TM (Ent Ld Sm SmL c3 tsort addL others withinL carts okO GoodL pairsN standP withP put standsB sm6 adj yardsL isort)
def wD (b : Bool) : D := .str (if b = true then "let" else "refused")
theorem eq_let {b : Bool} {k : DK} (hk : k (.bl b)) : eqD (wD b) (.str "let") k := by
  cases b with
  | true => exact eq_str (by decide +kernel) hk
  | false =>
    refine And.intro ⟨rfl, rfl, by decide +kernel, by decide +kernel⟩ ?_
    rw [show PyData.eqv (toPy (wD false)) (toPy (.str "let")) = false by decide +kernel]
    exact hk
theorem eq_refused {b : Bool} {k : DK} (hk : k (.bl (!b))) : eqD (wD b) (.str "refused") k := by
  cases b with
  | false => exact eq_str (by decide +kernel) hk
  | true =>
    refine And.intro ⟨rfl, rfl, by decide +kernel, by decide +kernel⟩ ?_
    rw [show PyData.eqv (toPy (wD true)) (toPy (.str "refused")) = false by decide +kernel]
    exact hk
theorem word_in {b : Bool} {k : DK} (hk : k (.bl false)) : inD true (wD b) (.tup [.str "let", .str "refused"]) k := by
  cases b with
  | true =>
    refine ⟨_, rfl, .inl ⟨.str "let", [.str "let", .str "refused"], rfl, rfl, ?_⟩⟩
    rw [show L2.inV (.str "let") [.str "let", .str "refused"] = true by decide +kernel]
    exact hk
  | false =>
    refine ⟨_, rfl, .inl ⟨.str "refused", [.str "let", .str "refused"], rfl, rfl, ?_⟩⟩
    rw [show L2.inV (.str "refused") [.str "let", .str "refused"] = true by decide +kernel]
    exact hk
theorem list_of {x : Bool × Ld} {i : Nat} {env : DL.Env} {k : DK} (hi : env[i]? = some (.val (dLt x))) (hk : k (dLd x.2)) : eF (eUnF listF (eVar i)) env k := by
  unfold eF eUnF eVar
  rw [hi]
  obtain ⟨t, l⟩ := x
  cases t with
  | true => exact hk
  | false => exact hk
section
variable {L : TM.Lanes} {ys N : List Nat} {y : Nat} {gk : Gk} {x : Bool × Ld} {b : Bool}
def nE (L : TM.Lanes) (y : Nat) (gk : Gk) (x : Bool × Ld) (b : Bool) : DL.Env := [.val (.ob (.cty L)), .val (nN y), .val gk.d, .val (dLt x), .val (wD b), .un, .un, .un, .un, .un]
theorem c_noted1 {cy ck cl : List D → DK → Prop} {K1 : Kn} (h0 : ∀ k : DK, k .non → cy [.ob (.cty L), nN y] k) (h1 : ∀ k : DK, k .non → ck [.ob (.cty L), nN y, gk.d] k) (h2 : ∀ k : DK, k .non → cl [.ob (.cty L), nN y, dLt x] k) (hk : K1.nx (nE L y gk x b)) :
    (sSeq (sDrop (eCall 2 cy (eaCons (eVar 0) (eaCons (eVar 1) eaNil)))) (sSeq (sDrop (eCall 3 ck (eaCons (eVar 0) (eaCons (eVar 1) (eaCons (eVar 2) eaNil))))) (sSeq (sDrop (eCall 3 cl (eaCons (eVar 0) (eaCons (eVar 1) (eaCons (eVar 3) eaNil))))) (sIf (eOrT (eNotT (eB (eIsi "str" (eVar 4)))) (eB (eOp (inD true) (eVar 4) (eTup (eaCons (eC (.str "let")) (eaCons (eC (.str "refused")) eaNil)))))) sNever sNext))))
      (nE L y gk x b) K1 := by
  refine And.intro rfl (h0 _ (And.intro rfl (h1 _ (And.intro rfl (h2 _ ?_)))))
  simp only [sIf]
  refine t_or (x := false) (y := false) (fun kk h => t_yes (fun kk h => ⟨"str", true, rfl, by decide +kernel, h⟩) h) (fun kk h => ?_) ?_
  · refine And.intro (show 2 ≤ 100000 by decide) ?_
    exact (show inD true (wD b) (.tup [.str "let", .str "refused"]) _ from word_in h)
  rw [if_neg (by decide)]
  exact hk
theorem p_noted1 {K1 : Kn} (hy : yardsL L = ys) (hm : y ∈ ys) (h : NOk L y N) (o : gk.Ok N) (g : GoodL N x.2) (hs : size x.2 ≤ 900) (hk : K1.nx (nE L y gk x b)) : e_noted1 (nE L y gk x b) K1 := by
  have ok := few_ok (x := x) g hs
  unfold e_noted1
  exact c_noted1 (fun k hh => p_check_cy hy hm hh) (fun k hh => p_check_known h o hh) (fun k hh => p_check_load h g ok.1 hh) hk
def contrary (kn : Knw) (l : Ld) (b : Bool) : Bool := if b = true then refd kn l else surely kn l
theorem c_contrary {sl sr : List D → DK → Prop} {kk : Bool → Prop} (h3 : ∀ k : DK, k (.bl (surely gk.kn x.2)) → sl [gk.d, dLt x] k) (h4 : ∀ k : DK, k (.bl (refd gk.kn x.2)) → sr [gk.d, dLt x] k) (hk : kk (contrary gk.kn x.2 b)) :
    (eOrT (eAndT (eB (eOp eqD (eVar 4) (eC (.str "let")))) (eB (eCall 2 sr (eaCons (eVar 2) (eaCons (eVar 3) eaNil))))) (eAndT (eB (eOp eqD (eVar 4) (eC (.str "refused")))) (eB (eCall 2 sl (eaCons (eVar 2) (eaCons (eVar 3) eaNil)))))) (nE L y gk x b) kk := by
  have t1 : ∀ kk : Bool → Prop, kk b → eB (eOp eqD (eVar 4) (eC (.str "let"))) (nE L y gk x b) kk := fun kk h => by
    unfold eB eOp eC eVar nE
    simp only [List.getElem?_cons_succ, List.getElem?_cons_zero]
    exact (show eqD (wD b) (.str "let") _ from eq_let h)
  have t2 : ∀ kk : Bool → Prop, kk (!b) → eB (eOp eqD (eVar 4) (eC (.str "refused"))) (nE L y gk x b) kk := fun kk h => by
    unfold eB eOp eC eVar nE
    simp only [List.getElem?_cons_succ, List.getElem?_cons_zero]
    exact (show eqD (wD b) (.str "refused") _ from eq_refused h)
  refine t_or (x := b && refd gk.kn x.2) (y := !b && surely gk.kn x.2) (fun kk h => ?_) (fun kk h => ?_) ?_
  · exact t_and (x := b) (y := refd gk.kn x.2) t1 (fun kk h => And.intro rfl (h4 _ h)) h
  · exact t_and (x := !b) (y := surely gk.kn x.2) t2 (fun kk h => And.intro rfl (h3 _ h)) h
  · rw [show (b && refd gk.kn x.2 || !b && surely gk.kn x.2) = contrary gk.kn x.2 b by unfold contrary; cases b <;> simp]
    exact hk
theorem p_contrary {kk : Bool → Prop} (o : gk.Ok N) (g : GoodL N x.2) (hs : size x.2 ≤ 900) (hk : kk (contrary gk.kn x.2 b)) : t_noted1 (nE L y gk x b) kk := by
  have ok := few_ok (x := x) g hs
  unfold t_noted1
  exact c_contrary (fun k hh => p_surely o.sm ok hh) (fun k hh => p_refd o.sm ok hh) hk
theorem p_raised (hy : yardsL L = ys) (hm : y ∈ ys) (h : NOk L y N) (o : gk.Ok N) (g : GoodL N x.2) (hs : size x.2 ≤ 900) (hc : contrary gk.kn x.2 b = true) : x_noted [.ob (.cty L), nN y, gk.d, dLt x, wD b] := by
  show e_noted1 (nE L y gk x b) (knX t_noted1)
  exact p_noted1 hy hm h o g hs (show t_noted1 (nE L y gk x b) _ from p_contrary o g hs hc)
end
end K61
set_option Elab.async false
set_option linter.all false
set_option maxRecDepth 100000
set_option maxHeartbeats 1000000
namespace K61
open PySem PySem.Spec PyProof.Rows L2 DL PySem.W
open TM (Ent Ld Sm SmL c3 tsort addL others withinL carts okO GoodL pairsN standP withP put standsB sm6 adj yardsL isort)
def let2 (gk : Gk) (l : Ld) (b : Bool) : List Ld := if b = true then gk.kn.2.1 ++ [l] else gk.kn.2.1
def ref2 (gk : Gk) (l : Ld) (b : Bool) : List Ld := if b = true then gk.kn.2.2 else gk.kn.2.2 ++ [l]
theorem t_let {b : Bool} {env : DL.Env} {kk : Bool → Prop} (h4 : env[4]? = some (.val (wD b))) (h : kk b) : eB (eOp eqD (eVar 4) (eC (.str "let"))) env kk := by
  unfold eB eOp eC eVar
  rw [h4]
  exact (show eqD (wD b) (.str "let") _ from eq_let h)
section
variable {L : TM.Lanes} {ys N : List Nat} {y : Nat} {gk : Gk} {x : Bool × Ld} {b : Bool}
theorem p_noted2 {k : D → List D → List D → Prop} (o : gk.Ok N) (g : GoodL N x.2) (hs : size x.2 ≤ 900) (hc : contrary gk.kn x.2 b = false) (hl : (if b = true then gk.x1.length else gk.x2.length) < 12)
    (hk : k (nN gk.pl) ((let2 gk x.2 b).map dLd) ((ref2 gk x.2 b).map dLd)) : e_noted2 (nE L y gk x b) (knN 5 6 7 k) := by
  have l1 := o.l1
  have l2 := o.l2
  unfold e_noted2
  simp only [sSeq, sIf]
  refine p_contrary (b := b) o g hs ?_
  rw [hc, if_neg (by decide)]
  simp only [sNext, sPar3, emE, emF, eLc]
  refine (show ixD gk.d (nN 0) _ from ix_tup (i := 0) (d := nN gk.pl) rfl ?_)
  refine it_sq (t := gk.o1) (l := gk.x1.map dLt) (fun kk h => (show ixD gk.d (nN 1) kk from ix_tup (i := 1) rfl h)) ?_
  refine And.intro (by rw [List.length_map]; omega) ?_
  refine lc_map (g := fun q : Bool × Ld => dLd q.2) (fun q hq kk h => by
    simp only [eLcF, egName, eYes, if_true]
    exact list_of (x := q) rfl h) ?_
  refine it_sq (t := gk.o2) (l := gk.x2.map dLt) (fun kk h => (show ixD gk.d (nN 2) kk from ix_tup (i := 2) rfl h)) ?_
  refine And.intro (by rw [List.length_map]; omega) ?_
  refine lc_map (g := fun q : Bool × Ld => dLd q.2) (fun q hq kk h => by
    simp only [eLcF, egName, eYes, if_true]
    exact list_of (x := q) rfl h) ?_
  unfold sGrow
  refine t_let (b := b) rfl ?_
  have e1 : (gk.x1.map fun q : Bool × Ld => dLd q.2) = gk.kn.2.1.map dLd := by unfold Gk.kn; rw [List.map_map]; rfl
  have e2 : (gk.x2.map fun q : Bool × Ld => dLd q.2) = gk.kn.2.2.map dLd := by unfold Gk.kn; rw [List.map_map]; rfl
  rw [e1, e2]
  cases b with
  | true =>
    refine And.intro (show 8 < 10 by decide) (And.intro (by rw [← e1, List.length_map]; exact hl) (list_of (x := x) rfl ?_))
    refine ⟨_, _, _, rfl, rfl, rfl, ?_⟩
    rw [show (let2 gk x.2 true).map dLd = gk.kn.2.1.map dLd ++ [dLd x.2] by unfold let2; rw [if_pos rfl, List.map_append]; rfl] at hk
    exact hk
  | false =>
    refine And.intro (show 8 < 10 by decide) (And.intro (by rw [← e2, List.length_map]; exact hl) (list_of (x := x) rfl ?_))
    refine ⟨_, _, _, rfl, rfl, rfl, ?_⟩
    rw [show (ref2 gk x.2 false).map dLd = gk.kn.2.2.map dLd ++ [dLd x.2] by unfold ref2; rw [if_neg (by decide), List.map_append]; rfl] at hk
    exact hk
theorem p_noted {k : D → List D → List D → Prop} (hy : yardsL L = ys) (hm : y ∈ ys) (h : NOk L y N) (o : gk.Ok N) (g : GoodL N x.2) (hs : size x.2 ≤ 900) (hc : contrary gk.kn x.2 b = false) (hl : (if b = true then gk.x1.length else gk.x2.length) < 12)
    (hk : k (nN gk.pl) ((let2 gk x.2 b).map dLd) ((ref2 gk x.2 b).map dLd)) : d_noted [.ob (.cty L), nN y, gk.d, dLt x, wD b] k := by
  have two : ∀ {e f : ES} {K1 : Kn}, e (nE L y gk x b) { K1 with nx := fun env' => f env' K1 } → (sSeq e f) (nE L y gk x b) K1 := fun h => h
  show (sSeq e_noted1 e_noted2) (nE L y gk x b) (knN 5 6 7 k)
  exact two (p_noted1 hy hm h o g hs (p_noted2 o g hs hc hl hk))
end
end K61
set_option Elab.async false
set_option linter.all false
set_option maxRecDepth 100000
set_option maxHeartbeats 1000000
namespace K61
open PySem PySem.Spec PyProof.Rows L2 DL PySem.W
open TM (Ent Ld Sm SmL c3 tsort addL others withinL carts okO GoodL pairsN standP withP put standsB sm6 adj yardsL isort)
def gkL (pl : Nat) (ls rs : List Ld) : Gk := ⟨pl, false, ls.map fun l => (false, l), false, rs.map fun l => (false, l)⟩
theorem gkL_kn {pl : Nat} {ls rs : List Ld} : (gkL pl ls rs).kn = (pl, ls, rs) := by
  unfold Gk.kn gkL
  rw [List.map_map, List.map_map]
  show (pl, ls.map id, rs.map id) = _
  rw [List.map_id, List.map_id]
theorem gkL_d {pl : Nat} {ls rs : List Ld} : (gkL pl ls rs).d = .tup [nN pl, .lst (ls.map dLd), .lst (rs.map dLd)] := by
  unfold Gk.d gkL
  show D.tup [nN pl, .lst ((ls.map fun l => (false, l)).map dLt), .lst ((rs.map fun l => (false, l)).map dLt)] = _
  rw [List.map_map, List.map_map]
  rfl
theorem wi_self (l : Ld) : withinL l l = true := List.all_eq_true.mpr fun e he => decide_eq_true (TM.carts_mem he)
section
variable {N : List Nat} {pl : Nat} {ls rs : List Ld} {l : Ld} {b : Bool}
def let3 (ls : List Ld) (l : Ld) (b : Bool) : List Ld := if b = true then ls ++ [l] else ls
def ref3 (rs : List Ld) (l : Ld) (b : Bool) : List Ld := if b = true then rs else rs ++ [l]
theorem let2_L : let2 (gkL pl ls rs) l b = let3 ls l b := by unfold let2 let3; rw [gkL_kn]
theorem ref2_L : ref2 (gkL pl ls rs) l b = ref3 rs l b := by unfold ref2 ref3; rw [gkL_kn]
theorem new_ok (o : KnOk N (pl, ls, rs)) (g : GoodL N l) (hs : size l ≤ 100) (hc : contrary (pl, ls, rs) l b = false) : KnOk N (pl, let3 ls l b, ref3 rs l b) := by
  unfold contrary at hc
  cases b with
  | true =>
    rw [if_pos rfl] at hc
    refine ⟨o.p1, o.p2, fun m hm => ?_, fun r hr => ?_⟩
    · rcases List.mem_append.mp (show m ∈ ls ++ [l] from hm) with z | z
      · exact o.lg m z
      · rw [List.mem_singleton.mp z]
        refine ⟨g, ?_⟩
        by_cases c : size l ≤ pl
        · exact c
        · have := refd_iff.mpr (.inl (show (pl, ls, rs).1 < size l by show pl < size l; omega))
          rw [hc] at this; cases this
    · have hr : r ∈ rs := hr
      obtain ⟨a, c, d⟩ := o.rg r hr
      refine ⟨a, c, ?_⟩
      rw [Bool.eq_false_iff]
      intro z
      rw [Bool.eq_false_iff] at d
      rcases surely_iff.mp z with w | ⟨m, hm, w⟩
      · exact d (surely_iff.mpr (.inl w))
      · rcases List.mem_append.mp (show m ∈ ls ++ [l] from hm) with y | y
        · exact d (surely_iff.mpr (.inr ⟨m, y, w⟩))
        · rw [List.mem_singleton.mp y] at w
          rw [refd_iff.mpr (.inr ⟨r, hr, w⟩)] at hc
          cases hc
  | false =>
    rw [if_neg (by decide)] at hc
    refine ⟨o.p1, o.p2, o.lg, fun r hr => ?_⟩
    rcases List.mem_append.mp (show r ∈ rs ++ [l] from hr) with z | z
    · exact o.rg r z
    · rw [List.mem_singleton.mp z]
      exact ⟨g, hs, hc⟩
theorem new_sure (g : GoodL N l) (hc : contrary (pl, ls, rs) l b = false) : sureD (pl, let3 ls l b, ref3 rs l b) l = .bl b := by
  unfold contrary at hc
  unfold sureD
  cases b with
  | true => rw [if_pos (surely_iff.mpr (.inr ⟨l, by show l ∈ ls ++ [l]; simp, wi_self l⟩))]
  | false =>
    rw [if_neg (by decide)] at hc
    have s : surely (pl, let3 ls l false, ref3 rs l false) l = false := hc
    rw [s, if_neg (by decide), if_pos (refd_iff.mpr (.inr ⟨l, by show l ∈ rs ++ [l]; simp, wi_self l⟩))]
def sureO (kn : Knw) (l : Ld) : Option Bool := if surely kn l = true then some true else if refd kn l = true then some false else none
def oD : Option Bool → D
  | some b => .bl b
  | none => .non
theorem sure_o (kn : Knw) (l : Ld) : sureD kn l = oD (sureO kn l) := by
  unfold sureD sureO
  split
  · rfl
  · split <;> rfl
theorem sure_c (o : KnOk N (pl, ls, rs)) (g : GoodL N l) : decide (sureO (pl, ls, rs) l = some (!b)) = contrary (pl, ls, rs) l b := by
  unfold sureO contrary
  cases s : surely (pl, ls, rs) l with
  | true =>
    rw [if_pos rfl]
    have := sure_not o g s
    cases b <;> simp [this]
  | false =>
    rw [if_neg (by decide)]
    cases r : refd (pl, ls, rs) l <;> cases b <;> simp
end
theorem eq_off {x y : Str} {k : DK} (h1 : PyData.strOk x = true) (h2 : PyData.strOk y = true) (h : PyData.eqv (toPy (.str x)) (toPy (.str y)) = false) (hk : k (.bl false)) : eqD (.str x) (.str y) k := by
  refine And.intro ⟨rfl, rfl, shaped_str h1, shaped_str h2⟩ ?_
  rw [h]
  exact hk
theorem rep_o {o : Option Bool} {b : Bool} {ea eb : EE} {env : DL.Env} {k : DK} (he : ∀ kk : DK, kk (oD o) → ea env kk) (hb : ∀ kk : DK, kk (.bl (!b)) → eb env kk) (hk : k (.bl (decide (o = some (!b))))) : eOp eqD (eUn reprD ea) (eUn reprD eb) env k := by
  unfold eOp eUn
  refine he _ ?_
  rcases o with _ | ⟨_ | _⟩ <;> cases b
  · exact hb _ (show eqD (.str "None") (.str "True") k from eq_off (by decide +kernel) (by decide +kernel) (by decide +kernel) hk)
  · exact hb _ (show eqD (.str "None") (.str "False") k from eq_off (by decide +kernel) (by decide +kernel) (by decide +kernel) hk)
  · exact hb _ (show eqD (.str "False") (.str "True") k from eq_off (by decide +kernel) (by decide +kernel) (by decide +kernel) hk)
  · exact hb _ (show eqD (.str "False") (.str "False") k from eq_str (by decide +kernel) hk)
  · exact hb _ (show eqD (.str "True") (.str "True") k from eq_str (by decide +kernel) hk)
  · exact hb _ (show eqD (.str "True") (.str "False") k from eq_off (by decide +kernel) (by decide +kernel) (by decide +kernel) hk)
end K61
set_option Elab.async false
set_option linter.all false
set_option maxRecDepth 100000
set_option maxHeartbeats 2000000
namespace K61
open PySem PySem.Spec PyProof.Rows L2 DL PySem.W
open TM (Ent Ld Sm SmL c3 tsort addL others withinL carts okO GoodL pairsN standP withP put standsB sm6 adj yardsL isort)
theorem wr_en {e : Ent} (h1 : e.1 < 1024) (h2 : e.2.1 < 1024) (h3 : e.2.2 < 1024) : Wr (dEn e) 1 36 :=
  (wr_tup (wrA_cons (wr_nat (n := 0) h1) (wrA_cons (wr_nat h2) (wrA_cons (wr_nat h3) wrA_nil)))).up (Nat.le_refl _) (by omega)
theorem wr_ents {N : List Nat} (sN : ∀ x ∈ N, x < 1024) {l : Ld} (g : GoodL N l) (hs : size l ≤ 100) : WrA (l.map dEn) 1 3700 := by
  have hl := len_size g
  refine (wr_all (n := 1) (w := 36) fun e he => ?_).up (Nat.le_refl _) (by omega)
  obtain ⟨a, b⟩ := g.in_ e he
  have := TM.one_carts he
  unfold size at hs
  exact wr_en (sN _ a) (sN _ b) (by omega)
theorem wr_ld {N : List Nat} (sN : ∀ x ∈ N, x < 1024) {l : Ld} (g : GoodL N l) (hs : size l ≤ 100) : Wr (dLd l) 2 3700 := wr_lst (wr_ents sN g hs)
theorem wr_lt {N : List Nat} (sN : ∀ x ∈ N, x < 1024) {x : Bool × Ld} (g : GoodL N x.2) (hs : size x.2 ≤ 100) : Wr (dLt x) 2 3700 := by
  obtain ⟨t, l⟩ := x
  cases t with
  | true => exact wr_tup (wr_ents sN g hs)
  | false => exact wr_lst (wr_ents sN g hs)
theorem wr_ls {N : List Nat} (sN : ∀ x ∈ N, x < 1024) {o : Bool} {xs : List (Bool × Ld)} (hl : xs.length ≤ 12) (h : ∀ x ∈ xs, GoodL N x.2 ∧ size x.2 ≤ 100) : Wr (dLs o xs) 3 44412 := by
  have a : WrA (xs.map dLt) 2 44412 := (wr_all (n := 2) (w := 3700) fun x hx => wr_lt sN (h x hx).1 (h x hx).2).up (Nat.le_refl _) (by omega)
  cases o with
  | true => exact wr_tup a
  | false => exact wr_lst a
theorem wr_gk {N : List Nat} (sN : ∀ x ∈ N, x < 1024) {gk : Gk} (o : gk.Ok N) : Wr gk.d 4 90000 := by
  have p2 : gk.pl ≤ 6 := o.k.p2
  refine (wr_tup (wrA_cons (wr_nat (n := 3) (by omega)) (wrA_cons (wr_ls sN o.l1 fun x hx => ?_) (wrA_cons (wr_ls sN o.l2 fun x hx => ?_) wrA_nil)))).up (Nat.le_refl _) (by omega)
  · obtain ⟨a, b⟩ := o.g1 x hx
    exact ⟨a, by omega⟩
  · obtain ⟨a, b, _⟩ := o.g2 x hx
    exact ⟨a, b⟩
theorem t_rep {ea eb : EE} {env : DL.Env} {l : List D} {n w : Nat} {k : Bool → Prop} (h : Wr (.lst l) n w) (hn : n ≤ 60) (hw : w ≤ 1000000) (he : ∀ kk : DK, kk (.lst l) → ea env kk) (hb : ∀ kk : DK, kk (.lst l) → eb env kk) (hk : k false) : eB (eOp neD (eUn reprD ea) (eUn reprD eb)) env k := by
  unfold eB eOp eUn
  exact he _ (And.intro (h.wr hn hw) (hb _ (And.intro (h.wr hn hw) (ne_str h.so hk))))
structure Sx (N : List Nat) (g : Nat) (gk : Gk) (po : Option (Ld × Nat)) (fo : Option (List Ld)) : Prop where
  p_ : plugL gk.kn N g = po
  f_ : freeL gk.kn N g = fo
  wp : Wr (plugD po) 3 4000
  wf : Wr (freeD fo) 3 80000
  ft : ∀ F, fo = some F → F.length ≤ 300 ∧ ∀ l ∈ F, GoodL N l ∧ size l ≤ 12
end K61
set_option Elab.async false
set_option linter.all false
set_option maxRecDepth 100000
set_option maxHeartbeats 1000000
namespace K61
open PySem PySem.Spec PyProof.Rows L2 DL PySem.W
open TM (Ent Ld Sm SmL c3 tsort addL others withinL carts okO GoodL pairsN standP withP put standsB sm6 adj yardsL isort)
theorem add_gen {ea eb : EE} {env : DL.Env} {A B : List D} {k : DK} (ha : ∀ kk : DK, kk (.lst A) → ea env kk) (hb : ∀ kk : DK, kk (.lst B) → eb env kk) (n : A.length + B.length ≤ 100000) (hk : k (.lst (A ++ B))) : eOp addU (eF (eUnF listF ea)) eb env k := ha _ (hb _ (And.intro n hk))
theorem if_gen {c : EB} {e1 e2 : EE} {env : DL.Env} {k : DK} {x : Bool} (hc : ∀ kk : Bool → Prop, kk x → c env kk) (h1 : x = true → e1 env k) (h2 : x = false → e2 env k) : eIf c e1 e2 env k := hc _ (by
  cases x with
  | true => exact h1 rfl
  | false => exact h2 rfl)
theorem and_e2 {e f : EE} {env : DL.Env} {k : DK} (he : ∀ kk : DK, kk (.bl true) → e env kk) (hf : ∀ kk : DK, kk (.bl true) → f env kk) (hk : k (.bl true)) : eAnd e f env k := he _ (hf _ hk)
section
variable {L : TM.Lanes} {ys N : List Nat} {y pl : Nat} {ls rs : List Ld} {l : Ld} {b : Bool}
theorem gkL_ok (o : KnOk N (pl, ls, rs)) (l1 : ls.length ≤ 12) (l2 : rs.length ≤ 12) : (gkL pl ls rs).Ok N :=
  ⟨by rw [gkL_kn]; exact o, by show (ls.map _).length ≤ 12; rw [List.length_map]; exact l1, by show (rs.map _).length ≤ 12; rw [List.length_map]; exact l2⟩
def shW (pl : Nat) (ls rs : List Ld) (l : Ld) : D := .str (toPy (.lst [(gkL pl ls rs).d, dLd l])).shown
theorem shw_wr (sN : ∀ x ∈ N, x < 1024) (O : (gkL pl ls rs).Ok N) (g : GoodL N l) (hs : size l ≤ 20) : Wr (.lst [(gkL pl ls rs).d, dLd l]) 5 100000 :=
  (wr_lst (wrA_cons (wr_gk sN O) (wrA_cons ((wr_ld sN g (by omega)).up (by omega) (Nat.le_refl _)) wrA_nil))).up (Nat.le_refl _) (by omega)
def fE (L : TM.Lanes) (y pl : Nat) (ls rs : List Ld) (l : Ld) (b : Bool) (s7 s8 s9 : SV) : DL.Env := [.val (.ob (.cty L)), .val (nN y), .val (gkL pl ls rs).d, .val (dLd l), .val (wD b), .val (sureD (gkL pl ls rs).kn l), .val (shW pl ls rs l), s7, s8, s9]
theorem rd_shown {env : DL.Env} {k : DK} (h2 : env[2]? = some (.val (gkL pl ls rs).d)) (h3 : env[3]? = some (.val (dLd l))) (sN : ∀ x ∈ N, x < 1024) (O : (gkL pl ls rs).Ok N) (g : GoodL N l) (hs : size l ≤ 20) (hk : k (shW pl ls rs l)) : eUn reprD (eF (eLst (eaCons (eVar 2) (eaCons (eVar 3) eaNil)))) env k := by
  unfold eUn eF eLst
  simp only [eaCons, eaNil, eVar, h2, h3]
  exact And.intro (show 2 ≤ 100000 by decide) (And.intro ((shw_wr sN O g hs).wr (by decide) (by decide)) hk)
theorem rd_word {env : DL.Env} {k : DK} (h4 : env[4]? = some (.val (wD b))) (hk : k (.bl (!b))) : eOp eqD (eVar 4) (eC (.str "refused")) env k := by
  unfold eOp eC eVar
  rw [h4]
  exact (show eqD (wD b) (.str "refused") _ from eq_refused hk)
theorem rd_let {env : DL.Env} {k : DK} (h4 : env[4]? = some (.val (wD b))) (hk : k (.bl b)) : eOp eqD (eVar 4) (eC (.str "let")) env k := by
  unfold eOp eC eVar
  rw [h4]
  exact (show eqD (wD b) (.str "let") _ from eq_let hk)
theorem rd_sure {s7 s8 s9 : SV} {k : DK} (o : KnOk N (pl, ls, rs)) (g : GoodL N l) (hk : k (.bl (contrary (pl, ls, rs) l b))) : eOp eqD (eUn reprD (eVar 5)) (eUn reprD (eOp eqD (eVar 4) (eC (.str "refused")))) (fE L y pl ls rs l b s7 s8 s9) k := by
  refine rep_o (o := sureO (gkL pl ls rs).kn l) (b := b) (fun kk h => ?_) (fun kk h => rd_word rfl h) ?_
  · unfold eVar fE
    simp only [List.getElem?_cons_succ, List.getElem?_cons_zero]
    rw [sure_o]
    exact h
  · rw [gkL_kn, sure_c o g]
    exact hk
theorem p_lnr0 {K1 : Kn} (sN : ∀ x ∈ N, x < 1024) (O : (gkL pl ls rs).Ok N) (g : GoodL N l) (hs : size l ≤ 20) (hk : K1.nx (fE L y pl ls rs l b .un .un .un)) : e_lnr0 [.val (.ob (.cty L)), .val (nN y), .val (gkL pl ls rs).d, .val (dLd l), .val (wD b), .un, .un, .un, .un, .un] K1 := by
  have main : ∀ {su : List D → DK → Prop} {K1 : Kn}, (∀ k : DK, k (sureD (gkL pl ls rs).kn l) → su [(gkL pl ls rs).d, dLd l] k) → K1.nx (fE L y pl ls rs l b .un .un .un) →
      (sPar 5 6 (emE (eCall 2 su (eaCons (eVar 2) (eaCons (eVar 3) eaNil)))) (emE (eUn reprD (eF (eLst (eaCons (eVar 2) (eaCons (eVar 3) eaNil))))))) [.val (.ob (.cty L)), .val (nN y), .val (gkL pl ls rs).d, .val (dLd l), .val (wD b), .un, .un, .un, .un, .un] K1 := fun {su K1} h hk => by
    refine And.intro rfl (h _ ?_)
    exact rd_shown (N := N) rfl rfl sN O g hs hk
  unfold e_lnr0
  exact main (fun k h => p_sureL O g (by omega) h) hk
theorem p_lnrC {k : DK} (sN : ∀ x ∈ N, x < 1024) (o : KnOk N (pl, ls, rs)) (O : (gkL pl ls rs).Ok N) (g : GoodL N l) (hs : size l ≤ 20) (hc : contrary (pl, ls, rs) l b = true) (hk : k (.bl true)) : e_lnrC (fE L y pl ls rs l b .un .un .un) k := by
  unfold e_lnrC
  refine and_e2 (fun kk h => ?_) (fun kk h => ?_) hk
  · refine rd_sure o g ?_
    rw [hc]
    exact h
  · unfold eOp
    refine rd_shown (N := N) rfl rfl sN O g hs ?_
    exact (show eqD (shW pl ls rs l) (shW pl ls rs l) _ from eq_str (shw_wr sN O g hs).so h)
theorem p_lnr2 {s7 s8 s9 : SV} {k : DK} (l1 : ls.length ≤ 12) (hk : k (.lst ((let3 ls l b).map dLd))) : e_lnr2 (fE L y pl ls rs l b s7 s8 s9) k := by
  unfold e_lnr2
  refine add_gen (A := ls.map dLd) (B := if b = true then [dLd l] else []) (fun kk h => ?_) (fun kk h => ?_) ?_ ?_
  · unfold eOp eC eVar fE
    simp only [List.getElem?_cons_succ, List.getElem?_cons_zero]
    rw [gkL_d]
    exact (show ixD (.tup [nN pl, .lst (ls.map dLd), .lst (rs.map dLd)]) (nN 1) _ from ix_tup (i := 1) (d := .lst (ls.map dLd)) rfl h)
  · refine if_gen (x := b) (fun kk h => rd_let (b := b) rfl h) (fun e => ?_) (fun e => ?_)
    · rw [e, if_pos rfl] at h
      exact And.intro (show 1 ≤ 100000 by decide) h
    · rw [e, if_neg (by decide)] at h
      exact And.intro (show 0 ≤ 100000 by decide) h
  · rw [List.length_map]; cases b <;> simp <;> omega
  · have e : (let3 ls l b).map dLd = ls.map dLd ++ (if b = true then [dLd l] else []) := by
      unfold let3
      cases b with
      | true => rw [if_pos rfl, if_pos rfl, List.map_append]; rfl
      | false => rw [if_neg (by decide), if_neg (by decide), List.append_nil]
    rw [e] at hk
    exact hk
theorem p_lnr3 {s7 s8 s9 : SV} {k : DK} (l2 : rs.length ≤ 12) (hk : k (.lst ((ref3 rs l b).map dLd))) : e_lnr3 (fE L y pl ls rs l b s7 s8 s9) k := by
  unfold e_lnr3
  refine add_gen (A := rs.map dLd) (B := if b = true then [] else [dLd l]) (fun kk h => ?_) (fun kk h => ?_) ?_ ?_
  · unfold eOp eC eVar fE
    simp only [List.getElem?_cons_succ, List.getElem?_cons_zero]
    rw [gkL_d]
    exact (show ixD (.tup [nN pl, .lst (ls.map dLd), .lst (rs.map dLd)]) (nN 2) _ from ix_tup (i := 2) (d := .lst (rs.map dLd)) rfl h)
  · refine if_gen (x := !b) (fun kk h => rd_word (b := b) rfl h) (fun e => ?_) (fun e => ?_)
    · have e : b = false := by simpa using e
      rw [e, if_neg (by decide)] at h
      exact And.intro (show 1 ≤ 100000 by decide) h
    · have e : b = true := by simpa using e
      rw [e, if_pos rfl] at h
      exact And.intro (show 0 ≤ 100000 by decide) h
  · rw [List.length_map]; cases b <;> simp <;> omega
  · have e : (ref3 rs l b).map dLd = rs.map dLd ++ (if b = true then [] else [dLd l]) := by
      unfold ref3
      cases b with
      | true => rw [if_pos rfl, if_pos rfl, List.append_nil]
      | false => rw [if_neg (by decide), if_neg (by decide), List.map_append]; rfl
    rw [e] at hk
    exact hk
theorem told_eq : D.tup [nN (gkL pl ls rs).pl, .lst ((let2 (gkL pl ls rs) l b).map dLd), .lst ((ref2 (gkL pl ls rs) l b).map dLd)] = (gkL pl (let3 ls l b) (ref3 rs l b)).d := by
  rw [let2_L, ref2_L, gkL_d]
  rfl
theorem rd_due {env : DL.Env} {k : DK} (h2 : env[2]? = some (.val (gkL pl ls rs).d)) (h8 : env[8]? = some (.val (.lst ((let3 ls l b).map dLd)))) (h9 : env[9]? = some (.val (.lst ((ref3 rs l b).map dLd)))) (sN : ∀ x ∈ N, x < 1024) (O' : (gkL pl (let3 ls l b) (ref3 rs l b)).Ok N) (hk : k (.str (toPy (gkL pl (let3 ls l b) (ref3 rs l b)).d).shown)) :
    eUn reprD (eTup (eaCons (eOp ixD (eVar 2) (eC (.int 0))) (eaCons (eVar 8) (eaCons (eVar 9) eaNil)))) env k := by
  unfold eUn eTup eOp eC
  simp only [eaCons, eaNil, eVar, h2, h8, h9]
  rw [gkL_d]
  refine (show ixD (.tup [nN pl, .lst (ls.map dLd), .lst (rs.map dLd)]) (nN 0) _ from ix_tup (i := 0) (d := nN pl) rfl ?_)
  refine And.intro (show 3 ≤ 100000 by decide) ?_
  have w := (wr_gk sN O').wr (show 4 ≤ 60 by decide) (show 90000 ≤ 1000000 by decide)
  rw [gkL_d] at w hk
  exact And.intro w hk
end
end K61
set_option Elab.async false
set_option linter.all false
set_option maxRecDepth 100000
set_option maxHeartbeats 1000000
namespace K61
open PySem PySem.Spec PyProof.Rows L2 DL PySem.W
open TM (Ent Ld Sm SmL c3 tsort addL others withinL carts okO GoodL pairsN standP withP put standsB sm6 adj yardsL isort)
theorem iteF2 {p q : Prop} (h : q) : (if (false : Bool) = true then p else q) := by rw [if_neg (by decide)]; exact h
section
variable {L : TM.Lanes} {ys N : List Nat} {y pl : Nat} {ls rs : List Ld} {l : Ld} {b : Bool}
abbrev gE (L : TM.Lanes) (y pl : Nat) (ls rs : List Ld) (l : Ld) (b : Bool) (s7 : SV) : DL.Env := fE L y pl ls rs l b s7 (.val (.lst ((let3 ls l b).map dLd))) (.val (.lst ((ref3 rs l b).map dLd)))
abbrev newD (pl : Nat) (ls rs : List Ld) (l : Ld) (b : Bool) : D := (gkL pl (let3 ls l b) (ref3 rs l b)).d
theorem rep_d {ea : EE} {env : DL.Env} {k : DK} (sN : ∀ x ∈ N, x < 1024) (O' : (gkL pl (let3 ls l b) (ref3 rs l b)).Ok N) (he : ∀ kk : DK, kk (newD pl ls rs l b) → ea env kk) (hk : k (.str (toPy (newD pl ls rs l b)).shown)) : eUn reprD ea env k := by
  unfold eUn
  refine he _ ?_
  have w := (wr_gk sN O').wr (show 4 ≤ 60 by decide) (show 90000 ≤ 1000000 by decide)
  unfold newD at hk ⊢
  rw [gkL_d] at w hk ⊢
  exact And.intro w hk
theorem p_lnr4 {kk : Bool → Prop} (sN : ∀ x ∈ N, x < 1024) (o : KnOk N (pl, ls, rs)) (O : (gkL pl ls rs).Ok N) (O' : (gkL pl (let3 ls l b) (ref3 rs l b)).Ok N) (g : GoodL N l) (hs : size l ≤ 20) (hc : contrary (pl, ls, rs) l b = false) (hk : kk false) : e_lnr4 (gE L y pl ls rs l b (.val (newD pl ls rs l b))) kk := by
  unfold e_lnr4
  refine t_or (x := false) (y := false) (fun kk h => ?_) (fun kk h => t_or (x := false) (y := false) (fun kk h => ?_) (fun kk h => ?_) h) hk
  · unfold eB
    refine rd_sure o g ?_
    rw [hc]
    exact h
  · have main : ∀ {X Y : EE} {s : Str} {env : DL.Env}, (∀ kk : DK, kk (.str s) → X env kk) → (∀ kk : DK, kk (.str s) → Y env kk) → PyData.strOk s = true → eB (eOp neD X Y) env kk := fun hX hY so => hX _ (hY _ (ne_str so h))
    exact main (fun kk h => rep_d sN O' (fun kk h => h) h) (fun kk h => rd_due rfl rfl rfl sN O' h) (wr_gk sN O').so
  · have main : ∀ {X Y : EE} {s : Str} {env : DL.Env}, (∀ kk : DK, kk (.str s) → X env kk) → (∀ kk : DK, kk (.str s) → Y env kk) → PyData.strOk s = true → eB (eOp neD X Y) env kk := fun hX hY so => hX _ (hY _ (ne_str so h))
    exact main (fun kk h => rd_shown (N := N) rfl rfl sN O g hs h) (fun kk h => h) (shw_wr sN O g hs).so
theorem p_lnr5 {kk : Bool → Prop} (hy : yardsL L = ys) (hm : y ∈ ys) (h : NOk L y N) (O' : (gkL pl (let3 ls l b) (ref3 rs l b)).Ok N) (g : GoodL N l) (hs : size l ≤ 20) (hc : contrary (pl, ls, rs) l b = false) (hk : kk false) : e_lnr5 (gE L y pl ls rs l b (.val (newD pl ls rs l b))) kk := by
  have main : ∀ {ik il : List D → DK → Prop}, (∀ k : DK, k (.bl true) → ik [.ob (.cty L), nN y, newD pl ls rs l b] k) → (∀ k : DK, k (.bl b) → il [.ob (.cty L), nN y, newD pl ls rs l b, dLd l] k) →
      (eB (eOp neD (eUn reprD (eF (eLst (eaCons (eCall 3 ik (eaCons (eVar 0) (eaCons (eVar 1) (eaCons (eVar 7) eaNil)))) (eaCons (eCall 4 il (eaCons (eVar 0) (eaCons (eVar 1) (eaCons (eVar 7) (eaCons (eVar 3) eaNil))))) eaNil))))) (eUn reprD (eF (eLst (eaCons (eC (.bl true)) (eaCons (eOp eqD (eVar 4) (eC (.str "let"))) eaNil))))))) (gE L y pl ls rs l b (.val (newD pl ls rs l b))) kk := fun {ik il} h1 h2 => by
    have W : Wr (.lst [.bl true, .bl b]) 1 2 := (wr_lst (wrA_cons (wr_bl (n := 0)) (wrA_cons wr_bl wrA_nil))).up (Nat.le_refl _) (Nat.le_refl _)
    refine t_rep W (by decide) (by decide) (fun kk h => ?_) (fun kk h => ?_) hk
    · exact And.intro rfl (h1 _ (And.intro rfl (h2 _ (And.intro (show 2 ≤ 100000 by decide) h))))
    · have two : ∀ {X : EE} {env : DL.Env}, (∀ kk : DK, kk (.bl b) → X env kk) → eF (eLst (eaCons (eC (.bl true)) (eaCons X eaNil))) env kk := fun hX => hX _ (And.intro (show 2 ≤ 100000 by decide) h)
      exact two fun kk h => rd_let (b := b) rfl h
  unfold e_lnr5
  refine main (fun k hh => p_is_known hy hm h O' hh) (fun k hh => ?_)
  refine (show d_is_let [.ob (.cty L), nN y, newD pl ls rs l b, dLt (false, l)] k from p_is_let (x := (false, l)) hy hm h O' g (by show size l ≤ 900; omega) ?_)
  rw [gkL_kn]
  show k (sureD (pl, let3 ls l b, ref3 rs l b) l)
  rw [new_sure g hc]
  exact hh
theorem p_lnr8 {k : DK} (hy : yardsL L = ys) (hm : y ∈ ys) (h : NOk L y N) (O : (gkL pl ls rs).Ok N) (O' : (gkL pl (let3 ls l b) (ref3 rs l b)).Ok N) (g : GoodL N l) (hs : size l ≤ 20) (hc : contrary (pl, ls, rs) l b = false) (l1 : ls.length ≤ 4) (l2 : rs.length ≤ 4) (hk : k (.bl true)) : e_lnr8 (gE L y pl ls rs l b .un) k := by
  have main : ∀ {no : List D → DK → Prop} {X Y : EE} {s : Str} {env : DL.Env}, (∀ kk : DK, kk (.str s) → X env kk) → (∀ kk : DK, kk (.str s) → Y env kk) → PyData.strOk s = true → (eOp eqD X Y) env k := fun hX hY so => hX _ (hY _ (eq_str so hk))
  unfold e_lnr8
  refine main (no := d_notedE) (fun kk hh => rep_d h.sm O' (fun kk hh => ?_) hh) (fun kk hh => rd_due rfl rfl rfl h.sm O' hh) (wr_gk h.sm O').so
  have call : ∀ {no : List D → DK → Prop}, no [.ob (.cty L), nN y, (gkL pl ls rs).d, dLd l, wD b] kk → (eCallW [4, 3, 2, 1, 0] 5 no (eaCons (eVar 4) (eaCons (eVar 3) (eaCons (eVar 2) (eaCons (eVar 1) (eaCons (eVar 0) eaNil)))))) (gE L y pl ls rs l b .un) kk := fun {no} h => And.intro rfl h
  refine call (no := d_notedE) ?_
  show d_noted [.ob (.cty L), nN y, (gkL pl ls rs).d, dLt (false, l), wD b] _
  refine p_noted (x := (false, l)) hy hm h O g (by show size l ≤ 900; omega) (by rw [gkL_kn]; exact hc) ?_ ?_
  · show (if b = true then (ls.map _).length else (rs.map _).length) < 12
    rw [List.length_map, List.length_map]
    split <;> omega
  · rw [told_eq]
    exact hh
theorem p_lnrT {k : DK} (hy : yardsL L = ys) (hm : y ∈ ys) (h : NOk L y N) (o : KnOk N (pl, ls, rs)) (O : (gkL pl ls rs).Ok N) (g : GoodL N l) (hs : size l ≤ 20) (hc : contrary (pl, ls, rs) l b = false) (l1 : ls.length ≤ 4) (l2 : rs.length ≤ 4) (hk : k (.bl true)) :
    e_lnrT (fE L y pl ls rs l b .un .un .un) k (nN (gkL pl ls rs).pl) ((let2 (gkL pl ls rs) l b).map dLd) ((ref2 (gkL pl ls rs) l b).map dLd) := by
  have n1 : (let3 ls l b).length ≤ 12 := by unfold let3; cases b <;> simp <;> omega
  have n2 : (ref3 rs l b).length ≤ 12 := by unfold ref3; cases b <;> simp <;> omega
  have O' := gkL_ok (new_ok o g (by omega) hc) n1 n2
  unfold e_lnrT
  refine ⟨by rw [List.length_map, let2_L]; omega, by rw [List.length_map, ref2_L]; omega, ?_⟩
  refine (show e_lnr2 (fE L y pl ls rs l b .un .un .un) _ from p_lnr2 (by omega) ?_)
  refine (show e_lnr3 (fE L y pl ls rs l b .un (.val (.lst ((let3 ls l b).map dLd))) .un) _ from p_lnr3 (by omega) ?_)
  have e7 : toldE (((List.set (fE L y pl ls rs l b .un .un .un) 7 .un).set 8 (.val (.lst ((let3 ls l b).map dLd)))).set 9 (.val (.lst ((ref3 rs l b).map dLd)))) (nN (gkL pl ls rs).pl) ((let2 (gkL pl ls rs) l b).map dLd) ((ref2 (gkL pl ls rs) l b).map dLd) = gE L y pl ls rs l b (.val (newD pl ls rs l b)) := by
    unfold toldE newD
    rw [told_eq]
    rfl
  rw [e7]
  refine p_lnr4 h.sm o O O' g hs hc ?_
  refine iteF2 ?_
  refine p_lnr5 hy hm h O' g hs hc ?_
  refine iteF2 ?_
  exact p_lnr8 hy hm h O O' g hs hc l1 l2 hk
theorem p_l_noted_right {k : DK} (hy : yardsL L = ys) (hm : y ∈ ys) (h : NOk L y N) (o : KnOk N (pl, ls, rs)) (g : GoodL N l) (hs : size l ≤ 20) (l1 : ls.length ≤ 4) (l2 : rs.length ≤ 4) (hk : k (.bl true)) : d_l_noted_right [.ob (.cty L), nN y, (gkL pl ls rs).d, dLd l, wD b] k := by
  have O := gkL_ok o (by omega) (by omega)
  show e_lnr0 [.val (.ob (.cty L)), .val (nN y), .val (gkL pl ls rs).d, .val (dLd l), .val (wD b), .un, .un, .un, .un, .un] _
  refine p_lnr0 h.sm O g hs ?_
  refine ⟨fun j sv z => ?_, rfl, ?_⟩
  · match j, z with
    | 0, z => cases z; rfl
    | 1, z => cases z; rfl
    | 2, z => cases z; rfl
    | 3, z => cases z; rfl
    | 4, z => cases z; rfl
    | 5, z => cases z; rfl
    | 6, z => cases z; rfl
    | 7, z => cases z; rfl
    | 8, z => cases z; rfl
    | 9, z => cases z; rfl
  · refine And.intro rfl ?_
    cases c : contrary (pl, ls, rs) l b with
    | true => exact .inl ⟨(show x_noted [.ob (.cty L), nN y, (gkL pl ls rs).d, dLt (false, l), wD b] from p_raised (x := (false, l)) hy hm h O g (by show size l ≤ 900; omega) (by rw [gkL_kn]; exact c)), p_lnrC h.sm o O g hs c hk⟩
    | false =>
      refine .inr ?_
      show d_noted [.ob (.cty L), nN y, (gkL pl ls rs).d, dLt (false, l), wD b] _
      refine p_noted (x := (false, l)) hy hm h O g (by show size l ≤ 900; omega) (by rw [gkL_kn]; exact c) ?_ (p_lnrT hy hm h o O g hs c l1 l2 hk)
      show (if b = true then (ls.map _).length else (rs.map _).length) < 12
      rw [List.length_map, List.length_map]
      split <;> omega
end
end K61
set_option Elab.async false
set_option linter.all false
set_option maxRecDepth 100000
set_option maxHeartbeats 1000000
namespace K61
open PySem PySem.Spec PyProof.Rows L2 DL PySem.W
open TM (Ent Ld Sm SmL c3 tsort addL others withinL carts okO GoodL pairsN standP withP put standsB sm6 adj yardsL isort Lanes Good)
theorem p_lanes3 {k : DK} (hk : ∀ L ∈ lnsX, k (lnD L)) : d_l_lanes [nN 3] k := by
  show e_l_lanes [.pot, .val (nN 3), .un, .un, .un] (knE k)
  unfold e_l_lanes
  refine And.intro rfl (And.intro rfl ((show b_draw [nN 4] _ from dr (by decide) (by decide) fun w hw => ?_)))
  refine And.intro rfl (And.intro rfl ((show b_draw [nN 3] _ from dr (by decide) (by decide) fun d hd => ?_)))
  refine (show addU (nN 1) (nN d) _ from add_N ?_)
  simp only [List.set_cons_succ, List.set_cons_zero, sSeq, sIf]
  have test : ∀ kk : Bool → Prop, (∀ x, kk x) → eB (eOp eqD (eVar 2) (eC (.int 0))) [.pot, .val (nN 3), .val (nN w), .val (nN (1 + d)), .un] kk := fun kk h => by
    unfold eB eOp eC eVar
    simp only [List.getElem?_cons_succ, List.getElem?_cons_zero]
    refine (show eqD (nN w) (nN 0) _ from eq_N ?_)
    exact h _
  refine test _ fun x => ?_
  cases x with
  | true =>
    rw [if_pos rfl]
    have lists : ∀ k3 : List D → Prop, k3 [lnD treeA, lnD treeB, lnD treeC] → (eLst (eaCons (eF (eLst (eaCons (eTup (eaCons (eC (.int 0)) (eaCons (eC (.int 1)) eaNil))) (eaCons (eTup (eaCons (eC (.int 0)) (eaCons (eC (.int 2)) eaNil))) (eaCons (eTup (eaCons (eC (.int 0)) (eaCons (eC (.int 3)) eaNil))) eaNil))))) (eaCons (eF (eLst (eaCons (eTup (eaCons (eC (.int 0)) (eaCons (eC (.int 1)) eaNil))) (eaCons (eTup (eaCons (eC (.int 0)) (eaCons (eC (.int 2)) eaNil))) (eaCons (eTup (eaCons (eC (.int 1)) (eaCons (eC (.int 3)) eaNil))) (eaCons (eTup (eaCons (eC (.int 1)) (eaCons (eC (.int 4)) eaNil))) eaNil)))))) (eaCons (eF (eLst (eaCons (eTup (eaCons (eC (.int 0)) (eaCons (eC (.int 1)) eaNil))) (eaCons (eTup (eaCons (eC (.int 0)) (eaCons (eC (.int 2)) eaNil))) (eaCons (eTup (eaCons (eC (.int 0)) (eaCons (eC (.int 3)) eaNil))) (eaCons (eTup (eaCons (eC (.int 1)) (eaCons (eC (.int 4)) eaNil))) (eaCons (eTup (eaCons (eC (.int 2)) (eaCons (eC (.int 5)) eaNil))) (eaCons (eTup (eaCons (eC (.int 3)) (eaCons (eC (.int 6)) eaNil))) eaNil)))))))) eaNil)))) [.pot, .val (nN 3), .val (nN w), .val (nN (1 + d)), .un] k3 := fun k3 h => by
      unfold eLst eTup eF eC
      simp only [eaCons, eaNil, List.length_cons, List.length_nil, Nat.reduceAdd, Nat.reduceLeDiff, true_and]
      exact h
    simp only [sRet, eOp, eF]
    refine lists _ ?_
    refine And.intro rfl (And.intro rfl ((show b_draw [nN 3] _ from dr (by decide) (by decide) fun c hc => ?_)))
    have in3 : ∀ L ∈ [treeA, treeB, treeC], k (lnD L) := fun L hL => hk L (by unfold lnsX; simp only [List.mem_cons, List.not_mem_nil, or_false] at hL ⊢; rcases hL with e | e | e <;> simp [e])
    have g : ([treeA, treeB, treeC] : List Lanes)[c]? = some ([treeA, treeB, treeC] : List Lanes)[c] := List.getElem?_eq_getElem (by simpa using hc)
    exact (show ixD (.lst ([treeA, treeB, treeC].map lnD)) (nN c) _ from ix_lst (d := lnD ([treeA, treeB, treeC] : List Lanes)[c]) (by rw [List.getElem?_map, g]; rfl) (in3 _ (List.getElem_mem _)))
  | false =>
    rw [if_neg (by decide)]
    have rng : ∀ k3 : List D → Prop, k3 ((List.range (1 + d + 1)).map fun (i : Nat) => D.int (i : Int)) → eRng1 (eOp addU (eVar 3) (eC (.int 1))) [.pot, .val (nN 3), .val (nN w), .val (nN (1 + d)), .un] k3 := fun k3 h3 => by
      unfold eRng1 eOp eC eVar
      simp only [List.getElem?_cons_succ, List.getElem?_cons_zero]
      refine (show addU (nN (1 + d)) (nN 1) _ from add_N ?_)
      refine And.intro (by omega) (And.intro (by omega) ?_)
      rw [rg_map]
      exact h3
    simp only [sNext, sRet, eF, eLc]
    refine rng _ ?_
    refine And.intro (by simp; omega) ?_
    refine lc_map (g := fun i : Nat => dPr (i, i + 1)) (fun i _ kk h => ?_) ?_
    · simp only [env0, env0L, knE, knF, sSeq, sAsg, sAsgF, sIf, sRet, sRetF, sRetM, sRetN, sDrop, sNext, sFor, sPar, sPar3, emE, emF, sKnow, sApp, sExt, eVar, eVarO, eC, eF, eOp, eOpF, eUn, eUnF, eB, eNotT, eAndT, eOrT, eAnd, eOr, eNot, eIf, eaNil, eaCons, eTup, eLst, eYes, eChain, eCall, eCallF, eCallP, eCallL, eCallW, eCallWF, eIsi, eIsi2, isiD, isi2D, eLc, eLcF, eSeq, eRng1, eEnum, eRgo, egName, egTup, egNil, egCons, wipeE, forg, List.map_cons, List.map_nil, List.cons_append, List.nil_append, List.append_nil, List.getElem?_cons_zero, List.getElem?_cons_succ, List.set_cons_zero, List.set_cons_succ, List.length_cons, List.length_nil, if_true, if_false, Nat.reduceAdd, Nat.reduceSub, Nat.reduceLeDiff, Bool.false_eq_true, List.replicate, true_and, and_true, Bool.not_true, Bool.not_false, Nat.zero_add, Nat.add_zero, Nat.sub_zero]
      refine (show addU (nN i) (nN 1) _ from add_N ?_)
      exact h
    · have e : lnD (lineL (1 + d + 1)) = .lst ((List.range (1 + d + 1)).map fun i : Nat => dPr (i, i + 1)) := by
        unfold lnD lineL
        rw [List.map_map]
        rfl
      rw [← e]
      refine hk _ ?_
      rcases (by omega : d = 0 ∨ d = 1 ∨ d = 2) with rfl | rfl | rfl <;> (unfold lnsX; simp)
theorem gk_ok61 {N : List Nat} {pl : Nat} {ls rs : List Ld} (d : Dk N 3 pl ls rs) : KnOk N (pl, ls, rs) := by
  have p2 := d.p2
  refine ⟨d.p1, by show pl ≤ 6; omega, d.lg, fun r hr => ?_⟩
  obtain ⟨a, b, c, e⟩ := d.rg r hr
  refine ⟨a, by omega, ?_⟩
  unfold surely
  rw [decide_eq_false (by omega), Bool.false_or]
  exact e
theorem gk_of {N : List Nat} {pl : Nat} {ls rs : List Ld} {gk : Gk} (o : KnOk N (pl, ls, rs)) (e : gk.kn = (pl, ls, rs)) (l1 : ls.length ≤ 12) (l2 : rs.length ≤ 12) : gk.Ok N := by
  refine ⟨by rw [e]; exact o, ?_, ?_⟩
  · have : gk.kn.2.1.length = gk.x1.length := by unfold Gk.kn; rw [List.length_map]
    rw [e] at this
    have this : ls.length = gk.x1.length := this
    omega
  · have : gk.kn.2.2.length = gk.x2.length := by unfold Gk.kn; rw [List.length_map]
    rw [e] at this
    have this : rs.length = gk.x2.length := this
    omega
theorem wr_o (o : Option Bool) : Wr (oD o) 0 0 := by
  cases o with
  | none => exact wr_non
  | some b => exact wr_bl
theorem c_right61 {la pk kn kg ik il su nr : List D → DK → Prop} {ya lo : List D → (List D → Prop) → Prop} {K1 : Kn}
    (hla : ∀ k : DK, (∀ L ∈ lnsX, k (lnD L)) → la [nN 3] k) (hpk : ∀ ys : List Nat, 0 < ys.length → ys.length ≤ 1000 → ∀ k : DK, (∀ y ∈ ys, k (nN y)) → pk [.lst (ys.map nN)] k) (hpw : ∀ k : DK, (∀ b, k (wD b)) → pk [.lst [.str "let", .str "refused"]] k)
    (hya : ∀ L ∈ lnsX, ∀ k : List D → Prop, k (DL.dNs (yardsL L)) → ya [lnD L] k)
    (hkn : ∀ L ∈ lnsX, ∀ y ∈ yardsL L, ∀ k : DK, (∀ pl ls rs, Dk (adj L y) 3 pl ls rs → k (.tup [nN pl, .lst (ls.map dLd), .lst (rs.map dLd)])) → kn [lnD L, nN y, nN 3] k)
    (hkg : ∀ pl ls rs, ls.length ≤ 2 → rs.length ≤ 2 → ∀ k : DK, (∀ gk : Gk, gk.kn = (pl, ls, rs) → k gk.d) → kg [.tup [nN pl, .lst (ls.map dLd), .lst (rs.map dLd)]] k)
    (hik : ∀ L ∈ lnsX, ∀ y ∈ yardsL L, ∀ gk : Gk, gk.Ok (adj L y) → ∀ k : DK, k (.bl true) → ik [.ob (.cty L), nN y, gk.d] k)
    (hil : ∀ L ∈ lnsX, ∀ y ∈ yardsL L, ∀ gk : Gk, gk.Ok (adj L y) → ∀ x : Bool × Ld, GoodL (adj L y) x.2 → size x.2 ≤ 20 → ∀ k : DK, k (oD (sureO gk.kn x.2)) → il [.ob (.cty L), nN y, gk.d, dLt x] k)
    (hsu : ∀ (N : List Nat) (gk : Gk), gk.Ok N → ∀ l : Ld, GoodL N l → size l ≤ 20 → ∀ k : DK, k (oD (sureO gk.kn l)) → su [gk.d, dLd l] k)
    (hlo : ∀ L ∈ lnsX, ∀ y ∈ yardsL L, ∀ pl ls rs, Dk (adj L y) 3 pl ls rs → ∀ k : List D → Prop, (∀ xs, Ask (adj L y) xs → k (xs.map dLd)) → lo [lnD L, nN y, .tup [nN pl, .lst (ls.map dLd), .lst (rs.map dLd)]] k)
    (hnr : ∀ L ∈ lnsX, ∀ y ∈ yardsL L, ∀ pl ls rs, KnOk (adj L y) (pl, ls, rs) → ls.length ≤ 2 → rs.length ≤ 2 → ∀ l : Ld, GoodL (adj L y) l → size l ≤ 20 → ∀ b, ∀ k : DK, k (.bl true) → nr [.ob (.cty L), nN y, (gkL pl ls rs).d, dLd l, wD b] k)
    (hk : K1.rt (.bl true)) :
    (sSeq (sAsg (eCallP 0 1 la (eaCons (eC (.int 3)) eaNil)) (egName 1)) (sSeq (sAsg (eCallP 0 1 pk (eaCons (eF (eCallF 1 ya (eaCons (eVar 1) eaNil))) eaNil)) (egName 2)) (sSeq (sPar 3 4 (emE (eMkCountry (eaCons (eVar 1) eaNil))) (emE (eCallP 0 3 kn (eaCons (eVar 1) (eaCons (eVar 2) (eaCons (eC (.int 3)) eaNil)))))) (sSeq (sAsg (eCallP 0 1 kg (eaCons (eVar 4) eaNil)) (egName 5)) (sSeq (sIf (eB (eOp neD (eUn reprD (eF (eLst (eaCons (eCall 3 ik (eaCons (eVar 3) (eaCons (eVar 2) (eaCons (eVar 5) eaNil)))) (eaCons (eCallW [2, 1, 0] 3 ik (eaCons (eVar 4) (eaCons (eVar 2) (eaCons (eVar 3) eaNil)))) eaNil))))) (eUn reprD (eF (eOpF mulF (eF (eLst (eaCons (eC (.bl true)) eaNil))) (eC (.int 2))))))) (sRet (eC (.bl false))) sNext) (sSeq (sFor (eSeq (eF (eCallPF 0 3 lo (eaCons (eVar 1) (eaCons (eVar 2) (eaCons (eVar 4) eaNil)))))) (egName 6) (sSeq (sAsg (eIf (eB (eOp eqD (eCallP 0 1 b_draw (eaCons (eC (.int 2)) eaNil)) (eC (.int 0)))) (eUn tupD (eVar 6)) (eF (eUnF listF (eVar 6)))) (egName 7)) (sSeq (sAsg (eCall 2 su (eaCons (eVar 4) (eaCons (eVar 6) eaNil))) (egName 8)) (sSeq (sIf (eB (eOp neD (eUn reprD (eF (eLst (eaCons (eCall 4 il (eaCons (eVar 3) (eaCons (eVar 2) (eaCons (eVar 5) (eaCons (eVar 7) eaNil))))) (eaCons (eCallW [3, 2, 1, 0] 4 il (eaCons (eVar 6) (eaCons (eVar 4) (eaCons (eVar 2) (eaCons (eVar 3) eaNil))))) eaNil))))) (eUn reprD (eF (eLst (eaCons (eVar 8) (eaCons (eVar 8) eaNil))))))) (sRet (eC (.bl false))) sNext) (sIf (eNotT (eB (eCall 5 nr (eaCons (eVar 3) (eaCons (eVar 2) (eaCons (eVar 4) (eaCons (eVar 6) (eaCons (eCallP 0 1 pk (eaCons (eF (eLst (eaCons (eC (.str "let")) (eaCons (eC (.str "refused")) eaNil)))) eaNil)) eaNil)))))))) (sRet (eC (.bl false))) sNext)))) [6, 7, 8]) (sRet (eC (.bl true)))))))))
      [.pot, .un, .un, .un, .un, .un, .un, .un, .un] K1 := by
  refine And.intro rfl (And.intro rfl (hla _ fun L hL => ?_))
  simp only [egName, List.set_cons_succ, List.set_cons_zero, sSeq, sAsg]
  obtain ⟨len6, len7⟩ := lns_len L hL
  obtain ⟨vt, G⟩ := lns_good L hL
  refine And.intro rfl (And.intro rfl (hya L hL _ ?_))
  refine And.intro rfl (show pk [.lst ((yardsL L).map nN)] _ from hpk (yardsL L) G.least (by omega) _ fun y hy => ?_)
  refine Exists.intro L (Exists.intro vt (And.intro rfl (And.intro G ?_)))
  refine And.intro rfl (And.intro rfl (hkn L hL y hy _ fun pl ls rs dk => ?_))
  have ko := gk_ok61 dk
  have l2 := dk.l2
  have r2 := dk.r2
  simp only [List.set_cons_succ, List.set_cons_zero]
  refine And.intro rfl (And.intro rfl (hkg pl ls rs l2 r2 _ fun gk eg => ?_))
  have go := gk_of ko eg (by omega) (by omega)
  have gl := gkL_ok ko (by omega) (by omega)
  simp only [egName, List.set_cons_succ, List.set_cons_zero, sIf]
  have W : Wr (.lst [.bl true, .bl true]) 1 2 := (wr_lst (wrA_cons (wr_bl (n := 0)) (wrA_cons wr_bl wrA_nil))).up (Nat.le_refl _) (Nat.le_refl _)
  refine t_rep W (by decide) (by decide) (fun kk h => ?_) (fun kk h => ?_) ?_
  · refine And.intro rfl (hik L hL y hy gk go _ (And.intro rfl ?_))
    rw [← gkL_d]
    exact hik L hL y hy (gkL pl ls rs) gl _ (And.intro (show 2 ≤ 100000 by decide) h)
  · have mul : ∀ {env : DL.Env}, eF (eOpF mulF (eF (eLst (eaCons (eC (.bl true)) eaNil))) (eC (.int 2))) env kk := fun {env} => And.intro (show 1 ≤ 100000 by decide) (And.intro (by decide) (And.intro (by decide) (And.intro (by decide) h)))
    exact mul
  rw [if_neg (by decide)]
  simp only [sNext, sFor]
  refine And.intro rfl (And.intro rfl (hlo L hL y hy pl ls rs dk _ fun xs hx => ?_))
  obtain ⟨x20, hx⟩ := hx
  refine for_det (E := fun _ => [.pot, .val (lnD L), .val (nN y), .val (.ob (.cty L)), .val (.tup [nN pl, .lst (ls.map dLd), .lst (rs.map dLd)]), .val gk.d, .un, .un, .un]) (done := []) (fun d l K' hn hv => ?_) hk
  obtain ⟨v, hv⟩ := hv
  obtain ⟨g, hs⟩ := hx l (by rw [← show d ++ l :: v = xs from hv]; simp)
  simp only [egName, List.set_cons_succ, List.set_cons_zero]
  have pass : ∀ kk : DK, (∀ t, kk (dLt (t, l))) → eIf (eB (eOp eqD (eCallP 0 1 b_draw (eaCons (eC (.int 2)) eaNil)) (eC (.int 0)))) (eUn tupD (eVar 6)) (eF (eUnF listF (eVar 6))) [.pot, .val (lnD L), .val (nN y), .val (.ob (.cty L)), .val (.tup [nN pl, .lst (ls.map dLd), .lst (rs.map dLd)]), .val gk.d, .val (dLd l), .un, .un] kk := fun kk h => by
    have test : ∀ {env : DL.Env} (_ : env[0]? = some .pot) (k2 : Bool → Prop), (∀ x, k2 x) → eB (eOp eqD (eCallP 0 1 b_draw (eaCons (eC (.int 2)) eaNil)) (eC (.int 0))) env k2 := fun {env} p k2 h2 => by
      unfold eB eOp eC
      refine And.intro p (And.intro rfl (show b_draw [nN 2] _ from dr (by decide) (by decide) fun q hq => ?_))
      refine (show eqD (nN q) (nN 0) _ from eq_N ?_)
      exact h2 _
    unfold eIf
    refine test rfl _ fun x => ?_
    cases x with
    | true => exact h true
    | false => exact h false
  refine pass _ fun t => ?_
  simp only [List.set_cons_succ, List.set_cons_zero]
  refine And.intro rfl ?_
  rw [← gkL_d]
  refine hsu (adj L y) (gkL pl ls rs) gl l g hs _ ?_
  simp only [List.set_cons_succ, List.set_cons_zero]
  rw [gkL_kn, ← eg]
  have W2 : Wr (.lst [oD (sureO gk.kn l), oD (sureO gk.kn l)]) 1 2 := (wr_lst (wrA_cons (wr_o _) (wrA_cons (wr_o _) wrA_nil))).up (Nat.le_refl _) (Nat.le_refl _)
  refine t_rep W2 (by decide) (by decide) (fun kk h => ?_) (fun kk h => And.intro (show 2 ≤ 100000 by decide) h) ?_
  · refine And.intro rfl (hil L hL y hy gk go (t, l) g hs _ (And.intro rfl ?_))
    refine (show il [.ob (.cty L), nN y, (gkL pl ls rs).d, dLt (false, l)] _ from hil L hL y hy (gkL pl ls rs) gl (false, l) g hs _ ?_)
    rw [gkL_kn, ← eg]
    exact And.intro (show 2 ≤ 100000 by decide) h
  rw [if_neg (by decide)]
  simp only [sNext]
  refine t_yes (fun kk h => ?_) ?_
  · refine And.intro rfl (And.intro (show 2 ≤ 100000 by decide) (And.intro rfl (hpw _ fun b => ?_)))
    exact And.intro rfl (hnr L hL y hy pl ls rs ko l2 r2 l g hs b _ h)
  · rw [if_neg (by decide)]
    refine hn _ ?_
    rw [← gkL_d]
    rfl
theorem p_l_right {k : DK} (hk : k (.bl true)) : d_l_right [] k := by
  show e_l_right [.pot, .un, .un, .un, .un, .un, .un, .un, .un] (knE k)
  unfold e_l_right
  exact c_right61 (fun k h => p_lanes3 h) (fun ys h0 h1 k h => p_pick h0 h1 h) (fun k h => (show d_l_pick [.lst ([true, false].map wD)] k from p_pick (by decide) (by decide) fun b _ => h b)) (fun L hL k h => p_yards (by have := (lns_len L hL).1; omega) h)
    (fun L hL y hy k h => p_known (by have := (lns_len L hL).1; omega) (nok_of hL hy) (lns_y L hL y hy).2.2.2.2 (by decide) (by decide) h)
    (fun pl ls rs h1 h2 k h => p_known_given (by omega) (by omega) h) (fun L hL y hy gk o k h => p_is_known rfl hy (nok_of hL hy) o h)
    (fun L hL y hy gk o x g hs k h => p_is_let rfl hy (nok_of hL hy) o g (by omega) (by rw [sure_o]; exact h))
    (fun N gk o l g hs k h => p_sureL o g (by omega) (by rw [sure_o]; exact h))
    (fun L hL y hy pl ls rs dk k h => p_loads (by have := (lns_len L hL).1; omega) (nok_of hL hy) (lns_y L hL y hy).2.2.2.2 (by decide) dk h)
    (fun L hL y hy pl ls rs o l1 l2 l g hs b k h => p_l_noted_right rfl hy (nok_of hL hy) o g hs (by omega) (by omega) h) hk
end K61
set_option Elab.async false
set_option linter.all false
set_option maxRecDepth 100000
set_option maxHeartbeats 4000000
namespace K61
open PySem PySem.Spec PyProof.Rows L2 TM Pr Ep Nw DL
open Evl (Ex)
section
variable {P : Program} {w : World} {K : PySem.W.Frag} {mg : Str → Option Value} {base : Heap} {A : Adr} {C : Addr}
theorem ok_l_right (T : Txt K mg A) (X : ExT K mg C) : G8.FnOkG P w K mg base CX0 11 A.l_right A.l_right_fd ["_law_pot_here"] spRight := G8.fng_imp (okd_l_right T X) fun vs H Q E h => by
  obtain ⟨p, rfl, hp, q⟩ := h
  refine ⟨some p, fun _ => none, [], [], fun d => d = .bl true, .inr ⟨p, rfl, rfl, rfl⟩, fun p' z => by cases z; exact hp, fun _ _ => rfl, fun _ _ z => (nomatch z), .nil, rfl, p_l_right rfl, fun d v B' H' e s po r => ?_⟩
  subst e
  simp only [Rp] at r
  subst r
  exact q H'
theorem ok_law (T : Txt K mg A) (X : ExT K mg C) : G8.FnOkG P w K mg base CX0 12 A.law A.law_fd ["_law_script"] (spLaw K) := by
  refine G8.okG T.F_law sc_law (fun vs H Q E h => ?_) (fun cdv A' outer s H vs Q E hr hG h => ?_)
  · obtain ⟨a, ns, rfl, _⟩ := h
    rfl
  · obtain ⟨a, ns, rfl, ha, k⟩ := h
    refine ⟨_, (pss_one (ps_ret (G8.pe_callG (ok_l_right T X) (hr.mono (by decide)) hG (by rfl) T.m_l_right T.F_l_right.kp T.b_l_right .nil pass0 (pa_cons (pe_call (ok_l_pot T) (hr.mono (by decide)) (by rfl) T.m_l_pot T.F_l_pot.kp T.b_l_pot .nil pass0 (pa_cons (pv 0) (pa_cons pe_int pa_nil))) pa_nil)))), ?_⟩
    exact ⟨_, rfl, a, ns, 0, rfl, ha, by decide, fun p H1 e1 fp hp => ⟨p, rfl, hp, fun H2 => k H2⟩⟩
theorem exm_own {S : Addr} (base : PySem.W.subIn K (.ref S) (.type "BaseException") = some true) (cls : PySem.W.isClsIn K S = true) (kind : PySem.W.typeIn K (.ref S) = some (.type "type")) (own : PySem.W.subIn K (.ref S) (.ref S) = some true) : PySem.W.exmOne K (.ref S) (.ref S) = some true := by
  have known : (PySem.W.clsIn K S).isSome = true := cls
  unfold PySem.W.exmOne PySem.W.kitCls
  simp [base, known, kind, own]
end
end K61
set_option Elab.async false
set_option linter.all false
set_option maxRecDepth 100000
set_option maxHeartbeats 4000000
namespace G8
open PySem PySem.Spec PyProof.Rows L2
section
variable {P : Program} {w : World} {K : PySem.W.Frag} {mg mb : Str → Option Value} {k : Nat} {fa a : Addr} {fd : FuncData} {x : Str} {sp : Sp} {s : Shared} {vs : List Value} {ns : List Int} {H : Hp}
theorem table_off (ha : s.heap.get? a = some { cls := .type "list", data := .seq vs.toArray }) (only : ∀ b, b ≠ a → H b = none) {b : Addr} {m : Str → Option Value} (t : s.heap.Ns b m) : (hidT s.heap H).Ns b m := by
  obtain ⟨ob, ents, used, at_, isD, rest⟩ := t
  refine ⟨ob, ents, used, hidT_get at_ (only b fun same => ?_), isD, rest⟩
  rw [same, ha] at at_
  have sameO := Option.some.inj at_
  rw [← sameO] at isD
  exact nomatch isD
theorem mod_below (KX : K.In s.heap) (g1 : s.heap.Ns mainGlobals mg) (g2 : s.heap.Ns builtinsNs mb) (g3 : ∀ y : Str, y ≠ "__name__" → mb y = bootBuiltins y) (g4 : s.heap.NoLimit)
    (ha : s.heap.get? a = some { cls := .type "list", data := .seq vs.toArray }) (only : ∀ b, b ≠ a → H b = none) (out : H a = none ∨ K.lookup a = none) : Mod K mg (hidT s.heap H) := by
  obtain ⟨lim, l1, l2⟩ := g4
  refine ⟨fun b o hb => hidT_get (KX b o hb) ?_, table_off ha only g1, ⟨mb, table_off ha only g2, g3⟩, ⟨lim, table_off ha only l1, l2⟩⟩
  by_cases same : b = a
  · rcases out with z | z
    · rw [same]
      exact z
    · rw [same, z] at hb
      exact nomatch hb
  · exact only b same
theorem law_from (KX : K.In s.heap) (g1 : s.heap.Ns mainGlobals mg) (g2 : s.heap.Ns builtinsNs mb) (g3 : ∀ y : Str, y ≠ "__name__" → mb y = bootBuiltins y) (g4 : s.heap.NoLimit) (g5 : s.gens = #[])
    (ha : s.heap.get? a = some { cls := .type "list", data := .seq vs.toArray }) (hr : Room k callerA) (F : ∀ base : Heap, FnOkG P w K mg base CX0 k fa fd [x] sp) (bind : ∀ (t : Shared) (u : Value), BindsTo t fd ⟨[u], []⟩ [(x, u)])
    (only : ∀ b, b ≠ a → H b = none) (out : H a = none ∨ K.lookup a = none) (lock : ∀ b u, H b = some u → ∃ ob xs, u = .frz ob (.lst xs)) (hok : HOk P w H s.heap) (say : sp [.ref a] H (fun v _ => v = .bl true) fun _ _ _ => False) :
    codeAny (model P w) callerA (.call (.ref fa) ⟨[.ref a], []⟩) (fun r t => r = .ok (.ret (.bool true)) ∧ OldK s.heap t.heap ∧ t.os = s.os ∧ AllBare t.gens) s := by
  have none_in : ∀ b : Addr, ¬ b ∈ ([] : List Addr) := fun b z => nomatch z
  have env : Env0 P w K mg (hidT s.heap H) callerA [] s H :=
    ⟨rfl, mod_below KX g1 g2 g3 g4 ha only out, fun b o z => of_hidT z, Nat.le_of_eq (hidT_size _ _), trivial, fun b z => absurd z (none_in b), hok, .of_eq g5⟩
  have go := (F (hidT s.heap H)).run callerA [] s H ⟨[.ref a], []⟩ [.ref a] [.ref a] (fun v _ => v = .bl true) (fun _ _ _ => False) hr rfl env (bind s (.ref a)) (.cons rfl .nil) say
  refine codeAny_mono go fun r t done => ?_
  match r, done with
  | .ok (.ret u), ⟨v, H2, os, bare, un, hok2, rel, isT⟩ =>
    have isT : v = .bl true := isT
    subst isT
    have isU : u = Value.bool true := rel
    subst isU
    refine ⟨rfl, .of_keep fun b o there => ?_, os, bare⟩
    cases tracked : H b with
    | none => exact un.keep b o there tracked (none_in b) (by simp)
    | some v =>
      obtain ⟨ob, xs, rfl⟩ := lock b v tracked
      have one := (hok b _ tracked).1
      have two := (hok2 b _ (un.frzs b ob _ tracked)).1
      rw [there] at one
      rw [Option.some.inj one]
      exact two
  | .error e, done => exact done.elim
  | .ok .next, done => exact done.elim
  | .ok .brk, done => exact done.elim
  | .ok .cont, done => exact done.elim
end
end G8
namespace G8
open PySem PySem.Spec PyProof.Rows L2
theorem walk_G {l : PySem.W.OpenLaw} {n k : Nat} {q : Program} {loose : List Str} {XP : (Str → Option Value) → Heap → Prop} {YP : World → Heap → Prop} {d : DefRec} {K : Params → PySem.W.Frag} {sp : PySem.W.Frag → Sp} {x : Str}
    (most : l.most = some n) (fits : n ≤ sizeLine) (plain : d.params.defaults = []) (hr : Room k callerA) (isIn : ∀ (w : World) (h : Heap), YP w h → (K w.params).In h)
    (F : ∀ (w : World) (mg : Str → Option Value) (fa : Addr) (h : Heap), (K w.params).In h → h.Ns mainGlobals mg → mg d.name = some (.ref fa) →
      ∃ fd : FuncData, (∀ (s : Shared) (u : Value), BindsTo s fd ⟨[u], []⟩ [(x, u)]) ∧ ∀ base : Heap, FnOkG l.prog w (K w.params) mg base CX0 k fa fd [x] (sp (K w.params)))
    (say : ∀ (K : PySem.W.Frag) (H : Hp) (a : Addr) (ns : List Int), SqL K H a (ns.map V.int) → sp K [.ref a] H (fun v _ => v = .bl true) fun _ _ _ => False) :
    PySem.W.WalkO q loose XP YP l.row.toRowW d [] (fun f vs => PySem.call f vs) := by
  refine Att.attach_call most plain fun w _ s mg mb fa _ _ _ _ a vs ns G Y _ _ _ hmg script nums short clean => ?_
  have KX := isIn w _ Y
  obtain ⟨fd, bind, ok⟩ := F w mg fa _ KX G.T.g hmg
  have many : ns.length ≤ sizeLine := Nat.le_trans short fits
  have same := nums.length
  have rel := vals_ints nums
  have sized : (ns.map V.int).length ≤ sizeLine := by rw [List.length_map]; exact many
  have done := fun {H : Hp} => law_from (H := H) (fa := fa) (vs := vs) KX G.T.g G.T.b G.T.builtins G.T.nolimit clean script hr ok bind
  by_cases known : ((K w.params).lookup a).isSome = true
  · obtain ⟨ob, at_⟩ := Option.isSome_iff_exists.mp known
    have there := KX a ob at_
    rw [script] at there
    have isO := Option.some.inj there
    subst isO
    exact done (H := fun _ => none) (fun _ _ => rfl) (.inl rfl) (fun _ _ z => nomatch z) (fun _ _ z => nomatch z) (say _ _ _ _ (.inr ⟨_, vs.toArray, _, at_, rfl, rfl, rfl, by rw [List.size_toArray, same]; exact many, by simpa using rel⟩))
  · have out : (K w.params).lookup a = none := by
      cases e : (K w.params).lookup a with
      | none => rfl
      | some ob => rw [e] at known; exact absurd rfl known
    have here : (fun b => if b = a then some (HO.frz { cls := .type "list", data := .seq vs.toArray } (.lst (ns.map V.int))) else none : Hp) a = some (.frz { cls := .type "list", data := .seq vs.toArray } (.lst (ns.map V.int))) := if_pos rfl
    have only : ∀ b u, (fun b => if b = a then some (HO.frz { cls := .type "list", data := .seq vs.toArray } (.lst (ns.map V.int))) else none : Hp) b = some u → b = a ∧ u = .frz { cls := .type "list", data := .seq vs.toArray } (.lst (ns.map V.int)) := fun b u z => by
      by_cases e : b = a
      · subst e
        exact ⟨rfl, (Option.some.inj (here.symm.trans z)).symm⟩
      · have z2 : (none : Option HO) = some u := (if_neg e).symm.trans z
        exact nomatch z2
    refine done (H := fun b => if b = a then some (HO.frz { cls := .type "list", data := .seq vs.toArray } (.lst (ns.map V.int))) else none) (fun b e => if_neg e) (.inr out) (fun b u z => ?_) (fun b u z => ?_) (say _ _ _ _ (.inl (.inr ⟨_, here⟩)))
    · exact ⟨_, _, (only b u z).2⟩
    · obtain ⟨e, r⟩ := only b u z
      subst e; subst r
      exact ⟨script, sized, vs, _, rel, script⟩
end G8
set_option Elab.async false
set_option linter.all false
set_option maxRecDepth 100000
set_option maxHeartbeats 4000000
namespace K61
open PySem PySem.Spec PyProof.Rows L2
theorem all_mk {P : Program} {w : World} {K : PySem.W.Frag} {h : Heap} {mg : Str → Option Value} {fa : Addr} (X : K.In h) (G : h.Ns mainGlobals mg) (hfa : mg "law" = some (.ref fa))
    {C_Country : Addr} {f_is_count : Addr} {od_is_count an_is_count : Option Addr} {sl_is_count : Array (Option Value)} {oc_is_count kV_is_count dc_is_count pm_is_count cd_is_count ct_is_count : Value} {f_is_row : Addr} {od_is_row an_is_row : Option Addr} {sl_is_row : Array (Option Value)} {oc_is_row kV_is_row dc_is_row pm_is_row cd_is_row ct_is_row : Value} {f_Country_init : Addr} {od_Country_init an_Country_init : Option Addr} {sl_Country_init : Array (Option Value)} {oc_Country_init kV_Country_init dc_Country_init pm_Country_init cd_Country_init ct_Country_init : Value} {f_Country_lanes : Addr} {od_Country_lanes an_Country_lanes : Option Addr} {sl_Country_lanes : Array (Option Value)} {oc_Country_lanes kV_Country_lanes dc_Country_lanes pm_Country_lanes cd_Country_lanes ct_Country_lanes : Value} {p_Country_lanes : Addr} {rs_Country_lanes : List Value} {f_Country_yards : Addr} {od_Country_yards an_Country_yards : Option Addr} {sl_Country_yards : Array (Option Value)} {oc_Country_yards kV_Country_yards dc_Country_yards pm_Country_yards cd_Country_yards ct_Country_yards : Value} {p_Country_yards : Addr} {rs_Country_yards : List Value} {f_Country_gates : Addr} {od_Country_gates an_Country_gates : Option Addr} {sl_Country_gates : Array (Option Value)} {oc_Country_gates kV_Country_gates dc_Country_gates pm_Country_gates cd_Country_gates ct_Country_gates : Value} {p_Country_gates : Addr} {rs_Country_gates : List Value} {f_Country_neighbours : Addr} {od_Country_neighbours an_Country_neighbours : Option Addr} {sl_Country_neighbours : Array (Option Value)} {oc_Country_neighbours kV_Country_neighbours dc_Country_neighbours pm_Country_neighbours cd_Country_neighbours ct_Country_neighbours : Value} {f_Country_ahead : Addr} {od_Country_ahead an_Country_ahead : Option Addr} {sl_Country_ahead : Array (Option Value)} {oc_Country_ahead kV_Country_ahead dc_Country_ahead pm_Country_ahead cd_Country_ahead ct_Country_ahead : Value} {f_Country_eq : Addr} {od_Country_eq an_Country_eq : Option Addr} {sl_Country_eq : Array (Option Value)} {oc_Country_eq kV_Country_eq dc_Country_eq pm_Country_eq cd_Country_eq ct_Country_eq : Value} {f_is_place : Addr} {od_is_place an_is_place : Option Addr} {sl_is_place : Array (Option Value)} {oc_is_place kV_is_place dc_is_place pm_is_place cd_is_place ct_is_place : Value} {f_is_yard : Addr} {od_is_yard an_is_yard : Option Addr} {sl_is_yard : Array (Option Value)} {oc_is_yard kV_is_yard dc_is_yard pm_is_yard cd_is_yard ct_is_yard : Value} {f_are_lanes : Addr} {od_are_lanes an_are_lanes : Option Addr} {sl_are_lanes : Array (Option Value)} {oc_are_lanes kV_are_lanes dc_are_lanes pm_are_lanes cd_are_lanes ct_are_lanes : Value} {f_is_pair_up_to : Addr} {od_is_pair_up_to an_is_pair_up_to : Option Addr} {sl_is_pair_up_to : Array (Option Value)} {oc_is_pair_up_to kV_is_pair_up_to dc_is_pair_up_to pm_is_pair_up_to cd_is_pair_up_to ct_is_pair_up_to : Value} {f_neighbours_by_place : Addr} {od_neighbours_by_place an_neighbours_by_place : Option Addr} {sl_neighbours_by_place : Array (Option Value)} {oc_neighbours_by_place kV_neighbours_by_place dc_neighbours_by_place pm_neighbours_by_place cd_neighbours_by_place ct_neighbours_by_place : Value} {f_yards_among : Addr} {od_yards_among an_yards_among : Option Addr} {sl_yards_among : Array (Option Value)} {oc_yards_among kV_yards_among dc_yards_among pm_yards_among cd_yards_among ct_yards_among : Value} {f_places_ahead : Addr} {od_places_ahead an_places_ahead : Option Addr} {sl_places_ahead : Array (Option Value)} {oc_places_ahead kV_places_ahead dc_places_ahead pm_places_ahead cd_places_ahead ct_places_ahead : Value} {f_is_among : Addr} {od_is_among an_is_among : Option Addr} {sl_is_among : Array (Option Value)} {oc_is_among kV_is_among dc_is_among pm_is_among cd_is_among ct_is_among : Value} {f_is_pair_of : Addr} {od_is_pair_of an_is_pair_of : Option Addr} {sl_is_pair_of : Array (Option Value)} {oc_is_pair_of kV_is_pair_of dc_is_pair_of pm_is_pair_of cd_is_pair_of ct_is_pair_of : Value} {f_is_load_of : Addr} {od_is_load_of an_is_load_of : Option Addr} {sl_is_load_of : Array (Option Value)} {oc_is_load_of kV_is_load_of dc_is_load_of pm_is_load_of cd_is_load_of ct_is_load_of : Value} {f_is_entry : Addr} {od_is_entry an_is_entry : Option Addr} {sl_is_entry : Array (Option Value)} {oc_is_entry kV_is_entry dc_is_entry pm_is_entry cd_is_entry ct_is_entry : Value} {f_carts_of : Addr} {od_carts_of an_carts_of : Option Addr} {sl_carts_of : Array (Option Value)} {oc_carts_of kV_carts_of dc_carts_of pm_carts_of cd_carts_of ct_carts_of : Value} {f_is_within : Addr} {od_is_within an_is_within : Option Addr} {sl_is_within : Array (Option Value)} {oc_is_within kV_is_within dc_is_within pm_is_within cd_is_within ct_is_within : Value} {f_check_country : Addr} {od_check_country an_check_country : Option Addr} {sl_check_country : Array (Option Value)} {oc_check_country kV_check_country dc_check_country pm_check_country cd_check_country ct_check_country : Value} {f_check_yard : Addr} {od_check_yard an_check_yard : Option Addr} {sl_check_yard : Array (Option Value)} {oc_check_yard kV_check_yard dc_check_yard pm_check_yard cd_check_yard ct_check_yard : Value} {f_check_country_and_yard : Addr} {od_check_country_and_yard an_check_country_and_yard : Option Addr} {sl_check_country_and_yard : Array (Option Value)} {oc_check_country_and_yard kV_check_country_and_yard dc_check_country_and_yard pm_check_country_and_yard cd_check_country_and_yard ct_check_country_and_yard : Value} {f_check_load : Addr} {od_check_load an_check_load : Option Addr} {sl_check_load : Array (Option Value)} {oc_check_load kV_check_load dc_check_load pm_check_load cd_check_load ct_check_load : Value} {f_is_known : Addr} {od_is_known an_is_known : Option Addr} {sl_is_known : Array (Option Value)} {oc_is_known kV_is_known dc_is_known pm_is_known cd_is_known ct_is_known : Value} {f_is_let : Addr} {od_is_let an_is_let : Option Addr} {sl_is_let : Array (Option Value)} {oc_is_let kV_is_let dc_is_let pm_is_let cd_is_let ct_is_let : Value} {f_noted : Addr} {od_noted an_noted : Option Addr} {sl_noted : Array (Option Value)} {oc_noted kV_noted dc_noted pm_noted cd_noted ct_noted : Value} {f_check_known : Addr} {od_check_known an_check_known : Option Addr} {sl_check_known : Array (Option Value)} {oc_check_known kV_check_known dc_check_known pm_check_known cd_check_known ct_check_known : Value} {f_is_known_of : Addr} {od_is_known_of an_is_known_of : Option Addr} {sl_is_known_of : Array (Option Value)} {oc_is_known_of kV_is_known_of dc_is_known_of pm_is_known_of cd_is_known_of ct_is_known_of : Value} {f_are_seen : Addr} {od_are_seen an_are_seen : Option Addr} {sl_are_seen : Array (Option Value)} {oc_are_seen kV_are_seen dc_are_seen pm_are_seen cd_are_seen ct_are_seen : Value} {f_is_surely_let : Addr} {od_is_surely_let an_is_surely_let : Option Addr} {sl_is_surely_let : Array (Option Value)} {oc_is_surely_let kV_is_surely_let dc_is_surely_let pm_is_surely_let cd_is_surely_let ct_is_surely_let : Value} {f_is_surely_refused : Addr} {od_is_surely_refused an_is_surely_refused : Option Addr} {sl_is_surely_refused : Array (Option Value)} {oc_is_surely_refused kV_is_surely_refused dc_is_surely_refused pm_is_surely_refused cd_is_surely_refused ct_is_surely_refused : Value} {f_l_pot : Addr} {od_l_pot an_l_pot : Option Addr} {sl_l_pot : Array (Option Value)} {oc_l_pot kV_l_pot dc_l_pot pm_l_pot cd_l_pot ct_l_pot : Value} {f_l_draw : Addr} {od_l_draw an_l_draw : Option Addr} {sl_l_draw : Array (Option Value)} {oc_l_draw kV_l_draw dc_l_draw pm_l_draw cd_l_draw ct_l_draw : Value} {f_l_pick : Addr} {od_l_pick an_l_pick : Option Addr} {sl_l_pick : Array (Option Value)} {oc_l_pick kV_l_pick dc_l_pick pm_l_pick cd_l_pick ct_l_pick : Value} {f_l_lanes : Addr} {od_l_lanes an_l_lanes : Option Addr} {sl_l_lanes : Array (Option Value)} {oc_l_lanes kV_l_lanes dc_l_lanes pm_l_lanes cd_l_lanes ct_l_lanes : Value} {f_l_beside : Addr} {od_l_beside an_l_beside : Option Addr} {sl_l_beside : Array (Option Value)} {oc_l_beside kV_l_beside dc_l_beside pm_l_beside cd_l_beside ct_l_beside : Value} {f_l_yards : Addr} {od_l_yards an_l_yards : Option Addr} {sl_l_yards : Array (Option Value)} {oc_l_yards kV_l_yards dc_l_yards pm_l_yards cd_l_yards ct_l_yards : Value} {f_l_pairs : Addr} {od_l_pairs an_l_pairs : Option Addr} {sl_l_pairs : Array (Option Value)} {oc_l_pairs kV_l_pairs dc_l_pairs pm_l_pairs cd_l_pairs ct_l_pairs : Value} {f_l_many : Addr} {od_l_many an_l_many : Option Addr} {sl_l_many : Array (Option Value)} {oc_l_many kV_l_many dc_l_many pm_l_many cd_l_many ct_l_many : Value} {f_l_size : Addr} {od_l_size an_l_size : Option Addr} {sl_l_size : Array (Option Value)} {oc_l_size kV_l_size dc_l_size pm_l_size cd_l_size ct_l_size : Value} {f_l_plus : Addr} {od_l_plus an_l_plus : Option Addr} {sl_l_plus : Array (Option Value)} {oc_l_plus kV_l_plus dc_l_plus pm_l_plus cd_l_plus ct_l_plus : Value} {f_l_is_most : Addr} {od_l_is_most an_l_is_most : Option Addr} {sl_l_is_most : Array (Option Value)} {oc_l_is_most kV_l_is_most dc_l_is_most pm_l_is_most cd_l_is_most ct_l_is_most : Value} {f_l_load : Addr} {od_l_load an_l_load : Option Addr} {sl_l_load : Array (Option Value)} {oc_l_load kV_l_load dc_l_load pm_l_load cd_l_load ct_l_load : Value} {f_l_known : Addr} {od_l_known an_l_known : Option Addr} {sl_l_known : Array (Option Value)} {oc_l_known kV_l_known dc_l_known pm_l_known cd_l_known ct_l_known : Value} {f_l_sure : Addr} {od_l_sure an_l_sure : Option Addr} {sl_l_sure : Array (Option Value)} {oc_l_sure kV_l_sure dc_l_sure pm_l_sure cd_l_sure ct_l_sure : Value} {f_l_given : Addr} {od_l_given an_l_given : Option Addr} {sl_l_given : Array (Option Value)} {oc_l_given kV_l_given dc_l_given pm_l_given cd_l_given ct_l_given : Value} {f_l_known_given : Addr} {od_l_known_given an_l_known_given : Option Addr} {sl_l_known_given : Array (Option Value)} {oc_l_known_given kV_l_known_given dc_l_known_given pm_l_known_given cd_l_known_given ct_l_known_given : Value} {f_l_loads : Addr} {od_l_loads an_l_loads : Option Addr} {sl_l_loads : Array (Option Value)} {oc_l_loads kV_l_loads dc_l_loads pm_l_loads cd_l_loads ct_l_loads : Value} {f_l_noted_right : Addr} {od_l_noted_right an_l_noted_right : Option Addr} {sl_l_noted_right : Array (Option Value)} {oc_l_noted_right kV_l_noted_right dc_l_noted_right pm_l_noted_right cd_l_noted_right ct_l_noted_right : Value} {f_l_right : Addr} {od_l_right an_l_right : Option Addr} {sl_l_right : Array (Option Value)} {oc_l_right kV_l_right dc_l_right pm_l_right cd_l_right ct_l_right : Value} {f_law : Addr} {od_law an_law : Option Addr} {sl_law : Array (Option Value)} {oc_law kV_law dc_law pm_law cd_law ct_law : Value} {X_Contrary : Addr} {t_MOST_LANES_AT_A_PLACE : Tok} {t_MOST_YARDS : Tok} {t_MOST_PLACES : Tok} {t_MOST_SEEN : Tok}
    (aC_Country : PySem.W.nsIn K mainGlobals "Country" = some (some (.ref C_Country)))
    (a_is_count : PySem.W.nsIn K mainGlobals "is_count" = some (some (.ref f_is_count)))
    (l_is_count : K.lookup f_is_count = some ⟨oc_is_count, od_is_count, .func (PySem.W.fnOf "is_count" "is_count" (defArgs s_is_count) (defBody s_is_count) (defScope s_is_count) .none kV_is_count dc_is_count pm_is_count an_is_count cd_is_count ct_is_count), sl_is_count⟩)
    (c_is_count : PySem.W.codeIn K cd_is_count "is_count" = true)
    (k_is_count : PySem.W.keepIn K (.ref f_is_count) = true)
    (a_is_row : PySem.W.nsIn K mainGlobals "is_row" = some (some (.ref f_is_row)))
    (l_is_row : K.lookup f_is_row = some ⟨oc_is_row, od_is_row, .func (PySem.W.fnOf "is_row" "is_row" (defArgs s_is_row) (defBody s_is_row) (defScope s_is_row) .none kV_is_row dc_is_row pm_is_row an_is_row cd_is_row ct_is_row), sl_is_row⟩)
    (c_is_row : PySem.W.codeIn K cd_is_row "is_row" = true)
    (k_is_row : PySem.W.keepIn K (.ref f_is_row) = true)
    (a_Country_init : PySem.W.findIn K (.ref C_Country) "__init__" = some (some (.ref f_Country_init)))
    (i_Country_init : PySem.W.isFn K (.ref f_Country_init) = true)
    (l_Country_init : K.lookup f_Country_init = some ⟨oc_Country_init, od_Country_init, .func (PySem.W.fnOf "__init__" "Country.__init__" (defArgs s_Country_init) (defBody s_Country_init) (defScope s_Country_init) .none kV_Country_init dc_Country_init pm_Country_init an_Country_init cd_Country_init ct_Country_init), sl_Country_init⟩)
    (c_Country_init : PySem.W.codeIn K cd_Country_init "Country.__init__" = true)
    (k_Country_init : PySem.W.keepIn K (.ref f_Country_init) = true)
    (a_Country_lanes : PySem.W.findIn K (.ref C_Country) "lanes" = some (some (.ref p_Country_lanes)))
    (g_Country_lanes : PySem.W.specialIn K (.ref p_Country_lanes) "__get__" = some (some (.builtin "property.__get__")))
    (t_Country_lanes : PySem.W.takesIn K (.ref p_Country_lanes) = some true)
    (r_Country_lanes : PySem.W.recIn K p_Country_lanes "property" = some (.ref f_Country_lanes :: rs_Country_lanes))
    (l_Country_lanes : K.lookup f_Country_lanes = some ⟨oc_Country_lanes, od_Country_lanes, .func (PySem.W.fnOf "lanes" "Country.lanes" (defArgs s_Country_lanes) (defBody s_Country_lanes) (defScope s_Country_lanes) .none kV_Country_lanes dc_Country_lanes pm_Country_lanes an_Country_lanes cd_Country_lanes ct_Country_lanes), sl_Country_lanes⟩)
    (c_Country_lanes : PySem.W.codeIn K cd_Country_lanes "Country.lanes" = true)
    (k_Country_lanes : PySem.W.keepIn K (.ref f_Country_lanes) = true)
    (a_Country_yards : PySem.W.findIn K (.ref C_Country) "yards" = some (some (.ref p_Country_yards)))
    (g_Country_yards : PySem.W.specialIn K (.ref p_Country_yards) "__get__" = some (some (.builtin "property.__get__")))
    (t_Country_yards : PySem.W.takesIn K (.ref p_Country_yards) = some true)
    (r_Country_yards : PySem.W.recIn K p_Country_yards "property" = some (.ref f_Country_yards :: rs_Country_yards))
    (l_Country_yards : K.lookup f_Country_yards = some ⟨oc_Country_yards, od_Country_yards, .func (PySem.W.fnOf "yards" "Country.yards" (defArgs s_Country_yards) (defBody s_Country_yards) (defScope s_Country_yards) .none kV_Country_yards dc_Country_yards pm_Country_yards an_Country_yards cd_Country_yards ct_Country_yards), sl_Country_yards⟩)
    (c_Country_yards : PySem.W.codeIn K cd_Country_yards "Country.yards" = true)
    (k_Country_yards : PySem.W.keepIn K (.ref f_Country_yards) = true)
    (a_Country_gates : PySem.W.findIn K (.ref C_Country) "gates" = some (some (.ref p_Country_gates)))
    (g_Country_gates : PySem.W.specialIn K (.ref p_Country_gates) "__get__" = some (some (.builtin "property.__get__")))
    (t_Country_gates : PySem.W.takesIn K (.ref p_Country_gates) = some true)
    (r_Country_gates : PySem.W.recIn K p_Country_gates "property" = some (.ref f_Country_gates :: rs_Country_gates))
    (l_Country_gates : K.lookup f_Country_gates = some ⟨oc_Country_gates, od_Country_gates, .func (PySem.W.fnOf "gates" "Country.gates" (defArgs s_Country_gates) (defBody s_Country_gates) (defScope s_Country_gates) .none kV_Country_gates dc_Country_gates pm_Country_gates an_Country_gates cd_Country_gates ct_Country_gates), sl_Country_gates⟩)
    (c_Country_gates : PySem.W.codeIn K cd_Country_gates "Country.gates" = true)
    (k_Country_gates : PySem.W.keepIn K (.ref f_Country_gates) = true)
    (a_Country_neighbours : PySem.W.findIn K (.ref C_Country) "neighbours" = some (some (.ref f_Country_neighbours)))
    (i_Country_neighbours : PySem.W.isFn K (.ref f_Country_neighbours) = true)
    (l_Country_neighbours : K.lookup f_Country_neighbours = some ⟨oc_Country_neighbours, od_Country_neighbours, .func (PySem.W.fnOf "neighbours" "Country.neighbours" (defArgs s_Country_neighbours) (defBody s_Country_neighbours) (defScope s_Country_neighbours) .none kV_Country_neighbours dc_Country_neighbours pm_Country_neighbours an_Country_neighbours cd_Country_neighbours ct_Country_neighbours), sl_Country_neighbours⟩)
    (c_Country_neighbours : PySem.W.codeIn K cd_Country_neighbours "Country.neighbours" = true)
    (k_Country_neighbours : PySem.W.keepIn K (.ref f_Country_neighbours) = true)
    (a_Country_ahead : PySem.W.findIn K (.ref C_Country) "ahead" = some (some (.ref f_Country_ahead)))
    (i_Country_ahead : PySem.W.isFn K (.ref f_Country_ahead) = true)
    (l_Country_ahead : K.lookup f_Country_ahead = some ⟨oc_Country_ahead, od_Country_ahead, .func (PySem.W.fnOf "ahead" "Country.ahead" (defArgs s_Country_ahead) (defBody s_Country_ahead) (defScope s_Country_ahead) .none kV_Country_ahead dc_Country_ahead pm_Country_ahead an_Country_ahead cd_Country_ahead ct_Country_ahead), sl_Country_ahead⟩)
    (c_Country_ahead : PySem.W.codeIn K cd_Country_ahead "Country.ahead" = true)
    (k_Country_ahead : PySem.W.keepIn K (.ref f_Country_ahead) = true)
    (a_Country_eq : PySem.W.findIn K (.ref C_Country) "__eq__" = some (some (.ref f_Country_eq)))
    (i_Country_eq : PySem.W.isFn K (.ref f_Country_eq) = true)
    (l_Country_eq : K.lookup f_Country_eq = some ⟨oc_Country_eq, od_Country_eq, .func (PySem.W.fnOf "__eq__" "Country.__eq__" (defArgs s_Country_eq) (defBody s_Country_eq) (defScope s_Country_eq) .none kV_Country_eq dc_Country_eq pm_Country_eq an_Country_eq cd_Country_eq ct_Country_eq), sl_Country_eq⟩)
    (c_Country_eq : PySem.W.codeIn K cd_Country_eq "Country.__eq__" = true)
    (k_Country_eq : PySem.W.keepIn K (.ref f_Country_eq) = true)
    (a_is_place : PySem.W.nsIn K mainGlobals "is_place" = some (some (.ref f_is_place)))
    (l_is_place : K.lookup f_is_place = some ⟨oc_is_place, od_is_place, .func (PySem.W.fnOf "is_place" "is_place" (defArgs s_is_place) (defBody s_is_place) (defScope s_is_place) .none kV_is_place dc_is_place pm_is_place an_is_place cd_is_place ct_is_place), sl_is_place⟩)
    (c_is_place : PySem.W.codeIn K cd_is_place "is_place" = true)
    (k_is_place : PySem.W.keepIn K (.ref f_is_place) = true)
    (a_is_yard : PySem.W.nsIn K mainGlobals "is_yard" = some (some (.ref f_is_yard)))
    (l_is_yard : K.lookup f_is_yard = some ⟨oc_is_yard, od_is_yard, .func (PySem.W.fnOf "is_yard" "is_yard" (defArgs s_is_yard) (defBody s_is_yard) (defScope s_is_yard) .none kV_is_yard dc_is_yard pm_is_yard an_is_yard cd_is_yard ct_is_yard), sl_is_yard⟩)
    (c_is_yard : PySem.W.codeIn K cd_is_yard "is_yard" = true)
    (k_is_yard : PySem.W.keepIn K (.ref f_is_yard) = true)
    (a_are_lanes : PySem.W.nsIn K mainGlobals "are_lanes" = some (some (.ref f_are_lanes)))
    (l_are_lanes : K.lookup f_are_lanes = some ⟨oc_are_lanes, od_are_lanes, .func (PySem.W.fnOf "are_lanes" "are_lanes" (defArgs s_are_lanes) (defBody s_are_lanes) (defScope s_are_lanes) .none kV_are_lanes dc_are_lanes pm_are_lanes an_are_lanes cd_are_lanes ct_are_lanes), sl_are_lanes⟩)
    (c_are_lanes : PySem.W.codeIn K cd_are_lanes "are_lanes" = true)
    (k_are_lanes : PySem.W.keepIn K (.ref f_are_lanes) = true)
    (a_is_pair_up_to : PySem.W.nsIn K mainGlobals "is_pair_up_to" = some (some (.ref f_is_pair_up_to)))
    (l_is_pair_up_to : K.lookup f_is_pair_up_to = some ⟨oc_is_pair_up_to, od_is_pair_up_to, .func (PySem.W.fnOf "is_pair_up_to" "is_pair_up_to" (defArgs s_is_pair_up_to) (defBody s_is_pair_up_to) (defScope s_is_pair_up_to) .none kV_is_pair_up_to dc_is_pair_up_to pm_is_pair_up_to an_is_pair_up_to cd_is_pair_up_to ct_is_pair_up_to), sl_is_pair_up_to⟩)
    (c_is_pair_up_to : PySem.W.codeIn K cd_is_pair_up_to "is_pair_up_to" = true)
    (k_is_pair_up_to : PySem.W.keepIn K (.ref f_is_pair_up_to) = true)
    (a_neighbours_by_place : PySem.W.nsIn K mainGlobals "neighbours_by_place" = some (some (.ref f_neighbours_by_place)))
    (l_neighbours_by_place : K.lookup f_neighbours_by_place = some ⟨oc_neighbours_by_place, od_neighbours_by_place, .func (PySem.W.fnOf "neighbours_by_place" "neighbours_by_place" (defArgs s_neighbours_by_place) (defBody s_neighbours_by_place) (defScope s_neighbours_by_place) .none kV_neighbours_by_place dc_neighbours_by_place pm_neighbours_by_place an_neighbours_by_place cd_neighbours_by_place ct_neighbours_by_place), sl_neighbours_by_place⟩)
    (c_neighbours_by_place : PySem.W.codeIn K cd_neighbours_by_place "neighbours_by_place" = true)
    (k_neighbours_by_place : PySem.W.keepIn K (.ref f_neighbours_by_place) = true)
    (a_yards_among : PySem.W.nsIn K mainGlobals "yards_among" = some (some (.ref f_yards_among)))
    (l_yards_among : K.lookup f_yards_among = some ⟨oc_yards_among, od_yards_among, .func (PySem.W.fnOf "yards_among" "yards_among" (defArgs s_yards_among) (defBody s_yards_among) (defScope s_yards_among) .none kV_yards_among dc_yards_among pm_yards_among an_yards_among cd_yards_among ct_yards_among), sl_yards_among⟩)
    (c_yards_among : PySem.W.codeIn K cd_yards_among "yards_among" = true)
    (k_yards_among : PySem.W.keepIn K (.ref f_yards_among) = true)
    (a_places_ahead : PySem.W.nsIn K mainGlobals "places_ahead" = some (some (.ref f_places_ahead)))
    (l_places_ahead : K.lookup f_places_ahead = some ⟨oc_places_ahead, od_places_ahead, .func (PySem.W.fnOf "places_ahead" "places_ahead" (defArgs s_places_ahead) (defBody s_places_ahead) (defScope s_places_ahead) .none kV_places_ahead dc_places_ahead pm_places_ahead an_places_ahead cd_places_ahead ct_places_ahead), sl_places_ahead⟩)
    (c_places_ahead : PySem.W.codeIn K cd_places_ahead "places_ahead" = true)
    (k_places_ahead : PySem.W.keepIn K (.ref f_places_ahead) = true)
    (a_is_among : PySem.W.nsIn K mainGlobals "is_among" = some (some (.ref f_is_among)))
    (l_is_among : K.lookup f_is_among = some ⟨oc_is_among, od_is_among, .func (PySem.W.fnOf "is_among" "is_among" (defArgs s_is_among) (defBody s_is_among) (defScope s_is_among) .none kV_is_among dc_is_among pm_is_among an_is_among cd_is_among ct_is_among), sl_is_among⟩)
    (c_is_among : PySem.W.codeIn K cd_is_among "is_among" = true)
    (k_is_among : PySem.W.keepIn K (.ref f_is_among) = true)
    (a_is_pair_of : PySem.W.nsIn K mainGlobals "is_pair_of" = some (some (.ref f_is_pair_of)))
    (l_is_pair_of : K.lookup f_is_pair_of = some ⟨oc_is_pair_of, od_is_pair_of, .func (PySem.W.fnOf "is_pair_of" "is_pair_of" (defArgs s_is_pair_of) (defBody s_is_pair_of) (defScope s_is_pair_of) .none kV_is_pair_of dc_is_pair_of pm_is_pair_of an_is_pair_of cd_is_pair_of ct_is_pair_of), sl_is_pair_of⟩)
    (c_is_pair_of : PySem.W.codeIn K cd_is_pair_of "is_pair_of" = true)
    (k_is_pair_of : PySem.W.keepIn K (.ref f_is_pair_of) = true)
    (a_is_load_of : PySem.W.nsIn K mainGlobals "is_load_of" = some (some (.ref f_is_load_of)))
    (l_is_load_of : K.lookup f_is_load_of = some ⟨oc_is_load_of, od_is_load_of, .func (PySem.W.fnOf "is_load_of" "is_load_of" (defArgs s_is_load_of) (defBody s_is_load_of) (defScope s_is_load_of) .none kV_is_load_of dc_is_load_of pm_is_load_of an_is_load_of cd_is_load_of ct_is_load_of), sl_is_load_of⟩)
    (c_is_load_of : PySem.W.codeIn K cd_is_load_of "is_load_of" = true)
    (k_is_load_of : PySem.W.keepIn K (.ref f_is_load_of) = true)
    (a_is_entry : PySem.W.nsIn K mainGlobals "is_entry" = some (some (.ref f_is_entry)))
    (l_is_entry : K.lookup f_is_entry = some ⟨oc_is_entry, od_is_entry, .func (PySem.W.fnOf "is_entry" "is_entry" (defArgs s_is_entry) (defBody s_is_entry) (defScope s_is_entry) .none kV_is_entry dc_is_entry pm_is_entry an_is_entry cd_is_entry ct_is_entry), sl_is_entry⟩)
    (c_is_entry : PySem.W.codeIn K cd_is_entry "is_entry" = true)
    (k_is_entry : PySem.W.keepIn K (.ref f_is_entry) = true)
    (a_carts_of : PySem.W.nsIn K mainGlobals "carts_of" = some (some (.ref f_carts_of)))
    (l_carts_of : K.lookup f_carts_of = some ⟨oc_carts_of, od_carts_of, .func (PySem.W.fnOf "carts_of" "carts_of" (defArgs s_carts_of) (defBody s_carts_of) (defScope s_carts_of) .none kV_carts_of dc_carts_of pm_carts_of an_carts_of cd_carts_of ct_carts_of), sl_carts_of⟩)
    (c_carts_of : PySem.W.codeIn K cd_carts_of "carts_of" = true)
    (k_carts_of : PySem.W.keepIn K (.ref f_carts_of) = true)
    (a_is_within : PySem.W.nsIn K mainGlobals "is_within" = some (some (.ref f_is_within)))
    (l_is_within : K.lookup f_is_within = some ⟨oc_is_within, od_is_within, .func (PySem.W.fnOf "is_within" "is_within" (defArgs s_is_within) (defBody s_is_within) (defScope s_is_within) .none kV_is_within dc_is_within pm_is_within an_is_within cd_is_within ct_is_within), sl_is_within⟩)
    (c_is_within : PySem.W.codeIn K cd_is_within "is_within" = true)
    (k_is_within : PySem.W.keepIn K (.ref f_is_within) = true)
    (a_check_country : PySem.W.nsIn K mainGlobals "check_country" = some (some (.ref f_check_country)))
    (l_check_country : K.lookup f_check_country = some ⟨oc_check_country, od_check_country, .func (PySem.W.fnOf "check_country" "check_country" (defArgs s_check_country) (defBody s_check_country) (defScope s_check_country) .none kV_check_country dc_check_country pm_check_country an_check_country cd_check_country ct_check_country), sl_check_country⟩)
    (c_check_country : PySem.W.codeIn K cd_check_country "check_country" = true)
    (k_check_country : PySem.W.keepIn K (.ref f_check_country) = true)
    (a_check_yard : PySem.W.nsIn K mainGlobals "check_yard" = some (some (.ref f_check_yard)))
    (l_check_yard : K.lookup f_check_yard = some ⟨oc_check_yard, od_check_yard, .func (PySem.W.fnOf "check_yard" "check_yard" (defArgs s_check_yard) (defBody s_check_yard) (defScope s_check_yard) .none kV_check_yard dc_check_yard pm_check_yard an_check_yard cd_check_yard ct_check_yard), sl_check_yard⟩)
    (c_check_yard : PySem.W.codeIn K cd_check_yard "check_yard" = true)
    (k_check_yard : PySem.W.keepIn K (.ref f_check_yard) = true)
    (a_check_country_and_yard : PySem.W.nsIn K mainGlobals "check_country_and_yard" = some (some (.ref f_check_country_and_yard)))
    (l_check_country_and_yard : K.lookup f_check_country_and_yard = some ⟨oc_check_country_and_yard, od_check_country_and_yard, .func (PySem.W.fnOf "check_country_and_yard" "check_country_and_yard" (defArgs s_check_country_and_yard) (defBody s_check_country_and_yard) (defScope s_check_country_and_yard) .none kV_check_country_and_yard dc_check_country_and_yard pm_check_country_and_yard an_check_country_and_yard cd_check_country_and_yard ct_check_country_and_yard), sl_check_country_and_yard⟩)
    (c_check_country_and_yard : PySem.W.codeIn K cd_check_country_and_yard "check_country_and_yard" = true)
    (k_check_country_and_yard : PySem.W.keepIn K (.ref f_check_country_and_yard) = true)
    (a_check_load : PySem.W.nsIn K mainGlobals "check_load" = some (some (.ref f_check_load)))
    (l_check_load : K.lookup f_check_load = some ⟨oc_check_load, od_check_load, .func (PySem.W.fnOf "check_load" "check_load" (defArgs s_check_load) (defBody s_check_load) (defScope s_check_load) .none kV_check_load dc_check_load pm_check_load an_check_load cd_check_load ct_check_load), sl_check_load⟩)
    (c_check_load : PySem.W.codeIn K cd_check_load "check_load" = true)
    (k_check_load : PySem.W.keepIn K (.ref f_check_load) = true)
    (a_is_known : PySem.W.nsIn K mainGlobals "is_known" = some (some (.ref f_is_known)))
    (l_is_known : K.lookup f_is_known = some ⟨oc_is_known, od_is_known, .func (PySem.W.fnOf "is_known" "is_known" (defArgs s_is_known) (defBody s_is_known) (defScope s_is_known) .none kV_is_known dc_is_known pm_is_known an_is_known cd_is_known ct_is_known), sl_is_known⟩)
    (c_is_known : PySem.W.codeIn K cd_is_known "is_known" = true)
    (k_is_known : PySem.W.keepIn K (.ref f_is_known) = true)
    (a_is_let : PySem.W.nsIn K mainGlobals "is_let" = some (some (.ref f_is_let)))
    (l_is_let : K.lookup f_is_let = some ⟨oc_is_let, od_is_let, .func (PySem.W.fnOf "is_let" "is_let" (defArgs s_is_let) (defBody s_is_let) (defScope s_is_let) .none kV_is_let dc_is_let pm_is_let an_is_let cd_is_let ct_is_let), sl_is_let⟩)
    (c_is_let : PySem.W.codeIn K cd_is_let "is_let" = true)
    (k_is_let : PySem.W.keepIn K (.ref f_is_let) = true)
    (a_noted : PySem.W.nsIn K mainGlobals "noted" = some (some (.ref f_noted)))
    (l_noted : K.lookup f_noted = some ⟨oc_noted, od_noted, .func (PySem.W.fnOf "noted" "noted" (defArgs s_noted) (defBody s_noted) (defScope s_noted) .none kV_noted dc_noted pm_noted an_noted cd_noted ct_noted), sl_noted⟩)
    (c_noted : PySem.W.codeIn K cd_noted "noted" = true)
    (k_noted : PySem.W.keepIn K (.ref f_noted) = true)
    (a_check_known : PySem.W.nsIn K mainGlobals "check_known" = some (some (.ref f_check_known)))
    (l_check_known : K.lookup f_check_known = some ⟨oc_check_known, od_check_known, .func (PySem.W.fnOf "check_known" "check_known" (defArgs s_check_known) (defBody s_check_known) (defScope s_check_known) .none kV_check_known dc_check_known pm_check_known an_check_known cd_check_known ct_check_known), sl_check_known⟩)
    (c_check_known : PySem.W.codeIn K cd_check_known "check_known" = true)
    (k_check_known : PySem.W.keepIn K (.ref f_check_known) = true)
    (a_is_known_of : PySem.W.nsIn K mainGlobals "is_known_of" = some (some (.ref f_is_known_of)))
    (l_is_known_of : K.lookup f_is_known_of = some ⟨oc_is_known_of, od_is_known_of, .func (PySem.W.fnOf "is_known_of" "is_known_of" (defArgs s_is_known_of) (defBody s_is_known_of) (defScope s_is_known_of) .none kV_is_known_of dc_is_known_of pm_is_known_of an_is_known_of cd_is_known_of ct_is_known_of), sl_is_known_of⟩)
    (c_is_known_of : PySem.W.codeIn K cd_is_known_of "is_known_of" = true)
    (k_is_known_of : PySem.W.keepIn K (.ref f_is_known_of) = true)
    (a_are_seen : PySem.W.nsIn K mainGlobals "are_seen" = some (some (.ref f_are_seen)))
    (l_are_seen : K.lookup f_are_seen = some ⟨oc_are_seen, od_are_seen, .func (PySem.W.fnOf "are_seen" "are_seen" (defArgs s_are_seen) (defBody s_are_seen) (defScope s_are_seen) .none kV_are_seen dc_are_seen pm_are_seen an_are_seen cd_are_seen ct_are_seen), sl_are_seen⟩)
    (c_are_seen : PySem.W.codeIn K cd_are_seen "are_seen" = true)
    (k_are_seen : PySem.W.keepIn K (.ref f_are_seen) = true)
    (a_is_surely_let : PySem.W.nsIn K mainGlobals "is_surely_let" = some (some (.ref f_is_surely_let)))
    (l_is_surely_let : K.lookup f_is_surely_let = some ⟨oc_is_surely_let, od_is_surely_let, .func (PySem.W.fnOf "is_surely_let" "is_surely_let" (defArgs s_is_surely_let) (defBody s_is_surely_let) (defScope s_is_surely_let) .none kV_is_surely_let dc_is_surely_let pm_is_surely_let an_is_surely_let cd_is_surely_let ct_is_surely_let), sl_is_surely_let⟩)
    (c_is_surely_let : PySem.W.codeIn K cd_is_surely_let "is_surely_let" = true)
    (k_is_surely_let : PySem.W.keepIn K (.ref f_is_surely_let) = true)
    (a_is_surely_refused : PySem.W.nsIn K mainGlobals "is_surely_refused" = some (some (.ref f_is_surely_refused)))
    (l_is_surely_refused : K.lookup f_is_surely_refused = some ⟨oc_is_surely_refused, od_is_surely_refused, .func (PySem.W.fnOf "is_surely_refused" "is_surely_refused" (defArgs s_is_surely_refused) (defBody s_is_surely_refused) (defScope s_is_surely_refused) .none kV_is_surely_refused dc_is_surely_refused pm_is_surely_refused an_is_surely_refused cd_is_surely_refused ct_is_surely_refused), sl_is_surely_refused⟩)
    (c_is_surely_refused : PySem.W.codeIn K cd_is_surely_refused "is_surely_refused" = true)
    (k_is_surely_refused : PySem.W.keepIn K (.ref f_is_surely_refused) = true)
    (a_l_pot : PySem.W.nsIn K mainGlobals "_law_pot" = some (some (.ref f_l_pot)))
    (l_l_pot : K.lookup f_l_pot = some ⟨oc_l_pot, od_l_pot, .func (PySem.W.fnOf "_law_pot" "_law_pot" (defArgs s_l_pot) (defBody s_l_pot) (defScope s_l_pot) .none kV_l_pot dc_l_pot pm_l_pot an_l_pot cd_l_pot ct_l_pot), sl_l_pot⟩)
    (c_l_pot : PySem.W.codeIn K cd_l_pot "_law_pot" = true)
    (k_l_pot : PySem.W.keepIn K (.ref f_l_pot) = true)
    (a_l_draw : PySem.W.nsIn K mainGlobals "_law_draw" = some (some (.ref f_l_draw)))
    (l_l_draw : K.lookup f_l_draw = some ⟨oc_l_draw, od_l_draw, .func (PySem.W.fnOf "_law_draw" "_law_draw" (defArgs s_l_draw) (defBody s_l_draw) (defScope s_l_draw) .none kV_l_draw dc_l_draw pm_l_draw an_l_draw cd_l_draw ct_l_draw), sl_l_draw⟩)
    (c_l_draw : PySem.W.codeIn K cd_l_draw "_law_draw" = true)
    (k_l_draw : PySem.W.keepIn K (.ref f_l_draw) = true)
    (a_l_pick : PySem.W.nsIn K mainGlobals "_law_pick" = some (some (.ref f_l_pick)))
    (l_l_pick : K.lookup f_l_pick = some ⟨oc_l_pick, od_l_pick, .func (PySem.W.fnOf "_law_pick" "_law_pick" (defArgs s_l_pick) (defBody s_l_pick) (defScope s_l_pick) .none kV_l_pick dc_l_pick pm_l_pick an_l_pick cd_l_pick ct_l_pick), sl_l_pick⟩)
    (c_l_pick : PySem.W.codeIn K cd_l_pick "_law_pick" = true)
    (k_l_pick : PySem.W.keepIn K (.ref f_l_pick) = true)
    (a_l_lanes : PySem.W.nsIn K mainGlobals "_law_lanes" = some (some (.ref f_l_lanes)))
    (l_l_lanes : K.lookup f_l_lanes = some ⟨oc_l_lanes, od_l_lanes, .func (PySem.W.fnOf "_law_lanes" "_law_lanes" (defArgs s_l_lanes) (defBody s_l_lanes) (defScope s_l_lanes) .none kV_l_lanes dc_l_lanes pm_l_lanes an_l_lanes cd_l_lanes ct_l_lanes), sl_l_lanes⟩)
    (c_l_lanes : PySem.W.codeIn K cd_l_lanes "_law_lanes" = true)
    (k_l_lanes : PySem.W.keepIn K (.ref f_l_lanes) = true)
    (a_l_beside : PySem.W.nsIn K mainGlobals "_law_beside" = some (some (.ref f_l_beside)))
    (l_l_beside : K.lookup f_l_beside = some ⟨oc_l_beside, od_l_beside, .func (PySem.W.fnOf "_law_beside" "_law_beside" (defArgs s_l_beside) (defBody s_l_beside) (defScope s_l_beside) .none kV_l_beside dc_l_beside pm_l_beside an_l_beside cd_l_beside ct_l_beside), sl_l_beside⟩)
    (c_l_beside : PySem.W.codeIn K cd_l_beside "_law_beside" = true)
    (k_l_beside : PySem.W.keepIn K (.ref f_l_beside) = true)
    (a_l_yards : PySem.W.nsIn K mainGlobals "_law_yards" = some (some (.ref f_l_yards)))
    (l_l_yards : K.lookup f_l_yards = some ⟨oc_l_yards, od_l_yards, .func (PySem.W.fnOf "_law_yards" "_law_yards" (defArgs s_l_yards) (defBody s_l_yards) (defScope s_l_yards) .none kV_l_yards dc_l_yards pm_l_yards an_l_yards cd_l_yards ct_l_yards), sl_l_yards⟩)
    (c_l_yards : PySem.W.codeIn K cd_l_yards "_law_yards" = true)
    (k_l_yards : PySem.W.keepIn K (.ref f_l_yards) = true)
    (a_l_pairs : PySem.W.nsIn K mainGlobals "_law_pairs" = some (some (.ref f_l_pairs)))
    (l_l_pairs : K.lookup f_l_pairs = some ⟨oc_l_pairs, od_l_pairs, .func (PySem.W.fnOf "_law_pairs" "_law_pairs" (defArgs s_l_pairs) (defBody s_l_pairs) (defScope s_l_pairs) .none kV_l_pairs dc_l_pairs pm_l_pairs an_l_pairs cd_l_pairs ct_l_pairs), sl_l_pairs⟩)
    (c_l_pairs : PySem.W.codeIn K cd_l_pairs "_law_pairs" = true)
    (k_l_pairs : PySem.W.keepIn K (.ref f_l_pairs) = true)
    (a_l_many : PySem.W.nsIn K mainGlobals "_law_many" = some (some (.ref f_l_many)))
    (l_l_many : K.lookup f_l_many = some ⟨oc_l_many, od_l_many, .func (PySem.W.fnOf "_law_many" "_law_many" (defArgs s_l_many) (defBody s_l_many) (defScope s_l_many) .none kV_l_many dc_l_many pm_l_many an_l_many cd_l_many ct_l_many), sl_l_many⟩)
    (c_l_many : PySem.W.codeIn K cd_l_many "_law_many" = true)
    (k_l_many : PySem.W.keepIn K (.ref f_l_many) = true)
    (a_l_size : PySem.W.nsIn K mainGlobals "_law_size" = some (some (.ref f_l_size)))
    (l_l_size : K.lookup f_l_size = some ⟨oc_l_size, od_l_size, .func (PySem.W.fnOf "_law_size" "_law_size" (defArgs s_l_size) (defBody s_l_size) (defScope s_l_size) .none kV_l_size dc_l_size pm_l_size an_l_size cd_l_size ct_l_size), sl_l_size⟩)
    (c_l_size : PySem.W.codeIn K cd_l_size "_law_size" = true)
    (k_l_size : PySem.W.keepIn K (.ref f_l_size) = true)
    (a_l_plus : PySem.W.nsIn K mainGlobals "_law_plus" = some (some (.ref f_l_plus)))
    (l_l_plus : K.lookup f_l_plus = some ⟨oc_l_plus, od_l_plus, .func (PySem.W.fnOf "_law_plus" "_law_plus" (defArgs s_l_plus) (defBody s_l_plus) (defScope s_l_plus) .none kV_l_plus dc_l_plus pm_l_plus an_l_plus cd_l_plus ct_l_plus), sl_l_plus⟩)
    (c_l_plus : PySem.W.codeIn K cd_l_plus "_law_plus" = true)
    (k_l_plus : PySem.W.keepIn K (.ref f_l_plus) = true)
    (a_l_is_most : PySem.W.nsIn K mainGlobals "_law_is_most" = some (some (.ref f_l_is_most)))
    (l_l_is_most : K.lookup f_l_is_most = some ⟨oc_l_is_most, od_l_is_most, .func (PySem.W.fnOf "_law_is_most" "_law_is_most" (defArgs s_l_is_most) (defBody s_l_is_most) (defScope s_l_is_most) .none kV_l_is_most dc_l_is_most pm_l_is_most an_l_is_most cd_l_is_most ct_l_is_most), sl_l_is_most⟩)
    (c_l_is_most : PySem.W.codeIn K cd_l_is_most "_law_is_most" = true)
    (k_l_is_most : PySem.W.keepIn K (.ref f_l_is_most) = true)
    (a_l_load : PySem.W.nsIn K mainGlobals "_law_load" = some (some (.ref f_l_load)))
    (l_l_load : K.lookup f_l_load = some ⟨oc_l_load, od_l_load, .func (PySem.W.fnOf "_law_load" "_law_load" (defArgs s_l_load) (defBody s_l_load) (defScope s_l_load) .none kV_l_load dc_l_load pm_l_load an_l_load cd_l_load ct_l_load), sl_l_load⟩)
    (c_l_load : PySem.W.codeIn K cd_l_load "_law_load" = true)
    (k_l_load : PySem.W.keepIn K (.ref f_l_load) = true)
    (a_l_known : PySem.W.nsIn K mainGlobals "_law_known" = some (some (.ref f_l_known)))
    (l_l_known : K.lookup f_l_known = some ⟨oc_l_known, od_l_known, .func (PySem.W.fnOf "_law_known" "_law_known" (defArgs s_l_known) (defBody s_l_known) (defScope s_l_known) .none kV_l_known dc_l_known pm_l_known an_l_known cd_l_known ct_l_known), sl_l_known⟩)
    (c_l_known : PySem.W.codeIn K cd_l_known "_law_known" = true)
    (k_l_known : PySem.W.keepIn K (.ref f_l_known) = true)
    (a_l_sure : PySem.W.nsIn K mainGlobals "_law_sure" = some (some (.ref f_l_sure)))
    (l_l_sure : K.lookup f_l_sure = some ⟨oc_l_sure, od_l_sure, .func (PySem.W.fnOf "_law_sure" "_law_sure" (defArgs s_l_sure) (defBody s_l_sure) (defScope s_l_sure) .none kV_l_sure dc_l_sure pm_l_sure an_l_sure cd_l_sure ct_l_sure), sl_l_sure⟩)
    (c_l_sure : PySem.W.codeIn K cd_l_sure "_law_sure" = true)
    (k_l_sure : PySem.W.keepIn K (.ref f_l_sure) = true)
    (a_l_given : PySem.W.nsIn K mainGlobals "_law_given" = some (some (.ref f_l_given)))
    (l_l_given : K.lookup f_l_given = some ⟨oc_l_given, od_l_given, .func (PySem.W.fnOf "_law_given" "_law_given" (defArgs s_l_given) (defBody s_l_given) (defScope s_l_given) .none kV_l_given dc_l_given pm_l_given an_l_given cd_l_given ct_l_given), sl_l_given⟩)
    (c_l_given : PySem.W.codeIn K cd_l_given "_law_given" = true)
    (k_l_given : PySem.W.keepIn K (.ref f_l_given) = true)
    (a_l_known_given : PySem.W.nsIn K mainGlobals "_law_known_given" = some (some (.ref f_l_known_given)))
    (l_l_known_given : K.lookup f_l_known_given = some ⟨oc_l_known_given, od_l_known_given, .func (PySem.W.fnOf "_law_known_given" "_law_known_given" (defArgs s_l_known_given) (defBody s_l_known_given) (defScope s_l_known_given) .none kV_l_known_given dc_l_known_given pm_l_known_given an_l_known_given cd_l_known_given ct_l_known_given), sl_l_known_given⟩)
    (c_l_known_given : PySem.W.codeIn K cd_l_known_given "_law_known_given" = true)
    (k_l_known_given : PySem.W.keepIn K (.ref f_l_known_given) = true)
    (a_l_loads : PySem.W.nsIn K mainGlobals "_law_loads" = some (some (.ref f_l_loads)))
    (l_l_loads : K.lookup f_l_loads = some ⟨oc_l_loads, od_l_loads, .func (PySem.W.fnOf "_law_loads" "_law_loads" (defArgs s_l_loads) (defBody s_l_loads) (defScope s_l_loads) .none kV_l_loads dc_l_loads pm_l_loads an_l_loads cd_l_loads ct_l_loads), sl_l_loads⟩)
    (c_l_loads : PySem.W.codeIn K cd_l_loads "_law_loads" = true)
    (k_l_loads : PySem.W.keepIn K (.ref f_l_loads) = true)
    (a_l_noted_right : PySem.W.nsIn K mainGlobals "_law_noted_right" = some (some (.ref f_l_noted_right)))
    (l_l_noted_right : K.lookup f_l_noted_right = some ⟨oc_l_noted_right, od_l_noted_right, .func (PySem.W.fnOf "_law_noted_right" "_law_noted_right" (defArgs s_l_noted_right) (defBody s_l_noted_right) (defScope s_l_noted_right) .none kV_l_noted_right dc_l_noted_right pm_l_noted_right an_l_noted_right cd_l_noted_right ct_l_noted_right), sl_l_noted_right⟩)
    (c_l_noted_right : PySem.W.codeIn K cd_l_noted_right "_law_noted_right" = true)
    (k_l_noted_right : PySem.W.keepIn K (.ref f_l_noted_right) = true)
    (a_l_right : PySem.W.nsIn K mainGlobals "_law_right" = some (some (.ref f_l_right)))
    (l_l_right : K.lookup f_l_right = some ⟨oc_l_right, od_l_right, .func (PySem.W.fnOf "_law_right" "_law_right" (defArgs s_l_right) (defBody s_l_right) (defScope s_l_right) .none kV_l_right dc_l_right pm_l_right an_l_right cd_l_right ct_l_right), sl_l_right⟩)
    (c_l_right : PySem.W.codeIn K cd_l_right "_law_right" = true)
    (k_l_right : PySem.W.keepIn K (.ref f_l_right) = true)
    (a_law : PySem.W.nsIn K mainGlobals "law" = some (some (.ref f_law)))
    (l_law : K.lookup f_law = some ⟨oc_law, od_law, .func (PySem.W.fnOf "law" "law" (defArgs s_law) (defBody s_law) (defScope s_law) .none kV_law dc_law pm_law an_law cd_law ct_law), sl_law⟩)
    (c_law : PySem.W.codeIn K cd_law "law" = true)
    (k_law : PySem.W.keepIn K (.ref f_law) = true)
    (pg_Country : PySem.W.plainGet K C_Country Str.empty = true)
    (hd_Country : PySem.W.hasDictIn K C_Country = true)
    (po_Country : PySem.W.plainOver K C_Country = true)
    (sa_Country : PySem.W.findIn K (.ref C_Country) "__setattr__" = some (some (.builtin "object.__setattr__")))
    (mk_Country : PySem.W.makesIn K C_Country = true)
    (kc_Country : PySem.W.keepIn K (.ref C_Country) = true)
    (ha_Country : PySem.W.findIn K (.ref C_Country) "__class__" = some (some (.builtin "object.__class__")))
    (hm_Country : PySem.W.mroIn K C_Country (.type "object") = some true)
    (nl_Country : PySem.W.kitOne K (.type "list") (.ref C_Country) = some false)
    (ni_Country : PySem.W.kitOne K (.type "int") (.ref C_Country) = some false)
    (ne_Country : PySem.W.findIn K (.ref C_Country) "__ne__" = some (some (.builtin "object.__ne__")))
    (na_Country_lanes : PySem.W.findIn K (.ref C_Country) "_lanes" = some none)
    (na_Country_around : PySem.W.findIn K (.ref C_Country) "_around" = some none)
    (na_Country_ahead : PySem.W.findIn K (.ref C_Country) "_ahead" = some none)
    (na_Country_yards : PySem.W.findIn K (.ref C_Country) "_yards" = some none)
    (na_Country_gates : PySem.W.findIn K (.ref C_Country) "_gates" = some none)
    (hn : PySem.W.specialIn K (.builtin "object.__class__") "__get__" = some (some (.builtin "getset_descriptor.__get__")))
    (htk : PySem.W.takesIn K (.builtin "object.__class__") = some true)
    (aX_Contrary : PySem.W.nsIn K mainGlobals "Contrary" = some (some (.ref X_Contrary)))
    (xX_Contrary : PySem.W.excIn K X_Contrary [.type "RuntimeError", .type "Exception", .type "BaseException", .type "object"] "RuntimeError.__new__" = true)
    (kX_Contrary : PySem.W.keepIn K (.ref X_Contrary) = true)
    (bX_Contrary : PySem.W.subIn K (.ref X_Contrary) (.type "BaseException") = some true)
    (tX_Contrary : PySem.W.typeIn K (.ref X_Contrary) = some (.type "type"))
    (iX_Contrary : PySem.W.isClsIn K X_Contrary = true)
    (sX_Contrary : PySem.W.subIn K (.ref X_Contrary) (.ref X_Contrary) = some true)
    (z_MOST_LANES_AT_A_PLACE : PySem.W.nsIn K mainGlobals "MOST_LANES_AT_A_PLACE" = some (some (.int 4 t_MOST_LANES_AT_A_PLACE)))
    (z_MOST_YARDS : PySem.W.nsIn K mainGlobals "MOST_YARDS" = some (some (.int 7 t_MOST_YARDS)))
    (z_MOST_PLACES : PySem.W.nsIn K mainGlobals "MOST_PLACES" = some (some (.int 6 t_MOST_PLACES)))
    (z_MOST_SEEN : PySem.W.nsIn K mainGlobals "MOST_SEEN" = some (some (.int 12 t_MOST_SEEN)))
    (z_abs : PySem.W.nsIn K mainGlobals "abs" = some none)
    (z_all : PySem.W.nsIn K mainGlobals "all" = some none)
    (z_any : PySem.W.nsIn K mainGlobals "any" = some none)
    (z_bool : PySem.W.nsIn K mainGlobals "bool" = some none)
    (z_divmod : PySem.W.nsIn K mainGlobals "divmod" = some none)
    (z_int : PySem.W.nsIn K mainGlobals "int" = some none)
    (z_isinstance : PySem.W.nsIn K mainGlobals "isinstance" = some none)
    (z_len : PySem.W.nsIn K mainGlobals "len" = some none)
    (z_list : PySem.W.nsIn K mainGlobals "list" = some none)
    (z_max : PySem.W.nsIn K mainGlobals "max" = some none)
    (z_min : PySem.W.nsIn K mainGlobals "min" = some none)
    (z_range : PySem.W.nsIn K mainGlobals "range" = some none)
    (z_repr : PySem.W.nsIn K mainGlobals "repr" = some none)
    (z_sorted : PySem.W.nsIn K mainGlobals "sorted" = some none)
    (z_str : PySem.W.nsIn K mainGlobals "str" = some none)
    (z_sum : PySem.W.nsIn K mainGlobals "sum" = some none)
    (z_tuple : PySem.W.nsIn K mainGlobals "tuple" = some none)
    : ∃ fd : FuncData, (∀ (s : Shared) (v : Value), BindsTo s fd ⟨[v], []⟩ [("_law_script", v)]) ∧ ∀ base : Heap, G8.FnOkG P w K mg base CX0 12 fa fd ["_law_script"] (Pr.spLaw K) := by
  have e := hfa.symm.trans (PySem.W.mg_of X G a_law)
  cases e
  have F_is_count := fun_mk (st := s_is_count) l_is_count c_is_count k_is_count
  have b_is_count := F_is_count.binds (ps := ["value"]) fun _ _ _ _ _ _ us hl => match us, hl with | [_], _ => rfl
  have F_is_row := fun_mk (st := s_is_row) l_is_row c_is_row k_is_row
  have b_is_row := F_is_row.binds (ps := ["value"]) fun _ _ _ _ _ _ us hl => match us, hl with | [_], _ => rfl
  have F_Country_init := fun_mk (st := s_Country_init) l_Country_init c_Country_init k_Country_init
  have b_Country_init := F_Country_init.binds (ps := ["self", "lanes"]) fun _ _ _ _ _ _ us hl => match us, hl with | [_, _], _ => rfl
  have F_Country_lanes := fun_mk (st := s_Country_lanes) l_Country_lanes c_Country_lanes k_Country_lanes
  have b_Country_lanes := F_Country_lanes.binds (ps := ["self"]) fun _ _ _ _ _ _ us hl => match us, hl with | [_], _ => rfl
  have F_Country_yards := fun_mk (st := s_Country_yards) l_Country_yards c_Country_yards k_Country_yards
  have b_Country_yards := F_Country_yards.binds (ps := ["self"]) fun _ _ _ _ _ _ us hl => match us, hl with | [_], _ => rfl
  have F_Country_gates := fun_mk (st := s_Country_gates) l_Country_gates c_Country_gates k_Country_gates
  have b_Country_gates := F_Country_gates.binds (ps := ["self"]) fun _ _ _ _ _ _ us hl => match us, hl with | [_], _ => rfl
  have F_Country_neighbours := fun_mk (st := s_Country_neighbours) l_Country_neighbours c_Country_neighbours k_Country_neighbours
  have b_Country_neighbours := F_Country_neighbours.binds (ps := ["self", "place"]) fun _ _ _ _ _ _ us hl => match us, hl with | [_, _], _ => rfl
  have F_Country_ahead := fun_mk (st := s_Country_ahead) l_Country_ahead c_Country_ahead k_Country_ahead
  have b_Country_ahead := F_Country_ahead.binds (ps := ["self", "place", "goal"]) fun _ _ _ _ _ _ us hl => match us, hl with | [_, _, _], _ => rfl
  have F_Country_eq := fun_mk (st := s_Country_eq) l_Country_eq c_Country_eq k_Country_eq
  have b_Country_eq := F_Country_eq.binds (ps := ["self", "other"]) fun _ _ _ _ _ _ us hl => match us, hl with | [_, _], _ => rfl
  have F_is_place := fun_mk (st := s_is_place) l_is_place c_is_place k_is_place
  have b_is_place := F_is_place.binds (ps := ["country", "value"]) fun _ _ _ _ _ _ us hl => match us, hl with | [_, _], _ => rfl
  have F_is_yard := fun_mk (st := s_is_yard) l_is_yard c_is_yard k_is_yard
  have b_is_yard := F_is_yard.binds (ps := ["country", "value"]) fun _ _ _ _ _ _ us hl => match us, hl with | [_, _], _ => rfl
  have F_are_lanes := fun_mk (st := s_are_lanes) l_are_lanes c_are_lanes k_are_lanes
  have b_are_lanes := F_are_lanes.binds (ps := ["value"]) fun _ _ _ _ _ _ us hl => match us, hl with | [_], _ => rfl
  have F_is_pair_up_to := fun_mk (st := s_is_pair_up_to) l_is_pair_up_to c_is_pair_up_to k_is_pair_up_to
  have b_is_pair_up_to := F_is_pair_up_to.binds (ps := ["value", "last"]) fun _ _ _ _ _ _ us hl => match us, hl with | [_, _], _ => rfl
  have F_neighbours_by_place := fun_mk (st := s_neighbours_by_place) l_neighbours_by_place c_neighbours_by_place k_neighbours_by_place
  have b_neighbours_by_place := F_neighbours_by_place.binds (ps := ["lanes"]) fun _ _ _ _ _ _ us hl => match us, hl with | [_], _ => rfl
  have F_yards_among := fun_mk (st := s_yards_among) l_yards_among c_yards_among k_yards_among
  have b_yards_among := F_yards_among.binds (ps := ["around"]) fun _ _ _ _ _ _ us hl => match us, hl with | [_], _ => rfl
  have F_places_ahead := fun_mk (st := s_places_ahead) l_places_ahead c_places_ahead k_places_ahead
  have b_places_ahead := F_places_ahead.binds (ps := ["around", "goal"]) fun _ _ _ _ _ _ us hl => match us, hl with | [_, _], _ => rfl
  have F_is_among := fun_mk (st := s_is_among) l_is_among c_is_among k_is_among
  have b_is_among := F_is_among.binds (ps := ["around", "value"]) fun _ _ _ _ _ _ us hl => match us, hl with | [_, _], _ => rfl
  have F_is_pair_of := fun_mk (st := s_is_pair_of) l_is_pair_of c_is_pair_of k_is_pair_of
  have b_is_pair_of := F_is_pair_of.binds (ps := ["around", "origin", "target"]) fun _ _ _ _ _ _ us hl => match us, hl with | [_, _, _], _ => rfl
  have F_is_load_of := fun_mk (st := s_is_load_of) l_is_load_of c_is_load_of k_is_load_of
  have b_is_load_of := F_is_load_of.binds (ps := ["around", "value"]) fun _ _ _ _ _ _ us hl => match us, hl with | [_, _], _ => rfl
  have F_is_entry := fun_mk (st := s_is_entry) l_is_entry c_is_entry k_is_entry
  have b_is_entry := F_is_entry.binds (ps := ["around", "value"]) fun _ _ _ _ _ _ us hl => match us, hl with | [_, _], _ => rfl
  have F_carts_of := fun_mk (st := s_carts_of) l_carts_of c_carts_of k_carts_of
  have b_carts_of := F_carts_of.binds (ps := ["load", "origin", "target"]) fun _ _ _ _ _ _ us hl => match us, hl with | [_, _, _], _ => rfl
  have F_is_within := fun_mk (st := s_is_within) l_is_within c_is_within k_is_within
  have b_is_within := F_is_within.binds (ps := ["load", "other"]) fun _ _ _ _ _ _ us hl => match us, hl with | [_, _], _ => rfl
  have F_check_country := fun_mk (st := s_check_country) l_check_country c_check_country k_check_country
  have b_check_country := F_check_country.binds (ps := ["country"]) fun _ _ _ _ _ _ us hl => match us, hl with | [_], _ => rfl
  have F_check_yard := fun_mk (st := s_check_yard) l_check_yard c_check_yard k_check_yard
  have b_check_yard := F_check_yard.binds (ps := ["country", "yard"]) fun _ _ _ _ _ _ us hl => match us, hl with | [_, _], _ => rfl
  have F_check_country_and_yard := fun_mk (st := s_check_country_and_yard) l_check_country_and_yard c_check_country_and_yard k_check_country_and_yard
  have b_check_country_and_yard := F_check_country_and_yard.binds (ps := ["country", "yard"]) fun _ _ _ _ _ _ us hl => match us, hl with | [_, _], _ => rfl
  have F_check_load := fun_mk (st := s_check_load) l_check_load c_check_load k_check_load
  have b_check_load := F_check_load.binds (ps := ["country", "yard", "load"]) fun _ _ _ _ _ _ us hl => match us, hl with | [_, _, _], _ => rfl
  have F_is_known := fun_mk (st := s_is_known) l_is_known c_is_known k_is_known
  have b_is_known := F_is_known.binds (ps := ["country", "yard", "value"]) fun _ _ _ _ _ _ us hl => match us, hl with | [_, _, _], _ => rfl
  have F_is_let := fun_mk (st := s_is_let) l_is_let c_is_let k_is_let
  have b_is_let := F_is_let.binds (ps := ["country", "yard", "known", "load"]) fun _ _ _ _ _ _ us hl => match us, hl with | [_, _, _, _], _ => rfl
  have F_noted := fun_mk (st := s_noted) l_noted c_noted k_noted
  have b_noted := F_noted.binds (ps := ["country", "yard", "known", "load", "word"]) fun _ _ _ _ _ _ us hl => match us, hl with | [_, _, _, _, _], _ => rfl
  have F_check_known := fun_mk (st := s_check_known) l_check_known c_check_known k_check_known
  have b_check_known := F_check_known.binds (ps := ["country", "yard", "known"]) fun _ _ _ _ _ _ us hl => match us, hl with | [_, _, _], _ => rfl
  have F_is_known_of := fun_mk (st := s_is_known_of) l_is_known_of c_is_known_of k_is_known_of
  have b_is_known_of := F_is_known_of.binds (ps := ["around", "value"]) fun _ _ _ _ _ _ us hl => match us, hl with | [_, _], _ => rfl
  have F_are_seen := fun_mk (st := s_are_seen) l_are_seen c_are_seen k_are_seen
  have b_are_seen := F_are_seen.binds (ps := ["around", "value"]) fun _ _ _ _ _ _ us hl => match us, hl with | [_, _], _ => rfl
  have F_is_surely_let := fun_mk (st := s_is_surely_let) l_is_surely_let c_is_surely_let k_is_surely_let
  have b_is_surely_let := F_is_surely_let.binds (ps := ["known", "load"]) fun _ _ _ _ _ _ us hl => match us, hl with | [_, _], _ => rfl
  have F_is_surely_refused := fun_mk (st := s_is_surely_refused) l_is_surely_refused c_is_surely_refused k_is_surely_refused
  have b_is_surely_refused := F_is_surely_refused.binds (ps := ["known", "load"]) fun _ _ _ _ _ _ us hl => match us, hl with | [_, _], _ => rfl
  have F_l_pot := fun_mk (st := s_l_pot) l_l_pot c_l_pot k_l_pot
  have b_l_pot := F_l_pot.binds (ps := ["_law_script", "_law_k"]) fun _ _ _ _ _ _ us hl => match us, hl with | [_, _], _ => rfl
  have F_l_draw := fun_mk (st := s_l_draw) l_l_draw c_l_draw k_l_draw
  have b_l_draw := F_l_draw.binds (ps := ["_law_pot_here", "_law_many_here"]) fun _ _ _ _ _ _ us hl => match us, hl with | [_, _], _ => rfl
  have F_l_pick := fun_mk (st := s_l_pick) l_l_pick c_l_pick k_l_pick
  have b_l_pick := F_l_pick.binds (ps := ["_law_pot_here", "_law_some"]) fun _ _ _ _ _ _ us hl => match us, hl with | [_, _], _ => rfl
  have F_l_lanes := fun_mk (st := s_l_lanes) l_l_lanes c_l_lanes k_l_lanes
  have b_l_lanes := F_l_lanes.binds (ps := ["_law_pot_here", "_law_most"]) fun _ _ _ _ _ _ us hl => match us, hl with | [_, _], _ => rfl
  have F_l_beside := fun_mk (st := s_l_beside) l_l_beside c_l_beside k_l_beside
  have b_l_beside := F_l_beside.binds (ps := ["_law_lanes_here", "_law_place"]) fun _ _ _ _ _ _ us hl => match us, hl with | [_, _], _ => rfl
  have F_l_yards := fun_mk (st := s_l_yards) l_l_yards c_l_yards k_l_yards
  have b_l_yards := F_l_yards.binds (ps := ["_law_lanes_here"]) fun _ _ _ _ _ _ us hl => match us, hl with | [_], _ => rfl
  have F_l_pairs := fun_mk (st := s_l_pairs) l_l_pairs c_l_pairs k_l_pairs
  have b_l_pairs := F_l_pairs.binds (ps := ["_law_lanes_here", "_law_yard"]) fun _ _ _ _ _ _ us hl => match us, hl with | [_, _], _ => rfl
  have F_l_many := fun_mk (st := s_l_many) l_l_many c_l_many k_l_many
  have b_l_many := F_l_many.binds (ps := ["_law_load_here", "_law_pair"]) fun _ _ _ _ _ _ us hl => match us, hl with | [_, _], _ => rfl
  have F_l_size := fun_mk (st := s_l_size) l_l_size c_l_size k_l_size
  have b_l_size := F_l_size.binds (ps := ["_law_load_here"]) fun _ _ _ _ _ _ us hl => match us, hl with | [_], _ => rfl
  have F_l_plus := fun_mk (st := s_l_plus) l_l_plus c_l_plus k_l_plus
  have b_l_plus := F_l_plus.binds (ps := ["_law_load_here", "_law_pair"]) fun _ _ _ _ _ _ us hl => match us, hl with | [_, _], _ => rfl
  have F_l_is_most := fun_mk (st := s_l_is_most) l_l_is_most c_l_is_most k_l_is_most
  have b_l_is_most := F_l_is_most.binds (ps := ["_law_load_here", "_law_other"]) fun _ _ _ _ _ _ us hl => match us, hl with | [_, _], _ => rfl
  have F_l_load := fun_mk (st := s_l_load) l_l_load c_l_load k_l_load
  have b_l_load := F_l_load.binds (ps := ["_law_pot_here", "_law_pairs_here", "_law_size_here"]) fun _ _ _ _ _ _ us hl => match us, hl with | [_, _, _], _ => rfl
  have F_l_known := fun_mk (st := s_l_known) l_l_known c_l_known k_l_known
  have b_l_known := F_l_known.binds (ps := ["_law_pot_here", "_law_lanes_here", "_law_yard", "_law_most"]) fun _ _ _ _ _ _ us hl => match us, hl with | [_, _, _, _], _ => rfl
  have F_l_sure := fun_mk (st := s_l_sure) l_l_sure c_l_sure k_l_sure
  have b_l_sure := F_l_sure.binds (ps := ["_law_known_here", "_law_load_here"]) fun _ _ _ _ _ _ us hl => match us, hl with | [_, _], _ => rfl
  have F_l_given := fun_mk (st := s_l_given) l_l_given c_l_given k_l_given
  have b_l_given := F_l_given.binds (ps := ["_law_pot_here", "_law_loads_here"]) fun _ _ _ _ _ _ us hl => match us, hl with | [_, _], _ => rfl
  have F_l_known_given := fun_mk (st := s_l_known_given) l_l_known_given c_l_known_given k_l_known_given
  have b_l_known_given := F_l_known_given.binds (ps := ["_law_pot_here", "_law_known_here"]) fun _ _ _ _ _ _ us hl => match us, hl with | [_, _], _ => rfl
  have F_l_loads := fun_mk (st := s_l_loads) l_l_loads c_l_loads k_l_loads
  have b_l_loads := F_l_loads.binds (ps := ["_law_pot_here", "_law_lanes_here", "_law_yard", "_law_known_here"]) fun _ _ _ _ _ _ us hl => match us, hl with | [_, _, _, _], _ => rfl
  have F_l_noted_right := fun_mk (st := s_l_noted_right) l_l_noted_right c_l_noted_right k_l_noted_right
  have b_l_noted_right := F_l_noted_right.binds (ps := ["_law_country", "_law_yard", "_law_known_here", "_law_load_here", "_law_word"]) fun _ _ _ _ _ _ us hl => match us, hl with | [_, _, _, _, _], _ => rfl
  have F_l_right := fun_mk (st := s_l_right) l_l_right c_l_right k_l_right
  have b_l_right := F_l_right.binds (ps := ["_law_pot_here"]) fun _ _ _ _ _ _ us hl => match us, hl with | [_], _ => rfl
  have F_law := fun_mk (st := s_law) l_law c_law k_law
  have b_law := F_law.binds (ps := ["_law_script"]) fun _ _ _ _ _ _ us hl => match us, hl with | [_], _ => rfl
  have cl_Country : Cls K C_Country := ⟨pg_Country, hd_Country, po_Country, sa_Country⟩
  have T : Txt K mg { is_count := f_is_count, is_count_fd := (PySem.W.fnOf "is_count" "is_count" (defArgs s_is_count) (defBody s_is_count) (defScope s_is_count) .none kV_is_count dc_is_count pm_is_count an_is_count cd_is_count ct_is_count), is_row := f_is_row, is_row_fd := (PySem.W.fnOf "is_row" "is_row" (defArgs s_is_row) (defBody s_is_row) (defScope s_is_row) .none kV_is_row dc_is_row pm_is_row an_is_row cd_is_row ct_is_row), Country_init := f_Country_init, Country_init_fd := (PySem.W.fnOf "__init__" "Country.__init__" (defArgs s_Country_init) (defBody s_Country_init) (defScope s_Country_init) .none kV_Country_init dc_Country_init pm_Country_init an_Country_init cd_Country_init ct_Country_init), Country_lanes := f_Country_lanes, Country_lanes_fd := (PySem.W.fnOf "lanes" "Country.lanes" (defArgs s_Country_lanes) (defBody s_Country_lanes) (defScope s_Country_lanes) .none kV_Country_lanes dc_Country_lanes pm_Country_lanes an_Country_lanes cd_Country_lanes ct_Country_lanes), Country_lanes_p := p_Country_lanes, Country_yards := f_Country_yards, Country_yards_fd := (PySem.W.fnOf "yards" "Country.yards" (defArgs s_Country_yards) (defBody s_Country_yards) (defScope s_Country_yards) .none kV_Country_yards dc_Country_yards pm_Country_yards an_Country_yards cd_Country_yards ct_Country_yards), Country_yards_p := p_Country_yards, Country_gates := f_Country_gates, Country_gates_fd := (PySem.W.fnOf "gates" "Country.gates" (defArgs s_Country_gates) (defBody s_Country_gates) (defScope s_Country_gates) .none kV_Country_gates dc_Country_gates pm_Country_gates an_Country_gates cd_Country_gates ct_Country_gates), Country_gates_p := p_Country_gates, Country_neighbours := f_Country_neighbours, Country_neighbours_fd := (PySem.W.fnOf "neighbours" "Country.neighbours" (defArgs s_Country_neighbours) (defBody s_Country_neighbours) (defScope s_Country_neighbours) .none kV_Country_neighbours dc_Country_neighbours pm_Country_neighbours an_Country_neighbours cd_Country_neighbours ct_Country_neighbours), Country_ahead := f_Country_ahead, Country_ahead_fd := (PySem.W.fnOf "ahead" "Country.ahead" (defArgs s_Country_ahead) (defBody s_Country_ahead) (defScope s_Country_ahead) .none kV_Country_ahead dc_Country_ahead pm_Country_ahead an_Country_ahead cd_Country_ahead ct_Country_ahead), Country_eq := f_Country_eq, Country_eq_fd := (PySem.W.fnOf "__eq__" "Country.__eq__" (defArgs s_Country_eq) (defBody s_Country_eq) (defScope s_Country_eq) .none kV_Country_eq dc_Country_eq pm_Country_eq an_Country_eq cd_Country_eq ct_Country_eq), is_place := f_is_place, is_place_fd := (PySem.W.fnOf "is_place" "is_place" (defArgs s_is_place) (defBody s_is_place) (defScope s_is_place) .none kV_is_place dc_is_place pm_is_place an_is_place cd_is_place ct_is_place), is_yard := f_is_yard, is_yard_fd := (PySem.W.fnOf "is_yard" "is_yard" (defArgs s_is_yard) (defBody s_is_yard) (defScope s_is_yard) .none kV_is_yard dc_is_yard pm_is_yard an_is_yard cd_is_yard ct_is_yard), are_lanes := f_are_lanes, are_lanes_fd := (PySem.W.fnOf "are_lanes" "are_lanes" (defArgs s_are_lanes) (defBody s_are_lanes) (defScope s_are_lanes) .none kV_are_lanes dc_are_lanes pm_are_lanes an_are_lanes cd_are_lanes ct_are_lanes), is_pair_up_to := f_is_pair_up_to, is_pair_up_to_fd := (PySem.W.fnOf "is_pair_up_to" "is_pair_up_to" (defArgs s_is_pair_up_to) (defBody s_is_pair_up_to) (defScope s_is_pair_up_to) .none kV_is_pair_up_to dc_is_pair_up_to pm_is_pair_up_to an_is_pair_up_to cd_is_pair_up_to ct_is_pair_up_to), neighbours_by_place := f_neighbours_by_place, neighbours_by_place_fd := (PySem.W.fnOf "neighbours_by_place" "neighbours_by_place" (defArgs s_neighbours_by_place) (defBody s_neighbours_by_place) (defScope s_neighbours_by_place) .none kV_neighbours_by_place dc_neighbours_by_place pm_neighbours_by_place an_neighbours_by_place cd_neighbours_by_place ct_neighbours_by_place), yards_among := f_yards_among, yards_among_fd := (PySem.W.fnOf "yards_among" "yards_among" (defArgs s_yards_among) (defBody s_yards_among) (defScope s_yards_among) .none kV_yards_among dc_yards_among pm_yards_among an_yards_among cd_yards_among ct_yards_among), places_ahead := f_places_ahead, places_ahead_fd := (PySem.W.fnOf "places_ahead" "places_ahead" (defArgs s_places_ahead) (defBody s_places_ahead) (defScope s_places_ahead) .none kV_places_ahead dc_places_ahead pm_places_ahead an_places_ahead cd_places_ahead ct_places_ahead), is_among := f_is_among, is_among_fd := (PySem.W.fnOf "is_among" "is_among" (defArgs s_is_among) (defBody s_is_among) (defScope s_is_among) .none kV_is_among dc_is_among pm_is_among an_is_among cd_is_among ct_is_among), is_pair_of := f_is_pair_of, is_pair_of_fd := (PySem.W.fnOf "is_pair_of" "is_pair_of" (defArgs s_is_pair_of) (defBody s_is_pair_of) (defScope s_is_pair_of) .none kV_is_pair_of dc_is_pair_of pm_is_pair_of an_is_pair_of cd_is_pair_of ct_is_pair_of), is_load_of := f_is_load_of, is_load_of_fd := (PySem.W.fnOf "is_load_of" "is_load_of" (defArgs s_is_load_of) (defBody s_is_load_of) (defScope s_is_load_of) .none kV_is_load_of dc_is_load_of pm_is_load_of an_is_load_of cd_is_load_of ct_is_load_of), is_entry := f_is_entry, is_entry_fd := (PySem.W.fnOf "is_entry" "is_entry" (defArgs s_is_entry) (defBody s_is_entry) (defScope s_is_entry) .none kV_is_entry dc_is_entry pm_is_entry an_is_entry cd_is_entry ct_is_entry), carts_of := f_carts_of, carts_of_fd := (PySem.W.fnOf "carts_of" "carts_of" (defArgs s_carts_of) (defBody s_carts_of) (defScope s_carts_of) .none kV_carts_of dc_carts_of pm_carts_of an_carts_of cd_carts_of ct_carts_of), is_within := f_is_within, is_within_fd := (PySem.W.fnOf "is_within" "is_within" (defArgs s_is_within) (defBody s_is_within) (defScope s_is_within) .none kV_is_within dc_is_within pm_is_within an_is_within cd_is_within ct_is_within), check_country := f_check_country, check_country_fd := (PySem.W.fnOf "check_country" "check_country" (defArgs s_check_country) (defBody s_check_country) (defScope s_check_country) .none kV_check_country dc_check_country pm_check_country an_check_country cd_check_country ct_check_country), check_yard := f_check_yard, check_yard_fd := (PySem.W.fnOf "check_yard" "check_yard" (defArgs s_check_yard) (defBody s_check_yard) (defScope s_check_yard) .none kV_check_yard dc_check_yard pm_check_yard an_check_yard cd_check_yard ct_check_yard), check_country_and_yard := f_check_country_and_yard, check_country_and_yard_fd := (PySem.W.fnOf "check_country_and_yard" "check_country_and_yard" (defArgs s_check_country_and_yard) (defBody s_check_country_and_yard) (defScope s_check_country_and_yard) .none kV_check_country_and_yard dc_check_country_and_yard pm_check_country_and_yard an_check_country_and_yard cd_check_country_and_yard ct_check_country_and_yard), check_load := f_check_load, check_load_fd := (PySem.W.fnOf "check_load" "check_load" (defArgs s_check_load) (defBody s_check_load) (defScope s_check_load) .none kV_check_load dc_check_load pm_check_load an_check_load cd_check_load ct_check_load), is_known := f_is_known, is_known_fd := (PySem.W.fnOf "is_known" "is_known" (defArgs s_is_known) (defBody s_is_known) (defScope s_is_known) .none kV_is_known dc_is_known pm_is_known an_is_known cd_is_known ct_is_known), is_let := f_is_let, is_let_fd := (PySem.W.fnOf "is_let" "is_let" (defArgs s_is_let) (defBody s_is_let) (defScope s_is_let) .none kV_is_let dc_is_let pm_is_let an_is_let cd_is_let ct_is_let), noted := f_noted, noted_fd := (PySem.W.fnOf "noted" "noted" (defArgs s_noted) (defBody s_noted) (defScope s_noted) .none kV_noted dc_noted pm_noted an_noted cd_noted ct_noted), check_known := f_check_known, check_known_fd := (PySem.W.fnOf "check_known" "check_known" (defArgs s_check_known) (defBody s_check_known) (defScope s_check_known) .none kV_check_known dc_check_known pm_check_known an_check_known cd_check_known ct_check_known), is_known_of := f_is_known_of, is_known_of_fd := (PySem.W.fnOf "is_known_of" "is_known_of" (defArgs s_is_known_of) (defBody s_is_known_of) (defScope s_is_known_of) .none kV_is_known_of dc_is_known_of pm_is_known_of an_is_known_of cd_is_known_of ct_is_known_of), are_seen := f_are_seen, are_seen_fd := (PySem.W.fnOf "are_seen" "are_seen" (defArgs s_are_seen) (defBody s_are_seen) (defScope s_are_seen) .none kV_are_seen dc_are_seen pm_are_seen an_are_seen cd_are_seen ct_are_seen), is_surely_let := f_is_surely_let, is_surely_let_fd := (PySem.W.fnOf "is_surely_let" "is_surely_let" (defArgs s_is_surely_let) (defBody s_is_surely_let) (defScope s_is_surely_let) .none kV_is_surely_let dc_is_surely_let pm_is_surely_let an_is_surely_let cd_is_surely_let ct_is_surely_let), is_surely_refused := f_is_surely_refused, is_surely_refused_fd := (PySem.W.fnOf "is_surely_refused" "is_surely_refused" (defArgs s_is_surely_refused) (defBody s_is_surely_refused) (defScope s_is_surely_refused) .none kV_is_surely_refused dc_is_surely_refused pm_is_surely_refused an_is_surely_refused cd_is_surely_refused ct_is_surely_refused), l_pot := f_l_pot, l_pot_fd := (PySem.W.fnOf "_law_pot" "_law_pot" (defArgs s_l_pot) (defBody s_l_pot) (defScope s_l_pot) .none kV_l_pot dc_l_pot pm_l_pot an_l_pot cd_l_pot ct_l_pot), l_draw := f_l_draw, l_draw_fd := (PySem.W.fnOf "_law_draw" "_law_draw" (defArgs s_l_draw) (defBody s_l_draw) (defScope s_l_draw) .none kV_l_draw dc_l_draw pm_l_draw an_l_draw cd_l_draw ct_l_draw), l_pick := f_l_pick, l_pick_fd := (PySem.W.fnOf "_law_pick" "_law_pick" (defArgs s_l_pick) (defBody s_l_pick) (defScope s_l_pick) .none kV_l_pick dc_l_pick pm_l_pick an_l_pick cd_l_pick ct_l_pick), l_lanes := f_l_lanes, l_lanes_fd := (PySem.W.fnOf "_law_lanes" "_law_lanes" (defArgs s_l_lanes) (defBody s_l_lanes) (defScope s_l_lanes) .none kV_l_lanes dc_l_lanes pm_l_lanes an_l_lanes cd_l_lanes ct_l_lanes), l_beside := f_l_beside, l_beside_fd := (PySem.W.fnOf "_law_beside" "_law_beside" (defArgs s_l_beside) (defBody s_l_beside) (defScope s_l_beside) .none kV_l_beside dc_l_beside pm_l_beside an_l_beside cd_l_beside ct_l_beside), l_yards := f_l_yards, l_yards_fd := (PySem.W.fnOf "_law_yards" "_law_yards" (defArgs s_l_yards) (defBody s_l_yards) (defScope s_l_yards) .none kV_l_yards dc_l_yards pm_l_yards an_l_yards cd_l_yards ct_l_yards), l_pairs := f_l_pairs, l_pairs_fd := (PySem.W.fnOf "_law_pairs" "_law_pairs" (defArgs s_l_pairs) (defBody s_l_pairs) (defScope s_l_pairs) .none kV_l_pairs dc_l_pairs pm_l_pairs an_l_pairs cd_l_pairs ct_l_pairs), l_many := f_l_many, l_many_fd := (PySem.W.fnOf "_law_many" "_law_many" (defArgs s_l_many) (defBody s_l_many) (defScope s_l_many) .none kV_l_many dc_l_many pm_l_many an_l_many cd_l_many ct_l_many), l_size := f_l_size, l_size_fd := (PySem.W.fnOf "_law_size" "_law_size" (defArgs s_l_size) (defBody s_l_size) (defScope s_l_size) .none kV_l_size dc_l_size pm_l_size an_l_size cd_l_size ct_l_size), l_plus := f_l_plus, l_plus_fd := (PySem.W.fnOf "_law_plus" "_law_plus" (defArgs s_l_plus) (defBody s_l_plus) (defScope s_l_plus) .none kV_l_plus dc_l_plus pm_l_plus an_l_plus cd_l_plus ct_l_plus), l_is_most := f_l_is_most, l_is_most_fd := (PySem.W.fnOf "_law_is_most" "_law_is_most" (defArgs s_l_is_most) (defBody s_l_is_most) (defScope s_l_is_most) .none kV_l_is_most dc_l_is_most pm_l_is_most an_l_is_most cd_l_is_most ct_l_is_most), l_load := f_l_load, l_load_fd := (PySem.W.fnOf "_law_load" "_law_load" (defArgs s_l_load) (defBody s_l_load) (defScope s_l_load) .none kV_l_load dc_l_load pm_l_load an_l_load cd_l_load ct_l_load), l_known := f_l_known, l_known_fd := (PySem.W.fnOf "_law_known" "_law_known" (defArgs s_l_known) (defBody s_l_known) (defScope s_l_known) .none kV_l_known dc_l_known pm_l_known an_l_known cd_l_known ct_l_known), l_sure := f_l_sure, l_sure_fd := (PySem.W.fnOf "_law_sure" "_law_sure" (defArgs s_l_sure) (defBody s_l_sure) (defScope s_l_sure) .none kV_l_sure dc_l_sure pm_l_sure an_l_sure cd_l_sure ct_l_sure), l_given := f_l_given, l_given_fd := (PySem.W.fnOf "_law_given" "_law_given" (defArgs s_l_given) (defBody s_l_given) (defScope s_l_given) .none kV_l_given dc_l_given pm_l_given an_l_given cd_l_given ct_l_given), l_known_given := f_l_known_given, l_known_given_fd := (PySem.W.fnOf "_law_known_given" "_law_known_given" (defArgs s_l_known_given) (defBody s_l_known_given) (defScope s_l_known_given) .none kV_l_known_given dc_l_known_given pm_l_known_given an_l_known_given cd_l_known_given ct_l_known_given), l_loads := f_l_loads, l_loads_fd := (PySem.W.fnOf "_law_loads" "_law_loads" (defArgs s_l_loads) (defBody s_l_loads) (defScope s_l_loads) .none kV_l_loads dc_l_loads pm_l_loads an_l_loads cd_l_loads ct_l_loads), l_noted_right := f_l_noted_right, l_noted_right_fd := (PySem.W.fnOf "_law_noted_right" "_law_noted_right" (defArgs s_l_noted_right) (defBody s_l_noted_right) (defScope s_l_noted_right) .none kV_l_noted_right dc_l_noted_right pm_l_noted_right an_l_noted_right cd_l_noted_right ct_l_noted_right), l_right := f_l_right, l_right_fd := (PySem.W.fnOf "_law_right" "_law_right" (defArgs s_l_right) (defBody s_l_right) (defScope s_l_right) .none kV_l_right dc_l_right pm_l_right an_l_right cd_l_right ct_l_right), law := fa, law_fd := (PySem.W.fnOf "law" "law" (defArgs s_law) (defBody s_law) (defScope s_law) .none kV_law dc_law pm_law an_law cd_law ct_law), Country := C_Country } := { F_is_count := F_is_count, b_is_count := b_is_count, m_is_count := PySem.W.mg_of X G a_is_count, F_is_row := F_is_row, b_is_row := b_is_row, m_is_row := PySem.W.mg_of X G a_is_row, F_Country_init := F_Country_init, b_Country_init := b_Country_init, F_Country_lanes := F_Country_lanes, b_Country_lanes := b_Country_lanes, pr_Country_lanes := ⟨a_Country_lanes, g_Country_lanes, t_Country_lanes, _, r_Country_lanes⟩, F_Country_yards := F_Country_yards, b_Country_yards := b_Country_yards, pr_Country_yards := ⟨a_Country_yards, g_Country_yards, t_Country_yards, _, r_Country_yards⟩, F_Country_gates := F_Country_gates, b_Country_gates := b_Country_gates, pr_Country_gates := ⟨a_Country_gates, g_Country_gates, t_Country_gates, _, r_Country_gates⟩, F_Country_neighbours := F_Country_neighbours, b_Country_neighbours := b_Country_neighbours, me_Country_neighbours := ⟨a_Country_neighbours, i_Country_neighbours, k_Country_neighbours⟩, F_Country_ahead := F_Country_ahead, b_Country_ahead := b_Country_ahead, me_Country_ahead := ⟨a_Country_ahead, i_Country_ahead, k_Country_ahead⟩, F_Country_eq := F_Country_eq, b_Country_eq := b_Country_eq, me_Country_eq := ⟨a_Country_eq, i_Country_eq, k_Country_eq⟩, F_is_place := F_is_place, b_is_place := b_is_place, m_is_place := PySem.W.mg_of X G a_is_place, F_is_yard := F_is_yard, b_is_yard := b_is_yard, m_is_yard := PySem.W.mg_of X G a_is_yard, F_are_lanes := F_are_lanes, b_are_lanes := b_are_lanes, m_are_lanes := PySem.W.mg_of X G a_are_lanes, F_is_pair_up_to := F_is_pair_up_to, b_is_pair_up_to := b_is_pair_up_to, m_is_pair_up_to := PySem.W.mg_of X G a_is_pair_up_to, F_neighbours_by_place := F_neighbours_by_place, b_neighbours_by_place := b_neighbours_by_place, m_neighbours_by_place := PySem.W.mg_of X G a_neighbours_by_place, F_yards_among := F_yards_among, b_yards_among := b_yards_among, m_yards_among := PySem.W.mg_of X G a_yards_among, F_places_ahead := F_places_ahead, b_places_ahead := b_places_ahead, m_places_ahead := PySem.W.mg_of X G a_places_ahead, F_is_among := F_is_among, b_is_among := b_is_among, m_is_among := PySem.W.mg_of X G a_is_among, F_is_pair_of := F_is_pair_of, b_is_pair_of := b_is_pair_of, m_is_pair_of := PySem.W.mg_of X G a_is_pair_of, F_is_load_of := F_is_load_of, b_is_load_of := b_is_load_of, m_is_load_of := PySem.W.mg_of X G a_is_load_of, F_is_entry := F_is_entry, b_is_entry := b_is_entry, m_is_entry := PySem.W.mg_of X G a_is_entry, F_carts_of := F_carts_of, b_carts_of := b_carts_of, m_carts_of := PySem.W.mg_of X G a_carts_of, F_is_within := F_is_within, b_is_within := b_is_within, m_is_within := PySem.W.mg_of X G a_is_within, F_check_country := F_check_country, b_check_country := b_check_country, m_check_country := PySem.W.mg_of X G a_check_country, F_check_yard := F_check_yard, b_check_yard := b_check_yard, m_check_yard := PySem.W.mg_of X G a_check_yard, F_check_country_and_yard := F_check_country_and_yard, b_check_country_and_yard := b_check_country_and_yard, m_check_country_and_yard := PySem.W.mg_of X G a_check_country_and_yard, F_check_load := F_check_load, b_check_load := b_check_load, m_check_load := PySem.W.mg_of X G a_check_load, F_is_known := F_is_known, b_is_known := b_is_known, m_is_known := PySem.W.mg_of X G a_is_known, F_is_let := F_is_let, b_is_let := b_is_let, m_is_let := PySem.W.mg_of X G a_is_let, F_noted := F_noted, b_noted := b_noted, m_noted := PySem.W.mg_of X G a_noted, F_check_known := F_check_known, b_check_known := b_check_known, m_check_known := PySem.W.mg_of X G a_check_known, F_is_known_of := F_is_known_of, b_is_known_of := b_is_known_of, m_is_known_of := PySem.W.mg_of X G a_is_known_of, F_are_seen := F_are_seen, b_are_seen := b_are_seen, m_are_seen := PySem.W.mg_of X G a_are_seen, F_is_surely_let := F_is_surely_let, b_is_surely_let := b_is_surely_let, m_is_surely_let := PySem.W.mg_of X G a_is_surely_let, F_is_surely_refused := F_is_surely_refused, b_is_surely_refused := b_is_surely_refused, m_is_surely_refused := PySem.W.mg_of X G a_is_surely_refused, F_l_pot := F_l_pot, b_l_pot := b_l_pot, m_l_pot := PySem.W.mg_of X G a_l_pot, F_l_draw := F_l_draw, b_l_draw := b_l_draw, m_l_draw := PySem.W.mg_of X G a_l_draw, F_l_pick := F_l_pick, b_l_pick := b_l_pick, m_l_pick := PySem.W.mg_of X G a_l_pick, F_l_lanes := F_l_lanes, b_l_lanes := b_l_lanes, m_l_lanes := PySem.W.mg_of X G a_l_lanes, F_l_beside := F_l_beside, b_l_beside := b_l_beside, m_l_beside := PySem.W.mg_of X G a_l_beside, F_l_yards := F_l_yards, b_l_yards := b_l_yards, m_l_yards := PySem.W.mg_of X G a_l_yards, F_l_pairs := F_l_pairs, b_l_pairs := b_l_pairs, m_l_pairs := PySem.W.mg_of X G a_l_pairs, F_l_many := F_l_many, b_l_many := b_l_many, m_l_many := PySem.W.mg_of X G a_l_many, F_l_size := F_l_size, b_l_size := b_l_size, m_l_size := PySem.W.mg_of X G a_l_size, F_l_plus := F_l_plus, b_l_plus := b_l_plus, m_l_plus := PySem.W.mg_of X G a_l_plus, F_l_is_most := F_l_is_most, b_l_is_most := b_l_is_most, m_l_is_most := PySem.W.mg_of X G a_l_is_most, F_l_load := F_l_load, b_l_load := b_l_load, m_l_load := PySem.W.mg_of X G a_l_load, F_l_known := F_l_known, b_l_known := b_l_known, m_l_known := PySem.W.mg_of X G a_l_known, F_l_sure := F_l_sure, b_l_sure := b_l_sure, m_l_sure := PySem.W.mg_of X G a_l_sure, F_l_given := F_l_given, b_l_given := b_l_given, m_l_given := PySem.W.mg_of X G a_l_given, F_l_known_given := F_l_known_given, b_l_known_given := b_l_known_given, m_l_known_given := PySem.W.mg_of X G a_l_known_given, F_l_loads := F_l_loads, b_l_loads := b_l_loads, m_l_loads := PySem.W.mg_of X G a_l_loads, F_l_noted_right := F_l_noted_right, b_l_noted_right := b_l_noted_right, m_l_noted_right := PySem.W.mg_of X G a_l_noted_right, F_l_right := F_l_right, b_l_right := b_l_right, m_l_right := PySem.W.mg_of X G a_l_right, F_law := F_law, b_law := b_law, m_law := PySem.W.mg_of X G a_law, ic_Country := ⟨cl_Country, ha_Country, hn, htk, hm_Country, by unfold PySem.W.kitOne; rw [if_pos (by simp)]⟩, cl_Country := cl_Country, mk_Country := ⟨mk_Country, a_Country_init, i_Country_init, kc_Country⟩, m_Country := PySem.W.mg_of X G aC_Country, ne_Country := ne_Country, nl_Country := nl_Country, ni_Country := ni_Country, na_Country_lanes := na_Country_lanes, na_Country_around := na_Country_around, na_Country_ahead := na_Country_ahead, na_Country_yards := na_Country_yards, na_Country_gates := na_Country_gates, g_MOST_LANES_AT_A_PLACE := ⟨_, PySem.W.mg_of X G z_MOST_LANES_AT_A_PLACE⟩, g_MOST_YARDS := ⟨_, PySem.W.mg_of X G z_MOST_YARDS⟩, g_MOST_PLACES := ⟨_, PySem.W.mg_of X G z_MOST_PLACES⟩, g_MOST_SEEN := ⟨_, PySem.W.mg_of X G z_MOST_SEEN⟩, n_abs := PySem.W.mg_none_of X G z_abs, n_all := PySem.W.mg_none_of X G z_all, n_any := PySem.W.mg_none_of X G z_any, n_bool := PySem.W.mg_none_of X G z_bool, n_divmod := PySem.W.mg_none_of X G z_divmod, n_int := PySem.W.mg_none_of X G z_int, n_isinstance := PySem.W.mg_none_of X G z_isinstance, n_len := PySem.W.mg_none_of X G z_len, n_list := PySem.W.mg_none_of X G z_list, n_max := PySem.W.mg_none_of X G z_max, n_min := PySem.W.mg_none_of X G z_min, n_range := PySem.W.mg_none_of X G z_range, n_repr := PySem.W.mg_none_of X G z_repr, n_sorted := PySem.W.mg_none_of X G z_sorted, n_str := PySem.W.mg_none_of X G z_str, n_sum := PySem.W.mg_none_of X G z_sum, n_tuple := PySem.W.mg_none_of X G z_tuple }
  have E_Contrary : ExT K mg X_Contrary := ⟨PySem.W.mg_of X G aX_Contrary, xX_Contrary, kX_Contrary, bX_Contrary, tX_Contrary, exm_own bX_Contrary iX_Contrary tX_Contrary sX_Contrary⟩
  exact ⟨_, fun s v => .of_eq rfl, fun base => ok_law T E_Contrary⟩
end K61
set_option Elab.async false
open PySem PySem.W PyProof.Rows
set_option maxRecDepth 100000 in
set_option maxHeartbeats 0 in
theorem PySem.Challenge.cw_lanekeepers_k61_whole_what_is_surely_let_holds : PySem.Challenge.rw_lanekeepers_k61_whole_what_is_surely_let.Holds := by
  refine K61.hd ?_
  k_fill
  refine G8.walk_G (l := PySem.Challenge.rw_lanekeepers_k61_whole_what_is_surely_let) (n := 63) (k := 12) (x := "_law_script") (sp := Pr.spLaw) rfl (by decide) rfl ⟨rfl, by decide, by decide⟩ (fun w h Y => PySem.W.kIn_of Y) ?F (fun _ _ a ns hS => ⟨a, ns, rfl, hS, fun _ => rfl⟩)
  case F =>
    intro w mg fa h KX G hmg
    refine' K61.all_mk KX G hmg ?aC_Country ?a_is_count ?l_is_count ?c_is_count ?k_is_count ?a_is_row ?l_is_row ?c_is_row ?k_is_row ?a_Country_init ?i_Country_init ?l_Country_init ?c_Country_init ?k_Country_init ?a_Country_lanes ?g_Country_lanes ?t_Country_lanes ?r_Country_lanes ?l_Country_lanes ?c_Country_lanes ?k_Country_lanes ?a_Country_yards ?g_Country_yards ?t_Country_yards ?r_Country_yards ?l_Country_yards ?c_Country_yards ?k_Country_yards ?a_Country_gates ?g_Country_gates ?t_Country_gates ?r_Country_gates ?l_Country_gates ?c_Country_gates ?k_Country_gates ?a_Country_neighbours ?i_Country_neighbours ?l_Country_neighbours ?c_Country_neighbours ?k_Country_neighbours ?a_Country_ahead ?i_Country_ahead ?l_Country_ahead ?c_Country_ahead ?k_Country_ahead ?a_Country_eq ?i_Country_eq ?l_Country_eq ?c_Country_eq ?k_Country_eq ?a_is_place ?l_is_place ?c_is_place ?k_is_place ?a_is_yard ?l_is_yard ?c_is_yard ?k_is_yard ?a_are_lanes ?l_are_lanes ?c_are_lanes ?k_are_lanes ?a_is_pair_up_to ?l_is_pair_up_to ?c_is_pair_up_to ?k_is_pair_up_to ?a_neighbours_by_place ?l_neighbours_by_place ?c_neighbours_by_place ?k_neighbours_by_place ?a_yards_among ?l_yards_among ?c_yards_among ?k_yards_among ?a_places_ahead ?l_places_ahead ?c_places_ahead ?k_places_ahead ?a_is_among ?l_is_among ?c_is_among ?k_is_among ?a_is_pair_of ?l_is_pair_of ?c_is_pair_of ?k_is_pair_of ?a_is_load_of ?l_is_load_of ?c_is_load_of ?k_is_load_of ?a_is_entry ?l_is_entry ?c_is_entry ?k_is_entry ?a_carts_of ?l_carts_of ?c_carts_of ?k_carts_of ?a_is_within ?l_is_within ?c_is_within ?k_is_within ?a_check_country ?l_check_country ?c_check_country ?k_check_country ?a_check_yard ?l_check_yard ?c_check_yard ?k_check_yard ?a_check_country_and_yard ?l_check_country_and_yard ?c_check_country_and_yard ?k_check_country_and_yard ?a_check_load ?l_check_load ?c_check_load ?k_check_load ?a_is_known ?l_is_known ?c_is_known ?k_is_known ?a_is_let ?l_is_let ?c_is_let ?k_is_let ?a_noted ?l_noted ?c_noted ?k_noted ?a_check_known ?l_check_known ?c_check_known ?k_check_known ?a_is_known_of ?l_is_known_of ?c_is_known_of ?k_is_known_of ?a_are_seen ?l_are_seen ?c_are_seen ?k_are_seen ?a_is_surely_let ?l_is_surely_let ?c_is_surely_let ?k_is_surely_let ?a_is_surely_refused ?l_is_surely_refused ?c_is_surely_refused ?k_is_surely_refused ?a_l_pot ?l_l_pot ?c_l_pot ?k_l_pot ?a_l_draw ?l_l_draw ?c_l_draw ?k_l_draw ?a_l_pick ?l_l_pick ?c_l_pick ?k_l_pick ?a_l_lanes ?l_l_lanes ?c_l_lanes ?k_l_lanes ?a_l_beside ?l_l_beside ?c_l_beside ?k_l_beside ?a_l_yards ?l_l_yards ?c_l_yards ?k_l_yards ?a_l_pairs ?l_l_pairs ?c_l_pairs ?k_l_pairs ?a_l_many ?l_l_many ?c_l_many ?k_l_many ?a_l_size ?l_l_size ?c_l_size ?k_l_size ?a_l_plus ?l_l_plus ?c_l_plus ?k_l_plus ?a_l_is_most ?l_l_is_most ?c_l_is_most ?k_l_is_most ?a_l_load ?l_l_load ?c_l_load ?k_l_load ?a_l_known ?l_l_known ?c_l_known ?k_l_known ?a_l_sure ?l_l_sure ?c_l_sure ?k_l_sure ?a_l_given ?l_l_given ?c_l_given ?k_l_given ?a_l_known_given ?l_l_known_given ?c_l_known_given ?k_l_known_given ?a_l_loads ?l_l_loads ?c_l_loads ?k_l_loads ?a_l_noted_right ?l_l_noted_right ?c_l_noted_right ?k_l_noted_right ?a_l_right ?l_l_right ?c_l_right ?k_l_right ?a_law ?l_law ?c_law ?k_law ?pg_Country ?hd_Country ?po_Country ?sa_Country ?mk_Country ?kc_Country ?ha_Country ?hm_Country ?nl_Country ?ni_Country ?ne_Country ?na_Country_lanes ?na_Country_around ?na_Country_ahead ?na_Country_yards ?na_Country_gates ?hn ?htk ?aX_Contrary ?xX_Contrary ?kX_Contrary ?bX_Contrary ?tX_Contrary ?iX_Contrary ?sX_Contrary ?z_MOST_LANES_AT_A_PLACE ?z_MOST_YARDS ?z_MOST_PLACES ?z_MOST_SEEN ?z_abs ?z_all ?z_any ?z_bool ?z_divmod ?z_int ?z_isinstance ?z_len ?z_list ?z_max ?z_min ?z_range ?z_repr ?z_sorted ?z_str ?z_sum ?z_tuple
    (case aC_Country => k_is)
    (case a_is_count => k_is)
    (case l_is_count => k_is)
    (case c_is_count => k_is)
    (case k_is_count => k_is)
    (case a_is_row => k_is)
    (case l_is_row => k_is)
    (case c_is_row => k_is)
    (case k_is_row => k_is)
    (case a_Country_init => k_is)
    (case i_Country_init => k_is)
    (case l_Country_init => k_is)
    (case c_Country_init => k_is)
    (case k_Country_init => k_is)
    (case a_Country_lanes => k_is)
    (case g_Country_lanes => k_is)
    (case t_Country_lanes => k_is)
    (case r_Country_lanes => k_is)
    (case l_Country_lanes => k_is)
    (case c_Country_lanes => k_is)
    (case k_Country_lanes => k_is)
    (case a_Country_yards => k_is)
    (case g_Country_yards => k_is)
    (case t_Country_yards => k_is)
    (case r_Country_yards => k_is)
    (case l_Country_yards => k_is)
    (case c_Country_yards => k_is)
    (case k_Country_yards => k_is)
    (case a_Country_gates => k_is)
    (case g_Country_gates => k_is)
    (case t_Country_gates => k_is)
    (case r_Country_gates => k_is)
    (case l_Country_gates => k_is)
    (case c_Country_gates => k_is)
    (case k_Country_gates => k_is)
    (case a_Country_neighbours => k_is)
    (case i_Country_neighbours => k_is)
    (case l_Country_neighbours => k_is)
    (case c_Country_neighbours => k_is)
    (case k_Country_neighbours => k_is)
    (case a_Country_ahead => k_is)
    (case i_Country_ahead => k_is)
    (case l_Country_ahead => k_is)
    (case c_Country_ahead => k_is)
    (case k_Country_ahead => k_is)
    (case a_Country_eq => k_is)
    (case i_Country_eq => k_is)
    (case l_Country_eq => k_is)
    (case c_Country_eq => k_is)
    (case k_Country_eq => k_is)
    (case a_is_place => k_is)
    (case l_is_place => k_is)
    (case c_is_place => k_is)
    (case k_is_place => k_is)
    (case a_is_yard => k_is)
    (case l_is_yard => k_is)
    (case c_is_yard => k_is)
    (case k_is_yard => k_is)
    (case a_are_lanes => k_is)
    (case l_are_lanes => k_is)
    (case c_are_lanes => k_is)
    (case k_are_lanes => k_is)
    (case a_is_pair_up_to => k_is)
    (case l_is_pair_up_to => k_is)
    (case c_is_pair_up_to => k_is)
    (case k_is_pair_up_to => k_is)
    (case a_neighbours_by_place => k_is)
    (case l_neighbours_by_place => k_is)
    (case c_neighbours_by_place => k_is)
    (case k_neighbours_by_place => k_is)
    (case a_yards_among => k_is)
    (case l_yards_among => k_is)
    (case c_yards_among => k_is)
    (case k_yards_among => k_is)
    (case a_places_ahead => k_is)
    (case l_places_ahead => k_is)
    (case c_places_ahead => k_is)
    (case k_places_ahead => k_is)
    (case a_is_among => k_is)
    (case l_is_among => k_is)
    (case c_is_among => k_is)
    (case k_is_among => k_is)
    (case a_is_pair_of => k_is)
    (case l_is_pair_of => k_is)
    (case c_is_pair_of => k_is)
    (case k_is_pair_of => k_is)
    (case a_is_load_of => k_is)
    (case l_is_load_of => k_is)
    (case c_is_load_of => k_is)
    (case k_is_load_of => k_is)
    (case a_is_entry => k_is)
    (case l_is_entry => k_is)
    (case c_is_entry => k_is)
    (case k_is_entry => k_is)
    (case a_carts_of => k_is)
    (case l_carts_of => k_is)
    (case c_carts_of => k_is)
    (case k_carts_of => k_is)
    (case a_is_within => k_is)
    (case l_is_within => k_is)
    (case c_is_within => k_is)
    (case k_is_within => k_is)
    (case a_check_country => k_is)
    (case l_check_country => k_is)
    (case c_check_country => k_is)
    (case k_check_country => k_is)
    (case a_check_yard => k_is)
    (case l_check_yard => k_is)
    (case c_check_yard => k_is)
    (case k_check_yard => k_is)
    (case a_check_country_and_yard => k_is)
    (case l_check_country_and_yard => k_is)
    (case c_check_country_and_yard => k_is)
    (case k_check_country_and_yard => k_is)
    (case a_check_load => k_is)
    (case l_check_load => k_is)
    (case c_check_load => k_is)
    (case k_check_load => k_is)
    (case a_is_known => k_is)
    (case l_is_known => k_is)
    (case c_is_known => k_is)
    (case k_is_known => k_is)
    (case a_is_let => k_is)
    (case l_is_let => k_is)
    (case c_is_let => k_is)
    (case k_is_let => k_is)
    (case a_noted => k_is)
    (case l_noted => k_is)
    (case c_noted => k_is)
    (case k_noted => k_is)
    (case a_check_known => k_is)
    (case l_check_known => k_is)
    (case c_check_known => k_is)
    (case k_check_known => k_is)
    (case a_is_known_of => k_is)
    (case l_is_known_of => k_is)
    (case c_is_known_of => k_is)
    (case k_is_known_of => k_is)
    (case a_are_seen => k_is)
    (case l_are_seen => k_is)
    (case c_are_seen => k_is)
    (case k_are_seen => k_is)
    (case a_is_surely_let => k_is)
    (case l_is_surely_let => k_is)
    (case c_is_surely_let => k_is)
    (case k_is_surely_let => k_is)
    (case a_is_surely_refused => k_is)
    (case l_is_surely_refused => k_is)
    (case c_is_surely_refused => k_is)
    (case k_is_surely_refused => k_is)
    (case a_l_pot => k_is)
    (case l_l_pot => k_is)
    (case c_l_pot => k_is)
    (case k_l_pot => k_is)
    (case a_l_draw => k_is)
    (case l_l_draw => k_is)
    (case c_l_draw => k_is)
    (case k_l_draw => k_is)
    (case a_l_pick => k_is)
    (case l_l_pick => k_is)
    (case c_l_pick => k_is)
    (case k_l_pick => k_is)
    (case a_l_lanes => k_is)
    (case l_l_lanes => k_is)
    (case c_l_lanes => k_is)
    (case k_l_lanes => k_is)
    (case a_l_beside => k_is)
    (case l_l_beside => k_is)
    (case c_l_beside => k_is)
    (case k_l_beside => k_is)
    (case a_l_yards => k_is)
    (case l_l_yards => k_is)
    (case c_l_yards => k_is)
    (case k_l_yards => k_is)
    (case a_l_pairs => k_is)
    (case l_l_pairs => k_is)
    (case c_l_pairs => k_is)
    (case k_l_pairs => k_is)
    (case a_l_many => k_is)
    (case l_l_many => k_is)
    (case c_l_many => k_is)
    (case k_l_many => k_is)
    (case a_l_size => k_is)
    (case l_l_size => k_is)
    (case c_l_size => k_is)
    (case k_l_size => k_is)
    (case a_l_plus => k_is)
    (case l_l_plus => k_is)
    (case c_l_plus => k_is)
    (case k_l_plus => k_is)
    (case a_l_is_most => k_is)
    (case l_l_is_most => k_is)
    (case c_l_is_most => k_is)
    (case k_l_is_most => k_is)
    (case a_l_load => k_is)
    (case l_l_load => k_is)
    (case c_l_load => k_is)
    (case k_l_load => k_is)
    (case a_l_known => k_is)
    (case l_l_known => k_is)
    (case c_l_known => k_is)
    (case k_l_known => k_is)
    (case a_l_sure => k_is)
    (case l_l_sure => k_is)
    (case c_l_sure => k_is)
    (case k_l_sure => k_is)
    (case a_l_given => k_is)
    (case l_l_given => k_is)
    (case c_l_given => k_is)
    (case k_l_given => k_is)
    (case a_l_known_given => k_is)
    (case l_l_known_given => k_is)
    (case c_l_known_given => k_is)
    (case k_l_known_given => k_is)
    (case a_l_loads => k_is)
    (case l_l_loads => k_is)
    (case c_l_loads => k_is)
    (case k_l_loads => k_is)
    (case a_l_noted_right => k_is)
    (case l_l_noted_right => k_is)
    (case c_l_noted_right => k_is)
    (case k_l_noted_right => k_is)
    (case a_l_right => k_is)
    (case l_l_right => k_is)
    (case c_l_right => k_is)
    (case k_l_right => k_is)
    (case a_law => k_is)
    (case l_law => k_is)
    (case c_law => k_is)
    (case k_law => k_is)
    (case pg_Country => k_is)
    (case hd_Country => k_is)
    (case po_Country => k_is)
    (case sa_Country => k_is)
    (case mk_Country => k_is)
    (case kc_Country => k_is)
    (case ha_Country => k_is)
    (case hm_Country => k_is)
    (case nl_Country => kit_is)
    (case ni_Country => kit_is)
    (case ne_Country => k_is)
    (case na_Country_lanes => k_is)
    (case na_Country_around => k_is)
    (case na_Country_ahead => k_is)
    (case na_Country_yards => k_is)
    (case na_Country_gates => k_is)
    (case hn => k_is)
    (case htk => k_is)
    (case aX_Contrary => k_is)
    (case xX_Contrary => k_exc)
    (case kX_Contrary => k_is)
    (case bX_Contrary => k_is)
    (case tX_Contrary => k_is)
    (case iX_Contrary => k_is)
    (case sX_Contrary => k_is)
    (case z_MOST_LANES_AT_A_PLACE => k_is)
    (case z_MOST_YARDS => k_is)
    (case z_MOST_PLACES => k_is)
    (case z_MOST_SEEN => k_is)
    (case z_abs => k_is)
    (case z_all => k_is)
    (case z_any => k_is)
    (case z_bool => k_is)
    (case z_divmod => k_is)
    (case z_int => k_is)
    (case z_isinstance => k_is)
    (case z_len => k_is)
    (case z_list => k_is)
    (case z_max => k_is)
    (case z_min => k_is)
    (case z_range => k_is)
    (case z_repr => k_is)
    (case z_sorted => k_is)
    (case z_str => k_is)
    (case z_sum => k_is)
    (case z_tuple => k_is)
