/- Texts put together: Lawac, Open, Opens, Slo, Cfo. -/
import Derived.Test.YtdfobilagidmfaaDoorQ1
import Derived.Test.YtdfobilagidmfaaDoorQ8
import Derived.Test.YtdfobilagidmfaaDoorQ14
import Derived.Test.YtdfobilagidmfaaDoorQ16
import Derived.ProofKit
import Derived.OpenShut
import Derived.ChangeArms
import Derived.Deep.Slices
namespace Go.Proofs.YtdfobilagidmfaaDoor
open Go.RowKit

set_option linter.unusedVariables false in
set_option linter.unusedSimpArgs false in
set_option maxRecDepth 100000 in
set_option maxHeartbeats 16000000 in
theorem confChecks_walk (c : Cf) (Fx : Option Addr) (nf cf : Nat) (Ox : Option Addr) (nx cx : Nat) (w : World) (hT : Tab w) (sF : Sle fxf 10 w Fx nf cf c.fixed) (sO : Sle opf 7 w Ox nx cx c.opens) : Calls Tryd.prog 4 #[.agg (cfl c Fx nf cf Ox nx cx).toArray] w fun e w' => e = .returned (.bool true) ∧ Below w.heap.size w w' := by
  have nf0 : (0 : Int) ≤ nf := by omega
  have nx0 : (0 : Int) ≤ nx := by omega
  have bel := Below.refl w.heap.size w
  go_enter Tryd.func4, Tryd.ntmps4
  go_wp2_with (first | ((with_reducible show wpList _ _ _ (⟨some 1, _, _, _, _, _⟩ :: _) _ _); refine wpList_box_n rfl 32 (.tmp 0) rfl (cfl c Fx nf cf Ox nx cx).toArray rfl ?_; intro g1 w1 ge lt hh bb; have av_sF_ca := sF.av_new ge; have av_sO_ca := sO.av_new ge; have oca := Nat.le_trans bel.size ge; replace sF := sF.below bb; replace sO := sO.below bb; replace bel := bel.trans (bb.mono bel.size); have hca := hh; clear hh lt ge bb))
  with_reducible refine (awake_any _).mono ?_
  rintro e w2 ⟨rfl, b2⟩
  replace hca := blk_u hca b2
  replace sF := sF.below b2
  replace sO := sO.below b2
  replace bel := bel.trans (b2.mono bel.size)
  clear b2
  by_cases hf40 : 40 < nf
  · have hf_ : (40 : Int) < nf := by omega
    have R8 := cell_lit hca 38 _ rfl
    go_wp2_with fail
    clear R8
    go_ret
    exact ⟨rfl, bel⟩
  have hf_ : decide ((40 : Int) < nf) = false := decide_eq_false (by omega)
  by_cases hx40 : 40 < nx
  · have hx_ : (40 : Int) < nx := by omega
    have R8 := cell_lit hca 38 _ rfl
    have R13 := cell_lit hca 39 _ rfl
    go_wp2_with fail
    clear R8 R13
    go_ret
    exact ⟨rfl, bel⟩
  have hx_ : decide ((40 : Int) < nx) = false := decide_eq_false (by omega)
  have R8 := cell_lit hca 38 _ rfl
  have R13 := cell_lit hca 39 _ rfl
  have R17 := Lib.hid (range_lit hca 0 40 (cfl c Fx nf cf Ox nx cx) rfl)
  go_wp2_with (first | ((with_reducible show wpList _ _ _ (⟨some 17, _, _, _, _, _⟩ :: _) _ _); refine wpList_load_rng 32 (.tmp 1) rfl (by kernel_rfl) _ _ rfl _ R17.out _ Tryd.underlying32 rfl (by kernel_rfl) ?_))
  try clear R8
  try clear R13
  try clear R17
  with_reducible refine (own_any c _ _ _ _ _ _ _ sF sO (by omega) (by omega)).mono ?_
  rintro e w3 ⟨G1, ng1, cg1, H1, nh1, ch1, rfl, hg1, hh1, frG1, frH1, b3⟩
  have av_hg1_ca := frG1.av (hlt hca)
  have av_hh1_ca := frH1.av (hlt hca)
  replace hca := blk_u hca b3
  replace sF := sF.below b3
  replace sO := sO.below b3
  replace bel := bel.trans (b3.mono bel.size)
  clear b3
  replace hg1 : Sle fxf 10 w3 (G1) (ng1) (cg1) (c.fixed) := hg1
  replace hh1 : Sle opf 7 w3 (H1) (nh1) (ch1) (c.opens) := hh1
  go_wp2_with fail
  with_reducible refine (check_any c _ _ _ _ _ _ _ hg1 hh1).mono ?_
  rintro e w4 ⟨rfl, b4⟩
  replace hca := blk_u hca b4
  replace sF := sF.below b4
  replace sO := sO.below b4
  replace hg1 := hg1.below b4
  replace hh1 := hh1.below b4
  replace bel := bel.trans (b4.mono bel.size)
  clear b4
  obtain ⟨b, hb⟩ : ∃ b, c.check = b := ⟨_, rfl⟩
  rw [hb]
  have HB := Lib.hid hb
  clear hb
  clear hg1
  clear hh1
  have R20 := Lib.hid (range_lit hca 0 40 (cfl c Fx nf cf Ox nx cx) rfl)
  go_wp2_with (first | ((with_reducible show wpList _ _ _ (⟨some 20, _, _, _, _, _⟩ :: _) _ _); refine wpList_load_rng 32 (.tmp 1) rfl (by kernel_rfl) _ _ rfl _ R20.out _ Tryd.underlying32 rfl (by kernel_rfl) ?_))
  try clear R20
  with_reducible refine (ccheck_any c _ _ _ _ _ _ _ sF sO).mono ?_
  rintro e w5 ⟨rfl, b5⟩
  replace hca := blk_u hca b5
  replace sF := sF.below b5
  replace sO := sO.below b5
  replace bel := bel.trans (b5.mono bel.size)
  clear b5
  rw [HB.out]
  rcases b with _ | _
  · rw [show errC false = 1 from rfl]
    obtain ⟨ts, hts⟩ : ∃ z, textS c = z := ⟨_, rfl⟩
    have HTS := Lib.hid hts
    have et : (ts == []) = true := by rw [← hts]; unfold textS; rw [if_neg (by rw [HB.out]; decide)]; rfl
    clear hts
    have R39 := Lib.hid (range_lit hca 0 40 (cfl c Fx nf cf Ox nx cx) rfl)
    go_wp2_with (first | ((with_reducible show wpList _ _ _ (⟨some 39, _, _, _, _, _⟩ :: _) _ _); refine wpList_load_rng 32 (.tmp 1) rfl (by kernel_rfl) _ _ rfl _ R39.out _ Tryd.underlying32 rfl (by kernel_rfl) ?_))
    try clear R39
    with_reducible refine (ctext_any c _ _ _ _ _ _ _ (hT.below bel) sF sO).mono ?_
    rintro e w6 ⟨rfl, b6⟩
    replace hca := blk_u hca b6
    replace sF := sF.below b6
    replace sO := sO.below b6
    replace bel := bel.trans (b6.mono bel.size)
    clear b6
    rw [HTS.out]
    go_wp2_with fail
    go_ret
    exact ⟨rfl, bel⟩
  rw [show errC true = 0 from rfl]
  obtain ⟨ts, hts⟩ : ∃ z, textS c = z := ⟨_, rfl⟩
  have HTS := Lib.hid hts
  have et : (ts == ts) = true := beq_self_eq_true _
  clear hts
  go_wp2_with fail
  replace bel := bel.drew
  replace hca : w5.drew.heap[g1]? = _ := hca
  replace sF := sF.drew
  replace sO := sO.drew
  refine wp_region_held_drew (S := fun W => W.heap[g1]? = some (.cells (cfl c Fx nf cf Ox nx cx).toArray 32 (0, 0))) (by kernel_rfl) hca (fun hH => ?_)
  generalize w5.drew = w6 at bel hca sF sO hH ⊢
  refine wpAnyH_take (i := 0) (v := .agg (cfl c Fx nf cf Ox nx cx).toArray) rfl (by kernel_rfl) (by kernel_rfl) (by kernel_rfl) (fun _ _ _ h => h) (yieldsIf_load_part (by kernel_rfl) 32 _ rfl g1 0 40 rfl _ 32 (0, 0) (fun W hW => hW) _ rfl _ Tryd.underlying32 rfl (by kernel_rfl)) hH ?_
  simp only [Act.put, List.getElem_toArray, List.getElem_cons_zero, List.setIfInBounds_toArray, List.set_cons_zero, List.set_cons_succ]
  refine wpAnyH_take (i := 2) (v := .agg (cfl c Fx nf cf Ox nx cx).toArray) rfl (by kernel_rfl) (by kernel_rfl) (by kernel_rfl) (fun _ _ _ h => h) (yieldsIf_load_part (by kernel_rfl) 32 _ rfl g1 0 40 rfl _ 32 (0, 0) (fun W hW => hW) _ rfl _ Tryd.underlying32 rfl (by kernel_rfl)) hH ?_
  simp only [Act.put, List.getElem_toArray, List.getElem_cons_zero, List.getElem_cons_succ, List.setIfInBounds_toArray, List.set_cons_zero, List.set_cons_succ]
  refine wpAnyH_ready (rs := [1]) (by kernel_rfl) (by simp) ?_
  refine AllReadyH.cons (o := _) rfl (fun K hK => ?_) AllReadyH.nil
  simp only [List.getElem_toArray, List.getElem_cons_zero, List.getElem_cons_succ]
  go_simp
  with_reducible refine (ctext_any c _ _ _ _ _ _ _ (hT.below bel) sF sO).mono ?_
  rintro e w7 ⟨rfl, b7⟩
  dsimp only
  replace hca := blk_u hca b7
  replace sF := sF.below b7
  replace sO := sO.below b7
  replace bel := bel.trans (b7.mono bel.size)
  clear b7
  rw [HTS.out]
  refine hK.out _ _ hca (fun hH8 => ?_)
  clear hK K
  refine wpAnyH_ready (rs := [3]) (by kernel_rfl) (by simp) ?_
  refine AllReadyH.cons (o := _) rfl (fun K hK => ?_) AllReadyH.nil
  simp only [List.getElem_toArray, List.getElem_cons_zero, List.getElem_cons_succ]
  go_simp
  with_reducible refine (own_any c _ _ _ _ _ _ _ sF sO (by omega) (by omega)).mono ?_
  rintro e w9 ⟨G2, ng2, cg2, H2, nh2, ch2, rfl, hg2, hh2, frG2, frH2, b9⟩
  dsimp only
  have av_hg2_ca := frG2.av (hlt hca)
  have av_hh2_ca := frH2.av (hlt hca)
  replace hca := blk_u hca b9
  replace sF := sF.below b9
  replace sO := sO.below b9
  replace bel := bel.trans (b9.mono bel.size)
  clear b9
  replace hg2 : Sle fxf 10 w9 (G2) (ng2) (cg2) (c.fixed) := hg2
  replace hh2 : Sle opf 7 w9 (H2) (nh2) (ch2) (c.opens) := hh2
  refine hK.out _ _ hca (fun hH10 => ?_)
  clear hK K
  refine wpAnyH_ready (rs := [4]) (by kernel_rfl) (by simp) ?_
  refine AllReadyH.cons (o := _) rfl (fun K hK => ?_) AllReadyH.nil
  simp only [List.getElem_toArray, List.getElem_cons_zero, List.getElem_cons_succ]
  go_simp
  with_reducible refine (rtext_c c _ _ _ _ _ _ _ HB hg2 hh2).mono ?_
  rintro e w11 ⟨rfl, b11⟩
  dsimp only
  replace hca := blk_u hca b11
  replace sF := sF.below b11
  replace sO := sO.below b11
  replace hg2 := hg2.below b11
  replace hh2 := hh2.below b11
  replace bel := bel.trans (b11.mono bel.size)
  clear b11
  rw [HTS.out]
  clear hg2
  clear hh2
  refine hK.out _ _ hca (fun hH12 => ?_)
  clear hK K
  refine wpAnyH_take (i := 5) (v := ?_) rfl (by kernel_rfl) (by kernel_rfl) (by kernel_rfl) (fun _ _ _ h => h) (Or.inl ⟨by rfl, ?_⟩) hH12 ?_
  rotate_left
  · ((intro W hW; clear hW; go_simp) <;> with_reducible rfl)
  simp only [Act.put, List.getElem_toArray, List.getElem_cons_zero, List.getElem_cons_succ, List.setIfInBounds_toArray, List.set_cons_zero, List.set_cons_succ]
  refine wpAnyH_take (i := 6) (v := ?_) rfl (by kernel_rfl) (by kernel_rfl) (by kernel_rfl) (fun _ _ _ h => h) (Or.inl ⟨by rfl, ?_⟩) hH12 ?_
  rotate_left
  · ((intro W hW; clear hW; go_simp) <;> with_reducible rfl)
  simp only [Act.put, List.getElem_toArray, List.getElem_cons_zero, List.getElem_cons_succ, List.setIfInBounds_toArray, List.set_cons_zero, List.set_cons_succ]
  refine wpAnyH_done (by kernel_rfl) ?_ _
  go_wp2_with fail
  go_ret
  exact ⟨rfl, bel⟩
open Go.RowKit Go.ChangeShapes Go.WideShapes

theorem cells_of_bytes {H : Type} {enc : TypeId × Value → H} {P : Program} {w : World} {base : Nat} {sp : Nat → Bool} {held : Bool} {fuel : Nat} {t e : TypeId} {n : Nat} {cs : List Value} {x : DataW H × List MemPlace}
    (ht : P.underlying t = some (.array n e)) (he : P.underlying e = some (.int .u8)) (hc : P.cellsOf e = 1) (hct : P.cellsOf t = n) (h : DataW.trod enc P w base sp held fuel t cs = some x) :
    ∃ l : List UInt8, l.length = n ∧ cs = l.map u8v := by
  obtain ⟨xs, m, _, _, hl, hxl, hel⟩ := DataW.trod_array ht h
  rw [hc] at hel
  rw [hct] at hl
  have key : ∀ i, i < n → ∃ b : UInt8, cs[i]? = some (u8v b) := by
    intro i hi
    have hE := hel i hi
    rw [Nat.mul_one, List.getElem?_eq_getElem (by omega)] at hE
    obtain ⟨z, e1, _, hz⟩ := DataW.trod_int he hE
    refine ⟨byteOf z, ?_⟩
    have h0 : ((cs.drop i).take 1)[0]? = some (.int .u8 z) := by rw [e1]; rfl
    have h1 : cs[i]? = some (.int .u8 z) := by simpa using h0
    rw [h1]
    have hz' : 0 ≤ z ∧ z ≤ 255 := by
      simp [Lit.wf, IntKind.min, IntKind.max, IntKind.signed, IntKind.bits] at hz
      omega
    unfold u8v; rw [byteOf_val]; congr 2; omega
  refine ⟨(List.range n).map (fun (i : Nat) => match (cs[i]? : Option Value) with | some (Value.int IntKind.u8 z) => byteOf z | _ => (0 : UInt8)), by simp, ?_⟩
  apply List.ext_getElem?
  intro i
  by_cases hi : i < n
  · obtain ⟨b, hb⟩ := key i hi
    have e : byteOf (b.toNat : Int) = b := by
      apply UInt8.toNat_inj.1
      have := byteOf_val (b.toNat : Int)
      have := b.toNat_lt
      omega
    simp [hi, hb, u8v, e]
  · rw [List.getElem?_eq_none (by omega), List.getElem?_eq_none (by simp; omega)]
theorem list4 (l : List UInt8) (h : l.length = 4) : ∃ a b c d, l = [a, b, c, d] := by
  match l, h with
  | [a, b, c, d], _ => exact ⟨_, _, _, _, rfl⟩
theorem list6 (l : List UInt8) (h : l.length = 6) : ∃ a b c d e f, l = [a, b, c, d, e, f] := by
  match l, h with
  | [a, b, c, d, e, f], _ => exact ⟨_, _, _, _, _, _, rfl⟩
open Go.RowKit Go.ChangeShapes Go.WideShapes

theorem cut_list {α : Type} (cs : List α) (o n : Nat) : cs.drop o = (cs.drop o).take n ++ cs.drop (o + n) := by
  rw [← List.drop_drop, List.take_append_drop]
open Go.RowKit Go.ChangeShapes Go.WideShapes

theorem list_of {α : Type} {p : Nat → α → Prop} : ∀ {n : Nat}, (∀ i, i < n → ∃ x, p i x) → ∃ l : List α, l.length = n ∧ ∀ i x, l[i]? = some x → p i x
  | 0, _ => ⟨[], rfl, fun i x h => by simp at h⟩
  | n + 1, h => by
    obtain ⟨l, hl, hp⟩ := list_of (n := n) fun i hi => h i (by omega)
    obtain ⟨x, hx⟩ := h n (by omega)
    refine ⟨l ++ [x], by simp [hl], fun i y hy => ?_⟩
    by_cases hi : i < l.length
    · rw [List.getElem?_append_left hi] at hy
      exact hp i y hy
    · rw [List.getElem?_append_right (by omega)] at hy
      have h0 := (List.getElem?_eq_some_iff.1 hy).1
      have e : i = n := by simp at h0; omega
      subst e
      rw [hl, Nat.sub_self] at hy
      obtain rfl : x = y := by simpa using hy
      exact hx
theorem fld_sle {H α : Type} {enc : TypeId × Value → H} {P : Program} {w : World} {base : Nat} {sp : Nat → Bool} {held : Bool} {fuel k : Nat} {t e : TypeId} {cs : List Value} {x : DataW H × List MemPlace} {f : α → List Value}
    (ht : P.underlying t = some (.slice e)) (hc : P.cellsOf e = k) (hk : 0 < k) (hf : ∀ x, (f x).length = k)
    (elem : ∀ n cs' y, DataW.trod enc P w base sp held n e cs' = some y → ∃ x : α, cs' = f x) (h : DataW.trod enc P w base sp held fuel t cs = some x) :
    ∃ (A : Option Addr) (n c : Nat) (l : List α), cs = [.slice A n c] ∧ Sle f k w A n c l := by
  rcases Go.Deep.open_slice ht h with ⟨rfl, _⟩ | ⟨a, len, cap, m, n, D, Pl, rfl, hb, hl, hm, hmm, _, hx⟩
  · exact ⟨none, 0, 0, [], rfl, Sle.nil hk hf w⟩
  have hlm : len ≤ m := by rw [hmm]; split <;> omega
  obtain ⟨l, hll, hp⟩ := list_of (p := fun i (x : α) => w.cells? base (a.add (i * k)) k = some (f x)) (n := len) fun i hi => by
    obtain ⟨cs', h1, h2⟩ := hx i (by omega)
    rw [hc] at h1
    obtain ⟨x, rfl⟩ := elem _ _ _ h2
    exact ⟨x, h1⟩
  refine ⟨some a, len, cap, l, rfl, hll, hl, hm, fun hn => ?_, hk, hf⟩
  have cellat : ∀ i j v, i < len → j < k → (l.flatMap f)[i * k + j]? = some v → w.cell? (a.add (i * k + j)) = some v := fun i j v hi hj hv => by
    have hx' := hp i _ (List.getElem?_eq_getElem (by omega))
    rw [flat_at hf l i j _ (List.getElem?_eq_getElem (by omega)) hj] at hv
    have h3 := (World.cells?_some hx').2.2 j hj
    rw [Addr.add_add] at h3
    rw [h3, hv]
  have hlen := flat_len hf l
  obtain ⟨g, o, spot⟩ := a
  have h0 : spot = none := by
    obtain ⟨v, hv⟩ : ∃ v, (l.flatMap f)[0 * k + 0]? = some v := ⟨_, List.getElem?_eq_getElem (by rw [hlen, hll]; have := Nat.mul_pos hn hk; omega)⟩
    simpa [Addr.add] using World.cell?_spot (cellat 0 0 v hn hk hv)
  subst h0
  refine ⟨g, o, rfl, fun j v hj => ?_⟩
  have hjl := (List.getElem?_eq_some_iff.1 hj).1
  rw [hlen, hll] at hjl
  have hd : j / k < len := Nat.div_lt_of_lt_mul (by rw [Nat.mul_comm]; exact hjl)
  have hr := Nat.mod_lt j hk
  have e : j / k * k + j % k = j := by rw [Nat.mul_comm]; exact Nat.div_add_mod j k
  have := cellat (j / k) (j % k) v hd hr (by rw [e]; exact hj)
  rw [e, Addr.add_lit] at this
  exact this
open Go.RowKit Go.ChangeShapes Go.WideShapes

theorem fld_struct {H : Type} {enc : TypeId × Value → H} {P : Program} {w : World} {base : Nat} {sp : Nat → Bool} {held : Bool} {fuel : Nat} {t : TypeId} {fs : Array Field} {cs : List Value} {x : DataW H × List MemPlace}
    (ht : P.underlying t = some (.struct fs)) (h : DataW.trod enc P w base sp held fuel t cs = some x) :
    cs.length = P.cellsOf t ∧ ∀ (i : Nat) (f : Field), fs[i]? = some f → ∃ y n, DataW.trod enc P w base sp held n f.type (List.take (P.cellsOf f.type) (List.drop f.offset cs)) = some y := by
  obtain ⟨ys, n, _, _, hl, hlen, hx⟩ := DataW.trod_struct ht h
  refine ⟨hl, fun i f hi => ?_⟩
  have h1 := hx i f hi
  have hi' : i < ys.length := by
    have := (Array.getElem?_eq_some_iff.1 hi).1
    omega
  rw [List.getElem?_eq_getElem hi'] at h1
  exact ⟨_, n, h1⟩
theorem el_fix {H : Type} {enc : TypeId × Value → H} {W : World} {base : Nat} {sp : Nat → Bool} {held : Bool} {n : Nat} {cs : List Value} {y : DataW H × List MemPlace} (h : DataW.trod enc Tryd.prog W base sp held n 78 cs = some y) : ∃ x, cs = fxf x := by
  obtain ⟨hlen, hf⟩ := fld_struct Tryd.underlying78 h
  replace hlen : cs.length = 10 := hlen.trans (by kernel_rfl)
  obtain ⟨y0, n0, g0⟩ := hf 0 _ rfl
  replace g0 : DataW.trod enc Tryd.prog W base sp held n0 28 (List.take (Tryd.prog.cellsOf 28) (List.drop 0 cs)) = some y0 := g0
  rw [show Tryd.prog.cellsOf 28 = 6 by kernel_rfl] at g0
  obtain ⟨l0, hl0, e0⟩ := cells_of_bytes Tryd.underlying28 Tryd.underlying5 (by kernel_rfl) (by kernel_rfl) g0
  obtain ⟨x0_0, x0_1, x0_2, x0_3, x0_4, x0_5, rfl⟩ := list6 l0 hl0
  have k0 : cs.drop 0 = ([x0_0, x0_1, x0_2, x0_3, x0_4, x0_5].map u8v) ++ cs.drop 6 := by rw [← e0]; exact cut_list cs 0 6
  obtain ⟨y1, n1, g1⟩ := hf 1 _ rfl
  replace g1 : DataW.trod enc Tryd.prog W base sp held n1 24 (List.take (Tryd.prog.cellsOf 24) (List.drop 6 cs)) = some y1 := g1
  rw [show Tryd.prog.cellsOf 24 = 4 by kernel_rfl] at g1
  obtain ⟨l1, hl1, e1⟩ := cells_of_bytes Tryd.underlying24 Tryd.underlying5 (by kernel_rfl) (by kernel_rfl) g1
  obtain ⟨x1_0, x1_1, x1_2, x1_3, rfl⟩ := list4 l1 hl1
  have k1 : cs.drop 6 = ([x1_0, x1_1, x1_2, x1_3].map u8v) ++ cs.drop 10 := by rw [← e1]; exact cut_list cs 6 4
  have kz : cs.drop 10 = [] := List.drop_eq_nil_of_le (by omega)
  have hcs : cs = ([x0_0, x0_1, x0_2, x0_3, x0_4, x0_5].map u8v) ++ (([x1_0, x1_1, x1_2, x1_3].map u8v) ++ []) := by
    have h0 : cs = cs.drop 0 := rfl
    rw [h0, k0, k1, kz]
  subst hcs
  exact ⟨(⟨x0_0, x0_1, x0_2, x0_3, x0_4, x0_5⟩, ⟨x1_0, x1_1, x1_2, x1_3⟩), rfl⟩
theorem el_opn {H : Type} {enc : TypeId × Value → H} {W : World} {base : Nat} {sp : Nat → Bool} {held : Bool} {n : Nat} {cs : List Value} {y : DataW H × List MemPlace} (h : DataW.trod enc Tryd.prog W base sp held n 38 cs = some y) : ∃ x, cs = opf x := by
  obtain ⟨hlen, hf⟩ := fld_struct Tryd.underlying38 h
  replace hlen : cs.length = 7 := hlen.trans (by kernel_rfl)
  obtain ⟨y0, n0, g0⟩ := hf 0 _ rfl
  replace g0 : DataW.trod enc Tryd.prog W base sp held n0 3 (List.take (Tryd.prog.cellsOf 3) (List.drop 0 cs)) = some y0 := g0
  rw [show Tryd.prog.cellsOf 3 = 1 by kernel_rfl] at g0
  obtain ⟨x0, e0, _, _⟩ := DataW.trod_int Tryd.underlying3 g0
  have k0 : cs.drop 0 = [.int .i64 x0] ++ cs.drop 1 := by rw [← e0]; exact cut_list cs 0 1
  obtain ⟨y1, n1, g1⟩ := hf 1 _ rfl
  replace g1 : DataW.trod enc Tryd.prog W base sp held n1 3 (List.take (Tryd.prog.cellsOf 3) (List.drop 1 cs)) = some y1 := g1
  rw [show Tryd.prog.cellsOf 3 = 1 by kernel_rfl] at g1
  obtain ⟨x1, e1, _, _⟩ := DataW.trod_int Tryd.underlying3 g1
  have k1 : cs.drop 1 = [.int .i64 x1] ++ cs.drop 2 := by rw [← e1]; exact cut_list cs 1 1
  obtain ⟨y2, n2, g2⟩ := hf 2 _ rfl
  replace g2 : DataW.trod enc Tryd.prog W base sp held n2 24 (List.take (Tryd.prog.cellsOf 24) (List.drop 2 cs)) = some y2 := g2
  rw [show Tryd.prog.cellsOf 24 = 4 by kernel_rfl] at g2
  obtain ⟨l2, hl2, e2⟩ := cells_of_bytes Tryd.underlying24 Tryd.underlying5 (by kernel_rfl) (by kernel_rfl) g2
  obtain ⟨x2_0, x2_1, x2_2, x2_3, rfl⟩ := list4 l2 hl2
  have k2 : cs.drop 2 = ([x2_0, x2_1, x2_2, x2_3].map u8v) ++ cs.drop 6 := by rw [← e2]; exact cut_list cs 2 4
  obtain ⟨y3, n3, g3⟩ := hf 3 _ rfl
  replace g3 : DataW.trod enc Tryd.prog W base sp held n3 3 (List.take (Tryd.prog.cellsOf 3) (List.drop 6 cs)) = some y3 := g3
  rw [show Tryd.prog.cellsOf 3 = 1 by kernel_rfl] at g3
  obtain ⟨x3, e3, _, _⟩ := DataW.trod_int Tryd.underlying3 g3
  have k3 : cs.drop 6 = [.int .i64 x3] ++ cs.drop 7 := by rw [← e3]; exact cut_list cs 6 1
  have kz : cs.drop 7 = [] := List.drop_eq_nil_of_le (by omega)
  have hcs : cs = [.int .i64 x0] ++ ([.int .i64 x1] ++ (([x2_0, x2_1, x2_2, x2_3].map u8v) ++ ([.int .i64 x3] ++ []))) := by
    have h0 : cs = cs.drop 0 := rfl
    rw [h0, k0, k1, k2, k3, kz]
  subst hcs
  exact ⟨(x0, x1, ⟨x2_0, x2_1, x2_2, x2_3⟩, x3), rfl⟩
set_option maxRecDepth 100000 in
set_option maxHeartbeats 4000000 in
theorem open_cells {H : Type} {enc : TypeId × Value → H} {W : World} {base : Nat} {sp : Nat → Bool} {held : Bool} {n : Nat} {cs : List Value} {y : DataW H × List MemPlace} (h : DataW.trod enc Tryd.prog W base sp held n 32 cs = some y) : ∃ c Fx nf cf Ox nx cx, cs = cfl c Fx nf cf Ox nx cx ∧ Sle fxf 10 W Fx nf cf c.fixed ∧ Sle opf 7 W Ox nx cx c.opens := by
  obtain ⟨hlen, hf⟩ := fld_struct Tryd.underlying32 h
  replace hlen : cs.length = 40 := hlen.trans (by kernel_rfl)
  obtain ⟨y0, n0, g0⟩ := hf 0 _ rfl
  replace g0 : DataW.trod enc Tryd.prog W base sp held n0 24 (List.take (Tryd.prog.cellsOf 24) (List.drop 0 cs)) = some y0 := g0
  rw [show Tryd.prog.cellsOf 24 = 4 by kernel_rfl] at g0
  obtain ⟨l0, hl0, e0⟩ := cells_of_bytes Tryd.underlying24 Tryd.underlying5 (by kernel_rfl) (by kernel_rfl) g0
  obtain ⟨x0_0, x0_1, x0_2, x0_3, rfl⟩ := list4 l0 hl0
  have k0 : cs.drop 0 = ([x0_0, x0_1, x0_2, x0_3].map u8v) ++ cs.drop 4 := by rw [← e0]; exact cut_list cs 0 4
  obtain ⟨yN, nN, gN⟩ := hf 1 _ rfl
  replace gN : DataW.trod enc Tryd.prog W base sp held nN 26 (List.take (Tryd.prog.cellsOf 26) (List.drop 4 cs)) = some yN := gN
  rw [show Tryd.prog.cellsOf 26 = 5 by kernel_rfl] at gN
  obtain ⟨_, hfN⟩ := fld_struct Tryd.underlying26 gN
  obtain ⟨yN0, nN0, gN0⟩ := hfN 0 _ rfl
  replace gN0 : DataW.trod enc Tryd.prog W base sp held nN0 24 (List.take (Tryd.prog.cellsOf 24) (List.drop 0 (List.take 5 (List.drop 4 cs)))) = some yN0 := gN0
  rw [show Tryd.prog.cellsOf 24 = 4 by kernel_rfl] at gN0
  rw [show List.take 4 (List.drop 0 (List.take 5 (List.drop 4 cs))) = List.take 4 (List.drop 4 cs) by rw [List.drop_take, List.take_take, List.drop_drop]; rfl] at gN0
  obtain ⟨lN0, hlN0, eN0⟩ := cells_of_bytes Tryd.underlying24 Tryd.underlying5 (by kernel_rfl) (by kernel_rfl) gN0
  obtain ⟨xN0_0, xN0_1, xN0_2, xN0_3, rfl⟩ := list4 lN0 hlN0
  have kN0 : cs.drop 4 = ([xN0_0, xN0_1, xN0_2, xN0_3].map u8v) ++ cs.drop 8 := by rw [← eN0]; exact cut_list cs 4 4
  obtain ⟨yN1, nN1, gN1⟩ := hfN 1 _ rfl
  replace gN1 : DataW.trod enc Tryd.prog W base sp held nN1 3 (List.take (Tryd.prog.cellsOf 3) (List.drop 4 (List.take 5 (List.drop 4 cs)))) = some yN1 := gN1
  rw [show Tryd.prog.cellsOf 3 = 1 by kernel_rfl] at gN1
  rw [show List.take 1 (List.drop 4 (List.take 5 (List.drop 4 cs))) = List.take 1 (List.drop 8 cs) by rw [List.drop_take, List.take_take, List.drop_drop]; rfl] at gN1
  obtain ⟨xN1, eN1, _, _⟩ := DataW.trod_int Tryd.underlying3 gN1
  have kN1 : cs.drop 8 = [.int .i64 xN1] ++ cs.drop 9 := by rw [← eN1]; exact cut_list cs 8 1
  obtain ⟨y2, n2, g2⟩ := hf 2 _ rfl
  replace g2 : DataW.trod enc Tryd.prog W base sp held n2 28 (List.take (Tryd.prog.cellsOf 28) (List.drop 9 cs)) = some y2 := g2
  rw [show Tryd.prog.cellsOf 28 = 6 by kernel_rfl] at g2
  obtain ⟨l2, hl2, e2⟩ := cells_of_bytes Tryd.underlying28 Tryd.underlying5 (by kernel_rfl) (by kernel_rfl) g2
  obtain ⟨x2_0, x2_1, x2_2, x2_3, x2_4, x2_5, rfl⟩ := list6 l2 hl2
  have k2 : cs.drop 9 = ([x2_0, x2_1, x2_2, x2_3, x2_4, x2_5].map u8v) ++ cs.drop 15 := by rw [← e2]; exact cut_list cs 9 6
  obtain ⟨y3, n3, g3⟩ := hf 3 _ rfl
  replace g3 : DataW.trod enc Tryd.prog W base sp held n3 28 (List.take (Tryd.prog.cellsOf 28) (List.drop 15 cs)) = some y3 := g3
  rw [show Tryd.prog.cellsOf 28 = 6 by kernel_rfl] at g3
  obtain ⟨l3, hl3, e3⟩ := cells_of_bytes Tryd.underlying28 Tryd.underlying5 (by kernel_rfl) (by kernel_rfl) g3
  obtain ⟨x3_0, x3_1, x3_2, x3_3, x3_4, x3_5, rfl⟩ := list6 l3 hl3
  have k3 : cs.drop 15 = ([x3_0, x3_1, x3_2, x3_3, x3_4, x3_5].map u8v) ++ cs.drop 21 := by rw [← e3]; exact cut_list cs 15 6
  obtain ⟨y4, n4, g4⟩ := hf 4 _ rfl
  replace g4 : DataW.trod enc Tryd.prog W base sp held n4 24 (List.take (Tryd.prog.cellsOf 24) (List.drop 21 cs)) = some y4 := g4
  rw [show Tryd.prog.cellsOf 24 = 4 by kernel_rfl] at g4
  obtain ⟨l4, hl4, e4⟩ := cells_of_bytes Tryd.underlying24 Tryd.underlying5 (by kernel_rfl) (by kernel_rfl) g4
  obtain ⟨x4_0, x4_1, x4_2, x4_3, rfl⟩ := list4 l4 hl4
  have k4 : cs.drop 21 = ([x4_0, x4_1, x4_2, x4_3].map u8v) ++ cs.drop 25 := by rw [← e4]; exact cut_list cs 21 4
  obtain ⟨y5, n5, g5⟩ := hf 5 _ rfl
  replace g5 : DataW.trod enc Tryd.prog W base sp held n5 24 (List.take (Tryd.prog.cellsOf 24) (List.drop 25 cs)) = some y5 := g5
  rw [show Tryd.prog.cellsOf 24 = 4 by kernel_rfl] at g5
  obtain ⟨l5, hl5, e5⟩ := cells_of_bytes Tryd.underlying24 Tryd.underlying5 (by kernel_rfl) (by kernel_rfl) g5
  obtain ⟨x5_0, x5_1, x5_2, x5_3, rfl⟩ := list4 l5 hl5
  have k5 : cs.drop 25 = ([x5_0, x5_1, x5_2, x5_3].map u8v) ++ cs.drop 29 := by rw [← e5]; exact cut_list cs 25 4
  obtain ⟨y6, n6, g6⟩ := hf 6 _ rfl
  replace g6 : DataW.trod enc Tryd.prog W base sp held n6 3 (List.take (Tryd.prog.cellsOf 3) (List.drop 29 cs)) = some y6 := g6
  rw [show Tryd.prog.cellsOf 3 = 1 by kernel_rfl] at g6
  obtain ⟨x6, e6, _, _⟩ := DataW.trod_int Tryd.underlying3 g6
  have k6 : cs.drop 29 = [.int .i64 x6] ++ cs.drop 30 := by rw [← e6]; exact cut_list cs 29 1
  obtain ⟨y7, n7, g7⟩ := hf 7 _ rfl
  replace g7 : DataW.trod enc Tryd.prog W base sp held n7 24 (List.take (Tryd.prog.cellsOf 24) (List.drop 30 cs)) = some y7 := g7
  rw [show Tryd.prog.cellsOf 24 = 4 by kernel_rfl] at g7
  obtain ⟨l7, hl7, e7⟩ := cells_of_bytes Tryd.underlying24 Tryd.underlying5 (by kernel_rfl) (by kernel_rfl) g7
  obtain ⟨x7_0, x7_1, x7_2, x7_3, rfl⟩ := list4 l7 hl7
  have k7 : cs.drop 30 = ([x7_0, x7_1, x7_2, x7_3].map u8v) ++ cs.drop 34 := by rw [← e7]; exact cut_list cs 30 4
  obtain ⟨y8, n8, g8⟩ := hf 8 _ rfl
  replace g8 : DataW.trod enc Tryd.prog W base sp held n8 3 (List.take (Tryd.prog.cellsOf 3) (List.drop 34 cs)) = some y8 := g8
  rw [show Tryd.prog.cellsOf 3 = 1 by kernel_rfl] at g8
  obtain ⟨x8, e8, _, _⟩ := DataW.trod_int Tryd.underlying3 g8
  have k8 : cs.drop 34 = [.int .i64 x8] ++ cs.drop 35 := by rw [← e8]; exact cut_list cs 34 1
  obtain ⟨y9, n9, g9⟩ := hf 9 _ rfl
  replace g9 : DataW.trod enc Tryd.prog W base sp held n9 3 (List.take (Tryd.prog.cellsOf 3) (List.drop 35 cs)) = some y9 := g9
  rw [show Tryd.prog.cellsOf 3 = 1 by kernel_rfl] at g9
  obtain ⟨x9, e9, _, _⟩ := DataW.trod_int Tryd.underlying3 g9
  have k9 : cs.drop 35 = [.int .i64 x9] ++ cs.drop 36 := by rw [← e9]; exact cut_list cs 35 1
  obtain ⟨y10, n10, g10⟩ := hf 10 _ rfl
  replace g10 : DataW.trod enc Tryd.prog W base sp held n10 3 (List.take (Tryd.prog.cellsOf 3) (List.drop 36 cs)) = some y10 := g10
  rw [show Tryd.prog.cellsOf 3 = 1 by kernel_rfl] at g10
  obtain ⟨x10, e10, _, _⟩ := DataW.trod_int Tryd.underlying3 g10
  have k10 : cs.drop 36 = [.int .i64 x10] ++ cs.drop 37 := by rw [← e10]; exact cut_list cs 36 1
  obtain ⟨y11, n11, g11⟩ := hf 11 _ rfl
  replace g11 : DataW.trod enc Tryd.prog W base sp held n11 3 (List.take (Tryd.prog.cellsOf 3) (List.drop 37 cs)) = some y11 := g11
  rw [show Tryd.prog.cellsOf 3 = 1 by kernel_rfl] at g11
  obtain ⟨x11, e11, _, _⟩ := DataW.trod_int Tryd.underlying3 g11
  have k11 : cs.drop 37 = [.int .i64 x11] ++ cs.drop 38 := by rw [← e11]; exact cut_list cs 37 1
  obtain ⟨y12, n12, g12⟩ := hf 12 _ rfl
  replace g12 : DataW.trod enc Tryd.prog W base sp held n12 29 (List.take (Tryd.prog.cellsOf 29) (List.drop 38 cs)) = some y12 := g12
  rw [show Tryd.prog.cellsOf 29 = 1 by kernel_rfl] at g12
  obtain ⟨A12, m12, c12, L12, e12, sl12⟩ := fld_sle Tryd.underlying29 (by kernel_rfl) (by decide) fxf_len (fun n cs y h => el_fix h) g12
  have k12 : cs.drop 38 = [.slice A12 m12 c12] ++ cs.drop 39 := by rw [← e12]; exact cut_list cs 38 1
  obtain ⟨y13, n13, g13⟩ := hf 13 _ rfl
  replace g13 : DataW.trod enc Tryd.prog W base sp held n13 30 (List.take (Tryd.prog.cellsOf 30) (List.drop 39 cs)) = some y13 := g13
  rw [show Tryd.prog.cellsOf 30 = 1 by kernel_rfl] at g13
  obtain ⟨A13, m13, c13, L13, e13, sl13⟩ := fld_sle Tryd.underlying30 (by kernel_rfl) (by decide) opf_len (fun n cs y h => el_opn h) g13
  have k13 : cs.drop 39 = [.slice A13 m13 c13] ++ cs.drop 40 := by rw [← e13]; exact cut_list cs 39 1
  have kz : cs.drop 40 = [] := List.drop_eq_nil_of_le (by omega)
  have hcs : cs = ([x0_0, x0_1, x0_2, x0_3].map u8v) ++ (([xN0_0, xN0_1, xN0_2, xN0_3].map u8v) ++ ([.int .i64 xN1] ++ (([x2_0, x2_1, x2_2, x2_3, x2_4, x2_5].map u8v) ++ (([x3_0, x3_1, x3_2, x3_3, x3_4, x3_5].map u8v) ++ (([x4_0, x4_1, x4_2, x4_3].map u8v) ++ (([x5_0, x5_1, x5_2, x5_3].map u8v) ++ ([.int .i64 x6] ++ (([x7_0, x7_1, x7_2, x7_3].map u8v) ++ ([.int .i64 x8] ++ ([.int .i64 x9] ++ ([.int .i64 x10] ++ ([.int .i64 x11] ++ ([.slice A12 m12 c12] ++ ([.slice A13 m13 c13] ++ [])))))))))))))) := by
    have h0 : cs = cs.drop 0 := rfl
    rw [h0, k0, kN0, kN1, k2, k3, k4, k5, k6, k7, k8, k9, k10, k11, k12, k13, kz]
  subst hcs
  exact ⟨⟨⟨x0_0, x0_1, x0_2, x0_3⟩, ⟨xN0_0, xN0_1, xN0_2, xN0_3⟩, xN1, ⟨x2_0, x2_1, x2_2, x2_3, x2_4, x2_5⟩, ⟨x3_0, x3_1, x3_2, x3_3, x3_4, x3_5⟩, ⟨x4_0, x4_1, x4_2, x4_3⟩, ⟨x5_0, x5_1, x5_2, x5_3⟩, x6, ⟨x7_0, x7_1, x7_2, x7_3⟩, x8, x9, x10, x11, L12, L13⟩, A12, m12, c12, A13, m13, c13, rfl, sl12, sl13⟩
set_option maxRecDepth 100000 in
theorem open_conf {H : Type} {enc : TypeId × Value → H} {W : World} {base : Nat} {sp : Nat → Bool} {held : Bool} {r : Reach} {b0 : Nat} {v : Value} {d : DataW H} {p : List MemPlace} (hv : Value.okWide Tryd.prog W r b0 32 v) (h : DataW.Trod enc Tryd.prog W base sp held 32 v d p) :
    ∃ c Fx nf cf Ox nx cx, v = .agg (cfl c Fx nf cf Ox nx cx).toArray ∧ Sle fxf 10 W Fx nf cf c.fixed ∧ Sle opf 7 W Ox nx cx c.opens := by
  obtain ⟨xs, rfl, _⟩ := okWide_struct Tryd.underlying32 hv
  obtain ⟨fuel, hf⟩ := h
  obtain ⟨c, Fx, nf, cf, Ox, nx, cx, e, h1, h2⟩ := open_cells hf
  refine ⟨c, Fx, nf, cf, Ox, nx, cx, ?_, h1, h2⟩
  rw [← e]
  show Value.agg xs = .agg xs.toList.toArray
  rw [Array.toArray_toList]
end Go.Proofs.YtdfobilagidmfaaDoor
