/- opt's distinct, size, piece, write, Put. -/
import Derived.Test.YtmljgpefbbifmaaOp1
import Derived.Test.YtmljgpefbbifmaaOpa
namespace Go.Proofs.Ytmljgpefbbifmaa
open Go.RowKit

/-- Which Codes have been seen. -/
def seenL (L : OptL) : List Value := (List.range 255).map fun (i : Nat) => .bool (decide ((i : Int) ∈ L.map (·.1)))
theorem seen_len (L : OptL) : (seenL L).length = 255 := by simp [seenL]
theorem seen_at (L : OptL) {i : Nat} (h : i < 255) : (seenL L)[i]? = some (.bool (decide ((i : Int) ∈ L.map (·.1)))) := by
  unfold seenL
  rw [List.getElem?_map, List.getElem?_range h]
  rfl
theorem seen_set {L : OptL} {k i : Nat} {l : List UInt8} (hx : L[k]? = some ((i : Int), l)) (h : i < 255) : (seenL (L.take k)).set i (.bool true) = seenL (L.take (k + 1)) := by
  apply List.ext_getElem?
  intro j
  rw [List.take_add_one, hx]
  rcases Nat.lt_or_ge j 255 with hj | hj
  · rw [seen_at _ hj]
    by_cases e : i = j
    · subst e
      rw [List.getElem?_set_self (by rw [seen_len]; exact h)]
      simp
    · rw [List.getElem?_set_ne e, seen_at _ hj]
      have e2 : ¬ (j : Int) = (i : Int) := by omega
      rw [List.map_append]
      simp only [Option.toList_some, List.map_cons, List.map_nil, List.mem_append, List.mem_singleton, e2, or_false]
  · rw [List.getElem?_eq_none (by rw [List.length_set, seen_len]; exact hj), List.getElem?_eq_none (by rw [seen_len]; exact hj)]
theorem dist_bad {L : OptL} {k : Nat} {p : Int × List UInt8} (hx : L[k]? = some p) (h : ¬ (1 ≤ p.1 ∧ p.1 ≤ 254)) : distinctB L = false := by
  unfold distinctB
  rw [show L.all (fun p => okC p.1) = false from ?_]
  · rfl
  · rw [List.all_eq_false]
    refine ⟨p, List.mem_of_getElem? hx, ?_⟩
    simp only [okC, Bool.and_eq_true, decide_eq_true_eq]
    exact h
theorem dist_dup {L : OptL} {k : Nat} {p : Int × List UInt8} (hx : L[k]? = some p) (h : p.1 ∈ (L.take k).map (·.1)) : distinctB L = false := by
  unfold distinctB
  rw [show decide ((L.map (·.1)).Nodup) = false from ?_]
  · rw [Bool.and_false]
  · refine decide_eq_false (fun hn => ?_)
    obtain ⟨hk, e⟩ := List.getElem?_eq_some_iff.1 hx
    have e2 : L.map (·.1) = (L.take k).map (·.1) ++ p.1 :: (L.drop (k + 1)).map (·.1) := by
      conv => lhs; rw [← List.take_append_drop k L, List.drop_eq_getElem_cons hk, e]
      simp
    rw [e2, List.nodup_append] at hn
    exact hn.2.2 _ h _ List.mem_cons_self rfl
theorem dist_next {L : OptL} {k : Nat} {p : Int × List UInt8} (hd : distinctB (L.take k) = true) (hx : L[k]? = some p) (h1 : 1 ≤ p.1) (h2 : p.1 ≤ 254) (h : ¬ p.1 ∈ (L.take k).map (·.1)) : distinctB (L.take (k + 1)) = true := by
  unfold distinctB at hd ⊢
  rw [Bool.and_eq_true, decide_eq_true_eq] at hd ⊢
  rw [List.take_add_one, hx]
  refine ⟨?_, ?_⟩
  · rw [List.all_append, hd.1]
    simp [okC, h1, h2]
  · rw [List.map_append, List.nodup_append]
    refine ⟨hd.2, by simp, ?_⟩
    intro a ha b hb e
    simp at hb
    subst hb
    subst e
    exact h ha
set_option linter.unusedVariables false in
set_option linter.unusedSimpArgs false in
set_option maxRecDepth 100000 in
set_option maxHeartbeats 16000000 in
theorem odist_any {A : Option Addr} {n c : Nat} {hs : List Oh} {L : OptL} (w : World) (en : Sle opE 2 w A n c hs) (hbd : Bd w hs L) (hn : n ≤ 100000) : Calls Try.prog 42 #[.slice A n c] w fun e w' => e = .returned (.bool (distinctB L)) ∧ Below w.heap.size w w' := by
  have HL := Lib.hid en.1
  have hn0 : (n : Int) ≤ 100000 := by omega
  have HBD := Lib.hid hbd
  clear hbd
  have bel := Below.refl w.heap.size w
  go_enter Try.func42, Try.ntmps42
  go_wp2_with (first | ((with_reducible show wpList _ _ _ (⟨some 3, _, _, _, _, _⟩ :: _) _ _); refine wpList_new_a rfl 91 rfl (seenL []).toArray (by kernel_rfl) ?_; intro g3 w2 ge hh bb; have av_en_sn := en.av_new ge; have osn := Nat.le_trans bel.size ge; replace en := en.below bb; replace bel := bel.trans (bb.mono bel.size); have hsn := hh; clear hh ge bb))
  go_loopg [8] (n) (fun gk s8 wr => ∃ k : Nat, gk = n - k ∧ k ≤ n ∧ Hid (distinctB (L.take k) = true) ∧ s8 = .int .i64 (k : Int) ∧ wr.heap[g3]? = some (.cells (seenL (L.take k)).toArray 91 (0, 0)) ∧ Sle opE 2 wr (A) (n) (c) (hs) ∧ Below w.heap.size w wr)
  case atStart => exact ⟨0, Nat.sub_zero _, Nat.zero_le _, Lib.hid rfl, rfl, hsn, en, bel⟩
  case round =>
    clear hsn en bel
    obtain ⟨k, HGK, hkn, HD, rfl, hsn, en, bel⟩ := hrel
    have HGK_ := Lib.hid HGK
    clear HGK
    by_cases h : k < n
    rotate_left
    · have HP : Hid (distinctB L = true) := Lib.hid (by have h1 := HD.out; rw [List.take_of_length_le (by have h1 := HL.out; have h2 := HBD.out.1; omega)] at h1; exact h1)
      obtain rfl : k = n := by omega
      replace h : decide (k < k) = false := decide_eq_false (by omega)
      go_wp2_with fail
      go_ret
      exact ⟨by rw [HP.out]; rfl, bel⟩
    obtain ⟨x, hx_⟩ : ∃ x, hs[k]? = some x := ⟨_, List.getElem?_eq_getElem (by have := HL.out; omega)⟩
    obtain ⟨l, hl_, sb_⟩ := HBD.out.at hx_
    have k0 : (0 : Int) ≤ k := by omega
    have k1 : (k : Int) < n := by omega
    have HX := Lib.hid hx_
    have HLI := Lib.hid hl_
    have HSB := Lib.hid sb_
    clear hx_ hl_ sb_
    obtain ⟨gE, oE, hEp⟩ := en.place (by omega)
    subst hEp
    by_cases h1 : x.c ≤ 0
    · have HP : Hid (distinctB L = false) := Lib.hid (dist_bad (p := (x.c, l)) HLI.out (fun h_ => by have := h_.1; omega))
      have R11 := Lib.hid (Sle.range0 en HX.out 2 [.int .i64 x.c, .slice x.A x.n x.cp] rfl)
      go_wp2_with (first | ((with_reducible show wpList _ _ _ (⟨some 11, _, _, _, _, _⟩ :: _) _ _); refine wpList_load_rng 38 (.tmp 10) rfl (by kernel_rfl) _ _ rfl _ R11.out _ Try.underlying38 rfl (by kernel_rfl) ?_) | ((with_reducible show wpList _ _ _ (⟨some 5, _, _, _, _, _⟩ :: _) _ _); refine wpList_new_a rfl 38 rfl #[.int .i64 0, .slice none 0 0] (by kernel_rfl) ?_; intro g5 w3 ge hh bb; have d_sn_ob := ne_new (hlt hsn) ge; have av_en_ob := en.av_new ge; have oob := Nat.le_trans bel.size ge; replace hsn := blk_u hsn bb; replace en := en.below bb; replace bel := bel.trans (bb.mono bel.size); have hob := hh; clear hh ge bb) | ((with_reducible show wpList _ _ _ (⟨none, Op.store _ (.tmp 5) _, _, _, _, _⟩ :: _) _ _); refine wpList_store_blk rfl 38 (.tmp 5) (.tmp 11) rfl g5 rfl _ rfl _ 38 hob (by rfl) (by kernel_rfl) (by kernel_rfl) ?_; intro w4 hq gr; replace en := en.away av_en_ob gr; replace hsn := blk_a hsn gr d_sn_ob; replace bel := below_grown bel gr oob bel.size; clear hob; have hob := hq; clear hq gr; have R13 := cell_lit hob 0 _ rfl))
      try clear R11
      try clear R13
      go_ret
      exact ⟨by rw [HP.out]; rfl, bel⟩
    by_cases h2 : 255 ≤ x.c
    · have HP : Hid (distinctB L = false) := Lib.hid (dist_bad (p := (x.c, l)) HLI.out (fun h_ => by have := h_.2; omega))
      have HF1 := Lib.hid h1
      replace h1 : decide (x.c ≤ 0) = false := decide_eq_false h1
      have R11 := Lib.hid (Sle.range0 en HX.out 2 [.int .i64 x.c, .slice x.A x.n x.cp] rfl)
      go_wp2_with (first | ((with_reducible show wpList _ _ _ (⟨some 11, _, _, _, _, _⟩ :: _) _ _); refine wpList_load_rng 38 (.tmp 10) rfl (by kernel_rfl) _ _ rfl _ R11.out _ Try.underlying38 rfl (by kernel_rfl) ?_) | ((with_reducible show wpList _ _ _ (⟨some 5, _, _, _, _, _⟩ :: _) _ _); refine wpList_new_a rfl 38 rfl #[.int .i64 0, .slice none 0 0] (by kernel_rfl) ?_; intro g5 w3 ge hh bb; have d_sn_ob := ne_new (hlt hsn) ge; have av_en_ob := en.av_new ge; have oob := Nat.le_trans bel.size ge; replace hsn := blk_u hsn bb; replace en := en.below bb; replace bel := bel.trans (bb.mono bel.size); have hob := hh; clear hh ge bb) | ((with_reducible show wpList _ _ _ (⟨none, Op.store _ (.tmp 5) _, _, _, _, _⟩ :: _) _ _); refine wpList_store_blk rfl 38 (.tmp 5) (.tmp 11) rfl g5 rfl _ rfl _ 38 hob (by rfl) (by kernel_rfl) (by kernel_rfl) ?_; intro w4 hq gr; replace en := en.away av_en_ob gr; replace hsn := blk_a hsn gr d_sn_ob; replace bel := below_grown bel gr oob bel.size; clear hob; have hob := hq; clear hq gr; have R13 := cell_lit hob 0 _ rfl; have R17 := cell_lit hob 0 _ rfl))
      try clear R11
      try clear R13
      try clear R17
      go_ret
      exact ⟨by rw [HP.out]; rfl, bel⟩
    obtain ⟨i, hi⟩ : ∃ i : Nat, x.c = (i : Int) := ⟨x.c.toNat, by omega⟩
    have HI := Lib.hid hi
    have HI2 : Hid (i < 255) := Lib.hid (by omega)
    have r23 : ∀ W, (Instr.indexAt 91 (.pointer (some ⟨g3, 0, none⟩)) (.int .i64 x.c)).run Try.prog W = .ok (.pointer (some ⟨g3, i, none⟩)) W := fun W => run_index_arr W _ _ 255 i g3 _ Try.underlying91 (by kernel_rfl) HI2.out (by decide) HI.out
    have HLJ : Hid (L[k]? = some ((i : Int), l)) := Lib.hid (by rw [← hi]; exact HLI.out)
    clear hi
    have HC1 : Hid (1 ≤ x.c) := Lib.hid (by omega)
    have HC2 : Hid (x.c ≤ 254) := Lib.hid (by omega)
    replace h1 : decide (x.c ≤ 0) = false := decide_eq_false h1
    replace h2 : decide (255 ≤ x.c) = false := decide_eq_false h2
    by_cases h3 : (i : Int) ∈ (L.take k).map (·.1)
    · have HSI : Hid ((seenL (L.take k))[i]? = some (.bool true)) := Lib.hid (by rw [seen_at _ HI2.out, decide_eq_true h3])
      have HP : Hid (distinctB L = false) := Lib.hid (dist_dup HLJ.out h3)
      clear h3
      have R11 := Lib.hid (Sle.range0 en HX.out 2 [.int .i64 x.c, .slice x.A x.n x.cp] rfl)
      go_wp2_with (first | ((with_reducible show wpList _ _ _ (⟨some 11, _, _, _, _, _⟩ :: _) _ _); refine wpList_load_rng 38 (.tmp 10) rfl (by kernel_rfl) _ _ rfl _ R11.out _ Try.underlying38 rfl (by kernel_rfl) ?_) | ((with_reducible show wpList _ _ _ (⟨some 5, _, _, _, _, _⟩ :: _) _ _); refine wpList_new_a rfl 38 rfl #[.int .i64 0, .slice none 0 0] (by kernel_rfl) ?_; intro g5 w3 ge hh bb; have d_sn_ob := ne_new (hlt hsn) ge; have av_en_ob := en.av_new ge; have oob := Nat.le_trans bel.size ge; replace hsn := blk_u hsn bb; replace en := en.below bb; replace bel := bel.trans (bb.mono bel.size); have hob := hh; clear hh ge bb) | ((with_reducible show wpList _ _ _ (⟨none, Op.store _ (.tmp 5) _, _, _, _, _⟩ :: _) _ _); refine wpList_store_blk rfl 38 (.tmp 5) (.tmp 11) rfl g5 rfl _ rfl _ 38 hob (by rfl) (by kernel_rfl) (by kernel_rfl) ?_; intro w4 hq gr; replace en := en.away av_en_ob gr; replace hsn := blk_a hsn gr d_sn_ob; replace bel := below_grown bel gr oob bel.size; clear hob; have hob := hq; clear hq gr; have R13 := cell_lit hob 0 _ rfl; have R17 := cell_lit hob 0 _ rfl; have R22 := cell_lit hob 0 _ rfl; have R23 := r23; have R24 := cell_lit hsn i _ (arr_at HSI.out)))
      try clear R11
      try clear R13
      try clear R17
      try clear R22
      try clear R23
      try clear R24
      go_ret
      exact ⟨by rw [HP.out]; rfl, bel⟩
    have HSI : Hid ((seenL (L.take k))[i]? = some (.bool false)) := Lib.hid (by rw [seen_at _ HI2.out, decide_eq_false h3])
    have HSE := Lib.hid (seen_set HLJ.out HI2.out)
    have HD2 := Lib.hid (dist_next (p := ((i : Int), l)) HD.out HLJ.out (HI.out ▸ HC1.out) (HI.out ▸ HC2.out) h3)
    clear h3
    have R11 := Lib.hid (Sle.range0 en HX.out 2 [.int .i64 x.c, .slice x.A x.n x.cp] rfl)
    go_wp2_with (first | ((with_reducible show wpList _ _ _ (⟨some 11, _, _, _, _, _⟩ :: _) _ _); refine wpList_load_rng 38 (.tmp 10) rfl (by kernel_rfl) _ _ rfl _ R11.out _ Try.underlying38 rfl (by kernel_rfl) ?_) | ((with_reducible show wpList _ _ _ (⟨some 5, _, _, _, _, _⟩ :: _) _ _); refine wpList_new_a rfl 38 rfl #[.int .i64 0, .slice none 0 0] (by kernel_rfl) ?_; intro g5 w3 ge hh bb; have d_sn_ob := ne_new (hlt hsn) ge; have av_en_ob := en.av_new ge; have oob := Nat.le_trans bel.size ge; replace hsn := blk_u hsn bb; replace en := en.below bb; replace bel := bel.trans (bb.mono bel.size); have hob := hh; clear hh ge bb) | ((with_reducible show wpList _ _ _ (⟨none, Op.store _ (.tmp 5) _, _, _, _, _⟩ :: _) _ _); refine wpList_store_blk rfl 38 (.tmp 5) (.tmp 11) rfl g5 rfl _ rfl _ 38 hob (by rfl) (by kernel_rfl) (by kernel_rfl) ?_; intro w4 hq gr; replace en := en.away av_en_ob gr; replace hsn := blk_a hsn gr d_sn_ob; replace bel := below_grown bel gr oob bel.size; clear hob; have hob := hq; clear hq gr; have R13 := cell_lit hob 0 _ rfl; have R17 := cell_lit hob 0 _ rfl; have R22 := cell_lit hob 0 _ rfl; have R23 := r23; have R24 := cell_lit hsn i _ (arr_at HSI.out); have R27 := cell_lit hob 0 _ rfl; have R28 := r23) | ((with_reducible show wpList _ _ _ (⟨none, Op.store _ (.tmp 28) _, _, _, _, _⟩ :: _) _ _); refine wpList_store_one rfl 4 (.tmp 28) (.const (.bool true)) rfl g3 i rfl (.bool true) rfl (seenL (L.take k)) 91 hsn (by rw [seen_len]; exact HI2.out) (by kernel_rfl) rfl ?_; intro w5 hq gr; replace en := en.away av_en_sn gr; replace hob := blk_a hob gr (ne_symm d_sn_ob); replace bel := below_grown bel gr osn bel.size; clear hsn; have hsn := hq; clear hq gr; rw [HSE.out] at hsn))
    try clear R11
    try clear R13
    try clear R17
    try clear R22
    try clear R23
    try clear R24
    try clear R27
    try clear R28
    go_roundg (n - (k + 1))
    case measure => have := HGK_.out; omega
    case rel => exact ⟨k + 1, rfl, by omega, HD2, by go_num, hsn, en, bel⟩
set_option maxRecDepth 100000 in
theorem osize_any (n : Nat) (w : World) (hn : n ≤ 100000) : Calls Try.prog 43 #[.int .i64 (n : Int)] w fun e w' => e = .returned (.int .i64 (sizeN n : Int)) ∧ w = w' := by
  have n0 : (0 : Int) ≤ n := by omega
  have n1 : (n : Int) ≤ 100000 := by omega
  go_enter Try.func43, Try.ntmps43
  go_wp2
  · go_ret
    exact ⟨congrArg (fun x => Ending.returned (.int .i64 x)) (by unfold sizeN; omega), rfl⟩
  · go_ret
    exact ⟨congrArg (fun x => Ending.returned (.int .i64 x)) (by unfold sizeN; omega), rfl⟩
set_option linter.unusedVariables false in
set_option linter.unusedSimpArgs false in
set_option maxRecDepth 100000 in
set_option maxHeartbeats 16000000 in
theorem opiece_any {lo n c m cb : Nat} {A Bb : Option Addr} {l lb : List UInt8} {k : Int} (w : World) (hlo : lo ≤ w.heap.size) (bw : w.ownsRow lo 5 1 (.slice A n c) n (l.map u8v)) (bd : Sl w Bb m cb lb) (hbl : Bl Bb m lo) (hs : n + 2 + m ≤ 100000000) : Calls Try.prog 51 #[.slice A n c, .int .i64 k, .slice Bb m cb] w fun e w' => ∃ A' c', e = .returned (.slice A' (n + 2 + m) c') ∧ w'.ownsRow lo 5 1 (.slice A' (n + 2 + m) c') (n + 2 + m) ((l ++ [byteOf k, byteOf (m : Int)] ++ lb : List UInt8).map u8v) ∧ Kt [5] w w' ∧ Below lo w w' := by
  have b := (own_sl bw).1
  have blo := Nat.le_refl lo
  have lz_b := hlo
  have kt := Kt.refl [5] w
  have HS := Lib.hid hs
  clear hs
  obtain ⟨ii, hii, hz0, hz1, hz2⟩ := info_parts Try.info_u8
  have bel := Below.refl lo w
  go_enter Try.func51, Try.ntmps51
  go_wp2_with (first | ((with_reducible show wpList _ _ _ (⟨some 13, _, _, _, _, _⟩ :: _) _ _); refine wpList_lit_n rfl 34 5 2 _ rfl #[.int .u8 (k % 256), .int .u8 ((m : Int) % 256)] (.int .u8 0) Try.underlying34 (by kernel_rfl) 1 (by kernel_rfl) (by decide) (by kernel_rfl) ?_; intro g13 w1 ge lt hh bb; have hl : w1.heap[g13]? = some (.cells (([byteOf k, byteOf (m : Int)] : List UInt8).map u8v).toArray 5 (0, 0)) := (by simpa [u8v, byteOf_val] using hh); have hdw := own_lit (B := w.heap.size) ([byteOf k, byteOf (m : Int)]) hl ge 2 rfl (by simp [maxLen]); have hd := (own_sl hdw).1; have hdlo := (Nat.le_trans hlo bel.size); clear hl; have hdge := ge; have lz_hd := bb.size; have bl_bd_hd := bd.bl_new; have bl_b_hd := b.bl_new; have av_bd_b13 := bd.av_new ge; have av_b_b13 := b.av_new ge; have of_b_b13 := own_new bw ge; have ob13 := Nat.le_trans (Nat.le_trans hlo bel.size) ge; have pb13 := Nat.le_trans bel.size ge; replace bd := bd.below bb; replace b := b.below bb; replace bw := own_under bw bb; replace lz_b := Nat.le_trans lz_b bb.size; replace kt := kt.trans (kt_below bb); replace bel := bel.trans (bb.mono (Nat.le_trans hlo bel.size)); have hb13 := hh; clear hh lt ge bb) | ((with_reducible show wpList _ _ _ (⟨some 14, _, _, _, _, _⟩ :: _) _ _); refine wpList_append_bg _ rfl (.tmp 7) (.tmp 13) 34 rfl (lo) 5 ii (.int .u8 0) Try.underlying34 hii hz0 hz1 hz2 rfl _ (n) (l) rfl bw (some ⟨g13, 0, none⟩) (2) (2) ([byteOf k, byteOf (m : Int)]) rfl hd (by have := HS.out; omega) lz_b ?_; intro v14 w2 own_ bb gw ofw; have of14_b13 := ofw _ (hlt hb13) of_b_b13; clear ofw; replace kt := kt.trans (kt_row gw bw (by simp)); replace bd := bd.under hbl bb; clear hd hdw lz_hd; replace hb13 := blk_own hb13 gw of_b_b13; clear gw; replace bel := bel.trans (bb.mono blo); have lz_b1 := Nat.le_trans lz_b bb.size; clear bb; clear b bw lz_b; replace own_ : w2.ownsRow (lo) 5 1 v14 (n + 2) ((l ++ [byteOf k, byteOf (m : Int)] : List UInt8).map u8v) := own_; obtain ⟨A14, c14, rfl⟩ := own_val own_; have b1w := own_; have b1 := (own_sl own_).1; have fr_b1 := (own_sl own_).2; clear own_; have av_b1_b13 := own_av b1w of14_b13) | ((with_reducible show wpList _ _ _ (⟨some 17, _, _, _, _, _⟩ :: _) _ _); refine wpList_append_bg _ rfl (.tmp 15) (.tmp 16) 34 rfl (lo) 5 ii (.int .u8 0) Try.underlying34 hii hz0 hz1 hz2 rfl _ (n + 2) (l ++ [byteOf k, byteOf (m : Int)]) rfl b1w (Bb) (m) (cb) (lb) rfl bd (by have := HS.out; omega) lz_b1 ?_; intro v17 w3 own_ bb gw ofw; have of17_b13 := ofw _ (hlt hb13) of14_b13; clear ofw; replace kt := kt.trans (kt_row gw b1w (by simp)); replace bd := bd.under hbl bb; replace hb13 := blk_own hb13 gw of14_b13; clear gw; replace bel := bel.trans (bb.mono blo); have lz_rb := Nat.le_trans lz_b1 bb.size; clear bb; clear b1 b1w lz_b1; replace own_ : w3.ownsRow (lo) 5 1 v17 (n + 2 + m) ((l ++ [byteOf k, byteOf (m : Int)] ++ lb : List UInt8).map u8v) := own_; obtain ⟨A17, c17, rfl⟩ := own_val own_; have rbw := own_; have rb := (own_sl own_).1; have fr_rb := (own_sl own_).2; clear own_; have av_rb_b13 := own_av rbw of17_b13))
  go_ret
  exact ⟨A17, c17, rfl, rbw, kt, bel⟩
theorem pieces_step {c : UInt8} {l0 l1 lb l : List UInt8} (h : l0 ++ piecesL c lb = l) (h2 : 255 < lb.length) (h3 : l1 = l0 ++ [c, 255] ++ lb.take 255) : l1 ++ piecesL c (lb.drop 255) = l := by
  rw [h3, ← h, pieces_long h2]
  simp only [List.append_assoc]
theorem pieces_end {c : UInt8} {l0 lb l : List UInt8} (h : l0 ++ piecesL c lb = l) (h2 : lb.length ≤ 255) : l0 ++ [c, byteOf (lb.length : Int)] ++ lb = l := by
  rw [← h, pieces_last h2]
  simp only [List.append_assoc]
theorem own_len {w : World} {B n : Nat} {T : TypeId} {v : Value} {l : List UInt8} (h : w.ownsRow B T 1 v n (l.map u8v)) : l.length = n := by simpa using h.1
set_option linter.unusedVariables false in
set_option linter.unusedSimpArgs false in
set_option maxRecDepth 100000 in
set_option maxHeartbeats 16000000 in
theorem owrite_any {lo n c m cb : Nat} {A Bb : Option Addr} {l lb : List UInt8} {k : Int} (w : World) (hlo : lo ≤ w.heap.size) (bw : w.ownsRow lo 5 1 (.slice A n c) n (l.map u8v)) (bd : Sl w Bb m cb lb) (hbl : Bl Bb m lo) (hs : n + 2 * m ≤ 10000000) : Calls Try.prog 44 #[.slice A n c, .agg #[.int .i64 k, .slice Bb m cb]] w fun e w' => ∃ A' c', e = .returned (.slice A' (n + sizeN m) c') ∧ w'.ownsRow lo 5 1 (.slice A' (n + sizeN m) c') (n + sizeN m) ((l ++ piecesL (byteOf k) lb : List UInt8).map u8v) ∧ Kt [5] w w' ∧ Below lo w w' := by
  have b := (own_sl bw).1
  have blo := Nat.le_refl lo
  have lz_b := hlo
  have kt := Kt.refl [5] w
  have HSZ := Lib.hid hs
  have HLB := Lib.hid bd.1
  have HLN := Lib.hid (own_len bw)
  clear hs
  have bel := Below.refl lo w
  go_enter Try.func44, Try.ntmps44
  go_wp2_with (first | ((with_reducible show wpList _ _ _ (⟨some 3, _, _, _, _, _⟩ :: _) _ _); refine wpList_box_n rfl 38 (.tmp 1) rfl #[.int .i64 k, .slice Bb m cb] rfl ?_; intro g3 w1 ge lt hh bb; have av_bd_ob := bd.av_new ge; have av_b_ob := b.av_new ge; have of_b_ob := own_new bw ge; have oob := Nat.le_trans (Nat.le_trans hlo bel.size) ge; have pob := Nat.le_trans bel.size ge; replace bd := bd.below bb; replace b := b.below bb; replace bw := own_under bw bb; replace lz_b := Nat.le_trans lz_b bb.size; replace kt := kt.trans (kt_below bb); replace bel := bel.trans (bb.mono (Nat.le_trans hlo bel.size)); have hob := hh; clear hh lt ge bb; have R7 := cell_lit hob 1 _ rfl))
  try clear R7
  go_loopg [5, 0] (m) (fun gk s5 s0 wr => ∃ Bc : Option Addr, ∃ mb : Nat, ∃ cc : Nat, ∃ lc : List UInt8, ∃ n1 : Nat, ∃ l1 : List UInt8, ∃ (Aow : Option Addr) (cow : Nat), gk = mb ∧ Hid (l1 ++ piecesL (byteOf k) lc = l ++ piecesL (byteOf k) lb) ∧ Bl Bc mb lo ∧ Hid (n1 + mb ≤ n + m + (m - mb)) ∧ Hid (mb ≤ m) ∧ Kt [5] w wr ∧ s5 = .slice Bc mb cc ∧ s0 = .slice Aow n1 cow ∧ wr.ownsRow (lo) 5 1 (.slice Aow (n1) cow) (n1) ((l1 : List UInt8).map u8v) ∧ Ofs (.slice Aow (n1) cow) g3 ∧ wr.heap[g3]? = some (.cells #[.int .i64 k, .slice Bb m cb] 38 (0, 0)) ∧ Sl wr (Bc) (mb) (cc) (lc) ∧ Av (Bc) (mb) g3 ∧ Below lo w wr)
  case atStart => exact ⟨Bb, m, cb, lb, n, l, A, c, rfl, Lib.hid rfl, hbl, Lib.hid (by omega), Lib.hid (Nat.le_refl _), kt, rfl, rfl, bw, of_b_ob, hob, bd, av_bd_ob, bel⟩
  case round =>
    clear kt hob bd b bel av_bd_ob
    obtain ⟨Bc, mb, cc, lc, n1, l1, Aow, cow, HGK, HW, hbl, HN1, HMB, kt, rfl, rfl, oww, of_ow_ob, hob, bd, av_bd_ob, bel⟩ := hrel
    have HGK_ := Lib.hid HGK
    clear HGK
    have ow := (own_sl oww).1
    have fr_ow := (own_sl oww).2
    have lz_ow := (Nat.le_trans hlo bel.size)
    have owlo := Nat.le_refl (lo)
    have av_ow_ob := own_av oww of_ow_ob
    by_cases h : 255 < mb
    rotate_left
    · have h5 : decide ((255 : Int) < mb) = false := decide_eq_false (by omega)
      have HB5 : Hid (lc.length ≤ 255) := Lib.hid (by rw [bd.1]; omega)
      have HPN : Hid (n1 + 2 + mb = n + sizeN m) := Lib.hid (by have h1 := congrArg List.length (pieces_end HW.out HB5.out); simp only [List.length_append, List.length_cons, List.length_nil, pieces_len m _ _ HLB.out, bd.1] at h1; have h2 := own_len oww; have h3 := HLN.out; omega)
      have HQ2 : Hid (l1 ++ [byteOf k, byteOf (mb : Int)] ++ lc = l ++ piecesL (byteOf k) lb) := Lib.hid (by have h1 := pieces_end HW.out HB5.out; rw [bd.1] at h1; exact h1)
      have R21 := cell_lit hob 0 _ rfl
      go_wp2_with fail
      clear R21
      have HLZ_ := lz_ow
      with_reducible refine (opiece_any (k := k) _ HLZ_ oww bd hbl (by have h1 := HN1.out; have h2 := HMB.out; have h3 := HSZ.out; omega)).mono ?_
      rintro e w2 ⟨A16, c16, rfl, own_, k_, bb⟩
      replace hob := Kt.blk k_ hob (by decide)
      replace bd := bd.under hbl bb
      replace kt := kt.trans k_
      replace bel := bel.trans (bb.mono owlo)
      have lz2_ := Nat.le_trans lz_ow bb.size
      clear ow oww lz_ow bb k_
      have oww := own_
      have ow := (own_sl own_).1
      have lz_ow := lz2_
      clear own_ lz2_
      have of_ow_ob := ofs_type oww hob (by decide)
      have av_ow_ob := own_av oww of_ow_ob
      clear HLZ_
      go_wp2_with fail
      go_ret
      exact ⟨A16, c16, by rw [← HPN.out]; rfl, by rw [← HPN.out, ← HQ2.out]; exact oww, kt, bel⟩
    obtain ⟨A15, c15, r15, f15, u15⟩ := piece_front bd (k := 255) (by omega)
    replace r15 : ∀ W, (Instr.slice 34 (.slice Bc mb cc) none (some (.int .i64 255)) none).run Try.prog W = .ok (.slice A15 255 c15) W := r15
    have pf := f15 _ bd
    have hbf := hbl.sub u15
    obtain ⟨A18, c18, r18, f18, u18⟩ := piece_back bd (k := 255) (by omega)
    replace r18 : ∀ W, (Instr.slice 34 (.slice Bc mb cc) (some (.int .i64 255)) none none).run Try.prog W = .ok (.slice A18 (mb - 255) c18) W := r18
    have bk := f18 _ bd
    have hbk := hbl.sub u18
    have av_bk_ob := av_bd_ob.sub u18
    have HB5 : Hid (255 < lc.length) := Lib.hid (by rw [bd.1]; omega)
    have HBG : Hid (255 < mb) := Lib.hid (by omega)
    have h5 : (255 : Int) < mb := by omega
    clear f15 u15 f18 u18
    go_wp2_with fail
    replace bel := bel.drew
    replace hob : wr.drew.heap[g3]? = _ := hob
    replace bd := bd.drew
    replace ow := ow.drew
    replace oww : wr.drew.ownsRow _ _ _ _ _ _ := oww
    replace lz_ow : _ ≤ wr.drew.heap.size := lz_ow
    replace pf := pf.drew
    replace bk := bk.drew
    replace kt := kt_drew kt
    refine wp_region_held_drew (S := fun W => W.heap[g3]? = some (.cells #[.int .i64 k, .slice Bb m cb] 38 (0, 0))) (by kernel_rfl) hob (fun hH => ?_)
    generalize wr.drew = w2 at bel hob bd ow pf bk oww kt lz_ow hH ⊢
    refine wpAnyH_take (i := 0) (v := ?_) rfl (by kernel_rfl) (by kernel_rfl) (by kernel_rfl) (fun _ _ _ h => h) (Or.inl ⟨by rfl, ?_⟩) hH ?_
    rotate_left
    · ((intro W hW; clear hW; go_simp) <;> with_reducible rfl)
    simp only [Act.put, List.getElem_toArray, List.getElem_cons_zero, List.setIfInBounds_toArray, List.set_cons_zero, List.set_cons_succ]
    refine wpAnyH_take (i := 1) (v := ?_) rfl (by kernel_rfl) (by kernel_rfl) (by kernel_rfl) (fun _ _ _ h => h) (Or.inl ⟨by rfl, ?_⟩) hH ?_
    rotate_left
    · ((intro W hW; clear hW; go_simp) <;> with_reducible rfl)
    simp only [Act.put, List.getElem_toArray, List.getElem_cons_zero, List.getElem_cons_succ, List.setIfInBounds_toArray, List.set_cons_zero, List.set_cons_succ]
    refine wpAnyH_take (i := 2) (v := ?_) rfl (by kernel_rfl) (by kernel_rfl) (by kernel_rfl) (fun _ _ _ h => h) (Or.inl ⟨by rfl, ?_⟩) hH ?_
    rotate_left
    · ((intro W hW; have hk := cell_lit (hW) 0 _ rfl; clear hW; go_simp) <;> with_reducible rfl)
    simp only [Act.put, List.getElem_toArray, List.getElem_cons_zero, List.getElem_cons_succ, List.setIfInBounds_toArray, List.set_cons_zero, List.set_cons_succ]
    refine wpAnyH_take (i := 3) (v := ?_) rfl (by kernel_rfl) (by kernel_rfl) (by kernel_rfl) (fun _ _ _ h => h) (Or.inl ⟨by rfl, ?_⟩) hH ?_
    rotate_left
    · ((intro W hW; clear hW; go_simp) <;> with_reducible rfl)
    simp only [Act.put, List.getElem_toArray, List.getElem_cons_zero, List.getElem_cons_succ, List.setIfInBounds_toArray, List.set_cons_zero, List.set_cons_succ]
    refine wpAnyH_take (i := 4) (v := ?_) rfl (by kernel_rfl) (by kernel_rfl) (by kernel_rfl) (fun _ _ _ h => h) (Or.inl ⟨by rfl, ?_⟩) hH ?_
    rotate_left
    · ((intro W hW; clear hW; go_simp) <;> with_reducible rfl)
    simp only [Act.put, List.getElem_toArray, List.getElem_cons_zero, List.getElem_cons_succ, List.setIfInBounds_toArray, List.set_cons_zero, List.set_cons_succ]
    refine wpAnyH_ready (rs := [5]) (by kernel_rfl) (by simp) ?_
    refine AllReadyH.cons (o := _) rfl (fun K hK => ?_) AllReadyH.nil
    simp only [List.getElem_toArray, List.getElem_cons_zero, List.getElem_cons_succ]
    go_simp
    have HLZ_ := lz_ow
    with_reducible refine (opiece_any (k := k) _ HLZ_ oww pf hbf (by have h1 := HN1.out; have h2 := HMB.out; have h3 := HSZ.out; omega)).mono ?_
    rintro e w3 ⟨A16, c16, rfl, own_, k_, bb⟩
    dsimp only
    replace hob := Kt.blk k_ hob (by decide)
    replace bd := bd.under hbl bb
    replace pf := pf.under hbf bb
    replace bk := bk.under hbk bb
    replace kt := kt.trans k_
    replace bel := bel.trans (bb.mono owlo)
    have lz2_ := Nat.le_trans lz_ow bb.size
    clear ow oww lz_ow bb k_
    have oww := own_
    have ow := (own_sl own_).1
    have lz_ow := lz2_
    clear own_ lz2_
    have of_ow_ob := ofs_type oww hob (by decide)
    have av_ow_ob := own_av oww of_ow_ob
    clear HLZ_
    refine hK.out _ _ hob (fun hH4 => ?_)
    clear hK K
    refine wpAnyH_take (i := 6) (v := ?_) rfl (by kernel_rfl) (by kernel_rfl) (by kernel_rfl) (fun _ _ _ h => h) (Or.inl ⟨by rfl, ?_⟩) hH4 ?_
    rotate_left
    · ((intro W hW; clear hW; go_simp) <;> with_reducible rfl)
    simp only [Act.put, List.getElem_toArray, List.getElem_cons_zero, List.getElem_cons_succ, List.setIfInBounds_toArray, List.set_cons_zero]
    refine wpAnyH_done (by kernel_rfl) ?_ _
    have R18 := r18
    go_wp2_with fail
    clear R18
    go_roundg (mb - 255)
    case measure => have h1_ := HBG.out; have h2_ := HGK_.out; omega
    case rel => exact ⟨A18, mb - 255, c18, lc.drop 255, n1 + 2 + 255, l1 ++ [byteOf k, byteOf ((255 : Nat) : Int)] ++ lc.take 255, A16, c16, rfl, Lib.hid (pieces_step HW.out HB5.out rfl), hbk, Lib.hid (by have h1 := HN1.out; have h2 := HMB.out; have h3 := HBG.out; omega), Lib.hid (by have h2 := HMB.out; omega), kt, by go_num, rfl, oww, of_ow_ob, hob, bk, av_bk_ob, bel⟩
theorem all_next {L : OptL} {k : Nat} {p : Int × List UInt8} (hx : L[k]? = some p) : allL (L.take (k + 1)) = allL (L.take k) ++ piecesL (byteOf p.1) p.2 := by
  unfold allL
  rw [List.take_add_one, hx, List.flatMap_append]
  simp
theorem all_take (L : OptL) (k : Nat) : (allL (L.take k)).length ≤ (allL L).length := by
  conv => rhs; rw [← List.take_append_drop k L]
  unfold allL
  rw [List.flatMap_append, List.length_append]
  omega
set_option linter.unusedVariables false in
set_option linter.unusedSimpArgs false in
set_option maxRecDepth 100000 in
set_option maxHeartbeats 16000000 in
theorem oput_any {A : Option Addr} {n c : Nat} {hs : List Oh} {L : OptL} (w : World) (en : Sle opE 2 w A n c hs) (hbd : Bd w hs L) (hn : n ≤ 100000) (hb : ∀ x ∈ hs, x.n ≤ 100000) : Calls Try.prog 21 #[.slice A n c] w fun e w' => ∃ A' n' c', e = .returned (.tuple #[.slice A' n' c', .int .i64 (putL L).2]) ∧ Sl w' A' n' c' (putL L).1 ∧ Below w.heap.size w w' := by
  have hbd2 := fun {W : World} (b : Below w.heap.size w W) => hbd.below b
  have HL := Lib.hid en.1
  have hn0 : (n : Int) ≤ 100000 := by omega
  have HBD := Lib.hid hbd
  have HB := Lib.hid hb
  clear hbd hb
  obtain ⟨ii, hii, hz0, hz1, hz2⟩ := info_parts Try.info_u8
  have bel := Below.refl w.heap.size w
  go_enter Try.func21, Try.ntmps21
  rcases hdb : distinctB L with _ | _
  · have HDB := Lib.hid hdb
    clear hdb
    have HP : Hid (putL L = ([], 1)) := Lib.hid (by unfold putL; rw [if_neg (by rw [HDB.out]; decide)])
    go_wp2_with fail
    with_reducible refine (odist_any _ en (hbd2 bel) hn).mono ?_
    rintro e w1 ⟨rfl, b1⟩
    replace en := en.below b1
    replace bel := bel.trans (b1.mono bel.size)
    clear b1
    rw [HDB.out]
    go_wp2_with fail
    exact bodyPost_ret (v := .tuple #[.slice none 0 0, .int .i64 1]) (by simp [results, Try.results21, go_sem]) rfl ⟨none, 0, 0, by rw [HP.out], by rw [HP.out]; exact Sl.nil _, bel⟩
  have HDB := Lib.hid hdb
  clear hdb
  go_wp2_with fail
  with_reducible refine (odist_any _ en (hbd2 bel) hn).mono ?_
  rintro e w1 ⟨rfl, b1⟩
  replace en := en.below b1
  replace bel := bel.trans (b1.mono bel.size)
  clear b1
  rw [HDB.out]
  go_wp2_with (first | ((with_reducible show wpList _ _ _ (⟨some 11, _, _, _, _, _⟩ :: _) _ _); refine wpList_lit_n rfl 34 5 0 _ rfl #[] (.int .u8 0) Try.underlying34 (by kernel_rfl) 1 (by kernel_rfl) (by decide) (by kernel_rfl) ?_; intro g11 w2 ge lt hh bb; have hl : w2.heap[g11]? = some (.cells (([] : List UInt8).map u8v).toArray 5 (0, 0)) := (by simpa [u8v, byteOf_val] using hh); have ebw := own_lit (B := w1.heap.size) ([]) hl ge 0 rfl (by simp [maxLen]); have eb := (own_sl ebw).1; have eblo := bel.size; clear hl; have ebge := ge; have lz_eb := bb.size; have bl_en_eb := en.bl_new; replace en := en.below bb; replace bel := bel.trans (bb.mono bel.size); clear hh lt ge bb))
  have owlo := eblo
  go_loopg [14, 5, 4] (n) (fun gk s14 s5 s4 wr => ∃ k : Nat, ∃ q : Nat, ∃ rm : Int, ∃ (Aow : Option Addr) (cow : Nat), gk = n - k ∧ k ≤ n ∧ Hid (rm = 1199 - (q : Int)) ∧ 0 ≤ rm ∧ rm ≤ 1199 ∧ s14 = .int .i64 (k : Int) ∧ s5 = .int .i64 rm ∧ s4 = .slice Aow q cow ∧ wr.ownsRow (w1.heap.size) 5 1 (.slice Aow (q) cow) (q) ((allL (L.take k) : List UInt8).map u8v) ∧ w1.heap.size ≤ wr.heap.size ∧ Sle opE 2 wr (A) (n) (c) (hs) ∧ Below w.heap.size w wr)
  case atStart => exact ⟨0, 0, 1199, some ⟨g11, 0, none⟩, 0, Nat.sub_zero _, Nat.zero_le _, Lib.hid rfl, by decide, by decide, rfl, rfl, rfl, ebw, lz_eb, en, bel⟩
  case round =>
    clear en eb bel
    obtain ⟨k, q, rm, Aow, cow, HGK, hkn, HRM, r0, r1, rfl, rfl, rfl, oww, lz_ow, en, bel⟩ := hrel
    have HGK_ := Lib.hid HGK
    clear HGK
    have ow := (own_sl oww).1
    have fr_ow := (own_sl oww).2
    by_cases h : k < n
    rotate_left
    · have HAL : Hid (allL (L.take k) = allL L) := Lib.hid (by rw [List.take_of_length_le (by have h1 := HL.out; have h2 := HBD.out.1; omega)])
      have HQL := Lib.hid (own_len oww)
      have HP : Hid (putL L = (allL L ++ [255], 0)) := Lib.hid (by unfold putL; rw [if_pos HDB.out, if_pos]; rw [← HAL.out, HQL.out]; have h2 := HRM.out; omega)
      obtain rfl : k = n := by omega
      replace h : decide (k < k) = false := decide_eq_false (by omega)
      go_wp2_with (first | ((with_reducible show wpList _ _ _ (⟨some 31, _, _, _, _, _⟩ :: _) _ _); refine wpList_lit_n rfl 34 5 1 _ rfl #[.int .u8 255] (.int .u8 0) Try.underlying34 (by kernel_rfl) 1 (by kernel_rfl) (by decide) (by kernel_rfl) ?_; intro g31 w3 ge lt hh bb; have hl : w3.heap[g31]? = some (.cells (([255] : List UInt8).map u8v).toArray 5 (0, 0)) := (by simpa [u8v, byteOf_val] using hh); have e5w := own_lit (B := wr.heap.size) ([255]) hl ge 1 rfl (by simp [maxLen]); have e5 := (own_sl e5w).1; have e5lo := bel.size; clear hl; have e5ge := ge; have lz_e5 := bb.size; have bl_en_e5 := en.bl_new; have bl_ow_e5 := ow.bl_new; have av_en_b31 := en.av_new ge; have av_ow_b31 := ow.av_new ge; have of_ow_b31 := own_new oww ge; have ob31 := Nat.le_trans bel.size ge; replace en := en.below bb; replace ow := ow.below bb; replace oww := own_under oww bb; replace lz_ow := Nat.le_trans lz_ow bb.size; replace bel := bel.trans (bb.mono bel.size); have hb31 := hh; clear hh lt ge bb) | ((with_reducible show wpList _ _ _ (⟨some 32, _, _, _, _, _⟩ :: _) _ _); refine wpList_append_bg _ rfl (.tmp 30) (.tmp 31) 34 rfl (w1.heap.size) 5 ii (.int .u8 0) Try.underlying34 hii hz0 hz1 hz2 rfl _ (q) (allL (L.take k)) rfl oww (some ⟨g31, 0, none⟩) (1) (1) ([255]) rfl e5 (by have := HRM.out; omega) lz_ow ?_; intro v32 w4 own_ bb gw ofw; have of32_b31 := ofw _ (hlt hb31) of_ow_b31; clear ofw; replace en := en.under bl_en_eb bb; clear e5 e5w lz_e5; replace hb31 := blk_own hb31 gw of_ow_b31; clear gw; replace bel := bel.trans (bb.mono owlo); have lz_rb := Nat.le_trans lz_ow bb.size; clear bb; clear ow oww lz_ow; replace own_ : w4.ownsRow (w1.heap.size) 5 1 v32 (q + 1) ((allL (L.take k) ++ [255] : List UInt8).map u8v) := own_; obtain ⟨A32, c32, rfl⟩ := own_val own_; have rbw := own_; have rb := (own_sl own_).1; have fr_rb := (own_sl own_).2; clear own_; have av_rb_b31 := own_av rbw of32_b31))
      exact bodyPost_ret (v := .tuple #[.slice A32 (q + 1) c32, .int .i64 0]) (by simp [results, Try.results21, go_sem]) rfl ⟨A32, q + 1, c32, by rw [HP.out], by rw [HP.out, ← HAL.out]; exact rb, bel⟩
    obtain ⟨x, hx_⟩ : ∃ x, hs[k]? = some x := ⟨_, List.getElem?_eq_getElem (by have := HL.out; omega)⟩
    obtain ⟨l, hl_, sb_⟩ := HBD.out.at hx_
    have k0 : (0 : Int) ≤ k := by omega
    have k1 : (k : Int) < n := by omega
    have HX := Lib.hid hx_
    have HLI := Lib.hid hl_
    have HSB := Lib.hid sb_
    have HXN := Lib.hid (HB.out _ (List.mem_of_getElem? hx_))
    clear hx_ hl_ sb_
    obtain ⟨gE, oE, hEp⟩ := en.place (by omega)
    subst hEp
    have sb := HSB.out.below bel
    have hbl := HSB.out.bl_new.mono owlo
    have HAL := Lib.hid (all_next (p := (x.c, l)) HLI.out)
    have HQL := Lib.hid (own_len oww)
    have R17 := Lib.hid (Sle.range0 en HX.out 2 [.int .i64 x.c, .slice x.A x.n x.cp] rfl)
    go_wp2_with (first | ((with_reducible show wpList _ _ _ (⟨some 17, _, _, _, _, _⟩ :: _) _ _); refine wpList_load_rng 38 (.tmp 16) rfl (by kernel_rfl) _ _ rfl _ R17.out _ Try.underlying38 rfl (by kernel_rfl) ?_) | ((with_reducible show wpList _ _ _ (⟨some 7, _, _, _, _, _⟩ :: _) _ _); refine wpList_new_a rfl 38 rfl #[.int .i64 0, .slice none 0 0] (by kernel_rfl) ?_; intro g7 w3 ge hh bb; have av_en_ob := en.av_new ge; have av_ow_ob := ow.av_new ge; have of_ow_ob := own_new oww ge; have av_sb_ob := sb.av_new ge; have oob := Nat.le_trans bel.size ge; replace en := en.below bb; replace ow := ow.below bb; replace oww := own_under oww bb; replace sb := sb.below bb; replace lz_ow := Nat.le_trans lz_ow bb.size; replace bel := bel.trans (bb.mono bel.size); have hob := hh; clear hh ge bb) | ((with_reducible show wpList _ _ _ (⟨none, Op.store _ (.tmp 7) _, _, _, _, _⟩ :: _) _ _); refine wpList_store_blk rfl 38 (.tmp 7) (.tmp 17) rfl g7 rfl _ rfl _ 38 hob (by rfl) (by kernel_rfl) (by kernel_rfl) ?_; intro w4 hq gr; replace en := en.away av_en_ob gr; replace ow := ow.away av_ow_ob gr; replace oww := own_off oww of_ow_ob gr; replace sb := sb.away av_sb_ob gr; replace lz_ow := Nat.le_trans lz_ow gr.size; replace bel := below_grown bel gr oob bel.size; clear hob; have hob := hq; clear hq gr; have R20 := cell_lit hob 1 _ rfl))
    try clear R17
    try clear R20
    with_reducible refine (osize_any x.n _ (by have := HXN.out; omega)).mono ?_
    rintro e _ ⟨rfl, rfl⟩
    obtain ⟨z, hz⟩ : ∃ z, sizeN x.n = z := ⟨_, rfl⟩
    rw [hz]
    have HZ := Lib.hid hz
    have z0 : (0 : Int) ≤ z := by omega
    have z1 : (z : Int) ≤ 1000000 := by have h1 := HXN.out; unfold sizeN at hz; omega
    clear hz
    by_cases hr : rm - z < 0
    · have HP : Hid (putL L = ([], 2)) := Lib.hid (by unfold putL; rw [if_pos HDB.out, if_neg]; have h1 := all_take L (k + 1); rw [HAL.out, List.length_append, HQL.out, pieces_len x.n _ _ HSB.out.1, HZ.out] at h1; have h2 := HRM.out; omega)
      go_wp2_with fail
      exact bodyPost_ret (v := .tuple #[.slice none 0 0, .int .i64 2]) (by simp [results, Try.results21, go_sem]) rfl ⟨none, 0, 0, by rw [HP.out], by rw [HP.out]; exact Sl.nil _, bel⟩
    have hr0 : 0 ≤ rm - z := by omega
    replace hr : decide (rm - z < 0) = false := decide_eq_false hr
    have R27 := Lib.hid (range_lit hob 0 2 [.int .i64 x.c, .slice x.A x.n x.cp] rfl)
    go_wp2_with (first | ((with_reducible show wpList _ _ _ (⟨some 27, _, _, _, _, _⟩ :: _) _ _); refine wpList_load_rng 38 (.tmp 7) rfl (by kernel_rfl) _ _ rfl _ R27.out _ Try.underlying38 rfl (by kernel_rfl) ?_))
    try clear R27
    have HLZ_ := lz_ow
    with_reducible refine (owrite_any (k := x.c) _ HLZ_ oww sb hbl (by have h1 := HXN.out; have h2 := HRM.out; omega)).mono ?_
    rintro e w5 ⟨A28, c28, rfl, own_, k_, bb⟩
    replace hob := Kt.blk k_ hob (by decide)
    replace en := en.under bl_en_eb bb
    replace sb := sb.under hbl bb
    replace bel := bel.trans (bb.mono owlo)
    have lz2_ := Nat.le_trans lz_ow bb.size
    clear ow oww lz_ow bb k_
    have oww := own_
    have ow := (own_sl own_).1
    have lz_ow := lz2_
    clear own_ lz2_
    have of_ow_ob := ofs_type oww hob (by decide)
    have av_ow_ob := own_av oww of_ow_ob
    clear HLZ_
    go_wp2_with fail
    go_roundg (n - (k + 1))
    case measure => have := HGK_.out; omega
    case rel => exact ⟨k + 1, q + sizeN x.n, rm - z, A28, c28, rfl, by omega, Lib.hid (by have h1 := HRM.out; have h2 := HZ.out; omega), hr0, by omega, by go_num, by go_num, rfl, (by rw [HAL.out]; exact oww), lz_ow, en, bel⟩
end Go.Proofs.Ytmljgpefbbifmaa
