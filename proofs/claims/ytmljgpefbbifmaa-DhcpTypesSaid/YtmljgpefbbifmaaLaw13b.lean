/- DhcpTypes. -/
import Derived.Test.YtmljgpefbbifmaaDh8
namespace Go.Proofs.Ytmljgpefbbifmaa
open Go.RowKit

abbrev hT : Mh := ⟨2, 0, 0, 0, 0, 0, 0, 0, 0, 0, 0, 0, 0, 0, 0, 0, 0, 0, 0, 0, 0, 0, 0, 0, 0, 0, 0⟩
theorem ty_one {x : UInt8} (h : x.toNat ≤ 8) : typeL [(53, [x])] = x.toNat := if_pos h
theorem ty_big {x : UInt8} (h : ¬ x.toNat ≤ 8) : typeL [(53, [x])] = 0 := if_neg h
theorem ty_len {l : List UInt8} (h : ¬ l.length = 1) : typeL [(53, l)] = 0 := type_not h
theorem tput_ok {x : UInt8} (h : x.toNat ≤ 8) (h0 : ¬ x.toNat = 0) : (dPut hT [(53, [x])]).2 = 0 ∧ (dPut hT [(53, [x])]).1.length = 300 := by
  rw [dput_ok rfl (by rw [ty_one h]; exact h0) (by rw [put_one])]
  refine ⟨rfl, ?_⟩
  simp only [List.length_append, head_len, List.length_replicate, put_one, List.length_cons, List.length_nil]
theorem tput_y {A : Option Addr} {n c : Nat} {hs : List Oh} {x : UInt8} (w : World) (en : Sle opE 2 w A n c hs) (hbd : Bd w hs [(53, [x])]) (hn : n ≤ 100000) (hb : ∀ x ∈ hs, x.n ≤ 100000) (h : x.toNat ≤ 8) (h0 : ¬ x.toNat = 0) : Calls Try.prog 9 #[.agg #[.int .i64 2, .int .i64 0, .int .u32 0, .int .i64 0, .int .i64 0, .int .u8 0, .int .u8 0, .int .u8 0, .int .u8 0, .int .u8 0, .int .u8 0, .int .u8 0, .int .u8 0, .int .u8 0, .int .u8 0, .int .u8 0, .int .u8 0, .int .u8 0, .int .u8 0, .int .u8 0, .int .u8 0, .int .u8 0, .int .u8 0, .int .u8 0, .int .u8 0, .int .u8 0, .int .u8 0, .slice A n c]] w fun e w' => ∃ A' c', e = .returned (.tuple #[.slice A' 300 c', .int .i64 0]) ∧ Below w.heap.size w w' := by
  refine Calls.mono (show Calls Try.prog 9 #[.agg #[.int .i64 2, .int .i64 0, .int .u32 0, .int .i64 0, .int .i64 0, .int .u8 0, .int .u8 0, .int .u8 0, .int .u8 0, .int .u8 0, .int .u8 0, .int .u8 0, .int .u8 0, .int .u8 0, .int .u8 0, .int .u8 0, .int .u8 0, .int .u8 0, .int .u8 0, .int .u8 0, .int .u8 0, .int .u8 0, .int .u8 0, .int .u8 0, .int .u8 0, .int .u8 0, .int .u8 0, .slice A n c]] w _ from dput_any (h := hT) w en hbd hn hb (by decide) (by decide)) ?_
  rintro e w' ⟨A', n', c', rfl, pb, bel⟩
  obtain rfl : n' = 300 := pb.1.symm.trans (tput_ok h h0).2
  exact ⟨A', c', by rw [(tput_ok h h0).1], bel⟩
theorem tput_n {A : Option Addr} {n c : Nat} {hs : List Oh} {L : OptL} (w : World) (en : Sle opE 2 w A n c hs) (hbd : Bd w hs L) (hn : n ≤ 100000) (hb : ∀ x ∈ hs, x.n ≤ 100000) (h : typeL L = 0) : Calls Try.prog 9 #[.agg #[.int .i64 2, .int .i64 0, .int .u32 0, .int .i64 0, .int .i64 0, .int .u8 0, .int .u8 0, .int .u8 0, .int .u8 0, .int .u8 0, .int .u8 0, .int .u8 0, .int .u8 0, .int .u8 0, .int .u8 0, .int .u8 0, .int .u8 0, .int .u8 0, .int .u8 0, .int .u8 0, .int .u8 0, .int .u8 0, .int .u8 0, .int .u8 0, .int .u8 0, .int .u8 0, .int .u8 0, .slice A n c]] w fun e w' => ∃ A' c', e = .returned (.tuple #[.slice A' 0 c', .int .i64 1]) ∧ Below w.heap.size w w' := by
  refine Calls.mono (show Calls Try.prog 9 #[.agg #[.int .i64 2, .int .i64 0, .int .u32 0, .int .i64 0, .int .i64 0, .int .u8 0, .int .u8 0, .int .u8 0, .int .u8 0, .int .u8 0, .int .u8 0, .int .u8 0, .int .u8 0, .int .u8 0, .int .u8 0, .int .u8 0, .int .u8 0, .int .u8 0, .int .u8 0, .int .u8 0, .int .u8 0, .int .u8 0, .int .u8 0, .int .u8 0, .int .u8 0, .int .u8 0, .int .u8 0, .slice A n c]] w _ from dput_any (h := hT) w en hbd hn hb (by decide) (by decide)) ?_
  rintro e w' ⟨A', n', c', rfl, pb, bel⟩
  rw [dput_bad (.inr h)] at pb ⊢
  obtain rfl : n' = 0 := pb.1.symm
  exact ⟨A', c', rfl, bel⟩
theorem ttype_y {A : Option Addr} {n c : Nat} {hs : List Oh} {x : UInt8} (w : World) (en : Sle opE 2 w A n c hs) (hbd : Bd w hs [(53, [x])]) (hn : n ≤ 100000) (hb : ∀ x ∈ hs, x.n ≤ 100000) (h : x.toNat ≤ 8) : Calls Try.prog 10 #[.agg #[.int .i64 2, .int .i64 0, .int .u32 0, .int .i64 0, .int .i64 0, .int .u8 0, .int .u8 0, .int .u8 0, .int .u8 0, .int .u8 0, .int .u8 0, .int .u8 0, .int .u8 0, .int .u8 0, .int .u8 0, .int .u8 0, .int .u8 0, .int .u8 0, .int .u8 0, .int .u8 0, .int .u8 0, .int .u8 0, .int .u8 0, .int .u8 0, .int .u8 0, .int .u8 0, .int .u8 0, .slice A n c]] w fun e w' => e = .returned (.int .i64 (x.toNat : Int)) ∧ Below w.heap.size w w' := by
  refine Calls.mono (show Calls Try.prog 10 #[.agg #[.int .i64 2, .int .i64 0, .int .u32 0, .int .i64 0, .int .i64 0, .int .u8 0, .int .u8 0, .int .u8 0, .int .u8 0, .int .u8 0, .int .u8 0, .int .u8 0, .int .u8 0, .int .u8 0, .int .u8 0, .int .u8 0, .int .u8 0, .int .u8 0, .int .u8 0, .int .u8 0, .int .u8 0, .int .u8 0, .int .u8 0, .int .u8 0, .int .u8 0, .int .u8 0, .int .u8 0, .slice A n c]] w _ from dtype_any (h := hT) w en hbd hn hb) ?_
  rintro e w' ⟨rfl, bel⟩
  exact ⟨by rw [ty_one h], bel⟩
theorem ttype_n {A : Option Addr} {n c : Nat} {hs : List Oh} {L : OptL} (w : World) (en : Sle opE 2 w A n c hs) (hbd : Bd w hs L) (hn : n ≤ 100000) (hb : ∀ x ∈ hs, x.n ≤ 100000) (h : typeL L = 0) : Calls Try.prog 10 #[.agg #[.int .i64 2, .int .i64 0, .int .u32 0, .int .i64 0, .int .i64 0, .int .u8 0, .int .u8 0, .int .u8 0, .int .u8 0, .int .u8 0, .int .u8 0, .int .u8 0, .int .u8 0, .int .u8 0, .int .u8 0, .int .u8 0, .int .u8 0, .int .u8 0, .int .u8 0, .int .u8 0, .int .u8 0, .int .u8 0, .int .u8 0, .int .u8 0, .int .u8 0, .int .u8 0, .int .u8 0, .slice A n c]] w fun e w' => e = .returned (.int .i64 0) ∧ Below w.heap.size w w' := by
  refine Calls.mono (show Calls Try.prog 10 #[.agg #[.int .i64 2, .int .i64 0, .int .u32 0, .int .i64 0, .int .i64 0, .int .u8 0, .int .u8 0, .int .u8 0, .int .u8 0, .int .u8 0, .int .u8 0, .int .u8 0, .int .u8 0, .int .u8 0, .int .u8 0, .int .u8 0, .int .u8 0, .int .u8 0, .int .u8 0, .int .u8 0, .int .u8 0, .int .u8 0, .int .u8 0, .int .u8 0, .int .u8 0, .int .u8 0, .int .u8 0, .slice A n c]] w _ from dtype_any (h := hT) w en hbd hn hb) ?_
  rintro e w' ⟨rfl, bel⟩
  exact ⟨by rw [h]; rfl, bel⟩
set_option linter.unusedVariables false in
set_option linter.unusedSimpArgs false in
set_option maxRecDepth 100000 in
set_option maxHeartbeats 16000000 in
theorem dhcpTypes_walk (A : Option Addr) (n c : Nat) (l : List UInt8) (w : World) (bs : Sl w A n c l) : Calls Try.prog 6 #[.slice A n c] w fun e w' => e = .returned (.bool true) ∧ Below w.heap.size w w' := by
  have bel := Below.refl w.heap.size w
  go_enter Try.func6, Try.ntmps6
  go_wp2_with fail
  with_reducible refine (awake13_any _).mono ?_
  rintro e w1 ⟨rfl, b1⟩
  replace bs := bs.below b1
  replace bel := bel.trans (b1.mono bel.size)
  clear b1
  by_cases h20 : 20 < n
  · have h20i : (20 : Int) < n := by omega
    go_wp2_with fail
    go_ret
    exact ⟨rfl, bel⟩
  have h20i : decide ((20 : Int) < n) = false := decide_eq_false (by omega)
  by_cases h1 : n = 1
  rotate_left
  · have HT : Hid (typeL [(53, l)] = 0) := Lib.hid (ty_len (by rw [bs.1]; exact h1))
    have e1 : ((n : Int) == 1) = false := beq_eq_false_iff_ne.2 (by omega)
    clear h1
    go_wp2_with (first | ((with_reducible show wpList _ _ _ (⟨some 14, _, _, _, _, _⟩ :: _) _ _); refine wpList_lit_n rfl 28 38 1 _ rfl #[.int .i64 53, .slice A n c] (.agg #[.int .i64 0, .slice none 0 0]) Try.underlying28 (by kernel_rfl) 2 (by kernel_rfl) (by decide) (by kernel_rfl) ?_; intro g14 w2 ge lt hh bb; have av_bs_b14 := bs.av_new ge; have ob14 := Nat.le_trans bel.size ge; replace bs := bs.below bb; replace bel := bel.trans (bb.mono bel.size); have hb14 := hh; clear hh lt ge bb; have en : Sle opE 2 w2 (some ⟨g14, 0, none⟩) (1) (1) ([⟨53, A, n, c⟩]) := sle_lit ([⟨53, A, n, c⟩]) (by decide) opE_len hb14 rfl (by simp [maxLen])) | ((with_reducible show wpList _ _ _ (⟨some 3, _, _, _, _, _⟩ :: _) _ _); refine wpList_new_a rfl 30 rfl #[.int .i64 0, .int .i64 0, .int .u32 0, .int .i64 0, .int .i64 0, .int .u8 0, .int .u8 0, .int .u8 0, .int .u8 0, .int .u8 0, .int .u8 0, .int .u8 0, .int .u8 0, .int .u8 0, .int .u8 0, .int .u8 0, .int .u8 0, .int .u8 0, .int .u8 0, .int .u8 0, .int .u8 0, .int .u8 0, .int .u8 0, .int .u8 0, .int .u8 0, .int .u8 0, .int .u8 0, .slice none 0 0] (by kernel_rfl) ?_; intro g3 w3 ge hh bb; have d_b14_m := ne_new (hlt hb14) ge; have av_bs_m := bs.av_new ge; have av_en_m := en.av_new ge; have om := Nat.le_trans bel.size ge; replace hb14 := blk_u hb14 bb; replace bs := bs.below bb; replace en := en.below bb; replace bel := bel.trans (bb.mono bel.size); have hm := hh; clear hh ge bb) | ((with_reducible show wpList _ _ _ (⟨none, Op.store _ (.tmp 3) _, _, _, _, _⟩ :: _) _ _); refine wpList_store_blk rfl 30 (.tmp 3) (.tmp 15) rfl g3 rfl _ rfl _ 30 hm (by rfl) (by kernel_rfl) (by kernel_rfl) ?_; intro w4 hq gr; replace bs := bs.away av_bs_m gr; replace en := en.away av_en_m gr; replace hb14 := blk_a hb14 gr d_b14_m; replace bel := below_grown bel gr om bel.size; clear hm; have hm := hq; clear hq gr; have R36 := Lib.hid (range_lit hm 0 28 [.int .i64 2, .int .i64 0, .int .u32 0, .int .i64 0, .int .i64 0, .int .u8 0, .int .u8 0, .int .u8 0, .int .u8 0, .int .u8 0, .int .u8 0, .int .u8 0, .int .u8 0, .int .u8 0, .int .u8 0, .int .u8 0, .int .u8 0, .int .u8 0, .int .u8 0, .int .u8 0, .int .u8 0, .int .u8 0, .int .u8 0, .int .u8 0, .int .u8 0, .int .u8 0, .int .u8 0, .slice (some ⟨g14, 0, none⟩) 1 1] rfl)) | ((with_reducible show wpList _ _ _ (⟨some 36, _, _, _, _, _⟩ :: _) _ _); refine wpList_load_rng 30 (.tmp 3) rfl (by kernel_rfl) _ _ rfl _ R36.out _ Try.underlying30 rfl (by kernel_rfl) ?_))
    try clear R36
    with_reducible refine (tput_n _ en (Bd.mk1 53 bs) (by decide) (hb1 (by omega)) HT.out).mono ?_
    rintro e w5 ⟨A5, c5, rfl, b5⟩
    replace hb14 := blk_u hb14 b5
    replace hm := blk_u hm b5
    replace bs := bs.below b5
    replace en := en.below b5
    replace bel := bel.trans (b5.mono bel.size)
    clear b5
    have R40 := Lib.hid (range_lit hm 0 28 [.int .i64 2, .int .i64 0, .int .u32 0, .int .i64 0, .int .i64 0, .int .u8 0, .int .u8 0, .int .u8 0, .int .u8 0, .int .u8 0, .int .u8 0, .int .u8 0, .int .u8 0, .int .u8 0, .int .u8 0, .int .u8 0, .int .u8 0, .int .u8 0, .int .u8 0, .int .u8 0, .int .u8 0, .int .u8 0, .int .u8 0, .int .u8 0, .int .u8 0, .int .u8 0, .int .u8 0, .slice (some ⟨g14, 0, none⟩) 1 1] rfl)
    go_wp2_with (first | ((with_reducible show wpList _ _ _ (⟨some 40, _, _, _, _, _⟩ :: _) _ _); refine wpList_load_rng 30 (.tmp 3) rfl (by kernel_rfl) _ _ rfl _ R40.out _ Try.underlying30 rfl (by kernel_rfl) ?_))
    try clear R40
    with_reducible refine (ttype_n _ en (Bd.mk1 53 bs) (by decide) (hb1 (by omega)) HT.out).mono ?_
    rintro e w6 ⟨rfl, b6⟩
    replace hb14 := blk_u hb14 b6
    replace hm := blk_u hm b6
    replace bs := bs.below b6
    replace en := en.below b6
    replace bel := bel.trans (b6.mono bel.size)
    clear b6
    go_wp2_with fail
    go_ret
    exact ⟨rfl, bel⟩
  obtain ⟨x, rfl⟩ : ∃ x, l = [x] := by
    have h2 := bs.1.trans h1
    match l, h2 with
    | [x], _ => exact ⟨x, rfl⟩
  subst h1
  obtain ⟨g2, o2, rfl⟩ := Sl.spot bs (by omega)
  have n01 : (0 : Int) < ((1 : Nat) : Int) := by omega
  have b0 : (0 : Int) ≤ x.toNat := by omega
  have b1 : (x.toNat : Int) < 256 := by have := x.toNat_lt; omega
  by_cases x0 : x.toNat = 0
  · have HT : Hid (typeL [(53, [x])] = 0) := Lib.hid ((ty_one (by omega)).trans x0)
    have z0 : decide ((1 : Int) ≤ x.toNat) = false := decide_eq_false (by omega)
    clear x0
    go_wp2_with (first | ((with_reducible show wpList _ _ _ (⟨some 14, _, _, _, _, _⟩ :: _) _ _); refine wpList_lit_n rfl 28 38 1 _ rfl #[.int .i64 53, .slice (some ⟨g2, o2, none⟩) 1 c] (.agg #[.int .i64 0, .slice none 0 0]) Try.underlying28 (by kernel_rfl) 2 (by kernel_rfl) (by decide) (by kernel_rfl) ?_; intro g14 w2 ge lt hh bb; have av_bs_b14 := bs.av_new ge; have ob14 := Nat.le_trans bel.size ge; replace bs := bs.below bb; replace bel := bel.trans (bb.mono bel.size); have hb14 := hh; clear hh lt ge bb; have en : Sle opE 2 w2 (some ⟨g14, 0, none⟩) (1) (1) ([⟨53, some ⟨g2, o2, none⟩, 1, c⟩]) := sle_lit ([⟨53, some ⟨g2, o2, none⟩, 1, c⟩]) (by decide) opE_len hb14 rfl (by simp [maxLen])) | ((with_reducible show wpList _ _ _ (⟨some 3, _, _, _, _, _⟩ :: _) _ _); refine wpList_new_a rfl 30 rfl #[.int .i64 0, .int .i64 0, .int .u32 0, .int .i64 0, .int .i64 0, .int .u8 0, .int .u8 0, .int .u8 0, .int .u8 0, .int .u8 0, .int .u8 0, .int .u8 0, .int .u8 0, .int .u8 0, .int .u8 0, .int .u8 0, .int .u8 0, .int .u8 0, .int .u8 0, .int .u8 0, .int .u8 0, .int .u8 0, .int .u8 0, .int .u8 0, .int .u8 0, .int .u8 0, .int .u8 0, .slice none 0 0] (by kernel_rfl) ?_; intro g3 w3 ge hh bb; have d_b14_m := ne_new (hlt hb14) ge; have av_bs_m := bs.av_new ge; have av_en_m := en.av_new ge; have om := Nat.le_trans bel.size ge; replace hb14 := blk_u hb14 bb; replace bs := bs.below bb; replace en := en.below bb; replace bel := bel.trans (bb.mono bel.size); have hm := hh; clear hh ge bb) | ((with_reducible show wpList _ _ _ (⟨none, Op.store _ (.tmp 3) _, _, _, _, _⟩ :: _) _ _); refine wpList_store_blk rfl 30 (.tmp 3) (.tmp 15) rfl g3 rfl _ rfl _ 30 hm (by rfl) (by kernel_rfl) (by kernel_rfl) ?_; intro w4 hq gr; replace bs := bs.away av_bs_m gr; replace en := en.away av_en_m gr; replace hb14 := blk_a hb14 gr d_b14_m; replace bel := below_grown bel gr om bel.size; clear hm; have hm := hq; clear hq gr; have R22 := (by have h_ := sl_at bs (j := 0) rfl; rw [Nat.add_zero] at h_; exact h_); have R36 := Lib.hid (range_lit hm 0 28 [.int .i64 2, .int .i64 0, .int .u32 0, .int .i64 0, .int .i64 0, .int .u8 0, .int .u8 0, .int .u8 0, .int .u8 0, .int .u8 0, .int .u8 0, .int .u8 0, .int .u8 0, .int .u8 0, .int .u8 0, .int .u8 0, .int .u8 0, .int .u8 0, .int .u8 0, .int .u8 0, .int .u8 0, .int .u8 0, .int .u8 0, .int .u8 0, .int .u8 0, .int .u8 0, .int .u8 0, .slice (some ⟨g14, 0, none⟩) 1 1] rfl)) | ((with_reducible show wpList _ _ _ (⟨some 36, _, _, _, _, _⟩ :: _) _ _); refine wpList_load_rng 30 (.tmp 3) rfl (by kernel_rfl) _ _ rfl _ R36.out _ Try.underlying30 rfl (by kernel_rfl) ?_))
    try clear R22
    try clear R36
    with_reducible refine (tput_n _ en (Bd.mk1 53 bs) (by decide) (hb1 (by omega)) HT.out).mono ?_
    rintro e w5 ⟨A5, c5, rfl, b5⟩
    replace hb14 := blk_u hb14 b5
    replace hm := blk_u hm b5
    replace bs := bs.below b5
    replace en := en.below b5
    replace bel := bel.trans (b5.mono bel.size)
    clear b5
    have R40 := Lib.hid (range_lit hm 0 28 [.int .i64 2, .int .i64 0, .int .u32 0, .int .i64 0, .int .i64 0, .int .u8 0, .int .u8 0, .int .u8 0, .int .u8 0, .int .u8 0, .int .u8 0, .int .u8 0, .int .u8 0, .int .u8 0, .int .u8 0, .int .u8 0, .int .u8 0, .int .u8 0, .int .u8 0, .int .u8 0, .int .u8 0, .int .u8 0, .int .u8 0, .int .u8 0, .int .u8 0, .int .u8 0, .int .u8 0, .slice (some ⟨g14, 0, none⟩) 1 1] rfl)
    go_wp2_with (first | ((with_reducible show wpList _ _ _ (⟨some 40, _, _, _, _, _⟩ :: _) _ _); refine wpList_load_rng 30 (.tmp 3) rfl (by kernel_rfl) _ _ rfl _ R40.out _ Try.underlying30 rfl (by kernel_rfl) ?_))
    try clear R40
    with_reducible refine (ttype_n _ en (Bd.mk1 53 bs) (by decide) (hb1 (by omega)) HT.out).mono ?_
    rintro e w6 ⟨rfl, b6⟩
    replace hb14 := blk_u hb14 b6
    replace hm := blk_u hm b6
    replace bs := bs.below b6
    replace en := en.below b6
    replace bel := bel.trans (b6.mono bel.size)
    clear b6
    go_wp2_with fail
    go_ret
    exact ⟨rfl, bel⟩
  have HX0 := Lib.hid x0
  have z0 : (1 : Int) ≤ x.toNat := by omega
  have z1 : (0 : Int) < x.toNat := by omega
  clear x0
  by_cases x8 : x.toNat ≤ 8
  rotate_left
  · have HT : Hid (typeL [(53, [x])] = 0) := Lib.hid (ty_big x8)
    have z8 : decide ((x.toNat : Int) ≤ 8) = false := decide_eq_false (by omega)
    clear x8
    go_wp2_with (first | ((with_reducible show wpList _ _ _ (⟨some 14, _, _, _, _, _⟩ :: _) _ _); refine wpList_lit_n rfl 28 38 1 _ rfl #[.int .i64 53, .slice (some ⟨g2, o2, none⟩) 1 c] (.agg #[.int .i64 0, .slice none 0 0]) Try.underlying28 (by kernel_rfl) 2 (by kernel_rfl) (by decide) (by kernel_rfl) ?_; intro g14 w2 ge lt hh bb; have av_bs_b14 := bs.av_new ge; have ob14 := Nat.le_trans bel.size ge; replace bs := bs.below bb; replace bel := bel.trans (bb.mono bel.size); have hb14 := hh; clear hh lt ge bb; have en : Sle opE 2 w2 (some ⟨g14, 0, none⟩) (1) (1) ([⟨53, some ⟨g2, o2, none⟩, 1, c⟩]) := sle_lit ([⟨53, some ⟨g2, o2, none⟩, 1, c⟩]) (by decide) opE_len hb14 rfl (by simp [maxLen])) | ((with_reducible show wpList _ _ _ (⟨some 3, _, _, _, _, _⟩ :: _) _ _); refine wpList_new_a rfl 30 rfl #[.int .i64 0, .int .i64 0, .int .u32 0, .int .i64 0, .int .i64 0, .int .u8 0, .int .u8 0, .int .u8 0, .int .u8 0, .int .u8 0, .int .u8 0, .int .u8 0, .int .u8 0, .int .u8 0, .int .u8 0, .int .u8 0, .int .u8 0, .int .u8 0, .int .u8 0, .int .u8 0, .int .u8 0, .int .u8 0, .int .u8 0, .int .u8 0, .int .u8 0, .int .u8 0, .int .u8 0, .slice none 0 0] (by kernel_rfl) ?_; intro g3 w3 ge hh bb; have d_b14_m := ne_new (hlt hb14) ge; have av_bs_m := bs.av_new ge; have av_en_m := en.av_new ge; have om := Nat.le_trans bel.size ge; replace hb14 := blk_u hb14 bb; replace bs := bs.below bb; replace en := en.below bb; replace bel := bel.trans (bb.mono bel.size); have hm := hh; clear hh ge bb) | ((with_reducible show wpList _ _ _ (⟨none, Op.store _ (.tmp 3) _, _, _, _, _⟩ :: _) _ _); refine wpList_store_blk rfl 30 (.tmp 3) (.tmp 15) rfl g3 rfl _ rfl _ 30 hm (by rfl) (by kernel_rfl) (by kernel_rfl) ?_; intro w4 hq gr; replace bs := bs.away av_bs_m gr; replace en := en.away av_en_m gr; replace hb14 := blk_a hb14 gr d_b14_m; replace bel := below_grown bel gr om bel.size; clear hm; have hm := hq; clear hq gr; have R22 := (by have h_ := sl_at bs (j := 0) rfl; rw [Nat.add_zero] at h_; exact h_); have R28 := (by have h_ := sl_at bs (j := 0) rfl; rw [Nat.add_zero] at h_; exact h_); have R36 := Lib.hid (range_lit hm 0 28 [.int .i64 2, .int .i64 0, .int .u32 0, .int .i64 0, .int .i64 0, .int .u8 0, .int .u8 0, .int .u8 0, .int .u8 0, .int .u8 0, .int .u8 0, .int .u8 0, .int .u8 0, .int .u8 0, .int .u8 0, .int .u8 0, .int .u8 0, .int .u8 0, .int .u8 0, .int .u8 0, .int .u8 0, .int .u8 0, .int .u8 0, .int .u8 0, .int .u8 0, .int .u8 0, .int .u8 0, .slice (some ⟨g14, 0, none⟩) 1 1] rfl)) | ((with_reducible show wpList _ _ _ (⟨some 36, _, _, _, _, _⟩ :: _) _ _); refine wpList_load_rng 30 (.tmp 3) rfl (by kernel_rfl) _ _ rfl _ R36.out _ Try.underlying30 rfl (by kernel_rfl) ?_))
    try clear R22
    try clear R28
    try clear R36
    with_reducible refine (tput_n _ en (Bd.mk1 53 bs) (by decide) (hb1 (by omega)) HT.out).mono ?_
    rintro e w5 ⟨A5, c5, rfl, b5⟩
    replace hb14 := blk_u hb14 b5
    replace hm := blk_u hm b5
    replace bs := bs.below b5
    replace en := en.below b5
    replace bel := bel.trans (b5.mono bel.size)
    clear b5
    have R40 := Lib.hid (range_lit hm 0 28 [.int .i64 2, .int .i64 0, .int .u32 0, .int .i64 0, .int .i64 0, .int .u8 0, .int .u8 0, .int .u8 0, .int .u8 0, .int .u8 0, .int .u8 0, .int .u8 0, .int .u8 0, .int .u8 0, .int .u8 0, .int .u8 0, .int .u8 0, .int .u8 0, .int .u8 0, .int .u8 0, .int .u8 0, .int .u8 0, .int .u8 0, .int .u8 0, .int .u8 0, .int .u8 0, .int .u8 0, .slice (some ⟨g14, 0, none⟩) 1 1] rfl)
    go_wp2_with (first | ((with_reducible show wpList _ _ _ (⟨some 40, _, _, _, _, _⟩ :: _) _ _); refine wpList_load_rng 30 (.tmp 3) rfl (by kernel_rfl) _ _ rfl _ R40.out _ Try.underlying30 rfl (by kernel_rfl) ?_))
    try clear R40
    with_reducible refine (ttype_n _ en (Bd.mk1 53 bs) (by decide) (hb1 (by omega)) HT.out).mono ?_
    rintro e w6 ⟨rfl, b6⟩
    replace hb14 := blk_u hb14 b6
    replace hm := blk_u hm b6
    replace bs := bs.below b6
    replace en := en.below b6
    replace bel := bel.trans (b6.mono bel.size)
    clear b6
    go_wp2_with fail
    go_ret
    exact ⟨rfl, bel⟩
  have HX8 := Lib.hid x8
  have z8 : (x.toNat : Int) ≤ 8 := by omega
  have exx : ((x.toNat : Int) == (x.toNat : Int)) = true := beq_self_eq_true _
  clear x8
  go_wp2_with (first | ((with_reducible show wpList _ _ _ (⟨some 14, _, _, _, _, _⟩ :: _) _ _); refine wpList_lit_n rfl 28 38 1 _ rfl #[.int .i64 53, .slice (some ⟨g2, o2, none⟩) 1 c] (.agg #[.int .i64 0, .slice none 0 0]) Try.underlying28 (by kernel_rfl) 2 (by kernel_rfl) (by decide) (by kernel_rfl) ?_; intro g14 w2 ge lt hh bb; have av_bs_b14 := bs.av_new ge; have ob14 := Nat.le_trans bel.size ge; replace bs := bs.below bb; replace bel := bel.trans (bb.mono bel.size); have hb14 := hh; clear hh lt ge bb; have en : Sle opE 2 w2 (some ⟨g14, 0, none⟩) (1) (1) ([⟨53, some ⟨g2, o2, none⟩, 1, c⟩]) := sle_lit ([⟨53, some ⟨g2, o2, none⟩, 1, c⟩]) (by decide) opE_len hb14 rfl (by simp [maxLen])) | ((with_reducible show wpList _ _ _ (⟨some 3, _, _, _, _, _⟩ :: _) _ _); refine wpList_new_a rfl 30 rfl #[.int .i64 0, .int .i64 0, .int .u32 0, .int .i64 0, .int .i64 0, .int .u8 0, .int .u8 0, .int .u8 0, .int .u8 0, .int .u8 0, .int .u8 0, .int .u8 0, .int .u8 0, .int .u8 0, .int .u8 0, .int .u8 0, .int .u8 0, .int .u8 0, .int .u8 0, .int .u8 0, .int .u8 0, .int .u8 0, .int .u8 0, .int .u8 0, .int .u8 0, .int .u8 0, .int .u8 0, .slice none 0 0] (by kernel_rfl) ?_; intro g3 w3 ge hh bb; have d_b14_m := ne_new (hlt hb14) ge; have av_bs_m := bs.av_new ge; have av_en_m := en.av_new ge; have om := Nat.le_trans bel.size ge; replace hb14 := blk_u hb14 bb; replace bs := bs.below bb; replace en := en.below bb; replace bel := bel.trans (bb.mono bel.size); have hm := hh; clear hh ge bb) | ((with_reducible show wpList _ _ _ (⟨none, Op.store _ (.tmp 3) _, _, _, _, _⟩ :: _) _ _); refine wpList_store_blk rfl 30 (.tmp 3) (.tmp 15) rfl g3 rfl _ rfl _ 30 hm (by rfl) (by kernel_rfl) (by kernel_rfl) ?_; intro w4 hq gr; replace bs := bs.away av_bs_m gr; replace en := en.away av_en_m gr; replace hb14 := blk_a hb14 gr d_b14_m; replace bel := below_grown bel gr om bel.size; clear hm; have hm := hq; clear hq gr; have R22 := (by have h_ := sl_at bs (j := 0) rfl; rw [Nat.add_zero] at h_; exact h_); have R28 := (by have h_ := sl_at bs (j := 0) rfl; rw [Nat.add_zero] at h_; exact h_); have R33 := (by have h_ := sl_at bs (j := 0) rfl; rw [Nat.add_zero] at h_; exact h_); have R36 := Lib.hid (range_lit hm 0 28 [.int .i64 2, .int .i64 0, .int .u32 0, .int .i64 0, .int .i64 0, .int .u8 0, .int .u8 0, .int .u8 0, .int .u8 0, .int .u8 0, .int .u8 0, .int .u8 0, .int .u8 0, .int .u8 0, .int .u8 0, .int .u8 0, .int .u8 0, .int .u8 0, .int .u8 0, .int .u8 0, .int .u8 0, .int .u8 0, .int .u8 0, .int .u8 0, .int .u8 0, .int .u8 0, .int .u8 0, .slice (some ⟨g14, 0, none⟩) 1 1] rfl)) | ((with_reducible show wpList _ _ _ (⟨some 36, _, _, _, _, _⟩ :: _) _ _); refine wpList_load_rng 30 (.tmp 3) rfl (by kernel_rfl) _ _ rfl _ R36.out _ Try.underlying30 rfl (by kernel_rfl) ?_))
  try clear R22
  try clear R28
  try clear R33
  try clear R36
  with_reducible refine (tput_y _ en (Bd.mk1 53 bs) (by decide) (hb1 (by omega)) HX8.out HX0.out).mono ?_
  rintro e w5 ⟨A5, c5, rfl, b5⟩
  replace hb14 := blk_u hb14 b5
  replace hm := blk_u hm b5
  replace bs := bs.below b5
  replace en := en.below b5
  replace bel := bel.trans (b5.mono bel.size)
  clear b5
  have R40 := Lib.hid (range_lit hm 0 28 [.int .i64 2, .int .i64 0, .int .u32 0, .int .i64 0, .int .i64 0, .int .u8 0, .int .u8 0, .int .u8 0, .int .u8 0, .int .u8 0, .int .u8 0, .int .u8 0, .int .u8 0, .int .u8 0, .int .u8 0, .int .u8 0, .int .u8 0, .int .u8 0, .int .u8 0, .int .u8 0, .int .u8 0, .int .u8 0, .int .u8 0, .int .u8 0, .int .u8 0, .int .u8 0, .int .u8 0, .slice (some ⟨g14, 0, none⟩) 1 1] rfl)
  go_wp2_with (first | ((with_reducible show wpList _ _ _ (⟨some 40, _, _, _, _, _⟩ :: _) _ _); refine wpList_load_rng 30 (.tmp 3) rfl (by kernel_rfl) _ _ rfl _ R40.out _ Try.underlying30 rfl (by kernel_rfl) ?_))
  try clear R40
  with_reducible refine (ttype_y _ en (Bd.mk1 53 bs) (by decide) (hb1 (by omega)) HX8.out).mono ?_
  rintro e w6 ⟨rfl, b6⟩
  replace hb14 := blk_u hb14 b6
  replace hm := blk_u hm b6
  replace bs := bs.below b6
  replace en := en.below b6
  replace bel := bel.trans (b6.mono bel.size)
  clear b6
  go_wp2_with fail
  go_ret
  exact ⟨rfl, bel⟩
end Go.Proofs.Ytmljgpefbbifmaa
