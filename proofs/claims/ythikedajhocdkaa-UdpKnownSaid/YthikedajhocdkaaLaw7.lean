/- Layer 7: own, same, base, awake; UdpReads, UdpWrites. -/
import Derived.Test.YthikedajhocdkaaUd5
import Derived.Test.YthikedajhocdkaaUdf
import Derived.Deep.CutRange
namespace Go.Proofs.Ythikedajhocdkaa
open Go.RowKit

set_option maxRecDepth 100000 in
set_option maxHeartbeats 16000000 in
theorem own7_any (tos id fl pt ttl pr : Int) (a0 a1 a2 a3 a4 a5 a6 a7 : UInt8) (So Sb : Option Addr) (no co nb cb : Nat) (w : World) : Calls Try.prog 13 #[.agg #[.int .i64 tos, .int .i64 id, .int .i64 fl, .int .i64 pt, .int .i64 ttl, .int .i64 pr, .int .u8 (a0.toNat : Int), .int .u8 (a1.toNat : Int), .int .u8 (a2.toNat : Int), .int .u8 (a3.toNat : Int), .int .u8 (a4.toNat : Int), .int .u8 (a5.toNat : Int), .int .u8 (a6.toNat : Int), .int .u8 (a7.toNat : Int), .slice So no co, .slice Sb nb cb]] w fun e w' => e = .returned (.agg #[.int .i64 tos, .int .i64 id, .int .i64 fl, .int .i64 pt, .int .i64 ttl, .int .i64 pr, .int .u8 (a0.toNat : Int), .int .u8 (a1.toNat : Int), .int .u8 (a2.toNat : Int), .int .u8 (a3.toNat : Int), .int .u8 (a4.toNat : Int), .int .u8 (a5.toNat : Int), .int .u8 (a6.toNat : Int), .int .u8 (a7.toNat : Int), .slice So no co, .slice Sb nb cb]) ∧ Below w.heap.size w w' := by
  have bel := Below.refl w.heap.size w
  go_enter Try.func13, Try.ntmps13
  go_wp2_with (first | ((with_reducible show wpList _ _ _ (⟨some 1, _, _, _, _, _⟩ :: _) _ _); refine wpList_box_n rfl 27 (.tmp 0) rfl #[.int .i64 tos, .int .i64 id, .int .i64 fl, .int .i64 pt, .int .i64 ttl, .int .i64 pr, .int .u8 (a0.toNat : Int), .int .u8 (a1.toNat : Int), .int .u8 (a2.toNat : Int), .int .u8 (a3.toNat : Int), .int .u8 (a4.toNat : Int), .int .u8 (a5.toNat : Int), .int .u8 (a6.toNat : Int), .int .u8 (a7.toNat : Int), .slice So no co, .slice Sb nb cb] rfl ?_; intro g1 w1 ge lt hh bb; have op := Nat.le_trans bel.size ge; replace bel := bel.trans (bb.mono bel.size); have hp := hh; have zp := lt; clear hh lt ge bb) | ((with_reducible show wpList _ _ _ (⟨some 2, _, _, _, _, _⟩ :: _) _ _); refine wpList_new_n rfl 39 rfl (.agg #[.int .i64 0, .int .i64 0, .int .i64 0, .int .i64 0, .int .i64 0, .int .i64 0, .int .u8 0, .int .u8 0, .int .u8 0, .int .u8 0, .int .u8 0, .int .u8 0, .int .u8 0, .int .u8 0, .slice none 0 0, .slice none 0 0]) (by kernel_rfl) #[.int .i64 0, .int .i64 0, .int .i64 0, .int .i64 0, .int .i64 0, .int .i64 0, .int .u8 0, .int .u8 0, .int .u8 0, .int .u8 0, .int .u8 0, .int .u8 0, .int .u8 0, .int .u8 0, .slice none 0 0, .slice none 0 0] rfl ?_; intro g2 w2 ge lt hh bb; have d_p_z := ne_new zp ge; have oz := Nat.le_trans bel.size ge; replace hp := blk_under hp bb zp; replace zp := Nat.lt_of_lt_of_le zp bb.size; replace bel := bel.trans (bb.mono bel.size); have hz := hh; have zz := lt; clear hh lt ge bb; have R4 := cell_lit hp 0 _ rfl; have R6 := cell_lit hp 1 _ rfl; have R8 := cell_lit hp 2 _ rfl; have R10 := cell_lit hp 3 _ rfl; have R12 := cell_lit hp 4 _ rfl; have R14 := cell_lit hp 5 _ rfl; have R16 := Lib.hid (range_lit hp 6 4 [.int .u8 (a0.toNat : Int), .int .u8 (a1.toNat : Int), .int .u8 (a2.toNat : Int), .int .u8 (a3.toNat : Int)] rfl)) | ((with_reducible show wpList _ _ _ (⟨some 16, _, _, _, _, _⟩ :: _) _ _); refine wpList_load_rng 24 (.tmp 15) rfl (by kernel_rfl) _ _ rfl _ R16.out _ Try.underlying24 rfl (by kernel_rfl) ?_; have R18 := Lib.hid (range_lit hp 10 4 [.int .u8 (a4.toNat : Int), .int .u8 (a5.toNat : Int), .int .u8 (a6.toNat : Int), .int .u8 (a7.toNat : Int)] rfl)) | ((with_reducible show wpList _ _ _ (⟨some 18, _, _, _, _, _⟩ :: _) _ _); refine wpList_load_rng 24 (.tmp 17) rfl (by kernel_rfl) _ _ rfl _ R18.out _ Try.underlying24 rfl (by kernel_rfl) ?_; have R20 := cell_lit hp 14 _ rfl; have R22 := cell_lit hp 15 _ rfl) | ((with_reducible show wpList _ _ _ (⟨none, Op.store _ (.tmp 2) _, _, _, _, _⟩ :: _) _ _); refine wpList_store_blk rfl 39 (.tmp 2) (.tmp 23) rfl g2 rfl #[.int .i64 tos, .int .i64 id, .int .i64 fl, .int .i64 pt, .int .i64 ttl, .int .i64 pr, .int .u8 (a0.toNat : Int), .int .u8 (a1.toNat : Int), .int .u8 (a2.toNat : Int), .int .u8 (a3.toNat : Int), .int .u8 (a4.toNat : Int), .int .u8 (a5.toNat : Int), .int .u8 (a6.toNat : Int), .int .u8 (a7.toNat : Int), .slice So no co, .slice Sb nb cb] rfl _ 39 hz (by rfl) (by kernel_rfl) (by kernel_rfl) ?_; intro w3 hq gr; replace hp := blk_away hp gr zp d_p_z; replace zp := Nat.lt_of_lt_of_le zp gr.size; replace zz := Nat.lt_of_lt_of_le zz gr.size; replace bel := below_grown bel gr oz bel.size; clear hz; have hz := hq; clear hq gr))
  try clear R4
  try clear R6
  try clear R8
  try clear R10
  try clear R12
  try clear R14
  try clear R16
  try clear R18
  try clear R20
  try clear R22
  exact bodyPost_ret (results_cell_row' rfl _ _ _ _ _ _ _ rfl hz Try.underlying39 rfl (by kernel_rfl)) rfl ⟨rfl, bel⟩
set_option maxRecDepth 100000 in
set_option maxHeartbeats 16000000 in
theorem same7_true (df dt : Int) (A B : Option Addr) (n c m d : Nat) (l : List UInt8) (w : World) (h1 : Sl w A n c l) (h2 : Sl w B m d l) : Calls Try.prog 14 #[.agg #[.int .i64 df, .int .i64 dt, .slice A n c], .agg #[.int .i64 df, .int .i64 dt, .slice B m d]] w fun e w' => e = .returned (.bool true) ∧ Below w.heap.size w w' := by
  have bel := Below.refl w.heap.size w
  go_enter Try.func14, Try.ntmps14
  go_wp2_with (first | ((with_reducible show wpList _ _ _ (⟨some 2, _, _, _, _, _⟩ :: _) _ _); refine wpList_box_n rfl 33 (.tmp 0) rfl #[.int .i64 df, .int .i64 dt, .slice A n c] rfl ?_; intro g2 w1 ge lt hh bb; have av_h1_p := h1.av_new ge; have av_h2_p := h2.av_new ge; have op := Nat.le_trans bel.size ge; replace h1 := h1.below bb; replace h2 := h2.below bb; replace bel := bel.trans (bb.mono bel.size); have hp := hh; have zp := lt; clear hh lt ge bb) | ((with_reducible show wpList _ _ _ (⟨some 3, _, _, _, _, _⟩ :: _) _ _); refine wpList_box_n rfl 36 (.tmp 1) rfl #[.int .i64 df, .int .i64 dt, .slice B m d] rfl ?_; intro g3 w2 ge lt hh bb; have d_p_q := ne_new zp ge; have av_h1_q := h1.av_new ge; have av_h2_q := h2.av_new ge; have oq := Nat.le_trans bel.size ge; replace hp := blk_under hp bb zp; replace zp := Nat.lt_of_lt_of_le zp bb.size; replace h1 := h1.below bb; replace h2 := h2.below bb; replace bel := bel.trans (bb.mono bel.size); have hq := hh; have zq := lt; clear hh lt ge bb; have R6 := cell_lit hp 0 _ rfl; have R8 := cell_lit hq 0 _ rfl; have R12 := cell_lit hp 1 _ rfl; have R14 := cell_lit hq 1 _ rfl; have R19 := cell_lit hp 2 _ rfl; have st20 := h1.str (P := Try.prog) 25 5 9 Try.underlying25 Try.underlying5 Try.underlying9; have R22 := cell_lit hq 2 _ rfl; have st23 := h2.str (P := Try.prog) 25 5 9 Try.underlying25 Try.underlying5 Try.underlying9))
  try clear R6
  try clear R8
  try clear R12
  try clear R14
  try clear R19
  try clear st20
  try clear R22
  try clear st23
  go_ret
  exact ⟨rfl, bel⟩
set_option maxRecDepth 100000 in
set_option maxHeartbeats 16000000 in
theorem base7 (w : World) : Calls Try.prog 10 #[] w fun e w' => e = .returned (.agg #[.int .i64 0, .int .i64 0, .int .i64 0, .int .i64 0, .int .i64 64, .int .i64 0, .int .u8 10, .int .u8 0, .int .u8 0, .int .u8 1, .int .u8 10, .int .u8 0, .int .u8 0, .int .u8 2, .slice none 0 0, .slice none 0 0]) ∧ Below w.heap.size w w' := by
  have bel := Below.refl w.heap.size w
  go_enter Try.func10, Try.ntmps10
  go_wp2_with (first | ((with_reducible show wpList _ _ _ (⟨some 0, _, _, _, _, _⟩ :: _) _ _); refine wpList_new_n rfl 27 rfl (.agg #[.int .i64 0, .int .i64 0, .int .i64 0, .int .i64 0, .int .i64 0, .int .i64 0, .int .u8 0, .int .u8 0, .int .u8 0, .int .u8 0, .int .u8 0, .int .u8 0, .int .u8 0, .int .u8 0, .slice none 0 0, .slice none 0 0]) (by kernel_rfl) #[.int .i64 0, .int .i64 0, .int .i64 0, .int .i64 0, .int .i64 0, .int .i64 0, .int .u8 0, .int .u8 0, .int .u8 0, .int .u8 0, .int .u8 0, .int .u8 0, .int .u8 0, .int .u8 0, .slice none 0 0, .slice none 0 0] rfl ?_; intro g0 w1 ge lt hh bb; have oz := Nat.le_trans bel.size ge; replace bel := bel.trans (bb.mono bel.size); have hz := hh; have zz := lt; clear hh lt ge bb) | ((with_reducible show wpList _ _ _ (⟨none, Op.store _ (.tmp 0) _, _, _, _, _⟩ :: _) _ _); refine wpList_store_blk rfl 27 (.tmp 0) (.tmp 3) rfl g0 rfl #[.int .i64 0, .int .i64 0, .int .i64 0, .int .i64 0, .int .i64 64, .int .i64 0, .int .u8 10, .int .u8 0, .int .u8 0, .int .u8 1, .int .u8 10, .int .u8 0, .int .u8 0, .int .u8 2, .slice none 0 0, .slice none 0 0] rfl _ 27 hz (by rfl) (by kernel_rfl) (by kernel_rfl) ?_; intro w2 hq gr; replace zz := Nat.lt_of_lt_of_le zz gr.size; replace bel := below_grown bel gr oz bel.size; clear hz; have hz := hq; clear hq gr))
  exact bodyPost_ret (results_cell_row' rfl _ _ _ _ _ _ _ rfl hz Try.underlying27 rfl (by kernel_rfl)) rfl ⟨rfl, bel⟩
theorem kput (df dt : Int) (D : Option Addr) (nd cd : Nat) (ld : List UInt8) (w : World) (hb : Sl w D nd cd ld) (hn : nd ≤ 100000) : Calls Try.prog 9 #[.agg #[.int .i64 0, .int .i64 0, .int .i64 0, .int .i64 0, .int .i64 64, .int .i64 0, .int .u8 10, .int .u8 0, .int .u8 0, .int .u8 1, .int .u8 10, .int .u8 0, .int .u8 0, .int .u8 2, .slice none 0 0, .slice none 0 0], .agg #[.int .i64 df, .int .i64 dt, .slice D nd cd]] w (PkPost (udPut 0 0 0 0 64 10 0 0 1 10 0 0 2 [] df dt ld) w) :=
  udput_any 0 0 0 0 64 0 10 0 0 1 10 0 0 2 none none 0 0 0 0 df dt D nd cd [] ld w (Sl.nil w) hb hn (by omega)
theorem udput_pos {tos id fl pt ttl : Int} {a0 a1 a2 a3 a4 a5 a6 a7 : UInt8} {lo : List UInt8} {df dt : Int} {b : List UInt8} (h : (udPut tos id fl pt ttl a0 a1 a2 a3 a4 a5 a6 a7 lo df dt b).2.2 = 0) : portOk df = true ∧ portOk dt = true ∧ b.length ≤ 1472 ∧ udPut tos id fl pt ttl a0 a1 a2 a3 a4 a5 a6 a7 lo df dt b = (([tos, id, fl, pt, ttl, 17], [a0, a1, a2, a3, a4, a5, a6, a7]), (lo, udBytes a0 a1 a2 a3 a4 a5 a6 a7 df dt b), 0) := by
  unfold udPut at h ⊢
  split at h
  · exact absurd h (by decide)
  · rename_i h1
    split at h
    · exact absurd h (by decide)
    · rename_i h2
      rw [if_neg h1, if_neg h2]
      have : (portOk df && portOk dt) = true := by simpa using h1
      rw [Bool.and_eq_true] at this
      exact ⟨this.1, this.2, by omega, rfl⟩
theorem kput_ok (df dt : Int) (D : Option Addr) (nd cd : Nat) (ld : List UInt8) (w : World) (hb : Sl w D nd cd ld) (h1 : portOk df = true) (h2 : portOk dt = true) (hn : nd ≤ 1472) : Calls Try.prog 9 #[.agg #[.int .i64 0, .int .i64 0, .int .i64 0, .int .i64 0, .int .i64 64, .int .i64 0, .int .u8 10, .int .u8 0, .int .u8 0, .int .u8 1, .int .u8 10, .int .u8 0, .int .u8 0, .int .u8 2, .slice none 0 0, .slice none 0 0], .agg #[.int .i64 df, .int .i64 dt, .slice D nd cd]] w fun e w' => ∃ Ao co Ab cb, e = .returned (.tuple #[.agg #[.int .i64 0, .int .i64 0, .int .i64 0, .int .i64 0, .int .i64 64, .int .i64 17, .int .u8 10, .int .u8 0, .int .u8 0, .int .u8 1, .int .u8 10, .int .u8 0, .int .u8 0, .int .u8 2, .slice Ao 0 co, .slice Ab (8 + nd) cb], .int .i64 0]) ∧ Sl w' Ao 0 co [] ∧ Sl w' Ab (8 + nd) cb (udBytes 10 0 0 1 10 0 0 2 df dt ld) ∧ Fr w.heap.size Ab (8 + nd) ∧ Below w.heap.size w w' := by
  refine (kput df dt D nd cd ld w hb (by omega)).mono ?_
  rintro e w' ⟨f0, f1, f2, f3, f4, f5, g0, g1, g2, g3, g4, g5, g6, g7, lo, lb, Ao, Ab, co, cb, er, rfl, ho, hbb, fo, fb, bel, hq⟩
  unfold udPut at hq
  rw [if_neg (by rw [h1, h2]; decide), if_neg (by rw [hb.1]; omega)] at hq
  simp only [Prod.mk.injEq, List.cons.injEq, and_true] at hq
  obtain ⟨⟨⟨rfl, rfl, rfl, rfl, rfl, rfl⟩, rfl, rfl, rfl, rfl, rfl, rfl, rfl, rfl⟩, ⟨rfl, rfl⟩, rfl⟩ := hq
  have hl : (udBytes 10 0 0 1 10 0 0 2 df dt ld).length = 8 + nd := by rw [udBytes_len, hb.1]
  rw [hl] at hbb fb ⊢
  exact ⟨Ao, co, Ab, cb, rfl, ho, hbb, fb, bel⟩
theorem kput_bad (df dt : Int) (D : Option Addr) (nd cd : Nat) (ld : List UInt8) (w : World) (hb : Sl w D nd cd ld) (hn : nd ≤ 100000) (h : (udPut 0 0 0 0 64 10 0 0 1 10 0 0 2 [] df dt ld).2.2 ≠ 0) : Calls Try.prog 9 #[.agg #[.int .i64 0, .int .i64 0, .int .i64 0, .int .i64 0, .int .i64 64, .int .i64 0, .int .u8 10, .int .u8 0, .int .u8 0, .int .u8 1, .int .u8 10, .int .u8 0, .int .u8 0, .int .u8 2, .slice none 0 0, .slice none 0 0], .agg #[.int .i64 df, .int .i64 dt, .slice D nd cd]] w fun e w' => ∃ f0 f1 f2 f3 f4 f5 : Int, ∃ g0 g1 g2 g3 g4 g5 g6 g7 : UInt8, ∃ Ao no co Ab nb cb, ∃ er : Int, e = .returned (.tuple #[.agg #[.int .i64 f0, .int .i64 f1, .int .i64 f2, .int .i64 f3, .int .i64 f4, .int .i64 f5, .int .u8 (g0.toNat : Int), .int .u8 (g1.toNat : Int), .int .u8 (g2.toNat : Int), .int .u8 (g3.toNat : Int), .int .u8 (g4.toNat : Int), .int .u8 (g5.toNat : Int), .int .u8 (g6.toNat : Int), .int .u8 (g7.toNat : Int), .slice Ao no co, .slice Ab nb cb], .int .i64 er]) ∧ Hid (er ≠ 0) ∧ Below w.heap.size w w' := by
  refine (kput df dt D nd cd ld w hb hn).mono ?_
  rintro e w' ⟨f0, f1, f2, f3, f4, f5, g0, g1, g2, g3, g4, g5, g6, g7, lo, lb, Ao, Ab, co, cb, er, rfl, ho, hbb, fo, fb, bel, hq⟩
  exact ⟨_, _, _, _, _, _, _, _, _, _, _, _, _, _, _, _, _, _, _, _, er, rfl, Lib.hid (by rw [← hq] at h; exact h), bel⟩
theorem kget (Ao Ab : Option Addr) (co cb n : Nat) (l : List UInt8) (df dt : Int) (lb : List UInt8) (w : World) (h : Sl w Ab n cb l) (hn : n ≤ 100000) (hg : udGet 0 0 17 10 0 0 1 10 0 0 2 l = ((df, dt), lb, 0)) : Calls Try.prog 11 #[.agg #[.int .i64 0, .int .i64 0, .int .i64 0, .int .i64 0, .int .i64 64, .int .i64 17, .int .u8 10, .int .u8 0, .int .u8 0, .int .u8 1, .int .u8 10, .int .u8 0, .int .u8 0, .int .u8 2, .slice Ao 0 co, .slice Ab n cb]] w fun e w' => ∃ A c, e = .returned (.tuple #[.agg #[.int .i64 df, .int .i64 dt, .slice A lb.length c], .int .i64 0]) ∧ Sl w' A lb.length c lb ∧ Fr w.heap.size A lb.length ∧ Below w.heap.size w w' := by
  refine (udget_any 0 0 0 0 64 17 10 0 0 1 10 0 0 2 Ao Ab 0 co n cb l w h hn).mono ?_
  rintro e w' ⟨x, y, q, A, c, er, rfl, hs, hf, bel, hq⟩
  rw [hg] at hq
  simp only [Prod.mk.injEq] at hq
  obtain ⟨⟨rfl, rfl⟩, rfl, rfl⟩ := hq
  exact ⟨A, c, rfl, hs, hf, bel⟩
set_option maxRecDepth 100000 in
set_option maxHeartbeats 16000000 in
theorem awake7 (w : World) : Calls Try.prog 8 #[] w fun e w' => e = .returned (.bool true) ∧ Below w.heap.size w w' := by
  obtain ⟨ii, hii, hz0, hz1, hz2⟩ := info_parts Try.info5
  have bel := Below.refl w.heap.size w
  go_enter Try.func8, Try.ntmps8
  go_wp2_with fail
  with_reducible refine (base7 _).mono ?_
  rintro e w1 ⟨rfl, b1⟩
  replace bel := bel.trans (b1.mono bel.size)
  clear b1
  go_wp2_with (first | ((with_reducible show wpList _ _ _ (⟨some 7, _, _, _, _, _⟩ :: _) _ _); refine wpList_lit_n rfl 25 5 1 _ rfl #[.int .u8 120] (.int .u8 0) Try.underlying25 (by kernel_rfl) 1 (by kernel_rfl) (by decide) (by kernel_rfl) ?_; intro g7 w2 ge lt hh bb; have hl : w2.heap[g7]? = some (.cells (([120] : List UInt8).map u8v).toArray 5 (0, 0)) := (by simpa [u8v, byteOf_val] using hh); have sxw := own_lit (B := w1.heap.size) ([120]) hl ge 1 rfl (by simp [maxLen]); have sx := (own_sl sxw).1; have sxlo := bel.size; clear hl; have sxge := ge; have lz_sx := bb.size; have ob7 := Nat.le_trans bel.size ge; replace bel := bel.trans (bb.mono bel.size); have hb7 := hh; have zb7 := lt; clear hh lt ge bb) | ((with_reducible show wpList _ _ _ (⟨some 8, _, _, _, _, _⟩ :: _) _ _); refine wpList_mark_n rfl 25 5 (.tmp 7) rfl Try.underlying25 Try.underlying5 g7 #[.int .u8 120] _ _ rfl hb7 ?_; intro w3 hq gr; replace lz_sx := Nat.le_trans lz_sx gr.size; replace zb7 := Nat.lt_of_lt_of_le zb7 gr.size; replace bel := below_grown bel gr ob7 bel.size; clear hb7; have hb7 := hq; clear hq gr; replace sx : Sl w3 (some ⟨g7, 0, none⟩) 1 1 ([120]) := sl_lit ([120]) hb7 rfl (by simp [maxLen]); clear sxw))
  with_reducible refine (kput_ok 5 6 _ 1 1 [120] _ sx (by decide) (by decide) (by omega)).mono ?_
  rintro e w4 ⟨Ao, co, Ab, cb, rfl, po, pb, fb, b4⟩
  have av_pb_b7 := fb.av zb7
  replace hb7 := blk_under hb7 b4 zb7
  replace zb7 := Nat.lt_of_lt_of_le zb7 b4.size
  replace sx := sx.below b4
  replace lz_sx := Nat.le_trans lz_sx b4.size
  replace bel := bel.trans (b4.mono bel.size)
  clear b4
  replace po : Sl w4 (Ao) (0) (co) ([]) := po
  replace pb : Sl w4 (Ab) (9) (cb) (udBytes 10 0 0 1 10 0 0 2 5 6 [120]) := pb
  go_wp2_with (first | ((with_reducible show wpList _ _ _ (⟨some 1, _, _, _, _, _⟩ :: _) _ _); refine wpList_new_n rfl 27 rfl (.agg #[.int .i64 0, .int .i64 0, .int .i64 0, .int .i64 0, .int .i64 0, .int .i64 0, .int .u8 0, .int .u8 0, .int .u8 0, .int .u8 0, .int .u8 0, .int .u8 0, .int .u8 0, .int .u8 0, .slice none 0 0, .slice none 0 0]) (by kernel_rfl) #[.int .i64 0, .int .i64 0, .int .i64 0, .int .i64 0, .int .i64 0, .int .i64 0, .int .u8 0, .int .u8 0, .int .u8 0, .int .u8 0, .int .u8 0, .int .u8 0, .int .u8 0, .int .u8 0, .slice none 0 0, .slice none 0 0] rfl ?_; intro g1 w5 ge lt hh bb; have d_b7_p := ne_new zb7 ge; have av_sx_p := sx.av_new ge; have av_po_p := po.av_new ge; have av_pb_p := pb.av_new ge; have op := Nat.le_trans bel.size ge; replace hb7 := blk_under hb7 bb zb7; replace zb7 := Nat.lt_of_lt_of_le zb7 bb.size; replace sx := sx.below bb; replace po := po.below bb; replace pb := pb.below bb; replace lz_sx := Nat.le_trans lz_sx bb.size; replace bel := bel.trans (bb.mono bel.size); have hp := hh; have zp := lt; clear hh lt ge bb) | ((with_reducible show wpList _ _ _ (⟨none, Op.store _ (.tmp 1) _, _, _, _, _⟩ :: _) _ _); refine wpList_store_blk rfl 27 (.tmp 1) (.tmp 11) rfl g1 rfl #[.int .i64 0, .int .i64 0, .int .i64 0, .int .i64 0, .int .i64 64, .int .i64 17, .int .u8 10, .int .u8 0, .int .u8 0, .int .u8 1, .int .u8 10, .int .u8 0, .int .u8 0, .int .u8 2, .slice Ao 0 co, .slice Ab 9 cb] rfl _ 27 hp (by rfl) (by kernel_rfl) (by kernel_rfl) ?_; intro w6 hq gr; replace sx := sx.away av_sx_p gr; replace po := po.away av_po_p gr; replace pb := pb.away av_pb_p gr; replace lz_sx := Nat.le_trans lz_sx gr.size; replace hb7 := blk_away hb7 gr zb7 d_b7_p; replace zb7 := Nat.lt_of_lt_of_le zb7 gr.size; replace zp := Nat.lt_of_lt_of_le zp gr.size; replace bel := below_grown bel gr op bel.size; clear hp; have hp := hq; clear hq gr; have R14 := Lib.hid (range_lit hp 0 16 [.int .i64 0, .int .i64 0, .int .i64 0, .int .i64 0, .int .i64 64, .int .i64 17, .int .u8 10, .int .u8 0, .int .u8 0, .int .u8 1, .int .u8 10, .int .u8 0, .int .u8 0, .int .u8 2, .slice Ao 0 co, .slice Ab 9 cb] rfl)) | ((with_reducible show wpList _ _ _ (⟨some 14, _, _, _, _, _⟩ :: _) _ _); refine wpList_load_rng 27 (.tmp 1) rfl (by kernel_rfl) _ _ rfl _ R14.out _ Try.underlying27 rfl (by kernel_rfl) ?_))
  try clear R14
  with_reducible refine (kget _ _ _ _ 9 _ 5 6 [120] _ pb (by omega) (udp_back (by decide) 10 0 0 1 10 0 0 2 (by decide) (by decide) [120] (by decide))).mono ?_
  rintro e w7 ⟨Ad, cd, rfl, db, fd, b7⟩
  have av_db_b7 := fd.av zb7
  have av_db_p := fd.av zp
  replace hb7 := blk_under hb7 b7 zb7
  replace zb7 := Nat.lt_of_lt_of_le zb7 b7.size
  replace hp := blk_under hp b7 zp
  replace zp := Nat.lt_of_lt_of_le zp b7.size
  replace sx := sx.below b7
  replace po := po.below b7
  replace pb := pb.below b7
  replace lz_sx := Nat.le_trans lz_sx b7.size
  replace bel := bel.trans (b7.mono bel.size)
  clear b7
  replace db : Sl w7 (Ad) (1) (cd) ([120]) := db
  go_wp2_with (first | ((with_reducible show wpList _ _ _ (⟨some 3, _, _, _, _, _⟩ :: _) _ _); refine wpList_new_n rfl 33 rfl (.agg #[.int .i64 0, .int .i64 0, .slice none 0 0]) (by kernel_rfl) #[.int .i64 0, .int .i64 0, .slice none 0 0] rfl ?_; intro g3 w8 ge lt hh bb; have d_b7_d := ne_new zb7 ge; have d_p_d := ne_new zp ge; have av_sx_d := sx.av_new ge; have av_po_d := po.av_new ge; have av_pb_d := pb.av_new ge; have av_db_d := db.av_new ge; have od := Nat.le_trans bel.size ge; replace hb7 := blk_under hb7 bb zb7; replace zb7 := Nat.lt_of_lt_of_le zb7 bb.size; replace hp := blk_under hp bb zp; replace zp := Nat.lt_of_lt_of_le zp bb.size; replace sx := sx.below bb; replace po := po.below bb; replace pb := pb.below bb; replace db := db.below bb; replace lz_sx := Nat.le_trans lz_sx bb.size; replace bel := bel.trans (bb.mono bel.size); have hd := hh; have zd := lt; clear hh lt ge bb) | ((with_reducible show wpList _ _ _ (⟨none, Op.store _ (.tmp 3) _, _, _, _, _⟩ :: _) _ _); refine wpList_store_blk rfl 33 (.tmp 3) (.tmp 16) rfl g3 rfl #[.int .i64 5, .int .i64 6, .slice Ad 1 cd] rfl _ 33 hd (by rfl) (by kernel_rfl) (by kernel_rfl) ?_; intro w9 hq gr; replace sx := sx.away av_sx_d gr; replace po := po.away av_po_d gr; replace pb := pb.away av_pb_d gr; replace db := db.away av_db_d gr; replace lz_sx := Nat.le_trans lz_sx gr.size; replace hb7 := blk_away hb7 gr zb7 d_b7_d; replace hp := blk_away hp gr zp d_p_d; replace zb7 := Nat.lt_of_lt_of_le zb7 gr.size; replace zp := Nat.lt_of_lt_of_le zp gr.size; replace zd := Nat.lt_of_lt_of_le zd gr.size; replace bel := below_grown bel gr od bel.size; clear hd; have hd := hq; clear hq gr; have R26 := cell_lit hd 0 _ rfl; have R31 := cell_lit hd 1 _ rfl; have R36 := cell_lit hd 2 _ rfl; have st37 := db.str (P := Try.prog) 25 5 9 Try.underlying25 Try.underlying5 Try.underlying9; have R42 := cell_lit hp 5 _ rfl; have R47 := cell_lit hp 15 _ rfl))
  try clear R26
  try clear R31
  try clear R36
  try clear st37
  try clear R42
  try clear R47
  go_ret
  exact ⟨rfl, bel⟩
set_option linter.unusedVariables false in
set_option maxRecDepth 100000 in
set_option maxHeartbeats 16000000 in
theorem udpReads_1 (tos id fl pt ttl pr : Int) (a0 a1 a2 a3 a4 a5 a6 a7 : UInt8) (So : Option Addr) (no co : Nat) (lo : List UInt8) (Sb : Option Addr) (nb cb : Nat) (lb : List UInt8) (w : World) (h1 : 1600 < nb) : Calls Try.prog 4 #[.agg #[.int .i64 tos, .int .i64 id, .int .i64 fl, .int .i64 pt, .int .i64 ttl, .int .i64 pr, .int .u8 (a0.toNat : Int), .int .u8 (a1.toNat : Int), .int .u8 (a2.toNat : Int), .int .u8 (a3.toNat : Int), .int .u8 (a4.toNat : Int), .int .u8 (a5.toNat : Int), .int .u8 (a6.toNat : Int), .int .u8 (a7.toNat : Int), .slice So no co, .slice Sb nb cb]] w fun e w' => e = .returned (.bool true) ∧ Below w.heap.size w w' := by
  have t1 : (1600 : Int) < nb := by omega
  clear h1
  have bel := Below.refl w.heap.size w
  go_enter Try.func4, Try.ntmps4
  go_wp2_with (first | ((with_reducible show wpList _ _ _ (⟨some 1, _, _, _, _, _⟩ :: _) _ _); refine wpList_box_n rfl 27 (.tmp 0) rfl #[.int .i64 tos, .int .i64 id, .int .i64 fl, .int .i64 pt, .int .i64 ttl, .int .i64 pr, .int .u8 (a0.toNat : Int), .int .u8 (a1.toNat : Int), .int .u8 (a2.toNat : Int), .int .u8 (a3.toNat : Int), .int .u8 (a4.toNat : Int), .int .u8 (a5.toNat : Int), .int .u8 (a6.toNat : Int), .int .u8 (a7.toNat : Int), .slice So no co, .slice Sb nb cb] rfl ?_; intro g1 w1 ge lt hh bb; have op := Nat.le_trans bel.size ge; replace bel := bel.trans (bb.mono bel.size); have hp := hh; have zp := lt; clear hh lt ge bb))
  with_reducible refine (awake7 _).mono ?_
  rintro e w2 ⟨rfl, b2⟩
  replace hp := blk_under hp b2 zp
  replace zp := Nat.lt_of_lt_of_le zp b2.size
  replace bel := bel.trans (b2.mono bel.size)
  clear b2
  have R10 := cell_lit hp 15 _ rfl
  go_wp2_with fail
  clear R10
  go_ret
  exact ⟨rfl, bel⟩
set_option linter.unusedVariables false in
set_option maxRecDepth 100000 in
set_option maxHeartbeats 16000000 in
theorem udpReads_2 (tos id fl pt ttl pr : Int) (a0 a1 a2 a3 a4 a5 a6 a7 : UInt8) (So : Option Addr) (no co : Nat) (lo : List UInt8) (Sb : Option Addr) (nb cb : Nat) (lb : List UInt8) (w : World) (h1 : nb ≤ 1600) (h2 : 60 < no) : Calls Try.prog 4 #[.agg #[.int .i64 tos, .int .i64 id, .int .i64 fl, .int .i64 pt, .int .i64 ttl, .int .i64 pr, .int .u8 (a0.toNat : Int), .int .u8 (a1.toNat : Int), .int .u8 (a2.toNat : Int), .int .u8 (a3.toNat : Int), .int .u8 (a4.toNat : Int), .int .u8 (a5.toNat : Int), .int .u8 (a6.toNat : Int), .int .u8 (a7.toNat : Int), .slice So no co, .slice Sb nb cb]] w fun e w' => e = .returned (.bool true) ∧ Below w.heap.size w w' := by
  have t1 : decide ((1600 : Int) < nb) = false := decide_eq_false (by omega)
  have t2 : (60 : Int) < no := by omega
  clear h1 h2
  have bel := Below.refl w.heap.size w
  go_enter Try.func4, Try.ntmps4
  go_wp2_with (first | ((with_reducible show wpList _ _ _ (⟨some 1, _, _, _, _, _⟩ :: _) _ _); refine wpList_box_n rfl 27 (.tmp 0) rfl #[.int .i64 tos, .int .i64 id, .int .i64 fl, .int .i64 pt, .int .i64 ttl, .int .i64 pr, .int .u8 (a0.toNat : Int), .int .u8 (a1.toNat : Int), .int .u8 (a2.toNat : Int), .int .u8 (a3.toNat : Int), .int .u8 (a4.toNat : Int), .int .u8 (a5.toNat : Int), .int .u8 (a6.toNat : Int), .int .u8 (a7.toNat : Int), .slice So no co, .slice Sb nb cb] rfl ?_; intro g1 w1 ge lt hh bb; have op := Nat.le_trans bel.size ge; replace bel := bel.trans (bb.mono bel.size); have hp := hh; have zp := lt; clear hh lt ge bb))
  with_reducible refine (awake7 _).mono ?_
  rintro e w2 ⟨rfl, b2⟩
  replace hp := blk_under hp b2 zp
  replace zp := Nat.lt_of_lt_of_le zp b2.size
  replace bel := bel.trans (b2.mono bel.size)
  clear b2
  have R10 := cell_lit hp 15 _ rfl
  have R15 := cell_lit hp 14 _ rfl
  go_wp2_with fail
  clear R10 R15
  go_ret
  exact ⟨rfl, bel⟩
set_option linter.unusedVariables false in
set_option maxRecDepth 100000 in
set_option maxHeartbeats 16000000 in
theorem udpReads_3 (tos id fl pt ttl pr : Int) (a0 a1 a2 a3 a4 a5 a6 a7 : UInt8) (So : Option Addr) (no co : Nat) (lo : List UInt8) (Sb : Option Addr) (nb cb : Nat) (lb : List UInt8) (w : World) (ho : Sl w So no co lo) (hb : Sl w Sb nb cb lb) (h1 : nb ≤ 1600) (h2 : no ≤ 60) : Calls Try.prog 4 #[.agg #[.int .i64 tos, .int .i64 id, .int .i64 fl, .int .i64 pt, .int .i64 ttl, .int .i64 pr, .int .u8 (a0.toNat : Int), .int .u8 (a1.toNat : Int), .int .u8 (a2.toNat : Int), .int .u8 (a3.toNat : Int), .int .u8 (a4.toNat : Int), .int .u8 (a5.toNat : Int), .int .u8 (a6.toNat : Int), .int .u8 (a7.toNat : Int), .slice So no co, .slice Sb nb cb]] w fun e w' => e = .returned (.bool true) ∧ Below w.heap.size w w' := by
  have t1 : decide ((1600 : Int) < nb) = false := decide_eq_false (by omega)
  have t2 : decide ((60 : Int) < no) = false := decide_eq_false (by omega)
  have H1 := Lib.hid h1
  clear h1 h2
  have bel := Below.refl w.heap.size w
  go_enter Try.func4, Try.ntmps4
  go_wp2_with (first | ((with_reducible show wpList _ _ _ (⟨some 1, _, _, _, _, _⟩ :: _) _ _); refine wpList_box_n rfl 27 (.tmp 0) rfl #[.int .i64 tos, .int .i64 id, .int .i64 fl, .int .i64 pt, .int .i64 ttl, .int .i64 pr, .int .u8 (a0.toNat : Int), .int .u8 (a1.toNat : Int), .int .u8 (a2.toNat : Int), .int .u8 (a3.toNat : Int), .int .u8 (a4.toNat : Int), .int .u8 (a5.toNat : Int), .int .u8 (a6.toNat : Int), .int .u8 (a7.toNat : Int), .slice So no co, .slice Sb nb cb] rfl ?_; intro g1 w1 ge lt hh bb; have av_ho_p := ho.av_new ge; have av_hb_p := hb.av_new ge; have op := Nat.le_trans bel.size ge; replace ho := ho.below bb; replace hb := hb.below bb; replace bel := bel.trans (bb.mono bel.size); have hp := hh; have zp := lt; clear hh lt ge bb))
  with_reducible refine (awake7 _).mono ?_
  rintro e w2 ⟨rfl, b2⟩
  replace hp := blk_under hp b2 zp
  replace zp := Nat.lt_of_lt_of_le zp b2.size
  replace ho := ho.below b2
  replace hb := hb.below b2
  replace bel := bel.trans (b2.mono bel.size)
  clear b2
  have R10 := cell_lit hp 15 _ rfl
  have R15 := cell_lit hp 14 _ rfl
  have R20 := Lib.hid (range_lit hp 0 16 [.int .i64 tos, .int .i64 id, .int .i64 fl, .int .i64 pt, .int .i64 ttl, .int .i64 pr, .int .u8 (a0.toNat : Int), .int .u8 (a1.toNat : Int), .int .u8 (a2.toNat : Int), .int .u8 (a3.toNat : Int), .int .u8 (a4.toNat : Int), .int .u8 (a5.toNat : Int), .int .u8 (a6.toNat : Int), .int .u8 (a7.toNat : Int), .slice So no co, .slice Sb nb cb] rfl)
  go_wp2_with (first | ((with_reducible show wpList _ _ _ (⟨some 20, _, _, _, _, _⟩ :: _) _ _); refine wpList_load_rng 27 (.tmp 1) rfl (by kernel_rfl) _ _ rfl _ R20.out _ Try.underlying27 rfl (by kernel_rfl) ?_))
  try clear R10
  try clear R15
  try clear R20
  with_reducible refine (udget_any _ _ _ _ _ _ _ _ _ _ _ _ _ _ _ _ _ _ _ _ _ _ hb (by have := H1.out; omega)).mono ?_
  rintro e w3 ⟨df1, dt1, lb1, A1, c1, er1, rfl, s1, f1, b3, q1⟩
  have av_s1_p := f1.av zp
  replace hp := blk_under hp b3 zp
  replace zp := Nat.lt_of_lt_of_le zp b3.size
  replace ho := ho.below b3
  replace hb := hb.below b3
  replace bel := bel.trans (b3.mono bel.size)
  clear b3
  replace s1 : Sl w3 (A1) (lb1.length) (c1) (lb1) := s1
  go_wp2_with (first | ((with_reducible show wpList _ _ _ (⟨some 3, _, _, _, _, _⟩ :: _) _ _); refine wpList_new_n rfl 33 rfl (.agg #[.int .i64 0, .int .i64 0, .slice none 0 0]) (by kernel_rfl) #[.int .i64 0, .int .i64 0, .slice none 0 0] rfl ?_; intro g3 w4 ge lt hh bb; have d_p_d := ne_new zp ge; have av_ho_d := ho.av_new ge; have av_hb_d := hb.av_new ge; have av_s1_d := s1.av_new ge; have od := Nat.le_trans bel.size ge; replace hp := blk_under hp bb zp; replace zp := Nat.lt_of_lt_of_le zp bb.size; replace ho := ho.below bb; replace hb := hb.below bb; replace s1 := s1.below bb; replace bel := bel.trans (bb.mono bel.size); have hd := hh; have zd := lt; clear hh lt ge bb) | ((with_reducible show wpList _ _ _ (⟨none, Op.store _ (.tmp 3) _, _, _, _, _⟩ :: _) _ _); refine wpList_store_blk rfl 33 (.tmp 3) (.tmp 22) rfl g3 rfl #[.int .i64 df1, .int .i64 dt1, .slice A1 lb1.length c1] rfl _ 33 hd (by rfl) (by kernel_rfl) (by kernel_rfl) ?_; intro w5 hq gr; replace ho := ho.away av_ho_d gr; replace hb := hb.away av_hb_d gr; replace s1 := s1.away av_s1_d gr; replace hp := blk_away hp gr zp d_p_d; replace zp := Nat.lt_of_lt_of_le zp gr.size; replace zd := Nat.lt_of_lt_of_le zd gr.size; replace bel := below_grown bel gr od bel.size; clear hd; have hd := hq; clear hq gr; have R25 := Lib.hid (range_lit hp 0 16 [.int .i64 tos, .int .i64 id, .int .i64 fl, .int .i64 pt, .int .i64 ttl, .int .i64 pr, .int .u8 (a0.toNat : Int), .int .u8 (a1.toNat : Int), .int .u8 (a2.toNat : Int), .int .u8 (a3.toNat : Int), .int .u8 (a4.toNat : Int), .int .u8 (a5.toNat : Int), .int .u8 (a6.toNat : Int), .int .u8 (a7.toNat : Int), .slice So no co, .slice Sb nb cb] rfl)) | ((with_reducible show wpList _ _ _ (⟨some 25, _, _, _, _, _⟩ :: _) _ _); refine wpList_load_rng 27 (.tmp 1) rfl (by kernel_rfl) _ _ rfl _ R25.out _ Try.underlying27 rfl (by kernel_rfl) ?_))
  try clear R25
  with_reducible refine (own7_any _ _ _ _ _ _ _ _ _ _ _ _ _ _ _ _ _ _ _ _ _).mono ?_
  rintro e w6 ⟨rfl, b6⟩
  replace hp := blk_under hp b6 zp
  replace zp := Nat.lt_of_lt_of_le zp b6.size
  replace hd := blk_under hd b6 zd
  replace zd := Nat.lt_of_lt_of_le zd b6.size
  replace ho := ho.below b6
  replace hb := hb.below b6
  replace s1 := s1.below b6
  replace bel := bel.trans (b6.mono bel.size)
  clear b6
  go_wp2_with fail
  with_reducible refine (rudget_any _ _ _ _ _ _ _ _ _ _ _ _ _ _ _ _ _ _ _ _ _ _ hb (by have := H1.out; omega)).mono ?_
  rintro e w7 ⟨df2, dt2, lb2, A2, c2, er2, rfl, s2, f2, b7, q2⟩
  have av_s2_p := f2.av zp
  have av_s2_d := f2.av zd
  replace hp := blk_under hp b7 zp
  replace zp := Nat.lt_of_lt_of_le zp b7.size
  replace hd := blk_under hd b7 zd
  replace zd := Nat.lt_of_lt_of_le zd b7.size
  replace ho := ho.below b7
  replace hb := hb.below b7
  replace s1 := s1.below b7
  replace bel := bel.trans (b7.mono bel.size)
  clear b7
  have hh := q1.trans q2.symm
  simp only [Prod.mk.injEq] at hh
  obtain ⟨⟨rfl, rfl⟩, rfl, rfl⟩ := hh
  clear q1 q2
  go_wp2_with (first | ((with_reducible show wpList _ _ _ (⟨some 5, _, _, _, _, _⟩ :: _) _ _); refine wpList_new_n rfl 36 rfl (.agg #[.int .i64 0, .int .i64 0, .slice none 0 0]) (by kernel_rfl) #[.int .i64 0, .int .i64 0, .slice none 0 0] rfl ?_; intro g5 w8 ge lt hh bb; have d_p_r := ne_new zp ge; have d_d_r := ne_new zd ge; have av_ho_r := ho.av_new ge; have av_hb_r := hb.av_new ge; have av_s1_r := s1.av_new ge; have av_s2_r := s2.av_new ge; have or := Nat.le_trans bel.size ge; replace hp := blk_under hp bb zp; replace zp := Nat.lt_of_lt_of_le zp bb.size; replace hd := blk_under hd bb zd; replace zd := Nat.lt_of_lt_of_le zd bb.size; replace ho := ho.below bb; replace hb := hb.below bb; replace s1 := s1.below bb; replace s2 := s2.below bb; replace bel := bel.trans (bb.mono bel.size); have hr := hh; have zr := lt; clear hh lt ge bb) | ((with_reducible show wpList _ _ _ (⟨none, Op.store _ (.tmp 5) _, _, _, _, _⟩ :: _) _ _); refine wpList_store_blk rfl 36 (.tmp 5) (.tmp 28) rfl g5 rfl #[.int .i64 df1, .int .i64 dt1, .slice A2 lb1.length c2] rfl _ 36 hr (by rfl) (by kernel_rfl) (by kernel_rfl) ?_; intro w9 hq gr; replace ho := ho.away av_ho_r gr; replace hb := hb.away av_hb_r gr; replace s1 := s1.away av_s1_r gr; replace s2 := s2.away av_s2_r gr; replace hp := blk_away hp gr zp d_p_r; replace hd := blk_away hd gr zd d_d_r; replace zp := Nat.lt_of_lt_of_le zp gr.size; replace zd := Nat.lt_of_lt_of_le zd gr.size; replace zr := Nat.lt_of_lt_of_le zr gr.size; replace bel := below_grown bel gr or bel.size; clear hr; have hr := hq; clear hq gr; have R34 := Lib.hid (range_lit hd 0 3 [.int .i64 df1, .int .i64 dt1, .slice A1 lb1.length c1] rfl)) | ((with_reducible show wpList _ _ _ (⟨some 34, _, _, _, _, _⟩ :: _) _ _); refine wpList_load_rng 33 (.tmp 3) rfl (by kernel_rfl) _ _ rfl _ R34.out _ Try.underlying33 rfl (by kernel_rfl) ?_; have R35 := Lib.hid (range_lit hr 0 3 [.int .i64 df1, .int .i64 dt1, .slice A2 lb1.length c2] rfl)) | ((with_reducible show wpList _ _ _ (⟨some 35, _, _, _, _, _⟩ :: _) _ _); refine wpList_load_rng 36 (.tmp 5) rfl (by kernel_rfl) _ _ rfl _ R35.out _ Try.underlying36 rfl (by kernel_rfl) ?_))
  try clear R34
  try clear R35
  with_reducible refine (same7_true _ _ _ _ _ _ _ _ _ _ s1 s2).mono ?_
  rintro e w10 ⟨rfl, b10⟩
  replace hp := blk_under hp b10 zp
  replace zp := Nat.lt_of_lt_of_le zp b10.size
  replace hd := blk_under hd b10 zd
  replace zd := Nat.lt_of_lt_of_le zd b10.size
  replace hr := blk_under hr b10 zr
  replace zr := Nat.lt_of_lt_of_le zr b10.size
  replace ho := ho.below b10
  replace hb := hb.below b10
  replace s1 := s1.below b10
  replace s2 := s2.below b10
  replace bel := bel.trans (b10.mono bel.size)
  clear b10
  go_wp2_with fail
  go_ret
  exact ⟨rfl, bel⟩
theorem udpReads_walk (tos id fl pt ttl pr : Int) (a0 a1 a2 a3 a4 a5 a6 a7 : UInt8) (So : Option Addr) (no co : Nat) (lo : List UInt8) (Sb : Option Addr) (nb cb : Nat) (lb : List UInt8) (w : World) (ho : Sl w So no co lo) (hb : Sl w Sb nb cb lb) : Calls Try.prog 4 #[.agg #[.int .i64 tos, .int .i64 id, .int .i64 fl, .int .i64 pt, .int .i64 ttl, .int .i64 pr, .int .u8 (a0.toNat : Int), .int .u8 (a1.toNat : Int), .int .u8 (a2.toNat : Int), .int .u8 (a3.toNat : Int), .int .u8 (a4.toNat : Int), .int .u8 (a5.toNat : Int), .int .u8 (a6.toNat : Int), .int .u8 (a7.toNat : Int), .slice So no co, .slice Sb nb cb]] w fun e w' => e = .returned (.bool true) ∧ Below w.heap.size w w' := by
  by_cases h1 : nb ≤ 1600
  · by_cases h2 : no ≤ 60
    · exact udpReads_3 tos id fl pt ttl pr a0 a1 a2 a3 a4 a5 a6 a7 So no co lo Sb nb cb lb w ho hb h1 h2
    · exact udpReads_2 tos id fl pt ttl pr a0 a1 a2 a3 a4 a5 a6 a7 So no co lo Sb nb cb lb w h1 (by omega)
  · exact udpReads_1 tos id fl pt ttl pr a0 a1 a2 a3 a4 a5 a6 a7 So no co lo Sb nb cb lb w (by omega)
theorem udput_good (tos id fl pt ttl pr : Int) (a0 a1 a2 a3 a4 a5 a6 a7 : UInt8) (So Sb : Option Addr) (no co nb cb : Nat) (df dt : Int) (D : Option Addr) (nd cd : Nat) (lo ld : List UInt8) (w : World) (ho : Sl w So no co lo) (hb : Sl w D nd cd ld) (h1 : portOk df = true) (h2 : portOk dt = true) (hn : nd ≤ 1472) (hno : no ≤ 100000) : Calls Try.prog 9 #[.agg #[.int .i64 tos, .int .i64 id, .int .i64 fl, .int .i64 pt, .int .i64 ttl, .int .i64 pr, .int .u8 (a0.toNat : Int), .int .u8 (a1.toNat : Int), .int .u8 (a2.toNat : Int), .int .u8 (a3.toNat : Int), .int .u8 (a4.toNat : Int), .int .u8 (a5.toNat : Int), .int .u8 (a6.toNat : Int), .int .u8 (a7.toNat : Int), .slice So no co, .slice Sb nb cb], .agg #[.int .i64 df, .int .i64 dt, .slice D nd cd]] w fun e w' => ∃ Ao co' Ab cb', e = .returned (.tuple #[.agg #[.int .i64 tos, .int .i64 id, .int .i64 fl, .int .i64 pt, .int .i64 ttl, .int .i64 17, .int .u8 (a0.toNat : Int), .int .u8 (a1.toNat : Int), .int .u8 (a2.toNat : Int), .int .u8 (a3.toNat : Int), .int .u8 (a4.toNat : Int), .int .u8 (a5.toNat : Int), .int .u8 (a6.toNat : Int), .int .u8 (a7.toNat : Int), .slice Ao no co', .slice Ab (8 + nd) cb'], .int .i64 0]) ∧ Sl w' Ao no co' lo ∧ Sl w' Ab (8 + nd) cb' (udBytes a0 a1 a2 a3 a4 a5 a6 a7 df dt ld) ∧ Fr w.heap.size Ao no ∧ Fr w.heap.size Ab (8 + nd) ∧ Below w.heap.size w w' := by
  refine (udput_any tos id fl pt ttl pr a0 a1 a2 a3 a4 a5 a6 a7 So Sb no co nb cb df dt D nd cd lo ld w ho hb (by omega) hno).mono ?_
  rintro e w' ⟨f0, f1, f2, f3, f4, f5, g0, g1, g2, g3, g4, g5, g6, g7, lo', lb', Ao, Ab, co', cb', er', rfl, ho', hbb, fo, fb, bel, hq⟩
  have hP : udPut tos id fl pt ttl a0 a1 a2 a3 a4 a5 a6 a7 lo df dt ld = (([tos, id, fl, pt, ttl, 17], [a0, a1, a2, a3, a4, a5, a6, a7]), (lo, udBytes a0 a1 a2 a3 a4 a5 a6 a7 df dt ld), 0) := by
    unfold udPut
    rw [if_neg (by rw [h1, h2]; decide), if_neg (by rw [hb.1]; omega)]
  rw [hP] at hq
  simp only [Prod.mk.injEq, List.cons.injEq, and_true] at hq
  obtain ⟨⟨⟨rfl, rfl, rfl, rfl, rfl, rfl⟩, rfl, rfl, rfl, rfl, rfl, rfl, rfl, rfl⟩, ⟨rfl, rfl⟩, rfl⟩ := hq
  have hl : (udBytes g0 g1 g2 g3 g4 g5 g6 g7 df dt ld).length = 8 + nd := by rw [udBytes_len, hb.1]
  have hl2 := ho.1
  rw [hl] at hbb fb ⊢
  rw [hl2] at ho' fo ⊢
  exact ⟨Ao, co', Ab, cb', rfl, ho', hbb, fo, fb, bel⟩
theorem udput_er (tos id fl pt ttl pr : Int) (a0 a1 a2 a3 a4 a5 a6 a7 : UInt8) (So Sb : Option Addr) (no co nb cb : Nat) (df dt : Int) (D : Option Addr) (nd cd : Nat) (lo ld : List UInt8) (w : World) (ho : Sl w So no co lo) (hb : Sl w D nd cd ld) (hn : nd ≤ 100000) (hno : no ≤ 100000) : Calls Try.prog 9 #[.agg #[.int .i64 tos, .int .i64 id, .int .i64 fl, .int .i64 pt, .int .i64 ttl, .int .i64 pr, .int .u8 (a0.toNat : Int), .int .u8 (a1.toNat : Int), .int .u8 (a2.toNat : Int), .int .u8 (a3.toNat : Int), .int .u8 (a4.toNat : Int), .int .u8 (a5.toNat : Int), .int .u8 (a6.toNat : Int), .int .u8 (a7.toNat : Int), .slice So no co, .slice Sb nb cb], .agg #[.int .i64 df, .int .i64 dt, .slice D nd cd]] w fun e w' => ∃ f0 f1 f2 f3 f4 f5 : Int, ∃ g0 g1 g2 g3 g4 g5 g6 g7 : UInt8, ∃ Ao n1 co' Ab n2 cb', e = .returned (.tuple #[.agg #[.int .i64 f0, .int .i64 f1, .int .i64 f2, .int .i64 f3, .int .i64 f4, .int .i64 f5, .int .u8 (g0.toNat : Int), .int .u8 (g1.toNat : Int), .int .u8 (g2.toNat : Int), .int .u8 (g3.toNat : Int), .int .u8 (g4.toNat : Int), .int .u8 (g5.toNat : Int), .int .u8 (g6.toNat : Int), .int .u8 (g7.toNat : Int), .slice Ao n1 co', .slice Ab n2 cb'], .int .i64 (udPut tos id fl pt ttl a0 a1 a2 a3 a4 a5 a6 a7 lo df dt ld).2.2]) ∧ Below w.heap.size w w' := by
  refine (udput_any tos id fl pt ttl pr a0 a1 a2 a3 a4 a5 a6 a7 So Sb no co nb cb df dt D nd cd lo ld w ho hb hn hno).mono ?_
  rintro e w' ⟨f0, f1, f2, f3, f4, f5, g0, g1, g2, g3, g4, g5, g6, g7, lo', lb', Ao, Ab, co', cb', er', rfl, ho', hbb, fo, fb, bel, hq⟩
  rw [← hq]
  exact ⟨_, _, _, _, _, _, _, _, _, _, _, _, _, _, _, _, _, _, _, _, rfl, bel⟩
theorem rudput_good (tos id fl pt ttl pr : Int) (a0 a1 a2 a3 a4 a5 a6 a7 : UInt8) (So Sb : Option Addr) (no co nb cb : Nat) (df dt : Int) (D : Option Addr) (nd cd : Nat) (lo ld : List UInt8) (w : World) (ho : Sl w So no co lo) (hb : Sl w D nd cd ld) (h1 : portOk df = true) (h2 : portOk dt = true) (hn : nd ≤ 1472) (hno : no ≤ 100000) : Calls Try.prog 15 #[.agg #[.int .i64 tos, .int .i64 id, .int .i64 fl, .int .i64 pt, .int .i64 ttl, .int .i64 pr, .int .u8 (a0.toNat : Int), .int .u8 (a1.toNat : Int), .int .u8 (a2.toNat : Int), .int .u8 (a3.toNat : Int), .int .u8 (a4.toNat : Int), .int .u8 (a5.toNat : Int), .int .u8 (a6.toNat : Int), .int .u8 (a7.toNat : Int), .slice So no co, .slice Sb nb cb], .agg #[.int .i64 df, .int .i64 dt, .slice D nd cd]] w fun e w' => ∃ Ao co' Ab cb', e = .returned (.tuple #[.agg #[.int .i64 tos, .int .i64 id, .int .i64 fl, .int .i64 pt, .int .i64 ttl, .int .i64 17, .int .u8 (a0.toNat : Int), .int .u8 (a1.toNat : Int), .int .u8 (a2.toNat : Int), .int .u8 (a3.toNat : Int), .int .u8 (a4.toNat : Int), .int .u8 (a5.toNat : Int), .int .u8 (a6.toNat : Int), .int .u8 (a7.toNat : Int), .slice Ao no co', .slice Ab (8 + nd) cb'], .int .i64 0]) ∧ Sl w' Ao no co' lo ∧ Sl w' Ab (8 + nd) cb' (udBytes a0 a1 a2 a3 a4 a5 a6 a7 df dt ld) ∧ Fr w.heap.size Ao no ∧ Fr w.heap.size Ab (8 + nd) ∧ Below w.heap.size w w' := by
  refine (rudput_any tos id fl pt ttl pr a0 a1 a2 a3 a4 a5 a6 a7 So Sb no co nb cb df dt D nd cd lo ld w ho hb (by omega) hno).mono ?_
  rintro e w' ⟨f0, f1, f2, f3, f4, f5, g0, g1, g2, g3, g4, g5, g6, g7, lo', lb', Ao, Ab, co', cb', er', rfl, ho', hbb, fo, fb, bel, hq⟩
  have hP : udPut tos id fl pt ttl a0 a1 a2 a3 a4 a5 a6 a7 lo df dt ld = (([tos, id, fl, pt, ttl, 17], [a0, a1, a2, a3, a4, a5, a6, a7]), (lo, udBytes a0 a1 a2 a3 a4 a5 a6 a7 df dt ld), 0) := by
    unfold udPut
    rw [if_neg (by rw [h1, h2]; decide), if_neg (by rw [hb.1]; omega)]
  rw [hP] at hq
  simp only [Prod.mk.injEq, List.cons.injEq, and_true] at hq
  obtain ⟨⟨⟨rfl, rfl, rfl, rfl, rfl, rfl⟩, rfl, rfl, rfl, rfl, rfl, rfl, rfl, rfl⟩, ⟨rfl, rfl⟩, rfl⟩ := hq
  have hl : (udBytes g0 g1 g2 g3 g4 g5 g6 g7 df dt ld).length = 8 + nd := by rw [udBytes_len, hb.1]
  have hl2 := ho.1
  rw [hl] at hbb fb ⊢
  rw [hl2] at ho' fo ⊢
  exact ⟨Ao, co', Ab, cb', rfl, ho', hbb, fo, fb, bel⟩
theorem rudput_er (tos id fl pt ttl pr : Int) (a0 a1 a2 a3 a4 a5 a6 a7 : UInt8) (So Sb : Option Addr) (no co nb cb : Nat) (df dt : Int) (D : Option Addr) (nd cd : Nat) (lo ld : List UInt8) (w : World) (ho : Sl w So no co lo) (hb : Sl w D nd cd ld) (hn : nd ≤ 100000) (hno : no ≤ 100000) : Calls Try.prog 15 #[.agg #[.int .i64 tos, .int .i64 id, .int .i64 fl, .int .i64 pt, .int .i64 ttl, .int .i64 pr, .int .u8 (a0.toNat : Int), .int .u8 (a1.toNat : Int), .int .u8 (a2.toNat : Int), .int .u8 (a3.toNat : Int), .int .u8 (a4.toNat : Int), .int .u8 (a5.toNat : Int), .int .u8 (a6.toNat : Int), .int .u8 (a7.toNat : Int), .slice So no co, .slice Sb nb cb], .agg #[.int .i64 df, .int .i64 dt, .slice D nd cd]] w fun e w' => ∃ f0 f1 f2 f3 f4 f5 : Int, ∃ g0 g1 g2 g3 g4 g5 g6 g7 : UInt8, ∃ Ao n1 co' Ab n2 cb', e = .returned (.tuple #[.agg #[.int .i64 f0, .int .i64 f1, .int .i64 f2, .int .i64 f3, .int .i64 f4, .int .i64 f5, .int .u8 (g0.toNat : Int), .int .u8 (g1.toNat : Int), .int .u8 (g2.toNat : Int), .int .u8 (g3.toNat : Int), .int .u8 (g4.toNat : Int), .int .u8 (g5.toNat : Int), .int .u8 (g6.toNat : Int), .int .u8 (g7.toNat : Int), .slice Ao n1 co', .slice Ab n2 cb'], .int .i64 (udPut tos id fl pt ttl a0 a1 a2 a3 a4 a5 a6 a7 lo df dt ld).2.2]) ∧ Below w.heap.size w w' := by
  refine (rudput_any tos id fl pt ttl pr a0 a1 a2 a3 a4 a5 a6 a7 So Sb no co nb cb df dt D nd cd lo ld w ho hb hn hno).mono ?_
  rintro e w' ⟨f0, f1, f2, f3, f4, f5, g0, g1, g2, g3, g4, g5, g6, g7, lo', lb', Ao, Ab, co', cb', er', rfl, ho', hbb, fo, fb, bel, hq⟩
  rw [← hq]
  exact ⟨_, _, _, _, _, _, _, _, _, _, _, _, _, _, _, _, _, _, _, _, rfl, bel⟩
set_option linter.unusedVariables false in
set_option maxRecDepth 100000 in
set_option maxHeartbeats 16000000 in
theorem udpWrites_1 (tos id fl pt ttl pr : Int) (a0 a1 a2 a3 a4 a5 a6 a7 : UInt8) (So : Option Addr) (no co : Nat) (lo : List UInt8) (Sb : Option Addr) (nb cb : Nat) (lb : List UInt8) (df dt : Int) (D : Option Addr) (nd cd : Nat) (ld : List UInt8) (w : World) (h1 : 1600 < nb) : Calls Try.prog 5 #[.agg #[.int .i64 tos, .int .i64 id, .int .i64 fl, .int .i64 pt, .int .i64 ttl, .int .i64 pr, .int .u8 (a0.toNat : Int), .int .u8 (a1.toNat : Int), .int .u8 (a2.toNat : Int), .int .u8 (a3.toNat : Int), .int .u8 (a4.toNat : Int), .int .u8 (a5.toNat : Int), .int .u8 (a6.toNat : Int), .int .u8 (a7.toNat : Int), .slice So no co, .slice Sb nb cb], .agg #[.int .i64 df, .int .i64 dt, .slice D nd cd]] w fun e w' => e = .returned (.bool true) ∧ Below w.heap.size w w' := by
  have t1 : (1600 : Int) < nb := by omega
  clear h1
  have bel := Below.refl w.heap.size w
  go_enter Try.func5, Try.ntmps5
  go_wp2_with (first | ((with_reducible show wpList _ _ _ (⟨some 2, _, _, _, _, _⟩ :: _) _ _); refine wpList_box_n rfl 27 (.tmp 0) rfl #[.int .i64 tos, .int .i64 id, .int .i64 fl, .int .i64 pt, .int .i64 ttl, .int .i64 pr, .int .u8 (a0.toNat : Int), .int .u8 (a1.toNat : Int), .int .u8 (a2.toNat : Int), .int .u8 (a3.toNat : Int), .int .u8 (a4.toNat : Int), .int .u8 (a5.toNat : Int), .int .u8 (a6.toNat : Int), .int .u8 (a7.toNat : Int), .slice So no co, .slice Sb nb cb] rfl ?_; intro g2 w1 ge lt hh bb; have op := Nat.le_trans bel.size ge; replace bel := bel.trans (bb.mono bel.size); have hp := hh; have zp := lt; clear hh lt ge bb) | ((with_reducible show wpList _ _ _ (⟨some 3, _, _, _, _, _⟩ :: _) _ _); refine wpList_box_n rfl 33 (.tmp 1) rfl #[.int .i64 df, .int .i64 dt, .slice D nd cd] rfl ?_; intro g3 w2 ge lt hh bb; have d_p_d := ne_new zp ge; have od := Nat.le_trans bel.size ge; replace hp := blk_under hp bb zp; replace zp := Nat.lt_of_lt_of_le zp bb.size; replace bel := bel.trans (bb.mono bel.size); have hd := hh; have zd := lt; clear hh lt ge bb))
  with_reducible refine (awake7 _).mono ?_
  rintro e w3 ⟨rfl, b3⟩
  replace hp := blk_under hp b3 zp
  replace zp := Nat.lt_of_lt_of_le zp b3.size
  replace hd := blk_under hd b3 zd
  replace zd := Nat.lt_of_lt_of_le zd b3.size
  replace bel := bel.trans (b3.mono bel.size)
  clear b3
  have R14 := cell_lit hp 15 _ rfl
  go_wp2_with fail
  clear R14
  go_ret
  exact ⟨rfl, bel⟩
set_option linter.unusedVariables false in
set_option maxRecDepth 100000 in
set_option maxHeartbeats 16000000 in
theorem udpWrites_2 (tos id fl pt ttl pr : Int) (a0 a1 a2 a3 a4 a5 a6 a7 : UInt8) (So : Option Addr) (no co : Nat) (lo : List UInt8) (Sb : Option Addr) (nb cb : Nat) (lb : List UInt8) (df dt : Int) (D : Option Addr) (nd cd : Nat) (ld : List UInt8) (w : World) (h1 : nb ≤ 1600) (h2 : 60 < no) : Calls Try.prog 5 #[.agg #[.int .i64 tos, .int .i64 id, .int .i64 fl, .int .i64 pt, .int .i64 ttl, .int .i64 pr, .int .u8 (a0.toNat : Int), .int .u8 (a1.toNat : Int), .int .u8 (a2.toNat : Int), .int .u8 (a3.toNat : Int), .int .u8 (a4.toNat : Int), .int .u8 (a5.toNat : Int), .int .u8 (a6.toNat : Int), .int .u8 (a7.toNat : Int), .slice So no co, .slice Sb nb cb], .agg #[.int .i64 df, .int .i64 dt, .slice D nd cd]] w fun e w' => e = .returned (.bool true) ∧ Below w.heap.size w w' := by
  have t1 : decide ((1600 : Int) < nb) = false := decide_eq_false (by omega)
  have t2 : (60 : Int) < no := by omega
  clear h1 h2
  have bel := Below.refl w.heap.size w
  go_enter Try.func5, Try.ntmps5
  go_wp2_with (first | ((with_reducible show wpList _ _ _ (⟨some 2, _, _, _, _, _⟩ :: _) _ _); refine wpList_box_n rfl 27 (.tmp 0) rfl #[.int .i64 tos, .int .i64 id, .int .i64 fl, .int .i64 pt, .int .i64 ttl, .int .i64 pr, .int .u8 (a0.toNat : Int), .int .u8 (a1.toNat : Int), .int .u8 (a2.toNat : Int), .int .u8 (a3.toNat : Int), .int .u8 (a4.toNat : Int), .int .u8 (a5.toNat : Int), .int .u8 (a6.toNat : Int), .int .u8 (a7.toNat : Int), .slice So no co, .slice Sb nb cb] rfl ?_; intro g2 w1 ge lt hh bb; have op := Nat.le_trans bel.size ge; replace bel := bel.trans (bb.mono bel.size); have hp := hh; have zp := lt; clear hh lt ge bb) | ((with_reducible show wpList _ _ _ (⟨some 3, _, _, _, _, _⟩ :: _) _ _); refine wpList_box_n rfl 33 (.tmp 1) rfl #[.int .i64 df, .int .i64 dt, .slice D nd cd] rfl ?_; intro g3 w2 ge lt hh bb; have d_p_d := ne_new zp ge; have od := Nat.le_trans bel.size ge; replace hp := blk_under hp bb zp; replace zp := Nat.lt_of_lt_of_le zp bb.size; replace bel := bel.trans (bb.mono bel.size); have hd := hh; have zd := lt; clear hh lt ge bb))
  with_reducible refine (awake7 _).mono ?_
  rintro e w3 ⟨rfl, b3⟩
  replace hp := blk_under hp b3 zp
  replace zp := Nat.lt_of_lt_of_le zp b3.size
  replace hd := blk_under hd b3 zd
  replace zd := Nat.lt_of_lt_of_le zd b3.size
  replace bel := bel.trans (b3.mono bel.size)
  clear b3
  have R14 := cell_lit hp 15 _ rfl
  have R19 := cell_lit hp 14 _ rfl
  go_wp2_with fail
  clear R14 R19
  go_ret
  exact ⟨rfl, bel⟩
set_option linter.unusedVariables false in
set_option maxRecDepth 100000 in
set_option maxHeartbeats 16000000 in
theorem udpWrites_3 (tos id fl pt ttl pr : Int) (a0 a1 a2 a3 a4 a5 a6 a7 : UInt8) (So : Option Addr) (no co : Nat) (lo : List UInt8) (Sb : Option Addr) (nb cb : Nat) (lb : List UInt8) (df dt : Int) (D : Option Addr) (nd cd : Nat) (ld : List UInt8) (w : World) (h1 : nb ≤ 1600) (h2 : no ≤ 60) (h3 : 1600 < nd) : Calls Try.prog 5 #[.agg #[.int .i64 tos, .int .i64 id, .int .i64 fl, .int .i64 pt, .int .i64 ttl, .int .i64 pr, .int .u8 (a0.toNat : Int), .int .u8 (a1.toNat : Int), .int .u8 (a2.toNat : Int), .int .u8 (a3.toNat : Int), .int .u8 (a4.toNat : Int), .int .u8 (a5.toNat : Int), .int .u8 (a6.toNat : Int), .int .u8 (a7.toNat : Int), .slice So no co, .slice Sb nb cb], .agg #[.int .i64 df, .int .i64 dt, .slice D nd cd]] w fun e w' => e = .returned (.bool true) ∧ Below w.heap.size w w' := by
  have t1 : decide ((1600 : Int) < nb) = false := decide_eq_false (by omega)
  have t2 : decide ((60 : Int) < no) = false := decide_eq_false (by omega)
  have t3 : (1600 : Int) < nd := by omega
  clear h1 h2 h3
  have bel := Below.refl w.heap.size w
  go_enter Try.func5, Try.ntmps5
  go_wp2_with (first | ((with_reducible show wpList _ _ _ (⟨some 2, _, _, _, _, _⟩ :: _) _ _); refine wpList_box_n rfl 27 (.tmp 0) rfl #[.int .i64 tos, .int .i64 id, .int .i64 fl, .int .i64 pt, .int .i64 ttl, .int .i64 pr, .int .u8 (a0.toNat : Int), .int .u8 (a1.toNat : Int), .int .u8 (a2.toNat : Int), .int .u8 (a3.toNat : Int), .int .u8 (a4.toNat : Int), .int .u8 (a5.toNat : Int), .int .u8 (a6.toNat : Int), .int .u8 (a7.toNat : Int), .slice So no co, .slice Sb nb cb] rfl ?_; intro g2 w1 ge lt hh bb; have op := Nat.le_trans bel.size ge; replace bel := bel.trans (bb.mono bel.size); have hp := hh; have zp := lt; clear hh lt ge bb) | ((with_reducible show wpList _ _ _ (⟨some 3, _, _, _, _, _⟩ :: _) _ _); refine wpList_box_n rfl 33 (.tmp 1) rfl #[.int .i64 df, .int .i64 dt, .slice D nd cd] rfl ?_; intro g3 w2 ge lt hh bb; have d_p_d := ne_new zp ge; have od := Nat.le_trans bel.size ge; replace hp := blk_under hp bb zp; replace zp := Nat.lt_of_lt_of_le zp bb.size; replace bel := bel.trans (bb.mono bel.size); have hd := hh; have zd := lt; clear hh lt ge bb))
  with_reducible refine (awake7 _).mono ?_
  rintro e w3 ⟨rfl, b3⟩
  replace hp := blk_under hp b3 zp
  replace zp := Nat.lt_of_lt_of_le zp b3.size
  replace hd := blk_under hd b3 zd
  replace zd := Nat.lt_of_lt_of_le zd b3.size
  replace bel := bel.trans (b3.mono bel.size)
  clear b3
  have R14 := cell_lit hp 15 _ rfl
  have R19 := cell_lit hp 14 _ rfl
  have R25 := cell_lit hd 2 _ rfl
  go_wp2_with fail
  clear R14 R19 R25
  go_ret
  exact ⟨rfl, bel⟩
set_option linter.unusedVariables false in
set_option maxRecDepth 100000 in
set_option maxHeartbeats 16000000 in
theorem udpWrites_4 (tos id fl pt ttl pr : Int) (a0 a1 a2 a3 a4 a5 a6 a7 : UInt8) (So : Option Addr) (no co : Nat) (lo : List UInt8) (Sb : Option Addr) (nb cb : Nat) (lb : List UInt8) (df dt : Int) (D : Option Addr) (nd cd : Nat) (ld : List UInt8) (w : World) (ho : Sl w So no co lo) (hb : Sl w Sb nb cb lb) (hD : Sl w D nd cd ld) (h1 : nb ≤ 1600) (h2 : no ≤ 60) (h3 : nd ≤ 1600) (er : Int) (he : (udPut tos id fl pt ttl a0 a1 a2 a3 a4 a5 a6 a7 lo df dt ld).2.2 = er) (hz : er ≠ 0) : Calls Try.prog 5 #[.agg #[.int .i64 tos, .int .i64 id, .int .i64 fl, .int .i64 pt, .int .i64 ttl, .int .i64 pr, .int .u8 (a0.toNat : Int), .int .u8 (a1.toNat : Int), .int .u8 (a2.toNat : Int), .int .u8 (a3.toNat : Int), .int .u8 (a4.toNat : Int), .int .u8 (a5.toNat : Int), .int .u8 (a6.toNat : Int), .int .u8 (a7.toNat : Int), .slice So no co, .slice Sb nb cb], .agg #[.int .i64 df, .int .i64 dt, .slice D nd cd]] w fun e w' => e = .returned (.bool true) ∧ Below w.heap.size w w' := by
  have t1 : decide ((1600 : Int) < nb) = false := decide_eq_false (by omega)
  have t2 : decide ((60 : Int) < no) = false := decide_eq_false (by omega)
  have t3 : decide ((1600 : Int) < nd) = false := decide_eq_false (by omega)
  have H2 := Lib.hid h2
  have H3 := Lib.hid h3
  clear h1 h2 h3
  have HE := Lib.hid he
  have t4 : (er == 0) = false := by simpa using hz
  have t5 : (er != 0) = true := by simpa using hz
  clear he hz
  have bel := Below.refl w.heap.size w
  go_enter Try.func5, Try.ntmps5
  go_wp2_with (first | ((with_reducible show wpList _ _ _ (⟨some 2, _, _, _, _, _⟩ :: _) _ _); refine wpList_box_n rfl 27 (.tmp 0) rfl #[.int .i64 tos, .int .i64 id, .int .i64 fl, .int .i64 pt, .int .i64 ttl, .int .i64 pr, .int .u8 (a0.toNat : Int), .int .u8 (a1.toNat : Int), .int .u8 (a2.toNat : Int), .int .u8 (a3.toNat : Int), .int .u8 (a4.toNat : Int), .int .u8 (a5.toNat : Int), .int .u8 (a6.toNat : Int), .int .u8 (a7.toNat : Int), .slice So no co, .slice Sb nb cb] rfl ?_; intro g2 w1 ge lt hh bb; have av_ho_p := ho.av_new ge; have av_hb_p := hb.av_new ge; have av_hD_p := hD.av_new ge; have op := Nat.le_trans bel.size ge; replace ho := ho.below bb; replace hb := hb.below bb; replace hD := hD.below bb; replace bel := bel.trans (bb.mono bel.size); have hp := hh; have zp := lt; clear hh lt ge bb) | ((with_reducible show wpList _ _ _ (⟨some 3, _, _, _, _, _⟩ :: _) _ _); refine wpList_box_n rfl 33 (.tmp 1) rfl #[.int .i64 df, .int .i64 dt, .slice D nd cd] rfl ?_; intro g3 w2 ge lt hh bb; have d_p_d := ne_new zp ge; have av_ho_d := ho.av_new ge; have av_hb_d := hb.av_new ge; have av_hD_d := hD.av_new ge; have od := Nat.le_trans bel.size ge; replace hp := blk_under hp bb zp; replace zp := Nat.lt_of_lt_of_le zp bb.size; replace ho := ho.below bb; replace hb := hb.below bb; replace hD := hD.below bb; replace bel := bel.trans (bb.mono bel.size); have hd := hh; have zd := lt; clear hh lt ge bb))
  with_reducible refine (awake7 _).mono ?_
  rintro e w3 ⟨rfl, b3⟩
  replace hp := blk_under hp b3 zp
  replace zp := Nat.lt_of_lt_of_le zp b3.size
  replace hd := blk_under hd b3 zd
  replace zd := Nat.lt_of_lt_of_le zd b3.size
  replace ho := ho.below b3
  replace hb := hb.below b3
  replace hD := hD.below b3
  replace bel := bel.trans (b3.mono bel.size)
  clear b3
  have R14 := cell_lit hp 15 _ rfl
  have R19 := cell_lit hp 14 _ rfl
  have R25 := cell_lit hd 2 _ rfl
  have R30 := Lib.hid (range_lit hp 0 16 [.int .i64 tos, .int .i64 id, .int .i64 fl, .int .i64 pt, .int .i64 ttl, .int .i64 pr, .int .u8 (a0.toNat : Int), .int .u8 (a1.toNat : Int), .int .u8 (a2.toNat : Int), .int .u8 (a3.toNat : Int), .int .u8 (a4.toNat : Int), .int .u8 (a5.toNat : Int), .int .u8 (a6.toNat : Int), .int .u8 (a7.toNat : Int), .slice So no co, .slice Sb nb cb] rfl)
  go_wp2_with (first | ((with_reducible show wpList _ _ _ (⟨some 30, _, _, _, _, _⟩ :: _) _ _); refine wpList_load_rng 27 (.tmp 2) rfl (by kernel_rfl) _ _ rfl _ R30.out _ Try.underlying27 rfl (by kernel_rfl) ?_; have R31 := Lib.hid (range_lit hd 0 3 [.int .i64 df, .int .i64 dt, .slice D nd cd] rfl)) | ((with_reducible show wpList _ _ _ (⟨some 31, _, _, _, _, _⟩ :: _) _ _); refine wpList_load_rng 33 (.tmp 3) rfl (by kernel_rfl) _ _ rfl _ R31.out _ Try.underlying33 rfl (by kernel_rfl) ?_))
  try clear R14
  try clear R19
  try clear R25
  try clear R30
  try clear R31
  with_reducible refine (udput_er _ _ _ _ _ _ _ _ _ _ _ _ _ _ _ _ _ _ _ _ _ _ _ _ _ _ _ _ ho hD (by have := H3.out; omega) (by have := H2.out; omega)).mono ?_
  rintro e w4 ⟨f01, f11, f21, f31, f41, f51, g01, g11, g21, g31, g41, g51, g61, g71, Ao1, m1, co1, Ab1, n1, cb1, rfl, b4⟩
  replace hp := blk_under hp b4 zp
  replace zp := Nat.lt_of_lt_of_le zp b4.size
  replace hd := blk_under hd b4 zd
  replace zd := Nat.lt_of_lt_of_le zd b4.size
  replace ho := ho.below b4
  replace hb := hb.below b4
  replace hD := hD.below b4
  replace bel := bel.trans (b4.mono bel.size)
  clear b4
  rw [HE.out]
  go_wp2_with (first | ((with_reducible show wpList _ _ _ (⟨some 5, _, _, _, _, _⟩ :: _) _ _); refine wpList_new_n rfl 27 rfl (.agg #[.int .i64 0, .int .i64 0, .int .i64 0, .int .i64 0, .int .i64 0, .int .i64 0, .int .u8 0, .int .u8 0, .int .u8 0, .int .u8 0, .int .u8 0, .int .u8 0, .int .u8 0, .int .u8 0, .slice none 0 0, .slice none 0 0]) (by kernel_rfl) #[.int .i64 0, .int .i64 0, .int .i64 0, .int .i64 0, .int .i64 0, .int .i64 0, .int .u8 0, .int .u8 0, .int .u8 0, .int .u8 0, .int .u8 0, .int .u8 0, .int .u8 0, .int .u8 0, .slice none 0 0, .slice none 0 0] rfl ?_; intro g5 w5 ge lt hh bb; have d_p_e := ne_new zp ge; have d_d_e := ne_new zd ge; have av_ho_e := ho.av_new ge; have av_hb_e := hb.av_new ge; have av_hD_e := hD.av_new ge; have oe := Nat.le_trans bel.size ge; replace hp := blk_under hp bb zp; replace zp := Nat.lt_of_lt_of_le zp bb.size; replace hd := blk_under hd bb zd; replace zd := Nat.lt_of_lt_of_le zd bb.size; replace ho := ho.below bb; replace hb := hb.below bb; replace hD := hD.below bb; replace bel := bel.trans (bb.mono bel.size); have he := hh; have ze := lt; clear hh lt ge bb) | ((with_reducible show wpList _ _ _ (⟨none, Op.store _ (.tmp 5) _, _, _, _, _⟩ :: _) _ _); refine wpList_store_blk rfl 27 (.tmp 5) (.tmp 33) rfl g5 rfl #[.int .i64 f01, .int .i64 f11, .int .i64 f21, .int .i64 f31, .int .i64 f41, .int .i64 f51, .int .u8 (g01.toNat : Int), .int .u8 (g11.toNat : Int), .int .u8 (g21.toNat : Int), .int .u8 (g31.toNat : Int), .int .u8 (g41.toNat : Int), .int .u8 (g51.toNat : Int), .int .u8 (g61.toNat : Int), .int .u8 (g71.toNat : Int), .slice Ao1 m1 co1, .slice Ab1 n1 cb1] rfl _ 27 he (by rfl) (by kernel_rfl) (by kernel_rfl) ?_; intro w6 hq gr; replace ho := ho.away av_ho_e gr; replace hb := hb.away av_hb_e gr; replace hD := hD.away av_hD_e gr; replace hp := blk_away hp gr zp d_p_e; replace hd := blk_away hd gr zd d_d_e; replace zp := Nat.lt_of_lt_of_le zp gr.size; replace zd := Nat.lt_of_lt_of_le zd gr.size; replace ze := Nat.lt_of_lt_of_le ze gr.size; replace bel := below_grown bel gr oe bel.size; clear he; have he := hq; clear hq gr))
  go_cut [7, 8] from 9999 (fun s7 s8 W => ∃ g7 : Nat, ∃ f02 : Int, ∃ f12 : Int, ∃ f22 : Int, ∃ f32 : Int, ∃ f42 : Int, ∃ f52 : Int, ∃ g02 : UInt8, ∃ g12 : UInt8, ∃ g22 : UInt8, ∃ g32 : UInt8, ∃ g42 : UInt8, ∃ g52 : UInt8, ∃ g62 : UInt8, ∃ g72 : UInt8, ∃ Ao2 : Option Addr, ∃ m2 : Nat, ∃ co2 : Nat, ∃ Ab2 : Option Addr, ∃ n2 : Nat, ∃ cb2 : Nat, s7 = .pointer (some ⟨g7, 0, none⟩) ∧ s8 = .int .i64 er ∧ W.heap[g2]? = some (.cells #[.int .i64 tos, .int .i64 id, .int .i64 fl, .int .i64 pt, .int .i64 ttl, .int .i64 pr, .int .u8 (a0.toNat : Int), .int .u8 (a1.toNat : Int), .int .u8 (a2.toNat : Int), .int .u8 (a3.toNat : Int), .int .u8 (a4.toNat : Int), .int .u8 (a5.toNat : Int), .int .u8 (a6.toNat : Int), .int .u8 (a7.toNat : Int), .slice So no co, .slice Sb nb cb] 27 (0, 0)) ∧ g2 < W.heap.size ∧ W.heap[g3]? = some (.cells #[.int .i64 df, .int .i64 dt, .slice D nd cd] 33 (0, 0)) ∧ g3 < W.heap.size ∧ W.heap[g5]? = some (.cells #[.int .i64 f01, .int .i64 f11, .int .i64 f21, .int .i64 f31, .int .i64 f41, .int .i64 f51, .int .u8 (g01.toNat : Int), .int .u8 (g11.toNat : Int), .int .u8 (g21.toNat : Int), .int .u8 (g31.toNat : Int), .int .u8 (g41.toNat : Int), .int .u8 (g51.toNat : Int), .int .u8 (g61.toNat : Int), .int .u8 (g71.toNat : Int), .slice Ao1 m1 co1, .slice Ab1 n1 cb1] 27 (0, 0)) ∧ g5 < W.heap.size ∧ W.heap[g7]? = some (.cells #[.int .i64 f02, .int .i64 f12, .int .i64 f22, .int .i64 f32, .int .i64 f42, .int .i64 f52, .int .u8 (g02.toNat : Int), .int .u8 (g12.toNat : Int), .int .u8 (g22.toNat : Int), .int .u8 (g32.toNat : Int), .int .u8 (g42.toNat : Int), .int .u8 (g52.toNat : Int), .int .u8 (g62.toNat : Int), .int .u8 (g72.toNat : Int), .slice Ao2 m2 co2, .slice Ab2 n2 cb2] 39 (0, 0)) ∧ g7 < W.heap.size ∧ w.heap.size ≤ g7 ∧ Hid (g3 ≠ g5) ∧ Hid (g3 ≠ g2) ∧ Hid (g3 ≠ g7) ∧ Hid (g5 ≠ g2) ∧ Hid (g5 ≠ g7) ∧ Hid (g2 ≠ g7) ∧ Sl W (So) (no) (co) (lo) ∧ Av (So) (no) g3 ∧ Av (So) (no) g5 ∧ Av (So) (no) g2 ∧ Av (So) (no) g7 ∧ Sl W (Sb) (nb) (cb) (lb) ∧ Av (Sb) (nb) g3 ∧ Av (Sb) (nb) g5 ∧ Av (Sb) (nb) g2 ∧ Av (Sb) (nb) g7 ∧ Sl W (D) (nd) (cd) (ld) ∧ Av (D) (nd) g3 ∧ Av (D) (nd) g5 ∧ Av (D) (nd) g2 ∧ Av (D) (nd) g7 ∧ Below w.heap.size w W)
  case first =>
    replace bel := bel.drew
    replace hp : w6.drew.heap[g2]? = _ := hp
    replace zp : _ < w6.drew.heap.size := zp
    replace hd : w6.drew.heap[g3]? = _ := hd
    replace zd : _ < w6.drew.heap.size := zd
    replace he : w6.drew.heap[g5]? = _ := he
    replace ze : _ < w6.drew.heap.size := ze
    replace ho := ho.drew
    replace hb := hb.drew
    replace hD := hD.drew
    refine wp_region_held_drew (S := fun W => W.heap[g2]? = some (.cells #[.int .i64 tos, .int .i64 id, .int .i64 fl, .int .i64 pt, .int .i64 ttl, .int .i64 pr, .int .u8 (a0.toNat : Int), .int .u8 (a1.toNat : Int), .int .u8 (a2.toNat : Int), .int .u8 (a3.toNat : Int), .int .u8 (a4.toNat : Int), .int .u8 (a5.toNat : Int), .int .u8 (a6.toNat : Int), .int .u8 (a7.toNat : Int), .slice So no co, .slice Sb nb cb] 27 (0, 0)) ∧ W.heap[g3]? = some (.cells #[.int .i64 df, .int .i64 dt, .slice D nd cd] 33 (0, 0))) (by kernel_rfl) ⟨hp, hd⟩ (fun hH => ?_)
    generalize w6.drew = w7 at bel hp zp hd zd he ze ho hb hD hH ⊢
    refine wpAnyH_take (i := 0) (v := .agg #[.int .i64 tos, .int .i64 id, .int .i64 fl, .int .i64 pt, .int .i64 ttl, .int .i64 pr, .int .u8 (a0.toNat : Int), .int .u8 (a1.toNat : Int), .int .u8 (a2.toNat : Int), .int .u8 (a3.toNat : Int), .int .u8 (a4.toNat : Int), .int .u8 (a5.toNat : Int), .int .u8 (a6.toNat : Int), .int .u8 (a7.toNat : Int), .slice So no co, .slice Sb nb cb]) rfl (by kernel_rfl) (by kernel_rfl) (by kernel_rfl) (fun _ _ _ h => h) (yieldsIf_load_part (by kernel_rfl) 27 _ rfl g2 0 16 rfl [.int .i64 tos, .int .i64 id, .int .i64 fl, .int .i64 pt, .int .i64 ttl, .int .i64 pr, .int .u8 (a0.toNat : Int), .int .u8 (a1.toNat : Int), .int .u8 (a2.toNat : Int), .int .u8 (a3.toNat : Int), .int .u8 (a4.toNat : Int), .int .u8 (a5.toNat : Int), .int .u8 (a6.toNat : Int), .int .u8 (a7.toNat : Int), .slice So no co, .slice Sb nb cb] 27 (0, 0) (fun W hW => hW.1) [.int .i64 tos, .int .i64 id, .int .i64 fl, .int .i64 pt, .int .i64 ttl, .int .i64 pr, .int .u8 (a0.toNat : Int), .int .u8 (a1.toNat : Int), .int .u8 (a2.toNat : Int), .int .u8 (a3.toNat : Int), .int .u8 (a4.toNat : Int), .int .u8 (a5.toNat : Int), .int .u8 (a6.toNat : Int), .int .u8 (a7.toNat : Int), .slice So no co, .slice Sb nb cb] rfl _ Try.underlying27 rfl (by kernel_rfl)) hH ?_
    simp only [Act.put, List.getElem_toArray, List.getElem_cons_zero, List.setIfInBounds_toArray, List.set_cons_zero, List.set_cons_succ]
    refine wpAnyH_take (i := 2) (v := ?_) rfl (by kernel_rfl) (by kernel_rfl) (by kernel_rfl) (fun _ _ _ h => h) (Or.inl ⟨by rfl, ?_⟩) hH ?_
    rotate_left
    · ((intro W hW; clear hW; go_simp) <;> with_reducible rfl)
    simp only [Act.put, List.getElem_toArray, List.getElem_cons_zero, List.getElem_cons_succ, List.setIfInBounds_toArray, List.set_cons_zero, List.set_cons_succ]
    refine wpAnyH_take (i := 3) (v := ?_) rfl (by kernel_rfl) (by kernel_rfl) (by kernel_rfl) (fun _ _ _ h => h) (Or.inl ⟨by rfl, ?_⟩) hH ?_
    rotate_left
    · ((intro W hW; have hk := cell_lit (hW.2) 0 _ rfl; clear hW; go_simp) <;> with_reducible rfl)
    simp only [Act.put, List.getElem_toArray, List.getElem_cons_zero, List.getElem_cons_succ, List.setIfInBounds_toArray, List.set_cons_zero, List.set_cons_succ]
    refine wpAnyH_take (i := 4) (v := ?_) rfl (by kernel_rfl) (by kernel_rfl) (by kernel_rfl) (fun _ _ _ h => h) (Or.inl ⟨by rfl, ?_⟩) hH ?_
    rotate_left
    · ((intro W hW; clear hW; go_simp) <;> with_reducible rfl)
    simp only [Act.put, List.getElem_toArray, List.getElem_cons_zero, List.getElem_cons_succ, List.setIfInBounds_toArray, List.set_cons_zero, List.set_cons_succ]
    refine wpAnyH_take (i := 5) (v := ?_) rfl (by kernel_rfl) (by kernel_rfl) (by kernel_rfl) (fun _ _ _ h => h) (Or.inl ⟨by rfl, ?_⟩) hH ?_
    rotate_left
    · ((intro W hW; have hk := cell_lit (hW.2) 1 _ rfl; clear hW; go_simp) <;> with_reducible rfl)
    simp only [Act.put, List.getElem_toArray, List.getElem_cons_zero, List.getElem_cons_succ, List.setIfInBounds_toArray, List.set_cons_zero, List.set_cons_succ]
    refine wpAnyH_take (i := 6) (v := ?_) rfl (by kernel_rfl) (by kernel_rfl) (by kernel_rfl) (fun _ _ _ h => h) (Or.inl ⟨by rfl, ?_⟩) hH ?_
    rotate_left
    · ((intro W hW; clear hW; go_simp) <;> with_reducible rfl)
    simp only [Act.put, List.getElem_toArray, List.getElem_cons_zero, List.getElem_cons_succ, List.setIfInBounds_toArray, List.set_cons_zero, List.set_cons_succ]
    refine wpAnyH_take (i := 7) (v := ?_) rfl (by kernel_rfl) (by kernel_rfl) (by kernel_rfl) (fun _ _ _ h => h) (Or.inl ⟨by rfl, ?_⟩) hH ?_
    rotate_left
    · ((intro W hW; have hk := cell_lit (hW.2) 2 _ rfl; clear hW; go_simp) <;> with_reducible rfl)
    simp only [Act.put, List.getElem_toArray, List.getElem_cons_zero, List.getElem_cons_succ, List.setIfInBounds_toArray, List.set_cons_zero, List.set_cons_succ]
    refine wpAnyH_take (i := 8) (v := ?_) rfl (by kernel_rfl) (by kernel_rfl) (by kernel_rfl) (fun _ _ _ h => h) (Or.inl ⟨by rfl, ?_⟩) hH ?_
    rotate_left
    · ((intro W hW; clear hW; go_simp) <;> with_reducible rfl)
    simp only [Act.put, List.getElem_toArray, List.getElem_cons_zero, List.getElem_cons_succ, List.setIfInBounds_toArray, List.set_cons_zero, List.set_cons_succ]
    refine wpAnyH_ready (rs := [1, 13]) (by kernel_rfl) (by simp) ?_
    refine AllReadyH.cons (o := _) rfl (fun K hK => ?_) (AllReadyH.cons (o := _) rfl (fun K hK => ?_) AllReadyH.nil)
    · simp only [List.getElem_toArray, List.getElem_cons_zero, List.getElem_cons_succ]
      go_simp
      with_reducible refine (own7_any _ _ _ _ _ _ _ _ _ _ _ _ _ _ _ _ _ _ _ _ _).mono ?_
      rintro e w8 ⟨rfl, b8⟩
      dsimp only
      replace hp := blk_under hp b8 zp
      replace zp := Nat.lt_of_lt_of_le zp b8.size
      replace hd := blk_under hd b8 zd
      replace zd := Nat.lt_of_lt_of_le zd b8.size
      replace he := blk_under he b8 ze
      replace ze := Nat.lt_of_lt_of_le ze b8.size
      replace ho := ho.below b8
      replace hb := hb.below b8
      replace hD := hD.below b8
      replace bel := bel.trans (b8.mono bel.size)
      clear b8
      refine hK.out _ _ ⟨hp, hd⟩ (fun hH9 => ?_)
      clear hK K
      refine wpAnyH_ready (rs := [9, 13]) (by kernel_rfl) (by simp) ?_
      refine AllReadyH.cons (o := _) rfl (fun K hK => ?_) (AllReadyH.cons (o := _) rfl (fun K hK => ?_) AllReadyH.nil)
      · simp only [List.getElem_toArray, List.getElem_cons_zero, List.getElem_cons_succ]
        go_simp
        with_reducible refine (rudput_er _ _ _ _ _ _ _ _ _ _ _ _ _ _ _ _ _ _ _ _ _ _ _ _ _ _ _ _ ho hD (by have := H3.out; omega) (by have := H2.out; omega)).mono ?_
        rintro e w10 ⟨f02, f12, f22, f32, f42, f52, g02, g12, g22, g32, g42, g52, g62, g72, Ao2, m2, co2, Ab2, n2, cb2, rfl, b10⟩
        dsimp only
        replace hp := blk_under hp b10 zp
        replace zp := Nat.lt_of_lt_of_le zp b10.size
        replace hd := blk_under hd b10 zd
        replace zd := Nat.lt_of_lt_of_le zd b10.size
        replace he := blk_under he b10 ze
        replace ze := Nat.lt_of_lt_of_le ze b10.size
        replace ho := ho.below b10
        replace hb := hb.below b10
        replace hD := hD.below b10
        replace bel := bel.trans (b10.mono bel.size)
        clear b10
        rw [HE.out]
        refine hK.out _ _ ⟨hp, hd⟩ (fun hH11 => ?_)
        clear hK K
        refine wpAnyH_take (i := 10) (v := ?_) rfl (by kernel_rfl) (by kernel_rfl) (by kernel_rfl) (fun _ _ _ h => h) (Or.inl ⟨by rfl, ?_⟩) hH11 ?_
        rotate_left
        · ((intro W hW; clear hW; go_simp) <;> with_reducible rfl)
        simp only [Act.put, List.getElem_toArray, List.getElem_cons_zero, List.getElem_cons_succ, List.setIfInBounds_toArray, List.set_cons_zero, List.set_cons_succ]
        refine wpAnyH_take (i := 11) (v := ?_) rfl (by kernel_rfl) (by kernel_rfl) (by kernel_rfl) (fun _ _ _ h => h) (Or.inl ⟨by rfl, ?_⟩) hH11 ?_
        rotate_left
        · ((intro W hW; clear hW; go_simp) <;> with_reducible rfl)
        simp only [Act.put, List.getElem_toArray, List.getElem_cons_zero, List.getElem_cons_succ, List.setIfInBounds_toArray, List.set_cons_zero, List.set_cons_succ]
        refine wpAnyH_take (i := 12) (v := ?_) rfl (by kernel_rfl) (by kernel_rfl) (by kernel_rfl) (fun _ _ _ h => h) (Or.inl ⟨by rfl, ?_⟩) hH11 ?_
        rotate_left
        · ((intro W hW; clear hW; go_simp) <;> with_reducible rfl)
        simp only [Act.put, List.getElem_toArray, List.getElem_cons_zero, List.getElem_cons_succ, List.setIfInBounds_toArray, List.set_cons_zero, List.set_cons_succ]
        refine wpAnyH_ready (rs := [13]) (by kernel_rfl) (by simp) ?_
        refine AllReadyH.cons (o := _) rfl (fun K hK => ?_) AllReadyH.nil
        simp only [List.getElem_toArray, List.getElem_cons_zero, List.getElem_cons_succ]
        rw [if_pos (by rfl)]
        refine wp_new_n 39 rfl (.agg #[.int .i64 0, .int .i64 0, .int .i64 0, .int .i64 0, .int .i64 0, .int .i64 0, .int .u8 0, .int .u8 0, .int .u8 0, .int .u8 0, .int .u8 0, .int .u8 0, .int .u8 0, .int .u8 0, .slice none 0 0, .slice none 0 0]) (by kernel_rfl) #[.int .i64 0, .int .i64 0, .int .i64 0, .int .i64 0, .int .i64 0, .int .i64 0, .int .u8 0, .int .u8 0, .int .u8 0, .int .u8 0, .int .u8 0, .int .u8 0, .int .u8 0, .int .u8 0, .slice none 0 0, .slice none 0 0] rfl ?_
        intro g7 w12 ge lt hh bb
        have d_p_r := ne_new zp ge
        have d_d_r := ne_new zd ge
        have d_e_r := ne_new ze ge
        have av_ho_r := ho.av_new ge
        have av_hb_r := hb.av_new ge
        have av_hD_r := hD.av_new ge
        have or := Nat.le_trans bel.size ge
        replace hp := blk_under hp bb zp
        replace zp := Nat.lt_of_lt_of_le zp bb.size
        replace hd := blk_under hd bb zd
        replace zd := Nat.lt_of_lt_of_le zd bb.size
        replace he := blk_under he bb ze
        replace ze := Nat.lt_of_lt_of_le ze bb.size
        replace ho := ho.below bb
        replace hb := hb.below bb
        replace hD := hD.below bb
        replace bel := bel.trans (bb.mono bel.size)
        have hr := hh
        have zr := lt
        clear hh lt ge bb
        refine hK.out _ _ ⟨hp, hd⟩ (fun hH13 => ?_)
        clear hK K
        refine wpAnyH_ready (rs := [14]) (by kernel_rfl) (by simp) ?_
        refine AllReadyH.cons (o := _) rfl (fun K hK => ?_) AllReadyH.nil
        simp only [List.getElem_toArray, List.getElem_cons_zero, List.getElem_cons_succ]
        rw [if_pos (by rfl)]
        refine wp_store_blk 39 (.tmp 7) (.tmp 46) rfl g7 rfl #[.int .i64 f02, .int .i64 f12, .int .i64 f22, .int .i64 f32, .int .i64 f42, .int .i64 f52, .int .u8 (g02.toNat : Int), .int .u8 (g12.toNat : Int), .int .u8 (g22.toNat : Int), .int .u8 (g32.toNat : Int), .int .u8 (g42.toNat : Int), .int .u8 (g52.toNat : Int), .int .u8 (g62.toNat : Int), .int .u8 (g72.toNat : Int), .slice Ao2 m2 co2, .slice Ab2 n2 cb2] rfl _ 39 hr (by rfl) (by kernel_rfl) (by kernel_rfl) ?_
        intro w14 hq gr
        replace ho := ho.away av_ho_r gr
        replace hb := hb.away av_hb_r gr
        replace hD := hD.away av_hD_r gr
        replace hp := blk_away hp gr zp d_p_r
        replace hd := blk_away hd gr zd d_d_r
        replace he := blk_away he gr ze d_e_r
        replace zp := Nat.lt_of_lt_of_le zp gr.size
        replace zd := Nat.lt_of_lt_of_le zd gr.size
        replace ze := Nat.lt_of_lt_of_le ze gr.size
        replace zr := Nat.lt_of_lt_of_le zr gr.size
        replace bel := below_grown bel gr or bel.size
        clear hr
        have hr := hq
        clear hq gr
        refine hK.out _ _ ⟨hp, hd⟩ (fun hH15 => ?_)
        clear hK K
        refine wpAnyH_take (i := 15) (v := ?_) rfl (by kernel_rfl) (by kernel_rfl) (by kernel_rfl) (fun _ _ _ h => h) (Or.inl ⟨by rfl, ?_⟩) hH15 ?_
        rotate_left
        · ((intro W hW; clear hW; go_simp) <;> with_reducible rfl)
        simp only [Act.put, List.getElem_toArray, List.getElem_cons_zero, List.getElem_cons_succ, List.setIfInBounds_toArray, List.set_cons_zero, List.set_cons_succ]
        refine wpAnyH_done (by kernel_rfl) ?_ _
        go_wp2_with fail
        go_meet
        case rel => exact ⟨g7, f02, f12, f22, f32, f42, f52, g02, g12, g22, g32, g42, g52, g62, g72, Ao2, m2, co2, Ab2, n2, cb2, rfl, rfl, hp, zp, hd, zd, he, ze, hr, zr, or, d_d_e, (ne_symm d_p_d), d_d_r, (ne_symm d_p_e), d_e_r, d_p_r, ho, av_ho_d, av_ho_e, av_ho_p, av_ho_r, hb, av_hb_d, av_hb_e, av_hb_p, av_hb_r, hD, av_hD_d, av_hD_e, av_hD_p, av_hD_r, bel⟩
      · simp only [List.getElem_toArray, List.getElem_cons_zero, List.getElem_cons_succ]
        rw [if_pos (by rfl)]
        refine wp_new_n 39 rfl (.agg #[.int .i64 0, .int .i64 0, .int .i64 0, .int .i64 0, .int .i64 0, .int .i64 0, .int .u8 0, .int .u8 0, .int .u8 0, .int .u8 0, .int .u8 0, .int .u8 0, .int .u8 0, .int .u8 0, .slice none 0 0, .slice none 0 0]) (by kernel_rfl) #[.int .i64 0, .int .i64 0, .int .i64 0, .int .i64 0, .int .i64 0, .int .i64 0, .int .u8 0, .int .u8 0, .int .u8 0, .int .u8 0, .int .u8 0, .int .u8 0, .int .u8 0, .int .u8 0, .slice none 0 0, .slice none 0 0] rfl ?_
        intro g7 w10 ge lt hh bb
        have d_p_r := ne_new zp ge
        have d_d_r := ne_new zd ge
        have d_e_r := ne_new ze ge
        have av_ho_r := ho.av_new ge
        have av_hb_r := hb.av_new ge
        have av_hD_r := hD.av_new ge
        have or := Nat.le_trans bel.size ge
        replace hp := blk_under hp bb zp
        replace zp := Nat.lt_of_lt_of_le zp bb.size
        replace hd := blk_under hd bb zd
        replace zd := Nat.lt_of_lt_of_le zd bb.size
        replace he := blk_under he bb ze
        replace ze := Nat.lt_of_lt_of_le ze bb.size
        replace ho := ho.below bb
        replace hb := hb.below bb
        replace hD := hD.below bb
        replace bel := bel.trans (bb.mono bel.size)
        have hr := hh
        have zr := lt
        clear hh lt ge bb
        refine hK.out _ _ ⟨hp, hd⟩ (fun hH11 => ?_)
        clear hK K
        refine wpAnyH_ready (rs := [9]) (by kernel_rfl) (by simp) ?_
        refine AllReadyH.cons (o := _) rfl (fun K hK => ?_) AllReadyH.nil
        simp only [List.getElem_toArray, List.getElem_cons_zero, List.getElem_cons_succ]
        go_simp
        with_reducible refine (rudput_er _ _ _ _ _ _ _ _ _ _ _ _ _ _ _ _ _ _ _ _ _ _ _ _ _ _ _ _ ho hD (by have := H3.out; omega) (by have := H2.out; omega)).mono ?_
        rintro e w12 ⟨f02, f12, f22, f32, f42, f52, g02, g12, g22, g32, g42, g52, g62, g72, Ao2, m2, co2, Ab2, n2, cb2, rfl, b12⟩
        dsimp only
        replace hp := blk_under hp b12 zp
        replace zp := Nat.lt_of_lt_of_le zp b12.size
        replace hd := blk_under hd b12 zd
        replace zd := Nat.lt_of_lt_of_le zd b12.size
        replace he := blk_under he b12 ze
        replace ze := Nat.lt_of_lt_of_le ze b12.size
        replace hr := blk_under hr b12 zr
        replace zr := Nat.lt_of_lt_of_le zr b12.size
        replace ho := ho.below b12
        replace hb := hb.below b12
        replace hD := hD.below b12
        replace bel := bel.trans (b12.mono bel.size)
        clear b12
        rw [HE.out]
        refine hK.out _ _ ⟨hp, hd⟩ (fun hH13 => ?_)
        clear hK K
        refine wpAnyH_take (i := 10) (v := ?_) rfl (by kernel_rfl) (by kernel_rfl) (by kernel_rfl) (fun _ _ _ h => h) (Or.inl ⟨by rfl, ?_⟩) hH13 ?_
        rotate_left
        · ((intro W hW; clear hW; go_simp) <;> with_reducible rfl)
        simp only [Act.put, List.getElem_toArray, List.getElem_cons_zero, List.getElem_cons_succ, List.setIfInBounds_toArray, List.set_cons_zero, List.set_cons_succ]
        refine wpAnyH_take (i := 11) (v := ?_) rfl (by kernel_rfl) (by kernel_rfl) (by kernel_rfl) (fun _ _ _ h => h) (Or.inl ⟨by rfl, ?_⟩) hH13 ?_
        rotate_left
        · ((intro W hW; clear hW; go_simp) <;> with_reducible rfl)
        simp only [Act.put, List.getElem_toArray, List.getElem_cons_zero, List.getElem_cons_succ, List.setIfInBounds_toArray, List.set_cons_zero, List.set_cons_succ]
        refine wpAnyH_take (i := 12) (v := ?_) rfl (by kernel_rfl) (by kernel_rfl) (by kernel_rfl) (fun _ _ _ h => h) (Or.inl ⟨by rfl, ?_⟩) hH13 ?_
        rotate_left
        · ((intro W hW; clear hW; go_simp) <;> with_reducible rfl)
        simp only [Act.put, List.getElem_toArray, List.getElem_cons_zero, List.getElem_cons_succ, List.setIfInBounds_toArray, List.set_cons_zero, List.set_cons_succ]
        refine wpAnyH_ready (rs := [14]) (by kernel_rfl) (by simp) ?_
        refine AllReadyH.cons (o := _) rfl (fun K hK => ?_) AllReadyH.nil
        simp only [List.getElem_toArray, List.getElem_cons_zero, List.getElem_cons_succ]
        rw [if_pos (by rfl)]
        refine wp_store_blk 39 (.tmp 7) (.tmp 46) rfl g7 rfl #[.int .i64 f02, .int .i64 f12, .int .i64 f22, .int .i64 f32, .int .i64 f42, .int .i64 f52, .int .u8 (g02.toNat : Int), .int .u8 (g12.toNat : Int), .int .u8 (g22.toNat : Int), .int .u8 (g32.toNat : Int), .int .u8 (g42.toNat : Int), .int .u8 (g52.toNat : Int), .int .u8 (g62.toNat : Int), .int .u8 (g72.toNat : Int), .slice Ao2 m2 co2, .slice Ab2 n2 cb2] rfl _ 39 hr (by rfl) (by kernel_rfl) (by kernel_rfl) ?_
        intro w14 hq gr
        replace ho := ho.away av_ho_r gr
        replace hb := hb.away av_hb_r gr
        replace hD := hD.away av_hD_r gr
        replace hp := blk_away hp gr zp d_p_r
        replace hd := blk_away hd gr zd d_d_r
        replace he := blk_away he gr ze d_e_r
        replace zp := Nat.lt_of_lt_of_le zp gr.size
        replace zd := Nat.lt_of_lt_of_le zd gr.size
        replace ze := Nat.lt_of_lt_of_le ze gr.size
        replace zr := Nat.lt_of_lt_of_le zr gr.size
        replace bel := below_grown bel gr or bel.size
        clear hr
        have hr := hq
        clear hq gr
        refine hK.out _ _ ⟨hp, hd⟩ (fun hH15 => ?_)
        clear hK K
        refine wpAnyH_take (i := 15) (v := ?_) rfl (by kernel_rfl) (by kernel_rfl) (by kernel_rfl) (fun _ _ _ h => h) (Or.inl ⟨by rfl, ?_⟩) hH15 ?_
        rotate_left
        · ((intro W hW; clear hW; go_simp) <;> with_reducible rfl)
        simp only [Act.put, List.getElem_toArray, List.getElem_cons_zero, List.getElem_cons_succ, List.setIfInBounds_toArray, List.set_cons_zero, List.set_cons_succ]
        refine wpAnyH_done (by kernel_rfl) ?_ _
        go_wp2_with fail
        go_meet
        case rel => exact ⟨g7, f02, f12, f22, f32, f42, f52, g02, g12, g22, g32, g42, g52, g62, g72, Ao2, m2, co2, Ab2, n2, cb2, rfl, rfl, hp, zp, hd, zd, he, ze, hr, zr, or, d_d_e, (ne_symm d_p_d), d_d_r, (ne_symm d_p_e), d_e_r, d_p_r, ho, av_ho_d, av_ho_e, av_ho_p, av_ho_r, hb, av_hb_d, av_hb_e, av_hb_p, av_hb_r, hD, av_hD_d, av_hD_e, av_hD_p, av_hD_r, bel⟩
    · simp only [List.getElem_toArray, List.getElem_cons_zero, List.getElem_cons_succ]
      rw [if_pos (by rfl)]
      refine wp_new_n 39 rfl (.agg #[.int .i64 0, .int .i64 0, .int .i64 0, .int .i64 0, .int .i64 0, .int .i64 0, .int .u8 0, .int .u8 0, .int .u8 0, .int .u8 0, .int .u8 0, .int .u8 0, .int .u8 0, .int .u8 0, .slice none 0 0, .slice none 0 0]) (by kernel_rfl) #[.int .i64 0, .int .i64 0, .int .i64 0, .int .i64 0, .int .i64 0, .int .i64 0, .int .u8 0, .int .u8 0, .int .u8 0, .int .u8 0, .int .u8 0, .int .u8 0, .int .u8 0, .int .u8 0, .slice none 0 0, .slice none 0 0] rfl ?_
      intro g7 w8 ge lt hh bb
      have d_p_r := ne_new zp ge
      have d_d_r := ne_new zd ge
      have d_e_r := ne_new ze ge
      have av_ho_r := ho.av_new ge
      have av_hb_r := hb.av_new ge
      have av_hD_r := hD.av_new ge
      have or := Nat.le_trans bel.size ge
      replace hp := blk_under hp bb zp
      replace zp := Nat.lt_of_lt_of_le zp bb.size
      replace hd := blk_under hd bb zd
      replace zd := Nat.lt_of_lt_of_le zd bb.size
      replace he := blk_under he bb ze
      replace ze := Nat.lt_of_lt_of_le ze bb.size
      replace ho := ho.below bb
      replace hb := hb.below bb
      replace hD := hD.below bb
      replace bel := bel.trans (bb.mono bel.size)
      have hr := hh
      have zr := lt
      clear hh lt ge bb
      refine hK.out _ _ ⟨hp, hd⟩ (fun hH9 => ?_)
      clear hK K
      refine wpAnyH_ready (rs := [1]) (by kernel_rfl) (by simp) ?_
      refine AllReadyH.cons (o := _) rfl (fun K hK => ?_) AllReadyH.nil
      simp only [List.getElem_toArray, List.getElem_cons_zero, List.getElem_cons_succ]
      go_simp
      with_reducible refine (own7_any _ _ _ _ _ _ _ _ _ _ _ _ _ _ _ _ _ _ _ _ _).mono ?_
      rintro e w10 ⟨rfl, b10⟩
      dsimp only
      replace hp := blk_under hp b10 zp
      replace zp := Nat.lt_of_lt_of_le zp b10.size
      replace hd := blk_under hd b10 zd
      replace zd := Nat.lt_of_lt_of_le zd b10.size
      replace he := blk_under he b10 ze
      replace ze := Nat.lt_of_lt_of_le ze b10.size
      replace hr := blk_under hr b10 zr
      replace zr := Nat.lt_of_lt_of_le zr b10.size
      replace ho := ho.below b10
      replace hb := hb.below b10
      replace hD := hD.below b10
      replace bel := bel.trans (b10.mono bel.size)
      clear b10
      refine hK.out _ _ ⟨hp, hd⟩ (fun hH11 => ?_)
      clear hK K
      refine wpAnyH_ready (rs := [9]) (by kernel_rfl) (by simp) ?_
      refine AllReadyH.cons (o := _) rfl (fun K hK => ?_) AllReadyH.nil
      simp only [List.getElem_toArray, List.getElem_cons_zero, List.getElem_cons_succ]
      go_simp
      with_reducible refine (rudput_er _ _ _ _ _ _ _ _ _ _ _ _ _ _ _ _ _ _ _ _ _ _ _ _ _ _ _ _ ho hD (by have := H3.out; omega) (by have := H2.out; omega)).mono ?_
      rintro e w12 ⟨f02, f12, f22, f32, f42, f52, g02, g12, g22, g32, g42, g52, g62, g72, Ao2, m2, co2, Ab2, n2, cb2, rfl, b12⟩
      dsimp only
      replace hp := blk_under hp b12 zp
      replace zp := Nat.lt_of_lt_of_le zp b12.size
      replace hd := blk_under hd b12 zd
      replace zd := Nat.lt_of_lt_of_le zd b12.size
      replace he := blk_under he b12 ze
      replace ze := Nat.lt_of_lt_of_le ze b12.size
      replace hr := blk_under hr b12 zr
      replace zr := Nat.lt_of_lt_of_le zr b12.size
      replace ho := ho.below b12
      replace hb := hb.below b12
      replace hD := hD.below b12
      replace bel := bel.trans (b12.mono bel.size)
      clear b12
      rw [HE.out]
      refine hK.out _ _ ⟨hp, hd⟩ (fun hH13 => ?_)
      clear hK K
      refine wpAnyH_take (i := 10) (v := ?_) rfl (by kernel_rfl) (by kernel_rfl) (by kernel_rfl) (fun _ _ _ h => h) (Or.inl ⟨by rfl, ?_⟩) hH13 ?_
      rotate_left
      · ((intro W hW; clear hW; go_simp) <;> with_reducible rfl)
      simp only [Act.put, List.getElem_toArray, List.getElem_cons_zero, List.getElem_cons_succ, List.setIfInBounds_toArray, List.set_cons_zero, List.set_cons_succ]
      refine wpAnyH_take (i := 11) (v := ?_) rfl (by kernel_rfl) (by kernel_rfl) (by kernel_rfl) (fun _ _ _ h => h) (Or.inl ⟨by rfl, ?_⟩) hH13 ?_
      rotate_left
      · ((intro W hW; clear hW; go_simp) <;> with_reducible rfl)
      simp only [Act.put, List.getElem_toArray, List.getElem_cons_zero, List.getElem_cons_succ, List.setIfInBounds_toArray, List.set_cons_zero, List.set_cons_succ]
      refine wpAnyH_take (i := 12) (v := ?_) rfl (by kernel_rfl) (by kernel_rfl) (by kernel_rfl) (fun _ _ _ h => h) (Or.inl ⟨by rfl, ?_⟩) hH13 ?_
      rotate_left
      · ((intro W hW; clear hW; go_simp) <;> with_reducible rfl)
      simp only [Act.put, List.getElem_toArray, List.getElem_cons_zero, List.getElem_cons_succ, List.setIfInBounds_toArray, List.set_cons_zero, List.set_cons_succ]
      refine wpAnyH_ready (rs := [14]) (by kernel_rfl) (by simp) ?_
      refine AllReadyH.cons (o := _) rfl (fun K hK => ?_) AllReadyH.nil
      simp only [List.getElem_toArray, List.getElem_cons_zero, List.getElem_cons_succ]
      rw [if_pos (by rfl)]
      refine wp_store_blk 39 (.tmp 7) (.tmp 46) rfl g7 rfl #[.int .i64 f02, .int .i64 f12, .int .i64 f22, .int .i64 f32, .int .i64 f42, .int .i64 f52, .int .u8 (g02.toNat : Int), .int .u8 (g12.toNat : Int), .int .u8 (g22.toNat : Int), .int .u8 (g32.toNat : Int), .int .u8 (g42.toNat : Int), .int .u8 (g52.toNat : Int), .int .u8 (g62.toNat : Int), .int .u8 (g72.toNat : Int), .slice Ao2 m2 co2, .slice Ab2 n2 cb2] rfl _ 39 hr (by rfl) (by kernel_rfl) (by kernel_rfl) ?_
      intro w14 hq gr
      replace ho := ho.away av_ho_r gr
      replace hb := hb.away av_hb_r gr
      replace hD := hD.away av_hD_r gr
      replace hp := blk_away hp gr zp d_p_r
      replace hd := blk_away hd gr zd d_d_r
      replace he := blk_away he gr ze d_e_r
      replace zp := Nat.lt_of_lt_of_le zp gr.size
      replace zd := Nat.lt_of_lt_of_le zd gr.size
      replace ze := Nat.lt_of_lt_of_le ze gr.size
      replace zr := Nat.lt_of_lt_of_le zr gr.size
      replace bel := below_grown bel gr or bel.size
      clear hr
      have hr := hq
      clear hq gr
      refine hK.out _ _ ⟨hp, hd⟩ (fun hH15 => ?_)
      clear hK K
      refine wpAnyH_take (i := 15) (v := ?_) rfl (by kernel_rfl) (by kernel_rfl) (by kernel_rfl) (fun _ _ _ h => h) (Or.inl ⟨by rfl, ?_⟩) hH15 ?_
      rotate_left
      · ((intro W hW; clear hW; go_simp) <;> with_reducible rfl)
      simp only [Act.put, List.getElem_toArray, List.getElem_cons_zero, List.getElem_cons_succ, List.setIfInBounds_toArray, List.set_cons_zero, List.set_cons_succ]
      refine wpAnyH_done (by kernel_rfl) ?_ _
      go_wp2_with fail
      go_meet
      case rel => exact ⟨g7, f02, f12, f22, f32, f42, f52, g02, g12, g22, g32, g42, g52, g62, g72, Ao2, m2, co2, Ab2, n2, cb2, rfl, rfl, hp, zp, hd, zd, he, ze, hr, zr, or, d_d_e, (ne_symm d_p_d), d_d_r, (ne_symm d_p_e), d_e_r, d_p_r, ho, av_ho_d, av_ho_e, av_ho_p, av_ho_r, hb, av_hb_d, av_hb_e, av_hb_p, av_hb_r, hD, av_hD_d, av_hD_e, av_hD_p, av_hD_r, bel⟩
  obtain ⟨w16, hw_⟩ : ∃ x, x = wc := ⟨_, rfl⟩
  subst hw_
  obtain ⟨g7, f02, f12, f22, f32, f42, f52, g02, g12, g22, g32, g42, g52, g62, g72, Ao2, m2, co2, Ab2, n2, cb2, rfl, rfl, hp, zp, hd, zd, he, ze, hr, zr, or, d_d_e, d_d_p, d_d_r, d_e_p, d_e_r, d_p_r, ho, av_ho_d, av_ho_e, av_ho_p, av_ho_r, hb, av_hb_d, av_hb_e, av_hb_p, av_hb_r, hD, av_hD_d, av_hD_e, av_hD_p, av_hD_r, bel⟩ := hcut
  go_wp2_with fail
  replace bel := bel.drew
  replace hp : w16.drew.heap[g2]? = _ := hp
  replace zp : _ < w16.drew.heap.size := zp
  replace hd : w16.drew.heap[g3]? = _ := hd
  replace zd : _ < w16.drew.heap.size := zd
  replace he : w16.drew.heap[g5]? = _ := he
  replace ze : _ < w16.drew.heap.size := ze
  replace hr : w16.drew.heap[g7]? = _ := hr
  replace zr : _ < w16.drew.heap.size := zr
  replace ho := ho.drew
  replace hb := hb.drew
  replace hD := hD.drew
  refine wp_region_held_drew (S := fun W => W.heap[g5]? = some (.cells #[.int .i64 f01, .int .i64 f11, .int .i64 f21, .int .i64 f31, .int .i64 f41, .int .i64 f51, .int .u8 (g01.toNat : Int), .int .u8 (g11.toNat : Int), .int .u8 (g21.toNat : Int), .int .u8 (g31.toNat : Int), .int .u8 (g41.toNat : Int), .int .u8 (g51.toNat : Int), .int .u8 (g61.toNat : Int), .int .u8 (g71.toNat : Int), .slice Ao1 m1 co1, .slice Ab1 n1 cb1] 27 (0, 0)) ∧ W.heap[g7]? = some (.cells #[.int .i64 f02, .int .i64 f12, .int .i64 f22, .int .i64 f32, .int .i64 f42, .int .i64 f52, .int .u8 (g02.toNat : Int), .int .u8 (g12.toNat : Int), .int .u8 (g22.toNat : Int), .int .u8 (g32.toNat : Int), .int .u8 (g42.toNat : Int), .int .u8 (g52.toNat : Int), .int .u8 (g62.toNat : Int), .int .u8 (g72.toNat : Int), .slice Ao2 m2 co2, .slice Ab2 n2 cb2] 39 (0, 0))) (by kernel_rfl) ⟨he, hr⟩ (fun hH => ?_)
  generalize w16.drew = w17 at bel hp zp hd zd he ze hr zr ho hb hD hH ⊢
  refine wpAnyH_take (i := 0) (v := ?_) rfl (by kernel_rfl) (by kernel_rfl) (by kernel_rfl) (fun _ _ _ h => h) (Or.inl ⟨by rfl, ?_⟩) hH ?_
  rotate_left
  · ((intro W hW; clear hW; go_simp) <;> with_reducible rfl)
  simp only [Act.put, List.getElem_toArray, List.getElem_cons_zero, List.setIfInBounds_toArray, List.set_cons_zero, List.set_cons_succ]
  refine wpAnyH_take (i := 1) (v := ?_) rfl (by kernel_rfl) (by kernel_rfl) (by kernel_rfl) (fun _ _ _ h => h) (Or.inl ⟨by rfl, ?_⟩) hH ?_
  rotate_left
  · ((intro W hW; clear hW; go_simp) <;> with_reducible rfl)
  simp only [Act.put, List.getElem_toArray, List.getElem_cons_zero, List.getElem_cons_succ, List.setIfInBounds_toArray, List.set_cons_zero, List.set_cons_succ]
  refine wpAnyH_take (i := 2) (v := ?_) rfl (by kernel_rfl) (by kernel_rfl) (by kernel_rfl) (fun _ _ _ h => h) (Or.inl ⟨by rfl, ?_⟩) hH ?_
  rotate_left
  · ((intro W hW; clear hW; go_simp) <;> with_reducible rfl)
  simp only [Act.put, List.getElem_toArray, List.getElem_cons_zero, List.getElem_cons_succ, List.setIfInBounds_toArray, List.set_cons_zero, List.set_cons_succ]
  refine wpAnyH_take (i := 3) (v := ?_) rfl (by kernel_rfl) (by kernel_rfl) (by kernel_rfl) (fun _ _ _ h => h) (Or.inl ⟨by rfl, ?_⟩) hH ?_
  rotate_left
  · ((intro W hW; clear hW; go_simp) <;> with_reducible rfl)
  simp only [Act.put, List.getElem_toArray, List.getElem_cons_zero, List.getElem_cons_succ, List.setIfInBounds_toArray, List.set_cons_zero, List.set_cons_succ]
  refine wpAnyH_take (i := 4) (v := ?_) rfl (by kernel_rfl) (by kernel_rfl) (by kernel_rfl) (fun _ _ _ h => h) (Or.inl ⟨by rfl, ?_⟩) hH ?_
  rotate_left
  · ((intro W hW; clear hW; go_simp) <;> with_reducible rfl)
  simp only [Act.put, List.getElem_toArray, List.getElem_cons_zero, List.getElem_cons_succ, List.setIfInBounds_toArray, List.set_cons_zero, List.set_cons_succ]
  refine wpAnyH_take (i := 5) (v := ?_) rfl (by kernel_rfl) (by kernel_rfl) (by kernel_rfl) (fun _ _ _ h => h) (Or.inl ⟨by rfl, ?_⟩) hH ?_
  rotate_left
  · ((intro W hW; clear hW; go_simp) <;> with_reducible rfl)
  simp only [Act.put, List.getElem_toArray, List.getElem_cons_zero, List.getElem_cons_succ, List.setIfInBounds_toArray, List.set_cons_zero, List.set_cons_succ]
  refine wpAnyH_take (i := 6) (v := ?_) rfl (by kernel_rfl) (by kernel_rfl) (by kernel_rfl) (fun _ _ _ h => h) (Or.inl ⟨by rfl, ?_⟩) hH ?_
  rotate_left
  · ((intro W hW; clear hW; go_simp) <;> with_reducible rfl)
  simp only [Act.put, List.getElem_toArray, List.getElem_cons_zero, List.getElem_cons_succ, List.setIfInBounds_toArray, List.set_cons_zero, List.set_cons_succ]
  refine wpAnyH_take (i := 7) (v := undef) rfl (by kernel_rfl) (by kernel_rfl) (by kernel_rfl) (fun _ _ _ h => h) (Or.inr ⟨by rfl, rfl⟩) hH ?_
  simp only [Act.put, List.getElem_toArray, List.getElem_cons_zero, List.getElem_cons_succ, List.setIfInBounds_toArray, List.set_cons_zero, List.set_cons_succ]
  refine wpAnyH_take (i := 8) (v := undef) rfl (by kernel_rfl) (by kernel_rfl) (by kernel_rfl) (fun _ _ _ h => h) (Or.inr ⟨by rfl, rfl⟩) hH ?_
  simp only [Act.put, List.getElem_toArray, List.getElem_cons_zero, List.getElem_cons_succ, List.setIfInBounds_toArray, List.set_cons_zero, List.set_cons_succ]
  refine wpAnyH_take (i := 9) (v := undef) rfl (by kernel_rfl) (by kernel_rfl) (by kernel_rfl) (fun _ _ _ h => h) (Or.inr ⟨by rfl, rfl⟩) hH ?_
  simp only [Act.put, List.getElem_toArray, List.getElem_cons_zero, List.getElem_cons_succ, List.setIfInBounds_toArray, List.set_cons_zero, List.set_cons_succ]
  refine wpAnyH_take (i := 10) (v := undef) rfl (by kernel_rfl) (by kernel_rfl) (by kernel_rfl) (fun _ _ _ h => h) (Or.inr ⟨by rfl, rfl⟩) hH ?_
  simp only [Act.put, List.getElem_toArray, List.getElem_cons_zero, List.getElem_cons_succ, List.setIfInBounds_toArray, List.set_cons_zero, List.set_cons_succ]
  refine wpAnyH_take (i := 11) (v := undef) rfl (by kernel_rfl) (by kernel_rfl) (by kernel_rfl) (fun _ _ _ h => h) (Or.inr ⟨by rfl, rfl⟩) hH ?_
  simp only [Act.put, List.getElem_toArray, List.getElem_cons_zero, List.getElem_cons_succ, List.setIfInBounds_toArray, List.set_cons_zero, List.set_cons_succ]
  refine wpAnyH_take (i := 12) (v := ?_) rfl (by kernel_rfl) (by kernel_rfl) (by kernel_rfl) (fun _ _ _ h => h) (Or.inl ⟨by rfl, ?_⟩) hH ?_
  rotate_left
  · ((intro W hW; clear hW; go_simp) <;> with_reducible rfl)
  simp only [Act.put, List.getElem_toArray, List.getElem_cons_zero, List.getElem_cons_succ, List.setIfInBounds_toArray, List.set_cons_zero, List.set_cons_succ]
  refine wpAnyH_take (i := 13) (v := ?_) rfl (by kernel_rfl) (by kernel_rfl) (by kernel_rfl) (fun _ _ _ h => h) (Or.inl ⟨by rfl, ?_⟩) hH ?_
  rotate_left
  · ((intro W hW; clear hW; go_simp) <;> with_reducible rfl)
  simp only [Act.put, List.getElem_toArray, List.getElem_cons_zero, List.getElem_cons_succ, List.setIfInBounds_toArray, List.set_cons_zero, List.set_cons_succ]
  refine wpAnyH_done (by kernel_rfl) ?_ _
  go_wp2_with fail
  go_ret
  exact ⟨rfl, bel⟩
set_option linter.unusedVariables false in
set_option maxRecDepth 100000 in
set_option maxHeartbeats 16000000 in
theorem udpWrites_5 (tos id fl pt ttl pr : Int) (a0 a1 a2 a3 a4 a5 a6 a7 : UInt8) (So : Option Addr) (no co : Nat) (lo : List UInt8) (Sb : Option Addr) (nb cb : Nat) (lb : List UInt8) (df dt : Int) (D : Option Addr) (nd cd : Nat) (ld : List UInt8) (w : World) (ho : Sl w So no co lo) (hb : Sl w Sb nb cb lb) (hD : Sl w D nd cd ld) (h1 : nb ≤ 1600) (h2 : no ≤ 60) (h3 : nd ≤ 1600) (g1 : portOk df = true) (g2 : portOk dt = true) (g3 : nd ≤ 1472) (hw : (decide (pt = 0) && decide (fl % 2 = 0)) = false) : Calls Try.prog 5 #[.agg #[.int .i64 tos, .int .i64 id, .int .i64 fl, .int .i64 pt, .int .i64 ttl, .int .i64 pr, .int .u8 (a0.toNat : Int), .int .u8 (a1.toNat : Int), .int .u8 (a2.toNat : Int), .int .u8 (a3.toNat : Int), .int .u8 (a4.toNat : Int), .int .u8 (a5.toNat : Int), .int .u8 (a6.toNat : Int), .int .u8 (a7.toNat : Int), .slice So no co, .slice Sb nb cb], .agg #[.int .i64 df, .int .i64 dt, .slice D nd cd]] w fun e w' => e = .returned (.bool true) ∧ Below w.heap.size w w' := by
  have t1 : decide ((1600 : Int) < nb) = false := decide_eq_false (by omega)
  have t2 : decide ((60 : Int) < no) = false := decide_eq_false (by omega)
  have t3 : decide ((1600 : Int) < nd) = false := decide_eq_false (by omega)
  have H2 := Lib.hid h2
  have H3 := Lib.hid h3
  clear h1 h2 h3
  have G1 := Lib.hid g1
  have G2 := Lib.hid g2
  have G3 := Lib.hid g3
  clear g1 g2 g3
  have HW := Lib.hid hw
  clear hw
  have bel := Below.refl w.heap.size w
  go_enter Try.func5, Try.ntmps5
  go_wp2_with (first | ((with_reducible show wpList _ _ _ (⟨some 2, _, _, _, _, _⟩ :: _) _ _); refine wpList_box_n rfl 27 (.tmp 0) rfl #[.int .i64 tos, .int .i64 id, .int .i64 fl, .int .i64 pt, .int .i64 ttl, .int .i64 pr, .int .u8 (a0.toNat : Int), .int .u8 (a1.toNat : Int), .int .u8 (a2.toNat : Int), .int .u8 (a3.toNat : Int), .int .u8 (a4.toNat : Int), .int .u8 (a5.toNat : Int), .int .u8 (a6.toNat : Int), .int .u8 (a7.toNat : Int), .slice So no co, .slice Sb nb cb] rfl ?_; intro g2 w1 ge lt hh bb; have av_ho_p := ho.av_new ge; have av_hb_p := hb.av_new ge; have av_hD_p := hD.av_new ge; have op := Nat.le_trans bel.size ge; replace ho := ho.below bb; replace hb := hb.below bb; replace hD := hD.below bb; replace bel := bel.trans (bb.mono bel.size); have hp := hh; have zp := lt; clear hh lt ge bb) | ((with_reducible show wpList _ _ _ (⟨some 3, _, _, _, _, _⟩ :: _) _ _); refine wpList_box_n rfl 33 (.tmp 1) rfl #[.int .i64 df, .int .i64 dt, .slice D nd cd] rfl ?_; intro g3 w2 ge lt hh bb; have d_p_d := ne_new zp ge; have av_ho_d := ho.av_new ge; have av_hb_d := hb.av_new ge; have av_hD_d := hD.av_new ge; have od := Nat.le_trans bel.size ge; replace hp := blk_under hp bb zp; replace zp := Nat.lt_of_lt_of_le zp bb.size; replace ho := ho.below bb; replace hb := hb.below bb; replace hD := hD.below bb; replace bel := bel.trans (bb.mono bel.size); have hd := hh; have zd := lt; clear hh lt ge bb))
  with_reducible refine (awake7 _).mono ?_
  rintro e w3 ⟨rfl, b3⟩
  replace hp := blk_under hp b3 zp
  replace zp := Nat.lt_of_lt_of_le zp b3.size
  replace hd := blk_under hd b3 zd
  replace zd := Nat.lt_of_lt_of_le zd b3.size
  replace ho := ho.below b3
  replace hb := hb.below b3
  replace hD := hD.below b3
  replace bel := bel.trans (b3.mono bel.size)
  clear b3
  have R14 := cell_lit hp 15 _ rfl
  have R19 := cell_lit hp 14 _ rfl
  have R25 := cell_lit hd 2 _ rfl
  have R30 := Lib.hid (range_lit hp 0 16 [.int .i64 tos, .int .i64 id, .int .i64 fl, .int .i64 pt, .int .i64 ttl, .int .i64 pr, .int .u8 (a0.toNat : Int), .int .u8 (a1.toNat : Int), .int .u8 (a2.toNat : Int), .int .u8 (a3.toNat : Int), .int .u8 (a4.toNat : Int), .int .u8 (a5.toNat : Int), .int .u8 (a6.toNat : Int), .int .u8 (a7.toNat : Int), .slice So no co, .slice Sb nb cb] rfl)
  go_wp2_with (first | ((with_reducible show wpList _ _ _ (⟨some 30, _, _, _, _, _⟩ :: _) _ _); refine wpList_load_rng 27 (.tmp 2) rfl (by kernel_rfl) _ _ rfl _ R30.out _ Try.underlying27 rfl (by kernel_rfl) ?_; have R31 := Lib.hid (range_lit hd 0 3 [.int .i64 df, .int .i64 dt, .slice D nd cd] rfl)) | ((with_reducible show wpList _ _ _ (⟨some 31, _, _, _, _, _⟩ :: _) _ _); refine wpList_load_rng 33 (.tmp 3) rfl (by kernel_rfl) _ _ rfl _ R31.out _ Try.underlying33 rfl (by kernel_rfl) ?_))
  try clear R14
  try clear R19
  try clear R25
  try clear R30
  try clear R31
  with_reducible refine (udput_good _ _ _ _ _ _ _ _ _ _ _ _ _ _ _ _ _ _ _ _ _ _ _ _ _ _ _ _ ho hD G1.out G2.out G3.out (by have := H2.out; omega)).mono ?_
  rintro e w4 ⟨Ao1, co1, Ab1, cb1, rfl, so1, sb1, fo1, fb1, b4⟩
  have av_so1_p := fo1.av zp
  have av_so1_d := fo1.av zd
  have av_sb1_p := fb1.av zp
  have av_sb1_d := fb1.av zd
  replace hp := blk_under hp b4 zp
  replace zp := Nat.lt_of_lt_of_le zp b4.size
  replace hd := blk_under hd b4 zd
  replace zd := Nat.lt_of_lt_of_le zd b4.size
  replace ho := ho.below b4
  replace hb := hb.below b4
  replace hD := hD.below b4
  replace bel := bel.trans (b4.mono bel.size)
  clear b4
  replace so1 : Sl w4 (Ao1) (no) (co1) (lo) := so1
  replace sb1 : Sl w4 (Ab1) (8 + nd) (cb1) (udBytes a0 a1 a2 a3 a4 a5 a6 a7 df dt ld) := sb1
  go_wp2_with (first | ((with_reducible show wpList _ _ _ (⟨some 5, _, _, _, _, _⟩ :: _) _ _); refine wpList_new_n rfl 27 rfl (.agg #[.int .i64 0, .int .i64 0, .int .i64 0, .int .i64 0, .int .i64 0, .int .i64 0, .int .u8 0, .int .u8 0, .int .u8 0, .int .u8 0, .int .u8 0, .int .u8 0, .int .u8 0, .int .u8 0, .slice none 0 0, .slice none 0 0]) (by kernel_rfl) #[.int .i64 0, .int .i64 0, .int .i64 0, .int .i64 0, .int .i64 0, .int .i64 0, .int .u8 0, .int .u8 0, .int .u8 0, .int .u8 0, .int .u8 0, .int .u8 0, .int .u8 0, .int .u8 0, .slice none 0 0, .slice none 0 0] rfl ?_; intro g5 w5 ge lt hh bb; have d_p_e := ne_new zp ge; have d_d_e := ne_new zd ge; have av_ho_e := ho.av_new ge; have av_hb_e := hb.av_new ge; have av_hD_e := hD.av_new ge; have av_so1_e := so1.av_new ge; have av_sb1_e := sb1.av_new ge; have oe := Nat.le_trans bel.size ge; replace hp := blk_under hp bb zp; replace zp := Nat.lt_of_lt_of_le zp bb.size; replace hd := blk_under hd bb zd; replace zd := Nat.lt_of_lt_of_le zd bb.size; replace ho := ho.below bb; replace hb := hb.below bb; replace hD := hD.below bb; replace so1 := so1.below bb; replace sb1 := sb1.below bb; replace bel := bel.trans (bb.mono bel.size); have he := hh; have ze := lt; clear hh lt ge bb) | ((with_reducible show wpList _ _ _ (⟨none, Op.store _ (.tmp 5) _, _, _, _, _⟩ :: _) _ _); refine wpList_store_blk rfl 27 (.tmp 5) (.tmp 33) rfl g5 rfl #[.int .i64 tos, .int .i64 id, .int .i64 fl, .int .i64 pt, .int .i64 ttl, .int .i64 17, .int .u8 (a0.toNat : Int), .int .u8 (a1.toNat : Int), .int .u8 (a2.toNat : Int), .int .u8 (a3.toNat : Int), .int .u8 (a4.toNat : Int), .int .u8 (a5.toNat : Int), .int .u8 (a6.toNat : Int), .int .u8 (a7.toNat : Int), .slice Ao1 no co1, .slice Ab1 (8 + nd) cb1] rfl _ 27 he (by rfl) (by kernel_rfl) (by kernel_rfl) ?_; intro w6 hq gr; replace ho := ho.away av_ho_e gr; replace hb := hb.away av_hb_e gr; replace hD := hD.away av_hD_e gr; replace so1 := so1.away av_so1_e gr; replace sb1 := sb1.away av_sb1_e gr; replace hp := blk_away hp gr zp d_p_e; replace hd := blk_away hd gr zd d_d_e; replace zp := Nat.lt_of_lt_of_le zp gr.size; replace zd := Nat.lt_of_lt_of_le zd gr.size; replace ze := Nat.lt_of_lt_of_le ze gr.size; replace bel := below_grown bel gr oe bel.size; clear he; have he := hq; clear hq gr))
  go_cut [7, 8] from 9999 (fun s7 s8 W => ∃ g7 : Nat, ∃ Ao2 : Option Addr, ∃ co2 : Nat, ∃ Ab2 : Option Addr, ∃ cb2 : Nat, s7 = .pointer (some ⟨g7, 0, none⟩) ∧ s8 = .int .i64 0 ∧ W.heap[g2]? = some (.cells #[.int .i64 tos, .int .i64 id, .int .i64 fl, .int .i64 pt, .int .i64 ttl, .int .i64 pr, .int .u8 (a0.toNat : Int), .int .u8 (a1.toNat : Int), .int .u8 (a2.toNat : Int), .int .u8 (a3.toNat : Int), .int .u8 (a4.toNat : Int), .int .u8 (a5.toNat : Int), .int .u8 (a6.toNat : Int), .int .u8 (a7.toNat : Int), .slice So no co, .slice Sb nb cb] 27 (0, 0)) ∧ g2 < W.heap.size ∧ W.heap[g3]? = some (.cells #[.int .i64 df, .int .i64 dt, .slice D nd cd] 33 (0, 0)) ∧ g3 < W.heap.size ∧ W.heap[g5]? = some (.cells #[.int .i64 tos, .int .i64 id, .int .i64 fl, .int .i64 pt, .int .i64 ttl, .int .i64 17, .int .u8 (a0.toNat : Int), .int .u8 (a1.toNat : Int), .int .u8 (a2.toNat : Int), .int .u8 (a3.toNat : Int), .int .u8 (a4.toNat : Int), .int .u8 (a5.toNat : Int), .int .u8 (a6.toNat : Int), .int .u8 (a7.toNat : Int), .slice Ao1 no co1, .slice Ab1 (8 + nd) cb1] 27 (0, 0)) ∧ g5 < W.heap.size ∧ W.heap[g7]? = some (.cells #[.int .i64 tos, .int .i64 id, .int .i64 fl, .int .i64 pt, .int .i64 ttl, .int .i64 17, .int .u8 (a0.toNat : Int), .int .u8 (a1.toNat : Int), .int .u8 (a2.toNat : Int), .int .u8 (a3.toNat : Int), .int .u8 (a4.toNat : Int), .int .u8 (a5.toNat : Int), .int .u8 (a6.toNat : Int), .int .u8 (a7.toNat : Int), .slice Ao2 no co2, .slice Ab2 (8 + nd) cb2] 39 (0, 0)) ∧ g7 < W.heap.size ∧ w.heap.size ≤ g7 ∧ Hid (g3 ≠ g5) ∧ Hid (g3 ≠ g2) ∧ Hid (g3 ≠ g7) ∧ Hid (g5 ≠ g2) ∧ Hid (g5 ≠ g7) ∧ Hid (g2 ≠ g7) ∧ Sl W (So) (no) (co) (lo) ∧ Av (So) (no) g3 ∧ Av (So) (no) g5 ∧ Av (So) (no) g2 ∧ Av (So) (no) g7 ∧ Sl W (Sb) (nb) (cb) (lb) ∧ Av (Sb) (nb) g3 ∧ Av (Sb) (nb) g5 ∧ Av (Sb) (nb) g2 ∧ Av (Sb) (nb) g7 ∧ Sl W (D) (nd) (cd) (ld) ∧ Av (D) (nd) g3 ∧ Av (D) (nd) g5 ∧ Av (D) (nd) g2 ∧ Av (D) (nd) g7 ∧ Sl W (Ao1) (no) (co1) (lo) ∧ Av (Ao1) (no) g3 ∧ Av (Ao1) (no) g5 ∧ Av (Ao1) (no) g2 ∧ Av (Ao1) (no) g7 ∧ Sl W (Ab1) (8 + nd) (cb1) (udBytes a0 a1 a2 a3 a4 a5 a6 a7 df dt ld) ∧ Av (Ab1) (8 + nd) g3 ∧ Av (Ab1) (8 + nd) g5 ∧ Av (Ab1) (8 + nd) g2 ∧ Av (Ab1) (8 + nd) g7 ∧ Sl W (Ao2) (no) (co2) (lo) ∧ Av (Ao2) (no) g3 ∧ Av (Ao2) (no) g5 ∧ Av (Ao2) (no) g2 ∧ Av (Ao2) (no) g7 ∧ Sl W (Ab2) (8 + nd) (cb2) (udBytes a0 a1 a2 a3 a4 a5 a6 a7 df dt ld) ∧ Av (Ab2) (8 + nd) g3 ∧ Av (Ab2) (8 + nd) g5 ∧ Av (Ab2) (8 + nd) g2 ∧ Av (Ab2) (8 + nd) g7 ∧ Below w.heap.size w W)
  case first =>
    replace bel := bel.drew
    replace hp : w6.drew.heap[g2]? = _ := hp
    replace zp : _ < w6.drew.heap.size := zp
    replace hd : w6.drew.heap[g3]? = _ := hd
    replace zd : _ < w6.drew.heap.size := zd
    replace he : w6.drew.heap[g5]? = _ := he
    replace ze : _ < w6.drew.heap.size := ze
    replace ho := ho.drew
    replace hb := hb.drew
    replace hD := hD.drew
    replace so1 := so1.drew
    replace sb1 := sb1.drew
    refine wp_region_held_drew (S := fun W => W.heap[g2]? = some (.cells #[.int .i64 tos, .int .i64 id, .int .i64 fl, .int .i64 pt, .int .i64 ttl, .int .i64 pr, .int .u8 (a0.toNat : Int), .int .u8 (a1.toNat : Int), .int .u8 (a2.toNat : Int), .int .u8 (a3.toNat : Int), .int .u8 (a4.toNat : Int), .int .u8 (a5.toNat : Int), .int .u8 (a6.toNat : Int), .int .u8 (a7.toNat : Int), .slice So no co, .slice Sb nb cb] 27 (0, 0)) ∧ W.heap[g3]? = some (.cells #[.int .i64 df, .int .i64 dt, .slice D nd cd] 33 (0, 0))) (by kernel_rfl) ⟨hp, hd⟩ (fun hH => ?_)
    generalize w6.drew = w7 at bel hp zp hd zd he ze ho hb hD so1 sb1 hH ⊢
    refine wpAnyH_take (i := 0) (v := .agg #[.int .i64 tos, .int .i64 id, .int .i64 fl, .int .i64 pt, .int .i64 ttl, .int .i64 pr, .int .u8 (a0.toNat : Int), .int .u8 (a1.toNat : Int), .int .u8 (a2.toNat : Int), .int .u8 (a3.toNat : Int), .int .u8 (a4.toNat : Int), .int .u8 (a5.toNat : Int), .int .u8 (a6.toNat : Int), .int .u8 (a7.toNat : Int), .slice So no co, .slice Sb nb cb]) rfl (by kernel_rfl) (by kernel_rfl) (by kernel_rfl) (fun _ _ _ h => h) (yieldsIf_load_part (by kernel_rfl) 27 _ rfl g2 0 16 rfl [.int .i64 tos, .int .i64 id, .int .i64 fl, .int .i64 pt, .int .i64 ttl, .int .i64 pr, .int .u8 (a0.toNat : Int), .int .u8 (a1.toNat : Int), .int .u8 (a2.toNat : Int), .int .u8 (a3.toNat : Int), .int .u8 (a4.toNat : Int), .int .u8 (a5.toNat : Int), .int .u8 (a6.toNat : Int), .int .u8 (a7.toNat : Int), .slice So no co, .slice Sb nb cb] 27 (0, 0) (fun W hW => hW.1) [.int .i64 tos, .int .i64 id, .int .i64 fl, .int .i64 pt, .int .i64 ttl, .int .i64 pr, .int .u8 (a0.toNat : Int), .int .u8 (a1.toNat : Int), .int .u8 (a2.toNat : Int), .int .u8 (a3.toNat : Int), .int .u8 (a4.toNat : Int), .int .u8 (a5.toNat : Int), .int .u8 (a6.toNat : Int), .int .u8 (a7.toNat : Int), .slice So no co, .slice Sb nb cb] rfl _ Try.underlying27 rfl (by kernel_rfl)) hH ?_
    simp only [Act.put, List.getElem_toArray, List.getElem_cons_zero, List.setIfInBounds_toArray, List.set_cons_zero, List.set_cons_succ]
    refine wpAnyH_take (i := 2) (v := ?_) rfl (by kernel_rfl) (by kernel_rfl) (by kernel_rfl) (fun _ _ _ h => h) (Or.inl ⟨by rfl, ?_⟩) hH ?_
    rotate_left
    · ((intro W hW; clear hW; go_simp) <;> with_reducible rfl)
    simp only [Act.put, List.getElem_toArray, List.getElem_cons_zero, List.getElem_cons_succ, List.setIfInBounds_toArray, List.set_cons_zero, List.set_cons_succ]
    refine wpAnyH_take (i := 3) (v := ?_) rfl (by kernel_rfl) (by kernel_rfl) (by kernel_rfl) (fun _ _ _ h => h) (Or.inl ⟨by rfl, ?_⟩) hH ?_
    rotate_left
    · ((intro W hW; have hk := cell_lit (hW.2) 0 _ rfl; clear hW; go_simp) <;> with_reducible rfl)
    simp only [Act.put, List.getElem_toArray, List.getElem_cons_zero, List.getElem_cons_succ, List.setIfInBounds_toArray, List.set_cons_zero, List.set_cons_succ]
    refine wpAnyH_take (i := 4) (v := ?_) rfl (by kernel_rfl) (by kernel_rfl) (by kernel_rfl) (fun _ _ _ h => h) (Or.inl ⟨by rfl, ?_⟩) hH ?_
    rotate_left
    · ((intro W hW; clear hW; go_simp) <;> with_reducible rfl)
    simp only [Act.put, List.getElem_toArray, List.getElem_cons_zero, List.getElem_cons_succ, List.setIfInBounds_toArray, List.set_cons_zero, List.set_cons_succ]
    refine wpAnyH_take (i := 5) (v := ?_) rfl (by kernel_rfl) (by kernel_rfl) (by kernel_rfl) (fun _ _ _ h => h) (Or.inl ⟨by rfl, ?_⟩) hH ?_
    rotate_left
    · ((intro W hW; have hk := cell_lit (hW.2) 1 _ rfl; clear hW; go_simp) <;> with_reducible rfl)
    simp only [Act.put, List.getElem_toArray, List.getElem_cons_zero, List.getElem_cons_succ, List.setIfInBounds_toArray, List.set_cons_zero, List.set_cons_succ]
    refine wpAnyH_take (i := 6) (v := ?_) rfl (by kernel_rfl) (by kernel_rfl) (by kernel_rfl) (fun _ _ _ h => h) (Or.inl ⟨by rfl, ?_⟩) hH ?_
    rotate_left
    · ((intro W hW; clear hW; go_simp) <;> with_reducible rfl)
    simp only [Act.put, List.getElem_toArray, List.getElem_cons_zero, List.getElem_cons_succ, List.setIfInBounds_toArray, List.set_cons_zero, List.set_cons_succ]
    refine wpAnyH_take (i := 7) (v := ?_) rfl (by kernel_rfl) (by kernel_rfl) (by kernel_rfl) (fun _ _ _ h => h) (Or.inl ⟨by rfl, ?_⟩) hH ?_
    rotate_left
    · ((intro W hW; have hk := cell_lit (hW.2) 2 _ rfl; clear hW; go_simp) <;> with_reducible rfl)
    simp only [Act.put, List.getElem_toArray, List.getElem_cons_zero, List.getElem_cons_succ, List.setIfInBounds_toArray, List.set_cons_zero, List.set_cons_succ]
    refine wpAnyH_take (i := 8) (v := ?_) rfl (by kernel_rfl) (by kernel_rfl) (by kernel_rfl) (fun _ _ _ h => h) (Or.inl ⟨by rfl, ?_⟩) hH ?_
    rotate_left
    · ((intro W hW; clear hW; go_simp) <;> with_reducible rfl)
    simp only [Act.put, List.getElem_toArray, List.getElem_cons_zero, List.getElem_cons_succ, List.setIfInBounds_toArray, List.set_cons_zero, List.set_cons_succ]
    refine wpAnyH_ready (rs := [1, 13]) (by kernel_rfl) (by simp) ?_
    refine AllReadyH.cons (o := _) rfl (fun K hK => ?_) (AllReadyH.cons (o := _) rfl (fun K hK => ?_) AllReadyH.nil)
    · simp only [List.getElem_toArray, List.getElem_cons_zero, List.getElem_cons_succ]
      go_simp
      with_reducible refine (own7_any _ _ _ _ _ _ _ _ _ _ _ _ _ _ _ _ _ _ _ _ _).mono ?_
      rintro e w8 ⟨rfl, b8⟩
      dsimp only
      replace hp := blk_under hp b8 zp
      replace zp := Nat.lt_of_lt_of_le zp b8.size
      replace hd := blk_under hd b8 zd
      replace zd := Nat.lt_of_lt_of_le zd b8.size
      replace he := blk_under he b8 ze
      replace ze := Nat.lt_of_lt_of_le ze b8.size
      replace ho := ho.below b8
      replace hb := hb.below b8
      replace hD := hD.below b8
      replace so1 := so1.below b8
      replace sb1 := sb1.below b8
      replace bel := bel.trans (b8.mono bel.size)
      clear b8
      refine hK.out _ _ ⟨hp, hd⟩ (fun hH9 => ?_)
      clear hK K
      refine wpAnyH_ready (rs := [9, 13]) (by kernel_rfl) (by simp) ?_
      refine AllReadyH.cons (o := _) rfl (fun K hK => ?_) (AllReadyH.cons (o := _) rfl (fun K hK => ?_) AllReadyH.nil)
      · simp only [List.getElem_toArray, List.getElem_cons_zero, List.getElem_cons_succ]
        go_simp
        with_reducible refine (rudput_good _ _ _ _ _ _ _ _ _ _ _ _ _ _ _ _ _ _ _ _ _ _ _ _ _ _ _ _ ho hD G1.out G2.out G3.out (by have := H2.out; omega)).mono ?_
        rintro e w10 ⟨Ao2, co2, Ab2, cb2, rfl, so2, sb2, fo2, fb2, b10⟩
        dsimp only
        have av_so2_p := fo2.av zp
        have av_so2_d := fo2.av zd
        have av_so2_e := fo2.av ze
        have av_sb2_p := fb2.av zp
        have av_sb2_d := fb2.av zd
        have av_sb2_e := fb2.av ze
        replace hp := blk_under hp b10 zp
        replace zp := Nat.lt_of_lt_of_le zp b10.size
        replace hd := blk_under hd b10 zd
        replace zd := Nat.lt_of_lt_of_le zd b10.size
        replace he := blk_under he b10 ze
        replace ze := Nat.lt_of_lt_of_le ze b10.size
        replace ho := ho.below b10
        replace hb := hb.below b10
        replace hD := hD.below b10
        replace so1 := so1.below b10
        replace sb1 := sb1.below b10
        replace bel := bel.trans (b10.mono bel.size)
        clear b10
        replace so2 : Sl w10 (Ao2) (no) (co2) (lo) := so2
        replace sb2 : Sl w10 (Ab2) (8 + nd) (cb2) (udBytes a0 a1 a2 a3 a4 a5 a6 a7 df dt ld) := sb2
        refine hK.out _ _ ⟨hp, hd⟩ (fun hH11 => ?_)
        clear hK K
        refine wpAnyH_take (i := 10) (v := ?_) rfl (by kernel_rfl) (by kernel_rfl) (by kernel_rfl) (fun _ _ _ h => h) (Or.inl ⟨by rfl, ?_⟩) hH11 ?_
        rotate_left
        · ((intro W hW; clear hW; go_simp) <;> with_reducible rfl)
        simp only [Act.put, List.getElem_toArray, List.getElem_cons_zero, List.getElem_cons_succ, List.setIfInBounds_toArray, List.set_cons_zero, List.set_cons_succ]
        refine wpAnyH_take (i := 11) (v := ?_) rfl (by kernel_rfl) (by kernel_rfl) (by kernel_rfl) (fun _ _ _ h => h) (Or.inl ⟨by rfl, ?_⟩) hH11 ?_
        rotate_left
        · ((intro W hW; clear hW; go_simp) <;> with_reducible rfl)
        simp only [Act.put, List.getElem_toArray, List.getElem_cons_zero, List.getElem_cons_succ, List.setIfInBounds_toArray, List.set_cons_zero, List.set_cons_succ]
        refine wpAnyH_take (i := 12) (v := ?_) rfl (by kernel_rfl) (by kernel_rfl) (by kernel_rfl) (fun _ _ _ h => h) (Or.inl ⟨by rfl, ?_⟩) hH11 ?_
        rotate_left
        · ((intro W hW; clear hW; go_simp) <;> with_reducible rfl)
        simp only [Act.put, List.getElem_toArray, List.getElem_cons_zero, List.getElem_cons_succ, List.setIfInBounds_toArray, List.set_cons_zero, List.set_cons_succ]
        refine wpAnyH_ready (rs := [13]) (by kernel_rfl) (by simp) ?_
        refine AllReadyH.cons (o := _) rfl (fun K hK => ?_) AllReadyH.nil
        simp only [List.getElem_toArray, List.getElem_cons_zero, List.getElem_cons_succ]
        rw [if_pos (by rfl)]
        refine wp_new_n 39 rfl (.agg #[.int .i64 0, .int .i64 0, .int .i64 0, .int .i64 0, .int .i64 0, .int .i64 0, .int .u8 0, .int .u8 0, .int .u8 0, .int .u8 0, .int .u8 0, .int .u8 0, .int .u8 0, .int .u8 0, .slice none 0 0, .slice none 0 0]) (by kernel_rfl) #[.int .i64 0, .int .i64 0, .int .i64 0, .int .i64 0, .int .i64 0, .int .i64 0, .int .u8 0, .int .u8 0, .int .u8 0, .int .u8 0, .int .u8 0, .int .u8 0, .int .u8 0, .int .u8 0, .slice none 0 0, .slice none 0 0] rfl ?_
        intro g7 w12 ge lt hh bb
        have d_p_r := ne_new zp ge
        have d_d_r := ne_new zd ge
        have d_e_r := ne_new ze ge
        have av_ho_r := ho.av_new ge
        have av_hb_r := hb.av_new ge
        have av_hD_r := hD.av_new ge
        have av_so1_r := so1.av_new ge
        have av_sb1_r := sb1.av_new ge
        have av_so2_r := so2.av_new ge
        have av_sb2_r := sb2.av_new ge
        have or := Nat.le_trans bel.size ge
        replace hp := blk_under hp bb zp
        replace zp := Nat.lt_of_lt_of_le zp bb.size
        replace hd := blk_under hd bb zd
        replace zd := Nat.lt_of_lt_of_le zd bb.size
        replace he := blk_under he bb ze
        replace ze := Nat.lt_of_lt_of_le ze bb.size
        replace ho := ho.below bb
        replace hb := hb.below bb
        replace hD := hD.below bb
        replace so1 := so1.below bb
        replace sb1 := sb1.below bb
        replace so2 := so2.below bb
        replace sb2 := sb2.below bb
        replace bel := bel.trans (bb.mono bel.size)
        have hr := hh
        have zr := lt
        clear hh lt ge bb
        refine hK.out _ _ ⟨hp, hd⟩ (fun hH13 => ?_)
        clear hK K
        refine wpAnyH_ready (rs := [14]) (by kernel_rfl) (by simp) ?_
        refine AllReadyH.cons (o := _) rfl (fun K hK => ?_) AllReadyH.nil
        simp only [List.getElem_toArray, List.getElem_cons_zero, List.getElem_cons_succ]
        rw [if_pos (by rfl)]
        refine wp_store_blk 39 (.tmp 7) (.tmp 46) rfl g7 rfl #[.int .i64 tos, .int .i64 id, .int .i64 fl, .int .i64 pt, .int .i64 ttl, .int .i64 17, .int .u8 (a0.toNat : Int), .int .u8 (a1.toNat : Int), .int .u8 (a2.toNat : Int), .int .u8 (a3.toNat : Int), .int .u8 (a4.toNat : Int), .int .u8 (a5.toNat : Int), .int .u8 (a6.toNat : Int), .int .u8 (a7.toNat : Int), .slice Ao2 no co2, .slice Ab2 (8 + nd) cb2] rfl _ 39 hr (by rfl) (by kernel_rfl) (by kernel_rfl) ?_
        intro w14 hq gr
        replace ho := ho.away av_ho_r gr
        replace hb := hb.away av_hb_r gr
        replace hD := hD.away av_hD_r gr
        replace so1 := so1.away av_so1_r gr
        replace sb1 := sb1.away av_sb1_r gr
        replace so2 := so2.away av_so2_r gr
        replace sb2 := sb2.away av_sb2_r gr
        replace hp := blk_away hp gr zp d_p_r
        replace hd := blk_away hd gr zd d_d_r
        replace he := blk_away he gr ze d_e_r
        replace zp := Nat.lt_of_lt_of_le zp gr.size
        replace zd := Nat.lt_of_lt_of_le zd gr.size
        replace ze := Nat.lt_of_lt_of_le ze gr.size
        replace zr := Nat.lt_of_lt_of_le zr gr.size
        replace bel := below_grown bel gr or bel.size
        clear hr
        have hr := hq
        clear hq gr
        refine hK.out _ _ ⟨hp, hd⟩ (fun hH15 => ?_)
        clear hK K
        refine wpAnyH_take (i := 15) (v := ?_) rfl (by kernel_rfl) (by kernel_rfl) (by kernel_rfl) (fun _ _ _ h => h) (Or.inl ⟨by rfl, ?_⟩) hH15 ?_
        rotate_left
        · ((intro W hW; clear hW; go_simp) <;> with_reducible rfl)
        simp only [Act.put, List.getElem_toArray, List.getElem_cons_zero, List.getElem_cons_succ, List.setIfInBounds_toArray, List.set_cons_zero, List.set_cons_succ]
        refine wpAnyH_done (by kernel_rfl) ?_ _
        go_wp2_with fail
        go_meet
        case rel => exact ⟨g7, Ao2, co2, Ab2, cb2, rfl, rfl, hp, zp, hd, zd, he, ze, hr, zr, or, d_d_e, (ne_symm d_p_d), d_d_r, (ne_symm d_p_e), d_e_r, d_p_r, ho, av_ho_d, av_ho_e, av_ho_p, av_ho_r, hb, av_hb_d, av_hb_e, av_hb_p, av_hb_r, hD, av_hD_d, av_hD_e, av_hD_p, av_hD_r, so1, av_so1_d, av_so1_e, av_so1_p, av_so1_r, sb1, av_sb1_d, av_sb1_e, av_sb1_p, av_sb1_r, so2, av_so2_d, av_so2_e, av_so2_p, av_so2_r, sb2, av_sb2_d, av_sb2_e, av_sb2_p, av_sb2_r, bel⟩
      · simp only [List.getElem_toArray, List.getElem_cons_zero, List.getElem_cons_succ]
        rw [if_pos (by rfl)]
        refine wp_new_n 39 rfl (.agg #[.int .i64 0, .int .i64 0, .int .i64 0, .int .i64 0, .int .i64 0, .int .i64 0, .int .u8 0, .int .u8 0, .int .u8 0, .int .u8 0, .int .u8 0, .int .u8 0, .int .u8 0, .int .u8 0, .slice none 0 0, .slice none 0 0]) (by kernel_rfl) #[.int .i64 0, .int .i64 0, .int .i64 0, .int .i64 0, .int .i64 0, .int .i64 0, .int .u8 0, .int .u8 0, .int .u8 0, .int .u8 0, .int .u8 0, .int .u8 0, .int .u8 0, .int .u8 0, .slice none 0 0, .slice none 0 0] rfl ?_
        intro g7 w10 ge lt hh bb
        have d_p_r := ne_new zp ge
        have d_d_r := ne_new zd ge
        have d_e_r := ne_new ze ge
        have av_ho_r := ho.av_new ge
        have av_hb_r := hb.av_new ge
        have av_hD_r := hD.av_new ge
        have av_so1_r := so1.av_new ge
        have av_sb1_r := sb1.av_new ge
        have or := Nat.le_trans bel.size ge
        replace hp := blk_under hp bb zp
        replace zp := Nat.lt_of_lt_of_le zp bb.size
        replace hd := blk_under hd bb zd
        replace zd := Nat.lt_of_lt_of_le zd bb.size
        replace he := blk_under he bb ze
        replace ze := Nat.lt_of_lt_of_le ze bb.size
        replace ho := ho.below bb
        replace hb := hb.below bb
        replace hD := hD.below bb
        replace so1 := so1.below bb
        replace sb1 := sb1.below bb
        replace bel := bel.trans (bb.mono bel.size)
        have hr := hh
        have zr := lt
        clear hh lt ge bb
        refine hK.out _ _ ⟨hp, hd⟩ (fun hH11 => ?_)
        clear hK K
        refine wpAnyH_ready (rs := [9]) (by kernel_rfl) (by simp) ?_
        refine AllReadyH.cons (o := _) rfl (fun K hK => ?_) AllReadyH.nil
        simp only [List.getElem_toArray, List.getElem_cons_zero, List.getElem_cons_succ]
        go_simp
        with_reducible refine (rudput_good _ _ _ _ _ _ _ _ _ _ _ _ _ _ _ _ _ _ _ _ _ _ _ _ _ _ _ _ ho hD G1.out G2.out G3.out (by have := H2.out; omega)).mono ?_
        rintro e w12 ⟨Ao2, co2, Ab2, cb2, rfl, so2, sb2, fo2, fb2, b12⟩
        dsimp only
        have av_so2_p := fo2.av zp
        have av_so2_d := fo2.av zd
        have av_so2_e := fo2.av ze
        have av_so2_r := fo2.av zr
        have av_sb2_p := fb2.av zp
        have av_sb2_d := fb2.av zd
        have av_sb2_e := fb2.av ze
        have av_sb2_r := fb2.av zr
        replace hp := blk_under hp b12 zp
        replace zp := Nat.lt_of_lt_of_le zp b12.size
        replace hd := blk_under hd b12 zd
        replace zd := Nat.lt_of_lt_of_le zd b12.size
        replace he := blk_under he b12 ze
        replace ze := Nat.lt_of_lt_of_le ze b12.size
        replace hr := blk_under hr b12 zr
        replace zr := Nat.lt_of_lt_of_le zr b12.size
        replace ho := ho.below b12
        replace hb := hb.below b12
        replace hD := hD.below b12
        replace so1 := so1.below b12
        replace sb1 := sb1.below b12
        replace bel := bel.trans (b12.mono bel.size)
        clear b12
        replace so2 : Sl w12 (Ao2) (no) (co2) (lo) := so2
        replace sb2 : Sl w12 (Ab2) (8 + nd) (cb2) (udBytes a0 a1 a2 a3 a4 a5 a6 a7 df dt ld) := sb2
        refine hK.out _ _ ⟨hp, hd⟩ (fun hH13 => ?_)
        clear hK K
        refine wpAnyH_take (i := 10) (v := ?_) rfl (by kernel_rfl) (by kernel_rfl) (by kernel_rfl) (fun _ _ _ h => h) (Or.inl ⟨by rfl, ?_⟩) hH13 ?_
        rotate_left
        · ((intro W hW; clear hW; go_simp) <;> with_reducible rfl)
        simp only [Act.put, List.getElem_toArray, List.getElem_cons_zero, List.getElem_cons_succ, List.setIfInBounds_toArray, List.set_cons_zero, List.set_cons_succ]
        refine wpAnyH_take (i := 11) (v := ?_) rfl (by kernel_rfl) (by kernel_rfl) (by kernel_rfl) (fun _ _ _ h => h) (Or.inl ⟨by rfl, ?_⟩) hH13 ?_
        rotate_left
        · ((intro W hW; clear hW; go_simp) <;> with_reducible rfl)
        simp only [Act.put, List.getElem_toArray, List.getElem_cons_zero, List.getElem_cons_succ, List.setIfInBounds_toArray, List.set_cons_zero, List.set_cons_succ]
        refine wpAnyH_take (i := 12) (v := ?_) rfl (by kernel_rfl) (by kernel_rfl) (by kernel_rfl) (fun _ _ _ h => h) (Or.inl ⟨by rfl, ?_⟩) hH13 ?_
        rotate_left
        · ((intro W hW; clear hW; go_simp) <;> with_reducible rfl)
        simp only [Act.put, List.getElem_toArray, List.getElem_cons_zero, List.getElem_cons_succ, List.setIfInBounds_toArray, List.set_cons_zero, List.set_cons_succ]
        refine wpAnyH_ready (rs := [14]) (by kernel_rfl) (by simp) ?_
        refine AllReadyH.cons (o := _) rfl (fun K hK => ?_) AllReadyH.nil
        simp only [List.getElem_toArray, List.getElem_cons_zero, List.getElem_cons_succ]
        rw [if_pos (by rfl)]
        refine wp_store_blk 39 (.tmp 7) (.tmp 46) rfl g7 rfl #[.int .i64 tos, .int .i64 id, .int .i64 fl, .int .i64 pt, .int .i64 ttl, .int .i64 17, .int .u8 (a0.toNat : Int), .int .u8 (a1.toNat : Int), .int .u8 (a2.toNat : Int), .int .u8 (a3.toNat : Int), .int .u8 (a4.toNat : Int), .int .u8 (a5.toNat : Int), .int .u8 (a6.toNat : Int), .int .u8 (a7.toNat : Int), .slice Ao2 no co2, .slice Ab2 (8 + nd) cb2] rfl _ 39 hr (by rfl) (by kernel_rfl) (by kernel_rfl) ?_
        intro w14 hq gr
        replace ho := ho.away av_ho_r gr
        replace hb := hb.away av_hb_r gr
        replace hD := hD.away av_hD_r gr
        replace so1 := so1.away av_so1_r gr
        replace sb1 := sb1.away av_sb1_r gr
        replace so2 := so2.away av_so2_r gr
        replace sb2 := sb2.away av_sb2_r gr
        replace hp := blk_away hp gr zp d_p_r
        replace hd := blk_away hd gr zd d_d_r
        replace he := blk_away he gr ze d_e_r
        replace zp := Nat.lt_of_lt_of_le zp gr.size
        replace zd := Nat.lt_of_lt_of_le zd gr.size
        replace ze := Nat.lt_of_lt_of_le ze gr.size
        replace zr := Nat.lt_of_lt_of_le zr gr.size
        replace bel := below_grown bel gr or bel.size
        clear hr
        have hr := hq
        clear hq gr
        refine hK.out _ _ ⟨hp, hd⟩ (fun hH15 => ?_)
        clear hK K
        refine wpAnyH_take (i := 15) (v := ?_) rfl (by kernel_rfl) (by kernel_rfl) (by kernel_rfl) (fun _ _ _ h => h) (Or.inl ⟨by rfl, ?_⟩) hH15 ?_
        rotate_left
        · ((intro W hW; clear hW; go_simp) <;> with_reducible rfl)
        simp only [Act.put, List.getElem_toArray, List.getElem_cons_zero, List.getElem_cons_succ, List.setIfInBounds_toArray, List.set_cons_zero, List.set_cons_succ]
        refine wpAnyH_done (by kernel_rfl) ?_ _
        go_wp2_with fail
        go_meet
        case rel => exact ⟨g7, Ao2, co2, Ab2, cb2, rfl, rfl, hp, zp, hd, zd, he, ze, hr, zr, or, d_d_e, (ne_symm d_p_d), d_d_r, (ne_symm d_p_e), d_e_r, d_p_r, ho, av_ho_d, av_ho_e, av_ho_p, av_ho_r, hb, av_hb_d, av_hb_e, av_hb_p, av_hb_r, hD, av_hD_d, av_hD_e, av_hD_p, av_hD_r, so1, av_so1_d, av_so1_e, av_so1_p, av_so1_r, sb1, av_sb1_d, av_sb1_e, av_sb1_p, av_sb1_r, so2, av_so2_d, av_so2_e, av_so2_p, av_so2_r, sb2, av_sb2_d, av_sb2_e, av_sb2_p, av_sb2_r, bel⟩
    · simp only [List.getElem_toArray, List.getElem_cons_zero, List.getElem_cons_succ]
      rw [if_pos (by rfl)]
      refine wp_new_n 39 rfl (.agg #[.int .i64 0, .int .i64 0, .int .i64 0, .int .i64 0, .int .i64 0, .int .i64 0, .int .u8 0, .int .u8 0, .int .u8 0, .int .u8 0, .int .u8 0, .int .u8 0, .int .u8 0, .int .u8 0, .slice none 0 0, .slice none 0 0]) (by kernel_rfl) #[.int .i64 0, .int .i64 0, .int .i64 0, .int .i64 0, .int .i64 0, .int .i64 0, .int .u8 0, .int .u8 0, .int .u8 0, .int .u8 0, .int .u8 0, .int .u8 0, .int .u8 0, .int .u8 0, .slice none 0 0, .slice none 0 0] rfl ?_
      intro g7 w8 ge lt hh bb
      have d_p_r := ne_new zp ge
      have d_d_r := ne_new zd ge
      have d_e_r := ne_new ze ge
      have av_ho_r := ho.av_new ge
      have av_hb_r := hb.av_new ge
      have av_hD_r := hD.av_new ge
      have av_so1_r := so1.av_new ge
      have av_sb1_r := sb1.av_new ge
      have or := Nat.le_trans bel.size ge
      replace hp := blk_under hp bb zp
      replace zp := Nat.lt_of_lt_of_le zp bb.size
      replace hd := blk_under hd bb zd
      replace zd := Nat.lt_of_lt_of_le zd bb.size
      replace he := blk_under he bb ze
      replace ze := Nat.lt_of_lt_of_le ze bb.size
      replace ho := ho.below bb
      replace hb := hb.below bb
      replace hD := hD.below bb
      replace so1 := so1.below bb
      replace sb1 := sb1.below bb
      replace bel := bel.trans (bb.mono bel.size)
      have hr := hh
      have zr := lt
      clear hh lt ge bb
      refine hK.out _ _ ⟨hp, hd⟩ (fun hH9 => ?_)
      clear hK K
      refine wpAnyH_ready (rs := [1]) (by kernel_rfl) (by simp) ?_
      refine AllReadyH.cons (o := _) rfl (fun K hK => ?_) AllReadyH.nil
      simp only [List.getElem_toArray, List.getElem_cons_zero, List.getElem_cons_succ]
      go_simp
      with_reducible refine (own7_any _ _ _ _ _ _ _ _ _ _ _ _ _ _ _ _ _ _ _ _ _).mono ?_
      rintro e w10 ⟨rfl, b10⟩
      dsimp only
      replace hp := blk_under hp b10 zp
      replace zp := Nat.lt_of_lt_of_le zp b10.size
      replace hd := blk_under hd b10 zd
      replace zd := Nat.lt_of_lt_of_le zd b10.size
      replace he := blk_under he b10 ze
      replace ze := Nat.lt_of_lt_of_le ze b10.size
      replace hr := blk_under hr b10 zr
      replace zr := Nat.lt_of_lt_of_le zr b10.size
      replace ho := ho.below b10
      replace hb := hb.below b10
      replace hD := hD.below b10
      replace so1 := so1.below b10
      replace sb1 := sb1.below b10
      replace bel := bel.trans (b10.mono bel.size)
      clear b10
      refine hK.out _ _ ⟨hp, hd⟩ (fun hH11 => ?_)
      clear hK K
      refine wpAnyH_ready (rs := [9]) (by kernel_rfl) (by simp) ?_
      refine AllReadyH.cons (o := _) rfl (fun K hK => ?_) AllReadyH.nil
      simp only [List.getElem_toArray, List.getElem_cons_zero, List.getElem_cons_succ]
      go_simp
      with_reducible refine (rudput_good _ _ _ _ _ _ _ _ _ _ _ _ _ _ _ _ _ _ _ _ _ _ _ _ _ _ _ _ ho hD G1.out G2.out G3.out (by have := H2.out; omega)).mono ?_
      rintro e w12 ⟨Ao2, co2, Ab2, cb2, rfl, so2, sb2, fo2, fb2, b12⟩
      dsimp only
      have av_so2_p := fo2.av zp
      have av_so2_d := fo2.av zd
      have av_so2_e := fo2.av ze
      have av_so2_r := fo2.av zr
      have av_sb2_p := fb2.av zp
      have av_sb2_d := fb2.av zd
      have av_sb2_e := fb2.av ze
      have av_sb2_r := fb2.av zr
      replace hp := blk_under hp b12 zp
      replace zp := Nat.lt_of_lt_of_le zp b12.size
      replace hd := blk_under hd b12 zd
      replace zd := Nat.lt_of_lt_of_le zd b12.size
      replace he := blk_under he b12 ze
      replace ze := Nat.lt_of_lt_of_le ze b12.size
      replace hr := blk_under hr b12 zr
      replace zr := Nat.lt_of_lt_of_le zr b12.size
      replace ho := ho.below b12
      replace hb := hb.below b12
      replace hD := hD.below b12
      replace so1 := so1.below b12
      replace sb1 := sb1.below b12
      replace bel := bel.trans (b12.mono bel.size)
      clear b12
      replace so2 : Sl w12 (Ao2) (no) (co2) (lo) := so2
      replace sb2 : Sl w12 (Ab2) (8 + nd) (cb2) (udBytes a0 a1 a2 a3 a4 a5 a6 a7 df dt ld) := sb2
      refine hK.out _ _ ⟨hp, hd⟩ (fun hH13 => ?_)
      clear hK K
      refine wpAnyH_take (i := 10) (v := ?_) rfl (by kernel_rfl) (by kernel_rfl) (by kernel_rfl) (fun _ _ _ h => h) (Or.inl ⟨by rfl, ?_⟩) hH13 ?_
      rotate_left
      · ((intro W hW; clear hW; go_simp) <;> with_reducible rfl)
      simp only [Act.put, List.getElem_toArray, List.getElem_cons_zero, List.getElem_cons_succ, List.setIfInBounds_toArray, List.set_cons_zero, List.set_cons_succ]
      refine wpAnyH_take (i := 11) (v := ?_) rfl (by kernel_rfl) (by kernel_rfl) (by kernel_rfl) (fun _ _ _ h => h) (Or.inl ⟨by rfl, ?_⟩) hH13 ?_
      rotate_left
      · ((intro W hW; clear hW; go_simp) <;> with_reducible rfl)
      simp only [Act.put, List.getElem_toArray, List.getElem_cons_zero, List.getElem_cons_succ, List.setIfInBounds_toArray, List.set_cons_zero, List.set_cons_succ]
      refine wpAnyH_take (i := 12) (v := ?_) rfl (by kernel_rfl) (by kernel_rfl) (by kernel_rfl) (fun _ _ _ h => h) (Or.inl ⟨by rfl, ?_⟩) hH13 ?_
      rotate_left
      · ((intro W hW; clear hW; go_simp) <;> with_reducible rfl)
      simp only [Act.put, List.getElem_toArray, List.getElem_cons_zero, List.getElem_cons_succ, List.setIfInBounds_toArray, List.set_cons_zero, List.set_cons_succ]
      refine wpAnyH_ready (rs := [14]) (by kernel_rfl) (by simp) ?_
      refine AllReadyH.cons (o := _) rfl (fun K hK => ?_) AllReadyH.nil
      simp only [List.getElem_toArray, List.getElem_cons_zero, List.getElem_cons_succ]
      rw [if_pos (by rfl)]
      refine wp_store_blk 39 (.tmp 7) (.tmp 46) rfl g7 rfl #[.int .i64 tos, .int .i64 id, .int .i64 fl, .int .i64 pt, .int .i64 ttl, .int .i64 17, .int .u8 (a0.toNat : Int), .int .u8 (a1.toNat : Int), .int .u8 (a2.toNat : Int), .int .u8 (a3.toNat : Int), .int .u8 (a4.toNat : Int), .int .u8 (a5.toNat : Int), .int .u8 (a6.toNat : Int), .int .u8 (a7.toNat : Int), .slice Ao2 no co2, .slice Ab2 (8 + nd) cb2] rfl _ 39 hr (by rfl) (by kernel_rfl) (by kernel_rfl) ?_
      intro w14 hq gr
      replace ho := ho.away av_ho_r gr
      replace hb := hb.away av_hb_r gr
      replace hD := hD.away av_hD_r gr
      replace so1 := so1.away av_so1_r gr
      replace sb1 := sb1.away av_sb1_r gr
      replace so2 := so2.away av_so2_r gr
      replace sb2 := sb2.away av_sb2_r gr
      replace hp := blk_away hp gr zp d_p_r
      replace hd := blk_away hd gr zd d_d_r
      replace he := blk_away he gr ze d_e_r
      replace zp := Nat.lt_of_lt_of_le zp gr.size
      replace zd := Nat.lt_of_lt_of_le zd gr.size
      replace ze := Nat.lt_of_lt_of_le ze gr.size
      replace zr := Nat.lt_of_lt_of_le zr gr.size
      replace bel := below_grown bel gr or bel.size
      clear hr
      have hr := hq
      clear hq gr
      refine hK.out _ _ ⟨hp, hd⟩ (fun hH15 => ?_)
      clear hK K
      refine wpAnyH_take (i := 15) (v := ?_) rfl (by kernel_rfl) (by kernel_rfl) (by kernel_rfl) (fun _ _ _ h => h) (Or.inl ⟨by rfl, ?_⟩) hH15 ?_
      rotate_left
      · ((intro W hW; clear hW; go_simp) <;> with_reducible rfl)
      simp only [Act.put, List.getElem_toArray, List.getElem_cons_zero, List.getElem_cons_succ, List.setIfInBounds_toArray, List.set_cons_zero, List.set_cons_succ]
      refine wpAnyH_done (by kernel_rfl) ?_ _
      go_wp2_with fail
      go_meet
      case rel => exact ⟨g7, Ao2, co2, Ab2, cb2, rfl, rfl, hp, zp, hd, zd, he, ze, hr, zr, or, d_d_e, (ne_symm d_p_d), d_d_r, (ne_symm d_p_e), d_e_r, d_p_r, ho, av_ho_d, av_ho_e, av_ho_p, av_ho_r, hb, av_hb_d, av_hb_e, av_hb_p, av_hb_r, hD, av_hD_d, av_hD_e, av_hD_p, av_hD_r, so1, av_so1_d, av_so1_e, av_so1_p, av_so1_r, sb1, av_sb1_d, av_sb1_e, av_sb1_p, av_sb1_r, so2, av_so2_d, av_so2_e, av_so2_p, av_so2_r, sb2, av_sb2_d, av_sb2_e, av_sb2_p, av_sb2_r, bel⟩
  obtain ⟨w16, hw_⟩ : ∃ x, x = wc := ⟨_, rfl⟩
  subst hw_
  obtain ⟨g7, Ao2, co2, Ab2, cb2, rfl, rfl, hp, zp, hd, zd, he, ze, hr, zr, or, d_d_e, d_d_p, d_d_r, d_e_p, d_e_r, d_p_r, ho, av_ho_d, av_ho_e, av_ho_p, av_ho_r, hb, av_hb_d, av_hb_e, av_hb_p, av_hb_r, hD, av_hD_d, av_hD_e, av_hD_p, av_hD_r, so1, av_so1_d, av_so1_e, av_so1_p, av_so1_r, sb1, av_sb1_d, av_sb1_e, av_sb1_p, av_sb1_r, so2, av_so2_d, av_so2_e, av_so2_p, av_so2_r, sb2, av_sb2_d, av_sb2_e, av_sb2_p, av_sb2_r, bel⟩ := hcut
  go_wp2_with fail
  replace bel := bel.drew
  replace hp : w16.drew.heap[g2]? = _ := hp
  replace zp : _ < w16.drew.heap.size := zp
  replace hd : w16.drew.heap[g3]? = _ := hd
  replace zd : _ < w16.drew.heap.size := zd
  replace he : w16.drew.heap[g5]? = _ := he
  replace ze : _ < w16.drew.heap.size := ze
  replace hr : w16.drew.heap[g7]? = _ := hr
  replace zr : _ < w16.drew.heap.size := zr
  replace ho := ho.drew
  replace hb := hb.drew
  replace hD := hD.drew
  replace so1 := so1.drew
  replace sb1 := sb1.drew
  replace so2 := so2.drew
  replace sb2 := sb2.drew
  refine wp_region_held_drew (S := fun W => W.heap[g5]? = some (.cells #[.int .i64 tos, .int .i64 id, .int .i64 fl, .int .i64 pt, .int .i64 ttl, .int .i64 17, .int .u8 (a0.toNat : Int), .int .u8 (a1.toNat : Int), .int .u8 (a2.toNat : Int), .int .u8 (a3.toNat : Int), .int .u8 (a4.toNat : Int), .int .u8 (a5.toNat : Int), .int .u8 (a6.toNat : Int), .int .u8 (a7.toNat : Int), .slice Ao1 no co1, .slice Ab1 (8 + nd) cb1] 27 (0, 0)) ∧ W.heap[g7]? = some (.cells #[.int .i64 tos, .int .i64 id, .int .i64 fl, .int .i64 pt, .int .i64 ttl, .int .i64 17, .int .u8 (a0.toNat : Int), .int .u8 (a1.toNat : Int), .int .u8 (a2.toNat : Int), .int .u8 (a3.toNat : Int), .int .u8 (a4.toNat : Int), .int .u8 (a5.toNat : Int), .int .u8 (a6.toNat : Int), .int .u8 (a7.toNat : Int), .slice Ao2 no co2, .slice Ab2 (8 + nd) cb2] 39 (0, 0))) (by kernel_rfl) ⟨he, hr⟩ (fun hH => ?_)
  generalize w16.drew = w17 at bel hp zp hd zd he ze hr zr ho hb hD so1 sb1 so2 sb2 hH ⊢
  refine wpAnyH_take (i := 0) (v := ?_) rfl (by kernel_rfl) (by kernel_rfl) (by kernel_rfl) (fun _ _ _ h => h) (Or.inl ⟨by rfl, ?_⟩) hH ?_
  rotate_left
  · ((intro W hW; clear hW; go_simp) <;> with_reducible rfl)
  simp only [Act.put, List.getElem_toArray, List.getElem_cons_zero, List.setIfInBounds_toArray, List.set_cons_zero, List.set_cons_succ]
  refine wpAnyH_take (i := 1) (v := ?_) rfl (by kernel_rfl) (by kernel_rfl) (by kernel_rfl) (fun _ _ _ h => h) (Or.inl ⟨by rfl, ?_⟩) hH ?_
  rotate_left
  · ((intro W hW; clear hW; go_simp) <;> with_reducible rfl)
  simp only [Act.put, List.getElem_toArray, List.getElem_cons_zero, List.getElem_cons_succ, List.setIfInBounds_toArray, List.set_cons_zero, List.set_cons_succ]
  refine wpAnyH_take (i := 2) (v := ?_) rfl (by kernel_rfl) (by kernel_rfl) (by kernel_rfl) (fun _ _ _ h => h) (Or.inl ⟨by rfl, ?_⟩) hH ?_
  rotate_left
  · ((intro W hW; clear hW; go_simp) <;> with_reducible rfl)
  simp only [Act.put, List.getElem_toArray, List.getElem_cons_zero, List.getElem_cons_succ, List.setIfInBounds_toArray, List.set_cons_zero, List.set_cons_succ]
  refine wpAnyH_take (i := 3) (v := ?_) rfl (by kernel_rfl) (by kernel_rfl) (by kernel_rfl) (fun _ _ _ h => h) (Or.inl ⟨by rfl, ?_⟩) hH ?_
  rotate_left
  · ((intro W hW; clear hW; go_simp) <;> with_reducible rfl)
  simp only [Act.put, List.getElem_toArray, List.getElem_cons_zero, List.getElem_cons_succ, List.setIfInBounds_toArray, List.set_cons_zero, List.set_cons_succ]
  refine wpAnyH_take (i := 4) (v := ?_) rfl (by kernel_rfl) (by kernel_rfl) (by kernel_rfl) (fun _ _ _ h => h) (Or.inl ⟨by rfl, ?_⟩) hH ?_
  rotate_left
  · ((intro W hW; clear hW; go_simp) <;> with_reducible rfl)
  simp only [Act.put, List.getElem_toArray, List.getElem_cons_zero, List.getElem_cons_succ, List.setIfInBounds_toArray, List.set_cons_zero, List.set_cons_succ]
  refine wpAnyH_take (i := 5) (v := ?_) rfl (by kernel_rfl) (by kernel_rfl) (by kernel_rfl) (fun _ _ _ h => h) (Or.inl ⟨by rfl, ?_⟩) hH ?_
  rotate_left
  · ((intro W hW; clear hW; go_simp) <;> with_reducible rfl)
  simp only [Act.put, List.getElem_toArray, List.getElem_cons_zero, List.getElem_cons_succ, List.setIfInBounds_toArray, List.set_cons_zero, List.set_cons_succ]
  refine wpAnyH_take (i := 6) (v := ?_) rfl (by kernel_rfl) (by kernel_rfl) (by kernel_rfl) (fun _ _ _ h => h) (Or.inl ⟨by rfl, ?_⟩) hH ?_
  rotate_left
  · ((intro W hW; clear hW; go_simp) <;> with_reducible rfl)
  simp only [Act.put, List.getElem_toArray, List.getElem_cons_zero, List.getElem_cons_succ, List.setIfInBounds_toArray, List.set_cons_zero, List.set_cons_succ]
  refine wpAnyH_take (i := 7) (v := .agg #[.int .i64 tos, .int .i64 id, .int .i64 fl, .int .i64 pt, .int .i64 ttl, .int .i64 17, .int .u8 (a0.toNat : Int), .int .u8 (a1.toNat : Int), .int .u8 (a2.toNat : Int), .int .u8 (a3.toNat : Int), .int .u8 (a4.toNat : Int), .int .u8 (a5.toNat : Int), .int .u8 (a6.toNat : Int), .int .u8 (a7.toNat : Int), .slice Ao1 no co1, .slice Ab1 (8 + nd) cb1]) rfl (by kernel_rfl) (by kernel_rfl) (by kernel_rfl) (fun _ _ _ h => h) (yieldsIf_load_part (by kernel_rfl) 27 _ rfl g5 0 16 rfl [.int .i64 tos, .int .i64 id, .int .i64 fl, .int .i64 pt, .int .i64 ttl, .int .i64 17, .int .u8 (a0.toNat : Int), .int .u8 (a1.toNat : Int), .int .u8 (a2.toNat : Int), .int .u8 (a3.toNat : Int), .int .u8 (a4.toNat : Int), .int .u8 (a5.toNat : Int), .int .u8 (a6.toNat : Int), .int .u8 (a7.toNat : Int), .slice Ao1 no co1, .slice Ab1 (8 + nd) cb1] 27 (0, 0) (fun W hW => hW.1) [.int .i64 tos, .int .i64 id, .int .i64 fl, .int .i64 pt, .int .i64 ttl, .int .i64 17, .int .u8 (a0.toNat : Int), .int .u8 (a1.toNat : Int), .int .u8 (a2.toNat : Int), .int .u8 (a3.toNat : Int), .int .u8 (a4.toNat : Int), .int .u8 (a5.toNat : Int), .int .u8 (a6.toNat : Int), .int .u8 (a7.toNat : Int), .slice Ao1 no co1, .slice Ab1 (8 + nd) cb1] rfl _ Try.underlying27 rfl (by kernel_rfl)) hH ?_
  simp only [Act.put, List.getElem_toArray, List.getElem_cons_zero, List.getElem_cons_succ, List.setIfInBounds_toArray, List.set_cons_zero, List.set_cons_succ]
  refine wpAnyH_take (i := 9) (v := .agg #[.int .i64 tos, .int .i64 id, .int .i64 fl, .int .i64 pt, .int .i64 ttl, .int .i64 17, .int .u8 (a0.toNat : Int), .int .u8 (a1.toNat : Int), .int .u8 (a2.toNat : Int), .int .u8 (a3.toNat : Int), .int .u8 (a4.toNat : Int), .int .u8 (a5.toNat : Int), .int .u8 (a6.toNat : Int), .int .u8 (a7.toNat : Int), .slice Ao2 no co2, .slice Ab2 (8 + nd) cb2]) rfl (by kernel_rfl) (by kernel_rfl) (by kernel_rfl) (fun _ _ _ h => h) (yieldsIf_load_part (by kernel_rfl) 39 _ rfl g7 0 16 rfl [.int .i64 tos, .int .i64 id, .int .i64 fl, .int .i64 pt, .int .i64 ttl, .int .i64 17, .int .u8 (a0.toNat : Int), .int .u8 (a1.toNat : Int), .int .u8 (a2.toNat : Int), .int .u8 (a3.toNat : Int), .int .u8 (a4.toNat : Int), .int .u8 (a5.toNat : Int), .int .u8 (a6.toNat : Int), .int .u8 (a7.toNat : Int), .slice Ao2 no co2, .slice Ab2 (8 + nd) cb2] 39 (0, 0) (fun W hW => hW.2) [.int .i64 tos, .int .i64 id, .int .i64 fl, .int .i64 pt, .int .i64 ttl, .int .i64 17, .int .u8 (a0.toNat : Int), .int .u8 (a1.toNat : Int), .int .u8 (a2.toNat : Int), .int .u8 (a3.toNat : Int), .int .u8 (a4.toNat : Int), .int .u8 (a5.toNat : Int), .int .u8 (a6.toNat : Int), .int .u8 (a7.toNat : Int), .slice Ao2 no co2, .slice Ab2 (8 + nd) cb2] rfl _ Try.underlying39 rfl (by kernel_rfl)) hH ?_
  simp only [Act.put, List.getElem_toArray, List.getElem_cons_zero, List.getElem_cons_succ, List.setIfInBounds_toArray, List.set_cons_zero, List.set_cons_succ]
  refine wpAnyH_ready (rs := [8]) (by kernel_rfl) (by simp) ?_
  refine AllReadyH.cons (o := _) rfl (fun K hK => ?_) AllReadyH.nil
  simp only [List.getElem_toArray, List.getElem_cons_zero, List.getElem_cons_succ]
  go_simp
  with_reducible refine (own7_any _ _ _ _ _ _ _ _ _ _ _ _ _ _ _ _ _ _ _ _ _).mono ?_
  rintro e w18 ⟨rfl, b18⟩
  dsimp only
  replace hp := blk_under hp b18 zp
  replace zp := Nat.lt_of_lt_of_le zp b18.size
  replace hd := blk_under hd b18 zd
  replace zd := Nat.lt_of_lt_of_le zd b18.size
  replace he := blk_under he b18 ze
  replace ze := Nat.lt_of_lt_of_le ze b18.size
  replace hr := blk_under hr b18 zr
  replace zr := Nat.lt_of_lt_of_le zr b18.size
  replace ho := ho.below b18
  replace hb := hb.below b18
  replace hD := hD.below b18
  replace so1 := so1.below b18
  replace sb1 := sb1.below b18
  replace so2 := so2.below b18
  replace sb2 := sb2.below b18
  replace bel := bel.trans (b18.mono bel.size)
  clear b18
  refine hK.out _ _ ⟨he, hr⟩ (fun hH19 => ?_)
  clear hK K
  refine wpAnyH_ready (rs := [10]) (by kernel_rfl) (by simp) ?_
  refine AllReadyH.cons (o := _) rfl (fun K hK => ?_) AllReadyH.nil
  simp only [List.getElem_toArray, List.getElem_cons_zero, List.getElem_cons_succ]
  go_simp
  with_reducible refine (same6_true _ _ _ _ _ _ _ _ _ _ _ _ _ _ _ _ _ _ _ _ _ _ _ _ _ _ _  so1 sb1 so2 sb2).mono ?_
  rintro e w20 ⟨rfl, b20⟩
  dsimp only
  replace hp := blk_under hp b20 zp
  replace zp := Nat.lt_of_lt_of_le zp b20.size
  replace hd := blk_under hd b20 zd
  replace zd := Nat.lt_of_lt_of_le zd b20.size
  replace he := blk_under he b20 ze
  replace ze := Nat.lt_of_lt_of_le ze b20.size
  replace hr := blk_under hr b20 zr
  replace zr := Nat.lt_of_lt_of_le zr b20.size
  replace ho := ho.below b20
  replace hb := hb.below b20
  replace hD := hD.below b20
  replace so1 := so1.below b20
  replace sb1 := sb1.below b20
  replace so2 := so2.below b20
  replace sb2 := sb2.below b20
  replace bel := bel.trans (b20.mono bel.size)
  clear b20
  refine hK.out _ _ ⟨he, hr⟩ (fun hH21 => ?_)
  clear hK K
  refine wpAnyH_take (i := 11) (v := ?_) rfl (by kernel_rfl) (by kernel_rfl) (by kernel_rfl) (fun _ _ _ h => h) (Or.inl ⟨by rfl, ?_⟩) hH21 ?_
  rotate_left
  · ((intro W hW; clear hW; go_simp) <;> with_reducible rfl)
  simp only [Act.put, List.getElem_toArray, List.getElem_cons_zero, List.getElem_cons_succ, List.setIfInBounds_toArray, List.set_cons_zero, List.set_cons_succ]
  refine wpAnyH_take (i := 12) (v := ?_) rfl (by kernel_rfl) (by kernel_rfl) (by kernel_rfl) (fun _ _ _ h => h) (Or.inl ⟨by rfl, ?_⟩) hH21 ?_
  rotate_left
  · ((intro W hW; clear hW; go_simp) <;> with_reducible rfl)
  simp only [Act.put, List.getElem_toArray, List.getElem_cons_zero, List.getElem_cons_succ, List.setIfInBounds_toArray, List.set_cons_zero, List.set_cons_succ]
  refine wpAnyH_take (i := 13) (v := ?_) rfl (by kernel_rfl) (by kernel_rfl) (by kernel_rfl) (fun _ _ _ h => h) (Or.inl ⟨by rfl, ?_⟩) hH21 ?_
  rotate_left
  · ((intro W hW; clear hW; go_simp) <;> with_reducible rfl)
  simp only [Act.put, List.getElem_toArray, List.getElem_cons_zero, List.getElem_cons_succ, List.setIfInBounds_toArray, List.set_cons_zero, List.set_cons_succ]
  refine wpAnyH_done (by kernel_rfl) ?_ _
  have R65 := Lib.hid (range_lit he 0 16 [.int .i64 tos, .int .i64 id, .int .i64 fl, .int .i64 pt, .int .i64 ttl, .int .i64 17, .int .u8 (a0.toNat : Int), .int .u8 (a1.toNat : Int), .int .u8 (a2.toNat : Int), .int .u8 (a3.toNat : Int), .int .u8 (a4.toNat : Int), .int .u8 (a5.toNat : Int), .int .u8 (a6.toNat : Int), .int .u8 (a7.toNat : Int), .slice Ao1 no co1, .slice Ab1 (8 + nd) cb1] rfl)
  go_wp2_with (first | ((with_reducible show wpList _ _ _ (⟨some 65, _, _, _, _, _⟩ :: _) _ _); refine wpList_load_rng 27 (.tmp 5) rfl (by kernel_rfl) _ _ rfl _ R65.out _ Try.underlying27 rfl (by kernel_rfl) ?_))
  try clear R65
  with_reducible refine (ipwhole_any _ _ _ _ _ _ _ _ _ _ _ _ _ _ _ _ _ _ _ _ _).mono ?_
  rintro e w22 ⟨rfl, b22⟩
  replace hp := blk_under hp b22 zp
  replace zp := Nat.lt_of_lt_of_le zp b22.size
  replace hd := blk_under hd b22 zd
  replace zd := Nat.lt_of_lt_of_le zd b22.size
  replace he := blk_under he b22 ze
  replace ze := Nat.lt_of_lt_of_le ze b22.size
  replace hr := blk_under hr b22 zr
  replace zr := Nat.lt_of_lt_of_le zr b22.size
  replace ho := ho.below b22
  replace hb := hb.below b22
  replace hD := hD.below b22
  replace so1 := so1.below b22
  replace sb1 := sb1.below b22
  replace so2 := so2.below b22
  replace sb2 := sb2.below b22
  replace bel := bel.trans (b22.mono bel.size)
  clear b22
  rw [HW.out]
  go_wp2_with fail
  go_ret
  exact ⟨rfl, bel⟩
set_option linter.unusedVariables false in
set_option maxRecDepth 100000 in
set_option maxHeartbeats 16000000 in
theorem udpWrites_6 (tos id fl pt ttl pr : Int) (a0 a1 a2 a3 a4 a5 a6 a7 : UInt8) (So : Option Addr) (no co : Nat) (lo : List UInt8) (Sb : Option Addr) (nb cb : Nat) (lb : List UInt8) (df dt : Int) (D : Option Addr) (nd cd : Nat) (ld : List UInt8) (w : World) (ho : Sl w So no co lo) (hb : Sl w Sb nb cb lb) (hD : Sl w D nd cd ld) (h1 : nb ≤ 1600) (h2 : no ≤ 60) (h3 : nd ≤ 1600) (g1 : portOk df = true) (g2 : portOk dt = true) (g3 : nd ≤ 1472) (hw : (decide (pt = 0) && decide (fl % 2 = 0)) = true) : Calls Try.prog 5 #[.agg #[.int .i64 tos, .int .i64 id, .int .i64 fl, .int .i64 pt, .int .i64 ttl, .int .i64 pr, .int .u8 (a0.toNat : Int), .int .u8 (a1.toNat : Int), .int .u8 (a2.toNat : Int), .int .u8 (a3.toNat : Int), .int .u8 (a4.toNat : Int), .int .u8 (a5.toNat : Int), .int .u8 (a6.toNat : Int), .int .u8 (a7.toNat : Int), .slice So no co, .slice Sb nb cb], .agg #[.int .i64 df, .int .i64 dt, .slice D nd cd]] w fun e w' => e = .returned (.bool true) ∧ Below w.heap.size w w' := by
  have t1 : decide ((1600 : Int) < nb) = false := decide_eq_false (by omega)
  have t2 : decide ((60 : Int) < no) = false := decide_eq_false (by omega)
  have t3 : decide ((1600 : Int) < nd) = false := decide_eq_false (by omega)
  have H2 := Lib.hid h2
  have H3 := Lib.hid h3
  clear h1 h2 h3
  have G1 := Lib.hid g1
  have G2 := Lib.hid g2
  have G3 := Lib.hid g3
  clear g1 g2 g3
  have HW := Lib.hid hw
  clear hw
  have bel := Below.refl w.heap.size w
  go_enter Try.func5, Try.ntmps5
  go_wp2_with (first | ((with_reducible show wpList _ _ _ (⟨some 2, _, _, _, _, _⟩ :: _) _ _); refine wpList_box_n rfl 27 (.tmp 0) rfl #[.int .i64 tos, .int .i64 id, .int .i64 fl, .int .i64 pt, .int .i64 ttl, .int .i64 pr, .int .u8 (a0.toNat : Int), .int .u8 (a1.toNat : Int), .int .u8 (a2.toNat : Int), .int .u8 (a3.toNat : Int), .int .u8 (a4.toNat : Int), .int .u8 (a5.toNat : Int), .int .u8 (a6.toNat : Int), .int .u8 (a7.toNat : Int), .slice So no co, .slice Sb nb cb] rfl ?_; intro g2 w1 ge lt hh bb; have av_ho_p := ho.av_new ge; have av_hb_p := hb.av_new ge; have av_hD_p := hD.av_new ge; have op := Nat.le_trans bel.size ge; replace ho := ho.below bb; replace hb := hb.below bb; replace hD := hD.below bb; replace bel := bel.trans (bb.mono bel.size); have hp := hh; have zp := lt; clear hh lt ge bb) | ((with_reducible show wpList _ _ _ (⟨some 3, _, _, _, _, _⟩ :: _) _ _); refine wpList_box_n rfl 33 (.tmp 1) rfl #[.int .i64 df, .int .i64 dt, .slice D nd cd] rfl ?_; intro g3 w2 ge lt hh bb; have d_p_d := ne_new zp ge; have av_ho_d := ho.av_new ge; have av_hb_d := hb.av_new ge; have av_hD_d := hD.av_new ge; have od := Nat.le_trans bel.size ge; replace hp := blk_under hp bb zp; replace zp := Nat.lt_of_lt_of_le zp bb.size; replace ho := ho.below bb; replace hb := hb.below bb; replace hD := hD.below bb; replace bel := bel.trans (bb.mono bel.size); have hd := hh; have zd := lt; clear hh lt ge bb))
  with_reducible refine (awake7 _).mono ?_
  rintro e w3 ⟨rfl, b3⟩
  replace hp := blk_under hp b3 zp
  replace zp := Nat.lt_of_lt_of_le zp b3.size
  replace hd := blk_under hd b3 zd
  replace zd := Nat.lt_of_lt_of_le zd b3.size
  replace ho := ho.below b3
  replace hb := hb.below b3
  replace hD := hD.below b3
  replace bel := bel.trans (b3.mono bel.size)
  clear b3
  have R14 := cell_lit hp 15 _ rfl
  have R19 := cell_lit hp 14 _ rfl
  have R25 := cell_lit hd 2 _ rfl
  have R30 := Lib.hid (range_lit hp 0 16 [.int .i64 tos, .int .i64 id, .int .i64 fl, .int .i64 pt, .int .i64 ttl, .int .i64 pr, .int .u8 (a0.toNat : Int), .int .u8 (a1.toNat : Int), .int .u8 (a2.toNat : Int), .int .u8 (a3.toNat : Int), .int .u8 (a4.toNat : Int), .int .u8 (a5.toNat : Int), .int .u8 (a6.toNat : Int), .int .u8 (a7.toNat : Int), .slice So no co, .slice Sb nb cb] rfl)
  go_wp2_with (first | ((with_reducible show wpList _ _ _ (⟨some 30, _, _, _, _, _⟩ :: _) _ _); refine wpList_load_rng 27 (.tmp 2) rfl (by kernel_rfl) _ _ rfl _ R30.out _ Try.underlying27 rfl (by kernel_rfl) ?_; have R31 := Lib.hid (range_lit hd 0 3 [.int .i64 df, .int .i64 dt, .slice D nd cd] rfl)) | ((with_reducible show wpList _ _ _ (⟨some 31, _, _, _, _, _⟩ :: _) _ _); refine wpList_load_rng 33 (.tmp 3) rfl (by kernel_rfl) _ _ rfl _ R31.out _ Try.underlying33 rfl (by kernel_rfl) ?_))
  try clear R14
  try clear R19
  try clear R25
  try clear R30
  try clear R31
  with_reducible refine (udput_good _ _ _ _ _ _ _ _ _ _ _ _ _ _ _ _ _ _ _ _ _ _ _ _ _ _ _ _ ho hD G1.out G2.out G3.out (by have := H2.out; omega)).mono ?_
  rintro e w4 ⟨Ao1, co1, Ab1, cb1, rfl, so1, sb1, fo1, fb1, b4⟩
  have av_so1_p := fo1.av zp
  have av_so1_d := fo1.av zd
  have av_sb1_p := fb1.av zp
  have av_sb1_d := fb1.av zd
  replace hp := blk_under hp b4 zp
  replace zp := Nat.lt_of_lt_of_le zp b4.size
  replace hd := blk_under hd b4 zd
  replace zd := Nat.lt_of_lt_of_le zd b4.size
  replace ho := ho.below b4
  replace hb := hb.below b4
  replace hD := hD.below b4
  replace bel := bel.trans (b4.mono bel.size)
  clear b4
  replace so1 : Sl w4 (Ao1) (no) (co1) (lo) := so1
  replace sb1 : Sl w4 (Ab1) (8 + nd) (cb1) (udBytes a0 a1 a2 a3 a4 a5 a6 a7 df dt ld) := sb1
  go_wp2_with (first | ((with_reducible show wpList _ _ _ (⟨some 5, _, _, _, _, _⟩ :: _) _ _); refine wpList_new_n rfl 27 rfl (.agg #[.int .i64 0, .int .i64 0, .int .i64 0, .int .i64 0, .int .i64 0, .int .i64 0, .int .u8 0, .int .u8 0, .int .u8 0, .int .u8 0, .int .u8 0, .int .u8 0, .int .u8 0, .int .u8 0, .slice none 0 0, .slice none 0 0]) (by kernel_rfl) #[.int .i64 0, .int .i64 0, .int .i64 0, .int .i64 0, .int .i64 0, .int .i64 0, .int .u8 0, .int .u8 0, .int .u8 0, .int .u8 0, .int .u8 0, .int .u8 0, .int .u8 0, .int .u8 0, .slice none 0 0, .slice none 0 0] rfl ?_; intro g5 w5 ge lt hh bb; have d_p_e := ne_new zp ge; have d_d_e := ne_new zd ge; have av_ho_e := ho.av_new ge; have av_hb_e := hb.av_new ge; have av_hD_e := hD.av_new ge; have av_so1_e := so1.av_new ge; have av_sb1_e := sb1.av_new ge; have oe := Nat.le_trans bel.size ge; replace hp := blk_under hp bb zp; replace zp := Nat.lt_of_lt_of_le zp bb.size; replace hd := blk_under hd bb zd; replace zd := Nat.lt_of_lt_of_le zd bb.size; replace ho := ho.below bb; replace hb := hb.below bb; replace hD := hD.below bb; replace so1 := so1.below bb; replace sb1 := sb1.below bb; replace bel := bel.trans (bb.mono bel.size); have he := hh; have ze := lt; clear hh lt ge bb) | ((with_reducible show wpList _ _ _ (⟨none, Op.store _ (.tmp 5) _, _, _, _, _⟩ :: _) _ _); refine wpList_store_blk rfl 27 (.tmp 5) (.tmp 33) rfl g5 rfl #[.int .i64 tos, .int .i64 id, .int .i64 fl, .int .i64 pt, .int .i64 ttl, .int .i64 17, .int .u8 (a0.toNat : Int), .int .u8 (a1.toNat : Int), .int .u8 (a2.toNat : Int), .int .u8 (a3.toNat : Int), .int .u8 (a4.toNat : Int), .int .u8 (a5.toNat : Int), .int .u8 (a6.toNat : Int), .int .u8 (a7.toNat : Int), .slice Ao1 no co1, .slice Ab1 (8 + nd) cb1] rfl _ 27 he (by rfl) (by kernel_rfl) (by kernel_rfl) ?_; intro w6 hq gr; replace ho := ho.away av_ho_e gr; replace hb := hb.away av_hb_e gr; replace hD := hD.away av_hD_e gr; replace so1 := so1.away av_so1_e gr; replace sb1 := sb1.away av_sb1_e gr; replace hp := blk_away hp gr zp d_p_e; replace hd := blk_away hd gr zd d_d_e; replace zp := Nat.lt_of_lt_of_le zp gr.size; replace zd := Nat.lt_of_lt_of_le zd gr.size; replace ze := Nat.lt_of_lt_of_le ze gr.size; replace bel := below_grown bel gr oe bel.size; clear he; have he := hq; clear hq gr))
  go_cut [7, 8] from 9999 (fun s7 s8 W => ∃ g7 : Nat, ∃ Ao2 : Option Addr, ∃ co2 : Nat, ∃ Ab2 : Option Addr, ∃ cb2 : Nat, s7 = .pointer (some ⟨g7, 0, none⟩) ∧ s8 = .int .i64 0 ∧ W.heap[g2]? = some (.cells #[.int .i64 tos, .int .i64 id, .int .i64 fl, .int .i64 pt, .int .i64 ttl, .int .i64 pr, .int .u8 (a0.toNat : Int), .int .u8 (a1.toNat : Int), .int .u8 (a2.toNat : Int), .int .u8 (a3.toNat : Int), .int .u8 (a4.toNat : Int), .int .u8 (a5.toNat : Int), .int .u8 (a6.toNat : Int), .int .u8 (a7.toNat : Int), .slice So no co, .slice Sb nb cb] 27 (0, 0)) ∧ g2 < W.heap.size ∧ W.heap[g3]? = some (.cells #[.int .i64 df, .int .i64 dt, .slice D nd cd] 33 (0, 0)) ∧ g3 < W.heap.size ∧ W.heap[g5]? = some (.cells #[.int .i64 tos, .int .i64 id, .int .i64 fl, .int .i64 pt, .int .i64 ttl, .int .i64 17, .int .u8 (a0.toNat : Int), .int .u8 (a1.toNat : Int), .int .u8 (a2.toNat : Int), .int .u8 (a3.toNat : Int), .int .u8 (a4.toNat : Int), .int .u8 (a5.toNat : Int), .int .u8 (a6.toNat : Int), .int .u8 (a7.toNat : Int), .slice Ao1 no co1, .slice Ab1 (8 + nd) cb1] 27 (0, 0)) ∧ g5 < W.heap.size ∧ W.heap[g7]? = some (.cells #[.int .i64 tos, .int .i64 id, .int .i64 fl, .int .i64 pt, .int .i64 ttl, .int .i64 17, .int .u8 (a0.toNat : Int), .int .u8 (a1.toNat : Int), .int .u8 (a2.toNat : Int), .int .u8 (a3.toNat : Int), .int .u8 (a4.toNat : Int), .int .u8 (a5.toNat : Int), .int .u8 (a6.toNat : Int), .int .u8 (a7.toNat : Int), .slice Ao2 no co2, .slice Ab2 (8 + nd) cb2] 39 (0, 0)) ∧ g7 < W.heap.size ∧ w.heap.size ≤ g7 ∧ Hid (g3 ≠ g5) ∧ Hid (g3 ≠ g2) ∧ Hid (g3 ≠ g7) ∧ Hid (g5 ≠ g2) ∧ Hid (g5 ≠ g7) ∧ Hid (g2 ≠ g7) ∧ Sl W (So) (no) (co) (lo) ∧ Av (So) (no) g3 ∧ Av (So) (no) g5 ∧ Av (So) (no) g2 ∧ Av (So) (no) g7 ∧ Sl W (Sb) (nb) (cb) (lb) ∧ Av (Sb) (nb) g3 ∧ Av (Sb) (nb) g5 ∧ Av (Sb) (nb) g2 ∧ Av (Sb) (nb) g7 ∧ Sl W (D) (nd) (cd) (ld) ∧ Av (D) (nd) g3 ∧ Av (D) (nd) g5 ∧ Av (D) (nd) g2 ∧ Av (D) (nd) g7 ∧ Sl W (Ao1) (no) (co1) (lo) ∧ Av (Ao1) (no) g3 ∧ Av (Ao1) (no) g5 ∧ Av (Ao1) (no) g2 ∧ Av (Ao1) (no) g7 ∧ Sl W (Ab1) (8 + nd) (cb1) (udBytes a0 a1 a2 a3 a4 a5 a6 a7 df dt ld) ∧ Av (Ab1) (8 + nd) g3 ∧ Av (Ab1) (8 + nd) g5 ∧ Av (Ab1) (8 + nd) g2 ∧ Av (Ab1) (8 + nd) g7 ∧ Sl W (Ao2) (no) (co2) (lo) ∧ Av (Ao2) (no) g3 ∧ Av (Ao2) (no) g5 ∧ Av (Ao2) (no) g2 ∧ Av (Ao2) (no) g7 ∧ Sl W (Ab2) (8 + nd) (cb2) (udBytes a0 a1 a2 a3 a4 a5 a6 a7 df dt ld) ∧ Av (Ab2) (8 + nd) g3 ∧ Av (Ab2) (8 + nd) g5 ∧ Av (Ab2) (8 + nd) g2 ∧ Av (Ab2) (8 + nd) g7 ∧ Below w.heap.size w W)
  case first =>
    replace bel := bel.drew
    replace hp : w6.drew.heap[g2]? = _ := hp
    replace zp : _ < w6.drew.heap.size := zp
    replace hd : w6.drew.heap[g3]? = _ := hd
    replace zd : _ < w6.drew.heap.size := zd
    replace he : w6.drew.heap[g5]? = _ := he
    replace ze : _ < w6.drew.heap.size := ze
    replace ho := ho.drew
    replace hb := hb.drew
    replace hD := hD.drew
    replace so1 := so1.drew
    replace sb1 := sb1.drew
    refine wp_region_held_drew (S := fun W => W.heap[g2]? = some (.cells #[.int .i64 tos, .int .i64 id, .int .i64 fl, .int .i64 pt, .int .i64 ttl, .int .i64 pr, .int .u8 (a0.toNat : Int), .int .u8 (a1.toNat : Int), .int .u8 (a2.toNat : Int), .int .u8 (a3.toNat : Int), .int .u8 (a4.toNat : Int), .int .u8 (a5.toNat : Int), .int .u8 (a6.toNat : Int), .int .u8 (a7.toNat : Int), .slice So no co, .slice Sb nb cb] 27 (0, 0)) ∧ W.heap[g3]? = some (.cells #[.int .i64 df, .int .i64 dt, .slice D nd cd] 33 (0, 0))) (by kernel_rfl) ⟨hp, hd⟩ (fun hH => ?_)
    generalize w6.drew = w7 at bel hp zp hd zd he ze ho hb hD so1 sb1 hH ⊢
    refine wpAnyH_take (i := 0) (v := .agg #[.int .i64 tos, .int .i64 id, .int .i64 fl, .int .i64 pt, .int .i64 ttl, .int .i64 pr, .int .u8 (a0.toNat : Int), .int .u8 (a1.toNat : Int), .int .u8 (a2.toNat : Int), .int .u8 (a3.toNat : Int), .int .u8 (a4.toNat : Int), .int .u8 (a5.toNat : Int), .int .u8 (a6.toNat : Int), .int .u8 (a7.toNat : Int), .slice So no co, .slice Sb nb cb]) rfl (by kernel_rfl) (by kernel_rfl) (by kernel_rfl) (fun _ _ _ h => h) (yieldsIf_load_part (by kernel_rfl) 27 _ rfl g2 0 16 rfl [.int .i64 tos, .int .i64 id, .int .i64 fl, .int .i64 pt, .int .i64 ttl, .int .i64 pr, .int .u8 (a0.toNat : Int), .int .u8 (a1.toNat : Int), .int .u8 (a2.toNat : Int), .int .u8 (a3.toNat : Int), .int .u8 (a4.toNat : Int), .int .u8 (a5.toNat : Int), .int .u8 (a6.toNat : Int), .int .u8 (a7.toNat : Int), .slice So no co, .slice Sb nb cb] 27 (0, 0) (fun W hW => hW.1) [.int .i64 tos, .int .i64 id, .int .i64 fl, .int .i64 pt, .int .i64 ttl, .int .i64 pr, .int .u8 (a0.toNat : Int), .int .u8 (a1.toNat : Int), .int .u8 (a2.toNat : Int), .int .u8 (a3.toNat : Int), .int .u8 (a4.toNat : Int), .int .u8 (a5.toNat : Int), .int .u8 (a6.toNat : Int), .int .u8 (a7.toNat : Int), .slice So no co, .slice Sb nb cb] rfl _ Try.underlying27 rfl (by kernel_rfl)) hH ?_
    simp only [Act.put, List.getElem_toArray, List.getElem_cons_zero, List.setIfInBounds_toArray, List.set_cons_zero, List.set_cons_succ]
    refine wpAnyH_take (i := 2) (v := ?_) rfl (by kernel_rfl) (by kernel_rfl) (by kernel_rfl) (fun _ _ _ h => h) (Or.inl ⟨by rfl, ?_⟩) hH ?_
    rotate_left
    · ((intro W hW; clear hW; go_simp) <;> with_reducible rfl)
    simp only [Act.put, List.getElem_toArray, List.getElem_cons_zero, List.getElem_cons_succ, List.setIfInBounds_toArray, List.set_cons_zero, List.set_cons_succ]
    refine wpAnyH_take (i := 3) (v := ?_) rfl (by kernel_rfl) (by kernel_rfl) (by kernel_rfl) (fun _ _ _ h => h) (Or.inl ⟨by rfl, ?_⟩) hH ?_
    rotate_left
    · ((intro W hW; have hk := cell_lit (hW.2) 0 _ rfl; clear hW; go_simp) <;> with_reducible rfl)
    simp only [Act.put, List.getElem_toArray, List.getElem_cons_zero, List.getElem_cons_succ, List.setIfInBounds_toArray, List.set_cons_zero, List.set_cons_succ]
    refine wpAnyH_take (i := 4) (v := ?_) rfl (by kernel_rfl) (by kernel_rfl) (by kernel_rfl) (fun _ _ _ h => h) (Or.inl ⟨by rfl, ?_⟩) hH ?_
    rotate_left
    · ((intro W hW; clear hW; go_simp) <;> with_reducible rfl)
    simp only [Act.put, List.getElem_toArray, List.getElem_cons_zero, List.getElem_cons_succ, List.setIfInBounds_toArray, List.set_cons_zero, List.set_cons_succ]
    refine wpAnyH_take (i := 5) (v := ?_) rfl (by kernel_rfl) (by kernel_rfl) (by kernel_rfl) (fun _ _ _ h => h) (Or.inl ⟨by rfl, ?_⟩) hH ?_
    rotate_left
    · ((intro W hW; have hk := cell_lit (hW.2) 1 _ rfl; clear hW; go_simp) <;> with_reducible rfl)
    simp only [Act.put, List.getElem_toArray, List.getElem_cons_zero, List.getElem_cons_succ, List.setIfInBounds_toArray, List.set_cons_zero, List.set_cons_succ]
    refine wpAnyH_take (i := 6) (v := ?_) rfl (by kernel_rfl) (by kernel_rfl) (by kernel_rfl) (fun _ _ _ h => h) (Or.inl ⟨by rfl, ?_⟩) hH ?_
    rotate_left
    · ((intro W hW; clear hW; go_simp) <;> with_reducible rfl)
    simp only [Act.put, List.getElem_toArray, List.getElem_cons_zero, List.getElem_cons_succ, List.setIfInBounds_toArray, List.set_cons_zero, List.set_cons_succ]
    refine wpAnyH_take (i := 7) (v := ?_) rfl (by kernel_rfl) (by kernel_rfl) (by kernel_rfl) (fun _ _ _ h => h) (Or.inl ⟨by rfl, ?_⟩) hH ?_
    rotate_left
    · ((intro W hW; have hk := cell_lit (hW.2) 2 _ rfl; clear hW; go_simp) <;> with_reducible rfl)
    simp only [Act.put, List.getElem_toArray, List.getElem_cons_zero, List.getElem_cons_succ, List.setIfInBounds_toArray, List.set_cons_zero, List.set_cons_succ]
    refine wpAnyH_take (i := 8) (v := ?_) rfl (by kernel_rfl) (by kernel_rfl) (by kernel_rfl) (fun _ _ _ h => h) (Or.inl ⟨by rfl, ?_⟩) hH ?_
    rotate_left
    · ((intro W hW; clear hW; go_simp) <;> with_reducible rfl)
    simp only [Act.put, List.getElem_toArray, List.getElem_cons_zero, List.getElem_cons_succ, List.setIfInBounds_toArray, List.set_cons_zero, List.set_cons_succ]
    refine wpAnyH_ready (rs := [1, 13]) (by kernel_rfl) (by simp) ?_
    refine AllReadyH.cons (o := _) rfl (fun K hK => ?_) (AllReadyH.cons (o := _) rfl (fun K hK => ?_) AllReadyH.nil)
    · simp only [List.getElem_toArray, List.getElem_cons_zero, List.getElem_cons_succ]
      go_simp
      with_reducible refine (own7_any _ _ _ _ _ _ _ _ _ _ _ _ _ _ _ _ _ _ _ _ _).mono ?_
      rintro e w8 ⟨rfl, b8⟩
      dsimp only
      replace hp := blk_under hp b8 zp
      replace zp := Nat.lt_of_lt_of_le zp b8.size
      replace hd := blk_under hd b8 zd
      replace zd := Nat.lt_of_lt_of_le zd b8.size
      replace he := blk_under he b8 ze
      replace ze := Nat.lt_of_lt_of_le ze b8.size
      replace ho := ho.below b8
      replace hb := hb.below b8
      replace hD := hD.below b8
      replace so1 := so1.below b8
      replace sb1 := sb1.below b8
      replace bel := bel.trans (b8.mono bel.size)
      clear b8
      refine hK.out _ _ ⟨hp, hd⟩ (fun hH9 => ?_)
      clear hK K
      refine wpAnyH_ready (rs := [9, 13]) (by kernel_rfl) (by simp) ?_
      refine AllReadyH.cons (o := _) rfl (fun K hK => ?_) (AllReadyH.cons (o := _) rfl (fun K hK => ?_) AllReadyH.nil)
      · simp only [List.getElem_toArray, List.getElem_cons_zero, List.getElem_cons_succ]
        go_simp
        with_reducible refine (rudput_good _ _ _ _ _ _ _ _ _ _ _ _ _ _ _ _ _ _ _ _ _ _ _ _ _ _ _ _ ho hD G1.out G2.out G3.out (by have := H2.out; omega)).mono ?_
        rintro e w10 ⟨Ao2, co2, Ab2, cb2, rfl, so2, sb2, fo2, fb2, b10⟩
        dsimp only
        have av_so2_p := fo2.av zp
        have av_so2_d := fo2.av zd
        have av_so2_e := fo2.av ze
        have av_sb2_p := fb2.av zp
        have av_sb2_d := fb2.av zd
        have av_sb2_e := fb2.av ze
        replace hp := blk_under hp b10 zp
        replace zp := Nat.lt_of_lt_of_le zp b10.size
        replace hd := blk_under hd b10 zd
        replace zd := Nat.lt_of_lt_of_le zd b10.size
        replace he := blk_under he b10 ze
        replace ze := Nat.lt_of_lt_of_le ze b10.size
        replace ho := ho.below b10
        replace hb := hb.below b10
        replace hD := hD.below b10
        replace so1 := so1.below b10
        replace sb1 := sb1.below b10
        replace bel := bel.trans (b10.mono bel.size)
        clear b10
        replace so2 : Sl w10 (Ao2) (no) (co2) (lo) := so2
        replace sb2 : Sl w10 (Ab2) (8 + nd) (cb2) (udBytes a0 a1 a2 a3 a4 a5 a6 a7 df dt ld) := sb2
        refine hK.out _ _ ⟨hp, hd⟩ (fun hH11 => ?_)
        clear hK K
        refine wpAnyH_take (i := 10) (v := ?_) rfl (by kernel_rfl) (by kernel_rfl) (by kernel_rfl) (fun _ _ _ h => h) (Or.inl ⟨by rfl, ?_⟩) hH11 ?_
        rotate_left
        · ((intro W hW; clear hW; go_simp) <;> with_reducible rfl)
        simp only [Act.put, List.getElem_toArray, List.getElem_cons_zero, List.getElem_cons_succ, List.setIfInBounds_toArray, List.set_cons_zero, List.set_cons_succ]
        refine wpAnyH_take (i := 11) (v := ?_) rfl (by kernel_rfl) (by kernel_rfl) (by kernel_rfl) (fun _ _ _ h => h) (Or.inl ⟨by rfl, ?_⟩) hH11 ?_
        rotate_left
        · ((intro W hW; clear hW; go_simp) <;> with_reducible rfl)
        simp only [Act.put, List.getElem_toArray, List.getElem_cons_zero, List.getElem_cons_succ, List.setIfInBounds_toArray, List.set_cons_zero, List.set_cons_succ]
        refine wpAnyH_take (i := 12) (v := ?_) rfl (by kernel_rfl) (by kernel_rfl) (by kernel_rfl) (fun _ _ _ h => h) (Or.inl ⟨by rfl, ?_⟩) hH11 ?_
        rotate_left
        · ((intro W hW; clear hW; go_simp) <;> with_reducible rfl)
        simp only [Act.put, List.getElem_toArray, List.getElem_cons_zero, List.getElem_cons_succ, List.setIfInBounds_toArray, List.set_cons_zero, List.set_cons_succ]
        refine wpAnyH_ready (rs := [13]) (by kernel_rfl) (by simp) ?_
        refine AllReadyH.cons (o := _) rfl (fun K hK => ?_) AllReadyH.nil
        simp only [List.getElem_toArray, List.getElem_cons_zero, List.getElem_cons_succ]
        rw [if_pos (by rfl)]
        refine wp_new_n 39 rfl (.agg #[.int .i64 0, .int .i64 0, .int .i64 0, .int .i64 0, .int .i64 0, .int .i64 0, .int .u8 0, .int .u8 0, .int .u8 0, .int .u8 0, .int .u8 0, .int .u8 0, .int .u8 0, .int .u8 0, .slice none 0 0, .slice none 0 0]) (by kernel_rfl) #[.int .i64 0, .int .i64 0, .int .i64 0, .int .i64 0, .int .i64 0, .int .i64 0, .int .u8 0, .int .u8 0, .int .u8 0, .int .u8 0, .int .u8 0, .int .u8 0, .int .u8 0, .int .u8 0, .slice none 0 0, .slice none 0 0] rfl ?_
        intro g7 w12 ge lt hh bb
        have d_p_r := ne_new zp ge
        have d_d_r := ne_new zd ge
        have d_e_r := ne_new ze ge
        have av_ho_r := ho.av_new ge
        have av_hb_r := hb.av_new ge
        have av_hD_r := hD.av_new ge
        have av_so1_r := so1.av_new ge
        have av_sb1_r := sb1.av_new ge
        have av_so2_r := so2.av_new ge
        have av_sb2_r := sb2.av_new ge
        have or := Nat.le_trans bel.size ge
        replace hp := blk_under hp bb zp
        replace zp := Nat.lt_of_lt_of_le zp bb.size
        replace hd := blk_under hd bb zd
        replace zd := Nat.lt_of_lt_of_le zd bb.size
        replace he := blk_under he bb ze
        replace ze := Nat.lt_of_lt_of_le ze bb.size
        replace ho := ho.below bb
        replace hb := hb.below bb
        replace hD := hD.below bb
        replace so1 := so1.below bb
        replace sb1 := sb1.below bb
        replace so2 := so2.below bb
        replace sb2 := sb2.below bb
        replace bel := bel.trans (bb.mono bel.size)
        have hr := hh
        have zr := lt
        clear hh lt ge bb
        refine hK.out _ _ ⟨hp, hd⟩ (fun hH13 => ?_)
        clear hK K
        refine wpAnyH_ready (rs := [14]) (by kernel_rfl) (by simp) ?_
        refine AllReadyH.cons (o := _) rfl (fun K hK => ?_) AllReadyH.nil
        simp only [List.getElem_toArray, List.getElem_cons_zero, List.getElem_cons_succ]
        rw [if_pos (by rfl)]
        refine wp_store_blk 39 (.tmp 7) (.tmp 46) rfl g7 rfl #[.int .i64 tos, .int .i64 id, .int .i64 fl, .int .i64 pt, .int .i64 ttl, .int .i64 17, .int .u8 (a0.toNat : Int), .int .u8 (a1.toNat : Int), .int .u8 (a2.toNat : Int), .int .u8 (a3.toNat : Int), .int .u8 (a4.toNat : Int), .int .u8 (a5.toNat : Int), .int .u8 (a6.toNat : Int), .int .u8 (a7.toNat : Int), .slice Ao2 no co2, .slice Ab2 (8 + nd) cb2] rfl _ 39 hr (by rfl) (by kernel_rfl) (by kernel_rfl) ?_
        intro w14 hq gr
        replace ho := ho.away av_ho_r gr
        replace hb := hb.away av_hb_r gr
        replace hD := hD.away av_hD_r gr
        replace so1 := so1.away av_so1_r gr
        replace sb1 := sb1.away av_sb1_r gr
        replace so2 := so2.away av_so2_r gr
        replace sb2 := sb2.away av_sb2_r gr
        replace hp := blk_away hp gr zp d_p_r
        replace hd := blk_away hd gr zd d_d_r
        replace he := blk_away he gr ze d_e_r
        replace zp := Nat.lt_of_lt_of_le zp gr.size
        replace zd := Nat.lt_of_lt_of_le zd gr.size
        replace ze := Nat.lt_of_lt_of_le ze gr.size
        replace zr := Nat.lt_of_lt_of_le zr gr.size
        replace bel := below_grown bel gr or bel.size
        clear hr
        have hr := hq
        clear hq gr
        refine hK.out _ _ ⟨hp, hd⟩ (fun hH15 => ?_)
        clear hK K
        refine wpAnyH_take (i := 15) (v := ?_) rfl (by kernel_rfl) (by kernel_rfl) (by kernel_rfl) (fun _ _ _ h => h) (Or.inl ⟨by rfl, ?_⟩) hH15 ?_
        rotate_left
        · ((intro W hW; clear hW; go_simp) <;> with_reducible rfl)
        simp only [Act.put, List.getElem_toArray, List.getElem_cons_zero, List.getElem_cons_succ, List.setIfInBounds_toArray, List.set_cons_zero, List.set_cons_succ]
        refine wpAnyH_done (by kernel_rfl) ?_ _
        go_wp2_with fail
        go_meet
        case rel => exact ⟨g7, Ao2, co2, Ab2, cb2, rfl, rfl, hp, zp, hd, zd, he, ze, hr, zr, or, d_d_e, (ne_symm d_p_d), d_d_r, (ne_symm d_p_e), d_e_r, d_p_r, ho, av_ho_d, av_ho_e, av_ho_p, av_ho_r, hb, av_hb_d, av_hb_e, av_hb_p, av_hb_r, hD, av_hD_d, av_hD_e, av_hD_p, av_hD_r, so1, av_so1_d, av_so1_e, av_so1_p, av_so1_r, sb1, av_sb1_d, av_sb1_e, av_sb1_p, av_sb1_r, so2, av_so2_d, av_so2_e, av_so2_p, av_so2_r, sb2, av_sb2_d, av_sb2_e, av_sb2_p, av_sb2_r, bel⟩
      · simp only [List.getElem_toArray, List.getElem_cons_zero, List.getElem_cons_succ]
        rw [if_pos (by rfl)]
        refine wp_new_n 39 rfl (.agg #[.int .i64 0, .int .i64 0, .int .i64 0, .int .i64 0, .int .i64 0, .int .i64 0, .int .u8 0, .int .u8 0, .int .u8 0, .int .u8 0, .int .u8 0, .int .u8 0, .int .u8 0, .int .u8 0, .slice none 0 0, .slice none 0 0]) (by kernel_rfl) #[.int .i64 0, .int .i64 0, .int .i64 0, .int .i64 0, .int .i64 0, .int .i64 0, .int .u8 0, .int .u8 0, .int .u8 0, .int .u8 0, .int .u8 0, .int .u8 0, .int .u8 0, .int .u8 0, .slice none 0 0, .slice none 0 0] rfl ?_
        intro g7 w10 ge lt hh bb
        have d_p_r := ne_new zp ge
        have d_d_r := ne_new zd ge
        have d_e_r := ne_new ze ge
        have av_ho_r := ho.av_new ge
        have av_hb_r := hb.av_new ge
        have av_hD_r := hD.av_new ge
        have av_so1_r := so1.av_new ge
        have av_sb1_r := sb1.av_new ge
        have or := Nat.le_trans bel.size ge
        replace hp := blk_under hp bb zp
        replace zp := Nat.lt_of_lt_of_le zp bb.size
        replace hd := blk_under hd bb zd
        replace zd := Nat.lt_of_lt_of_le zd bb.size
        replace he := blk_under he bb ze
        replace ze := Nat.lt_of_lt_of_le ze bb.size
        replace ho := ho.below bb
        replace hb := hb.below bb
        replace hD := hD.below bb
        replace so1 := so1.below bb
        replace sb1 := sb1.below bb
        replace bel := bel.trans (bb.mono bel.size)
        have hr := hh
        have zr := lt
        clear hh lt ge bb
        refine hK.out _ _ ⟨hp, hd⟩ (fun hH11 => ?_)
        clear hK K
        refine wpAnyH_ready (rs := [9]) (by kernel_rfl) (by simp) ?_
        refine AllReadyH.cons (o := _) rfl (fun K hK => ?_) AllReadyH.nil
        simp only [List.getElem_toArray, List.getElem_cons_zero, List.getElem_cons_succ]
        go_simp
        with_reducible refine (rudput_good _ _ _ _ _ _ _ _ _ _ _ _ _ _ _ _ _ _ _ _ _ _ _ _ _ _ _ _ ho hD G1.out G2.out G3.out (by have := H2.out; omega)).mono ?_
        rintro e w12 ⟨Ao2, co2, Ab2, cb2, rfl, so2, sb2, fo2, fb2, b12⟩
        dsimp only
        have av_so2_p := fo2.av zp
        have av_so2_d := fo2.av zd
        have av_so2_e := fo2.av ze
        have av_so2_r := fo2.av zr
        have av_sb2_p := fb2.av zp
        have av_sb2_d := fb2.av zd
        have av_sb2_e := fb2.av ze
        have av_sb2_r := fb2.av zr
        replace hp := blk_under hp b12 zp
        replace zp := Nat.lt_of_lt_of_le zp b12.size
        replace hd := blk_under hd b12 zd
        replace zd := Nat.lt_of_lt_of_le zd b12.size
        replace he := blk_under he b12 ze
        replace ze := Nat.lt_of_lt_of_le ze b12.size
        replace hr := blk_under hr b12 zr
        replace zr := Nat.lt_of_lt_of_le zr b12.size
        replace ho := ho.below b12
        replace hb := hb.below b12
        replace hD := hD.below b12
        replace so1 := so1.below b12
        replace sb1 := sb1.below b12
        replace bel := bel.trans (b12.mono bel.size)
        clear b12
        replace so2 : Sl w12 (Ao2) (no) (co2) (lo) := so2
        replace sb2 : Sl w12 (Ab2) (8 + nd) (cb2) (udBytes a0 a1 a2 a3 a4 a5 a6 a7 df dt ld) := sb2
        refine hK.out _ _ ⟨hp, hd⟩ (fun hH13 => ?_)
        clear hK K
        refine wpAnyH_take (i := 10) (v := ?_) rfl (by kernel_rfl) (by kernel_rfl) (by kernel_rfl) (fun _ _ _ h => h) (Or.inl ⟨by rfl, ?_⟩) hH13 ?_
        rotate_left
        · ((intro W hW; clear hW; go_simp) <;> with_reducible rfl)
        simp only [Act.put, List.getElem_toArray, List.getElem_cons_zero, List.getElem_cons_succ, List.setIfInBounds_toArray, List.set_cons_zero, List.set_cons_succ]
        refine wpAnyH_take (i := 11) (v := ?_) rfl (by kernel_rfl) (by kernel_rfl) (by kernel_rfl) (fun _ _ _ h => h) (Or.inl ⟨by rfl, ?_⟩) hH13 ?_
        rotate_left
        · ((intro W hW; clear hW; go_simp) <;> with_reducible rfl)
        simp only [Act.put, List.getElem_toArray, List.getElem_cons_zero, List.getElem_cons_succ, List.setIfInBounds_toArray, List.set_cons_zero, List.set_cons_succ]
        refine wpAnyH_take (i := 12) (v := ?_) rfl (by kernel_rfl) (by kernel_rfl) (by kernel_rfl) (fun _ _ _ h => h) (Or.inl ⟨by rfl, ?_⟩) hH13 ?_
        rotate_left
        · ((intro W hW; clear hW; go_simp) <;> with_reducible rfl)
        simp only [Act.put, List.getElem_toArray, List.getElem_cons_zero, List.getElem_cons_succ, List.setIfInBounds_toArray, List.set_cons_zero, List.set_cons_succ]
        refine wpAnyH_ready (rs := [14]) (by kernel_rfl) (by simp) ?_
        refine AllReadyH.cons (o := _) rfl (fun K hK => ?_) AllReadyH.nil
        simp only [List.getElem_toArray, List.getElem_cons_zero, List.getElem_cons_succ]
        rw [if_pos (by rfl)]
        refine wp_store_blk 39 (.tmp 7) (.tmp 46) rfl g7 rfl #[.int .i64 tos, .int .i64 id, .int .i64 fl, .int .i64 pt, .int .i64 ttl, .int .i64 17, .int .u8 (a0.toNat : Int), .int .u8 (a1.toNat : Int), .int .u8 (a2.toNat : Int), .int .u8 (a3.toNat : Int), .int .u8 (a4.toNat : Int), .int .u8 (a5.toNat : Int), .int .u8 (a6.toNat : Int), .int .u8 (a7.toNat : Int), .slice Ao2 no co2, .slice Ab2 (8 + nd) cb2] rfl _ 39 hr (by rfl) (by kernel_rfl) (by kernel_rfl) ?_
        intro w14 hq gr
        replace ho := ho.away av_ho_r gr
        replace hb := hb.away av_hb_r gr
        replace hD := hD.away av_hD_r gr
        replace so1 := so1.away av_so1_r gr
        replace sb1 := sb1.away av_sb1_r gr
        replace so2 := so2.away av_so2_r gr
        replace sb2 := sb2.away av_sb2_r gr
        replace hp := blk_away hp gr zp d_p_r
        replace hd := blk_away hd gr zd d_d_r
        replace he := blk_away he gr ze d_e_r
        replace zp := Nat.lt_of_lt_of_le zp gr.size
        replace zd := Nat.lt_of_lt_of_le zd gr.size
        replace ze := Nat.lt_of_lt_of_le ze gr.size
        replace zr := Nat.lt_of_lt_of_le zr gr.size
        replace bel := below_grown bel gr or bel.size
        clear hr
        have hr := hq
        clear hq gr
        refine hK.out _ _ ⟨hp, hd⟩ (fun hH15 => ?_)
        clear hK K
        refine wpAnyH_take (i := 15) (v := ?_) rfl (by kernel_rfl) (by kernel_rfl) (by kernel_rfl) (fun _ _ _ h => h) (Or.inl ⟨by rfl, ?_⟩) hH15 ?_
        rotate_left
        · ((intro W hW; clear hW; go_simp) <;> with_reducible rfl)
        simp only [Act.put, List.getElem_toArray, List.getElem_cons_zero, List.getElem_cons_succ, List.setIfInBounds_toArray, List.set_cons_zero, List.set_cons_succ]
        refine wpAnyH_done (by kernel_rfl) ?_ _
        go_wp2_with fail
        go_meet
        case rel => exact ⟨g7, Ao2, co2, Ab2, cb2, rfl, rfl, hp, zp, hd, zd, he, ze, hr, zr, or, d_d_e, (ne_symm d_p_d), d_d_r, (ne_symm d_p_e), d_e_r, d_p_r, ho, av_ho_d, av_ho_e, av_ho_p, av_ho_r, hb, av_hb_d, av_hb_e, av_hb_p, av_hb_r, hD, av_hD_d, av_hD_e, av_hD_p, av_hD_r, so1, av_so1_d, av_so1_e, av_so1_p, av_so1_r, sb1, av_sb1_d, av_sb1_e, av_sb1_p, av_sb1_r, so2, av_so2_d, av_so2_e, av_so2_p, av_so2_r, sb2, av_sb2_d, av_sb2_e, av_sb2_p, av_sb2_r, bel⟩
    · simp only [List.getElem_toArray, List.getElem_cons_zero, List.getElem_cons_succ]
      rw [if_pos (by rfl)]
      refine wp_new_n 39 rfl (.agg #[.int .i64 0, .int .i64 0, .int .i64 0, .int .i64 0, .int .i64 0, .int .i64 0, .int .u8 0, .int .u8 0, .int .u8 0, .int .u8 0, .int .u8 0, .int .u8 0, .int .u8 0, .int .u8 0, .slice none 0 0, .slice none 0 0]) (by kernel_rfl) #[.int .i64 0, .int .i64 0, .int .i64 0, .int .i64 0, .int .i64 0, .int .i64 0, .int .u8 0, .int .u8 0, .int .u8 0, .int .u8 0, .int .u8 0, .int .u8 0, .int .u8 0, .int .u8 0, .slice none 0 0, .slice none 0 0] rfl ?_
      intro g7 w8 ge lt hh bb
      have d_p_r := ne_new zp ge
      have d_d_r := ne_new zd ge
      have d_e_r := ne_new ze ge
      have av_ho_r := ho.av_new ge
      have av_hb_r := hb.av_new ge
      have av_hD_r := hD.av_new ge
      have av_so1_r := so1.av_new ge
      have av_sb1_r := sb1.av_new ge
      have or := Nat.le_trans bel.size ge
      replace hp := blk_under hp bb zp
      replace zp := Nat.lt_of_lt_of_le zp bb.size
      replace hd := blk_under hd bb zd
      replace zd := Nat.lt_of_lt_of_le zd bb.size
      replace he := blk_under he bb ze
      replace ze := Nat.lt_of_lt_of_le ze bb.size
      replace ho := ho.below bb
      replace hb := hb.below bb
      replace hD := hD.below bb
      replace so1 := so1.below bb
      replace sb1 := sb1.below bb
      replace bel := bel.trans (bb.mono bel.size)
      have hr := hh
      have zr := lt
      clear hh lt ge bb
      refine hK.out _ _ ⟨hp, hd⟩ (fun hH9 => ?_)
      clear hK K
      refine wpAnyH_ready (rs := [1]) (by kernel_rfl) (by simp) ?_
      refine AllReadyH.cons (o := _) rfl (fun K hK => ?_) AllReadyH.nil
      simp only [List.getElem_toArray, List.getElem_cons_zero, List.getElem_cons_succ]
      go_simp
      with_reducible refine (own7_any _ _ _ _ _ _ _ _ _ _ _ _ _ _ _ _ _ _ _ _ _).mono ?_
      rintro e w10 ⟨rfl, b10⟩
      dsimp only
      replace hp := blk_under hp b10 zp
      replace zp := Nat.lt_of_lt_of_le zp b10.size
      replace hd := blk_under hd b10 zd
      replace zd := Nat.lt_of_lt_of_le zd b10.size
      replace he := blk_under he b10 ze
      replace ze := Nat.lt_of_lt_of_le ze b10.size
      replace hr := blk_under hr b10 zr
      replace zr := Nat.lt_of_lt_of_le zr b10.size
      replace ho := ho.below b10
      replace hb := hb.below b10
      replace hD := hD.below b10
      replace so1 := so1.below b10
      replace sb1 := sb1.below b10
      replace bel := bel.trans (b10.mono bel.size)
      clear b10
      refine hK.out _ _ ⟨hp, hd⟩ (fun hH11 => ?_)
      clear hK K
      refine wpAnyH_ready (rs := [9]) (by kernel_rfl) (by simp) ?_
      refine AllReadyH.cons (o := _) rfl (fun K hK => ?_) AllReadyH.nil
      simp only [List.getElem_toArray, List.getElem_cons_zero, List.getElem_cons_succ]
      go_simp
      with_reducible refine (rudput_good _ _ _ _ _ _ _ _ _ _ _ _ _ _ _ _ _ _ _ _ _ _ _ _ _ _ _ _ ho hD G1.out G2.out G3.out (by have := H2.out; omega)).mono ?_
      rintro e w12 ⟨Ao2, co2, Ab2, cb2, rfl, so2, sb2, fo2, fb2, b12⟩
      dsimp only
      have av_so2_p := fo2.av zp
      have av_so2_d := fo2.av zd
      have av_so2_e := fo2.av ze
      have av_so2_r := fo2.av zr
      have av_sb2_p := fb2.av zp
      have av_sb2_d := fb2.av zd
      have av_sb2_e := fb2.av ze
      have av_sb2_r := fb2.av zr
      replace hp := blk_under hp b12 zp
      replace zp := Nat.lt_of_lt_of_le zp b12.size
      replace hd := blk_under hd b12 zd
      replace zd := Nat.lt_of_lt_of_le zd b12.size
      replace he := blk_under he b12 ze
      replace ze := Nat.lt_of_lt_of_le ze b12.size
      replace hr := blk_under hr b12 zr
      replace zr := Nat.lt_of_lt_of_le zr b12.size
      replace ho := ho.below b12
      replace hb := hb.below b12
      replace hD := hD.below b12
      replace so1 := so1.below b12
      replace sb1 := sb1.below b12
      replace bel := bel.trans (b12.mono bel.size)
      clear b12
      replace so2 : Sl w12 (Ao2) (no) (co2) (lo) := so2
      replace sb2 : Sl w12 (Ab2) (8 + nd) (cb2) (udBytes a0 a1 a2 a3 a4 a5 a6 a7 df dt ld) := sb2
      refine hK.out _ _ ⟨hp, hd⟩ (fun hH13 => ?_)
      clear hK K
      refine wpAnyH_take (i := 10) (v := ?_) rfl (by kernel_rfl) (by kernel_rfl) (by kernel_rfl) (fun _ _ _ h => h) (Or.inl ⟨by rfl, ?_⟩) hH13 ?_
      rotate_left
      · ((intro W hW; clear hW; go_simp) <;> with_reducible rfl)
      simp only [Act.put, List.getElem_toArray, List.getElem_cons_zero, List.getElem_cons_succ, List.setIfInBounds_toArray, List.set_cons_zero, List.set_cons_succ]
      refine wpAnyH_take (i := 11) (v := ?_) rfl (by kernel_rfl) (by kernel_rfl) (by kernel_rfl) (fun _ _ _ h => h) (Or.inl ⟨by rfl, ?_⟩) hH13 ?_
      rotate_left
      · ((intro W hW; clear hW; go_simp) <;> with_reducible rfl)
      simp only [Act.put, List.getElem_toArray, List.getElem_cons_zero, List.getElem_cons_succ, List.setIfInBounds_toArray, List.set_cons_zero, List.set_cons_succ]
      refine wpAnyH_take (i := 12) (v := ?_) rfl (by kernel_rfl) (by kernel_rfl) (by kernel_rfl) (fun _ _ _ h => h) (Or.inl ⟨by rfl, ?_⟩) hH13 ?_
      rotate_left
      · ((intro W hW; clear hW; go_simp) <;> with_reducible rfl)
      simp only [Act.put, List.getElem_toArray, List.getElem_cons_zero, List.getElem_cons_succ, List.setIfInBounds_toArray, List.set_cons_zero, List.set_cons_succ]
      refine wpAnyH_ready (rs := [14]) (by kernel_rfl) (by simp) ?_
      refine AllReadyH.cons (o := _) rfl (fun K hK => ?_) AllReadyH.nil
      simp only [List.getElem_toArray, List.getElem_cons_zero, List.getElem_cons_succ]
      rw [if_pos (by rfl)]
      refine wp_store_blk 39 (.tmp 7) (.tmp 46) rfl g7 rfl #[.int .i64 tos, .int .i64 id, .int .i64 fl, .int .i64 pt, .int .i64 ttl, .int .i64 17, .int .u8 (a0.toNat : Int), .int .u8 (a1.toNat : Int), .int .u8 (a2.toNat : Int), .int .u8 (a3.toNat : Int), .int .u8 (a4.toNat : Int), .int .u8 (a5.toNat : Int), .int .u8 (a6.toNat : Int), .int .u8 (a7.toNat : Int), .slice Ao2 no co2, .slice Ab2 (8 + nd) cb2] rfl _ 39 hr (by rfl) (by kernel_rfl) (by kernel_rfl) ?_
      intro w14 hq gr
      replace ho := ho.away av_ho_r gr
      replace hb := hb.away av_hb_r gr
      replace hD := hD.away av_hD_r gr
      replace so1 := so1.away av_so1_r gr
      replace sb1 := sb1.away av_sb1_r gr
      replace so2 := so2.away av_so2_r gr
      replace sb2 := sb2.away av_sb2_r gr
      replace hp := blk_away hp gr zp d_p_r
      replace hd := blk_away hd gr zd d_d_r
      replace he := blk_away he gr ze d_e_r
      replace zp := Nat.lt_of_lt_of_le zp gr.size
      replace zd := Nat.lt_of_lt_of_le zd gr.size
      replace ze := Nat.lt_of_lt_of_le ze gr.size
      replace zr := Nat.lt_of_lt_of_le zr gr.size
      replace bel := below_grown bel gr or bel.size
      clear hr
      have hr := hq
      clear hq gr
      refine hK.out _ _ ⟨hp, hd⟩ (fun hH15 => ?_)
      clear hK K
      refine wpAnyH_take (i := 15) (v := ?_) rfl (by kernel_rfl) (by kernel_rfl) (by kernel_rfl) (fun _ _ _ h => h) (Or.inl ⟨by rfl, ?_⟩) hH15 ?_
      rotate_left
      · ((intro W hW; clear hW; go_simp) <;> with_reducible rfl)
      simp only [Act.put, List.getElem_toArray, List.getElem_cons_zero, List.getElem_cons_succ, List.setIfInBounds_toArray, List.set_cons_zero, List.set_cons_succ]
      refine wpAnyH_done (by kernel_rfl) ?_ _
      go_wp2_with fail
      go_meet
      case rel => exact ⟨g7, Ao2, co2, Ab2, cb2, rfl, rfl, hp, zp, hd, zd, he, ze, hr, zr, or, d_d_e, (ne_symm d_p_d), d_d_r, (ne_symm d_p_e), d_e_r, d_p_r, ho, av_ho_d, av_ho_e, av_ho_p, av_ho_r, hb, av_hb_d, av_hb_e, av_hb_p, av_hb_r, hD, av_hD_d, av_hD_e, av_hD_p, av_hD_r, so1, av_so1_d, av_so1_e, av_so1_p, av_so1_r, sb1, av_sb1_d, av_sb1_e, av_sb1_p, av_sb1_r, so2, av_so2_d, av_so2_e, av_so2_p, av_so2_r, sb2, av_sb2_d, av_sb2_e, av_sb2_p, av_sb2_r, bel⟩
  obtain ⟨w16, hw_⟩ : ∃ x, x = wc := ⟨_, rfl⟩
  subst hw_
  obtain ⟨g7, Ao2, co2, Ab2, cb2, rfl, rfl, hp, zp, hd, zd, he, ze, hr, zr, or, d_d_e, d_d_p, d_d_r, d_e_p, d_e_r, d_p_r, ho, av_ho_d, av_ho_e, av_ho_p, av_ho_r, hb, av_hb_d, av_hb_e, av_hb_p, av_hb_r, hD, av_hD_d, av_hD_e, av_hD_p, av_hD_r, so1, av_so1_d, av_so1_e, av_so1_p, av_so1_r, sb1, av_sb1_d, av_sb1_e, av_sb1_p, av_sb1_r, so2, av_so2_d, av_so2_e, av_so2_p, av_so2_r, sb2, av_sb2_d, av_sb2_e, av_sb2_p, av_sb2_r, bel⟩ := hcut
  go_wp2_with fail
  replace bel := bel.drew
  replace hp : w16.drew.heap[g2]? = _ := hp
  replace zp : _ < w16.drew.heap.size := zp
  replace hd : w16.drew.heap[g3]? = _ := hd
  replace zd : _ < w16.drew.heap.size := zd
  replace he : w16.drew.heap[g5]? = _ := he
  replace ze : _ < w16.drew.heap.size := ze
  replace hr : w16.drew.heap[g7]? = _ := hr
  replace zr : _ < w16.drew.heap.size := zr
  replace ho := ho.drew
  replace hb := hb.drew
  replace hD := hD.drew
  replace so1 := so1.drew
  replace sb1 := sb1.drew
  replace so2 := so2.drew
  replace sb2 := sb2.drew
  refine wp_region_held_drew (S := fun W => W.heap[g5]? = some (.cells #[.int .i64 tos, .int .i64 id, .int .i64 fl, .int .i64 pt, .int .i64 ttl, .int .i64 17, .int .u8 (a0.toNat : Int), .int .u8 (a1.toNat : Int), .int .u8 (a2.toNat : Int), .int .u8 (a3.toNat : Int), .int .u8 (a4.toNat : Int), .int .u8 (a5.toNat : Int), .int .u8 (a6.toNat : Int), .int .u8 (a7.toNat : Int), .slice Ao1 no co1, .slice Ab1 (8 + nd) cb1] 27 (0, 0)) ∧ W.heap[g7]? = some (.cells #[.int .i64 tos, .int .i64 id, .int .i64 fl, .int .i64 pt, .int .i64 ttl, .int .i64 17, .int .u8 (a0.toNat : Int), .int .u8 (a1.toNat : Int), .int .u8 (a2.toNat : Int), .int .u8 (a3.toNat : Int), .int .u8 (a4.toNat : Int), .int .u8 (a5.toNat : Int), .int .u8 (a6.toNat : Int), .int .u8 (a7.toNat : Int), .slice Ao2 no co2, .slice Ab2 (8 + nd) cb2] 39 (0, 0))) (by kernel_rfl) ⟨he, hr⟩ (fun hH => ?_)
  generalize w16.drew = w17 at bel hp zp hd zd he ze hr zr ho hb hD so1 sb1 so2 sb2 hH ⊢
  refine wpAnyH_take (i := 0) (v := ?_) rfl (by kernel_rfl) (by kernel_rfl) (by kernel_rfl) (fun _ _ _ h => h) (Or.inl ⟨by rfl, ?_⟩) hH ?_
  rotate_left
  · ((intro W hW; clear hW; go_simp) <;> with_reducible rfl)
  simp only [Act.put, List.getElem_toArray, List.getElem_cons_zero, List.setIfInBounds_toArray, List.set_cons_zero, List.set_cons_succ]
  refine wpAnyH_take (i := 1) (v := ?_) rfl (by kernel_rfl) (by kernel_rfl) (by kernel_rfl) (fun _ _ _ h => h) (Or.inl ⟨by rfl, ?_⟩) hH ?_
  rotate_left
  · ((intro W hW; clear hW; go_simp) <;> with_reducible rfl)
  simp only [Act.put, List.getElem_toArray, List.getElem_cons_zero, List.getElem_cons_succ, List.setIfInBounds_toArray, List.set_cons_zero, List.set_cons_succ]
  refine wpAnyH_take (i := 2) (v := ?_) rfl (by kernel_rfl) (by kernel_rfl) (by kernel_rfl) (fun _ _ _ h => h) (Or.inl ⟨by rfl, ?_⟩) hH ?_
  rotate_left
  · ((intro W hW; clear hW; go_simp) <;> with_reducible rfl)
  simp only [Act.put, List.getElem_toArray, List.getElem_cons_zero, List.getElem_cons_succ, List.setIfInBounds_toArray, List.set_cons_zero, List.set_cons_succ]
  refine wpAnyH_take (i := 3) (v := ?_) rfl (by kernel_rfl) (by kernel_rfl) (by kernel_rfl) (fun _ _ _ h => h) (Or.inl ⟨by rfl, ?_⟩) hH ?_
  rotate_left
  · ((intro W hW; clear hW; go_simp) <;> with_reducible rfl)
  simp only [Act.put, List.getElem_toArray, List.getElem_cons_zero, List.getElem_cons_succ, List.setIfInBounds_toArray, List.set_cons_zero, List.set_cons_succ]
  refine wpAnyH_take (i := 4) (v := ?_) rfl (by kernel_rfl) (by kernel_rfl) (by kernel_rfl) (fun _ _ _ h => h) (Or.inl ⟨by rfl, ?_⟩) hH ?_
  rotate_left
  · ((intro W hW; clear hW; go_simp) <;> with_reducible rfl)
  simp only [Act.put, List.getElem_toArray, List.getElem_cons_zero, List.getElem_cons_succ, List.setIfInBounds_toArray, List.set_cons_zero, List.set_cons_succ]
  refine wpAnyH_take (i := 5) (v := ?_) rfl (by kernel_rfl) (by kernel_rfl) (by kernel_rfl) (fun _ _ _ h => h) (Or.inl ⟨by rfl, ?_⟩) hH ?_
  rotate_left
  · ((intro W hW; clear hW; go_simp) <;> with_reducible rfl)
  simp only [Act.put, List.getElem_toArray, List.getElem_cons_zero, List.getElem_cons_succ, List.setIfInBounds_toArray, List.set_cons_zero, List.set_cons_succ]
  refine wpAnyH_take (i := 6) (v := ?_) rfl (by kernel_rfl) (by kernel_rfl) (by kernel_rfl) (fun _ _ _ h => h) (Or.inl ⟨by rfl, ?_⟩) hH ?_
  rotate_left
  · ((intro W hW; clear hW; go_simp) <;> with_reducible rfl)
  simp only [Act.put, List.getElem_toArray, List.getElem_cons_zero, List.getElem_cons_succ, List.setIfInBounds_toArray, List.set_cons_zero, List.set_cons_succ]
  refine wpAnyH_take (i := 7) (v := .agg #[.int .i64 tos, .int .i64 id, .int .i64 fl, .int .i64 pt, .int .i64 ttl, .int .i64 17, .int .u8 (a0.toNat : Int), .int .u8 (a1.toNat : Int), .int .u8 (a2.toNat : Int), .int .u8 (a3.toNat : Int), .int .u8 (a4.toNat : Int), .int .u8 (a5.toNat : Int), .int .u8 (a6.toNat : Int), .int .u8 (a7.toNat : Int), .slice Ao1 no co1, .slice Ab1 (8 + nd) cb1]) rfl (by kernel_rfl) (by kernel_rfl) (by kernel_rfl) (fun _ _ _ h => h) (yieldsIf_load_part (by kernel_rfl) 27 _ rfl g5 0 16 rfl [.int .i64 tos, .int .i64 id, .int .i64 fl, .int .i64 pt, .int .i64 ttl, .int .i64 17, .int .u8 (a0.toNat : Int), .int .u8 (a1.toNat : Int), .int .u8 (a2.toNat : Int), .int .u8 (a3.toNat : Int), .int .u8 (a4.toNat : Int), .int .u8 (a5.toNat : Int), .int .u8 (a6.toNat : Int), .int .u8 (a7.toNat : Int), .slice Ao1 no co1, .slice Ab1 (8 + nd) cb1] 27 (0, 0) (fun W hW => hW.1) [.int .i64 tos, .int .i64 id, .int .i64 fl, .int .i64 pt, .int .i64 ttl, .int .i64 17, .int .u8 (a0.toNat : Int), .int .u8 (a1.toNat : Int), .int .u8 (a2.toNat : Int), .int .u8 (a3.toNat : Int), .int .u8 (a4.toNat : Int), .int .u8 (a5.toNat : Int), .int .u8 (a6.toNat : Int), .int .u8 (a7.toNat : Int), .slice Ao1 no co1, .slice Ab1 (8 + nd) cb1] rfl _ Try.underlying27 rfl (by kernel_rfl)) hH ?_
  simp only [Act.put, List.getElem_toArray, List.getElem_cons_zero, List.getElem_cons_succ, List.setIfInBounds_toArray, List.set_cons_zero, List.set_cons_succ]
  refine wpAnyH_take (i := 9) (v := .agg #[.int .i64 tos, .int .i64 id, .int .i64 fl, .int .i64 pt, .int .i64 ttl, .int .i64 17, .int .u8 (a0.toNat : Int), .int .u8 (a1.toNat : Int), .int .u8 (a2.toNat : Int), .int .u8 (a3.toNat : Int), .int .u8 (a4.toNat : Int), .int .u8 (a5.toNat : Int), .int .u8 (a6.toNat : Int), .int .u8 (a7.toNat : Int), .slice Ao2 no co2, .slice Ab2 (8 + nd) cb2]) rfl (by kernel_rfl) (by kernel_rfl) (by kernel_rfl) (fun _ _ _ h => h) (yieldsIf_load_part (by kernel_rfl) 39 _ rfl g7 0 16 rfl [.int .i64 tos, .int .i64 id, .int .i64 fl, .int .i64 pt, .int .i64 ttl, .int .i64 17, .int .u8 (a0.toNat : Int), .int .u8 (a1.toNat : Int), .int .u8 (a2.toNat : Int), .int .u8 (a3.toNat : Int), .int .u8 (a4.toNat : Int), .int .u8 (a5.toNat : Int), .int .u8 (a6.toNat : Int), .int .u8 (a7.toNat : Int), .slice Ao2 no co2, .slice Ab2 (8 + nd) cb2] 39 (0, 0) (fun W hW => hW.2) [.int .i64 tos, .int .i64 id, .int .i64 fl, .int .i64 pt, .int .i64 ttl, .int .i64 17, .int .u8 (a0.toNat : Int), .int .u8 (a1.toNat : Int), .int .u8 (a2.toNat : Int), .int .u8 (a3.toNat : Int), .int .u8 (a4.toNat : Int), .int .u8 (a5.toNat : Int), .int .u8 (a6.toNat : Int), .int .u8 (a7.toNat : Int), .slice Ao2 no co2, .slice Ab2 (8 + nd) cb2] rfl _ Try.underlying39 rfl (by kernel_rfl)) hH ?_
  simp only [Act.put, List.getElem_toArray, List.getElem_cons_zero, List.getElem_cons_succ, List.setIfInBounds_toArray, List.set_cons_zero, List.set_cons_succ]
  refine wpAnyH_ready (rs := [8]) (by kernel_rfl) (by simp) ?_
  refine AllReadyH.cons (o := _) rfl (fun K hK => ?_) AllReadyH.nil
  simp only [List.getElem_toArray, List.getElem_cons_zero, List.getElem_cons_succ]
  go_simp
  with_reducible refine (own7_any _ _ _ _ _ _ _ _ _ _ _ _ _ _ _ _ _ _ _ _ _).mono ?_
  rintro e w18 ⟨rfl, b18⟩
  dsimp only
  replace hp := blk_under hp b18 zp
  replace zp := Nat.lt_of_lt_of_le zp b18.size
  replace hd := blk_under hd b18 zd
  replace zd := Nat.lt_of_lt_of_le zd b18.size
  replace he := blk_under he b18 ze
  replace ze := Nat.lt_of_lt_of_le ze b18.size
  replace hr := blk_under hr b18 zr
  replace zr := Nat.lt_of_lt_of_le zr b18.size
  replace ho := ho.below b18
  replace hb := hb.below b18
  replace hD := hD.below b18
  replace so1 := so1.below b18
  replace sb1 := sb1.below b18
  replace so2 := so2.below b18
  replace sb2 := sb2.below b18
  replace bel := bel.trans (b18.mono bel.size)
  clear b18
  refine hK.out _ _ ⟨he, hr⟩ (fun hH19 => ?_)
  clear hK K
  refine wpAnyH_ready (rs := [10]) (by kernel_rfl) (by simp) ?_
  refine AllReadyH.cons (o := _) rfl (fun K hK => ?_) AllReadyH.nil
  simp only [List.getElem_toArray, List.getElem_cons_zero, List.getElem_cons_succ]
  go_simp
  with_reducible refine (same6_true _ _ _ _ _ _ _ _ _ _ _ _ _ _ _ _ _ _ _ _ _ _ _ _ _ _ _  so1 sb1 so2 sb2).mono ?_
  rintro e w20 ⟨rfl, b20⟩
  dsimp only
  replace hp := blk_under hp b20 zp
  replace zp := Nat.lt_of_lt_of_le zp b20.size
  replace hd := blk_under hd b20 zd
  replace zd := Nat.lt_of_lt_of_le zd b20.size
  replace he := blk_under he b20 ze
  replace ze := Nat.lt_of_lt_of_le ze b20.size
  replace hr := blk_under hr b20 zr
  replace zr := Nat.lt_of_lt_of_le zr b20.size
  replace ho := ho.below b20
  replace hb := hb.below b20
  replace hD := hD.below b20
  replace so1 := so1.below b20
  replace sb1 := sb1.below b20
  replace so2 := so2.below b20
  replace sb2 := sb2.below b20
  replace bel := bel.trans (b20.mono bel.size)
  clear b20
  refine hK.out _ _ ⟨he, hr⟩ (fun hH21 => ?_)
  clear hK K
  refine wpAnyH_take (i := 11) (v := ?_) rfl (by kernel_rfl) (by kernel_rfl) (by kernel_rfl) (fun _ _ _ h => h) (Or.inl ⟨by rfl, ?_⟩) hH21 ?_
  rotate_left
  · ((intro W hW; clear hW; go_simp) <;> with_reducible rfl)
  simp only [Act.put, List.getElem_toArray, List.getElem_cons_zero, List.getElem_cons_succ, List.setIfInBounds_toArray, List.set_cons_zero, List.set_cons_succ]
  refine wpAnyH_take (i := 12) (v := ?_) rfl (by kernel_rfl) (by kernel_rfl) (by kernel_rfl) (fun _ _ _ h => h) (Or.inl ⟨by rfl, ?_⟩) hH21 ?_
  rotate_left
  · ((intro W hW; clear hW; go_simp) <;> with_reducible rfl)
  simp only [Act.put, List.getElem_toArray, List.getElem_cons_zero, List.getElem_cons_succ, List.setIfInBounds_toArray, List.set_cons_zero, List.set_cons_succ]
  refine wpAnyH_take (i := 13) (v := ?_) rfl (by kernel_rfl) (by kernel_rfl) (by kernel_rfl) (fun _ _ _ h => h) (Or.inl ⟨by rfl, ?_⟩) hH21 ?_
  rotate_left
  · ((intro W hW; clear hW; go_simp) <;> with_reducible rfl)
  simp only [Act.put, List.getElem_toArray, List.getElem_cons_zero, List.getElem_cons_succ, List.setIfInBounds_toArray, List.set_cons_zero, List.set_cons_succ]
  refine wpAnyH_done (by kernel_rfl) ?_ _
  have R65 := Lib.hid (range_lit he 0 16 [.int .i64 tos, .int .i64 id, .int .i64 fl, .int .i64 pt, .int .i64 ttl, .int .i64 17, .int .u8 (a0.toNat : Int), .int .u8 (a1.toNat : Int), .int .u8 (a2.toNat : Int), .int .u8 (a3.toNat : Int), .int .u8 (a4.toNat : Int), .int .u8 (a5.toNat : Int), .int .u8 (a6.toNat : Int), .int .u8 (a7.toNat : Int), .slice Ao1 no co1, .slice Ab1 (8 + nd) cb1] rfl)
  go_wp2_with (first | ((with_reducible show wpList _ _ _ (⟨some 65, _, _, _, _, _⟩ :: _) _ _); refine wpList_load_rng 27 (.tmp 5) rfl (by kernel_rfl) _ _ rfl _ R65.out _ Try.underlying27 rfl (by kernel_rfl) ?_))
  try clear R65
  with_reducible refine (ipwhole_any _ _ _ _ _ _ _ _ _ _ _ _ _ _ _ _ _ _ _ _ _).mono ?_
  rintro e w22 ⟨rfl, b22⟩
  replace hp := blk_under hp b22 zp
  replace zp := Nat.lt_of_lt_of_le zp b22.size
  replace hd := blk_under hd b22 zd
  replace zd := Nat.lt_of_lt_of_le zd b22.size
  replace he := blk_under he b22 ze
  replace ze := Nat.lt_of_lt_of_le ze b22.size
  replace hr := blk_under hr b22 zr
  replace zr := Nat.lt_of_lt_of_le zr b22.size
  replace ho := ho.below b22
  replace hb := hb.below b22
  replace hD := hD.below b22
  replace so1 := so1.below b22
  replace sb1 := sb1.below b22
  replace so2 := so2.below b22
  replace sb2 := sb2.below b22
  replace bel := bel.trans (b22.mono bel.size)
  clear b22
  rw [HW.out]
  have R70 := Lib.hid (range_lit he 0 16 [.int .i64 tos, .int .i64 id, .int .i64 fl, .int .i64 pt, .int .i64 ttl, .int .i64 17, .int .u8 (a0.toNat : Int), .int .u8 (a1.toNat : Int), .int .u8 (a2.toNat : Int), .int .u8 (a3.toNat : Int), .int .u8 (a4.toNat : Int), .int .u8 (a5.toNat : Int), .int .u8 (a6.toNat : Int), .int .u8 (a7.toNat : Int), .slice Ao1 no co1, .slice Ab1 (8 + nd) cb1] rfl)
  go_wp2_with (first | ((with_reducible show wpList _ _ _ (⟨some 70, _, _, _, _, _⟩ :: _) _ _); refine wpList_load_rng 27 (.tmp 5) rfl (by kernel_rfl) _ _ rfl _ R70.out _ Try.underlying27 rfl (by kernel_rfl) ?_))
  try clear R70
  with_reducible refine (udget_any _ _ _ _ _ _ _ _ _ _ _ _ _ _ _ _ _ _ _ _ _ _ sb1 (by have := G3.out; omega)).mono ?_
  rintro e w23 ⟨df3, dt3, lb3, A3, c3, er3, rfl, s3, f3, b23, q3⟩
  have av_s3_p := f3.av zp
  have av_s3_d := f3.av zd
  have av_s3_e := f3.av ze
  have av_s3_r := f3.av zr
  replace hp := blk_under hp b23 zp
  replace zp := Nat.lt_of_lt_of_le zp b23.size
  replace hd := blk_under hd b23 zd
  replace zd := Nat.lt_of_lt_of_le zd b23.size
  replace he := blk_under he b23 ze
  replace ze := Nat.lt_of_lt_of_le ze b23.size
  replace hr := blk_under hr b23 zr
  replace zr := Nat.lt_of_lt_of_le zr b23.size
  replace ho := ho.below b23
  replace hb := hb.below b23
  replace hD := hD.below b23
  replace so1 := so1.below b23
  replace sb1 := sb1.below b23
  replace so2 := so2.below b23
  replace sb2 := sb2.below b23
  replace bel := bel.trans (b23.mono bel.size)
  clear b23
  rw [udp_back HW.out a0 a1 a2 a3 a4 a5 a6 a7 G1.out G2.out ld (by have := hD.1; have := G3.out; omega)] at q3
  replace q3 := q3.symm
  simp only [Prod.mk.injEq] at q3
  obtain ⟨⟨rfl, rfl⟩, rfl, rfl⟩ := q3
  go_wp2_with (first | ((with_reducible show wpList _ _ _ (⟨some 9, _, _, _, _, _⟩ :: _) _ _); refine wpList_new_n rfl 33 rfl (.agg #[.int .i64 0, .int .i64 0, .slice none 0 0]) (by kernel_rfl) #[.int .i64 0, .int .i64 0, .slice none 0 0] rfl ?_; intro g9 w24 ge lt hh bb; have d_p_x := ne_new zp ge; have d_d_x := ne_new zd ge; have d_e_x := ne_new ze ge; have d_r_x := ne_new zr ge; have av_ho_x := ho.av_new ge; have av_hb_x := hb.av_new ge; have av_hD_x := hD.av_new ge; have av_so1_x := so1.av_new ge; have av_sb1_x := sb1.av_new ge; have av_so2_x := so2.av_new ge; have av_sb2_x := sb2.av_new ge; have av_s3_x := s3.av_new ge; have ox := Nat.le_trans bel.size ge; replace hp := blk_under hp bb zp; replace zp := Nat.lt_of_lt_of_le zp bb.size; replace hd := blk_under hd bb zd; replace zd := Nat.lt_of_lt_of_le zd bb.size; replace he := blk_under he bb ze; replace ze := Nat.lt_of_lt_of_le ze bb.size; replace hr := blk_under hr bb zr; replace zr := Nat.lt_of_lt_of_le zr bb.size; replace ho := ho.below bb; replace hb := hb.below bb; replace hD := hD.below bb; replace so1 := so1.below bb; replace sb1 := sb1.below bb; replace so2 := so2.below bb; replace sb2 := sb2.below bb; replace s3 := s3.below bb; replace bel := bel.trans (bb.mono bel.size); have hx := hh; have zx := lt; clear hh lt ge bb) | ((with_reducible show wpList _ _ _ (⟨none, Op.store _ (.tmp 9) _, _, _, _, _⟩ :: _) _ _); refine wpList_store_blk rfl 33 (.tmp 9) (.tmp 72) rfl g9 rfl #[.int .i64 df, .int .i64 dt, .slice A3 ld.length c3] rfl _ 33 hx (by rfl) (by kernel_rfl) (by kernel_rfl) ?_; intro w25 hq gr; replace ho := ho.away av_ho_x gr; replace hb := hb.away av_hb_x gr; replace hD := hD.away av_hD_x gr; replace so1 := so1.away av_so1_x gr; replace sb1 := sb1.away av_sb1_x gr; replace so2 := so2.away av_so2_x gr; replace sb2 := sb2.away av_sb2_x gr; replace s3 := s3.away av_s3_x gr; replace hp := blk_away hp gr zp d_p_x; replace hd := blk_away hd gr zd d_d_x; replace he := blk_away he gr ze d_e_x; replace hr := blk_away hr gr zr d_r_x; replace zp := Nat.lt_of_lt_of_le zp gr.size; replace zd := Nat.lt_of_lt_of_le zd gr.size; replace ze := Nat.lt_of_lt_of_le ze gr.size; replace zr := Nat.lt_of_lt_of_le zr gr.size; replace zx := Nat.lt_of_lt_of_le zx gr.size; replace bel := below_grown bel gr ox bel.size; clear hx; have hx := hq; clear hq gr; have R78 := cell_lit hx 0 _ rfl; have R80 := cell_lit hd 0 _ rfl; have R85 := cell_lit hx 1 _ rfl; have R87 := cell_lit hd 1 _ rfl; have R92 := cell_lit hx 2 _ rfl; have st93 := s3.str (P := Try.prog) 25 5 9 Try.underlying25 Try.underlying5 Try.underlying9; have R95 := cell_lit hd 2 _ rfl; have st96 := hD.str (P := Try.prog) 25 5 9 Try.underlying25 Try.underlying5 Try.underlying9))
  try clear R78
  try clear R80
  try clear R85
  try clear R87
  try clear R92
  try clear st93
  try clear R95
  try clear st96
  go_ret
  exact ⟨rfl, bel⟩
theorem udpWrites_walk (tos id fl pt ttl pr : Int) (a0 a1 a2 a3 a4 a5 a6 a7 : UInt8) (So : Option Addr) (no co : Nat) (lo : List UInt8) (Sb : Option Addr) (nb cb : Nat) (lb : List UInt8) (df dt : Int) (D : Option Addr) (nd cd : Nat) (ld : List UInt8) (w : World) (ho : Sl w So no co lo) (hb : Sl w Sb nb cb lb) (hd : Sl w D nd cd ld) : Calls Try.prog 5 #[.agg #[.int .i64 tos, .int .i64 id, .int .i64 fl, .int .i64 pt, .int .i64 ttl, .int .i64 pr, .int .u8 (a0.toNat : Int), .int .u8 (a1.toNat : Int), .int .u8 (a2.toNat : Int), .int .u8 (a3.toNat : Int), .int .u8 (a4.toNat : Int), .int .u8 (a5.toNat : Int), .int .u8 (a6.toNat : Int), .int .u8 (a7.toNat : Int), .slice So no co, .slice Sb nb cb], .agg #[.int .i64 df, .int .i64 dt, .slice D nd cd]] w fun e w' => e = .returned (.bool true) ∧ Below w.heap.size w w' := by
  by_cases h1 : nb ≤ 1600
  · by_cases h2 : no ≤ 60
    · by_cases h3 : nd ≤ 1600
      · by_cases he : (udPut tos id fl pt ttl a0 a1 a2 a3 a4 a5 a6 a7 lo df dt ld).2.2 = 0
        · obtain ⟨g1, g2, g3, _⟩ := udput_pos he
          rcases (by decide : ∀ b : Bool, b = true ∨ b = false) (decide (pt = 0) && decide (fl % 2 = 0)) with hw | hw
          · exact udpWrites_6 tos id fl pt ttl pr a0 a1 a2 a3 a4 a5 a6 a7 So no co lo Sb nb cb lb df dt D nd cd ld w ho hb hd h1 h2 h3 g1 g2 (hd.1 ▸ g3) hw
          · exact udpWrites_5 tos id fl pt ttl pr a0 a1 a2 a3 a4 a5 a6 a7 So no co lo Sb nb cb lb df dt D nd cd ld w ho hb hd h1 h2 h3 g1 g2 (hd.1 ▸ g3) hw
        · exact udpWrites_4 tos id fl pt ttl pr a0 a1 a2 a3 a4 a5 a6 a7 So no co lo Sb nb cb lb df dt D nd cd ld w ho hb hd h1 h2 h3 _ rfl he
      · exact udpWrites_3 tos id fl pt ttl pr a0 a1 a2 a3 a4 a5 a6 a7 So no co lo Sb nb cb lb df dt D nd cd ld w h1 h2 (by omega)
    · exact udpWrites_2 tos id fl pt ttl pr a0 a1 a2 a3 a4 a5 a6 a7 So no co lo Sb nb cb lb df dt D nd cd ld w h1 (by omega)
  · exact udpWrites_1 tos id fl pt ttl pr a0 a1 a2 a3 a4 a5 a6 a7 So no co lo Sb nb cb lb df dt D nd cd ld w (by omega)
end Go.Proofs.Ythikedajhocdkaa
