/- Layer 8: own, seg, same, base, awake; TcpReads, TcpWrites. -/
import Derived.Test.YtkmihoijnjdbnaaTc2
import Derived.Test.YtkmihoijnjdbnaaTc3
import Derived.Test.YtkmihoijnjdbnaaTc5
import Derived.Test.YtkmihoijnjdbnaaTcf
import Derived.Deep.CutRange
namespace Go.Proofs.Ytkmihoijnjdbnaa
open Go.RowKit

set_option maxRecDepth 100000 in
set_option maxHeartbeats 16000000 in
theorem own8_any (tos id fl pt ttl pr : Int) (a0 a1 a2 a3 a4 a5 a6 a7 : UInt8) (So Sb : Option Addr) (no co nb cb : Nat) (w : World) : Calls Try.prog 12 #[.agg #[.int .i64 tos, .int .i64 id, .int .i64 fl, .int .i64 pt, .int .i64 ttl, .int .i64 pr, .int .u8 (a0.toNat : Int), .int .u8 (a1.toNat : Int), .int .u8 (a2.toNat : Int), .int .u8 (a3.toNat : Int), .int .u8 (a4.toNat : Int), .int .u8 (a5.toNat : Int), .int .u8 (a6.toNat : Int), .int .u8 (a7.toNat : Int), .slice So no co, .slice Sb nb cb]] w fun e w' => e = .returned (.agg #[.int .i64 tos, .int .i64 id, .int .i64 fl, .int .i64 pt, .int .i64 ttl, .int .i64 pr, .int .u8 (a0.toNat : Int), .int .u8 (a1.toNat : Int), .int .u8 (a2.toNat : Int), .int .u8 (a3.toNat : Int), .int .u8 (a4.toNat : Int), .int .u8 (a5.toNat : Int), .int .u8 (a6.toNat : Int), .int .u8 (a7.toNat : Int), .slice So no co, .slice Sb nb cb]) ∧ Below w.heap.size w w' := by
  have bel := Below.refl w.heap.size w
  go_enter Try.func12, Try.ntmps12
  go_wp2_with (first | ((with_reducible show wpList _ _ _ (⟨some 1, _, _, _, _, _⟩ :: _) _ _); refine wpList_box_n rfl 27 (.tmp 0) rfl #[.int .i64 tos, .int .i64 id, .int .i64 fl, .int .i64 pt, .int .i64 ttl, .int .i64 pr, .int .u8 (a0.toNat : Int), .int .u8 (a1.toNat : Int), .int .u8 (a2.toNat : Int), .int .u8 (a3.toNat : Int), .int .u8 (a4.toNat : Int), .int .u8 (a5.toNat : Int), .int .u8 (a6.toNat : Int), .int .u8 (a7.toNat : Int), .slice So no co, .slice Sb nb cb] rfl ?_; intro g1 w1 ge lt hh bb; have op := Nat.le_trans bel.size ge; replace bel := bel.trans (bb.mono bel.size); have hp := hh; clear hh lt ge bb) | ((with_reducible show wpList _ _ _ (⟨some 2, _, _, _, _, _⟩ :: _) _ _); refine wpList_new_a rfl 40 rfl #[.int .i64 0, .int .i64 0, .int .i64 0, .int .i64 0, .int .i64 0, .int .i64 0, .int .u8 0, .int .u8 0, .int .u8 0, .int .u8 0, .int .u8 0, .int .u8 0, .int .u8 0, .int .u8 0, .slice none 0 0, .slice none 0 0] (by kernel_rfl) ?_; intro g2 w2 ge hh bb; have d_p_z := ne_new (hlt hp) ge; have oz := Nat.le_trans bel.size ge; replace hp := blk_u hp bb; replace bel := bel.trans (bb.mono bel.size); have hz := hh; clear hh ge bb; have R4 := cell_lit hp 0 _ rfl; have R6 := cell_lit hp 1 _ rfl; have R8 := cell_lit hp 2 _ rfl; have R10 := cell_lit hp 3 _ rfl; have R12 := cell_lit hp 4 _ rfl; have R14 := cell_lit hp 5 _ rfl; have R16 := Lib.hid (range_lit hp 6 4 [.int .u8 (a0.toNat : Int), .int .u8 (a1.toNat : Int), .int .u8 (a2.toNat : Int), .int .u8 (a3.toNat : Int)] rfl)) | ((with_reducible show wpList _ _ _ (⟨some 16, _, _, _, _, _⟩ :: _) _ _); refine wpList_load_rng 24 (.tmp 15) rfl (by kernel_rfl) _ _ rfl _ R16.out _ Try.underlying24 rfl (by kernel_rfl) ?_; have R18 := Lib.hid (range_lit hp 10 4 [.int .u8 (a4.toNat : Int), .int .u8 (a5.toNat : Int), .int .u8 (a6.toNat : Int), .int .u8 (a7.toNat : Int)] rfl)) | ((with_reducible show wpList _ _ _ (⟨some 18, _, _, _, _, _⟩ :: _) _ _); refine wpList_load_rng 24 (.tmp 17) rfl (by kernel_rfl) _ _ rfl _ R18.out _ Try.underlying24 rfl (by kernel_rfl) ?_; have R20 := cell_lit hp 14 _ rfl; have R22 := cell_lit hp 15 _ rfl) | ((with_reducible show wpList _ _ _ (⟨none, Op.store _ (.tmp 2) _, _, _, _, _⟩ :: _) _ _); refine wpList_store_blk rfl 40 (.tmp 2) (.tmp 23) rfl g2 rfl _ rfl _ 40 hz (by rfl) (by kernel_rfl) (by kernel_rfl) ?_; intro w3 hq gr; replace hp := blk_a hp gr d_p_z; replace bel := below_grown bel gr oz bel.size; clear hz; have hz := hq; clear hq gr))
  try clear R4
  try clear R6
  try clear R8
  try clear R10
  try clear R12
  try clear R14
  try clear R16
  try clear R18
  try clear R20
  try clear R22
  exact bodyPost_ret (results_cell_row' rfl _ _ _ _ _ _ _ rfl hz Try.underlying40 rfl (by kernel_rfl)) rfl ⟨rfl, bel⟩
set_option maxRecDepth 100000 in
set_option maxHeartbeats 16000000 in
theorem seg8_any (sf st se ak fg wn ug : Int) (Q : Option Addr) (nq cq : Nat) (D : Option Addr) (nd cd : Nat) (w : World) : Calls Try.prog 15 #[.agg #[.int .i64 sf, .int .i64 st, .int .u32 se, .int .u32 ak, .int .i64 fg, .int .i64 wn, .int .i64 ug, .slice Q nq cq, .slice D nd cd]] w fun e w' => e = .returned (.agg #[.int .i64 sf, .int .i64 st, .int .u32 se, .int .u32 ak, .int .i64 fg, .int .i64 wn, .int .i64 ug, .slice Q nq cq, .slice D nd cd]) ∧ Below w.heap.size w w' := by
  have bel := Below.refl w.heap.size w
  go_enter Try.func15, Try.ntmps15
  go_wp2_with (first | ((with_reducible show wpList _ _ _ (⟨some 1, _, _, _, _, _⟩ :: _) _ _); refine wpList_box_n rfl 34 (.tmp 0) rfl #[.int .i64 sf, .int .i64 st, .int .u32 se, .int .u32 ak, .int .i64 fg, .int .i64 wn, .int .i64 ug, .slice Q nq cq, .slice D nd cd] rfl ?_; intro g1 w1 ge lt hh bb; have op := Nat.le_trans bel.size ge; replace bel := bel.trans (bb.mono bel.size); have hp := hh; clear hh lt ge bb) | ((with_reducible show wpList _ _ _ (⟨some 2, _, _, _, _, _⟩ :: _) _ _); refine wpList_new_a rfl 37 rfl #[.int .i64 0, .int .i64 0, .int .u32 0, .int .u32 0, .int .i64 0, .int .i64 0, .int .i64 0, .slice none 0 0, .slice none 0 0] (by kernel_rfl) ?_; intro g2 w2 ge hh bb; have d_p_z := ne_new (hlt hp) ge; have oz := Nat.le_trans bel.size ge; replace hp := blk_u hp bb; replace bel := bel.trans (bb.mono bel.size); have hz := hh; clear hh ge bb; have R4 := cell_lit hp 0 _ rfl; have R6 := cell_lit hp 1 _ rfl; have R8 := cell_lit hp 2 _ rfl; have R10 := cell_lit hp 3 _ rfl; have R12 := cell_lit hp 4 _ rfl; have R14 := cell_lit hp 5 _ rfl; have R16 := cell_lit hp 6 _ rfl; have R18 := cell_lit hp 7 _ rfl; have R20 := cell_lit hp 8 _ rfl) | ((with_reducible show wpList _ _ _ (⟨none, Op.store _ (.tmp 2) _, _, _, _, _⟩ :: _) _ _); refine wpList_store_blk rfl 37 (.tmp 2) (.tmp 21) rfl g2 rfl _ rfl _ 37 hz (by rfl) (by kernel_rfl) (by kernel_rfl) ?_; intro w3 hq gr; replace hp := blk_a hp gr d_p_z; replace bel := below_grown bel gr oz bel.size; clear hz; have hz := hq; clear hq gr))
  try clear R4
  try clear R6
  try clear R8
  try clear R10
  try clear R12
  try clear R14
  try clear R16
  try clear R18
  try clear R20
  exact bodyPost_ret (results_cell_row' rfl _ _ _ _ _ _ _ rfl hz Try.underlying37 rfl (by kernel_rfl)) rfl ⟨rfl, bel⟩
set_option maxRecDepth 100000 in
set_option maxHeartbeats 16000000 in
theorem same8_true (sf st se ak fg wn ug : Int) (Q : Option Addr) (cq : Nat) (D : Option Addr) (cd : Nat) (Q2 : Option Addr) (n2 q2 : Nat) (D2 : Option Addr) (m2 d2 : Nat) (lq ld : List UInt8) (w : World) (h1 : Sl w Q n2 cq lq) (h2 : Sl w D m2 cd ld) (h3 : Sl w Q2 n2 q2 lq) (h4 : Sl w D2 m2 d2 ld) : Calls Try.prog 13 #[.agg #[.int .i64 sf, .int .i64 st, .int .u32 se, .int .u32 ak, .int .i64 fg, .int .i64 wn, .int .i64 ug, .slice Q n2 cq, .slice D m2 cd], .agg #[.int .i64 sf, .int .i64 st, .int .u32 se, .int .u32 ak, .int .i64 fg, .int .i64 wn, .int .i64 ug, .slice Q2 n2 q2, .slice D2 m2 d2]] w fun e w' => e = .returned (.bool true) ∧ Below w.heap.size w w' := by
  have bel := Below.refl w.heap.size w
  go_enter Try.func13, Try.ntmps13
  go_wp2_with (first | ((with_reducible show wpList _ _ _ (⟨some 2, _, _, _, _, _⟩ :: _) _ _); refine wpList_box_n rfl 34 (.tmp 0) rfl #[.int .i64 sf, .int .i64 st, .int .u32 se, .int .u32 ak, .int .i64 fg, .int .i64 wn, .int .i64 ug, .slice Q n2 cq, .slice D m2 cd] rfl ?_; intro g2 w1 ge lt hh bb; have av_h1_p := h1.av_new ge; have av_h2_p := h2.av_new ge; have av_h3_p := h3.av_new ge; have av_h4_p := h4.av_new ge; have op := Nat.le_trans bel.size ge; replace h1 := h1.below bb; replace h2 := h2.below bb; replace h3 := h3.below bb; replace h4 := h4.below bb; replace bel := bel.trans (bb.mono bel.size); have hp := hh; clear hh lt ge bb) | ((with_reducible show wpList _ _ _ (⟨some 3, _, _, _, _, _⟩ :: _) _ _); refine wpList_box_n rfl 37 (.tmp 1) rfl #[.int .i64 sf, .int .i64 st, .int .u32 se, .int .u32 ak, .int .i64 fg, .int .i64 wn, .int .i64 ug, .slice Q2 n2 q2, .slice D2 m2 d2] rfl ?_; intro g3 w2 ge lt hh bb; have d_p_q := ne_new (hlt hp) ge; have av_h1_q := h1.av_new ge; have av_h2_q := h2.av_new ge; have av_h3_q := h3.av_new ge; have av_h4_q := h4.av_new ge; have oq := Nat.le_trans bel.size ge; replace hp := blk_u hp bb; replace h1 := h1.below bb; replace h2 := h2.below bb; replace h3 := h3.below bb; replace h4 := h4.below bb; replace bel := bel.trans (bb.mono bel.size); have hq := hh; clear hh lt ge bb; have R6 := cell_lit hp 0 _ rfl; have R8 := cell_lit hq 0 _ rfl; have R12 := cell_lit hp 1 _ rfl; have R14 := cell_lit hq 1 _ rfl; have R19 := cell_lit hp 2 _ rfl; have R21 := cell_lit hq 2 _ rfl; have R26 := cell_lit hp 3 _ rfl; have R28 := cell_lit hq 3 _ rfl; have R33 := cell_lit hp 4 _ rfl; have R35 := cell_lit hq 4 _ rfl; have R40 := cell_lit hp 5 _ rfl; have R42 := cell_lit hq 5 _ rfl; have R47 := cell_lit hp 6 _ rfl; have R49 := cell_lit hq 6 _ rfl; have R54 := cell_lit hp 7 _ rfl; have st55 := h1.str (P := Try.prog) 25 5 9 Try.underlying25 Try.underlying5 Try.underlying9; have R57 := cell_lit hq 7 _ rfl; have st58 := h3.str (P := Try.prog) 25 5 9 Try.underlying25 Try.underlying5 Try.underlying9; have R63 := cell_lit hp 8 _ rfl; have st64 := h2.str (P := Try.prog) 25 5 9 Try.underlying25 Try.underlying5 Try.underlying9; have R66 := cell_lit hq 8 _ rfl; have st67 := h4.str (P := Try.prog) 25 5 9 Try.underlying25 Try.underlying5 Try.underlying9))
  try clear R6
  try clear R8
  try clear R12
  try clear R14
  try clear R19
  try clear R21
  try clear R26
  try clear R28
  try clear R33
  try clear R35
  try clear R40
  try clear R42
  try clear R47
  try clear R49
  try clear R54
  try clear st55
  try clear R57
  try clear st58
  try clear R63
  try clear st64
  try clear R66
  try clear st67
  go_ret
  exact ⟨rfl, bel⟩
set_option maxRecDepth 100000 in
set_option maxHeartbeats 16000000 in
theorem base8 (w : World) : Calls Try.prog 9 #[] w fun e w' => e = .returned (.agg #[.int .i64 0, .int .i64 0, .int .i64 0, .int .i64 0, .int .i64 64, .int .i64 0, .int .u8 10, .int .u8 0, .int .u8 0, .int .u8 1, .int .u8 10, .int .u8 0, .int .u8 0, .int .u8 2, .slice none 0 0, .slice none 0 0]) ∧ Below w.heap.size w w' := by
  have bel := Below.refl w.heap.size w
  go_enter Try.func9, Try.ntmps9
  go_wp2_with (first | ((with_reducible show wpList _ _ _ (⟨some 0, _, _, _, _, _⟩ :: _) _ _); refine wpList_new_a rfl 27 rfl #[.int .i64 0, .int .i64 0, .int .i64 0, .int .i64 0, .int .i64 0, .int .i64 0, .int .u8 0, .int .u8 0, .int .u8 0, .int .u8 0, .int .u8 0, .int .u8 0, .int .u8 0, .int .u8 0, .slice none 0 0, .slice none 0 0] (by kernel_rfl) ?_; intro g0 w1 ge hh bb; have oz := Nat.le_trans bel.size ge; replace bel := bel.trans (bb.mono bel.size); have hz := hh; clear hh ge bb) | ((with_reducible show wpList _ _ _ (⟨none, Op.store _ (.tmp 0) _, _, _, _, _⟩ :: _) _ _); refine wpList_store_blk rfl 27 (.tmp 0) (.tmp 3) rfl g0 rfl _ rfl _ 27 hz (by rfl) (by kernel_rfl) (by kernel_rfl) ?_; intro w2 hq gr; replace bel := below_grown bel gr oz bel.size; clear hz; have hz := hq; clear hq gr))
  exact bodyPost_ret (results_cell_row' rfl _ _ _ _ _ _ _ rfl hz Try.underlying27 rfl (by kernel_rfl)) rfl ⟨rfl, bel⟩
theorem kput (sf st se ak fg wn ug : Int) (Q : Option Addr) (nq cq : Nat) (D : Option Addr) (nd cd : Nat) (lq ld : List UInt8) (w : World) (hv : Sl w Q nq cq lq) (hb : Sl w D nd cd ld) (hn : nd ≤ 100000) (e0 : 0 ≤ se) (e1 : se < 4294967296) (k0 : 0 ≤ ak) (k1 : ak < 4294967296) : Calls Try.prog 8 #[.agg #[.int .i64 0, .int .i64 0, .int .i64 0, .int .i64 0, .int .i64 64, .int .i64 0, .int .u8 10, .int .u8 0, .int .u8 0, .int .u8 1, .int .u8 10, .int .u8 0, .int .u8 0, .int .u8 2, .slice none 0 0, .slice none 0 0], .agg #[.int .i64 sf, .int .i64 st, .int .u32 se, .int .u32 ak, .int .i64 fg, .int .i64 wn, .int .i64 ug, .slice Q nq cq, .slice D nd cd]] w (PkPost (tcPut 0 0 0 0 64 10 0 0 1 10 0 0 2 [] sf st se ak fg wn ug lq ld) w) :=
  tcput_any 0 0 0 0 64 0 10 0 0 1 10 0 0 2 none none 0 0 0 0 sf st se ak fg wn ug Q nq cq D nd cd [] lq ld w (Sl.nil w) hv hb hn (by omega) e0 e1 k0 k1
theorem tcput_pos {tos id fl pt ttl : Int} {a0 a1 a2 a3 a4 a5 a6 a7 : UInt8} {lo : List UInt8} {sf st se ak fg wn ug : Int} {q b : List UInt8} (h : (tcPut tos id fl pt ttl a0 a1 a2 a3 a4 a5 a6 a7 lo sf st se ak fg wn ug q b).2.2 = 0) : segOk sf st fg wn ug q.length = true ∧ q.length + b.length ≤ 1460 := by
  unfold tcPut at h
  split at h
  · exact absurd h (by decide)
  · rename_i h1
    split at h
    · exact absurd h (by decide)
    · rename_i h2
      exact ⟨by simpa using h1, by omega⟩
theorem tcput_eq {tos id fl pt ttl : Int} {a0 a1 a2 a3 a4 a5 a6 a7 : UInt8} {lo : List UInt8} {sf st se ak fg wn ug : Int} {q b : List UInt8} (h1 : segOk sf st fg wn ug q.length = true) (h2 : q.length + b.length ≤ 1460) : tcPut tos id fl pt ttl a0 a1 a2 a3 a4 a5 a6 a7 lo sf st se ak fg wn ug q b = (([tos, id, fl, pt, ttl, 6], [a0, a1, a2, a3, a4, a5, a6, a7]), (lo, tcBytes a0 a1 a2 a3 a4 a5 a6 a7 sf st se ak fg wn ug q b), 0) := by
  unfold tcPut
  rw [if_neg (by rw [h1]; decide), if_neg (by omega)]
theorem kput_ok (sf st se ak fg wn ug : Int) (Q : Option Addr) (nq cq : Nat) (D : Option Addr) (nd cd : Nat) (lq ld : List UInt8) (w : World) (hv : Sl w Q nq cq lq) (hb : Sl w D nd cd ld) (hg : segOk sf st fg wn ug nq = true) (hn : nq + nd ≤ 1460) (e0 : 0 ≤ se) (e1 : se < 4294967296) (k0 : 0 ≤ ak) (k1 : ak < 4294967296) : Calls Try.prog 8 #[.agg #[.int .i64 0, .int .i64 0, .int .i64 0, .int .i64 0, .int .i64 64, .int .i64 0, .int .u8 10, .int .u8 0, .int .u8 0, .int .u8 1, .int .u8 10, .int .u8 0, .int .u8 0, .int .u8 2, .slice none 0 0, .slice none 0 0], .agg #[.int .i64 sf, .int .i64 st, .int .u32 se, .int .u32 ak, .int .i64 fg, .int .i64 wn, .int .i64 ug, .slice Q nq cq, .slice D nd cd]] w fun e w' => ∃ Ao co Ab cb, e = .returned (.tuple #[.agg #[.int .i64 0, .int .i64 0, .int .i64 0, .int .i64 0, .int .i64 64, .int .i64 6, .int .u8 10, .int .u8 0, .int .u8 0, .int .u8 1, .int .u8 10, .int .u8 0, .int .u8 0, .int .u8 2, .slice Ao 0 co, .slice Ab (20 + nq + nd) cb], .int .i64 0]) ∧ Sl w' Ao 0 co [] ∧ Sl w' Ab (20 + nq + nd) cb (tcBytes 10 0 0 1 10 0 0 2 sf st se ak fg wn ug lq ld) ∧ Fr w.heap.size Ab (20 + nq + nd) ∧ Below w.heap.size w w' := by
  refine (kput sf st se ak fg wn ug Q nq cq D nd cd lq ld w hv hb (by omega) e0 e1 k0 k1).mono ?_
  rintro e w' ⟨f0, f1, f2, f3, f4, f5, g0, g1, g2, g3, g4, g5, g6, g7, lo, lb, Ao, Ab, co, cb, er, rfl, ho, hbb, fo, fb, bel, hq⟩
  rw [tcput_eq (by rw [hv.1]; exact hg) (by rw [hv.1, hb.1]; exact hn)] at hq
  simp only [Prod.mk.injEq, List.cons.injEq, and_true] at hq
  obtain ⟨⟨⟨rfl, rfl, rfl, rfl, rfl, rfl⟩, rfl, rfl, rfl, rfl, rfl, rfl, rfl, rfl⟩, ⟨rfl, rfl⟩, rfl⟩ := hq
  have hl : (tcBytes 10 0 0 1 10 0 0 2 sf st se ak fg wn ug lq ld).length = 20 + nq + nd := by rw [tcBytes_len, hv.1, hb.1]
  rw [hl] at hbb fb ⊢
  exact ⟨Ao, co, Ab, cb, rfl, ho, hbb, fb, bel⟩
theorem kput_er (sf st se ak fg wn ug : Int) (Q : Option Addr) (nq cq : Nat) (D : Option Addr) (nd cd : Nat) (lq ld : List UInt8) (er : Int) (w : World) (hv : Sl w Q nq cq lq) (hb : Sl w D nd cd ld) (hn : nd ≤ 100000) (e0 : 0 ≤ se) (e1 : se < 4294967296) (k0 : 0 ≤ ak) (k1 : ak < 4294967296) (h : (tcPut 0 0 0 0 64 10 0 0 1 10 0 0 2 [] sf st se ak fg wn ug lq ld).2.2 = er) : Calls Try.prog 8 #[.agg #[.int .i64 0, .int .i64 0, .int .i64 0, .int .i64 0, .int .i64 64, .int .i64 0, .int .u8 10, .int .u8 0, .int .u8 0, .int .u8 1, .int .u8 10, .int .u8 0, .int .u8 0, .int .u8 2, .slice none 0 0, .slice none 0 0], .agg #[.int .i64 sf, .int .i64 st, .int .u32 se, .int .u32 ak, .int .i64 fg, .int .i64 wn, .int .i64 ug, .slice Q nq cq, .slice D nd cd]] w fun e w' => ∃ f0 f1 f2 f3 f4 f5 : Int, ∃ g0 g1 g2 g3 g4 g5 g6 g7 : UInt8, ∃ Ao no co Ab nb cb, e = .returned (.tuple #[.agg #[.int .i64 f0, .int .i64 f1, .int .i64 f2, .int .i64 f3, .int .i64 f4, .int .i64 f5, .int .u8 (g0.toNat : Int), .int .u8 (g1.toNat : Int), .int .u8 (g2.toNat : Int), .int .u8 (g3.toNat : Int), .int .u8 (g4.toNat : Int), .int .u8 (g5.toNat : Int), .int .u8 (g6.toNat : Int), .int .u8 (g7.toNat : Int), .slice Ao no co, .slice Ab nb cb], .int .i64 er]) ∧ Below w.heap.size w w' := by
  refine (kput sf st se ak fg wn ug Q nq cq D nd cd lq ld w hv hb hn e0 e1 k0 k1).mono ?_
  rintro e w' ⟨f0, f1, f2, f3, f4, f5, g0, g1, g2, g3, g4, g5, g6, g7, lo, lb, Ao, Ab, co, cb, er', rfl, ho, hbb, fo, fb, bel, hq⟩
  rw [← hq] at h
  subst h
  exact ⟨_, _, _, _, _, _, _, _, _, _, _, _, _, _, _, _, _, _, _, _, rfl, bel⟩
theorem tcGet_er (fl pt pr : Int) (a0 a1 a2 a3 a4 a5 a6 a7 : UInt8) (b : List UInt8) : (tcGet fl pt pr a0 a1 a2 a3 a4 a5 a6 a7 b).2.2 = tcErr fl pt pr a0 a1 a2 a3 a4 a5 a6 a7 b := by
  unfold tcGet
  split
  · rfl
  · rename_i h
    simp only [ne_eq, Decidable.not_not] at h
    exact h.symm
theorem kget (Ao Ab : Option Addr) (no co cb n : Nat) (l : List UInt8) (sf st se ak fg wn ug : Int) (lq lb : List UInt8) (w : World) (h : Sl w Ab n cb l) (hn : n ≤ 80000) (hg : tcGet 0 0 6 10 0 0 1 10 0 0 2 l = ([sf, st, se, ak, fg, wn, ug], (lq, lb), 0)) : Calls Try.prog 10 #[.agg #[.int .i64 0, .int .i64 0, .int .i64 0, .int .i64 0, .int .i64 64, .int .i64 6, .int .u8 10, .int .u8 0, .int .u8 0, .int .u8 1, .int .u8 10, .int .u8 0, .int .u8 0, .int .u8 2, .slice Ao no co, .slice Ab n cb]] w fun e w' => ∃ A c B d, e = .returned (.tuple #[.agg #[.int .i64 sf, .int .i64 st, .int .u32 se, .int .u32 ak, .int .i64 fg, .int .i64 wn, .int .i64 ug, .slice A lq.length c, .slice B lb.length d], .int .i64 0]) ∧ Sl w' A lq.length c lq ∧ Sl w' B lb.length d lb ∧ Fr w.heap.size A lq.length ∧ Fr w.heap.size B lb.length ∧ Below w.heap.size w w' := by
  refine (tcget_any 0 0 0 0 64 6 10 0 0 1 10 0 0 2 Ao Ab no co n cb l w h (by omega)).mono ?_
  rintro e w' ⟨f0, f1, f2, f3, f4, f5, f6, q, b, A, B, c, d, er, rfl, hs, ht, hf, hh, bel, hq⟩
  rw [hg] at hq
  simp only [Prod.mk.injEq, List.cons.injEq, and_true] at hq
  obtain ⟨⟨rfl, rfl, rfl, rfl, rfl, rfl, rfl⟩, ⟨rfl, rfl⟩, rfl⟩ := hq
  exact ⟨A, c, B, d, rfl, hs, ht, hf, hh, bel⟩
theorem kget_er (Ao Ab : Option Addr) (no co cb n : Nat) (fl : Int) (l : List UInt8) (er : Int) (w : World) (h : Sl w Ab n cb l) (hn : n ≤ 80000) (hg : tcErr fl 0 6 10 0 0 1 10 0 0 2 l = er) : Calls Try.prog 10 #[.agg #[.int .i64 0, .int .i64 0, .int .i64 fl, .int .i64 0, .int .i64 64, .int .i64 6, .int .u8 10, .int .u8 0, .int .u8 0, .int .u8 1, .int .u8 10, .int .u8 0, .int .u8 0, .int .u8 2, .slice Ao no co, .slice Ab n cb]] w fun e w' => ∃ f0 f1 f2 f3 f4 f5 f6 : Int, ∃ A nq c B nd d, e = .returned (.tuple #[.agg #[.int .i64 f0, .int .i64 f1, .int .u32 f2, .int .u32 f3, .int .i64 f4, .int .i64 f5, .int .i64 f6, .slice A nq c, .slice B nd d], .int .i64 er]) ∧ Below w.heap.size w w' := by
  refine (tcget_any 0 0 fl 0 64 6 10 0 0 1 10 0 0 2 Ao Ab no co n cb l w h (by omega)).mono ?_
  rintro e w' ⟨f0, f1, f2, f3, f4, f5, f6, q, b, A, B, c, d, er', rfl, hs, ht, hf, hh, bel, hq⟩
  have e1 := congrArg (fun z => z.2.2) hq
  simp only [tcGet_er] at e1
  rw [hg] at e1
  subst e1
  exact ⟨f0, f1, f2, f3, f4, f5, f6, A, _, c, B, _, d, rfl, bel⟩
set_option maxRecDepth 100000 in
set_option maxHeartbeats 16000000 in
theorem awake8 (w : World) : Calls Try.prog 7 #[] w fun e w' => e = .returned (.bool true) ∧ Below w.heap.size w w' := by
  obtain ⟨ii, hii, hz0, hz1, hz2⟩ := info_parts Try.info5
  have bel := Below.refl w.heap.size w
  go_enter Try.func7, Try.ntmps7
  go_wp2_with (first | ((with_reducible show wpList _ _ _ (⟨some 6, _, _, _, _, _⟩ :: _) _ _); refine wpList_lit_n rfl 25 5 4 _ rfl #[.int .u8 1, .int .u8 1, .int .u8 1, .int .u8 0] (.int .u8 0) Try.underlying25 (by kernel_rfl) 1 (by kernel_rfl) (by decide) (by kernel_rfl) ?_; intro g6 w1 ge lt hh bb; have hl : w1.heap[g6]? = some (.cells (([1, 1, 1, 0] : List UInt8).map u8v).toArray 5 (0, 0)) := (by simpa [u8v, byteOf_val] using hh); have sqw := own_lit (B := w.heap.size) ([1, 1, 1, 0]) hl ge 4 rfl (by simp [maxLen]); have sq := (own_sl sqw).1; have sqlo := bel.size; clear hl; have sqge := ge; have lz_sq := bb.size; have ob6 := Nat.le_trans bel.size ge; replace bel := bel.trans (bb.mono bel.size); have hb6 := hh; clear hh lt ge bb) | ((with_reducible show wpList _ _ _ (⟨some 7, _, _, _, _, _⟩ :: _) _ _); refine wpList_lit_n rfl 25 5 1 _ rfl #[.int .u8 120] (.int .u8 0) Try.underlying25 (by kernel_rfl) 1 (by kernel_rfl) (by decide) (by kernel_rfl) ?_; intro g7 w2 ge lt hh bb; have hl : w2.heap[g7]? = some (.cells (([120] : List UInt8).map u8v).toArray 5 (0, 0)) := (by simpa [u8v, byteOf_val] using hh); have sxw := own_lit (B := w1.heap.size) ([120]) hl ge 1 rfl (by simp [maxLen]); have sx := (own_sl sxw).1; have sxlo := bel.size; clear hl; have sxge := ge; have lz_sx := bb.size; have y_sx_b6 := Lib.hid (hlt hb6); have bl_sq_sx := sq.bl_new; have d_b6_b7 := ne_new (hlt hb6) ge; have av_sq_b7 := sq.av_new ge; have of_sq_b7 := own_new sqw ge; have ob7 := Nat.le_trans bel.size ge; replace hb6 := blk_u hb6 bb; replace sq := sq.below bb; replace sqw := own_under sqw bb; replace lz_sq := Nat.le_trans lz_sq bb.size; replace bel := bel.trans (bb.mono bel.size); have hb7 := hh; clear hh lt ge bb; have av_sx_b6 := (own_sl sxw).2.av y_sx_b6.out) | ((with_reducible show wpList _ _ _ (⟨some 8, _, _, _, _, _⟩ :: _) _ _); refine wpList_mark_n rfl 25 5 (.tmp 7) rfl Try.underlying25 Try.underlying5 g7 #[.int .u8 120] _ _ rfl hb7 ?_; intro w3 hq gr; replace sq := sq.away av_sq_b7 gr; replace sqw := own_off sqw of_sq_b7 gr; replace lz_sq := Nat.le_trans lz_sq gr.size; replace lz_sx := Nat.le_trans lz_sx gr.size; replace hb6 := blk_a hb6 gr d_b6_b7; replace bel := below_grown bel gr ob7 bel.size; clear hb7; have hb7 := hq; clear hq gr; replace sx : Sl w3 (some ⟨g7, 0, none⟩) 1 1 ([120]) := sl_lit ([120]) hb7 rfl (by simp [maxLen]); clear sxw lz_sx; clear hb7) | ((with_reducible show wpList _ _ _ (⟨some 1, _, _, _, _, _⟩ :: _) _ _); refine wpList_new_a rfl 34 rfl #[.int .i64 0, .int .i64 0, .int .u32 0, .int .u32 0, .int .i64 0, .int .i64 0, .int .i64 0, .slice none 0 0, .slice none 0 0] (by kernel_rfl) ?_; intro g1 w4 ge hh bb; have d_b6_s := ne_new (hlt hb6) ge; have av_sq_s := sq.av_new ge; have of_sq_s := own_new sqw ge; have av_sx_s := sx.av_new ge; have os := Nat.le_trans bel.size ge; replace hb6 := blk_u hb6 bb; replace sq := sq.below bb; replace sqw := own_under sqw bb; replace sx := sx.below bb; replace lz_sq := Nat.le_trans lz_sq bb.size; replace bel := bel.trans (bb.mono bel.size); have hs := hh; clear hh ge bb) | ((with_reducible show wpList _ _ _ (⟨none, Op.store _ (.tmp 1) _, _, _, _, _⟩ :: _) _ _); refine wpList_store_blk rfl 34 (.tmp 1) (.tmp 9) rfl g1 rfl _ rfl _ 34 hs (by rfl) (by kernel_rfl) (by kernel_rfl) ?_; intro w5 hq gr; replace sq := sq.away av_sq_s gr; replace sqw := own_off sqw of_sq_s gr; replace sx := sx.away av_sx_s gr; replace lz_sq := Nat.le_trans lz_sq gr.size; replace hb6 := blk_a hb6 gr d_b6_s; replace bel := below_grown bel gr os bel.size; clear hs; have hs := hq; clear hq gr))
  simp only [Act.put, List.setIfInBounds_toArray, List.set_cons_zero, List.set_cons_succ]
  go_cut [2, 3] from 9999 (fun s2 s3 W => ∃ g2 : Nat, ∃ Ab : Option Addr, ∃ cb : Nat, ∃ Ao : Option Addr, ∃ co : Nat, s2 = .pointer (some ⟨g2, 0, none⟩) ∧ s3 = .int .i64 0 ∧ W.heap[g6]? = some (.cells #[.int .u8 1, .int .u8 1, .int .u8 1, .int .u8 0] 5 (0, 0)) ∧ W.heap[g1]? = some (.cells #[.int .i64 5, .int .i64 6, .int .u32 7, .int .u32 0, .int .i64 18, .int .i64 100, .int .i64 0, .slice (some ⟨g6, 0, none⟩) 4 4, .slice (some ⟨g7, 0, none⟩) 1 1] 34 (0, 0)) ∧ W.heap[g2]? = some (.cells #[.int .i64 0, .int .i64 0, .int .i64 0, .int .i64 0, .int .i64 64, .int .i64 6, .int .u8 10, .int .u8 0, .int .u8 0, .int .u8 1, .int .u8 10, .int .u8 0, .int .u8 0, .int .u8 2, .slice Ao 0 co, .slice Ab 25 cb] 27 (0, 0)) ∧ w.heap.size ≤ g2 ∧ Hid (g6 ≠ g2) ∧ Hid (g6 ≠ g1) ∧ Hid (g2 ≠ g1) ∧ Sl W (some ⟨g6, 0, none⟩) (4) (4) ([1, 1, 1, 0]) ∧ Av (some ⟨g6, 0, none⟩) (4) g2 ∧ Av (some ⟨g6, 0, none⟩) (4) g1 ∧ Sl W (some ⟨g7, 0, none⟩) (1) (1) ([120]) ∧ Av (some ⟨g7, 0, none⟩) (1) g6 ∧ Av (some ⟨g7, 0, none⟩) (1) g2 ∧ Av (some ⟨g7, 0, none⟩) (1) g1 ∧ Sl W (Ab) (25) (cb) (tcBytes 10 0 0 1 10 0 0 2 5 6 7 0 18 100 0 [1, 1, 1, 0] [120]) ∧ Av (Ab) (25) g6 ∧ Av (Ab) (25) g2 ∧ Av (Ab) (25) g1 ∧ Below w.heap.size w W)
  case first =>
    replace bel := bel.drew
    replace hb6 : w5.drew.heap[g6]? = _ := hb6
    replace hs : w5.drew.heap[g1]? = _ := hs
    replace sq := sq.drew
    replace sqw : w5.drew.ownsRow _ _ _ _ _ _ := sqw
    replace lz_sq : _ ≤ w5.drew.heap.size := lz_sq
    replace sx := sx.drew
    refine wp_region_held_drew (S := fun W => W.heap[g1]? = some (.cells #[.int .i64 5, .int .i64 6, .int .u32 7, .int .u32 0, .int .i64 18, .int .i64 100, .int .i64 0, .slice (some ⟨g6, 0, none⟩) 4 4, .slice (some ⟨g7, 0, none⟩) 1 1] 34 (0, 0))) (by kernel_rfl) hs (fun hH => ?_)
    generalize w5.drew = w6 at bel hb6 hs sq sx sqw lz_sq hH ⊢
    refine wpAnyH_take (i := 1) (v := .agg #[.int .i64 5, .int .i64 6, .int .u32 7, .int .u32 0, .int .i64 18, .int .i64 100, .int .i64 0, .slice (some ⟨g6, 0, none⟩) 4 4, .slice (some ⟨g7, 0, none⟩) 1 1]) rfl (by kernel_rfl) (by kernel_rfl) (by kernel_rfl) (fun _ _ _ h => h) (yieldsIf_load_part (by kernel_rfl) 34 _ rfl g1 0 9 rfl _ 34 (0, 0) (fun W hW => hW) _ rfl _ Try.underlying34 rfl (by kernel_rfl)) hH ?_
    simp only [Act.put, List.getElem_toArray, List.getElem_cons_zero, List.getElem_cons_succ, List.setIfInBounds_toArray, List.set_cons_zero, List.set_cons_succ]
    refine wpAnyH_ready (rs := [0, 6]) (by kernel_rfl) (by simp) ?_
    refine AllReadyH.cons (o := _) rfl (fun K hK => ?_) (AllReadyH.cons (o := _) rfl (fun K hK => ?_) AllReadyH.nil)
    · simp only [List.getElem_toArray, List.getElem_cons_zero]
      go_simp
      with_reducible refine (base8 _).mono ?_
      rintro e w7 ⟨rfl, b7⟩
      dsimp only
      replace hb6 := blk_u hb6 b7
      replace hs := blk_u hs b7
      replace sq := sq.below b7
      replace sqw := own_under sqw b7
      replace sx := sx.below b7
      replace lz_sq := Nat.le_trans lz_sq b7.size
      replace bel := bel.trans (b7.mono bel.size)
      clear b7
      refine hK.out _ _ hs (fun hH8 => ?_)
      clear hK K
      refine wpAnyH_ready (rs := [2, 6]) (by kernel_rfl) (by simp) ?_
      refine AllReadyH.cons (o := _) rfl (fun K hK => ?_) (AllReadyH.cons (o := _) rfl (fun K hK => ?_) AllReadyH.nil)
      · simp only [List.getElem_toArray, List.getElem_cons_zero, List.getElem_cons_succ]
        go_simp
        with_reducible refine (kput_ok 5 6 7 0 18 100 0 _ 4 4 _ 1 1 [1, 1, 1, 0] [120] _ sq sx (by decide) (by omega) (by decide) (by decide) (by decide) (by decide)).mono ?_
        rintro e w9 ⟨Ao, co, Ab, cb, rfl, _, pb, fb, b9⟩
        dsimp only
        have av_pb_b6 := fb.av (hlt hb6)
        have av_pb_s := fb.av (hlt hs)
        replace hb6 := blk_u hb6 b9
        replace hs := blk_u hs b9
        replace sq := sq.below b9
        replace sqw := own_under sqw b9
        replace sx := sx.below b9
        replace lz_sq := Nat.le_trans lz_sq b9.size
        replace bel := bel.trans (b9.mono bel.size)
        clear b9
        replace pb : Sl w9 (Ab) (25) (cb) (tcBytes 10 0 0 1 10 0 0 2 5 6 7 0 18 100 0 [1, 1, 1, 0] [120]) := pb
        refine hK.out _ _ hs (fun hH10 => ?_)
        clear hK K
        refine wpAnyH_take (i := 3) (v := ?_) rfl (by kernel_rfl) (by kernel_rfl) (by kernel_rfl) (fun _ _ _ h => h) (Or.inl ⟨by rfl, ?_⟩) hH10 ?_
        rotate_left
        · ((intro W hW; clear hW; go_simp) <;> with_reducible rfl)
        simp only [Act.put, List.getElem_toArray, List.getElem_cons_zero, List.getElem_cons_succ, List.setIfInBounds_toArray, List.set_cons_zero, List.set_cons_succ]
        refine wpAnyH_take (i := 4) (v := ?_) rfl (by kernel_rfl) (by kernel_rfl) (by kernel_rfl) (fun _ _ _ h => h) (Or.inl ⟨by rfl, ?_⟩) hH10 ?_
        rotate_left
        · ((intro W hW; clear hW; go_simp) <;> with_reducible rfl)
        simp only [Act.put, List.getElem_toArray, List.getElem_cons_zero, List.getElem_cons_succ, List.setIfInBounds_toArray, List.set_cons_zero, List.set_cons_succ]
        refine wpAnyH_take (i := 5) (v := ?_) rfl (by kernel_rfl) (by kernel_rfl) (by kernel_rfl) (fun _ _ _ h => h) (Or.inl ⟨by rfl, ?_⟩) hH10 ?_
        rotate_left
        · ((intro W hW; clear hW; go_simp) <;> with_reducible rfl)
        simp only [Act.put, List.getElem_toArray, List.getElem_cons_zero, List.getElem_cons_succ, List.setIfInBounds_toArray, List.set_cons_zero, List.set_cons_succ]
        refine wpAnyH_ready (rs := [6]) (by kernel_rfl) (by simp) ?_
        refine AllReadyH.cons (o := _) rfl (fun K hK => ?_) AllReadyH.nil
        simp only [List.getElem_toArray, List.getElem_cons_zero, List.getElem_cons_succ]
        rw [if_pos (by rfl)]
        refine wp_new_a 27 rfl #[.int .i64 0, .int .i64 0, .int .i64 0, .int .i64 0, .int .i64 0, .int .i64 0, .int .u8 0, .int .u8 0, .int .u8 0, .int .u8 0, .int .u8 0, .int .u8 0, .int .u8 0, .int .u8 0, .slice none 0 0, .slice none 0 0] (by kernel_rfl) ?_
        intro g2 w11 ge hh bb
        have d_b6_p := ne_new (hlt hb6) ge
        have d_s_p := ne_new (hlt hs) ge
        have av_sq_p := sq.av_new ge
        have of_sq_p := own_new sqw ge
        have av_sx_p := sx.av_new ge
        have av_pb_p := pb.av_new ge
        have op := Nat.le_trans bel.size ge
        replace hb6 := blk_u hb6 bb
        replace hs := blk_u hs bb
        replace sq := sq.below bb
        replace sqw := own_under sqw bb
        replace sx := sx.below bb
        replace pb := pb.below bb
        replace lz_sq := Nat.le_trans lz_sq bb.size
        replace bel := bel.trans (bb.mono bel.size)
        have hp := hh
        clear hh ge bb
        refine hK.out _ _ hs (fun hH12 => ?_)
        clear hK K
        simp only [Act.put, List.setIfInBounds_toArray, List.set_cons_zero, List.set_cons_succ]
        refine wpAnyH_ready (rs := [7]) (by kernel_rfl) (by simp) ?_
        refine AllReadyH.cons (o := _) rfl (fun K hK => ?_) AllReadyH.nil
        simp only [List.getElem_toArray, List.getElem_cons_zero, List.getElem_cons_succ]
        rw [if_pos (by rfl)]
        refine wp_store_blk 27 (.tmp 2) (.tmp 14) rfl g2 rfl _ rfl _ 27 hp (by rfl) (by kernel_rfl) (by kernel_rfl) ?_
        intro w13 hq gr
        replace sq := sq.away av_sq_p gr
        replace sqw := own_off sqw of_sq_p gr
        replace sx := sx.away av_sx_p gr
        replace pb := pb.away av_pb_p gr
        replace lz_sq := Nat.le_trans lz_sq gr.size
        replace hb6 := blk_a hb6 gr d_b6_p
        replace hs := blk_a hs gr d_s_p
        replace bel := below_grown bel gr op bel.size
        clear hp
        have hp := hq
        clear hq gr
        refine hK.out _ _ hs (fun hH14 => ?_)
        clear hK K
        simp only [Act.put]
        refine wpAnyH_take (i := 8) (v := ?_) rfl (by kernel_rfl) (by kernel_rfl) (by kernel_rfl) (fun _ _ _ h => h) (Or.inl ⟨by rfl, ?_⟩) hH14 ?_
        rotate_left
        · ((intro W hW; clear hW; go_simp) <;> with_reducible rfl)
        simp only [Act.put, List.getElem_toArray, List.getElem_cons_zero, List.getElem_cons_succ, List.setIfInBounds_toArray, List.set_cons_zero, List.set_cons_succ]
        refine wpAnyH_done (by kernel_rfl) ?_ _
        go_wp2_with fail
        go_meet
        case rel => exact ⟨g2, Ab, cb, Ao, co, rfl, rfl, hb6, hs, hp, op, d_b6_p, d_b6_s, (ne_symm d_s_p), sq, av_sq_p, av_sq_s, sx, av_sx_b6, av_sx_p, av_sx_s, pb, av_pb_b6, av_pb_p, av_pb_s, bel⟩
      · simp only [List.getElem_toArray, List.getElem_cons_zero, List.getElem_cons_succ]
        rw [if_pos (by rfl)]
        refine wp_new_a 27 rfl #[.int .i64 0, .int .i64 0, .int .i64 0, .int .i64 0, .int .i64 0, .int .i64 0, .int .u8 0, .int .u8 0, .int .u8 0, .int .u8 0, .int .u8 0, .int .u8 0, .int .u8 0, .int .u8 0, .slice none 0 0, .slice none 0 0] (by kernel_rfl) ?_
        intro g2 w9 ge hh bb
        have d_b6_p := ne_new (hlt hb6) ge
        have d_s_p := ne_new (hlt hs) ge
        have av_sq_p := sq.av_new ge
        have of_sq_p := own_new sqw ge
        have av_sx_p := sx.av_new ge
        have op := Nat.le_trans bel.size ge
        replace hb6 := blk_u hb6 bb
        replace hs := blk_u hs bb
        replace sq := sq.below bb
        replace sqw := own_under sqw bb
        replace sx := sx.below bb
        replace lz_sq := Nat.le_trans lz_sq bb.size
        replace bel := bel.trans (bb.mono bel.size)
        have hp := hh
        clear hh ge bb
        refine hK.out _ _ hs (fun hH10 => ?_)
        clear hK K
        simp only [Act.put, List.setIfInBounds_toArray, List.set_cons_zero, List.set_cons_succ]
        refine wpAnyH_ready (rs := [2]) (by kernel_rfl) (by simp) ?_
        refine AllReadyH.cons (o := _) rfl (fun K hK => ?_) AllReadyH.nil
        simp only [List.getElem_toArray, List.getElem_cons_zero, List.getElem_cons_succ]
        go_simp
        with_reducible refine (kput_ok 5 6 7 0 18 100 0 _ 4 4 _ 1 1 [1, 1, 1, 0] [120] _ sq sx (by decide) (by omega) (by decide) (by decide) (by decide) (by decide)).mono ?_
        rintro e w11 ⟨Ao, co, Ab, cb, rfl, _, pb, fb, b11⟩
        dsimp only
        have av_pb_b6 := fb.av (hlt hb6)
        have av_pb_s := fb.av (hlt hs)
        have av_pb_p := fb.av (hlt hp)
        replace hb6 := blk_u hb6 b11
        replace hs := blk_u hs b11
        replace hp := blk_u hp b11
        replace sq := sq.below b11
        replace sqw := own_under sqw b11
        replace sx := sx.below b11
        replace lz_sq := Nat.le_trans lz_sq b11.size
        replace bel := bel.trans (b11.mono bel.size)
        clear b11
        replace pb : Sl w11 (Ab) (25) (cb) (tcBytes 10 0 0 1 10 0 0 2 5 6 7 0 18 100 0 [1, 1, 1, 0] [120]) := pb
        refine hK.out _ _ hs (fun hH12 => ?_)
        clear hK K
        refine wpAnyH_take (i := 3) (v := ?_) rfl (by kernel_rfl) (by kernel_rfl) (by kernel_rfl) (fun _ _ _ h => h) (Or.inl ⟨by rfl, ?_⟩) hH12 ?_
        rotate_left
        · ((intro W hW; clear hW; go_simp) <;> with_reducible rfl)
        simp only [Act.put, List.getElem_toArray, List.getElem_cons_zero, List.getElem_cons_succ, List.setIfInBounds_toArray, List.set_cons_zero, List.set_cons_succ]
        refine wpAnyH_take (i := 4) (v := ?_) rfl (by kernel_rfl) (by kernel_rfl) (by kernel_rfl) (fun _ _ _ h => h) (Or.inl ⟨by rfl, ?_⟩) hH12 ?_
        rotate_left
        · ((intro W hW; clear hW; go_simp) <;> with_reducible rfl)
        simp only [Act.put, List.getElem_toArray, List.getElem_cons_zero, List.getElem_cons_succ, List.setIfInBounds_toArray, List.set_cons_zero, List.set_cons_succ]
        refine wpAnyH_take (i := 5) (v := ?_) rfl (by kernel_rfl) (by kernel_rfl) (by kernel_rfl) (fun _ _ _ h => h) (Or.inl ⟨by rfl, ?_⟩) hH12 ?_
        rotate_left
        · ((intro W hW; clear hW; go_simp) <;> with_reducible rfl)
        simp only [Act.put, List.getElem_toArray, List.getElem_cons_zero, List.getElem_cons_succ, List.setIfInBounds_toArray, List.set_cons_zero, List.set_cons_succ]
        refine wpAnyH_ready (rs := [7]) (by kernel_rfl) (by simp) ?_
        refine AllReadyH.cons (o := _) rfl (fun K hK => ?_) AllReadyH.nil
        simp only [List.getElem_toArray, List.getElem_cons_zero, List.getElem_cons_succ]
        rw [if_pos (by rfl)]
        refine wp_store_blk 27 (.tmp 2) (.tmp 14) rfl g2 rfl _ rfl _ 27 hp (by rfl) (by kernel_rfl) (by kernel_rfl) ?_
        intro w13 hq gr
        replace sq := sq.away av_sq_p gr
        replace sqw := own_off sqw of_sq_p gr
        replace sx := sx.away av_sx_p gr
        replace pb := pb.away av_pb_p gr
        replace lz_sq := Nat.le_trans lz_sq gr.size
        replace hb6 := blk_a hb6 gr d_b6_p
        replace hs := blk_a hs gr d_s_p
        replace bel := below_grown bel gr op bel.size
        clear hp
        have hp := hq
        clear hq gr
        refine hK.out _ _ hs (fun hH14 => ?_)
        clear hK K
        simp only [Act.put]
        refine wpAnyH_take (i := 8) (v := ?_) rfl (by kernel_rfl) (by kernel_rfl) (by kernel_rfl) (fun _ _ _ h => h) (Or.inl ⟨by rfl, ?_⟩) hH14 ?_
        rotate_left
        · ((intro W hW; clear hW; go_simp) <;> with_reducible rfl)
        simp only [Act.put, List.getElem_toArray, List.getElem_cons_zero, List.getElem_cons_succ, List.setIfInBounds_toArray, List.set_cons_zero, List.set_cons_succ]
        refine wpAnyH_done (by kernel_rfl) ?_ _
        go_wp2_with fail
        go_meet
        case rel => exact ⟨g2, Ab, cb, Ao, co, rfl, rfl, hb6, hs, hp, op, d_b6_p, d_b6_s, (ne_symm d_s_p), sq, av_sq_p, av_sq_s, sx, av_sx_b6, av_sx_p, av_sx_s, pb, av_pb_b6, av_pb_p, av_pb_s, bel⟩
    · simp only [List.getElem_toArray, List.getElem_cons_zero, List.getElem_cons_succ]
      rw [if_pos (by rfl)]
      refine wp_new_a 27 rfl #[.int .i64 0, .int .i64 0, .int .i64 0, .int .i64 0, .int .i64 0, .int .i64 0, .int .u8 0, .int .u8 0, .int .u8 0, .int .u8 0, .int .u8 0, .int .u8 0, .int .u8 0, .int .u8 0, .slice none 0 0, .slice none 0 0] (by kernel_rfl) ?_
      intro g2 w7 ge hh bb
      have d_b6_p := ne_new (hlt hb6) ge
      have d_s_p := ne_new (hlt hs) ge
      have av_sq_p := sq.av_new ge
      have of_sq_p := own_new sqw ge
      have av_sx_p := sx.av_new ge
      have op := Nat.le_trans bel.size ge
      replace hb6 := blk_u hb6 bb
      replace hs := blk_u hs bb
      replace sq := sq.below bb
      replace sqw := own_under sqw bb
      replace sx := sx.below bb
      replace lz_sq := Nat.le_trans lz_sq bb.size
      replace bel := bel.trans (bb.mono bel.size)
      have hp := hh
      clear hh ge bb
      refine hK.out _ _ hs (fun hH8 => ?_)
      clear hK K
      simp only [Act.put, List.setIfInBounds_toArray, List.set_cons_zero, List.set_cons_succ]
      refine wpAnyH_ready (rs := [0]) (by kernel_rfl) (by simp) ?_
      refine AllReadyH.cons (o := _) rfl (fun K hK => ?_) AllReadyH.nil
      simp only [List.getElem_toArray, List.getElem_cons_zero]
      go_simp
      with_reducible refine (base8 _).mono ?_
      rintro e w9 ⟨rfl, b9⟩
      dsimp only
      replace hb6 := blk_u hb6 b9
      replace hs := blk_u hs b9
      replace hp := blk_u hp b9
      replace sq := sq.below b9
      replace sqw := own_under sqw b9
      replace sx := sx.below b9
      replace lz_sq := Nat.le_trans lz_sq b9.size
      replace bel := bel.trans (b9.mono bel.size)
      clear b9
      refine hK.out _ _ hs (fun hH10 => ?_)
      clear hK K
      refine wpAnyH_ready (rs := [2]) (by kernel_rfl) (by simp) ?_
      refine AllReadyH.cons (o := _) rfl (fun K hK => ?_) AllReadyH.nil
      simp only [List.getElem_toArray, List.getElem_cons_zero, List.getElem_cons_succ]
      go_simp
      with_reducible refine (kput_ok 5 6 7 0 18 100 0 _ 4 4 _ 1 1 [1, 1, 1, 0] [120] _ sq sx (by decide) (by omega) (by decide) (by decide) (by decide) (by decide)).mono ?_
      rintro e w11 ⟨Ao, co, Ab, cb, rfl, _, pb, fb, b11⟩
      dsimp only
      have av_pb_b6 := fb.av (hlt hb6)
      have av_pb_s := fb.av (hlt hs)
      have av_pb_p := fb.av (hlt hp)
      replace hb6 := blk_u hb6 b11
      replace hs := blk_u hs b11
      replace hp := blk_u hp b11
      replace sq := sq.below b11
      replace sqw := own_under sqw b11
      replace sx := sx.below b11
      replace lz_sq := Nat.le_trans lz_sq b11.size
      replace bel := bel.trans (b11.mono bel.size)
      clear b11
      replace pb : Sl w11 (Ab) (25) (cb) (tcBytes 10 0 0 1 10 0 0 2 5 6 7 0 18 100 0 [1, 1, 1, 0] [120]) := pb
      refine hK.out _ _ hs (fun hH12 => ?_)
      clear hK K
      refine wpAnyH_take (i := 3) (v := ?_) rfl (by kernel_rfl) (by kernel_rfl) (by kernel_rfl) (fun _ _ _ h => h) (Or.inl ⟨by rfl, ?_⟩) hH12 ?_
      rotate_left
      · ((intro W hW; clear hW; go_simp) <;> with_reducible rfl)
      simp only [Act.put, List.getElem_toArray, List.getElem_cons_zero, List.getElem_cons_succ, List.setIfInBounds_toArray, List.set_cons_zero, List.set_cons_succ]
      refine wpAnyH_take (i := 4) (v := ?_) rfl (by kernel_rfl) (by kernel_rfl) (by kernel_rfl) (fun _ _ _ h => h) (Or.inl ⟨by rfl, ?_⟩) hH12 ?_
      rotate_left
      · ((intro W hW; clear hW; go_simp) <;> with_reducible rfl)
      simp only [Act.put, List.getElem_toArray, List.getElem_cons_zero, List.getElem_cons_succ, List.setIfInBounds_toArray, List.set_cons_zero, List.set_cons_succ]
      refine wpAnyH_take (i := 5) (v := ?_) rfl (by kernel_rfl) (by kernel_rfl) (by kernel_rfl) (fun _ _ _ h => h) (Or.inl ⟨by rfl, ?_⟩) hH12 ?_
      rotate_left
      · ((intro W hW; clear hW; go_simp) <;> with_reducible rfl)
      simp only [Act.put, List.getElem_toArray, List.getElem_cons_zero, List.getElem_cons_succ, List.setIfInBounds_toArray, List.set_cons_zero, List.set_cons_succ]
      refine wpAnyH_ready (rs := [7]) (by kernel_rfl) (by simp) ?_
      refine AllReadyH.cons (o := _) rfl (fun K hK => ?_) AllReadyH.nil
      simp only [List.getElem_toArray, List.getElem_cons_zero, List.getElem_cons_succ]
      rw [if_pos (by rfl)]
      refine wp_store_blk 27 (.tmp 2) (.tmp 14) rfl g2 rfl _ rfl _ 27 hp (by rfl) (by kernel_rfl) (by kernel_rfl) ?_
      intro w13 hq gr
      replace sq := sq.away av_sq_p gr
      replace sqw := own_off sqw of_sq_p gr
      replace sx := sx.away av_sx_p gr
      replace pb := pb.away av_pb_p gr
      replace lz_sq := Nat.le_trans lz_sq gr.size
      replace hb6 := blk_a hb6 gr d_b6_p
      replace hs := blk_a hs gr d_s_p
      replace bel := below_grown bel gr op bel.size
      clear hp
      have hp := hq
      clear hq gr
      refine hK.out _ _ hs (fun hH14 => ?_)
      clear hK K
      simp only [Act.put]
      refine wpAnyH_take (i := 8) (v := ?_) rfl (by kernel_rfl) (by kernel_rfl) (by kernel_rfl) (fun _ _ _ h => h) (Or.inl ⟨by rfl, ?_⟩) hH14 ?_
      rotate_left
      · ((intro W hW; clear hW; go_simp) <;> with_reducible rfl)
      simp only [Act.put, List.getElem_toArray, List.getElem_cons_zero, List.getElem_cons_succ, List.setIfInBounds_toArray, List.set_cons_zero, List.set_cons_succ]
      refine wpAnyH_done (by kernel_rfl) ?_ _
      go_wp2_with fail
      go_meet
      case rel => exact ⟨g2, Ab, cb, Ao, co, rfl, rfl, hb6, hs, hp, op, d_b6_p, d_b6_s, (ne_symm d_s_p), sq, av_sq_p, av_sq_s, sx, av_sx_b6, av_sx_p, av_sx_s, pb, av_pb_b6, av_pb_p, av_pb_s, bel⟩
  obtain ⟨w15, hw_⟩ : ∃ x, x = wc := ⟨_, rfl⟩
  subst hw_
  obtain ⟨g2, Ab, cb, Ao, co, rfl, rfl, hb6, hs, hp, op, d_b6_p, d_b6_s, d_p_s, sq, av_sq_p, av_sq_s, sx, av_sx_b6, av_sx_p, av_sx_s, pb, av_pb_b6, av_pb_p, av_pb_s, bel⟩ := hcut
  have R17 := Lib.hid (range_lit hp 0 16 [.int .i64 0, .int .i64 0, .int .i64 0, .int .i64 0, .int .i64 64, .int .i64 6, .int .u8 10, .int .u8 0, .int .u8 0, .int .u8 1, .int .u8 10, .int .u8 0, .int .u8 0, .int .u8 2, .slice Ao 0 co, .slice Ab 25 cb] rfl)
  go_wp2_with (first | ((with_reducible show wpList _ _ _ (⟨some 17, _, _, _, _, _⟩ :: _) _ _); refine wpList_load_rng 27 (.tmp 2) rfl (by kernel_rfl) _ _ rfl _ R17.out _ Try.underlying27 rfl (by kernel_rfl) ?_))
  try clear R17
  with_reducible refine (kget _ _ _ _ _ 25 _ 5 6 7 0 18 100 0 [1, 1, 1, 0] [120] _ pb (by omega) (tc_back (by decide) 10 0 0 1 10 0 0 2 [1, 1, 1, 0] [120] (by decide) (by decide) (by decide) (by decide) (by decide))).mono ?_
  rintro e w16 ⟨Aq, cq, Ad, cd, rfl, qb, db, fq, fd, b16⟩
  have av_qb_b6 := fq.av (hlt hb6)
  have av_qb_s := fq.av (hlt hs)
  have av_qb_p := fq.av (hlt hp)
  have av_db_b6 := fd.av (hlt hb6)
  have av_db_s := fd.av (hlt hs)
  have av_db_p := fd.av (hlt hp)
  replace hb6 := blk_u hb6 b16
  replace hs := blk_u hs b16
  replace hp := blk_u hp b16
  replace sq := sq.below b16
  replace sx := sx.below b16
  replace pb := pb.below b16
  replace bel := bel.trans (b16.mono bel.size)
  clear b16
  replace qb : Sl w16 (Aq) (4) (cq) ([1, 1, 1, 0]) := qb
  replace db : Sl w16 (Ad) (1) (cd) ([120]) := db
  go_wp2_with (first | ((with_reducible show wpList _ _ _ (⟨some 4, _, _, _, _, _⟩ :: _) _ _); refine wpList_new_a rfl 34 rfl #[.int .i64 0, .int .i64 0, .int .u32 0, .int .u32 0, .int .i64 0, .int .i64 0, .int .i64 0, .slice none 0 0, .slice none 0 0] (by kernel_rfl) ?_; intro g4 w17 ge hh bb; have d_b6_d := ne_new (hlt hb6) ge; have d_s_d := ne_new (hlt hs) ge; have d_p_d := ne_new (hlt hp) ge; have av_sq_d := sq.av_new ge; have av_sx_d := sx.av_new ge; have av_pb_d := pb.av_new ge; have av_qb_d := qb.av_new ge; have av_db_d := db.av_new ge; have od := Nat.le_trans bel.size ge; replace hb6 := blk_u hb6 bb; replace hs := blk_u hs bb; replace hp := blk_u hp bb; replace sq := sq.below bb; replace sx := sx.below bb; replace pb := pb.below bb; replace qb := qb.below bb; replace db := db.below bb; replace bel := bel.trans (bb.mono bel.size); have hd := hh; clear hh ge bb) | ((with_reducible show wpList _ _ _ (⟨none, Op.store _ (.tmp 4) _, _, _, _, _⟩ :: _) _ _); refine wpList_store_blk rfl 34 (.tmp 4) (.tmp 19) rfl g4 rfl _ rfl _ 34 hd (by rfl) (by kernel_rfl) (by kernel_rfl) ?_; intro w18 hq gr; replace sq := sq.away av_sq_d gr; replace sx := sx.away av_sx_d gr; replace pb := pb.away av_pb_d gr; replace qb := qb.away av_qb_d gr; replace db := db.away av_db_d gr; replace hb6 := blk_a hb6 gr d_b6_d; replace hs := blk_a hs gr d_s_d; replace hp := blk_a hp gr d_p_d; replace bel := below_grown bel gr od bel.size; clear hd; have hd := hq; clear hq gr))
  replace bel := bel.drew
  replace hb6 : w18.drew.heap[g6]? = _ := hb6
  replace hs : w18.drew.heap[g1]? = _ := hs
  replace hp : w18.drew.heap[g2]? = _ := hp
  replace hd : w18.drew.heap[g4]? = _ := hd
  replace sq := sq.drew
  replace sx := sx.drew
  replace pb := pb.drew
  replace qb := qb.drew
  replace db := db.drew
  refine wp_region_held_drew (S := fun W => W.heap[g4]? = some (.cells #[.int .i64 5, .int .i64 6, .int .u32 7, .int .u32 0, .int .i64 18, .int .i64 100, .int .i64 0, .slice Aq 4 cq, .slice Ad 1 cd] 34 (0, 0)) ∧ W.heap[g1]? = some (.cells #[.int .i64 5, .int .i64 6, .int .u32 7, .int .u32 0, .int .i64 18, .int .i64 100, .int .i64 0, .slice (some ⟨g6, 0, none⟩) 4 4, .slice (some ⟨g7, 0, none⟩) 1 1] 34 (0, 0)) ∧ W.heap[g2]? = some (.cells #[.int .i64 0, .int .i64 0, .int .i64 0, .int .i64 0, .int .i64 64, .int .i64 6, .int .u8 10, .int .u8 0, .int .u8 0, .int .u8 1, .int .u8 10, .int .u8 0, .int .u8 0, .int .u8 2, .slice Ao 0 co, .slice Ab 25 cb] 27 (0, 0))) (by kernel_rfl) ⟨hd, hs, hp⟩ (fun hH => ?_)
  generalize w18.drew = w19 at bel hb6 hs hp hd sq sx pb qb db hH ⊢
  refine wpAnyH_take (i := 0) (v := ?_) rfl (by kernel_rfl) (by kernel_rfl) (by kernel_rfl) (fun _ _ _ h => h) (Or.inl ⟨by rfl, ?_⟩) hH ?_
  rotate_left
  · ((intro W hW; clear hW; go_simp) <;> with_reducible rfl)
  simp only [Act.put, List.getElem_toArray, List.getElem_cons_zero, List.setIfInBounds_toArray, List.set_cons_zero, List.set_cons_succ]
  refine wpAnyH_take (i := 1) (v := ?_) rfl (by kernel_rfl) (by kernel_rfl) (by kernel_rfl) (fun _ _ _ h => h) (Or.inl ⟨by rfl, ?_⟩) hH ?_
  rotate_left
  · ((intro W hW; clear hW; go_simp) <;> with_reducible rfl)
  simp only [Act.put, List.getElem_toArray, List.getElem_cons_zero, List.getElem_cons_succ, List.setIfInBounds_toArray, List.set_cons_zero, List.set_cons_succ]
  refine wpAnyH_take (i := 2) (v := ?_) rfl (by kernel_rfl) (by kernel_rfl) (by kernel_rfl) (fun _ _ _ h => h) (Or.inl ⟨by rfl, ?_⟩) hH ?_
  rotate_left
  · ((intro W hW; clear hW; go_simp) <;> with_reducible rfl)
  simp only [Act.put, List.getElem_toArray, List.getElem_cons_zero, List.getElem_cons_succ, List.setIfInBounds_toArray, List.set_cons_zero, List.set_cons_succ]
  refine wpAnyH_take (i := 3) (v := ?_) rfl (by kernel_rfl) (by kernel_rfl) (by kernel_rfl) (fun _ _ _ h => h) (Or.inl ⟨by rfl, ?_⟩) hH ?_
  rotate_left
  · ((intro W hW; clear hW; go_simp) <;> with_reducible rfl)
  simp only [Act.put, List.getElem_toArray, List.getElem_cons_zero, List.getElem_cons_succ, List.setIfInBounds_toArray, List.set_cons_zero, List.set_cons_succ]
  refine wpAnyH_take (i := 4) (v := ?_) rfl (by kernel_rfl) (by kernel_rfl) (by kernel_rfl) (fun _ _ _ h => h) (Or.inl ⟨by rfl, ?_⟩) hH ?_
  rotate_left
  · ((intro W hW; clear hW; go_simp) <;> with_reducible rfl)
  simp only [Act.put, List.getElem_toArray, List.getElem_cons_zero, List.getElem_cons_succ, List.setIfInBounds_toArray, List.set_cons_zero, List.set_cons_succ]
  refine wpAnyH_take (i := 5) (v := ?_) rfl (by kernel_rfl) (by kernel_rfl) (by kernel_rfl) (fun _ _ _ h => h) (Or.inl ⟨by rfl, ?_⟩) hH ?_
  rotate_left
  · ((intro W hW; clear hW; go_simp) <;> with_reducible rfl)
  simp only [Act.put, List.getElem_toArray, List.getElem_cons_zero, List.getElem_cons_succ, List.setIfInBounds_toArray, List.set_cons_zero, List.set_cons_succ]
  refine wpAnyH_take (i := 6) (v := ?_) rfl (by kernel_rfl) (by kernel_rfl) (by kernel_rfl) (fun _ _ _ h => h) (Or.inl ⟨by rfl, ?_⟩) hH ?_
  rotate_left
  · ((intro W hW; clear hW; go_simp) <;> with_reducible rfl)
  simp only [Act.put, List.getElem_toArray, List.getElem_cons_zero, List.getElem_cons_succ, List.setIfInBounds_toArray, List.set_cons_zero, List.set_cons_succ]
  refine wpAnyH_take (i := 7) (v := .agg #[.int .i64 5, .int .i64 6, .int .u32 7, .int .u32 0, .int .i64 18, .int .i64 100, .int .i64 0, .slice Aq 4 cq, .slice Ad 1 cd]) rfl (by kernel_rfl) (by kernel_rfl) (by kernel_rfl) (fun _ _ _ h => h) (yieldsIf_load_part (by kernel_rfl) 34 _ rfl g4 0 9 rfl _ 34 (0, 0) (fun W hW => hW.1) _ rfl _ Try.underlying34 rfl (by kernel_rfl)) hH ?_
  simp only [Act.put, List.getElem_toArray, List.getElem_cons_zero, List.getElem_cons_succ, List.setIfInBounds_toArray, List.set_cons_zero, List.set_cons_succ]
  refine wpAnyH_take (i := 8) (v := .agg #[.int .i64 5, .int .i64 6, .int .u32 7, .int .u32 0, .int .i64 18, .int .i64 100, .int .i64 0, .slice (some ⟨g6, 0, none⟩) 4 4, .slice (some ⟨g7, 0, none⟩) 1 1]) rfl (by kernel_rfl) (by kernel_rfl) (by kernel_rfl) (fun _ _ _ h => h) (yieldsIf_load_part (by kernel_rfl) 34 _ rfl g1 0 9 rfl _ 34 (0, 0) (fun W hW => hW.2.1) _ rfl _ Try.underlying34 rfl (by kernel_rfl)) hH ?_
  simp only [Act.put, List.getElem_toArray, List.getElem_cons_zero, List.getElem_cons_succ, List.setIfInBounds_toArray, List.set_cons_zero, List.set_cons_succ]
  refine wpAnyH_ready (rs := [9]) (by kernel_rfl) (by simp) ?_
  refine AllReadyH.cons (o := _) rfl (fun K hK => ?_) AllReadyH.nil
  simp only [List.getElem_toArray, List.getElem_cons_zero, List.getElem_cons_succ]
  go_simp
  with_reducible refine (seg8_any _ _ _ _ _ _ _ _ _ _ _ _ _ _).mono ?_
  rintro e w20 ⟨rfl, b20⟩
  dsimp only
  replace hb6 := blk_u hb6 b20
  replace hs := blk_u hs b20
  replace hp := blk_u hp b20
  replace hd := blk_u hd b20
  replace sq := sq.below b20
  replace sx := sx.below b20
  replace pb := pb.below b20
  replace qb := qb.below b20
  replace db := db.below b20
  replace bel := bel.trans (b20.mono bel.size)
  clear b20
  refine hK.out _ _ ⟨hd, hs, hp⟩ (fun hH21 => ?_)
  clear hK K
  refine wpAnyH_ready (rs := [10]) (by kernel_rfl) (by simp) ?_
  refine AllReadyH.cons (o := _) rfl (fun K hK => ?_) AllReadyH.nil
  simp only [List.getElem_toArray, List.getElem_cons_zero, List.getElem_cons_succ]
  go_simp
  with_reducible refine (same8_true _ _ _ _ _ _ _ _ _ _ _ _ _ _ _ _ _ _ _ _  qb db sq sx).mono ?_
  rintro e w22 ⟨rfl, b22⟩
  dsimp only
  replace hb6 := blk_u hb6 b22
  replace hs := blk_u hs b22
  replace hp := blk_u hp b22
  replace hd := blk_u hd b22
  replace sq := sq.below b22
  replace sx := sx.below b22
  replace pb := pb.below b22
  replace qb := qb.below b22
  replace db := db.below b22
  replace bel := bel.trans (b22.mono bel.size)
  clear b22
  refine hK.out _ _ ⟨hd, hs, hp⟩ (fun hH23 => ?_)
  clear hK K
  refine wpAnyH_take (i := 11) (v := ?_) rfl (by kernel_rfl) (by kernel_rfl) (by kernel_rfl) (fun _ _ _ h => h) (Or.inl ⟨by rfl, ?_⟩) hH23 ?_
  rotate_left
  · ((intro W hW; clear hW; go_simp) <;> with_reducible rfl)
  simp only [Act.put, List.getElem_toArray, List.getElem_cons_zero, List.getElem_cons_succ, List.setIfInBounds_toArray, List.set_cons_zero, List.set_cons_succ]
  refine wpAnyH_take (i := 12) (v := ?_) rfl (by kernel_rfl) (by kernel_rfl) (by kernel_rfl) (fun _ _ _ h => h) (Or.inl ⟨by rfl, ?_⟩) hH23 ?_
  rotate_left
  · ((intro W hW; clear hW; go_simp) <;> with_reducible rfl)
  simp only [Act.put, List.getElem_toArray, List.getElem_cons_zero, List.getElem_cons_succ, List.setIfInBounds_toArray, List.set_cons_zero, List.set_cons_succ]
  refine wpAnyH_take (i := 13) (v := ?_) rfl (by kernel_rfl) (by kernel_rfl) (by kernel_rfl) (fun _ _ _ h => h) (Or.inl ⟨by rfl, ?_⟩) hH23 ?_
  rotate_left
  · ((intro W hW; clear hW; go_simp) <;> with_reducible rfl)
  simp only [Act.put, List.getElem_toArray, List.getElem_cons_zero, List.getElem_cons_succ, List.setIfInBounds_toArray, List.set_cons_zero, List.set_cons_succ]
  refine wpAnyH_take (i := 14) (v := ?_) rfl (by kernel_rfl) (by kernel_rfl) (by kernel_rfl) (fun _ _ _ h => h) (Or.inl ⟨by rfl, ?_⟩) hH23 ?_
  rotate_left
  · ((intro W hW; have hk := cell_lit (hW.2.2) 5 _ rfl; clear hW; go_simp) <;> with_reducible rfl)
  simp only [Act.put, List.getElem_toArray, List.getElem_cons_zero, List.getElem_cons_succ, List.setIfInBounds_toArray, List.set_cons_zero, List.set_cons_succ]
  refine wpAnyH_take (i := 15) (v := ?_) rfl (by kernel_rfl) (by kernel_rfl) (by kernel_rfl) (fun _ _ _ h => h) (Or.inl ⟨by rfl, ?_⟩) hH23 ?_
  rotate_left
  · ((intro W hW; clear hW; go_simp) <;> with_reducible rfl)
  simp only [Act.put, List.getElem_toArray, List.getElem_cons_zero, List.getElem_cons_succ, List.setIfInBounds_toArray, List.set_cons_zero, List.set_cons_succ]
  refine wpAnyH_take (i := 16) (v := ?_) rfl (by kernel_rfl) (by kernel_rfl) (by kernel_rfl) (fun _ _ _ h => h) (Or.inl ⟨by rfl, ?_⟩) hH23 ?_
  rotate_left
  · ((intro W hW; clear hW; go_simp) <;> with_reducible rfl)
  simp only [Act.put, List.getElem_toArray, List.getElem_cons_zero, List.getElem_cons_succ, List.setIfInBounds_toArray, List.set_cons_zero, List.set_cons_succ]
  refine wpAnyH_take (i := 17) (v := ?_) rfl (by kernel_rfl) (by kernel_rfl) (by kernel_rfl) (fun _ _ _ h => h) (Or.inl ⟨by rfl, ?_⟩) hH23 ?_
  rotate_left
  · ((intro W hW; clear hW; go_simp) <;> with_reducible rfl)
  simp only [Act.put, List.getElem_toArray, List.getElem_cons_zero, List.getElem_cons_succ, List.setIfInBounds_toArray, List.set_cons_zero, List.set_cons_succ]
  refine wpAnyH_take (i := 18) (v := ?_) rfl (by kernel_rfl) (by kernel_rfl) (by kernel_rfl) (fun _ _ _ h => h) (Or.inl ⟨by rfl, ?_⟩) hH23 ?_
  rotate_left
  · ((intro W hW; clear hW; go_simp) <;> with_reducible rfl)
  simp only [Act.put, List.getElem_toArray, List.getElem_cons_zero, List.getElem_cons_succ, List.setIfInBounds_toArray, List.set_cons_zero, List.set_cons_succ]
  refine wpAnyH_take (i := 19) (v := ?_) rfl (by kernel_rfl) (by kernel_rfl) (by kernel_rfl) (fun _ _ _ h => h) (Or.inl ⟨by rfl, ?_⟩) hH23 ?_
  rotate_left
  · ((intro W hW; have hk := cell_lit (hW.2.2) 15 _ rfl; clear hW; go_simp) <;> with_reducible rfl)
  simp only [Act.put, List.getElem_toArray, List.getElem_cons_zero, List.getElem_cons_succ, List.setIfInBounds_toArray, List.set_cons_zero, List.set_cons_succ]
  refine wpAnyH_take (i := 20) (v := ?_) rfl (by kernel_rfl) (by kernel_rfl) (by kernel_rfl) (fun _ _ _ h => h) (Or.inl ⟨by rfl, ?_⟩) hH23 ?_
  rotate_left
  · ((intro W hW; clear hW; go_simp) <;> with_reducible rfl)
  simp only [Act.put, List.getElem_toArray, List.getElem_cons_zero, List.getElem_cons_succ, List.setIfInBounds_toArray, List.set_cons_zero, List.set_cons_succ]
  refine wpAnyH_take (i := 21) (v := ?_) rfl (by kernel_rfl) (by kernel_rfl) (by kernel_rfl) (fun _ _ _ h => h) (Or.inl ⟨by rfl, ?_⟩) hH23 ?_
  rotate_left
  · ((intro W hW; clear hW; go_simp) <;> with_reducible rfl)
  simp only [Act.put, List.getElem_toArray, List.getElem_cons_zero, List.getElem_cons_succ, List.setIfInBounds_toArray, List.set_cons_zero, List.set_cons_succ]
  refine wpAnyH_take (i := 22) (v := ?_) rfl (by kernel_rfl) (by kernel_rfl) (by kernel_rfl) (fun _ _ _ h => h) (Or.inl ⟨by rfl, ?_⟩) hH23 ?_
  rotate_left
  · ((intro W hW; clear hW; go_simp) <;> with_reducible rfl)
  simp only [Act.put, List.getElem_toArray, List.getElem_cons_zero, List.getElem_cons_succ, List.setIfInBounds_toArray, List.set_cons_zero, List.set_cons_succ]
  refine wpAnyH_take (i := 23) (v := ?_) rfl (by kernel_rfl) (by kernel_rfl) (by kernel_rfl) (fun _ _ _ h => h) (Or.inl ⟨by rfl, ?_⟩) hH23 ?_
  rotate_left
  · ((intro W hW; clear hW; go_simp) <;> with_reducible rfl)
  simp only [Act.put, List.getElem_toArray, List.getElem_cons_zero, List.getElem_cons_succ, List.setIfInBounds_toArray, List.set_cons_zero]
  refine wpAnyH_done (by kernel_rfl) ?_ _
  go_wp2_with fail
  go_ret
  exact ⟨rfl, bel⟩
set_option linter.unusedVariables false in
set_option maxRecDepth 100000 in
set_option maxHeartbeats 16000000 in
theorem tcpReads_1 (tos id fl pt ttl pr : Int) (a0 a1 a2 a3 a4 a5 a6 a7 : UInt8) (So : Option Addr) (no co : Nat) (lo : List UInt8) (Sb : Option Addr) (nb cb : Nat) (lb : List UInt8) (w : World) (h1 : 1600 < nb) : Calls Try.prog 4 #[.agg #[.int .i64 tos, .int .i64 id, .int .i64 fl, .int .i64 pt, .int .i64 ttl, .int .i64 pr, .int .u8 (a0.toNat : Int), .int .u8 (a1.toNat : Int), .int .u8 (a2.toNat : Int), .int .u8 (a3.toNat : Int), .int .u8 (a4.toNat : Int), .int .u8 (a5.toNat : Int), .int .u8 (a6.toNat : Int), .int .u8 (a7.toNat : Int), .slice So no co, .slice Sb nb cb]] w fun e w' => e = .returned (.bool true) ∧ Below w.heap.size w w' := by
  have t1 : (1600 : Int) < nb := by omega
  clear h1
  have bel := Below.refl w.heap.size w
  go_enter Try.func4, Try.ntmps4
  go_wp2_with (first | ((with_reducible show wpList _ _ _ (⟨some 1, _, _, _, _, _⟩ :: _) _ _); refine wpList_box_n rfl 27 (.tmp 0) rfl #[.int .i64 tos, .int .i64 id, .int .i64 fl, .int .i64 pt, .int .i64 ttl, .int .i64 pr, .int .u8 (a0.toNat : Int), .int .u8 (a1.toNat : Int), .int .u8 (a2.toNat : Int), .int .u8 (a3.toNat : Int), .int .u8 (a4.toNat : Int), .int .u8 (a5.toNat : Int), .int .u8 (a6.toNat : Int), .int .u8 (a7.toNat : Int), .slice So no co, .slice Sb nb cb] rfl ?_; intro g1 w1 ge lt hh bb; have op := Nat.le_trans bel.size ge; replace bel := bel.trans (bb.mono bel.size); have hp := hh; clear hh lt ge bb))
  with_reducible refine (awake8 _).mono ?_
  rintro e w2 ⟨rfl, b2⟩
  replace hp := blk_u hp b2
  replace bel := bel.trans (b2.mono bel.size)
  clear b2
  have R10 := cell_lit hp 15 _ rfl
  go_wp2_with fail
  clear R10
  go_ret
  exact ⟨rfl, bel⟩
set_option linter.unusedVariables false in
set_option maxRecDepth 100000 in
set_option maxHeartbeats 16000000 in
theorem tcpReads_2 (tos id fl pt ttl pr : Int) (a0 a1 a2 a3 a4 a5 a6 a7 : UInt8) (So : Option Addr) (no co : Nat) (lo : List UInt8) (Sb : Option Addr) (nb cb : Nat) (lb : List UInt8) (w : World) (h1 : nb ≤ 1600) (h2 : 60 < no) : Calls Try.prog 4 #[.agg #[.int .i64 tos, .int .i64 id, .int .i64 fl, .int .i64 pt, .int .i64 ttl, .int .i64 pr, .int .u8 (a0.toNat : Int), .int .u8 (a1.toNat : Int), .int .u8 (a2.toNat : Int), .int .u8 (a3.toNat : Int), .int .u8 (a4.toNat : Int), .int .u8 (a5.toNat : Int), .int .u8 (a6.toNat : Int), .int .u8 (a7.toNat : Int), .slice So no co, .slice Sb nb cb]] w fun e w' => e = .returned (.bool true) ∧ Below w.heap.size w w' := by
  have t1 : decide ((1600 : Int) < nb) = false := decide_eq_false (by omega)
  have t2 : (60 : Int) < no := by omega
  clear h1 h2
  have bel := Below.refl w.heap.size w
  go_enter Try.func4, Try.ntmps4
  go_wp2_with (first | ((with_reducible show wpList _ _ _ (⟨some 1, _, _, _, _, _⟩ :: _) _ _); refine wpList_box_n rfl 27 (.tmp 0) rfl #[.int .i64 tos, .int .i64 id, .int .i64 fl, .int .i64 pt, .int .i64 ttl, .int .i64 pr, .int .u8 (a0.toNat : Int), .int .u8 (a1.toNat : Int), .int .u8 (a2.toNat : Int), .int .u8 (a3.toNat : Int), .int .u8 (a4.toNat : Int), .int .u8 (a5.toNat : Int), .int .u8 (a6.toNat : Int), .int .u8 (a7.toNat : Int), .slice So no co, .slice Sb nb cb] rfl ?_; intro g1 w1 ge lt hh bb; have op := Nat.le_trans bel.size ge; replace bel := bel.trans (bb.mono bel.size); have hp := hh; clear hh lt ge bb))
  with_reducible refine (awake8 _).mono ?_
  rintro e w2 ⟨rfl, b2⟩
  replace hp := blk_u hp b2
  replace bel := bel.trans (b2.mono bel.size)
  clear b2
  have R10 := cell_lit hp 15 _ rfl
  have R15 := cell_lit hp 14 _ rfl
  go_wp2_with fail
  clear R10 R15
  go_ret
  exact ⟨rfl, bel⟩
set_option linter.unusedVariables false in
set_option maxRecDepth 100000 in
set_option maxHeartbeats 16000000 in
theorem tcpReads_3 (tos id fl pt ttl pr : Int) (a0 a1 a2 a3 a4 a5 a6 a7 : UInt8) (So : Option Addr) (no co : Nat) (lo : List UInt8) (Sb : Option Addr) (nb cb : Nat) (lb : List UInt8) (w : World) (ho : Sl w So no co lo) (hb : Sl w Sb nb cb lb) (h1 : nb ≤ 1600) (h2 : no ≤ 60) : Calls Try.prog 4 #[.agg #[.int .i64 tos, .int .i64 id, .int .i64 fl, .int .i64 pt, .int .i64 ttl, .int .i64 pr, .int .u8 (a0.toNat : Int), .int .u8 (a1.toNat : Int), .int .u8 (a2.toNat : Int), .int .u8 (a3.toNat : Int), .int .u8 (a4.toNat : Int), .int .u8 (a5.toNat : Int), .int .u8 (a6.toNat : Int), .int .u8 (a7.toNat : Int), .slice So no co, .slice Sb nb cb]] w fun e w' => e = .returned (.bool true) ∧ Below w.heap.size w w' := by
  have t1 : decide ((1600 : Int) < nb) = false := decide_eq_false (by omega)
  have t2 : decide ((60 : Int) < no) = false := decide_eq_false (by omega)
  have H1 := Lib.hid h1
  clear h1 h2
  have bel := Below.refl w.heap.size w
  go_enter Try.func4, Try.ntmps4
  go_wp2_with (first | ((with_reducible show wpList _ _ _ (⟨some 1, _, _, _, _, _⟩ :: _) _ _); refine wpList_box_n rfl 27 (.tmp 0) rfl #[.int .i64 tos, .int .i64 id, .int .i64 fl, .int .i64 pt, .int .i64 ttl, .int .i64 pr, .int .u8 (a0.toNat : Int), .int .u8 (a1.toNat : Int), .int .u8 (a2.toNat : Int), .int .u8 (a3.toNat : Int), .int .u8 (a4.toNat : Int), .int .u8 (a5.toNat : Int), .int .u8 (a6.toNat : Int), .int .u8 (a7.toNat : Int), .slice So no co, .slice Sb nb cb] rfl ?_; intro g1 w1 ge lt hh bb; have av_ho_p := ho.av_new ge; have av_hb_p := hb.av_new ge; have op := Nat.le_trans bel.size ge; replace ho := ho.below bb; replace hb := hb.below bb; replace bel := bel.trans (bb.mono bel.size); have hp := hh; clear hh lt ge bb))
  with_reducible refine (awake8 _).mono ?_
  rintro e w2 ⟨rfl, b2⟩
  replace hp := blk_u hp b2
  replace ho := ho.below b2
  replace hb := hb.below b2
  replace bel := bel.trans (b2.mono bel.size)
  clear b2
  have R10 := cell_lit hp 15 _ rfl
  have R15 := cell_lit hp 14 _ rfl
  have R20 := Lib.hid (range_lit hp 0 16 [.int .i64 tos, .int .i64 id, .int .i64 fl, .int .i64 pt, .int .i64 ttl, .int .i64 pr, .int .u8 (a0.toNat : Int), .int .u8 (a1.toNat : Int), .int .u8 (a2.toNat : Int), .int .u8 (a3.toNat : Int), .int .u8 (a4.toNat : Int), .int .u8 (a5.toNat : Int), .int .u8 (a6.toNat : Int), .int .u8 (a7.toNat : Int), .slice So no co, .slice Sb nb cb] rfl)
  go_wp2_with (first | ((with_reducible show wpList _ _ _ (⟨some 20, _, _, _, _, _⟩ :: _) _ _); refine wpList_load_rng 27 (.tmp 1) rfl (by kernel_rfl) _ _ rfl _ R20.out _ Try.underlying27 rfl (by kernel_rfl) ?_))
  try clear R10
  try clear R15
  try clear R20
  with_reducible refine (tcget_any _ _ _ _ _ _ _ _ _ _ _ _ _ _ _ _ _ _ _ _ _ _ hb (by have := H1.out; omega)).mono ?_
  rintro e w3 ⟨y10, y11, y12, y13, y14, y15, y16, lq1, lb1, A1, B1, c1, d1, er1, rfl, s1, z1, fa1, ga1, b3, q1⟩
  have av_s1_p := fa1.av (hlt hp)
  have av_z1_p := ga1.av (hlt hp)
  replace hp := blk_u hp b3
  replace ho := ho.below b3
  replace hb := hb.below b3
  replace bel := bel.trans (b3.mono bel.size)
  clear b3
  replace s1 : Sl w3 (A1) (lq1.length) (c1) (lq1) := s1
  replace z1 : Sl w3 (B1) (lb1.length) (d1) (lb1) := z1
  go_wp2_with (first | ((with_reducible show wpList _ _ _ (⟨some 3, _, _, _, _, _⟩ :: _) _ _); refine wpList_new_a rfl 34 rfl #[.int .i64 0, .int .i64 0, .int .u32 0, .int .u32 0, .int .i64 0, .int .i64 0, .int .i64 0, .slice none 0 0, .slice none 0 0] (by kernel_rfl) ?_; intro g3 w4 ge hh bb; have d_p_d := ne_new (hlt hp) ge; have av_ho_d := ho.av_new ge; have av_hb_d := hb.av_new ge; have av_s1_d := s1.av_new ge; have av_z1_d := z1.av_new ge; have od := Nat.le_trans bel.size ge; replace hp := blk_u hp bb; replace ho := ho.below bb; replace hb := hb.below bb; replace s1 := s1.below bb; replace z1 := z1.below bb; replace bel := bel.trans (bb.mono bel.size); have hd := hh; clear hh ge bb) | ((with_reducible show wpList _ _ _ (⟨none, Op.store _ (.tmp 3) _, _, _, _, _⟩ :: _) _ _); refine wpList_store_blk rfl 34 (.tmp 3) (.tmp 22) rfl g3 rfl _ rfl _ 34 hd (by rfl) (by kernel_rfl) (by kernel_rfl) ?_; intro w5 hq gr; replace ho := ho.away av_ho_d gr; replace hb := hb.away av_hb_d gr; replace s1 := s1.away av_s1_d gr; replace z1 := z1.away av_z1_d gr; replace hp := blk_a hp gr d_p_d; replace bel := below_grown bel gr od bel.size; clear hd; have hd := hq; clear hq gr; have R25 := Lib.hid (range_lit hp 0 16 [.int .i64 tos, .int .i64 id, .int .i64 fl, .int .i64 pt, .int .i64 ttl, .int .i64 pr, .int .u8 (a0.toNat : Int), .int .u8 (a1.toNat : Int), .int .u8 (a2.toNat : Int), .int .u8 (a3.toNat : Int), .int .u8 (a4.toNat : Int), .int .u8 (a5.toNat : Int), .int .u8 (a6.toNat : Int), .int .u8 (a7.toNat : Int), .slice So no co, .slice Sb nb cb] rfl)) | ((with_reducible show wpList _ _ _ (⟨some 25, _, _, _, _, _⟩ :: _) _ _); refine wpList_load_rng 27 (.tmp 1) rfl (by kernel_rfl) _ _ rfl _ R25.out _ Try.underlying27 rfl (by kernel_rfl) ?_))
  try clear R25
  with_reducible refine (own8_any _ _ _ _ _ _ _ _ _ _ _ _ _ _ _ _ _ _ _ _ _).mono ?_
  rintro e w6 ⟨rfl, b6⟩
  replace hp := blk_u hp b6
  replace hd := blk_u hd b6
  replace ho := ho.below b6
  replace hb := hb.below b6
  replace s1 := s1.below b6
  replace z1 := z1.below b6
  replace bel := bel.trans (b6.mono bel.size)
  clear b6
  go_wp2_with fail
  with_reducible refine (rtcget_any _ _ _ _ _ _ _ _ _ _ _ _ _ _ _ _ _ _ _ _ _ _ hb (by have := H1.out; omega)).mono ?_
  rintro e w7 ⟨y20, y21, y22, y23, y24, y25, y26, lq2, lb2, A2, B2, c2, d2, er2, rfl, s2, z2, fa2, ga2, b7, q2⟩
  have av_s2_p := fa2.av (hlt hp)
  have av_s2_d := fa2.av (hlt hd)
  have av_z2_p := ga2.av (hlt hp)
  have av_z2_d := ga2.av (hlt hd)
  replace hp := blk_u hp b7
  replace hd := blk_u hd b7
  replace ho := ho.below b7
  replace hb := hb.below b7
  replace s1 := s1.below b7
  replace z1 := z1.below b7
  replace bel := bel.trans (b7.mono bel.size)
  clear b7
  have hh := q1.trans q2.symm
  simp only [Prod.mk.injEq, List.cons.injEq, and_true] at hh
  obtain ⟨⟨rfl, rfl, rfl, rfl, rfl, rfl, rfl⟩, ⟨rfl, rfl⟩, rfl⟩ := hh
  clear q1 q2
  go_wp2_with (first | ((with_reducible show wpList _ _ _ (⟨some 5, _, _, _, _, _⟩ :: _) _ _); refine wpList_new_a rfl 37 rfl #[.int .i64 0, .int .i64 0, .int .u32 0, .int .u32 0, .int .i64 0, .int .i64 0, .int .i64 0, .slice none 0 0, .slice none 0 0] (by kernel_rfl) ?_; intro g5 w8 ge hh bb; have d_p_r := ne_new (hlt hp) ge; have d_d_r := ne_new (hlt hd) ge; have av_ho_r := ho.av_new ge; have av_hb_r := hb.av_new ge; have av_s1_r := s1.av_new ge; have av_z1_r := z1.av_new ge; have av_s2_r := s2.av_new ge; have av_z2_r := z2.av_new ge; have or := Nat.le_trans bel.size ge; replace hp := blk_u hp bb; replace hd := blk_u hd bb; replace ho := ho.below bb; replace hb := hb.below bb; replace s1 := s1.below bb; replace z1 := z1.below bb; replace s2 := s2.below bb; replace z2 := z2.below bb; replace bel := bel.trans (bb.mono bel.size); have hr := hh; clear hh ge bb) | ((with_reducible show wpList _ _ _ (⟨none, Op.store _ (.tmp 5) _, _, _, _, _⟩ :: _) _ _); refine wpList_store_blk rfl 37 (.tmp 5) (.tmp 28) rfl g5 rfl _ rfl _ 37 hr (by rfl) (by kernel_rfl) (by kernel_rfl) ?_; intro w9 hq gr; replace ho := ho.away av_ho_r gr; replace hb := hb.away av_hb_r gr; replace s1 := s1.away av_s1_r gr; replace z1 := z1.away av_z1_r gr; replace s2 := s2.away av_s2_r gr; replace z2 := z2.away av_z2_r gr; replace hp := blk_a hp gr d_p_r; replace hd := blk_a hd gr d_d_r; replace bel := below_grown bel gr or bel.size; clear hr; have hr := hq; clear hq gr; have R34 := Lib.hid (range_lit hd 0 9 [.int .i64 y10, .int .i64 y11, .int .u32 y12, .int .u32 y13, .int .i64 y14, .int .i64 y15, .int .i64 y16, .slice A1 lq1.length c1, .slice B1 lb1.length d1] rfl)) | ((with_reducible show wpList _ _ _ (⟨some 34, _, _, _, _, _⟩ :: _) _ _); refine wpList_load_rng 34 (.tmp 3) rfl (by kernel_rfl) _ _ rfl _ R34.out _ Try.underlying34 rfl (by kernel_rfl) ?_; have R35 := Lib.hid (range_lit hr 0 9 [.int .i64 y10, .int .i64 y11, .int .u32 y12, .int .u32 y13, .int .i64 y14, .int .i64 y15, .int .i64 y16, .slice A2 lq1.length c2, .slice B2 lb1.length d2] rfl)) | ((with_reducible show wpList _ _ _ (⟨some 35, _, _, _, _, _⟩ :: _) _ _); refine wpList_load_rng 37 (.tmp 5) rfl (by kernel_rfl) _ _ rfl _ R35.out _ Try.underlying37 rfl (by kernel_rfl) ?_))
  try clear R34
  try clear R35
  with_reducible refine (same8_true _ _ _ _ _ _ _ _ _ _ _ _ _ _ _ _ _ _ _ _  s1 z1 s2 z2).mono ?_
  rintro e w10 ⟨rfl, b10⟩
  replace hp := blk_u hp b10
  replace hd := blk_u hd b10
  replace hr := blk_u hr b10
  replace ho := ho.below b10
  replace hb := hb.below b10
  replace s1 := s1.below b10
  replace z1 := z1.below b10
  replace s2 := s2.below b10
  replace z2 := z2.below b10
  replace bel := bel.trans (b10.mono bel.size)
  clear b10
  go_wp2_with fail
  go_ret
  exact ⟨rfl, bel⟩
theorem tcpReads_walk (tos id fl pt ttl pr : Int) (a0 a1 a2 a3 a4 a5 a6 a7 : UInt8) (So : Option Addr) (no co : Nat) (lo : List UInt8) (Sb : Option Addr) (nb cb : Nat) (lb : List UInt8) (w : World) (ho : Sl w So no co lo) (hb : Sl w Sb nb cb lb) : Calls Try.prog 4 #[.agg #[.int .i64 tos, .int .i64 id, .int .i64 fl, .int .i64 pt, .int .i64 ttl, .int .i64 pr, .int .u8 (a0.toNat : Int), .int .u8 (a1.toNat : Int), .int .u8 (a2.toNat : Int), .int .u8 (a3.toNat : Int), .int .u8 (a4.toNat : Int), .int .u8 (a5.toNat : Int), .int .u8 (a6.toNat : Int), .int .u8 (a7.toNat : Int), .slice So no co, .slice Sb nb cb]] w fun e w' => e = .returned (.bool true) ∧ Below w.heap.size w w' := by
  by_cases h1 : nb ≤ 1600
  · by_cases h2 : no ≤ 60
    · exact tcpReads_3 tos id fl pt ttl pr a0 a1 a2 a3 a4 a5 a6 a7 So no co lo Sb nb cb lb w ho hb h1 h2
    · exact tcpReads_2 tos id fl pt ttl pr a0 a1 a2 a3 a4 a5 a6 a7 So no co lo Sb nb cb lb w h1 (by omega)
  · exact tcpReads_1 tos id fl pt ttl pr a0 a1 a2 a3 a4 a5 a6 a7 So no co lo Sb nb cb lb w (by omega)
theorem tcput_good (tos id fl pt ttl pr : Int) (a0 a1 a2 a3 a4 a5 a6 a7 : UInt8) (So Sb : Option Addr) (no co nb cb : Nat) (sf st se ak fg wn ug : Int) (Q : Option Addr) (nq cq : Nat) (D : Option Addr) (nd cd : Nat) (lo lq ld : List UInt8) (w : World) (ho : Sl w So no co lo) (hv : Sl w Q nq cq lq) (hb : Sl w D nd cd ld) (hg : segOk sf st fg wn ug nq = true) (hl : nq + nd ≤ 1460) (hno : no ≤ 100000) (e0 : 0 ≤ se) (e1 : se < 4294967296) (k0 : 0 ≤ ak) (k1 : ak < 4294967296) : Calls Try.prog 8 #[.agg #[.int .i64 tos, .int .i64 id, .int .i64 fl, .int .i64 pt, .int .i64 ttl, .int .i64 pr, .int .u8 (a0.toNat : Int), .int .u8 (a1.toNat : Int), .int .u8 (a2.toNat : Int), .int .u8 (a3.toNat : Int), .int .u8 (a4.toNat : Int), .int .u8 (a5.toNat : Int), .int .u8 (a6.toNat : Int), .int .u8 (a7.toNat : Int), .slice So no co, .slice Sb nb cb], .agg #[.int .i64 sf, .int .i64 st, .int .u32 se, .int .u32 ak, .int .i64 fg, .int .i64 wn, .int .i64 ug, .slice Q nq cq, .slice D nd cd]] w fun e w' => ∃ Ao co' Ab cb', e = .returned (.tuple #[.agg #[.int .i64 tos, .int .i64 id, .int .i64 fl, .int .i64 pt, .int .i64 ttl, .int .i64 6, .int .u8 (a0.toNat : Int), .int .u8 (a1.toNat : Int), .int .u8 (a2.toNat : Int), .int .u8 (a3.toNat : Int), .int .u8 (a4.toNat : Int), .int .u8 (a5.toNat : Int), .int .u8 (a6.toNat : Int), .int .u8 (a7.toNat : Int), .slice Ao no co', .slice Ab (20 + nq + nd) cb'], .int .i64 0]) ∧ Sl w' Ao no co' lo ∧ Sl w' Ab (20 + nq + nd) cb' (tcBytes a0 a1 a2 a3 a4 a5 a6 a7 sf st se ak fg wn ug lq ld) ∧ Fr w.heap.size Ao no ∧ Fr w.heap.size Ab (20 + nq + nd) ∧ Below w.heap.size w w' := by
  refine (tcput_any tos id fl pt ttl pr a0 a1 a2 a3 a4 a5 a6 a7 So Sb no co nb cb sf st se ak fg wn ug Q nq cq D nd cd lo lq ld w ho hv hb (by omega) hno e0 e1 k0 k1).mono ?_
  rintro e w' ⟨f0, f1, f2, f3, f4, f5, g0, g1, g2, g3, g4, g5, g6, g7, lo', lb', Ao, Ab, co', cb', er', rfl, ho', hbb, fo, fb, bel, hq⟩
  rw [tcput_eq (by rw [hv.1]; exact hg) (by rw [hv.1, hb.1]; exact hl)] at hq
  simp only [Prod.mk.injEq, List.cons.injEq, and_true] at hq
  obtain ⟨⟨⟨rfl, rfl, rfl, rfl, rfl, rfl⟩, rfl, rfl, rfl, rfl, rfl, rfl, rfl, rfl⟩, ⟨rfl, rfl⟩, rfl⟩ := hq
  have hl : (tcBytes g0 g1 g2 g3 g4 g5 g6 g7 sf st se ak fg wn ug lq ld).length = 20 + nq + nd := by rw [tcBytes_len, hv.1, hb.1]
  have hl2 := ho.1
  rw [hl] at hbb fb ⊢
  rw [hl2] at ho' fo ⊢
  exact ⟨Ao, co', Ab, cb', rfl, ho', hbb, fo, fb, bel⟩
theorem tcput_er (tos id fl pt ttl pr : Int) (a0 a1 a2 a3 a4 a5 a6 a7 : UInt8) (So Sb : Option Addr) (no co nb cb : Nat) (sf st se ak fg wn ug : Int) (Q : Option Addr) (nq cq : Nat) (D : Option Addr) (nd cd : Nat) (lo lq ld : List UInt8) (w : World) (ho : Sl w So no co lo) (hv : Sl w Q nq cq lq) (hb : Sl w D nd cd ld) (hn : nd ≤ 100000) (hno : no ≤ 100000) (e0 : 0 ≤ se) (e1 : se < 4294967296) (k0 : 0 ≤ ak) (k1 : ak < 4294967296) : Calls Try.prog 8 #[.agg #[.int .i64 tos, .int .i64 id, .int .i64 fl, .int .i64 pt, .int .i64 ttl, .int .i64 pr, .int .u8 (a0.toNat : Int), .int .u8 (a1.toNat : Int), .int .u8 (a2.toNat : Int), .int .u8 (a3.toNat : Int), .int .u8 (a4.toNat : Int), .int .u8 (a5.toNat : Int), .int .u8 (a6.toNat : Int), .int .u8 (a7.toNat : Int), .slice So no co, .slice Sb nb cb], .agg #[.int .i64 sf, .int .i64 st, .int .u32 se, .int .u32 ak, .int .i64 fg, .int .i64 wn, .int .i64 ug, .slice Q nq cq, .slice D nd cd]] w fun e w' => ∃ f0 f1 f2 f3 f4 f5 : Int, ∃ g0 g1 g2 g3 g4 g5 g6 g7 : UInt8, ∃ Ao n1 co' Ab n2 cb', e = .returned (.tuple #[.agg #[.int .i64 f0, .int .i64 f1, .int .i64 f2, .int .i64 f3, .int .i64 f4, .int .i64 f5, .int .u8 (g0.toNat : Int), .int .u8 (g1.toNat : Int), .int .u8 (g2.toNat : Int), .int .u8 (g3.toNat : Int), .int .u8 (g4.toNat : Int), .int .u8 (g5.toNat : Int), .int .u8 (g6.toNat : Int), .int .u8 (g7.toNat : Int), .slice Ao n1 co', .slice Ab n2 cb'], .int .i64 (tcPut tos id fl pt ttl a0 a1 a2 a3 a4 a5 a6 a7 lo sf st se ak fg wn ug lq ld).2.2]) ∧ Below w.heap.size w w' := by
  refine (tcput_any tos id fl pt ttl pr a0 a1 a2 a3 a4 a5 a6 a7 So Sb no co nb cb sf st se ak fg wn ug Q nq cq D nd cd lo lq ld w ho hv hb hn hno e0 e1 k0 k1).mono ?_
  rintro e w' ⟨f0, f1, f2, f3, f4, f5, g0, g1, g2, g3, g4, g5, g6, g7, lo', lb', Ao, Ab, co', cb', er', rfl, ho', hbb, fo, fb, bel, hq⟩
  rw [← hq]
  exact ⟨_, _, _, _, _, _, _, _, _, _, _, _, _, _, _, _, _, _, _, _, rfl, bel⟩
theorem rtcput_good (tos id fl pt ttl pr : Int) (a0 a1 a2 a3 a4 a5 a6 a7 : UInt8) (So Sb : Option Addr) (no co nb cb : Nat) (sf st se ak fg wn ug : Int) (Q : Option Addr) (nq cq : Nat) (D : Option Addr) (nd cd : Nat) (lo lq ld : List UInt8) (w : World) (ho : Sl w So no co lo) (hv : Sl w Q nq cq lq) (hb : Sl w D nd cd ld) (hg : segOk sf st fg wn ug nq = true) (hl : nq + nd ≤ 1460) (hno : no ≤ 100000) (e0 : 0 ≤ se) (e1 : se < 4294967296) (k0 : 0 ≤ ak) (k1 : ak < 4294967296) : Calls Try.prog 14 #[.agg #[.int .i64 tos, .int .i64 id, .int .i64 fl, .int .i64 pt, .int .i64 ttl, .int .i64 pr, .int .u8 (a0.toNat : Int), .int .u8 (a1.toNat : Int), .int .u8 (a2.toNat : Int), .int .u8 (a3.toNat : Int), .int .u8 (a4.toNat : Int), .int .u8 (a5.toNat : Int), .int .u8 (a6.toNat : Int), .int .u8 (a7.toNat : Int), .slice So no co, .slice Sb nb cb], .agg #[.int .i64 sf, .int .i64 st, .int .u32 se, .int .u32 ak, .int .i64 fg, .int .i64 wn, .int .i64 ug, .slice Q nq cq, .slice D nd cd]] w fun e w' => ∃ Ao co' Ab cb', e = .returned (.tuple #[.agg #[.int .i64 tos, .int .i64 id, .int .i64 fl, .int .i64 pt, .int .i64 ttl, .int .i64 6, .int .u8 (a0.toNat : Int), .int .u8 (a1.toNat : Int), .int .u8 (a2.toNat : Int), .int .u8 (a3.toNat : Int), .int .u8 (a4.toNat : Int), .int .u8 (a5.toNat : Int), .int .u8 (a6.toNat : Int), .int .u8 (a7.toNat : Int), .slice Ao no co', .slice Ab (20 + nq + nd) cb'], .int .i64 0]) ∧ Sl w' Ao no co' lo ∧ Sl w' Ab (20 + nq + nd) cb' (tcBytes a0 a1 a2 a3 a4 a5 a6 a7 sf st se ak fg wn ug lq ld) ∧ Fr w.heap.size Ao no ∧ Fr w.heap.size Ab (20 + nq + nd) ∧ Below w.heap.size w w' := by
  refine (rtcput_any tos id fl pt ttl pr a0 a1 a2 a3 a4 a5 a6 a7 So Sb no co nb cb sf st se ak fg wn ug Q nq cq D nd cd lo lq ld w ho hv hb hno e0 e1 k0 k1).mono ?_
  rintro e w' ⟨f0, f1, f2, f3, f4, f5, g0, g1, g2, g3, g4, g5, g6, g7, lo', lb', Ao, Ab, co', cb', er', rfl, ho', hbb, fo, fb, bel, hq⟩
  rw [tcput_eq (by rw [hv.1]; exact hg) (by rw [hv.1, hb.1]; exact hl)] at hq
  simp only [Prod.mk.injEq, List.cons.injEq, and_true] at hq
  obtain ⟨⟨⟨rfl, rfl, rfl, rfl, rfl, rfl⟩, rfl, rfl, rfl, rfl, rfl, rfl, rfl, rfl⟩, ⟨rfl, rfl⟩, rfl⟩ := hq
  have hl : (tcBytes g0 g1 g2 g3 g4 g5 g6 g7 sf st se ak fg wn ug lq ld).length = 20 + nq + nd := by rw [tcBytes_len, hv.1, hb.1]
  have hl2 := ho.1
  rw [hl] at hbb fb ⊢
  rw [hl2] at ho' fo ⊢
  exact ⟨Ao, co', Ab, cb', rfl, ho', hbb, fo, fb, bel⟩
theorem rtcput_er (tos id fl pt ttl pr : Int) (a0 a1 a2 a3 a4 a5 a6 a7 : UInt8) (So Sb : Option Addr) (no co nb cb : Nat) (sf st se ak fg wn ug : Int) (Q : Option Addr) (nq cq : Nat) (D : Option Addr) (nd cd : Nat) (lo lq ld : List UInt8) (w : World) (ho : Sl w So no co lo) (hv : Sl w Q nq cq lq) (hb : Sl w D nd cd ld) (hno : no ≤ 100000) (e0 : 0 ≤ se) (e1 : se < 4294967296) (k0 : 0 ≤ ak) (k1 : ak < 4294967296) : Calls Try.prog 14 #[.agg #[.int .i64 tos, .int .i64 id, .int .i64 fl, .int .i64 pt, .int .i64 ttl, .int .i64 pr, .int .u8 (a0.toNat : Int), .int .u8 (a1.toNat : Int), .int .u8 (a2.toNat : Int), .int .u8 (a3.toNat : Int), .int .u8 (a4.toNat : Int), .int .u8 (a5.toNat : Int), .int .u8 (a6.toNat : Int), .int .u8 (a7.toNat : Int), .slice So no co, .slice Sb nb cb], .agg #[.int .i64 sf, .int .i64 st, .int .u32 se, .int .u32 ak, .int .i64 fg, .int .i64 wn, .int .i64 ug, .slice Q nq cq, .slice D nd cd]] w fun e w' => ∃ f0 f1 f2 f3 f4 f5 : Int, ∃ g0 g1 g2 g3 g4 g5 g6 g7 : UInt8, ∃ Ao n1 co' Ab n2 cb', e = .returned (.tuple #[.agg #[.int .i64 f0, .int .i64 f1, .int .i64 f2, .int .i64 f3, .int .i64 f4, .int .i64 f5, .int .u8 (g0.toNat : Int), .int .u8 (g1.toNat : Int), .int .u8 (g2.toNat : Int), .int .u8 (g3.toNat : Int), .int .u8 (g4.toNat : Int), .int .u8 (g5.toNat : Int), .int .u8 (g6.toNat : Int), .int .u8 (g7.toNat : Int), .slice Ao n1 co', .slice Ab n2 cb'], .int .i64 (tcPut tos id fl pt ttl a0 a1 a2 a3 a4 a5 a6 a7 lo sf st se ak fg wn ug lq ld).2.2]) ∧ Below w.heap.size w w' := by
  refine (rtcput_any tos id fl pt ttl pr a0 a1 a2 a3 a4 a5 a6 a7 So Sb no co nb cb sf st se ak fg wn ug Q nq cq D nd cd lo lq ld w ho hv hb hno e0 e1 k0 k1).mono ?_
  rintro e w' ⟨f0, f1, f2, f3, f4, f5, g0, g1, g2, g3, g4, g5, g6, g7, lo', lb', Ao, Ab, co', cb', er', rfl, ho', hbb, fo, fb, bel, hq⟩
  rw [← hq]
  exact ⟨_, _, _, _, _, _, _, _, _, _, _, _, _, _, _, _, _, _, _, _, rfl, bel⟩
set_option linter.unusedVariables false in
set_option maxRecDepth 100000 in
set_option maxHeartbeats 16000000 in
theorem tcpWrites_1 (tos id fl pt ttl pr : Int) (a0 a1 a2 a3 a4 a5 a6 a7 : UInt8) (So : Option Addr) (no co : Nat) (lo : List UInt8) (Sb : Option Addr) (nb cb : Nat) (lb : List UInt8) (sf st se ak fg wn ug : Int) (Q : Option Addr) (nq cq : Nat) (lq : List UInt8) (D : Option Addr) (nd cd : Nat) (ld : List UInt8) (w : World) (h1 : 1600 < nb) : Calls Try.prog 5 #[.agg #[.int .i64 tos, .int .i64 id, .int .i64 fl, .int .i64 pt, .int .i64 ttl, .int .i64 pr, .int .u8 (a0.toNat : Int), .int .u8 (a1.toNat : Int), .int .u8 (a2.toNat : Int), .int .u8 (a3.toNat : Int), .int .u8 (a4.toNat : Int), .int .u8 (a5.toNat : Int), .int .u8 (a6.toNat : Int), .int .u8 (a7.toNat : Int), .slice So no co, .slice Sb nb cb], .agg #[.int .i64 sf, .int .i64 st, .int .u32 se, .int .u32 ak, .int .i64 fg, .int .i64 wn, .int .i64 ug, .slice Q nq cq, .slice D nd cd]] w fun e w' => e = .returned (.bool true) ∧ Below w.heap.size w w' := by
  have t1 : (1600 : Int) < nb := by omega
  clear h1
  have bel := Below.refl w.heap.size w
  go_enter Try.func5, Try.ntmps5
  go_wp2_with (first | ((with_reducible show wpList _ _ _ (⟨some 2, _, _, _, _, _⟩ :: _) _ _); refine wpList_box_n rfl 27 (.tmp 0) rfl #[.int .i64 tos, .int .i64 id, .int .i64 fl, .int .i64 pt, .int .i64 ttl, .int .i64 pr, .int .u8 (a0.toNat : Int), .int .u8 (a1.toNat : Int), .int .u8 (a2.toNat : Int), .int .u8 (a3.toNat : Int), .int .u8 (a4.toNat : Int), .int .u8 (a5.toNat : Int), .int .u8 (a6.toNat : Int), .int .u8 (a7.toNat : Int), .slice So no co, .slice Sb nb cb] rfl ?_; intro g2 w1 ge lt hh bb; have op := Nat.le_trans bel.size ge; replace bel := bel.trans (bb.mono bel.size); have hp := hh; clear hh lt ge bb) | ((with_reducible show wpList _ _ _ (⟨some 3, _, _, _, _, _⟩ :: _) _ _); refine wpList_box_n rfl 34 (.tmp 1) rfl #[.int .i64 sf, .int .i64 st, .int .u32 se, .int .u32 ak, .int .i64 fg, .int .i64 wn, .int .i64 ug, .slice Q nq cq, .slice D nd cd] rfl ?_; intro g3 w2 ge lt hh bb; have d_p_d := ne_new (hlt hp) ge; have od := Nat.le_trans bel.size ge; replace hp := blk_u hp bb; replace bel := bel.trans (bb.mono bel.size); have hd := hh; clear hh lt ge bb))
  with_reducible refine (awake8 _).mono ?_
  rintro e w3 ⟨rfl, b3⟩
  replace hp := blk_u hp b3
  replace hd := blk_u hd b3
  replace bel := bel.trans (b3.mono bel.size)
  clear b3
  have R14 := cell_lit hp 15 _ rfl
  go_wp2_with fail
  clear R14
  go_ret
  exact ⟨rfl, bel⟩
set_option linter.unusedVariables false in
set_option maxRecDepth 100000 in
set_option maxHeartbeats 16000000 in
theorem tcpWrites_2 (tos id fl pt ttl pr : Int) (a0 a1 a2 a3 a4 a5 a6 a7 : UInt8) (So : Option Addr) (no co : Nat) (lo : List UInt8) (Sb : Option Addr) (nb cb : Nat) (lb : List UInt8) (sf st se ak fg wn ug : Int) (Q : Option Addr) (nq cq : Nat) (lq : List UInt8) (D : Option Addr) (nd cd : Nat) (ld : List UInt8) (w : World) (h1 : nb ≤ 1600) (h2 : 60 < no) : Calls Try.prog 5 #[.agg #[.int .i64 tos, .int .i64 id, .int .i64 fl, .int .i64 pt, .int .i64 ttl, .int .i64 pr, .int .u8 (a0.toNat : Int), .int .u8 (a1.toNat : Int), .int .u8 (a2.toNat : Int), .int .u8 (a3.toNat : Int), .int .u8 (a4.toNat : Int), .int .u8 (a5.toNat : Int), .int .u8 (a6.toNat : Int), .int .u8 (a7.toNat : Int), .slice So no co, .slice Sb nb cb], .agg #[.int .i64 sf, .int .i64 st, .int .u32 se, .int .u32 ak, .int .i64 fg, .int .i64 wn, .int .i64 ug, .slice Q nq cq, .slice D nd cd]] w fun e w' => e = .returned (.bool true) ∧ Below w.heap.size w w' := by
  have t1 : decide ((1600 : Int) < nb) = false := decide_eq_false (by omega)
  have t2 : (60 : Int) < no := by omega
  clear h1 h2
  have bel := Below.refl w.heap.size w
  go_enter Try.func5, Try.ntmps5
  go_wp2_with (first | ((with_reducible show wpList _ _ _ (⟨some 2, _, _, _, _, _⟩ :: _) _ _); refine wpList_box_n rfl 27 (.tmp 0) rfl #[.int .i64 tos, .int .i64 id, .int .i64 fl, .int .i64 pt, .int .i64 ttl, .int .i64 pr, .int .u8 (a0.toNat : Int), .int .u8 (a1.toNat : Int), .int .u8 (a2.toNat : Int), .int .u8 (a3.toNat : Int), .int .u8 (a4.toNat : Int), .int .u8 (a5.toNat : Int), .int .u8 (a6.toNat : Int), .int .u8 (a7.toNat : Int), .slice So no co, .slice Sb nb cb] rfl ?_; intro g2 w1 ge lt hh bb; have op := Nat.le_trans bel.size ge; replace bel := bel.trans (bb.mono bel.size); have hp := hh; clear hh lt ge bb) | ((with_reducible show wpList _ _ _ (⟨some 3, _, _, _, _, _⟩ :: _) _ _); refine wpList_box_n rfl 34 (.tmp 1) rfl #[.int .i64 sf, .int .i64 st, .int .u32 se, .int .u32 ak, .int .i64 fg, .int .i64 wn, .int .i64 ug, .slice Q nq cq, .slice D nd cd] rfl ?_; intro g3 w2 ge lt hh bb; have d_p_d := ne_new (hlt hp) ge; have od := Nat.le_trans bel.size ge; replace hp := blk_u hp bb; replace bel := bel.trans (bb.mono bel.size); have hd := hh; clear hh lt ge bb))
  with_reducible refine (awake8 _).mono ?_
  rintro e w3 ⟨rfl, b3⟩
  replace hp := blk_u hp b3
  replace hd := blk_u hd b3
  replace bel := bel.trans (b3.mono bel.size)
  clear b3
  have R14 := cell_lit hp 15 _ rfl
  have R19 := cell_lit hp 14 _ rfl
  go_wp2_with fail
  clear R14 R19
  go_ret
  exact ⟨rfl, bel⟩
set_option linter.unusedVariables false in
set_option maxRecDepth 100000 in
set_option maxHeartbeats 16000000 in
theorem tcpWrites_3 (tos id fl pt ttl pr : Int) (a0 a1 a2 a3 a4 a5 a6 a7 : UInt8) (So : Option Addr) (no co : Nat) (lo : List UInt8) (Sb : Option Addr) (nb cb : Nat) (lb : List UInt8) (sf st se ak fg wn ug : Int) (Q : Option Addr) (nq cq : Nat) (lq : List UInt8) (D : Option Addr) (nd cd : Nat) (ld : List UInt8) (w : World) (h1 : nb ≤ 1600) (h2 : no ≤ 60) (h3 : 1600 < nd) : Calls Try.prog 5 #[.agg #[.int .i64 tos, .int .i64 id, .int .i64 fl, .int .i64 pt, .int .i64 ttl, .int .i64 pr, .int .u8 (a0.toNat : Int), .int .u8 (a1.toNat : Int), .int .u8 (a2.toNat : Int), .int .u8 (a3.toNat : Int), .int .u8 (a4.toNat : Int), .int .u8 (a5.toNat : Int), .int .u8 (a6.toNat : Int), .int .u8 (a7.toNat : Int), .slice So no co, .slice Sb nb cb], .agg #[.int .i64 sf, .int .i64 st, .int .u32 se, .int .u32 ak, .int .i64 fg, .int .i64 wn, .int .i64 ug, .slice Q nq cq, .slice D nd cd]] w fun e w' => e = .returned (.bool true) ∧ Below w.heap.size w w' := by
  have t1 : decide ((1600 : Int) < nb) = false := decide_eq_false (by omega)
  have t2 : decide ((60 : Int) < no) = false := decide_eq_false (by omega)
  have t3 : (1600 : Int) < nd := by omega
  clear h1 h2 h3
  have bel := Below.refl w.heap.size w
  go_enter Try.func5, Try.ntmps5
  go_wp2_with (first | ((with_reducible show wpList _ _ _ (⟨some 2, _, _, _, _, _⟩ :: _) _ _); refine wpList_box_n rfl 27 (.tmp 0) rfl #[.int .i64 tos, .int .i64 id, .int .i64 fl, .int .i64 pt, .int .i64 ttl, .int .i64 pr, .int .u8 (a0.toNat : Int), .int .u8 (a1.toNat : Int), .int .u8 (a2.toNat : Int), .int .u8 (a3.toNat : Int), .int .u8 (a4.toNat : Int), .int .u8 (a5.toNat : Int), .int .u8 (a6.toNat : Int), .int .u8 (a7.toNat : Int), .slice So no co, .slice Sb nb cb] rfl ?_; intro g2 w1 ge lt hh bb; have op := Nat.le_trans bel.size ge; replace bel := bel.trans (bb.mono bel.size); have hp := hh; clear hh lt ge bb) | ((with_reducible show wpList _ _ _ (⟨some 3, _, _, _, _, _⟩ :: _) _ _); refine wpList_box_n rfl 34 (.tmp 1) rfl #[.int .i64 sf, .int .i64 st, .int .u32 se, .int .u32 ak, .int .i64 fg, .int .i64 wn, .int .i64 ug, .slice Q nq cq, .slice D nd cd] rfl ?_; intro g3 w2 ge lt hh bb; have d_p_d := ne_new (hlt hp) ge; have od := Nat.le_trans bel.size ge; replace hp := blk_u hp bb; replace bel := bel.trans (bb.mono bel.size); have hd := hh; clear hh lt ge bb))
  with_reducible refine (awake8 _).mono ?_
  rintro e w3 ⟨rfl, b3⟩
  replace hp := blk_u hp b3
  replace hd := blk_u hd b3
  replace bel := bel.trans (b3.mono bel.size)
  clear b3
  have R14 := cell_lit hp 15 _ rfl
  have R19 := cell_lit hp 14 _ rfl
  have R25 := cell_lit hd 8 _ rfl
  go_wp2_with fail
  clear R14 R19 R25
  go_ret
  exact ⟨rfl, bel⟩
set_option linter.unusedVariables false in
set_option maxRecDepth 100000 in
set_option maxHeartbeats 16000000 in
theorem tcpWrites_4 (tos id fl pt ttl pr : Int) (a0 a1 a2 a3 a4 a5 a6 a7 : UInt8) (So : Option Addr) (no co : Nat) (lo : List UInt8) (Sb : Option Addr) (nb cb : Nat) (lb : List UInt8) (sf st se ak fg wn ug : Int) (Q : Option Addr) (nq cq : Nat) (lq : List UInt8) (D : Option Addr) (nd cd : Nat) (ld : List UInt8) (w : World) (h1 : nb ≤ 1600) (h2 : no ≤ 60) (h3 : nd ≤ 1600) (h4 : 60 < nq) : Calls Try.prog 5 #[.agg #[.int .i64 tos, .int .i64 id, .int .i64 fl, .int .i64 pt, .int .i64 ttl, .int .i64 pr, .int .u8 (a0.toNat : Int), .int .u8 (a1.toNat : Int), .int .u8 (a2.toNat : Int), .int .u8 (a3.toNat : Int), .int .u8 (a4.toNat : Int), .int .u8 (a5.toNat : Int), .int .u8 (a6.toNat : Int), .int .u8 (a7.toNat : Int), .slice So no co, .slice Sb nb cb], .agg #[.int .i64 sf, .int .i64 st, .int .u32 se, .int .u32 ak, .int .i64 fg, .int .i64 wn, .int .i64 ug, .slice Q nq cq, .slice D nd cd]] w fun e w' => e = .returned (.bool true) ∧ Below w.heap.size w w' := by
  have t1 : decide ((1600 : Int) < nb) = false := decide_eq_false (by omega)
  have t2 : decide ((60 : Int) < no) = false := decide_eq_false (by omega)
  have t3 : decide ((1600 : Int) < nd) = false := decide_eq_false (by omega)
  have t4 : (60 : Int) < nq := by omega
  clear h1 h2 h3 h4
  have bel := Below.refl w.heap.size w
  go_enter Try.func5, Try.ntmps5
  go_wp2_with (first | ((with_reducible show wpList _ _ _ (⟨some 2, _, _, _, _, _⟩ :: _) _ _); refine wpList_box_n rfl 27 (.tmp 0) rfl #[.int .i64 tos, .int .i64 id, .int .i64 fl, .int .i64 pt, .int .i64 ttl, .int .i64 pr, .int .u8 (a0.toNat : Int), .int .u8 (a1.toNat : Int), .int .u8 (a2.toNat : Int), .int .u8 (a3.toNat : Int), .int .u8 (a4.toNat : Int), .int .u8 (a5.toNat : Int), .int .u8 (a6.toNat : Int), .int .u8 (a7.toNat : Int), .slice So no co, .slice Sb nb cb] rfl ?_; intro g2 w1 ge lt hh bb; have op := Nat.le_trans bel.size ge; replace bel := bel.trans (bb.mono bel.size); have hp := hh; clear hh lt ge bb) | ((with_reducible show wpList _ _ _ (⟨some 3, _, _, _, _, _⟩ :: _) _ _); refine wpList_box_n rfl 34 (.tmp 1) rfl #[.int .i64 sf, .int .i64 st, .int .u32 se, .int .u32 ak, .int .i64 fg, .int .i64 wn, .int .i64 ug, .slice Q nq cq, .slice D nd cd] rfl ?_; intro g3 w2 ge lt hh bb; have d_p_d := ne_new (hlt hp) ge; have od := Nat.le_trans bel.size ge; replace hp := blk_u hp bb; replace bel := bel.trans (bb.mono bel.size); have hd := hh; clear hh lt ge bb))
  with_reducible refine (awake8 _).mono ?_
  rintro e w3 ⟨rfl, b3⟩
  replace hp := blk_u hp b3
  replace hd := blk_u hd b3
  replace bel := bel.trans (b3.mono bel.size)
  clear b3
  have R14 := cell_lit hp 15 _ rfl
  have R19 := cell_lit hp 14 _ rfl
  have R25 := cell_lit hd 8 _ rfl
  have R31 := cell_lit hd 7 _ rfl
  go_wp2_with fail
  clear R14 R19 R25 R31
  go_ret
  exact ⟨rfl, bel⟩
set_option linter.unusedVariables false in
set_option maxRecDepth 100000 in
set_option maxHeartbeats 16000000 in
theorem tcpWrites_5 (tos id fl pt ttl pr : Int) (a0 a1 a2 a3 a4 a5 a6 a7 : UInt8) (So : Option Addr) (no co : Nat) (lo : List UInt8) (Sb : Option Addr) (nb cb : Nat) (lb : List UInt8) (sf st se ak fg wn ug : Int) (Q : Option Addr) (nq cq : Nat) (lq : List UInt8) (D : Option Addr) (nd cd : Nat) (ld : List UInt8) (w : World) (ho : Sl w So no co lo) (hb : Sl w Sb nb cb lb) (hQ : Sl w Q nq cq lq) (hD : Sl w D nd cd ld) (h1 : nb ≤ 1600) (h2 : no ≤ 60) (h3 : nd ≤ 1600) (h4 : nq ≤ 60) (e0 : 0 ≤ se) (e1 : se < 4294967296) (k0 : 0 ≤ ak) (k1 : ak < 4294967296) (er : Int) (he : (tcPut tos id fl pt ttl a0 a1 a2 a3 a4 a5 a6 a7 lo sf st se ak fg wn ug lq ld).2.2 = er) (hz : er ≠ 0) : Calls Try.prog 5 #[.agg #[.int .i64 tos, .int .i64 id, .int .i64 fl, .int .i64 pt, .int .i64 ttl, .int .i64 pr, .int .u8 (a0.toNat : Int), .int .u8 (a1.toNat : Int), .int .u8 (a2.toNat : Int), .int .u8 (a3.toNat : Int), .int .u8 (a4.toNat : Int), .int .u8 (a5.toNat : Int), .int .u8 (a6.toNat : Int), .int .u8 (a7.toNat : Int), .slice So no co, .slice Sb nb cb], .agg #[.int .i64 sf, .int .i64 st, .int .u32 se, .int .u32 ak, .int .i64 fg, .int .i64 wn, .int .i64 ug, .slice Q nq cq, .slice D nd cd]] w fun e w' => e = .returned (.bool true) ∧ Below w.heap.size w w' := by
  have t1 : decide ((1600 : Int) < nb) = false := decide_eq_false (by omega)
  have t2 : decide ((60 : Int) < no) = false := decide_eq_false (by omega)
  have t3 : decide ((1600 : Int) < nd) = false := decide_eq_false (by omega)
  have t4 : decide ((60 : Int) < nq) = false := decide_eq_false (by omega)
  have H2 := Lib.hid h2
  have H3 := Lib.hid h3
  have E0 := Lib.hid e0
  have E1 := Lib.hid e1
  have K0 := Lib.hid k0
  have K1 := Lib.hid k1
  clear h1 h2 h3 h4 e0 e1 k0 k1
  have HE := Lib.hid he
  have t5 : (er == 0) = false := by simpa using hz
  have t6 : (er != 0) = true := by simpa using hz
  clear he hz
  have bel := Below.refl w.heap.size w
  go_enter Try.func5, Try.ntmps5
  go_wp2_with (first | ((with_reducible show wpList _ _ _ (⟨some 2, _, _, _, _, _⟩ :: _) _ _); refine wpList_box_n rfl 27 (.tmp 0) rfl #[.int .i64 tos, .int .i64 id, .int .i64 fl, .int .i64 pt, .int .i64 ttl, .int .i64 pr, .int .u8 (a0.toNat : Int), .int .u8 (a1.toNat : Int), .int .u8 (a2.toNat : Int), .int .u8 (a3.toNat : Int), .int .u8 (a4.toNat : Int), .int .u8 (a5.toNat : Int), .int .u8 (a6.toNat : Int), .int .u8 (a7.toNat : Int), .slice So no co, .slice Sb nb cb] rfl ?_; intro g2 w1 ge lt hh bb; have av_ho_p := ho.av_new ge; have av_hb_p := hb.av_new ge; have av_hQ_p := hQ.av_new ge; have av_hD_p := hD.av_new ge; have op := Nat.le_trans bel.size ge; replace ho := ho.below bb; replace hb := hb.below bb; replace hQ := hQ.below bb; replace hD := hD.below bb; replace bel := bel.trans (bb.mono bel.size); have hp := hh; clear hh lt ge bb) | ((with_reducible show wpList _ _ _ (⟨some 3, _, _, _, _, _⟩ :: _) _ _); refine wpList_box_n rfl 34 (.tmp 1) rfl #[.int .i64 sf, .int .i64 st, .int .u32 se, .int .u32 ak, .int .i64 fg, .int .i64 wn, .int .i64 ug, .slice Q nq cq, .slice D nd cd] rfl ?_; intro g3 w2 ge lt hh bb; have d_p_d := ne_new (hlt hp) ge; have av_ho_d := ho.av_new ge; have av_hb_d := hb.av_new ge; have av_hQ_d := hQ.av_new ge; have av_hD_d := hD.av_new ge; have od := Nat.le_trans bel.size ge; replace hp := blk_u hp bb; replace ho := ho.below bb; replace hb := hb.below bb; replace hQ := hQ.below bb; replace hD := hD.below bb; replace bel := bel.trans (bb.mono bel.size); have hd := hh; clear hh lt ge bb))
  with_reducible refine (awake8 _).mono ?_
  rintro e w3 ⟨rfl, b3⟩
  replace hp := blk_u hp b3
  replace hd := blk_u hd b3
  replace ho := ho.below b3
  replace hb := hb.below b3
  replace hQ := hQ.below b3
  replace hD := hD.below b3
  replace bel := bel.trans (b3.mono bel.size)
  clear b3
  have R14 := cell_lit hp 15 _ rfl
  have R19 := cell_lit hp 14 _ rfl
  have R25 := cell_lit hd 8 _ rfl
  have R31 := cell_lit hd 7 _ rfl
  have R36 := Lib.hid (range_lit hp 0 16 [.int .i64 tos, .int .i64 id, .int .i64 fl, .int .i64 pt, .int .i64 ttl, .int .i64 pr, .int .u8 (a0.toNat : Int), .int .u8 (a1.toNat : Int), .int .u8 (a2.toNat : Int), .int .u8 (a3.toNat : Int), .int .u8 (a4.toNat : Int), .int .u8 (a5.toNat : Int), .int .u8 (a6.toNat : Int), .int .u8 (a7.toNat : Int), .slice So no co, .slice Sb nb cb] rfl)
  go_wp2_with (first | ((with_reducible show wpList _ _ _ (⟨some 36, _, _, _, _, _⟩ :: _) _ _); refine wpList_load_rng 27 (.tmp 2) rfl (by kernel_rfl) _ _ rfl _ R36.out _ Try.underlying27 rfl (by kernel_rfl) ?_; have R37 := Lib.hid (range_lit hd 0 9 [.int .i64 sf, .int .i64 st, .int .u32 se, .int .u32 ak, .int .i64 fg, .int .i64 wn, .int .i64 ug, .slice Q nq cq, .slice D nd cd] rfl)) | ((with_reducible show wpList _ _ _ (⟨some 37, _, _, _, _, _⟩ :: _) _ _); refine wpList_load_rng 34 (.tmp 3) rfl (by kernel_rfl) _ _ rfl _ R37.out _ Try.underlying34 rfl (by kernel_rfl) ?_))
  try clear R14
  try clear R19
  try clear R25
  try clear R31
  try clear R36
  try clear R37
  with_reducible refine (tcput_er _ _ _ _ _ _ _ _ _ _ _ _ _ _ _ _ _ _ _ _ _ _ _ _ _ _ _ _ _ _ _ _ _ _ _ _ _  ho hQ hD (by have := H3.out; omega) (by have := H2.out; omega) E0.out E1.out K0.out K1.out).mono ?_
  rintro e w4 ⟨f01, f11, f21, f31, f41, f51, g01, g11, g21, g31, g41, g51, g61, g71, Ao1, m1, co1, Ab1, n1, cb1, rfl, b4⟩
  replace hp := blk_u hp b4
  replace hd := blk_u hd b4
  replace ho := ho.below b4
  replace hb := hb.below b4
  replace hQ := hQ.below b4
  replace hD := hD.below b4
  replace bel := bel.trans (b4.mono bel.size)
  clear b4
  rw [HE.out]
  go_wp2_with (first | ((with_reducible show wpList _ _ _ (⟨some 5, _, _, _, _, _⟩ :: _) _ _); refine wpList_new_a rfl 27 rfl #[.int .i64 0, .int .i64 0, .int .i64 0, .int .i64 0, .int .i64 0, .int .i64 0, .int .u8 0, .int .u8 0, .int .u8 0, .int .u8 0, .int .u8 0, .int .u8 0, .int .u8 0, .int .u8 0, .slice none 0 0, .slice none 0 0] (by kernel_rfl) ?_; intro g5 w5 ge hh bb; have d_p_e := ne_new (hlt hp) ge; have d_d_e := ne_new (hlt hd) ge; have av_ho_e := ho.av_new ge; have av_hb_e := hb.av_new ge; have av_hQ_e := hQ.av_new ge; have av_hD_e := hD.av_new ge; have oe := Nat.le_trans bel.size ge; replace hp := blk_u hp bb; replace hd := blk_u hd bb; replace ho := ho.below bb; replace hb := hb.below bb; replace hQ := hQ.below bb; replace hD := hD.below bb; replace bel := bel.trans (bb.mono bel.size); have he := hh; clear hh ge bb) | ((with_reducible show wpList _ _ _ (⟨none, Op.store _ (.tmp 5) _, _, _, _, _⟩ :: _) _ _); refine wpList_store_blk rfl 27 (.tmp 5) (.tmp 39) rfl g5 rfl _ rfl _ 27 he (by rfl) (by kernel_rfl) (by kernel_rfl) ?_; intro w6 hq gr; replace ho := ho.away av_ho_e gr; replace hb := hb.away av_hb_e gr; replace hQ := hQ.away av_hQ_e gr; replace hD := hD.away av_hD_e gr; replace hp := blk_a hp gr d_p_e; replace hd := blk_a hd gr d_d_e; replace bel := below_grown bel gr oe bel.size; clear he; have he := hq; clear hq gr))
  go_cut [7, 8] from 9999 (fun s7 s8 W => ∃ g7 : Nat, ∃ f02 : Int, ∃ f12 : Int, ∃ f22 : Int, ∃ f32 : Int, ∃ f42 : Int, ∃ f52 : Int, ∃ g02 : UInt8, ∃ g12 : UInt8, ∃ g22 : UInt8, ∃ g32 : UInt8, ∃ g42 : UInt8, ∃ g52 : UInt8, ∃ g62 : UInt8, ∃ g72 : UInt8, ∃ Ao2 : Option Addr, ∃ m2 : Nat, ∃ co2 : Nat, ∃ Ab2 : Option Addr, ∃ n2 : Nat, ∃ cb2 : Nat, s7 = .pointer (some ⟨g7, 0, none⟩) ∧ s8 = .int .i64 er ∧ W.heap[g2]? = some (.cells #[.int .i64 tos, .int .i64 id, .int .i64 fl, .int .i64 pt, .int .i64 ttl, .int .i64 pr, .int .u8 (a0.toNat : Int), .int .u8 (a1.toNat : Int), .int .u8 (a2.toNat : Int), .int .u8 (a3.toNat : Int), .int .u8 (a4.toNat : Int), .int .u8 (a5.toNat : Int), .int .u8 (a6.toNat : Int), .int .u8 (a7.toNat : Int), .slice So no co, .slice Sb nb cb] 27 (0, 0)) ∧ W.heap[g3]? = some (.cells #[.int .i64 sf, .int .i64 st, .int .u32 se, .int .u32 ak, .int .i64 fg, .int .i64 wn, .int .i64 ug, .slice Q nq cq, .slice D nd cd] 34 (0, 0)) ∧ W.heap[g5]? = some (.cells #[.int .i64 f01, .int .i64 f11, .int .i64 f21, .int .i64 f31, .int .i64 f41, .int .i64 f51, .int .u8 (g01.toNat : Int), .int .u8 (g11.toNat : Int), .int .u8 (g21.toNat : Int), .int .u8 (g31.toNat : Int), .int .u8 (g41.toNat : Int), .int .u8 (g51.toNat : Int), .int .u8 (g61.toNat : Int), .int .u8 (g71.toNat : Int), .slice Ao1 m1 co1, .slice Ab1 n1 cb1] 27 (0, 0)) ∧ W.heap[g7]? = some (.cells #[.int .i64 f02, .int .i64 f12, .int .i64 f22, .int .i64 f32, .int .i64 f42, .int .i64 f52, .int .u8 (g02.toNat : Int), .int .u8 (g12.toNat : Int), .int .u8 (g22.toNat : Int), .int .u8 (g32.toNat : Int), .int .u8 (g42.toNat : Int), .int .u8 (g52.toNat : Int), .int .u8 (g62.toNat : Int), .int .u8 (g72.toNat : Int), .slice Ao2 m2 co2, .slice Ab2 n2 cb2] 40 (0, 0)) ∧ w.heap.size ≤ g7 ∧ Hid (g3 ≠ g5) ∧ Hid (g3 ≠ g2) ∧ Hid (g3 ≠ g7) ∧ Hid (g5 ≠ g2) ∧ Hid (g5 ≠ g7) ∧ Hid (g2 ≠ g7) ∧ Sl W (So) (no) (co) (lo) ∧ Av (So) (no) g3 ∧ Av (So) (no) g5 ∧ Av (So) (no) g2 ∧ Av (So) (no) g7 ∧ Sl W (Sb) (nb) (cb) (lb) ∧ Av (Sb) (nb) g3 ∧ Av (Sb) (nb) g5 ∧ Av (Sb) (nb) g2 ∧ Av (Sb) (nb) g7 ∧ Sl W (Q) (nq) (cq) (lq) ∧ Av (Q) (nq) g3 ∧ Av (Q) (nq) g5 ∧ Av (Q) (nq) g2 ∧ Av (Q) (nq) g7 ∧ Sl W (D) (nd) (cd) (ld) ∧ Av (D) (nd) g3 ∧ Av (D) (nd) g5 ∧ Av (D) (nd) g2 ∧ Av (D) (nd) g7 ∧ Below w.heap.size w W)
  case first =>
    replace bel := bel.drew
    replace hp : w6.drew.heap[g2]? = _ := hp
    replace hd : w6.drew.heap[g3]? = _ := hd
    replace he : w6.drew.heap[g5]? = _ := he
    replace ho := ho.drew
    replace hb := hb.drew
    replace hQ := hQ.drew
    replace hD := hD.drew
    refine wp_region_held_drew (S := fun W => W.heap[g2]? = some (.cells #[.int .i64 tos, .int .i64 id, .int .i64 fl, .int .i64 pt, .int .i64 ttl, .int .i64 pr, .int .u8 (a0.toNat : Int), .int .u8 (a1.toNat : Int), .int .u8 (a2.toNat : Int), .int .u8 (a3.toNat : Int), .int .u8 (a4.toNat : Int), .int .u8 (a5.toNat : Int), .int .u8 (a6.toNat : Int), .int .u8 (a7.toNat : Int), .slice So no co, .slice Sb nb cb] 27 (0, 0)) ∧ W.heap[g3]? = some (.cells #[.int .i64 sf, .int .i64 st, .int .u32 se, .int .u32 ak, .int .i64 fg, .int .i64 wn, .int .i64 ug, .slice Q nq cq, .slice D nd cd] 34 (0, 0))) (by kernel_rfl) ⟨hp, hd⟩ (fun hH => ?_)
    generalize w6.drew = w7 at bel hp hd he ho hb hQ hD hH ⊢
    refine wpAnyH_take (i := 0) (v := .agg #[.int .i64 tos, .int .i64 id, .int .i64 fl, .int .i64 pt, .int .i64 ttl, .int .i64 pr, .int .u8 (a0.toNat : Int), .int .u8 (a1.toNat : Int), .int .u8 (a2.toNat : Int), .int .u8 (a3.toNat : Int), .int .u8 (a4.toNat : Int), .int .u8 (a5.toNat : Int), .int .u8 (a6.toNat : Int), .int .u8 (a7.toNat : Int), .slice So no co, .slice Sb nb cb]) rfl (by kernel_rfl) (by kernel_rfl) (by kernel_rfl) (fun _ _ _ h => h) (yieldsIf_load_part (by kernel_rfl) 27 _ rfl g2 0 16 rfl _ 27 (0, 0) (fun W hW => hW.1) _ rfl _ Try.underlying27 rfl (by kernel_rfl)) hH ?_
    simp only [Act.put, List.getElem_toArray, List.getElem_cons_zero, List.setIfInBounds_toArray, List.set_cons_zero, List.set_cons_succ]
    refine wpAnyH_take (i := 2) (v := .agg #[.int .i64 sf, .int .i64 st, .int .u32 se, .int .u32 ak, .int .i64 fg, .int .i64 wn, .int .i64 ug, .slice Q nq cq, .slice D nd cd]) rfl (by kernel_rfl) (by kernel_rfl) (by kernel_rfl) (fun _ _ _ h => h) (yieldsIf_load_part (by kernel_rfl) 34 _ rfl g3 0 9 rfl _ 34 (0, 0) (fun W hW => hW.2) _ rfl _ Try.underlying34 rfl (by kernel_rfl)) hH ?_
    simp only [Act.put, List.getElem_toArray, List.getElem_cons_zero, List.getElem_cons_succ, List.setIfInBounds_toArray, List.set_cons_zero, List.set_cons_succ]
    refine wpAnyH_ready (rs := [1, 8]) (by kernel_rfl) (by simp) ?_
    refine AllReadyH.cons (o := _) rfl (fun K hK => ?_) (AllReadyH.cons (o := _) rfl (fun K hK => ?_) AllReadyH.nil)
    · simp only [List.getElem_toArray, List.getElem_cons_zero, List.getElem_cons_succ]
      go_simp
      with_reducible refine (own8_any _ _ _ _ _ _ _ _ _ _ _ _ _ _ _ _ _ _ _ _ _).mono ?_
      rintro e w8 ⟨rfl, b8⟩
      dsimp only
      replace hp := blk_u hp b8
      replace hd := blk_u hd b8
      replace he := blk_u he b8
      replace ho := ho.below b8
      replace hb := hb.below b8
      replace hQ := hQ.below b8
      replace hD := hD.below b8
      replace bel := bel.trans (b8.mono bel.size)
      clear b8
      refine hK.out _ _ ⟨hp, hd⟩ (fun hH9 => ?_)
      clear hK K
      refine wpAnyH_ready (rs := [3, 8]) (by kernel_rfl) (by simp) ?_
      refine AllReadyH.cons (o := _) rfl (fun K hK => ?_) (AllReadyH.cons (o := _) rfl (fun K hK => ?_) AllReadyH.nil)
      · simp only [List.getElem_toArray, List.getElem_cons_zero, List.getElem_cons_succ]
        go_simp
        with_reducible refine (seg8_any _ _ _ _ _ _ _ _ _ _ _ _ _ _).mono ?_
        rintro e w10 ⟨rfl, b10⟩
        dsimp only
        replace hp := blk_u hp b10
        replace hd := blk_u hd b10
        replace he := blk_u he b10
        replace ho := ho.below b10
        replace hb := hb.below b10
        replace hQ := hQ.below b10
        replace hD := hD.below b10
        replace bel := bel.trans (b10.mono bel.size)
        clear b10
        refine hK.out _ _ ⟨hp, hd⟩ (fun hH11 => ?_)
        clear hK K
        refine wpAnyH_ready (rs := [4, 8]) (by kernel_rfl) (by simp) ?_
        refine AllReadyH.cons (o := _) rfl (fun K hK => ?_) (AllReadyH.cons (o := _) rfl (fun K hK => ?_) AllReadyH.nil)
        · simp only [List.getElem_toArray, List.getElem_cons_zero, List.getElem_cons_succ]
          go_simp
          with_reducible refine (rtcput_er _ _ _ _ _ _ _ _ _ _ _ _ _ _ _ _ _ _ _ _ _ _ _ _ _ _ _ _ _ _ _ _ _ _ _ _ _  ho hQ hD (by have := H2.out; omega) E0.out E1.out K0.out K1.out).mono ?_
          rintro e w12 ⟨f02, f12, f22, f32, f42, f52, g02, g12, g22, g32, g42, g52, g62, g72, Ao2, m2, co2, Ab2, n2, cb2, rfl, b12⟩
          dsimp only
          replace hp := blk_u hp b12
          replace hd := blk_u hd b12
          replace he := blk_u he b12
          replace ho := ho.below b12
          replace hb := hb.below b12
          replace hQ := hQ.below b12
          replace hD := hD.below b12
          replace bel := bel.trans (b12.mono bel.size)
          clear b12
          rw [HE.out]
          refine hK.out _ _ ⟨hp, hd⟩ (fun hH13 => ?_)
          clear hK K
          refine wpAnyH_take (i := 5) (v := ?_) rfl (by kernel_rfl) (by kernel_rfl) (by kernel_rfl) (fun _ _ _ h => h) (Or.inl ⟨by rfl, ?_⟩) hH13 ?_
          rotate_left
          · ((intro W hW; clear hW; go_simp) <;> with_reducible rfl)
          simp only [Act.put, List.getElem_toArray, List.getElem_cons_zero, List.getElem_cons_succ, List.setIfInBounds_toArray, List.set_cons_zero, List.set_cons_succ]
          refine wpAnyH_take (i := 6) (v := ?_) rfl (by kernel_rfl) (by kernel_rfl) (by kernel_rfl) (fun _ _ _ h => h) (Or.inl ⟨by rfl, ?_⟩) hH13 ?_
          rotate_left
          · ((intro W hW; clear hW; go_simp) <;> with_reducible rfl)
          simp only [Act.put, List.getElem_toArray, List.getElem_cons_zero, List.getElem_cons_succ, List.setIfInBounds_toArray, List.set_cons_zero, List.set_cons_succ]
          refine wpAnyH_take (i := 7) (v := ?_) rfl (by kernel_rfl) (by kernel_rfl) (by kernel_rfl) (fun _ _ _ h => h) (Or.inl ⟨by rfl, ?_⟩) hH13 ?_
          rotate_left
          · ((intro W hW; clear hW; go_simp) <;> with_reducible rfl)
          simp only [Act.put, List.getElem_toArray, List.getElem_cons_zero, List.getElem_cons_succ, List.setIfInBounds_toArray, List.set_cons_zero, List.set_cons_succ]
          refine wpAnyH_ready (rs := [8]) (by kernel_rfl) (by simp) ?_
          refine AllReadyH.cons (o := _) rfl (fun K hK => ?_) AllReadyH.nil
          simp only [List.getElem_toArray, List.getElem_cons_zero, List.getElem_cons_succ]
          rw [if_pos (by rfl)]
          refine wp_new_a 40 rfl #[.int .i64 0, .int .i64 0, .int .i64 0, .int .i64 0, .int .i64 0, .int .i64 0, .int .u8 0, .int .u8 0, .int .u8 0, .int .u8 0, .int .u8 0, .int .u8 0, .int .u8 0, .int .u8 0, .slice none 0 0, .slice none 0 0] (by kernel_rfl) ?_
          intro g7 w14 ge hh bb
          have d_p_r := ne_new (hlt hp) ge
          have d_d_r := ne_new (hlt hd) ge
          have d_e_r := ne_new (hlt he) ge
          have av_ho_r := ho.av_new ge
          have av_hb_r := hb.av_new ge
          have av_hQ_r := hQ.av_new ge
          have av_hD_r := hD.av_new ge
          have or := Nat.le_trans bel.size ge
          replace hp := blk_u hp bb
          replace hd := blk_u hd bb
          replace he := blk_u he bb
          replace ho := ho.below bb
          replace hb := hb.below bb
          replace hQ := hQ.below bb
          replace hD := hD.below bb
          replace bel := bel.trans (bb.mono bel.size)
          have hr := hh
          clear hh ge bb
          refine hK.out _ _ ⟨hp, hd⟩ (fun hH15 => ?_)
          clear hK K
          simp only [Act.put, List.setIfInBounds_toArray, List.set_cons_zero, List.set_cons_succ]
          refine wpAnyH_ready (rs := [9]) (by kernel_rfl) (by simp) ?_
          refine AllReadyH.cons (o := _) rfl (fun K hK => ?_) AllReadyH.nil
          simp only [List.getElem_toArray, List.getElem_cons_zero, List.getElem_cons_succ]
          rw [if_pos (by rfl)]
          refine wp_store_blk 40 (.tmp 7) (.tmp 47) rfl g7 rfl _ rfl _ 40 hr (by rfl) (by kernel_rfl) (by kernel_rfl) ?_
          intro w16 hq gr
          replace ho := ho.away av_ho_r gr
          replace hb := hb.away av_hb_r gr
          replace hQ := hQ.away av_hQ_r gr
          replace hD := hD.away av_hD_r gr
          replace hp := blk_a hp gr d_p_r
          replace hd := blk_a hd gr d_d_r
          replace he := blk_a he gr d_e_r
          replace bel := below_grown bel gr or bel.size
          clear hr
          have hr := hq
          clear hq gr
          refine hK.out _ _ ⟨hp, hd⟩ (fun hH17 => ?_)
          clear hK K
          simp only [Act.put]
          refine wpAnyH_take (i := 10) (v := ?_) rfl (by kernel_rfl) (by kernel_rfl) (by kernel_rfl) (fun _ _ _ h => h) (Or.inl ⟨by rfl, ?_⟩) hH17 ?_
          rotate_left
          · ((intro W hW; clear hW; go_simp) <;> with_reducible rfl)
          simp only [Act.put, List.getElem_toArray, List.getElem_cons_zero, List.getElem_cons_succ, List.setIfInBounds_toArray, List.set_cons_zero, List.set_cons_succ]
          refine wpAnyH_done (by kernel_rfl) ?_ _
          go_wp2_with fail
          go_meet
          case rel => exact ⟨g7, f02, f12, f22, f32, f42, f52, g02, g12, g22, g32, g42, g52, g62, g72, Ao2, m2, co2, Ab2, n2, cb2, rfl, rfl, hp, hd, he, hr, or, d_d_e, (ne_symm d_p_d), d_d_r, (ne_symm d_p_e), d_e_r, d_p_r, ho, av_ho_d, av_ho_e, av_ho_p, av_ho_r, hb, av_hb_d, av_hb_e, av_hb_p, av_hb_r, hQ, av_hQ_d, av_hQ_e, av_hQ_p, av_hQ_r, hD, av_hD_d, av_hD_e, av_hD_p, av_hD_r, bel⟩
        · simp only [List.getElem_toArray, List.getElem_cons_zero, List.getElem_cons_succ]
          rw [if_pos (by rfl)]
          refine wp_new_a 40 rfl #[.int .i64 0, .int .i64 0, .int .i64 0, .int .i64 0, .int .i64 0, .int .i64 0, .int .u8 0, .int .u8 0, .int .u8 0, .int .u8 0, .int .u8 0, .int .u8 0, .int .u8 0, .int .u8 0, .slice none 0 0, .slice none 0 0] (by kernel_rfl) ?_
          intro g7 w12 ge hh bb
          have d_p_r := ne_new (hlt hp) ge
          have d_d_r := ne_new (hlt hd) ge
          have d_e_r := ne_new (hlt he) ge
          have av_ho_r := ho.av_new ge
          have av_hb_r := hb.av_new ge
          have av_hQ_r := hQ.av_new ge
          have av_hD_r := hD.av_new ge
          have or := Nat.le_trans bel.size ge
          replace hp := blk_u hp bb
          replace hd := blk_u hd bb
          replace he := blk_u he bb
          replace ho := ho.below bb
          replace hb := hb.below bb
          replace hQ := hQ.below bb
          replace hD := hD.below bb
          replace bel := bel.trans (bb.mono bel.size)
          have hr := hh
          clear hh ge bb
          refine hK.out _ _ ⟨hp, hd⟩ (fun hH13 => ?_)
          clear hK K
          simp only [Act.put, List.setIfInBounds_toArray, List.set_cons_zero, List.set_cons_succ]
          refine wpAnyH_ready (rs := [4]) (by kernel_rfl) (by simp) ?_
          refine AllReadyH.cons (o := _) rfl (fun K hK => ?_) AllReadyH.nil
          simp only [List.getElem_toArray, List.getElem_cons_zero, List.getElem_cons_succ]
          go_simp
          with_reducible refine (rtcput_er _ _ _ _ _ _ _ _ _ _ _ _ _ _ _ _ _ _ _ _ _ _ _ _ _ _ _ _ _ _ _ _ _ _ _ _ _  ho hQ hD (by have := H2.out; omega) E0.out E1.out K0.out K1.out).mono ?_
          rintro e w14 ⟨f02, f12, f22, f32, f42, f52, g02, g12, g22, g32, g42, g52, g62, g72, Ao2, m2, co2, Ab2, n2, cb2, rfl, b14⟩
          dsimp only
          replace hp := blk_u hp b14
          replace hd := blk_u hd b14
          replace he := blk_u he b14
          replace hr := blk_u hr b14
          replace ho := ho.below b14
          replace hb := hb.below b14
          replace hQ := hQ.below b14
          replace hD := hD.below b14
          replace bel := bel.trans (b14.mono bel.size)
          clear b14
          rw [HE.out]
          refine hK.out _ _ ⟨hp, hd⟩ (fun hH15 => ?_)
          clear hK K
          refine wpAnyH_take (i := 5) (v := ?_) rfl (by kernel_rfl) (by kernel_rfl) (by kernel_rfl) (fun _ _ _ h => h) (Or.inl ⟨by rfl, ?_⟩) hH15 ?_
          rotate_left
          · ((intro W hW; clear hW; go_simp) <;> with_reducible rfl)
          simp only [Act.put, List.getElem_toArray, List.getElem_cons_zero, List.getElem_cons_succ, List.setIfInBounds_toArray, List.set_cons_zero, List.set_cons_succ]
          refine wpAnyH_take (i := 6) (v := ?_) rfl (by kernel_rfl) (by kernel_rfl) (by kernel_rfl) (fun _ _ _ h => h) (Or.inl ⟨by rfl, ?_⟩) hH15 ?_
          rotate_left
          · ((intro W hW; clear hW; go_simp) <;> with_reducible rfl)
          simp only [Act.put, List.getElem_toArray, List.getElem_cons_zero, List.getElem_cons_succ, List.setIfInBounds_toArray, List.set_cons_zero, List.set_cons_succ]
          refine wpAnyH_take (i := 7) (v := ?_) rfl (by kernel_rfl) (by kernel_rfl) (by kernel_rfl) (fun _ _ _ h => h) (Or.inl ⟨by rfl, ?_⟩) hH15 ?_
          rotate_left
          · ((intro W hW; clear hW; go_simp) <;> with_reducible rfl)
          simp only [Act.put, List.getElem_toArray, List.getElem_cons_zero, List.getElem_cons_succ, List.setIfInBounds_toArray, List.set_cons_zero, List.set_cons_succ]
          refine wpAnyH_ready (rs := [9]) (by kernel_rfl) (by simp) ?_
          refine AllReadyH.cons (o := _) rfl (fun K hK => ?_) AllReadyH.nil
          simp only [List.getElem_toArray, List.getElem_cons_zero, List.getElem_cons_succ]
          rw [if_pos (by rfl)]
          refine wp_store_blk 40 (.tmp 7) (.tmp 47) rfl g7 rfl _ rfl _ 40 hr (by rfl) (by kernel_rfl) (by kernel_rfl) ?_
          intro w16 hq gr
          replace ho := ho.away av_ho_r gr
          replace hb := hb.away av_hb_r gr
          replace hQ := hQ.away av_hQ_r gr
          replace hD := hD.away av_hD_r gr
          replace hp := blk_a hp gr d_p_r
          replace hd := blk_a hd gr d_d_r
          replace he := blk_a he gr d_e_r
          replace bel := below_grown bel gr or bel.size
          clear hr
          have hr := hq
          clear hq gr
          refine hK.out _ _ ⟨hp, hd⟩ (fun hH17 => ?_)
          clear hK K
          simp only [Act.put]
          refine wpAnyH_take (i := 10) (v := ?_) rfl (by kernel_rfl) (by kernel_rfl) (by kernel_rfl) (fun _ _ _ h => h) (Or.inl ⟨by rfl, ?_⟩) hH17 ?_
          rotate_left
          · ((intro W hW; clear hW; go_simp) <;> with_reducible rfl)
          simp only [Act.put, List.getElem_toArray, List.getElem_cons_zero, List.getElem_cons_succ, List.setIfInBounds_toArray, List.set_cons_zero, List.set_cons_succ]
          refine wpAnyH_done (by kernel_rfl) ?_ _
          go_wp2_with fail
          go_meet
          case rel => exact ⟨g7, f02, f12, f22, f32, f42, f52, g02, g12, g22, g32, g42, g52, g62, g72, Ao2, m2, co2, Ab2, n2, cb2, rfl, rfl, hp, hd, he, hr, or, d_d_e, (ne_symm d_p_d), d_d_r, (ne_symm d_p_e), d_e_r, d_p_r, ho, av_ho_d, av_ho_e, av_ho_p, av_ho_r, hb, av_hb_d, av_hb_e, av_hb_p, av_hb_r, hQ, av_hQ_d, av_hQ_e, av_hQ_p, av_hQ_r, hD, av_hD_d, av_hD_e, av_hD_p, av_hD_r, bel⟩
      · simp only [List.getElem_toArray, List.getElem_cons_zero, List.getElem_cons_succ]
        rw [if_pos (by rfl)]
        refine wp_new_a 40 rfl #[.int .i64 0, .int .i64 0, .int .i64 0, .int .i64 0, .int .i64 0, .int .i64 0, .int .u8 0, .int .u8 0, .int .u8 0, .int .u8 0, .int .u8 0, .int .u8 0, .int .u8 0, .int .u8 0, .slice none 0 0, .slice none 0 0] (by kernel_rfl) ?_
        intro g7 w10 ge hh bb
        have d_p_r := ne_new (hlt hp) ge
        have d_d_r := ne_new (hlt hd) ge
        have d_e_r := ne_new (hlt he) ge
        have av_ho_r := ho.av_new ge
        have av_hb_r := hb.av_new ge
        have av_hQ_r := hQ.av_new ge
        have av_hD_r := hD.av_new ge
        have or := Nat.le_trans bel.size ge
        replace hp := blk_u hp bb
        replace hd := blk_u hd bb
        replace he := blk_u he bb
        replace ho := ho.below bb
        replace hb := hb.below bb
        replace hQ := hQ.below bb
        replace hD := hD.below bb
        replace bel := bel.trans (bb.mono bel.size)
        have hr := hh
        clear hh ge bb
        refine hK.out _ _ ⟨hp, hd⟩ (fun hH11 => ?_)
        clear hK K
        simp only [Act.put, List.setIfInBounds_toArray, List.set_cons_zero, List.set_cons_succ]
        refine wpAnyH_ready (rs := [3]) (by kernel_rfl) (by simp) ?_
        refine AllReadyH.cons (o := _) rfl (fun K hK => ?_) AllReadyH.nil
        simp only [List.getElem_toArray, List.getElem_cons_zero, List.getElem_cons_succ]
        go_simp
        with_reducible refine (seg8_any _ _ _ _ _ _ _ _ _ _ _ _ _ _).mono ?_
        rintro e w12 ⟨rfl, b12⟩
        dsimp only
        replace hp := blk_u hp b12
        replace hd := blk_u hd b12
        replace he := blk_u he b12
        replace hr := blk_u hr b12
        replace ho := ho.below b12
        replace hb := hb.below b12
        replace hQ := hQ.below b12
        replace hD := hD.below b12
        replace bel := bel.trans (b12.mono bel.size)
        clear b12
        refine hK.out _ _ ⟨hp, hd⟩ (fun hH13 => ?_)
        clear hK K
        refine wpAnyH_ready (rs := [4]) (by kernel_rfl) (by simp) ?_
        refine AllReadyH.cons (o := _) rfl (fun K hK => ?_) AllReadyH.nil
        simp only [List.getElem_toArray, List.getElem_cons_zero, List.getElem_cons_succ]
        go_simp
        with_reducible refine (rtcput_er _ _ _ _ _ _ _ _ _ _ _ _ _ _ _ _ _ _ _ _ _ _ _ _ _ _ _ _ _ _ _ _ _ _ _ _ _  ho hQ hD (by have := H2.out; omega) E0.out E1.out K0.out K1.out).mono ?_
        rintro e w14 ⟨f02, f12, f22, f32, f42, f52, g02, g12, g22, g32, g42, g52, g62, g72, Ao2, m2, co2, Ab2, n2, cb2, rfl, b14⟩
        dsimp only
        replace hp := blk_u hp b14
        replace hd := blk_u hd b14
        replace he := blk_u he b14
        replace hr := blk_u hr b14
        replace ho := ho.below b14
        replace hb := hb.below b14
        replace hQ := hQ.below b14
        replace hD := hD.below b14
        replace bel := bel.trans (b14.mono bel.size)
        clear b14
        rw [HE.out]
        refine hK.out _ _ ⟨hp, hd⟩ (fun hH15 => ?_)
        clear hK K
        refine wpAnyH_take (i := 5) (v := ?_) rfl (by kernel_rfl) (by kernel_rfl) (by kernel_rfl) (fun _ _ _ h => h) (Or.inl ⟨by rfl, ?_⟩) hH15 ?_
        rotate_left
        · ((intro W hW; clear hW; go_simp) <;> with_reducible rfl)
        simp only [Act.put, List.getElem_toArray, List.getElem_cons_zero, List.getElem_cons_succ, List.setIfInBounds_toArray, List.set_cons_zero, List.set_cons_succ]
        refine wpAnyH_take (i := 6) (v := ?_) rfl (by kernel_rfl) (by kernel_rfl) (by kernel_rfl) (fun _ _ _ h => h) (Or.inl ⟨by rfl, ?_⟩) hH15 ?_
        rotate_left
        · ((intro W hW; clear hW; go_simp) <;> with_reducible rfl)
        simp only [Act.put, List.getElem_toArray, List.getElem_cons_zero, List.getElem_cons_succ, List.setIfInBounds_toArray, List.set_cons_zero, List.set_cons_succ]
        refine wpAnyH_take (i := 7) (v := ?_) rfl (by kernel_rfl) (by kernel_rfl) (by kernel_rfl) (fun _ _ _ h => h) (Or.inl ⟨by rfl, ?_⟩) hH15 ?_
        rotate_left
        · ((intro W hW; clear hW; go_simp) <;> with_reducible rfl)
        simp only [Act.put, List.getElem_toArray, List.getElem_cons_zero, List.getElem_cons_succ, List.setIfInBounds_toArray, List.set_cons_zero, List.set_cons_succ]
        refine wpAnyH_ready (rs := [9]) (by kernel_rfl) (by simp) ?_
        refine AllReadyH.cons (o := _) rfl (fun K hK => ?_) AllReadyH.nil
        simp only [List.getElem_toArray, List.getElem_cons_zero, List.getElem_cons_succ]
        rw [if_pos (by rfl)]
        refine wp_store_blk 40 (.tmp 7) (.tmp 47) rfl g7 rfl _ rfl _ 40 hr (by rfl) (by kernel_rfl) (by kernel_rfl) ?_
        intro w16 hq gr
        replace ho := ho.away av_ho_r gr
        replace hb := hb.away av_hb_r gr
        replace hQ := hQ.away av_hQ_r gr
        replace hD := hD.away av_hD_r gr
        replace hp := blk_a hp gr d_p_r
        replace hd := blk_a hd gr d_d_r
        replace he := blk_a he gr d_e_r
        replace bel := below_grown bel gr or bel.size
        clear hr
        have hr := hq
        clear hq gr
        refine hK.out _ _ ⟨hp, hd⟩ (fun hH17 => ?_)
        clear hK K
        simp only [Act.put]
        refine wpAnyH_take (i := 10) (v := ?_) rfl (by kernel_rfl) (by kernel_rfl) (by kernel_rfl) (fun _ _ _ h => h) (Or.inl ⟨by rfl, ?_⟩) hH17 ?_
        rotate_left
        · ((intro W hW; clear hW; go_simp) <;> with_reducible rfl)
        simp only [Act.put, List.getElem_toArray, List.getElem_cons_zero, List.getElem_cons_succ, List.setIfInBounds_toArray, List.set_cons_zero, List.set_cons_succ]
        refine wpAnyH_done (by kernel_rfl) ?_ _
        go_wp2_with fail
        go_meet
        case rel => exact ⟨g7, f02, f12, f22, f32, f42, f52, g02, g12, g22, g32, g42, g52, g62, g72, Ao2, m2, co2, Ab2, n2, cb2, rfl, rfl, hp, hd, he, hr, or, d_d_e, (ne_symm d_p_d), d_d_r, (ne_symm d_p_e), d_e_r, d_p_r, ho, av_ho_d, av_ho_e, av_ho_p, av_ho_r, hb, av_hb_d, av_hb_e, av_hb_p, av_hb_r, hQ, av_hQ_d, av_hQ_e, av_hQ_p, av_hQ_r, hD, av_hD_d, av_hD_e, av_hD_p, av_hD_r, bel⟩
    · simp only [List.getElem_toArray, List.getElem_cons_zero, List.getElem_cons_succ]
      rw [if_pos (by rfl)]
      refine wp_new_a 40 rfl #[.int .i64 0, .int .i64 0, .int .i64 0, .int .i64 0, .int .i64 0, .int .i64 0, .int .u8 0, .int .u8 0, .int .u8 0, .int .u8 0, .int .u8 0, .int .u8 0, .int .u8 0, .int .u8 0, .slice none 0 0, .slice none 0 0] (by kernel_rfl) ?_
      intro g7 w8 ge hh bb
      have d_p_r := ne_new (hlt hp) ge
      have d_d_r := ne_new (hlt hd) ge
      have d_e_r := ne_new (hlt he) ge
      have av_ho_r := ho.av_new ge
      have av_hb_r := hb.av_new ge
      have av_hQ_r := hQ.av_new ge
      have av_hD_r := hD.av_new ge
      have or := Nat.le_trans bel.size ge
      replace hp := blk_u hp bb
      replace hd := blk_u hd bb
      replace he := blk_u he bb
      replace ho := ho.below bb
      replace hb := hb.below bb
      replace hQ := hQ.below bb
      replace hD := hD.below bb
      replace bel := bel.trans (bb.mono bel.size)
      have hr := hh
      clear hh ge bb
      refine hK.out _ _ ⟨hp, hd⟩ (fun hH9 => ?_)
      clear hK K
      simp only [Act.put, List.setIfInBounds_toArray, List.set_cons_zero, List.set_cons_succ]
      refine wpAnyH_ready (rs := [1]) (by kernel_rfl) (by simp) ?_
      refine AllReadyH.cons (o := _) rfl (fun K hK => ?_) AllReadyH.nil
      simp only [List.getElem_toArray, List.getElem_cons_zero, List.getElem_cons_succ]
      go_simp
      with_reducible refine (own8_any _ _ _ _ _ _ _ _ _ _ _ _ _ _ _ _ _ _ _ _ _).mono ?_
      rintro e w10 ⟨rfl, b10⟩
      dsimp only
      replace hp := blk_u hp b10
      replace hd := blk_u hd b10
      replace he := blk_u he b10
      replace hr := blk_u hr b10
      replace ho := ho.below b10
      replace hb := hb.below b10
      replace hQ := hQ.below b10
      replace hD := hD.below b10
      replace bel := bel.trans (b10.mono bel.size)
      clear b10
      refine hK.out _ _ ⟨hp, hd⟩ (fun hH11 => ?_)
      clear hK K
      refine wpAnyH_ready (rs := [3]) (by kernel_rfl) (by simp) ?_
      refine AllReadyH.cons (o := _) rfl (fun K hK => ?_) AllReadyH.nil
      simp only [List.getElem_toArray, List.getElem_cons_zero, List.getElem_cons_succ]
      go_simp
      with_reducible refine (seg8_any _ _ _ _ _ _ _ _ _ _ _ _ _ _).mono ?_
      rintro e w12 ⟨rfl, b12⟩
      dsimp only
      replace hp := blk_u hp b12
      replace hd := blk_u hd b12
      replace he := blk_u he b12
      replace hr := blk_u hr b12
      replace ho := ho.below b12
      replace hb := hb.below b12
      replace hQ := hQ.below b12
      replace hD := hD.below b12
      replace bel := bel.trans (b12.mono bel.size)
      clear b12
      refine hK.out _ _ ⟨hp, hd⟩ (fun hH13 => ?_)
      clear hK K
      refine wpAnyH_ready (rs := [4]) (by kernel_rfl) (by simp) ?_
      refine AllReadyH.cons (o := _) rfl (fun K hK => ?_) AllReadyH.nil
      simp only [List.getElem_toArray, List.getElem_cons_zero, List.getElem_cons_succ]
      go_simp
      with_reducible refine (rtcput_er _ _ _ _ _ _ _ _ _ _ _ _ _ _ _ _ _ _ _ _ _ _ _ _ _ _ _ _ _ _ _ _ _ _ _ _ _  ho hQ hD (by have := H2.out; omega) E0.out E1.out K0.out K1.out).mono ?_
      rintro e w14 ⟨f02, f12, f22, f32, f42, f52, g02, g12, g22, g32, g42, g52, g62, g72, Ao2, m2, co2, Ab2, n2, cb2, rfl, b14⟩
      dsimp only
      replace hp := blk_u hp b14
      replace hd := blk_u hd b14
      replace he := blk_u he b14
      replace hr := blk_u hr b14
      replace ho := ho.below b14
      replace hb := hb.below b14
      replace hQ := hQ.below b14
      replace hD := hD.below b14
      replace bel := bel.trans (b14.mono bel.size)
      clear b14
      rw [HE.out]
      refine hK.out _ _ ⟨hp, hd⟩ (fun hH15 => ?_)
      clear hK K
      refine wpAnyH_take (i := 5) (v := ?_) rfl (by kernel_rfl) (by kernel_rfl) (by kernel_rfl) (fun _ _ _ h => h) (Or.inl ⟨by rfl, ?_⟩) hH15 ?_
      rotate_left
      · ((intro W hW; clear hW; go_simp) <;> with_reducible rfl)
      simp only [Act.put, List.getElem_toArray, List.getElem_cons_zero, List.getElem_cons_succ, List.setIfInBounds_toArray, List.set_cons_zero, List.set_cons_succ]
      refine wpAnyH_take (i := 6) (v := ?_) rfl (by kernel_rfl) (by kernel_rfl) (by kernel_rfl) (fun _ _ _ h => h) (Or.inl ⟨by rfl, ?_⟩) hH15 ?_
      rotate_left
      · ((intro W hW; clear hW; go_simp) <;> with_reducible rfl)
      simp only [Act.put, List.getElem_toArray, List.getElem_cons_zero, List.getElem_cons_succ, List.setIfInBounds_toArray, List.set_cons_zero, List.set_cons_succ]
      refine wpAnyH_take (i := 7) (v := ?_) rfl (by kernel_rfl) (by kernel_rfl) (by kernel_rfl) (fun _ _ _ h => h) (Or.inl ⟨by rfl, ?_⟩) hH15 ?_
      rotate_left
      · ((intro W hW; clear hW; go_simp) <;> with_reducible rfl)
      simp only [Act.put, List.getElem_toArray, List.getElem_cons_zero, List.getElem_cons_succ, List.setIfInBounds_toArray, List.set_cons_zero, List.set_cons_succ]
      refine wpAnyH_ready (rs := [9]) (by kernel_rfl) (by simp) ?_
      refine AllReadyH.cons (o := _) rfl (fun K hK => ?_) AllReadyH.nil
      simp only [List.getElem_toArray, List.getElem_cons_zero, List.getElem_cons_succ]
      rw [if_pos (by rfl)]
      refine wp_store_blk 40 (.tmp 7) (.tmp 47) rfl g7 rfl _ rfl _ 40 hr (by rfl) (by kernel_rfl) (by kernel_rfl) ?_
      intro w16 hq gr
      replace ho := ho.away av_ho_r gr
      replace hb := hb.away av_hb_r gr
      replace hQ := hQ.away av_hQ_r gr
      replace hD := hD.away av_hD_r gr
      replace hp := blk_a hp gr d_p_r
      replace hd := blk_a hd gr d_d_r
      replace he := blk_a he gr d_e_r
      replace bel := below_grown bel gr or bel.size
      clear hr
      have hr := hq
      clear hq gr
      refine hK.out _ _ ⟨hp, hd⟩ (fun hH17 => ?_)
      clear hK K
      simp only [Act.put]
      refine wpAnyH_take (i := 10) (v := ?_) rfl (by kernel_rfl) (by kernel_rfl) (by kernel_rfl) (fun _ _ _ h => h) (Or.inl ⟨by rfl, ?_⟩) hH17 ?_
      rotate_left
      · ((intro W hW; clear hW; go_simp) <;> with_reducible rfl)
      simp only [Act.put, List.getElem_toArray, List.getElem_cons_zero, List.getElem_cons_succ, List.setIfInBounds_toArray, List.set_cons_zero, List.set_cons_succ]
      refine wpAnyH_done (by kernel_rfl) ?_ _
      go_wp2_with fail
      go_meet
      case rel => exact ⟨g7, f02, f12, f22, f32, f42, f52, g02, g12, g22, g32, g42, g52, g62, g72, Ao2, m2, co2, Ab2, n2, cb2, rfl, rfl, hp, hd, he, hr, or, d_d_e, (ne_symm d_p_d), d_d_r, (ne_symm d_p_e), d_e_r, d_p_r, ho, av_ho_d, av_ho_e, av_ho_p, av_ho_r, hb, av_hb_d, av_hb_e, av_hb_p, av_hb_r, hQ, av_hQ_d, av_hQ_e, av_hQ_p, av_hQ_r, hD, av_hD_d, av_hD_e, av_hD_p, av_hD_r, bel⟩
  obtain ⟨w18, hw_⟩ : ∃ x, x = wc := ⟨_, rfl⟩
  subst hw_
  obtain ⟨g7, f02, f12, f22, f32, f42, f52, g02, g12, g22, g32, g42, g52, g62, g72, Ao2, m2, co2, Ab2, n2, cb2, rfl, rfl, hp, hd, he, hr, or, d_d_e, d_d_p, d_d_r, d_e_p, d_e_r, d_p_r, ho, av_ho_d, av_ho_e, av_ho_p, av_ho_r, hb, av_hb_d, av_hb_e, av_hb_p, av_hb_r, hQ, av_hQ_d, av_hQ_e, av_hQ_p, av_hQ_r, hD, av_hD_d, av_hD_e, av_hD_p, av_hD_r, bel⟩ := hcut
  go_wp2_with fail
  replace bel := bel.drew
  replace hp : w18.drew.heap[g2]? = _ := hp
  replace hd : w18.drew.heap[g3]? = _ := hd
  replace he : w18.drew.heap[g5]? = _ := he
  replace hr : w18.drew.heap[g7]? = _ := hr
  replace ho := ho.drew
  replace hb := hb.drew
  replace hQ := hQ.drew
  replace hD := hD.drew
  refine wp_region_held_drew (S := fun W => W.heap[g5]? = some (.cells #[.int .i64 f01, .int .i64 f11, .int .i64 f21, .int .i64 f31, .int .i64 f41, .int .i64 f51, .int .u8 (g01.toNat : Int), .int .u8 (g11.toNat : Int), .int .u8 (g21.toNat : Int), .int .u8 (g31.toNat : Int), .int .u8 (g41.toNat : Int), .int .u8 (g51.toNat : Int), .int .u8 (g61.toNat : Int), .int .u8 (g71.toNat : Int), .slice Ao1 m1 co1, .slice Ab1 n1 cb1] 27 (0, 0)) ∧ W.heap[g7]? = some (.cells #[.int .i64 f02, .int .i64 f12, .int .i64 f22, .int .i64 f32, .int .i64 f42, .int .i64 f52, .int .u8 (g02.toNat : Int), .int .u8 (g12.toNat : Int), .int .u8 (g22.toNat : Int), .int .u8 (g32.toNat : Int), .int .u8 (g42.toNat : Int), .int .u8 (g52.toNat : Int), .int .u8 (g62.toNat : Int), .int .u8 (g72.toNat : Int), .slice Ao2 m2 co2, .slice Ab2 n2 cb2] 40 (0, 0))) (by kernel_rfl) ⟨he, hr⟩ (fun hH => ?_)
  generalize w18.drew = w19 at bel hp hd he hr ho hb hQ hD hH ⊢
  refine wpAnyH_take (i := 0) (v := ?_) rfl (by kernel_rfl) (by kernel_rfl) (by kernel_rfl) (fun _ _ _ h => h) (Or.inl ⟨by rfl, ?_⟩) hH ?_
  rotate_left
  · ((intro W hW; clear hW; go_simp) <;> with_reducible rfl)
  simp only [Act.put, List.getElem_toArray, List.getElem_cons_zero, List.setIfInBounds_toArray, List.set_cons_zero, List.set_cons_succ]
  refine wpAnyH_take (i := 1) (v := ?_) rfl (by kernel_rfl) (by kernel_rfl) (by kernel_rfl) (fun _ _ _ h => h) (Or.inl ⟨by rfl, ?_⟩) hH ?_
  rotate_left
  · ((intro W hW; clear hW; go_simp) <;> with_reducible rfl)
  simp only [Act.put, List.getElem_toArray, List.getElem_cons_zero, List.getElem_cons_succ, List.setIfInBounds_toArray, List.set_cons_zero, List.set_cons_succ]
  refine wpAnyH_take (i := 2) (v := ?_) rfl (by kernel_rfl) (by kernel_rfl) (by kernel_rfl) (fun _ _ _ h => h) (Or.inl ⟨by rfl, ?_⟩) hH ?_
  rotate_left
  · ((intro W hW; clear hW; go_simp) <;> with_reducible rfl)
  simp only [Act.put, List.getElem_toArray, List.getElem_cons_zero, List.getElem_cons_succ, List.setIfInBounds_toArray, List.set_cons_zero, List.set_cons_succ]
  refine wpAnyH_take (i := 3) (v := ?_) rfl (by kernel_rfl) (by kernel_rfl) (by kernel_rfl) (fun _ _ _ h => h) (Or.inl ⟨by rfl, ?_⟩) hH ?_
  rotate_left
  · ((intro W hW; clear hW; go_simp) <;> with_reducible rfl)
  simp only [Act.put, List.getElem_toArray, List.getElem_cons_zero, List.getElem_cons_succ, List.setIfInBounds_toArray, List.set_cons_zero, List.set_cons_succ]
  refine wpAnyH_take (i := 4) (v := ?_) rfl (by kernel_rfl) (by kernel_rfl) (by kernel_rfl) (fun _ _ _ h => h) (Or.inl ⟨by rfl, ?_⟩) hH ?_
  rotate_left
  · ((intro W hW; clear hW; go_simp) <;> with_reducible rfl)
  simp only [Act.put, List.getElem_toArray, List.getElem_cons_zero, List.getElem_cons_succ, List.setIfInBounds_toArray, List.set_cons_zero, List.set_cons_succ]
  refine wpAnyH_take (i := 5) (v := ?_) rfl (by kernel_rfl) (by kernel_rfl) (by kernel_rfl) (fun _ _ _ h => h) (Or.inl ⟨by rfl, ?_⟩) hH ?_
  rotate_left
  · ((intro W hW; clear hW; go_simp) <;> with_reducible rfl)
  simp only [Act.put, List.getElem_toArray, List.getElem_cons_zero, List.getElem_cons_succ, List.setIfInBounds_toArray, List.set_cons_zero, List.set_cons_succ]
  refine wpAnyH_take (i := 6) (v := ?_) rfl (by kernel_rfl) (by kernel_rfl) (by kernel_rfl) (fun _ _ _ h => h) (Or.inl ⟨by rfl, ?_⟩) hH ?_
  rotate_left
  · ((intro W hW; clear hW; go_simp) <;> with_reducible rfl)
  simp only [Act.put, List.getElem_toArray, List.getElem_cons_zero, List.getElem_cons_succ, List.setIfInBounds_toArray, List.set_cons_zero, List.set_cons_succ]
  refine wpAnyH_take (i := 7) (v := undef) rfl (by kernel_rfl) (by kernel_rfl) (by kernel_rfl) (fun _ _ _ h => h) (Or.inr ⟨by rfl, rfl⟩) hH ?_
  simp only [Act.put, List.getElem_toArray, List.getElem_cons_zero, List.getElem_cons_succ, List.setIfInBounds_toArray, List.set_cons_zero, List.set_cons_succ]
  refine wpAnyH_take (i := 8) (v := undef) rfl (by kernel_rfl) (by kernel_rfl) (by kernel_rfl) (fun _ _ _ h => h) (Or.inr ⟨by rfl, rfl⟩) hH ?_
  simp only [Act.put, List.getElem_toArray, List.getElem_cons_zero, List.getElem_cons_succ, List.setIfInBounds_toArray, List.set_cons_zero, List.set_cons_succ]
  refine wpAnyH_take (i := 9) (v := undef) rfl (by kernel_rfl) (by kernel_rfl) (by kernel_rfl) (fun _ _ _ h => h) (Or.inr ⟨by rfl, rfl⟩) hH ?_
  simp only [Act.put, List.getElem_toArray, List.getElem_cons_zero, List.getElem_cons_succ, List.setIfInBounds_toArray, List.set_cons_zero, List.set_cons_succ]
  refine wpAnyH_take (i := 10) (v := undef) rfl (by kernel_rfl) (by kernel_rfl) (by kernel_rfl) (fun _ _ _ h => h) (Or.inr ⟨by rfl, rfl⟩) hH ?_
  simp only [Act.put, List.getElem_toArray, List.getElem_cons_zero, List.getElem_cons_succ, List.setIfInBounds_toArray, List.set_cons_zero, List.set_cons_succ]
  refine wpAnyH_take (i := 11) (v := undef) rfl (by kernel_rfl) (by kernel_rfl) (by kernel_rfl) (fun _ _ _ h => h) (Or.inr ⟨by rfl, rfl⟩) hH ?_
  simp only [Act.put, List.getElem_toArray, List.getElem_cons_zero, List.getElem_cons_succ, List.setIfInBounds_toArray, List.set_cons_zero, List.set_cons_succ]
  refine wpAnyH_take (i := 12) (v := ?_) rfl (by kernel_rfl) (by kernel_rfl) (by kernel_rfl) (fun _ _ _ h => h) (Or.inl ⟨by rfl, ?_⟩) hH ?_
  rotate_left
  · ((intro W hW; clear hW; go_simp) <;> with_reducible rfl)
  simp only [Act.put, List.getElem_toArray, List.getElem_cons_zero, List.getElem_cons_succ, List.setIfInBounds_toArray, List.set_cons_zero, List.set_cons_succ]
  refine wpAnyH_take (i := 13) (v := ?_) rfl (by kernel_rfl) (by kernel_rfl) (by kernel_rfl) (fun _ _ _ h => h) (Or.inl ⟨by rfl, ?_⟩) hH ?_
  rotate_left
  · ((intro W hW; clear hW; go_simp) <;> with_reducible rfl)
  simp only [Act.put, List.getElem_toArray, List.getElem_cons_zero, List.getElem_cons_succ, List.setIfInBounds_toArray, List.set_cons_zero, List.set_cons_succ]
  refine wpAnyH_done (by kernel_rfl) ?_ _
  go_wp2_with fail
  go_ret
  exact ⟨rfl, bel⟩
set_option linter.unusedVariables false in
set_option maxRecDepth 100000 in
set_option maxHeartbeats 16000000 in
theorem tcpWrites_6 (tos id fl pt ttl pr : Int) (a0 a1 a2 a3 a4 a5 a6 a7 : UInt8) (So : Option Addr) (no co : Nat) (lo : List UInt8) (Sb : Option Addr) (nb cb : Nat) (lb : List UInt8) (sf st se ak fg wn ug : Int) (Q : Option Addr) (nq cq : Nat) (lq : List UInt8) (D : Option Addr) (nd cd : Nat) (ld : List UInt8) (w : World) (ho : Sl w So no co lo) (hb : Sl w Sb nb cb lb) (hQ : Sl w Q nq cq lq) (hD : Sl w D nd cd ld) (h1 : nb ≤ 1600) (h2 : no ≤ 60) (h3 : nd ≤ 1600) (h4 : nq ≤ 60) (e0 : 0 ≤ se) (e1 : se < 4294967296) (k0 : 0 ≤ ak) (k1 : ak < 4294967296) (g1 : segOk sf st fg wn ug nq = true) (g2 : nq + nd ≤ 1460) (hw : (decide (pt = 0) && decide (fl % 2 = 0)) = false) : Calls Try.prog 5 #[.agg #[.int .i64 tos, .int .i64 id, .int .i64 fl, .int .i64 pt, .int .i64 ttl, .int .i64 pr, .int .u8 (a0.toNat : Int), .int .u8 (a1.toNat : Int), .int .u8 (a2.toNat : Int), .int .u8 (a3.toNat : Int), .int .u8 (a4.toNat : Int), .int .u8 (a5.toNat : Int), .int .u8 (a6.toNat : Int), .int .u8 (a7.toNat : Int), .slice So no co, .slice Sb nb cb], .agg #[.int .i64 sf, .int .i64 st, .int .u32 se, .int .u32 ak, .int .i64 fg, .int .i64 wn, .int .i64 ug, .slice Q nq cq, .slice D nd cd]] w fun e w' => e = .returned (.bool true) ∧ Below w.heap.size w w' := by
  have t1 : decide ((1600 : Int) < nb) = false := decide_eq_false (by omega)
  have t2 : decide ((60 : Int) < no) = false := decide_eq_false (by omega)
  have t3 : decide ((1600 : Int) < nd) = false := decide_eq_false (by omega)
  have t4 : decide ((60 : Int) < nq) = false := decide_eq_false (by omega)
  have H2 := Lib.hid h2
  have H3 := Lib.hid h3
  have E0 := Lib.hid e0
  have E1 := Lib.hid e1
  have K0 := Lib.hid k0
  have K1 := Lib.hid k1
  clear h1 h2 h3 h4 e0 e1 k0 k1
  have G1 := Lib.hid g1
  have G2 := Lib.hid g2
  clear g1 g2
  have HW := Lib.hid hw
  clear hw
  have bel := Below.refl w.heap.size w
  go_enter Try.func5, Try.ntmps5
  go_wp2_with (first | ((with_reducible show wpList _ _ _ (⟨some 2, _, _, _, _, _⟩ :: _) _ _); refine wpList_box_n rfl 27 (.tmp 0) rfl #[.int .i64 tos, .int .i64 id, .int .i64 fl, .int .i64 pt, .int .i64 ttl, .int .i64 pr, .int .u8 (a0.toNat : Int), .int .u8 (a1.toNat : Int), .int .u8 (a2.toNat : Int), .int .u8 (a3.toNat : Int), .int .u8 (a4.toNat : Int), .int .u8 (a5.toNat : Int), .int .u8 (a6.toNat : Int), .int .u8 (a7.toNat : Int), .slice So no co, .slice Sb nb cb] rfl ?_; intro g2 w1 ge lt hh bb; have av_ho_p := ho.av_new ge; have av_hb_p := hb.av_new ge; have av_hQ_p := hQ.av_new ge; have av_hD_p := hD.av_new ge; have op := Nat.le_trans bel.size ge; replace ho := ho.below bb; replace hb := hb.below bb; replace hQ := hQ.below bb; replace hD := hD.below bb; replace bel := bel.trans (bb.mono bel.size); have hp := hh; clear hh lt ge bb) | ((with_reducible show wpList _ _ _ (⟨some 3, _, _, _, _, _⟩ :: _) _ _); refine wpList_box_n rfl 34 (.tmp 1) rfl #[.int .i64 sf, .int .i64 st, .int .u32 se, .int .u32 ak, .int .i64 fg, .int .i64 wn, .int .i64 ug, .slice Q nq cq, .slice D nd cd] rfl ?_; intro g3 w2 ge lt hh bb; have d_p_d := ne_new (hlt hp) ge; have av_ho_d := ho.av_new ge; have av_hb_d := hb.av_new ge; have av_hQ_d := hQ.av_new ge; have av_hD_d := hD.av_new ge; have od := Nat.le_trans bel.size ge; replace hp := blk_u hp bb; replace ho := ho.below bb; replace hb := hb.below bb; replace hQ := hQ.below bb; replace hD := hD.below bb; replace bel := bel.trans (bb.mono bel.size); have hd := hh; clear hh lt ge bb))
  with_reducible refine (awake8 _).mono ?_
  rintro e w3 ⟨rfl, b3⟩
  replace hp := blk_u hp b3
  replace hd := blk_u hd b3
  replace ho := ho.below b3
  replace hb := hb.below b3
  replace hQ := hQ.below b3
  replace hD := hD.below b3
  replace bel := bel.trans (b3.mono bel.size)
  clear b3
  have R14 := cell_lit hp 15 _ rfl
  have R19 := cell_lit hp 14 _ rfl
  have R25 := cell_lit hd 8 _ rfl
  have R31 := cell_lit hd 7 _ rfl
  have R36 := Lib.hid (range_lit hp 0 16 [.int .i64 tos, .int .i64 id, .int .i64 fl, .int .i64 pt, .int .i64 ttl, .int .i64 pr, .int .u8 (a0.toNat : Int), .int .u8 (a1.toNat : Int), .int .u8 (a2.toNat : Int), .int .u8 (a3.toNat : Int), .int .u8 (a4.toNat : Int), .int .u8 (a5.toNat : Int), .int .u8 (a6.toNat : Int), .int .u8 (a7.toNat : Int), .slice So no co, .slice Sb nb cb] rfl)
  go_wp2_with (first | ((with_reducible show wpList _ _ _ (⟨some 36, _, _, _, _, _⟩ :: _) _ _); refine wpList_load_rng 27 (.tmp 2) rfl (by kernel_rfl) _ _ rfl _ R36.out _ Try.underlying27 rfl (by kernel_rfl) ?_; have R37 := Lib.hid (range_lit hd 0 9 [.int .i64 sf, .int .i64 st, .int .u32 se, .int .u32 ak, .int .i64 fg, .int .i64 wn, .int .i64 ug, .slice Q nq cq, .slice D nd cd] rfl)) | ((with_reducible show wpList _ _ _ (⟨some 37, _, _, _, _, _⟩ :: _) _ _); refine wpList_load_rng 34 (.tmp 3) rfl (by kernel_rfl) _ _ rfl _ R37.out _ Try.underlying34 rfl (by kernel_rfl) ?_))
  try clear R14
  try clear R19
  try clear R25
  try clear R31
  try clear R36
  try clear R37
  with_reducible refine (tcput_good _ _ _ _ _ _ _ _ _ _ _ _ _ _ _ _ _ _ _ _ _ _ _ _ _ _ _ _ _ _ _ _ _ _ _ _ _  ho hQ hD G1.out G2.out (by have := H2.out; omega) E0.out E1.out K0.out K1.out).mono ?_
  rintro e w4 ⟨Ao1, co1, Ab1, cb1, rfl, so1, sb1, fo1, fb1, b4⟩
  have av_so1_p := fo1.av (hlt hp)
  have av_so1_d := fo1.av (hlt hd)
  have av_sb1_p := fb1.av (hlt hp)
  have av_sb1_d := fb1.av (hlt hd)
  replace hp := blk_u hp b4
  replace hd := blk_u hd b4
  replace ho := ho.below b4
  replace hb := hb.below b4
  replace hQ := hQ.below b4
  replace hD := hD.below b4
  replace bel := bel.trans (b4.mono bel.size)
  clear b4
  replace so1 : Sl w4 (Ao1) (no) (co1) (lo) := so1
  replace sb1 : Sl w4 (Ab1) (20 + nq + nd) (cb1) (tcBytes a0 a1 a2 a3 a4 a5 a6 a7 sf st se ak fg wn ug lq ld) := sb1
  go_wp2_with (first | ((with_reducible show wpList _ _ _ (⟨some 5, _, _, _, _, _⟩ :: _) _ _); refine wpList_new_a rfl 27 rfl #[.int .i64 0, .int .i64 0, .int .i64 0, .int .i64 0, .int .i64 0, .int .i64 0, .int .u8 0, .int .u8 0, .int .u8 0, .int .u8 0, .int .u8 0, .int .u8 0, .int .u8 0, .int .u8 0, .slice none 0 0, .slice none 0 0] (by kernel_rfl) ?_; intro g5 w5 ge hh bb; have d_p_e := ne_new (hlt hp) ge; have d_d_e := ne_new (hlt hd) ge; have av_ho_e := ho.av_new ge; have av_hb_e := hb.av_new ge; have av_hQ_e := hQ.av_new ge; have av_hD_e := hD.av_new ge; have av_so1_e := so1.av_new ge; have av_sb1_e := sb1.av_new ge; have oe := Nat.le_trans bel.size ge; replace hp := blk_u hp bb; replace hd := blk_u hd bb; replace ho := ho.below bb; replace hb := hb.below bb; replace hQ := hQ.below bb; replace hD := hD.below bb; replace so1 := so1.below bb; replace sb1 := sb1.below bb; replace bel := bel.trans (bb.mono bel.size); have he := hh; clear hh ge bb) | ((with_reducible show wpList _ _ _ (⟨none, Op.store _ (.tmp 5) _, _, _, _, _⟩ :: _) _ _); refine wpList_store_blk rfl 27 (.tmp 5) (.tmp 39) rfl g5 rfl _ rfl _ 27 he (by rfl) (by kernel_rfl) (by kernel_rfl) ?_; intro w6 hq gr; replace ho := ho.away av_ho_e gr; replace hb := hb.away av_hb_e gr; replace hQ := hQ.away av_hQ_e gr; replace hD := hD.away av_hD_e gr; replace so1 := so1.away av_so1_e gr; replace sb1 := sb1.away av_sb1_e gr; replace hp := blk_a hp gr d_p_e; replace hd := blk_a hd gr d_d_e; replace bel := below_grown bel gr oe bel.size; clear he; have he := hq; clear hq gr))
  go_cut [7, 8] from 9999 (fun s7 s8 W => ∃ g7 : Nat, ∃ Ao2 : Option Addr, ∃ co2 : Nat, ∃ Ab2 : Option Addr, ∃ cb2 : Nat, s7 = .pointer (some ⟨g7, 0, none⟩) ∧ s8 = .int .i64 0 ∧ W.heap[g2]? = some (.cells #[.int .i64 tos, .int .i64 id, .int .i64 fl, .int .i64 pt, .int .i64 ttl, .int .i64 pr, .int .u8 (a0.toNat : Int), .int .u8 (a1.toNat : Int), .int .u8 (a2.toNat : Int), .int .u8 (a3.toNat : Int), .int .u8 (a4.toNat : Int), .int .u8 (a5.toNat : Int), .int .u8 (a6.toNat : Int), .int .u8 (a7.toNat : Int), .slice So no co, .slice Sb nb cb] 27 (0, 0)) ∧ W.heap[g3]? = some (.cells #[.int .i64 sf, .int .i64 st, .int .u32 se, .int .u32 ak, .int .i64 fg, .int .i64 wn, .int .i64 ug, .slice Q nq cq, .slice D nd cd] 34 (0, 0)) ∧ W.heap[g5]? = some (.cells #[.int .i64 tos, .int .i64 id, .int .i64 fl, .int .i64 pt, .int .i64 ttl, .int .i64 6, .int .u8 (a0.toNat : Int), .int .u8 (a1.toNat : Int), .int .u8 (a2.toNat : Int), .int .u8 (a3.toNat : Int), .int .u8 (a4.toNat : Int), .int .u8 (a5.toNat : Int), .int .u8 (a6.toNat : Int), .int .u8 (a7.toNat : Int), .slice Ao1 no co1, .slice Ab1 (20 + nq + nd) cb1] 27 (0, 0)) ∧ W.heap[g7]? = some (.cells #[.int .i64 tos, .int .i64 id, .int .i64 fl, .int .i64 pt, .int .i64 ttl, .int .i64 6, .int .u8 (a0.toNat : Int), .int .u8 (a1.toNat : Int), .int .u8 (a2.toNat : Int), .int .u8 (a3.toNat : Int), .int .u8 (a4.toNat : Int), .int .u8 (a5.toNat : Int), .int .u8 (a6.toNat : Int), .int .u8 (a7.toNat : Int), .slice Ao2 no co2, .slice Ab2 (20 + nq + nd) cb2] 40 (0, 0)) ∧ w.heap.size ≤ g7 ∧ Hid (g3 ≠ g5) ∧ Hid (g3 ≠ g2) ∧ Hid (g3 ≠ g7) ∧ Hid (g5 ≠ g2) ∧ Hid (g5 ≠ g7) ∧ Hid (g2 ≠ g7) ∧ Sl W (So) (no) (co) (lo) ∧ Av (So) (no) g3 ∧ Av (So) (no) g5 ∧ Av (So) (no) g2 ∧ Av (So) (no) g7 ∧ Sl W (Sb) (nb) (cb) (lb) ∧ Av (Sb) (nb) g3 ∧ Av (Sb) (nb) g5 ∧ Av (Sb) (nb) g2 ∧ Av (Sb) (nb) g7 ∧ Sl W (Q) (nq) (cq) (lq) ∧ Av (Q) (nq) g3 ∧ Av (Q) (nq) g5 ∧ Av (Q) (nq) g2 ∧ Av (Q) (nq) g7 ∧ Sl W (D) (nd) (cd) (ld) ∧ Av (D) (nd) g3 ∧ Av (D) (nd) g5 ∧ Av (D) (nd) g2 ∧ Av (D) (nd) g7 ∧ Sl W (Ao1) (no) (co1) (lo) ∧ Av (Ao1) (no) g3 ∧ Av (Ao1) (no) g5 ∧ Av (Ao1) (no) g2 ∧ Av (Ao1) (no) g7 ∧ Sl W (Ab1) (20 + nq + nd) (cb1) (tcBytes a0 a1 a2 a3 a4 a5 a6 a7 sf st se ak fg wn ug lq ld) ∧ Av (Ab1) (20 + nq + nd) g3 ∧ Av (Ab1) (20 + nq + nd) g5 ∧ Av (Ab1) (20 + nq + nd) g2 ∧ Av (Ab1) (20 + nq + nd) g7 ∧ Sl W (Ao2) (no) (co2) (lo) ∧ Av (Ao2) (no) g3 ∧ Av (Ao2) (no) g5 ∧ Av (Ao2) (no) g2 ∧ Av (Ao2) (no) g7 ∧ Sl W (Ab2) (20 + nq + nd) (cb2) (tcBytes a0 a1 a2 a3 a4 a5 a6 a7 sf st se ak fg wn ug lq ld) ∧ Av (Ab2) (20 + nq + nd) g3 ∧ Av (Ab2) (20 + nq + nd) g5 ∧ Av (Ab2) (20 + nq + nd) g2 ∧ Av (Ab2) (20 + nq + nd) g7 ∧ Below w.heap.size w W)
  case first =>
    replace bel := bel.drew
    replace hp : w6.drew.heap[g2]? = _ := hp
    replace hd : w6.drew.heap[g3]? = _ := hd
    replace he : w6.drew.heap[g5]? = _ := he
    replace ho := ho.drew
    replace hb := hb.drew
    replace hQ := hQ.drew
    replace hD := hD.drew
    replace so1 := so1.drew
    replace sb1 := sb1.drew
    refine wp_region_held_drew (S := fun W => W.heap[g2]? = some (.cells #[.int .i64 tos, .int .i64 id, .int .i64 fl, .int .i64 pt, .int .i64 ttl, .int .i64 pr, .int .u8 (a0.toNat : Int), .int .u8 (a1.toNat : Int), .int .u8 (a2.toNat : Int), .int .u8 (a3.toNat : Int), .int .u8 (a4.toNat : Int), .int .u8 (a5.toNat : Int), .int .u8 (a6.toNat : Int), .int .u8 (a7.toNat : Int), .slice So no co, .slice Sb nb cb] 27 (0, 0)) ∧ W.heap[g3]? = some (.cells #[.int .i64 sf, .int .i64 st, .int .u32 se, .int .u32 ak, .int .i64 fg, .int .i64 wn, .int .i64 ug, .slice Q nq cq, .slice D nd cd] 34 (0, 0))) (by kernel_rfl) ⟨hp, hd⟩ (fun hH => ?_)
    generalize w6.drew = w7 at bel hp hd he ho hb hQ hD so1 sb1 hH ⊢
    refine wpAnyH_take (i := 0) (v := .agg #[.int .i64 tos, .int .i64 id, .int .i64 fl, .int .i64 pt, .int .i64 ttl, .int .i64 pr, .int .u8 (a0.toNat : Int), .int .u8 (a1.toNat : Int), .int .u8 (a2.toNat : Int), .int .u8 (a3.toNat : Int), .int .u8 (a4.toNat : Int), .int .u8 (a5.toNat : Int), .int .u8 (a6.toNat : Int), .int .u8 (a7.toNat : Int), .slice So no co, .slice Sb nb cb]) rfl (by kernel_rfl) (by kernel_rfl) (by kernel_rfl) (fun _ _ _ h => h) (yieldsIf_load_part (by kernel_rfl) 27 _ rfl g2 0 16 rfl _ 27 (0, 0) (fun W hW => hW.1) _ rfl _ Try.underlying27 rfl (by kernel_rfl)) hH ?_
    simp only [Act.put, List.getElem_toArray, List.getElem_cons_zero, List.setIfInBounds_toArray, List.set_cons_zero, List.set_cons_succ]
    refine wpAnyH_take (i := 2) (v := .agg #[.int .i64 sf, .int .i64 st, .int .u32 se, .int .u32 ak, .int .i64 fg, .int .i64 wn, .int .i64 ug, .slice Q nq cq, .slice D nd cd]) rfl (by kernel_rfl) (by kernel_rfl) (by kernel_rfl) (fun _ _ _ h => h) (yieldsIf_load_part (by kernel_rfl) 34 _ rfl g3 0 9 rfl _ 34 (0, 0) (fun W hW => hW.2) _ rfl _ Try.underlying34 rfl (by kernel_rfl)) hH ?_
    simp only [Act.put, List.getElem_toArray, List.getElem_cons_zero, List.getElem_cons_succ, List.setIfInBounds_toArray, List.set_cons_zero, List.set_cons_succ]
    refine wpAnyH_ready (rs := [1, 8]) (by kernel_rfl) (by simp) ?_
    refine AllReadyH.cons (o := _) rfl (fun K hK => ?_) (AllReadyH.cons (o := _) rfl (fun K hK => ?_) AllReadyH.nil)
    · simp only [List.getElem_toArray, List.getElem_cons_zero, List.getElem_cons_succ]
      go_simp
      with_reducible refine (own8_any _ _ _ _ _ _ _ _ _ _ _ _ _ _ _ _ _ _ _ _ _).mono ?_
      rintro e w8 ⟨rfl, b8⟩
      dsimp only
      replace hp := blk_u hp b8
      replace hd := blk_u hd b8
      replace he := blk_u he b8
      replace ho := ho.below b8
      replace hb := hb.below b8
      replace hQ := hQ.below b8
      replace hD := hD.below b8
      replace so1 := so1.below b8
      replace sb1 := sb1.below b8
      replace bel := bel.trans (b8.mono bel.size)
      clear b8
      refine hK.out _ _ ⟨hp, hd⟩ (fun hH9 => ?_)
      clear hK K
      refine wpAnyH_ready (rs := [3, 8]) (by kernel_rfl) (by simp) ?_
      refine AllReadyH.cons (o := _) rfl (fun K hK => ?_) (AllReadyH.cons (o := _) rfl (fun K hK => ?_) AllReadyH.nil)
      · simp only [List.getElem_toArray, List.getElem_cons_zero, List.getElem_cons_succ]
        go_simp
        with_reducible refine (seg8_any _ _ _ _ _ _ _ _ _ _ _ _ _ _).mono ?_
        rintro e w10 ⟨rfl, b10⟩
        dsimp only
        replace hp := blk_u hp b10
        replace hd := blk_u hd b10
        replace he := blk_u he b10
        replace ho := ho.below b10
        replace hb := hb.below b10
        replace hQ := hQ.below b10
        replace hD := hD.below b10
        replace so1 := so1.below b10
        replace sb1 := sb1.below b10
        replace bel := bel.trans (b10.mono bel.size)
        clear b10
        refine hK.out _ _ ⟨hp, hd⟩ (fun hH11 => ?_)
        clear hK K
        refine wpAnyH_ready (rs := [4, 8]) (by kernel_rfl) (by simp) ?_
        refine AllReadyH.cons (o := _) rfl (fun K hK => ?_) (AllReadyH.cons (o := _) rfl (fun K hK => ?_) AllReadyH.nil)
        · simp only [List.getElem_toArray, List.getElem_cons_zero, List.getElem_cons_succ]
          go_simp
          with_reducible refine (rtcput_good _ _ _ _ _ _ _ _ _ _ _ _ _ _ _ _ _ _ _ _ _ _ _ _ _ _ _ _ _ _ _ _ _ _ _ _ _  ho hQ hD G1.out G2.out (by have := H2.out; omega) E0.out E1.out K0.out K1.out).mono ?_
          rintro e w12 ⟨Ao2, co2, Ab2, cb2, rfl, so2, sb2, fo2, fb2, b12⟩
          dsimp only
          have av_so2_p := fo2.av (hlt hp)
          have av_so2_d := fo2.av (hlt hd)
          have av_so2_e := fo2.av (hlt he)
          have av_sb2_p := fb2.av (hlt hp)
          have av_sb2_d := fb2.av (hlt hd)
          have av_sb2_e := fb2.av (hlt he)
          replace hp := blk_u hp b12
          replace hd := blk_u hd b12
          replace he := blk_u he b12
          replace ho := ho.below b12
          replace hb := hb.below b12
          replace hQ := hQ.below b12
          replace hD := hD.below b12
          replace so1 := so1.below b12
          replace sb1 := sb1.below b12
          replace bel := bel.trans (b12.mono bel.size)
          clear b12
          replace so2 : Sl w12 (Ao2) (no) (co2) (lo) := so2
          replace sb2 : Sl w12 (Ab2) (20 + nq + nd) (cb2) (tcBytes a0 a1 a2 a3 a4 a5 a6 a7 sf st se ak fg wn ug lq ld) := sb2
          refine hK.out _ _ ⟨hp, hd⟩ (fun hH13 => ?_)
          clear hK K
          refine wpAnyH_take (i := 5) (v := ?_) rfl (by kernel_rfl) (by kernel_rfl) (by kernel_rfl) (fun _ _ _ h => h) (Or.inl ⟨by rfl, ?_⟩) hH13 ?_
          rotate_left
          · ((intro W hW; clear hW; go_simp) <;> with_reducible rfl)
          simp only [Act.put, List.getElem_toArray, List.getElem_cons_zero, List.getElem_cons_succ, List.setIfInBounds_toArray, List.set_cons_zero, List.set_cons_succ]
          refine wpAnyH_take (i := 6) (v := ?_) rfl (by kernel_rfl) (by kernel_rfl) (by kernel_rfl) (fun _ _ _ h => h) (Or.inl ⟨by rfl, ?_⟩) hH13 ?_
          rotate_left
          · ((intro W hW; clear hW; go_simp) <;> with_reducible rfl)
          simp only [Act.put, List.getElem_toArray, List.getElem_cons_zero, List.getElem_cons_succ, List.setIfInBounds_toArray, List.set_cons_zero, List.set_cons_succ]
          refine wpAnyH_take (i := 7) (v := ?_) rfl (by kernel_rfl) (by kernel_rfl) (by kernel_rfl) (fun _ _ _ h => h) (Or.inl ⟨by rfl, ?_⟩) hH13 ?_
          rotate_left
          · ((intro W hW; clear hW; go_simp) <;> with_reducible rfl)
          simp only [Act.put, List.getElem_toArray, List.getElem_cons_zero, List.getElem_cons_succ, List.setIfInBounds_toArray, List.set_cons_zero, List.set_cons_succ]
          refine wpAnyH_ready (rs := [8]) (by kernel_rfl) (by simp) ?_
          refine AllReadyH.cons (o := _) rfl (fun K hK => ?_) AllReadyH.nil
          simp only [List.getElem_toArray, List.getElem_cons_zero, List.getElem_cons_succ]
          rw [if_pos (by rfl)]
          refine wp_new_a 40 rfl #[.int .i64 0, .int .i64 0, .int .i64 0, .int .i64 0, .int .i64 0, .int .i64 0, .int .u8 0, .int .u8 0, .int .u8 0, .int .u8 0, .int .u8 0, .int .u8 0, .int .u8 0, .int .u8 0, .slice none 0 0, .slice none 0 0] (by kernel_rfl) ?_
          intro g7 w14 ge hh bb
          have d_p_r := ne_new (hlt hp) ge
          have d_d_r := ne_new (hlt hd) ge
          have d_e_r := ne_new (hlt he) ge
          have av_ho_r := ho.av_new ge
          have av_hb_r := hb.av_new ge
          have av_hQ_r := hQ.av_new ge
          have av_hD_r := hD.av_new ge
          have av_so1_r := so1.av_new ge
          have av_sb1_r := sb1.av_new ge
          have av_so2_r := so2.av_new ge
          have av_sb2_r := sb2.av_new ge
          have or := Nat.le_trans bel.size ge
          replace hp := blk_u hp bb
          replace hd := blk_u hd bb
          replace he := blk_u he bb
          replace ho := ho.below bb
          replace hb := hb.below bb
          replace hQ := hQ.below bb
          replace hD := hD.below bb
          replace so1 := so1.below bb
          replace sb1 := sb1.below bb
          replace so2 := so2.below bb
          replace sb2 := sb2.below bb
          replace bel := bel.trans (bb.mono bel.size)
          have hr := hh
          clear hh ge bb
          refine hK.out _ _ ⟨hp, hd⟩ (fun hH15 => ?_)
          clear hK K
          simp only [Act.put, List.setIfInBounds_toArray, List.set_cons_zero, List.set_cons_succ]
          refine wpAnyH_ready (rs := [9]) (by kernel_rfl) (by simp) ?_
          refine AllReadyH.cons (o := _) rfl (fun K hK => ?_) AllReadyH.nil
          simp only [List.getElem_toArray, List.getElem_cons_zero, List.getElem_cons_succ]
          rw [if_pos (by rfl)]
          refine wp_store_blk 40 (.tmp 7) (.tmp 47) rfl g7 rfl _ rfl _ 40 hr (by rfl) (by kernel_rfl) (by kernel_rfl) ?_
          intro w16 hq gr
          replace ho := ho.away av_ho_r gr
          replace hb := hb.away av_hb_r gr
          replace hQ := hQ.away av_hQ_r gr
          replace hD := hD.away av_hD_r gr
          replace so1 := so1.away av_so1_r gr
          replace sb1 := sb1.away av_sb1_r gr
          replace so2 := so2.away av_so2_r gr
          replace sb2 := sb2.away av_sb2_r gr
          replace hp := blk_a hp gr d_p_r
          replace hd := blk_a hd gr d_d_r
          replace he := blk_a he gr d_e_r
          replace bel := below_grown bel gr or bel.size
          clear hr
          have hr := hq
          clear hq gr
          refine hK.out _ _ ⟨hp, hd⟩ (fun hH17 => ?_)
          clear hK K
          simp only [Act.put]
          refine wpAnyH_take (i := 10) (v := ?_) rfl (by kernel_rfl) (by kernel_rfl) (by kernel_rfl) (fun _ _ _ h => h) (Or.inl ⟨by rfl, ?_⟩) hH17 ?_
          rotate_left
          · ((intro W hW; clear hW; go_simp) <;> with_reducible rfl)
          simp only [Act.put, List.getElem_toArray, List.getElem_cons_zero, List.getElem_cons_succ, List.setIfInBounds_toArray, List.set_cons_zero, List.set_cons_succ]
          refine wpAnyH_done (by kernel_rfl) ?_ _
          go_wp2_with fail
          go_meet
          case rel => exact ⟨g7, Ao2, co2, Ab2, cb2, rfl, rfl, hp, hd, he, hr, or, d_d_e, (ne_symm d_p_d), d_d_r, (ne_symm d_p_e), d_e_r, d_p_r, ho, av_ho_d, av_ho_e, av_ho_p, av_ho_r, hb, av_hb_d, av_hb_e, av_hb_p, av_hb_r, hQ, av_hQ_d, av_hQ_e, av_hQ_p, av_hQ_r, hD, av_hD_d, av_hD_e, av_hD_p, av_hD_r, so1, av_so1_d, av_so1_e, av_so1_p, av_so1_r, sb1, av_sb1_d, av_sb1_e, av_sb1_p, av_sb1_r, so2, av_so2_d, av_so2_e, av_so2_p, av_so2_r, sb2, av_sb2_d, av_sb2_e, av_sb2_p, av_sb2_r, bel⟩
        · simp only [List.getElem_toArray, List.getElem_cons_zero, List.getElem_cons_succ]
          rw [if_pos (by rfl)]
          refine wp_new_a 40 rfl #[.int .i64 0, .int .i64 0, .int .i64 0, .int .i64 0, .int .i64 0, .int .i64 0, .int .u8 0, .int .u8 0, .int .u8 0, .int .u8 0, .int .u8 0, .int .u8 0, .int .u8 0, .int .u8 0, .slice none 0 0, .slice none 0 0] (by kernel_rfl) ?_
          intro g7 w12 ge hh bb
          have d_p_r := ne_new (hlt hp) ge
          have d_d_r := ne_new (hlt hd) ge
          have d_e_r := ne_new (hlt he) ge
          have av_ho_r := ho.av_new ge
          have av_hb_r := hb.av_new ge
          have av_hQ_r := hQ.av_new ge
          have av_hD_r := hD.av_new ge
          have av_so1_r := so1.av_new ge
          have av_sb1_r := sb1.av_new ge
          have or := Nat.le_trans bel.size ge
          replace hp := blk_u hp bb
          replace hd := blk_u hd bb
          replace he := blk_u he bb
          replace ho := ho.below bb
          replace hb := hb.below bb
          replace hQ := hQ.below bb
          replace hD := hD.below bb
          replace so1 := so1.below bb
          replace sb1 := sb1.below bb
          replace bel := bel.trans (bb.mono bel.size)
          have hr := hh
          clear hh ge bb
          refine hK.out _ _ ⟨hp, hd⟩ (fun hH13 => ?_)
          clear hK K
          simp only [Act.put, List.setIfInBounds_toArray, List.set_cons_zero, List.set_cons_succ]
          refine wpAnyH_ready (rs := [4]) (by kernel_rfl) (by simp) ?_
          refine AllReadyH.cons (o := _) rfl (fun K hK => ?_) AllReadyH.nil
          simp only [List.getElem_toArray, List.getElem_cons_zero, List.getElem_cons_succ]
          go_simp
          with_reducible refine (rtcput_good _ _ _ _ _ _ _ _ _ _ _ _ _ _ _ _ _ _ _ _ _ _ _ _ _ _ _ _ _ _ _ _ _ _ _ _ _  ho hQ hD G1.out G2.out (by have := H2.out; omega) E0.out E1.out K0.out K1.out).mono ?_
          rintro e w14 ⟨Ao2, co2, Ab2, cb2, rfl, so2, sb2, fo2, fb2, b14⟩
          dsimp only
          have av_so2_p := fo2.av (hlt hp)
          have av_so2_d := fo2.av (hlt hd)
          have av_so2_e := fo2.av (hlt he)
          have av_so2_r := fo2.av (hlt hr)
          have av_sb2_p := fb2.av (hlt hp)
          have av_sb2_d := fb2.av (hlt hd)
          have av_sb2_e := fb2.av (hlt he)
          have av_sb2_r := fb2.av (hlt hr)
          replace hp := blk_u hp b14
          replace hd := blk_u hd b14
          replace he := blk_u he b14
          replace hr := blk_u hr b14
          replace ho := ho.below b14
          replace hb := hb.below b14
          replace hQ := hQ.below b14
          replace hD := hD.below b14
          replace so1 := so1.below b14
          replace sb1 := sb1.below b14
          replace bel := bel.trans (b14.mono bel.size)
          clear b14
          replace so2 : Sl w14 (Ao2) (no) (co2) (lo) := so2
          replace sb2 : Sl w14 (Ab2) (20 + nq + nd) (cb2) (tcBytes a0 a1 a2 a3 a4 a5 a6 a7 sf st se ak fg wn ug lq ld) := sb2
          refine hK.out _ _ ⟨hp, hd⟩ (fun hH15 => ?_)
          clear hK K
          refine wpAnyH_take (i := 5) (v := ?_) rfl (by kernel_rfl) (by kernel_rfl) (by kernel_rfl) (fun _ _ _ h => h) (Or.inl ⟨by rfl, ?_⟩) hH15 ?_
          rotate_left
          · ((intro W hW; clear hW; go_simp) <;> with_reducible rfl)
          simp only [Act.put, List.getElem_toArray, List.getElem_cons_zero, List.getElem_cons_succ, List.setIfInBounds_toArray, List.set_cons_zero, List.set_cons_succ]
          refine wpAnyH_take (i := 6) (v := ?_) rfl (by kernel_rfl) (by kernel_rfl) (by kernel_rfl) (fun _ _ _ h => h) (Or.inl ⟨by rfl, ?_⟩) hH15 ?_
          rotate_left
          · ((intro W hW; clear hW; go_simp) <;> with_reducible rfl)
          simp only [Act.put, List.getElem_toArray, List.getElem_cons_zero, List.getElem_cons_succ, List.setIfInBounds_toArray, List.set_cons_zero, List.set_cons_succ]
          refine wpAnyH_take (i := 7) (v := ?_) rfl (by kernel_rfl) (by kernel_rfl) (by kernel_rfl) (fun _ _ _ h => h) (Or.inl ⟨by rfl, ?_⟩) hH15 ?_
          rotate_left
          · ((intro W hW; clear hW; go_simp) <;> with_reducible rfl)
          simp only [Act.put, List.getElem_toArray, List.getElem_cons_zero, List.getElem_cons_succ, List.setIfInBounds_toArray, List.set_cons_zero, List.set_cons_succ]
          refine wpAnyH_ready (rs := [9]) (by kernel_rfl) (by simp) ?_
          refine AllReadyH.cons (o := _) rfl (fun K hK => ?_) AllReadyH.nil
          simp only [List.getElem_toArray, List.getElem_cons_zero, List.getElem_cons_succ]
          rw [if_pos (by rfl)]
          refine wp_store_blk 40 (.tmp 7) (.tmp 47) rfl g7 rfl _ rfl _ 40 hr (by rfl) (by kernel_rfl) (by kernel_rfl) ?_
          intro w16 hq gr
          replace ho := ho.away av_ho_r gr
          replace hb := hb.away av_hb_r gr
          replace hQ := hQ.away av_hQ_r gr
          replace hD := hD.away av_hD_r gr
          replace so1 := so1.away av_so1_r gr
          replace sb1 := sb1.away av_sb1_r gr
          replace so2 := so2.away av_so2_r gr
          replace sb2 := sb2.away av_sb2_r gr
          replace hp := blk_a hp gr d_p_r
          replace hd := blk_a hd gr d_d_r
          replace he := blk_a he gr d_e_r
          replace bel := below_grown bel gr or bel.size
          clear hr
          have hr := hq
          clear hq gr
          refine hK.out _ _ ⟨hp, hd⟩ (fun hH17 => ?_)
          clear hK K
          simp only [Act.put]
          refine wpAnyH_take (i := 10) (v := ?_) rfl (by kernel_rfl) (by kernel_rfl) (by kernel_rfl) (fun _ _ _ h => h) (Or.inl ⟨by rfl, ?_⟩) hH17 ?_
          rotate_left
          · ((intro W hW; clear hW; go_simp) <;> with_reducible rfl)
          simp only [Act.put, List.getElem_toArray, List.getElem_cons_zero, List.getElem_cons_succ, List.setIfInBounds_toArray, List.set_cons_zero, List.set_cons_succ]
          refine wpAnyH_done (by kernel_rfl) ?_ _
          go_wp2_with fail
          go_meet
          case rel => exact ⟨g7, Ao2, co2, Ab2, cb2, rfl, rfl, hp, hd, he, hr, or, d_d_e, (ne_symm d_p_d), d_d_r, (ne_symm d_p_e), d_e_r, d_p_r, ho, av_ho_d, av_ho_e, av_ho_p, av_ho_r, hb, av_hb_d, av_hb_e, av_hb_p, av_hb_r, hQ, av_hQ_d, av_hQ_e, av_hQ_p, av_hQ_r, hD, av_hD_d, av_hD_e, av_hD_p, av_hD_r, so1, av_so1_d, av_so1_e, av_so1_p, av_so1_r, sb1, av_sb1_d, av_sb1_e, av_sb1_p, av_sb1_r, so2, av_so2_d, av_so2_e, av_so2_p, av_so2_r, sb2, av_sb2_d, av_sb2_e, av_sb2_p, av_sb2_r, bel⟩
      · simp only [List.getElem_toArray, List.getElem_cons_zero, List.getElem_cons_succ]
        rw [if_pos (by rfl)]
        refine wp_new_a 40 rfl #[.int .i64 0, .int .i64 0, .int .i64 0, .int .i64 0, .int .i64 0, .int .i64 0, .int .u8 0, .int .u8 0, .int .u8 0, .int .u8 0, .int .u8 0, .int .u8 0, .int .u8 0, .int .u8 0, .slice none 0 0, .slice none 0 0] (by kernel_rfl) ?_
        intro g7 w10 ge hh bb
        have d_p_r := ne_new (hlt hp) ge
        have d_d_r := ne_new (hlt hd) ge
        have d_e_r := ne_new (hlt he) ge
        have av_ho_r := ho.av_new ge
        have av_hb_r := hb.av_new ge
        have av_hQ_r := hQ.av_new ge
        have av_hD_r := hD.av_new ge
        have av_so1_r := so1.av_new ge
        have av_sb1_r := sb1.av_new ge
        have or := Nat.le_trans bel.size ge
        replace hp := blk_u hp bb
        replace hd := blk_u hd bb
        replace he := blk_u he bb
        replace ho := ho.below bb
        replace hb := hb.below bb
        replace hQ := hQ.below bb
        replace hD := hD.below bb
        replace so1 := so1.below bb
        replace sb1 := sb1.below bb
        replace bel := bel.trans (bb.mono bel.size)
        have hr := hh
        clear hh ge bb
        refine hK.out _ _ ⟨hp, hd⟩ (fun hH11 => ?_)
        clear hK K
        simp only [Act.put, List.setIfInBounds_toArray, List.set_cons_zero, List.set_cons_succ]
        refine wpAnyH_ready (rs := [3]) (by kernel_rfl) (by simp) ?_
        refine AllReadyH.cons (o := _) rfl (fun K hK => ?_) AllReadyH.nil
        simp only [List.getElem_toArray, List.getElem_cons_zero, List.getElem_cons_succ]
        go_simp
        with_reducible refine (seg8_any _ _ _ _ _ _ _ _ _ _ _ _ _ _).mono ?_
        rintro e w12 ⟨rfl, b12⟩
        dsimp only
        replace hp := blk_u hp b12
        replace hd := blk_u hd b12
        replace he := blk_u he b12
        replace hr := blk_u hr b12
        replace ho := ho.below b12
        replace hb := hb.below b12
        replace hQ := hQ.below b12
        replace hD := hD.below b12
        replace so1 := so1.below b12
        replace sb1 := sb1.below b12
        replace bel := bel.trans (b12.mono bel.size)
        clear b12
        refine hK.out _ _ ⟨hp, hd⟩ (fun hH13 => ?_)
        clear hK K
        refine wpAnyH_ready (rs := [4]) (by kernel_rfl) (by simp) ?_
        refine AllReadyH.cons (o := _) rfl (fun K hK => ?_) AllReadyH.nil
        simp only [List.getElem_toArray, List.getElem_cons_zero, List.getElem_cons_succ]
        go_simp
        with_reducible refine (rtcput_good _ _ _ _ _ _ _ _ _ _ _ _ _ _ _ _ _ _ _ _ _ _ _ _ _ _ _ _ _ _ _ _ _ _ _ _ _  ho hQ hD G1.out G2.out (by have := H2.out; omega) E0.out E1.out K0.out K1.out).mono ?_
        rintro e w14 ⟨Ao2, co2, Ab2, cb2, rfl, so2, sb2, fo2, fb2, b14⟩
        dsimp only
        have av_so2_p := fo2.av (hlt hp)
        have av_so2_d := fo2.av (hlt hd)
        have av_so2_e := fo2.av (hlt he)
        have av_so2_r := fo2.av (hlt hr)
        have av_sb2_p := fb2.av (hlt hp)
        have av_sb2_d := fb2.av (hlt hd)
        have av_sb2_e := fb2.av (hlt he)
        have av_sb2_r := fb2.av (hlt hr)
        replace hp := blk_u hp b14
        replace hd := blk_u hd b14
        replace he := blk_u he b14
        replace hr := blk_u hr b14
        replace ho := ho.below b14
        replace hb := hb.below b14
        replace hQ := hQ.below b14
        replace hD := hD.below b14
        replace so1 := so1.below b14
        replace sb1 := sb1.below b14
        replace bel := bel.trans (b14.mono bel.size)
        clear b14
        replace so2 : Sl w14 (Ao2) (no) (co2) (lo) := so2
        replace sb2 : Sl w14 (Ab2) (20 + nq + nd) (cb2) (tcBytes a0 a1 a2 a3 a4 a5 a6 a7 sf st se ak fg wn ug lq ld) := sb2
        refine hK.out _ _ ⟨hp, hd⟩ (fun hH15 => ?_)
        clear hK K
        refine wpAnyH_take (i := 5) (v := ?_) rfl (by kernel_rfl) (by kernel_rfl) (by kernel_rfl) (fun _ _ _ h => h) (Or.inl ⟨by rfl, ?_⟩) hH15 ?_
        rotate_left
        · ((intro W hW; clear hW; go_simp) <;> with_reducible rfl)
        simp only [Act.put, List.getElem_toArray, List.getElem_cons_zero, List.getElem_cons_succ, List.setIfInBounds_toArray, List.set_cons_zero, List.set_cons_succ]
        refine wpAnyH_take (i := 6) (v := ?_) rfl (by kernel_rfl) (by kernel_rfl) (by kernel_rfl) (fun _ _ _ h => h) (Or.inl ⟨by rfl, ?_⟩) hH15 ?_
        rotate_left
        · ((intro W hW; clear hW; go_simp) <;> with_reducible rfl)
        simp only [Act.put, List.getElem_toArray, List.getElem_cons_zero, List.getElem_cons_succ, List.setIfInBounds_toArray, List.set_cons_zero, List.set_cons_succ]
        refine wpAnyH_take (i := 7) (v := ?_) rfl (by kernel_rfl) (by kernel_rfl) (by kernel_rfl) (fun _ _ _ h => h) (Or.inl ⟨by rfl, ?_⟩) hH15 ?_
        rotate_left
        · ((intro W hW; clear hW; go_simp) <;> with_reducible rfl)
        simp only [Act.put, List.getElem_toArray, List.getElem_cons_zero, List.getElem_cons_succ, List.setIfInBounds_toArray, List.set_cons_zero, List.set_cons_succ]
        refine wpAnyH_ready (rs := [9]) (by kernel_rfl) (by simp) ?_
        refine AllReadyH.cons (o := _) rfl (fun K hK => ?_) AllReadyH.nil
        simp only [List.getElem_toArray, List.getElem_cons_zero, List.getElem_cons_succ]
        rw [if_pos (by rfl)]
        refine wp_store_blk 40 (.tmp 7) (.tmp 47) rfl g7 rfl _ rfl _ 40 hr (by rfl) (by kernel_rfl) (by kernel_rfl) ?_
        intro w16 hq gr
        replace ho := ho.away av_ho_r gr
        replace hb := hb.away av_hb_r gr
        replace hQ := hQ.away av_hQ_r gr
        replace hD := hD.away av_hD_r gr
        replace so1 := so1.away av_so1_r gr
        replace sb1 := sb1.away av_sb1_r gr
        replace so2 := so2.away av_so2_r gr
        replace sb2 := sb2.away av_sb2_r gr
        replace hp := blk_a hp gr d_p_r
        replace hd := blk_a hd gr d_d_r
        replace he := blk_a he gr d_e_r
        replace bel := below_grown bel gr or bel.size
        clear hr
        have hr := hq
        clear hq gr
        refine hK.out _ _ ⟨hp, hd⟩ (fun hH17 => ?_)
        clear hK K
        simp only [Act.put]
        refine wpAnyH_take (i := 10) (v := ?_) rfl (by kernel_rfl) (by kernel_rfl) (by kernel_rfl) (fun _ _ _ h => h) (Or.inl ⟨by rfl, ?_⟩) hH17 ?_
        rotate_left
        · ((intro W hW; clear hW; go_simp) <;> with_reducible rfl)
        simp only [Act.put, List.getElem_toArray, List.getElem_cons_zero, List.getElem_cons_succ, List.setIfInBounds_toArray, List.set_cons_zero, List.set_cons_succ]
        refine wpAnyH_done (by kernel_rfl) ?_ _
        go_wp2_with fail
        go_meet
        case rel => exact ⟨g7, Ao2, co2, Ab2, cb2, rfl, rfl, hp, hd, he, hr, or, d_d_e, (ne_symm d_p_d), d_d_r, (ne_symm d_p_e), d_e_r, d_p_r, ho, av_ho_d, av_ho_e, av_ho_p, av_ho_r, hb, av_hb_d, av_hb_e, av_hb_p, av_hb_r, hQ, av_hQ_d, av_hQ_e, av_hQ_p, av_hQ_r, hD, av_hD_d, av_hD_e, av_hD_p, av_hD_r, so1, av_so1_d, av_so1_e, av_so1_p, av_so1_r, sb1, av_sb1_d, av_sb1_e, av_sb1_p, av_sb1_r, so2, av_so2_d, av_so2_e, av_so2_p, av_so2_r, sb2, av_sb2_d, av_sb2_e, av_sb2_p, av_sb2_r, bel⟩
    · simp only [List.getElem_toArray, List.getElem_cons_zero, List.getElem_cons_succ]
      rw [if_pos (by rfl)]
      refine wp_new_a 40 rfl #[.int .i64 0, .int .i64 0, .int .i64 0, .int .i64 0, .int .i64 0, .int .i64 0, .int .u8 0, .int .u8 0, .int .u8 0, .int .u8 0, .int .u8 0, .int .u8 0, .int .u8 0, .int .u8 0, .slice none 0 0, .slice none 0 0] (by kernel_rfl) ?_
      intro g7 w8 ge hh bb
      have d_p_r := ne_new (hlt hp) ge
      have d_d_r := ne_new (hlt hd) ge
      have d_e_r := ne_new (hlt he) ge
      have av_ho_r := ho.av_new ge
      have av_hb_r := hb.av_new ge
      have av_hQ_r := hQ.av_new ge
      have av_hD_r := hD.av_new ge
      have av_so1_r := so1.av_new ge
      have av_sb1_r := sb1.av_new ge
      have or := Nat.le_trans bel.size ge
      replace hp := blk_u hp bb
      replace hd := blk_u hd bb
      replace he := blk_u he bb
      replace ho := ho.below bb
      replace hb := hb.below bb
      replace hQ := hQ.below bb
      replace hD := hD.below bb
      replace so1 := so1.below bb
      replace sb1 := sb1.below bb
      replace bel := bel.trans (bb.mono bel.size)
      have hr := hh
      clear hh ge bb
      refine hK.out _ _ ⟨hp, hd⟩ (fun hH9 => ?_)
      clear hK K
      simp only [Act.put, List.setIfInBounds_toArray, List.set_cons_zero, List.set_cons_succ]
      refine wpAnyH_ready (rs := [1]) (by kernel_rfl) (by simp) ?_
      refine AllReadyH.cons (o := _) rfl (fun K hK => ?_) AllReadyH.nil
      simp only [List.getElem_toArray, List.getElem_cons_zero, List.getElem_cons_succ]
      go_simp
      with_reducible refine (own8_any _ _ _ _ _ _ _ _ _ _ _ _ _ _ _ _ _ _ _ _ _).mono ?_
      rintro e w10 ⟨rfl, b10⟩
      dsimp only
      replace hp := blk_u hp b10
      replace hd := blk_u hd b10
      replace he := blk_u he b10
      replace hr := blk_u hr b10
      replace ho := ho.below b10
      replace hb := hb.below b10
      replace hQ := hQ.below b10
      replace hD := hD.below b10
      replace so1 := so1.below b10
      replace sb1 := sb1.below b10
      replace bel := bel.trans (b10.mono bel.size)
      clear b10
      refine hK.out _ _ ⟨hp, hd⟩ (fun hH11 => ?_)
      clear hK K
      refine wpAnyH_ready (rs := [3]) (by kernel_rfl) (by simp) ?_
      refine AllReadyH.cons (o := _) rfl (fun K hK => ?_) AllReadyH.nil
      simp only [List.getElem_toArray, List.getElem_cons_zero, List.getElem_cons_succ]
      go_simp
      with_reducible refine (seg8_any _ _ _ _ _ _ _ _ _ _ _ _ _ _).mono ?_
      rintro e w12 ⟨rfl, b12⟩
      dsimp only
      replace hp := blk_u hp b12
      replace hd := blk_u hd b12
      replace he := blk_u he b12
      replace hr := blk_u hr b12
      replace ho := ho.below b12
      replace hb := hb.below b12
      replace hQ := hQ.below b12
      replace hD := hD.below b12
      replace so1 := so1.below b12
      replace sb1 := sb1.below b12
      replace bel := bel.trans (b12.mono bel.size)
      clear b12
      refine hK.out _ _ ⟨hp, hd⟩ (fun hH13 => ?_)
      clear hK K
      refine wpAnyH_ready (rs := [4]) (by kernel_rfl) (by simp) ?_
      refine AllReadyH.cons (o := _) rfl (fun K hK => ?_) AllReadyH.nil
      simp only [List.getElem_toArray, List.getElem_cons_zero, List.getElem_cons_succ]
      go_simp
      with_reducible refine (rtcput_good _ _ _ _ _ _ _ _ _ _ _ _ _ _ _ _ _ _ _ _ _ _ _ _ _ _ _ _ _ _ _ _ _ _ _ _ _  ho hQ hD G1.out G2.out (by have := H2.out; omega) E0.out E1.out K0.out K1.out).mono ?_
      rintro e w14 ⟨Ao2, co2, Ab2, cb2, rfl, so2, sb2, fo2, fb2, b14⟩
      dsimp only
      have av_so2_p := fo2.av (hlt hp)
      have av_so2_d := fo2.av (hlt hd)
      have av_so2_e := fo2.av (hlt he)
      have av_so2_r := fo2.av (hlt hr)
      have av_sb2_p := fb2.av (hlt hp)
      have av_sb2_d := fb2.av (hlt hd)
      have av_sb2_e := fb2.av (hlt he)
      have av_sb2_r := fb2.av (hlt hr)
      replace hp := blk_u hp b14
      replace hd := blk_u hd b14
      replace he := blk_u he b14
      replace hr := blk_u hr b14
      replace ho := ho.below b14
      replace hb := hb.below b14
      replace hQ := hQ.below b14
      replace hD := hD.below b14
      replace so1 := so1.below b14
      replace sb1 := sb1.below b14
      replace bel := bel.trans (b14.mono bel.size)
      clear b14
      replace so2 : Sl w14 (Ao2) (no) (co2) (lo) := so2
      replace sb2 : Sl w14 (Ab2) (20 + nq + nd) (cb2) (tcBytes a0 a1 a2 a3 a4 a5 a6 a7 sf st se ak fg wn ug lq ld) := sb2
      refine hK.out _ _ ⟨hp, hd⟩ (fun hH15 => ?_)
      clear hK K
      refine wpAnyH_take (i := 5) (v := ?_) rfl (by kernel_rfl) (by kernel_rfl) (by kernel_rfl) (fun _ _ _ h => h) (Or.inl ⟨by rfl, ?_⟩) hH15 ?_
      rotate_left
      · ((intro W hW; clear hW; go_simp) <;> with_reducible rfl)
      simp only [Act.put, List.getElem_toArray, List.getElem_cons_zero, List.getElem_cons_succ, List.setIfInBounds_toArray, List.set_cons_zero, List.set_cons_succ]
      refine wpAnyH_take (i := 6) (v := ?_) rfl (by kernel_rfl) (by kernel_rfl) (by kernel_rfl) (fun _ _ _ h => h) (Or.inl ⟨by rfl, ?_⟩) hH15 ?_
      rotate_left
      · ((intro W hW; clear hW; go_simp) <;> with_reducible rfl)
      simp only [Act.put, List.getElem_toArray, List.getElem_cons_zero, List.getElem_cons_succ, List.setIfInBounds_toArray, List.set_cons_zero, List.set_cons_succ]
      refine wpAnyH_take (i := 7) (v := ?_) rfl (by kernel_rfl) (by kernel_rfl) (by kernel_rfl) (fun _ _ _ h => h) (Or.inl ⟨by rfl, ?_⟩) hH15 ?_
      rotate_left
      · ((intro W hW; clear hW; go_simp) <;> with_reducible rfl)
      simp only [Act.put, List.getElem_toArray, List.getElem_cons_zero, List.getElem_cons_succ, List.setIfInBounds_toArray, List.set_cons_zero, List.set_cons_succ]
      refine wpAnyH_ready (rs := [9]) (by kernel_rfl) (by simp) ?_
      refine AllReadyH.cons (o := _) rfl (fun K hK => ?_) AllReadyH.nil
      simp only [List.getElem_toArray, List.getElem_cons_zero, List.getElem_cons_succ]
      rw [if_pos (by rfl)]
      refine wp_store_blk 40 (.tmp 7) (.tmp 47) rfl g7 rfl _ rfl _ 40 hr (by rfl) (by kernel_rfl) (by kernel_rfl) ?_
      intro w16 hq gr
      replace ho := ho.away av_ho_r gr
      replace hb := hb.away av_hb_r gr
      replace hQ := hQ.away av_hQ_r gr
      replace hD := hD.away av_hD_r gr
      replace so1 := so1.away av_so1_r gr
      replace sb1 := sb1.away av_sb1_r gr
      replace so2 := so2.away av_so2_r gr
      replace sb2 := sb2.away av_sb2_r gr
      replace hp := blk_a hp gr d_p_r
      replace hd := blk_a hd gr d_d_r
      replace he := blk_a he gr d_e_r
      replace bel := below_grown bel gr or bel.size
      clear hr
      have hr := hq
      clear hq gr
      refine hK.out _ _ ⟨hp, hd⟩ (fun hH17 => ?_)
      clear hK K
      simp only [Act.put]
      refine wpAnyH_take (i := 10) (v := ?_) rfl (by kernel_rfl) (by kernel_rfl) (by kernel_rfl) (fun _ _ _ h => h) (Or.inl ⟨by rfl, ?_⟩) hH17 ?_
      rotate_left
      · ((intro W hW; clear hW; go_simp) <;> with_reducible rfl)
      simp only [Act.put, List.getElem_toArray, List.getElem_cons_zero, List.getElem_cons_succ, List.setIfInBounds_toArray, List.set_cons_zero, List.set_cons_succ]
      refine wpAnyH_done (by kernel_rfl) ?_ _
      go_wp2_with fail
      go_meet
      case rel => exact ⟨g7, Ao2, co2, Ab2, cb2, rfl, rfl, hp, hd, he, hr, or, d_d_e, (ne_symm d_p_d), d_d_r, (ne_symm d_p_e), d_e_r, d_p_r, ho, av_ho_d, av_ho_e, av_ho_p, av_ho_r, hb, av_hb_d, av_hb_e, av_hb_p, av_hb_r, hQ, av_hQ_d, av_hQ_e, av_hQ_p, av_hQ_r, hD, av_hD_d, av_hD_e, av_hD_p, av_hD_r, so1, av_so1_d, av_so1_e, av_so1_p, av_so1_r, sb1, av_sb1_d, av_sb1_e, av_sb1_p, av_sb1_r, so2, av_so2_d, av_so2_e, av_so2_p, av_so2_r, sb2, av_sb2_d, av_sb2_e, av_sb2_p, av_sb2_r, bel⟩
  obtain ⟨w18, hw_⟩ : ∃ x, x = wc := ⟨_, rfl⟩
  subst hw_
  obtain ⟨g7, Ao2, co2, Ab2, cb2, rfl, rfl, hp, hd, he, hr, or, d_d_e, d_d_p, d_d_r, d_e_p, d_e_r, d_p_r, ho, av_ho_d, av_ho_e, av_ho_p, av_ho_r, hb, av_hb_d, av_hb_e, av_hb_p, av_hb_r, hQ, av_hQ_d, av_hQ_e, av_hQ_p, av_hQ_r, hD, av_hD_d, av_hD_e, av_hD_p, av_hD_r, so1, av_so1_d, av_so1_e, av_so1_p, av_so1_r, sb1, av_sb1_d, av_sb1_e, av_sb1_p, av_sb1_r, so2, av_so2_d, av_so2_e, av_so2_p, av_so2_r, sb2, av_sb2_d, av_sb2_e, av_sb2_p, av_sb2_r, bel⟩ := hcut
  go_wp2_with fail
  replace bel := bel.drew
  replace hp : w18.drew.heap[g2]? = _ := hp
  replace hd : w18.drew.heap[g3]? = _ := hd
  replace he : w18.drew.heap[g5]? = _ := he
  replace hr : w18.drew.heap[g7]? = _ := hr
  replace ho := ho.drew
  replace hb := hb.drew
  replace hQ := hQ.drew
  replace hD := hD.drew
  replace so1 := so1.drew
  replace sb1 := sb1.drew
  replace so2 := so2.drew
  replace sb2 := sb2.drew
  refine wp_region_held_drew (S := fun W => W.heap[g5]? = some (.cells #[.int .i64 tos, .int .i64 id, .int .i64 fl, .int .i64 pt, .int .i64 ttl, .int .i64 6, .int .u8 (a0.toNat : Int), .int .u8 (a1.toNat : Int), .int .u8 (a2.toNat : Int), .int .u8 (a3.toNat : Int), .int .u8 (a4.toNat : Int), .int .u8 (a5.toNat : Int), .int .u8 (a6.toNat : Int), .int .u8 (a7.toNat : Int), .slice Ao1 no co1, .slice Ab1 (20 + nq + nd) cb1] 27 (0, 0)) ∧ W.heap[g7]? = some (.cells #[.int .i64 tos, .int .i64 id, .int .i64 fl, .int .i64 pt, .int .i64 ttl, .int .i64 6, .int .u8 (a0.toNat : Int), .int .u8 (a1.toNat : Int), .int .u8 (a2.toNat : Int), .int .u8 (a3.toNat : Int), .int .u8 (a4.toNat : Int), .int .u8 (a5.toNat : Int), .int .u8 (a6.toNat : Int), .int .u8 (a7.toNat : Int), .slice Ao2 no co2, .slice Ab2 (20 + nq + nd) cb2] 40 (0, 0))) (by kernel_rfl) ⟨he, hr⟩ (fun hH => ?_)
  generalize w18.drew = w19 at bel hp hd he hr ho hb hQ hD so1 sb1 so2 sb2 hH ⊢
  refine wpAnyH_take (i := 0) (v := ?_) rfl (by kernel_rfl) (by kernel_rfl) (by kernel_rfl) (fun _ _ _ h => h) (Or.inl ⟨by rfl, ?_⟩) hH ?_
  rotate_left
  · ((intro W hW; clear hW; go_simp) <;> with_reducible rfl)
  simp only [Act.put, List.getElem_toArray, List.getElem_cons_zero, List.setIfInBounds_toArray, List.set_cons_zero, List.set_cons_succ]
  refine wpAnyH_take (i := 1) (v := ?_) rfl (by kernel_rfl) (by kernel_rfl) (by kernel_rfl) (fun _ _ _ h => h) (Or.inl ⟨by rfl, ?_⟩) hH ?_
  rotate_left
  · ((intro W hW; clear hW; go_simp) <;> with_reducible rfl)
  simp only [Act.put, List.getElem_toArray, List.getElem_cons_zero, List.getElem_cons_succ, List.setIfInBounds_toArray, List.set_cons_zero, List.set_cons_succ]
  refine wpAnyH_take (i := 2) (v := ?_) rfl (by kernel_rfl) (by kernel_rfl) (by kernel_rfl) (fun _ _ _ h => h) (Or.inl ⟨by rfl, ?_⟩) hH ?_
  rotate_left
  · ((intro W hW; clear hW; go_simp) <;> with_reducible rfl)
  simp only [Act.put, List.getElem_toArray, List.getElem_cons_zero, List.getElem_cons_succ, List.setIfInBounds_toArray, List.set_cons_zero, List.set_cons_succ]
  refine wpAnyH_take (i := 3) (v := ?_) rfl (by kernel_rfl) (by kernel_rfl) (by kernel_rfl) (fun _ _ _ h => h) (Or.inl ⟨by rfl, ?_⟩) hH ?_
  rotate_left
  · ((intro W hW; clear hW; go_simp) <;> with_reducible rfl)
  simp only [Act.put, List.getElem_toArray, List.getElem_cons_zero, List.getElem_cons_succ, List.setIfInBounds_toArray, List.set_cons_zero, List.set_cons_succ]
  refine wpAnyH_take (i := 4) (v := ?_) rfl (by kernel_rfl) (by kernel_rfl) (by kernel_rfl) (fun _ _ _ h => h) (Or.inl ⟨by rfl, ?_⟩) hH ?_
  rotate_left
  · ((intro W hW; clear hW; go_simp) <;> with_reducible rfl)
  simp only [Act.put, List.getElem_toArray, List.getElem_cons_zero, List.getElem_cons_succ, List.setIfInBounds_toArray, List.set_cons_zero, List.set_cons_succ]
  refine wpAnyH_take (i := 5) (v := ?_) rfl (by kernel_rfl) (by kernel_rfl) (by kernel_rfl) (fun _ _ _ h => h) (Or.inl ⟨by rfl, ?_⟩) hH ?_
  rotate_left
  · ((intro W hW; clear hW; go_simp) <;> with_reducible rfl)
  simp only [Act.put, List.getElem_toArray, List.getElem_cons_zero, List.getElem_cons_succ, List.setIfInBounds_toArray, List.set_cons_zero, List.set_cons_succ]
  refine wpAnyH_take (i := 6) (v := ?_) rfl (by kernel_rfl) (by kernel_rfl) (by kernel_rfl) (fun _ _ _ h => h) (Or.inl ⟨by rfl, ?_⟩) hH ?_
  rotate_left
  · ((intro W hW; clear hW; go_simp) <;> with_reducible rfl)
  simp only [Act.put, List.getElem_toArray, List.getElem_cons_zero, List.getElem_cons_succ, List.setIfInBounds_toArray, List.set_cons_zero, List.set_cons_succ]
  refine wpAnyH_take (i := 7) (v := .agg #[.int .i64 tos, .int .i64 id, .int .i64 fl, .int .i64 pt, .int .i64 ttl, .int .i64 6, .int .u8 (a0.toNat : Int), .int .u8 (a1.toNat : Int), .int .u8 (a2.toNat : Int), .int .u8 (a3.toNat : Int), .int .u8 (a4.toNat : Int), .int .u8 (a5.toNat : Int), .int .u8 (a6.toNat : Int), .int .u8 (a7.toNat : Int), .slice Ao1 no co1, .slice Ab1 (20 + nq + nd) cb1]) rfl (by kernel_rfl) (by kernel_rfl) (by kernel_rfl) (fun _ _ _ h => h) (yieldsIf_load_part (by kernel_rfl) 27 _ rfl g5 0 16 rfl _ 27 (0, 0) (fun W hW => hW.1) _ rfl _ Try.underlying27 rfl (by kernel_rfl)) hH ?_
  simp only [Act.put, List.getElem_toArray, List.getElem_cons_zero, List.getElem_cons_succ, List.setIfInBounds_toArray, List.set_cons_zero, List.set_cons_succ]
  refine wpAnyH_take (i := 9) (v := .agg #[.int .i64 tos, .int .i64 id, .int .i64 fl, .int .i64 pt, .int .i64 ttl, .int .i64 6, .int .u8 (a0.toNat : Int), .int .u8 (a1.toNat : Int), .int .u8 (a2.toNat : Int), .int .u8 (a3.toNat : Int), .int .u8 (a4.toNat : Int), .int .u8 (a5.toNat : Int), .int .u8 (a6.toNat : Int), .int .u8 (a7.toNat : Int), .slice Ao2 no co2, .slice Ab2 (20 + nq + nd) cb2]) rfl (by kernel_rfl) (by kernel_rfl) (by kernel_rfl) (fun _ _ _ h => h) (yieldsIf_load_part (by kernel_rfl) 40 _ rfl g7 0 16 rfl _ 40 (0, 0) (fun W hW => hW.2) _ rfl _ Try.underlying40 rfl (by kernel_rfl)) hH ?_
  simp only [Act.put, List.getElem_toArray, List.getElem_cons_zero, List.getElem_cons_succ, List.setIfInBounds_toArray, List.set_cons_zero, List.set_cons_succ]
  refine wpAnyH_ready (rs := [8]) (by kernel_rfl) (by simp) ?_
  refine AllReadyH.cons (o := _) rfl (fun K hK => ?_) AllReadyH.nil
  simp only [List.getElem_toArray, List.getElem_cons_zero, List.getElem_cons_succ]
  go_simp
  with_reducible refine (own8_any _ _ _ _ _ _ _ _ _ _ _ _ _ _ _ _ _ _ _ _ _).mono ?_
  rintro e w20 ⟨rfl, b20⟩
  dsimp only
  replace hp := blk_u hp b20
  replace hd := blk_u hd b20
  replace he := blk_u he b20
  replace hr := blk_u hr b20
  replace ho := ho.below b20
  replace hb := hb.below b20
  replace hQ := hQ.below b20
  replace hD := hD.below b20
  replace so1 := so1.below b20
  replace sb1 := sb1.below b20
  replace so2 := so2.below b20
  replace sb2 := sb2.below b20
  replace bel := bel.trans (b20.mono bel.size)
  clear b20
  refine hK.out _ _ ⟨he, hr⟩ (fun hH21 => ?_)
  clear hK K
  refine wpAnyH_ready (rs := [10]) (by kernel_rfl) (by simp) ?_
  refine AllReadyH.cons (o := _) rfl (fun K hK => ?_) AllReadyH.nil
  simp only [List.getElem_toArray, List.getElem_cons_zero, List.getElem_cons_succ]
  go_simp
  with_reducible refine (same6_true _ _ _ _ _ _ _ _ _ _ _ _ _ _ _ _ _ _ _ _ _ _ _ _ _ _ _  so1 sb1 so2 sb2).mono ?_
  rintro e w22 ⟨rfl, b22⟩
  dsimp only
  replace hp := blk_u hp b22
  replace hd := blk_u hd b22
  replace he := blk_u he b22
  replace hr := blk_u hr b22
  replace ho := ho.below b22
  replace hb := hb.below b22
  replace hQ := hQ.below b22
  replace hD := hD.below b22
  replace so1 := so1.below b22
  replace sb1 := sb1.below b22
  replace so2 := so2.below b22
  replace sb2 := sb2.below b22
  replace bel := bel.trans (b22.mono bel.size)
  clear b22
  refine hK.out _ _ ⟨he, hr⟩ (fun hH23 => ?_)
  clear hK K
  refine wpAnyH_take (i := 11) (v := ?_) rfl (by kernel_rfl) (by kernel_rfl) (by kernel_rfl) (fun _ _ _ h => h) (Or.inl ⟨by rfl, ?_⟩) hH23 ?_
  rotate_left
  · ((intro W hW; clear hW; go_simp) <;> with_reducible rfl)
  simp only [Act.put, List.getElem_toArray, List.getElem_cons_zero, List.getElem_cons_succ, List.setIfInBounds_toArray, List.set_cons_zero, List.set_cons_succ]
  refine wpAnyH_take (i := 12) (v := ?_) rfl (by kernel_rfl) (by kernel_rfl) (by kernel_rfl) (fun _ _ _ h => h) (Or.inl ⟨by rfl, ?_⟩) hH23 ?_
  rotate_left
  · ((intro W hW; clear hW; go_simp) <;> with_reducible rfl)
  simp only [Act.put, List.getElem_toArray, List.getElem_cons_zero, List.getElem_cons_succ, List.setIfInBounds_toArray, List.set_cons_zero, List.set_cons_succ]
  refine wpAnyH_take (i := 13) (v := ?_) rfl (by kernel_rfl) (by kernel_rfl) (by kernel_rfl) (fun _ _ _ h => h) (Or.inl ⟨by rfl, ?_⟩) hH23 ?_
  rotate_left
  · ((intro W hW; clear hW; go_simp) <;> with_reducible rfl)
  simp only [Act.put, List.getElem_toArray, List.getElem_cons_zero, List.getElem_cons_succ, List.setIfInBounds_toArray, List.set_cons_zero, List.set_cons_succ]
  refine wpAnyH_done (by kernel_rfl) ?_ _
  have R66 := Lib.hid (range_lit he 0 16 [.int .i64 tos, .int .i64 id, .int .i64 fl, .int .i64 pt, .int .i64 ttl, .int .i64 6, .int .u8 (a0.toNat : Int), .int .u8 (a1.toNat : Int), .int .u8 (a2.toNat : Int), .int .u8 (a3.toNat : Int), .int .u8 (a4.toNat : Int), .int .u8 (a5.toNat : Int), .int .u8 (a6.toNat : Int), .int .u8 (a7.toNat : Int), .slice Ao1 no co1, .slice Ab1 (20 + nq + nd) cb1] rfl)
  go_wp2_with (first | ((with_reducible show wpList _ _ _ (⟨some 66, _, _, _, _, _⟩ :: _) _ _); refine wpList_load_rng 27 (.tmp 5) rfl (by kernel_rfl) _ _ rfl _ R66.out _ Try.underlying27 rfl (by kernel_rfl) ?_))
  try clear R66
  with_reducible refine (ipwhole_any _ _ _ _ _ _ _ _ _ _ _ _ _ _ _ _ _ _ _ _ _).mono ?_
  rintro e w24 ⟨rfl, b24⟩
  replace hp := blk_u hp b24
  replace hd := blk_u hd b24
  replace he := blk_u he b24
  replace hr := blk_u hr b24
  replace ho := ho.below b24
  replace hb := hb.below b24
  replace hQ := hQ.below b24
  replace hD := hD.below b24
  replace so1 := so1.below b24
  replace sb1 := sb1.below b24
  replace so2 := so2.below b24
  replace sb2 := sb2.below b24
  replace bel := bel.trans (b24.mono bel.size)
  clear b24
  rw [HW.out]
  go_wp2_with fail
  go_ret
  exact ⟨rfl, bel⟩
theorem tcget_good (tos id fl pt ttl pr : Int) (a0 a1 a2 a3 a4 a5 a6 a7 : UInt8) (So Sb : Option Addr) (no co nb cb : Nat) (lb lq ld : List UInt8) (sf st se ak fg wn ug : Int) (nq nd : Nat) (w : World) (hb : Sl w Sb nb cb lb) (hm : nb ≤ 100000) (hg : tcGet fl pt pr a0 a1 a2 a3 a4 a5 a6 a7 lb = ([sf, st, se, ak, fg, wn, ug], (lq, ld), 0)) (hq : lq.length = nq) (hd : ld.length = nd) : Calls Try.prog 10 #[.agg #[.int .i64 tos, .int .i64 id, .int .i64 fl, .int .i64 pt, .int .i64 ttl, .int .i64 pr, .int .u8 (a0.toNat : Int), .int .u8 (a1.toNat : Int), .int .u8 (a2.toNat : Int), .int .u8 (a3.toNat : Int), .int .u8 (a4.toNat : Int), .int .u8 (a5.toNat : Int), .int .u8 (a6.toNat : Int), .int .u8 (a7.toNat : Int), .slice So no co, .slice Sb nb cb]] w fun e w' => ∃ A c B d, e = .returned (.tuple #[.agg #[.int .i64 sf, .int .i64 st, .int .u32 se, .int .u32 ak, .int .i64 fg, .int .i64 wn, .int .i64 ug, .slice A nq c, .slice B nd d], .int .i64 0]) ∧ Sl w' A nq c lq ∧ Sl w' B nd d ld ∧ Fr w.heap.size A nq ∧ Fr w.heap.size B nd ∧ Below w.heap.size w w' := by
  subst hq
  subst hd
  refine (tcget_any tos id fl pt ttl pr a0 a1 a2 a3 a4 a5 a6 a7 So Sb no co nb cb lb w hb hm).mono ?_
  rintro e w' ⟨f0, f1, f2, f3, f4, f5, f6, q, b, A, B, c, d, er, rfl, hs, ht, hf, hh, bel, hq⟩
  rw [hg] at hq
  simp only [Prod.mk.injEq, List.cons.injEq, and_true] at hq
  obtain ⟨⟨rfl, rfl, rfl, rfl, rfl, rfl, rfl⟩, ⟨rfl, rfl⟩, rfl⟩ := hq
  exact ⟨A, c, B, d, rfl, hs, ht, hf, hh, bel⟩
set_option linter.unusedVariables false in
set_option maxRecDepth 100000 in
set_option maxHeartbeats 16000000 in
theorem tcpWrites_7 (tos id fl pt ttl pr : Int) (a0 a1 a2 a3 a4 a5 a6 a7 : UInt8) (So : Option Addr) (no co : Nat) (lo : List UInt8) (Sb : Option Addr) (nb cb : Nat) (lb : List UInt8) (sf st se ak fg wn ug : Int) (Q : Option Addr) (nq cq : Nat) (lq : List UInt8) (D : Option Addr) (nd cd : Nat) (ld : List UInt8) (w : World) (ho : Sl w So no co lo) (hb : Sl w Sb nb cb lb) (hQ : Sl w Q nq cq lq) (hD : Sl w D nd cd ld) (h1 : nb ≤ 1600) (h2 : no ≤ 60) (h3 : nd ≤ 1600) (h4 : nq ≤ 60) (e0 : 0 ≤ se) (e1 : se < 4294967296) (k0 : 0 ≤ ak) (k1 : ak < 4294967296) (g1 : segOk sf st fg wn ug nq = true) (g2 : nq + nd ≤ 1460) (hw : (decide (pt = 0) && decide (fl % 2 = 0)) = true) : Calls Try.prog 5 #[.agg #[.int .i64 tos, .int .i64 id, .int .i64 fl, .int .i64 pt, .int .i64 ttl, .int .i64 pr, .int .u8 (a0.toNat : Int), .int .u8 (a1.toNat : Int), .int .u8 (a2.toNat : Int), .int .u8 (a3.toNat : Int), .int .u8 (a4.toNat : Int), .int .u8 (a5.toNat : Int), .int .u8 (a6.toNat : Int), .int .u8 (a7.toNat : Int), .slice So no co, .slice Sb nb cb], .agg #[.int .i64 sf, .int .i64 st, .int .u32 se, .int .u32 ak, .int .i64 fg, .int .i64 wn, .int .i64 ug, .slice Q nq cq, .slice D nd cd]] w fun e w' => e = .returned (.bool true) ∧ Below w.heap.size w w' := by
  have HQ1 := Lib.hid hQ.1
  have HD1 := Lib.hid hD.1
  have t1 : decide ((1600 : Int) < nb) = false := decide_eq_false (by omega)
  have t2 : decide ((60 : Int) < no) = false := decide_eq_false (by omega)
  have t3 : decide ((1600 : Int) < nd) = false := decide_eq_false (by omega)
  have t4 : decide ((60 : Int) < nq) = false := decide_eq_false (by omega)
  have H2 := Lib.hid h2
  have H3 := Lib.hid h3
  have E0 := Lib.hid e0
  have E1 := Lib.hid e1
  have K0 := Lib.hid k0
  have K1 := Lib.hid k1
  clear h1 h2 h3 h4 e0 e1 k0 k1
  have G1 := Lib.hid g1
  have G2 := Lib.hid g2
  clear g1 g2
  have HW := Lib.hid hw
  clear hw
  have bel := Below.refl w.heap.size w
  go_enter Try.func5, Try.ntmps5
  go_wp2_with (first | ((with_reducible show wpList _ _ _ (⟨some 2, _, _, _, _, _⟩ :: _) _ _); refine wpList_box_n rfl 27 (.tmp 0) rfl #[.int .i64 tos, .int .i64 id, .int .i64 fl, .int .i64 pt, .int .i64 ttl, .int .i64 pr, .int .u8 (a0.toNat : Int), .int .u8 (a1.toNat : Int), .int .u8 (a2.toNat : Int), .int .u8 (a3.toNat : Int), .int .u8 (a4.toNat : Int), .int .u8 (a5.toNat : Int), .int .u8 (a6.toNat : Int), .int .u8 (a7.toNat : Int), .slice So no co, .slice Sb nb cb] rfl ?_; intro g2 w1 ge lt hh bb; have av_ho_p := ho.av_new ge; have av_hb_p := hb.av_new ge; have av_hQ_p := hQ.av_new ge; have av_hD_p := hD.av_new ge; have op := Nat.le_trans bel.size ge; replace ho := ho.below bb; replace hb := hb.below bb; replace hQ := hQ.below bb; replace hD := hD.below bb; replace bel := bel.trans (bb.mono bel.size); have hp := hh; clear hh lt ge bb) | ((with_reducible show wpList _ _ _ (⟨some 3, _, _, _, _, _⟩ :: _) _ _); refine wpList_box_n rfl 34 (.tmp 1) rfl #[.int .i64 sf, .int .i64 st, .int .u32 se, .int .u32 ak, .int .i64 fg, .int .i64 wn, .int .i64 ug, .slice Q nq cq, .slice D nd cd] rfl ?_; intro g3 w2 ge lt hh bb; have d_p_d := ne_new (hlt hp) ge; have av_ho_d := ho.av_new ge; have av_hb_d := hb.av_new ge; have av_hQ_d := hQ.av_new ge; have av_hD_d := hD.av_new ge; have od := Nat.le_trans bel.size ge; replace hp := blk_u hp bb; replace ho := ho.below bb; replace hb := hb.below bb; replace hQ := hQ.below bb; replace hD := hD.below bb; replace bel := bel.trans (bb.mono bel.size); have hd := hh; clear hh lt ge bb))
  with_reducible refine (awake8 _).mono ?_
  rintro e w3 ⟨rfl, b3⟩
  replace hp := blk_u hp b3
  replace hd := blk_u hd b3
  replace ho := ho.below b3
  replace hb := hb.below b3
  replace hQ := hQ.below b3
  replace hD := hD.below b3
  replace bel := bel.trans (b3.mono bel.size)
  clear b3
  have R14 := cell_lit hp 15 _ rfl
  have R19 := cell_lit hp 14 _ rfl
  have R25 := cell_lit hd 8 _ rfl
  have R31 := cell_lit hd 7 _ rfl
  have R36 := Lib.hid (range_lit hp 0 16 [.int .i64 tos, .int .i64 id, .int .i64 fl, .int .i64 pt, .int .i64 ttl, .int .i64 pr, .int .u8 (a0.toNat : Int), .int .u8 (a1.toNat : Int), .int .u8 (a2.toNat : Int), .int .u8 (a3.toNat : Int), .int .u8 (a4.toNat : Int), .int .u8 (a5.toNat : Int), .int .u8 (a6.toNat : Int), .int .u8 (a7.toNat : Int), .slice So no co, .slice Sb nb cb] rfl)
  go_wp2_with (first | ((with_reducible show wpList _ _ _ (⟨some 36, _, _, _, _, _⟩ :: _) _ _); refine wpList_load_rng 27 (.tmp 2) rfl (by kernel_rfl) _ _ rfl _ R36.out _ Try.underlying27 rfl (by kernel_rfl) ?_; have R37 := Lib.hid (range_lit hd 0 9 [.int .i64 sf, .int .i64 st, .int .u32 se, .int .u32 ak, .int .i64 fg, .int .i64 wn, .int .i64 ug, .slice Q nq cq, .slice D nd cd] rfl)) | ((with_reducible show wpList _ _ _ (⟨some 37, _, _, _, _, _⟩ :: _) _ _); refine wpList_load_rng 34 (.tmp 3) rfl (by kernel_rfl) _ _ rfl _ R37.out _ Try.underlying34 rfl (by kernel_rfl) ?_))
  try clear R14
  try clear R19
  try clear R25
  try clear R31
  try clear R36
  try clear R37
  with_reducible refine (tcput_good _ _ _ _ _ _ _ _ _ _ _ _ _ _ _ _ _ _ _ _ _ _ _ _ _ _ _ _ _ _ _ _ _ _ _ _ _  ho hQ hD G1.out G2.out (by have := H2.out; omega) E0.out E1.out K0.out K1.out).mono ?_
  rintro e w4 ⟨Ao1, co1, Ab1, cb1, rfl, so1, sb1, fo1, fb1, b4⟩
  have av_so1_p := fo1.av (hlt hp)
  have av_so1_d := fo1.av (hlt hd)
  have av_sb1_p := fb1.av (hlt hp)
  have av_sb1_d := fb1.av (hlt hd)
  replace hp := blk_u hp b4
  replace hd := blk_u hd b4
  replace ho := ho.below b4
  replace hb := hb.below b4
  replace hQ := hQ.below b4
  replace hD := hD.below b4
  replace bel := bel.trans (b4.mono bel.size)
  clear b4
  replace so1 : Sl w4 (Ao1) (no) (co1) (lo) := so1
  replace sb1 : Sl w4 (Ab1) (20 + nq + nd) (cb1) (tcBytes a0 a1 a2 a3 a4 a5 a6 a7 sf st se ak fg wn ug lq ld) := sb1
  go_wp2_with (first | ((with_reducible show wpList _ _ _ (⟨some 5, _, _, _, _, _⟩ :: _) _ _); refine wpList_new_a rfl 27 rfl #[.int .i64 0, .int .i64 0, .int .i64 0, .int .i64 0, .int .i64 0, .int .i64 0, .int .u8 0, .int .u8 0, .int .u8 0, .int .u8 0, .int .u8 0, .int .u8 0, .int .u8 0, .int .u8 0, .slice none 0 0, .slice none 0 0] (by kernel_rfl) ?_; intro g5 w5 ge hh bb; have d_p_e := ne_new (hlt hp) ge; have d_d_e := ne_new (hlt hd) ge; have av_ho_e := ho.av_new ge; have av_hb_e := hb.av_new ge; have av_hQ_e := hQ.av_new ge; have av_hD_e := hD.av_new ge; have av_so1_e := so1.av_new ge; have av_sb1_e := sb1.av_new ge; have oe := Nat.le_trans bel.size ge; replace hp := blk_u hp bb; replace hd := blk_u hd bb; replace ho := ho.below bb; replace hb := hb.below bb; replace hQ := hQ.below bb; replace hD := hD.below bb; replace so1 := so1.below bb; replace sb1 := sb1.below bb; replace bel := bel.trans (bb.mono bel.size); have he := hh; clear hh ge bb) | ((with_reducible show wpList _ _ _ (⟨none, Op.store _ (.tmp 5) _, _, _, _, _⟩ :: _) _ _); refine wpList_store_blk rfl 27 (.tmp 5) (.tmp 39) rfl g5 rfl _ rfl _ 27 he (by rfl) (by kernel_rfl) (by kernel_rfl) ?_; intro w6 hq gr; replace ho := ho.away av_ho_e gr; replace hb := hb.away av_hb_e gr; replace hQ := hQ.away av_hQ_e gr; replace hD := hD.away av_hD_e gr; replace so1 := so1.away av_so1_e gr; replace sb1 := sb1.away av_sb1_e gr; replace hp := blk_a hp gr d_p_e; replace hd := blk_a hd gr d_d_e; replace bel := below_grown bel gr oe bel.size; clear he; have he := hq; clear hq gr))
  go_cut [7, 8] from 9999 (fun s7 s8 W => ∃ g7 : Nat, ∃ Ao2 : Option Addr, ∃ co2 : Nat, ∃ Ab2 : Option Addr, ∃ cb2 : Nat, s7 = .pointer (some ⟨g7, 0, none⟩) ∧ s8 = .int .i64 0 ∧ W.heap[g2]? = some (.cells #[.int .i64 tos, .int .i64 id, .int .i64 fl, .int .i64 pt, .int .i64 ttl, .int .i64 pr, .int .u8 (a0.toNat : Int), .int .u8 (a1.toNat : Int), .int .u8 (a2.toNat : Int), .int .u8 (a3.toNat : Int), .int .u8 (a4.toNat : Int), .int .u8 (a5.toNat : Int), .int .u8 (a6.toNat : Int), .int .u8 (a7.toNat : Int), .slice So no co, .slice Sb nb cb] 27 (0, 0)) ∧ W.heap[g3]? = some (.cells #[.int .i64 sf, .int .i64 st, .int .u32 se, .int .u32 ak, .int .i64 fg, .int .i64 wn, .int .i64 ug, .slice Q nq cq, .slice D nd cd] 34 (0, 0)) ∧ W.heap[g5]? = some (.cells #[.int .i64 tos, .int .i64 id, .int .i64 fl, .int .i64 pt, .int .i64 ttl, .int .i64 6, .int .u8 (a0.toNat : Int), .int .u8 (a1.toNat : Int), .int .u8 (a2.toNat : Int), .int .u8 (a3.toNat : Int), .int .u8 (a4.toNat : Int), .int .u8 (a5.toNat : Int), .int .u8 (a6.toNat : Int), .int .u8 (a7.toNat : Int), .slice Ao1 no co1, .slice Ab1 (20 + nq + nd) cb1] 27 (0, 0)) ∧ W.heap[g7]? = some (.cells #[.int .i64 tos, .int .i64 id, .int .i64 fl, .int .i64 pt, .int .i64 ttl, .int .i64 6, .int .u8 (a0.toNat : Int), .int .u8 (a1.toNat : Int), .int .u8 (a2.toNat : Int), .int .u8 (a3.toNat : Int), .int .u8 (a4.toNat : Int), .int .u8 (a5.toNat : Int), .int .u8 (a6.toNat : Int), .int .u8 (a7.toNat : Int), .slice Ao2 no co2, .slice Ab2 (20 + nq + nd) cb2] 40 (0, 0)) ∧ w.heap.size ≤ g7 ∧ Hid (g3 ≠ g5) ∧ Hid (g3 ≠ g2) ∧ Hid (g3 ≠ g7) ∧ Hid (g5 ≠ g2) ∧ Hid (g5 ≠ g7) ∧ Hid (g2 ≠ g7) ∧ Sl W (So) (no) (co) (lo) ∧ Av (So) (no) g3 ∧ Av (So) (no) g5 ∧ Av (So) (no) g2 ∧ Av (So) (no) g7 ∧ Sl W (Sb) (nb) (cb) (lb) ∧ Av (Sb) (nb) g3 ∧ Av (Sb) (nb) g5 ∧ Av (Sb) (nb) g2 ∧ Av (Sb) (nb) g7 ∧ Sl W (Q) (nq) (cq) (lq) ∧ Av (Q) (nq) g3 ∧ Av (Q) (nq) g5 ∧ Av (Q) (nq) g2 ∧ Av (Q) (nq) g7 ∧ Sl W (D) (nd) (cd) (ld) ∧ Av (D) (nd) g3 ∧ Av (D) (nd) g5 ∧ Av (D) (nd) g2 ∧ Av (D) (nd) g7 ∧ Sl W (Ao1) (no) (co1) (lo) ∧ Av (Ao1) (no) g3 ∧ Av (Ao1) (no) g5 ∧ Av (Ao1) (no) g2 ∧ Av (Ao1) (no) g7 ∧ Sl W (Ab1) (20 + nq + nd) (cb1) (tcBytes a0 a1 a2 a3 a4 a5 a6 a7 sf st se ak fg wn ug lq ld) ∧ Av (Ab1) (20 + nq + nd) g3 ∧ Av (Ab1) (20 + nq + nd) g5 ∧ Av (Ab1) (20 + nq + nd) g2 ∧ Av (Ab1) (20 + nq + nd) g7 ∧ Sl W (Ao2) (no) (co2) (lo) ∧ Av (Ao2) (no) g3 ∧ Av (Ao2) (no) g5 ∧ Av (Ao2) (no) g2 ∧ Av (Ao2) (no) g7 ∧ Sl W (Ab2) (20 + nq + nd) (cb2) (tcBytes a0 a1 a2 a3 a4 a5 a6 a7 sf st se ak fg wn ug lq ld) ∧ Av (Ab2) (20 + nq + nd) g3 ∧ Av (Ab2) (20 + nq + nd) g5 ∧ Av (Ab2) (20 + nq + nd) g2 ∧ Av (Ab2) (20 + nq + nd) g7 ∧ Below w.heap.size w W)
  case first =>
    replace bel := bel.drew
    replace hp : w6.drew.heap[g2]? = _ := hp
    replace hd : w6.drew.heap[g3]? = _ := hd
    replace he : w6.drew.heap[g5]? = _ := he
    replace ho := ho.drew
    replace hb := hb.drew
    replace hQ := hQ.drew
    replace hD := hD.drew
    replace so1 := so1.drew
    replace sb1 := sb1.drew
    refine wp_region_held_drew (S := fun W => W.heap[g2]? = some (.cells #[.int .i64 tos, .int .i64 id, .int .i64 fl, .int .i64 pt, .int .i64 ttl, .int .i64 pr, .int .u8 (a0.toNat : Int), .int .u8 (a1.toNat : Int), .int .u8 (a2.toNat : Int), .int .u8 (a3.toNat : Int), .int .u8 (a4.toNat : Int), .int .u8 (a5.toNat : Int), .int .u8 (a6.toNat : Int), .int .u8 (a7.toNat : Int), .slice So no co, .slice Sb nb cb] 27 (0, 0)) ∧ W.heap[g3]? = some (.cells #[.int .i64 sf, .int .i64 st, .int .u32 se, .int .u32 ak, .int .i64 fg, .int .i64 wn, .int .i64 ug, .slice Q nq cq, .slice D nd cd] 34 (0, 0))) (by kernel_rfl) ⟨hp, hd⟩ (fun hH => ?_)
    generalize w6.drew = w7 at bel hp hd he ho hb hQ hD so1 sb1 hH ⊢
    refine wpAnyH_take (i := 0) (v := .agg #[.int .i64 tos, .int .i64 id, .int .i64 fl, .int .i64 pt, .int .i64 ttl, .int .i64 pr, .int .u8 (a0.toNat : Int), .int .u8 (a1.toNat : Int), .int .u8 (a2.toNat : Int), .int .u8 (a3.toNat : Int), .int .u8 (a4.toNat : Int), .int .u8 (a5.toNat : Int), .int .u8 (a6.toNat : Int), .int .u8 (a7.toNat : Int), .slice So no co, .slice Sb nb cb]) rfl (by kernel_rfl) (by kernel_rfl) (by kernel_rfl) (fun _ _ _ h => h) (yieldsIf_load_part (by kernel_rfl) 27 _ rfl g2 0 16 rfl _ 27 (0, 0) (fun W hW => hW.1) _ rfl _ Try.underlying27 rfl (by kernel_rfl)) hH ?_
    simp only [Act.put, List.getElem_toArray, List.getElem_cons_zero, List.setIfInBounds_toArray, List.set_cons_zero, List.set_cons_succ]
    refine wpAnyH_take (i := 2) (v := .agg #[.int .i64 sf, .int .i64 st, .int .u32 se, .int .u32 ak, .int .i64 fg, .int .i64 wn, .int .i64 ug, .slice Q nq cq, .slice D nd cd]) rfl (by kernel_rfl) (by kernel_rfl) (by kernel_rfl) (fun _ _ _ h => h) (yieldsIf_load_part (by kernel_rfl) 34 _ rfl g3 0 9 rfl _ 34 (0, 0) (fun W hW => hW.2) _ rfl _ Try.underlying34 rfl (by kernel_rfl)) hH ?_
    simp only [Act.put, List.getElem_toArray, List.getElem_cons_zero, List.getElem_cons_succ, List.setIfInBounds_toArray, List.set_cons_zero, List.set_cons_succ]
    refine wpAnyH_ready (rs := [1, 8]) (by kernel_rfl) (by simp) ?_
    refine AllReadyH.cons (o := _) rfl (fun K hK => ?_) (AllReadyH.cons (o := _) rfl (fun K hK => ?_) AllReadyH.nil)
    · simp only [List.getElem_toArray, List.getElem_cons_zero, List.getElem_cons_succ]
      go_simp
      with_reducible refine (own8_any _ _ _ _ _ _ _ _ _ _ _ _ _ _ _ _ _ _ _ _ _).mono ?_
      rintro e w8 ⟨rfl, b8⟩
      dsimp only
      replace hp := blk_u hp b8
      replace hd := blk_u hd b8
      replace he := blk_u he b8
      replace ho := ho.below b8
      replace hb := hb.below b8
      replace hQ := hQ.below b8
      replace hD := hD.below b8
      replace so1 := so1.below b8
      replace sb1 := sb1.below b8
      replace bel := bel.trans (b8.mono bel.size)
      clear b8
      refine hK.out _ _ ⟨hp, hd⟩ (fun hH9 => ?_)
      clear hK K
      refine wpAnyH_ready (rs := [3, 8]) (by kernel_rfl) (by simp) ?_
      refine AllReadyH.cons (o := _) rfl (fun K hK => ?_) (AllReadyH.cons (o := _) rfl (fun K hK => ?_) AllReadyH.nil)
      · simp only [List.getElem_toArray, List.getElem_cons_zero, List.getElem_cons_succ]
        go_simp
        with_reducible refine (seg8_any _ _ _ _ _ _ _ _ _ _ _ _ _ _).mono ?_
        rintro e w10 ⟨rfl, b10⟩
        dsimp only
        replace hp := blk_u hp b10
        replace hd := blk_u hd b10
        replace he := blk_u he b10
        replace ho := ho.below b10
        replace hb := hb.below b10
        replace hQ := hQ.below b10
        replace hD := hD.below b10
        replace so1 := so1.below b10
        replace sb1 := sb1.below b10
        replace bel := bel.trans (b10.mono bel.size)
        clear b10
        refine hK.out _ _ ⟨hp, hd⟩ (fun hH11 => ?_)
        clear hK K
        refine wpAnyH_ready (rs := [4, 8]) (by kernel_rfl) (by simp) ?_
        refine AllReadyH.cons (o := _) rfl (fun K hK => ?_) (AllReadyH.cons (o := _) rfl (fun K hK => ?_) AllReadyH.nil)
        · simp only [List.getElem_toArray, List.getElem_cons_zero, List.getElem_cons_succ]
          go_simp
          with_reducible refine (rtcput_good _ _ _ _ _ _ _ _ _ _ _ _ _ _ _ _ _ _ _ _ _ _ _ _ _ _ _ _ _ _ _ _ _ _ _ _ _  ho hQ hD G1.out G2.out (by have := H2.out; omega) E0.out E1.out K0.out K1.out).mono ?_
          rintro e w12 ⟨Ao2, co2, Ab2, cb2, rfl, so2, sb2, fo2, fb2, b12⟩
          dsimp only
          have av_so2_p := fo2.av (hlt hp)
          have av_so2_d := fo2.av (hlt hd)
          have av_so2_e := fo2.av (hlt he)
          have av_sb2_p := fb2.av (hlt hp)
          have av_sb2_d := fb2.av (hlt hd)
          have av_sb2_e := fb2.av (hlt he)
          replace hp := blk_u hp b12
          replace hd := blk_u hd b12
          replace he := blk_u he b12
          replace ho := ho.below b12
          replace hb := hb.below b12
          replace hQ := hQ.below b12
          replace hD := hD.below b12
          replace so1 := so1.below b12
          replace sb1 := sb1.below b12
          replace bel := bel.trans (b12.mono bel.size)
          clear b12
          replace so2 : Sl w12 (Ao2) (no) (co2) (lo) := so2
          replace sb2 : Sl w12 (Ab2) (20 + nq + nd) (cb2) (tcBytes a0 a1 a2 a3 a4 a5 a6 a7 sf st se ak fg wn ug lq ld) := sb2
          refine hK.out _ _ ⟨hp, hd⟩ (fun hH13 => ?_)
          clear hK K
          refine wpAnyH_take (i := 5) (v := ?_) rfl (by kernel_rfl) (by kernel_rfl) (by kernel_rfl) (fun _ _ _ h => h) (Or.inl ⟨by rfl, ?_⟩) hH13 ?_
          rotate_left
          · ((intro W hW; clear hW; go_simp) <;> with_reducible rfl)
          simp only [Act.put, List.getElem_toArray, List.getElem_cons_zero, List.getElem_cons_succ, List.setIfInBounds_toArray, List.set_cons_zero, List.set_cons_succ]
          refine wpAnyH_take (i := 6) (v := ?_) rfl (by kernel_rfl) (by kernel_rfl) (by kernel_rfl) (fun _ _ _ h => h) (Or.inl ⟨by rfl, ?_⟩) hH13 ?_
          rotate_left
          · ((intro W hW; clear hW; go_simp) <;> with_reducible rfl)
          simp only [Act.put, List.getElem_toArray, List.getElem_cons_zero, List.getElem_cons_succ, List.setIfInBounds_toArray, List.set_cons_zero, List.set_cons_succ]
          refine wpAnyH_take (i := 7) (v := ?_) rfl (by kernel_rfl) (by kernel_rfl) (by kernel_rfl) (fun _ _ _ h => h) (Or.inl ⟨by rfl, ?_⟩) hH13 ?_
          rotate_left
          · ((intro W hW; clear hW; go_simp) <;> with_reducible rfl)
          simp only [Act.put, List.getElem_toArray, List.getElem_cons_zero, List.getElem_cons_succ, List.setIfInBounds_toArray, List.set_cons_zero, List.set_cons_succ]
          refine wpAnyH_ready (rs := [8]) (by kernel_rfl) (by simp) ?_
          refine AllReadyH.cons (o := _) rfl (fun K hK => ?_) AllReadyH.nil
          simp only [List.getElem_toArray, List.getElem_cons_zero, List.getElem_cons_succ]
          rw [if_pos (by rfl)]
          refine wp_new_a 40 rfl #[.int .i64 0, .int .i64 0, .int .i64 0, .int .i64 0, .int .i64 0, .int .i64 0, .int .u8 0, .int .u8 0, .int .u8 0, .int .u8 0, .int .u8 0, .int .u8 0, .int .u8 0, .int .u8 0, .slice none 0 0, .slice none 0 0] (by kernel_rfl) ?_
          intro g7 w14 ge hh bb
          have d_p_r := ne_new (hlt hp) ge
          have d_d_r := ne_new (hlt hd) ge
          have d_e_r := ne_new (hlt he) ge
          have av_ho_r := ho.av_new ge
          have av_hb_r := hb.av_new ge
          have av_hQ_r := hQ.av_new ge
          have av_hD_r := hD.av_new ge
          have av_so1_r := so1.av_new ge
          have av_sb1_r := sb1.av_new ge
          have av_so2_r := so2.av_new ge
          have av_sb2_r := sb2.av_new ge
          have or := Nat.le_trans bel.size ge
          replace hp := blk_u hp bb
          replace hd := blk_u hd bb
          replace he := blk_u he bb
          replace ho := ho.below bb
          replace hb := hb.below bb
          replace hQ := hQ.below bb
          replace hD := hD.below bb
          replace so1 := so1.below bb
          replace sb1 := sb1.below bb
          replace so2 := so2.below bb
          replace sb2 := sb2.below bb
          replace bel := bel.trans (bb.mono bel.size)
          have hr := hh
          clear hh ge bb
          refine hK.out _ _ ⟨hp, hd⟩ (fun hH15 => ?_)
          clear hK K
          simp only [Act.put, List.setIfInBounds_toArray, List.set_cons_zero, List.set_cons_succ]
          refine wpAnyH_ready (rs := [9]) (by kernel_rfl) (by simp) ?_
          refine AllReadyH.cons (o := _) rfl (fun K hK => ?_) AllReadyH.nil
          simp only [List.getElem_toArray, List.getElem_cons_zero, List.getElem_cons_succ]
          rw [if_pos (by rfl)]
          refine wp_store_blk 40 (.tmp 7) (.tmp 47) rfl g7 rfl _ rfl _ 40 hr (by rfl) (by kernel_rfl) (by kernel_rfl) ?_
          intro w16 hq gr
          replace ho := ho.away av_ho_r gr
          replace hb := hb.away av_hb_r gr
          replace hQ := hQ.away av_hQ_r gr
          replace hD := hD.away av_hD_r gr
          replace so1 := so1.away av_so1_r gr
          replace sb1 := sb1.away av_sb1_r gr
          replace so2 := so2.away av_so2_r gr
          replace sb2 := sb2.away av_sb2_r gr
          replace hp := blk_a hp gr d_p_r
          replace hd := blk_a hd gr d_d_r
          replace he := blk_a he gr d_e_r
          replace bel := below_grown bel gr or bel.size
          clear hr
          have hr := hq
          clear hq gr
          refine hK.out _ _ ⟨hp, hd⟩ (fun hH17 => ?_)
          clear hK K
          simp only [Act.put]
          refine wpAnyH_take (i := 10) (v := ?_) rfl (by kernel_rfl) (by kernel_rfl) (by kernel_rfl) (fun _ _ _ h => h) (Or.inl ⟨by rfl, ?_⟩) hH17 ?_
          rotate_left
          · ((intro W hW; clear hW; go_simp) <;> with_reducible rfl)
          simp only [Act.put, List.getElem_toArray, List.getElem_cons_zero, List.getElem_cons_succ, List.setIfInBounds_toArray, List.set_cons_zero, List.set_cons_succ]
          refine wpAnyH_done (by kernel_rfl) ?_ _
          go_wp2_with fail
          go_meet
          case rel => exact ⟨g7, Ao2, co2, Ab2, cb2, rfl, rfl, hp, hd, he, hr, or, d_d_e, (ne_symm d_p_d), d_d_r, (ne_symm d_p_e), d_e_r, d_p_r, ho, av_ho_d, av_ho_e, av_ho_p, av_ho_r, hb, av_hb_d, av_hb_e, av_hb_p, av_hb_r, hQ, av_hQ_d, av_hQ_e, av_hQ_p, av_hQ_r, hD, av_hD_d, av_hD_e, av_hD_p, av_hD_r, so1, av_so1_d, av_so1_e, av_so1_p, av_so1_r, sb1, av_sb1_d, av_sb1_e, av_sb1_p, av_sb1_r, so2, av_so2_d, av_so2_e, av_so2_p, av_so2_r, sb2, av_sb2_d, av_sb2_e, av_sb2_p, av_sb2_r, bel⟩
        · simp only [List.getElem_toArray, List.getElem_cons_zero, List.getElem_cons_succ]
          rw [if_pos (by rfl)]
          refine wp_new_a 40 rfl #[.int .i64 0, .int .i64 0, .int .i64 0, .int .i64 0, .int .i64 0, .int .i64 0, .int .u8 0, .int .u8 0, .int .u8 0, .int .u8 0, .int .u8 0, .int .u8 0, .int .u8 0, .int .u8 0, .slice none 0 0, .slice none 0 0] (by kernel_rfl) ?_
          intro g7 w12 ge hh bb
          have d_p_r := ne_new (hlt hp) ge
          have d_d_r := ne_new (hlt hd) ge
          have d_e_r := ne_new (hlt he) ge
          have av_ho_r := ho.av_new ge
          have av_hb_r := hb.av_new ge
          have av_hQ_r := hQ.av_new ge
          have av_hD_r := hD.av_new ge
          have av_so1_r := so1.av_new ge
          have av_sb1_r := sb1.av_new ge
          have or := Nat.le_trans bel.size ge
          replace hp := blk_u hp bb
          replace hd := blk_u hd bb
          replace he := blk_u he bb
          replace ho := ho.below bb
          replace hb := hb.below bb
          replace hQ := hQ.below bb
          replace hD := hD.below bb
          replace so1 := so1.below bb
          replace sb1 := sb1.below bb
          replace bel := bel.trans (bb.mono bel.size)
          have hr := hh
          clear hh ge bb
          refine hK.out _ _ ⟨hp, hd⟩ (fun hH13 => ?_)
          clear hK K
          simp only [Act.put, List.setIfInBounds_toArray, List.set_cons_zero, List.set_cons_succ]
          refine wpAnyH_ready (rs := [4]) (by kernel_rfl) (by simp) ?_
          refine AllReadyH.cons (o := _) rfl (fun K hK => ?_) AllReadyH.nil
          simp only [List.getElem_toArray, List.getElem_cons_zero, List.getElem_cons_succ]
          go_simp
          with_reducible refine (rtcput_good _ _ _ _ _ _ _ _ _ _ _ _ _ _ _ _ _ _ _ _ _ _ _ _ _ _ _ _ _ _ _ _ _ _ _ _ _  ho hQ hD G1.out G2.out (by have := H2.out; omega) E0.out E1.out K0.out K1.out).mono ?_
          rintro e w14 ⟨Ao2, co2, Ab2, cb2, rfl, so2, sb2, fo2, fb2, b14⟩
          dsimp only
          have av_so2_p := fo2.av (hlt hp)
          have av_so2_d := fo2.av (hlt hd)
          have av_so2_e := fo2.av (hlt he)
          have av_so2_r := fo2.av (hlt hr)
          have av_sb2_p := fb2.av (hlt hp)
          have av_sb2_d := fb2.av (hlt hd)
          have av_sb2_e := fb2.av (hlt he)
          have av_sb2_r := fb2.av (hlt hr)
          replace hp := blk_u hp b14
          replace hd := blk_u hd b14
          replace he := blk_u he b14
          replace hr := blk_u hr b14
          replace ho := ho.below b14
          replace hb := hb.below b14
          replace hQ := hQ.below b14
          replace hD := hD.below b14
          replace so1 := so1.below b14
          replace sb1 := sb1.below b14
          replace bel := bel.trans (b14.mono bel.size)
          clear b14
          replace so2 : Sl w14 (Ao2) (no) (co2) (lo) := so2
          replace sb2 : Sl w14 (Ab2) (20 + nq + nd) (cb2) (tcBytes a0 a1 a2 a3 a4 a5 a6 a7 sf st se ak fg wn ug lq ld) := sb2
          refine hK.out _ _ ⟨hp, hd⟩ (fun hH15 => ?_)
          clear hK K
          refine wpAnyH_take (i := 5) (v := ?_) rfl (by kernel_rfl) (by kernel_rfl) (by kernel_rfl) (fun _ _ _ h => h) (Or.inl ⟨by rfl, ?_⟩) hH15 ?_
          rotate_left
          · ((intro W hW; clear hW; go_simp) <;> with_reducible rfl)
          simp only [Act.put, List.getElem_toArray, List.getElem_cons_zero, List.getElem_cons_succ, List.setIfInBounds_toArray, List.set_cons_zero, List.set_cons_succ]
          refine wpAnyH_take (i := 6) (v := ?_) rfl (by kernel_rfl) (by kernel_rfl) (by kernel_rfl) (fun _ _ _ h => h) (Or.inl ⟨by rfl, ?_⟩) hH15 ?_
          rotate_left
          · ((intro W hW; clear hW; go_simp) <;> with_reducible rfl)
          simp only [Act.put, List.getElem_toArray, List.getElem_cons_zero, List.getElem_cons_succ, List.setIfInBounds_toArray, List.set_cons_zero, List.set_cons_succ]
          refine wpAnyH_take (i := 7) (v := ?_) rfl (by kernel_rfl) (by kernel_rfl) (by kernel_rfl) (fun _ _ _ h => h) (Or.inl ⟨by rfl, ?_⟩) hH15 ?_
          rotate_left
          · ((intro W hW; clear hW; go_simp) <;> with_reducible rfl)
          simp only [Act.put, List.getElem_toArray, List.getElem_cons_zero, List.getElem_cons_succ, List.setIfInBounds_toArray, List.set_cons_zero, List.set_cons_succ]
          refine wpAnyH_ready (rs := [9]) (by kernel_rfl) (by simp) ?_
          refine AllReadyH.cons (o := _) rfl (fun K hK => ?_) AllReadyH.nil
          simp only [List.getElem_toArray, List.getElem_cons_zero, List.getElem_cons_succ]
          rw [if_pos (by rfl)]
          refine wp_store_blk 40 (.tmp 7) (.tmp 47) rfl g7 rfl _ rfl _ 40 hr (by rfl) (by kernel_rfl) (by kernel_rfl) ?_
          intro w16 hq gr
          replace ho := ho.away av_ho_r gr
          replace hb := hb.away av_hb_r gr
          replace hQ := hQ.away av_hQ_r gr
          replace hD := hD.away av_hD_r gr
          replace so1 := so1.away av_so1_r gr
          replace sb1 := sb1.away av_sb1_r gr
          replace so2 := so2.away av_so2_r gr
          replace sb2 := sb2.away av_sb2_r gr
          replace hp := blk_a hp gr d_p_r
          replace hd := blk_a hd gr d_d_r
          replace he := blk_a he gr d_e_r
          replace bel := below_grown bel gr or bel.size
          clear hr
          have hr := hq
          clear hq gr
          refine hK.out _ _ ⟨hp, hd⟩ (fun hH17 => ?_)
          clear hK K
          simp only [Act.put]
          refine wpAnyH_take (i := 10) (v := ?_) rfl (by kernel_rfl) (by kernel_rfl) (by kernel_rfl) (fun _ _ _ h => h) (Or.inl ⟨by rfl, ?_⟩) hH17 ?_
          rotate_left
          · ((intro W hW; clear hW; go_simp) <;> with_reducible rfl)
          simp only [Act.put, List.getElem_toArray, List.getElem_cons_zero, List.getElem_cons_succ, List.setIfInBounds_toArray, List.set_cons_zero, List.set_cons_succ]
          refine wpAnyH_done (by kernel_rfl) ?_ _
          go_wp2_with fail
          go_meet
          case rel => exact ⟨g7, Ao2, co2, Ab2, cb2, rfl, rfl, hp, hd, he, hr, or, d_d_e, (ne_symm d_p_d), d_d_r, (ne_symm d_p_e), d_e_r, d_p_r, ho, av_ho_d, av_ho_e, av_ho_p, av_ho_r, hb, av_hb_d, av_hb_e, av_hb_p, av_hb_r, hQ, av_hQ_d, av_hQ_e, av_hQ_p, av_hQ_r, hD, av_hD_d, av_hD_e, av_hD_p, av_hD_r, so1, av_so1_d, av_so1_e, av_so1_p, av_so1_r, sb1, av_sb1_d, av_sb1_e, av_sb1_p, av_sb1_r, so2, av_so2_d, av_so2_e, av_so2_p, av_so2_r, sb2, av_sb2_d, av_sb2_e, av_sb2_p, av_sb2_r, bel⟩
      · simp only [List.getElem_toArray, List.getElem_cons_zero, List.getElem_cons_succ]
        rw [if_pos (by rfl)]
        refine wp_new_a 40 rfl #[.int .i64 0, .int .i64 0, .int .i64 0, .int .i64 0, .int .i64 0, .int .i64 0, .int .u8 0, .int .u8 0, .int .u8 0, .int .u8 0, .int .u8 0, .int .u8 0, .int .u8 0, .int .u8 0, .slice none 0 0, .slice none 0 0] (by kernel_rfl) ?_
        intro g7 w10 ge hh bb
        have d_p_r := ne_new (hlt hp) ge
        have d_d_r := ne_new (hlt hd) ge
        have d_e_r := ne_new (hlt he) ge
        have av_ho_r := ho.av_new ge
        have av_hb_r := hb.av_new ge
        have av_hQ_r := hQ.av_new ge
        have av_hD_r := hD.av_new ge
        have av_so1_r := so1.av_new ge
        have av_sb1_r := sb1.av_new ge
        have or := Nat.le_trans bel.size ge
        replace hp := blk_u hp bb
        replace hd := blk_u hd bb
        replace he := blk_u he bb
        replace ho := ho.below bb
        replace hb := hb.below bb
        replace hQ := hQ.below bb
        replace hD := hD.below bb
        replace so1 := so1.below bb
        replace sb1 := sb1.below bb
        replace bel := bel.trans (bb.mono bel.size)
        have hr := hh
        clear hh ge bb
        refine hK.out _ _ ⟨hp, hd⟩ (fun hH11 => ?_)
        clear hK K
        simp only [Act.put, List.setIfInBounds_toArray, List.set_cons_zero, List.set_cons_succ]
        refine wpAnyH_ready (rs := [3]) (by kernel_rfl) (by simp) ?_
        refine AllReadyH.cons (o := _) rfl (fun K hK => ?_) AllReadyH.nil
        simp only [List.getElem_toArray, List.getElem_cons_zero, List.getElem_cons_succ]
        go_simp
        with_reducible refine (seg8_any _ _ _ _ _ _ _ _ _ _ _ _ _ _).mono ?_
        rintro e w12 ⟨rfl, b12⟩
        dsimp only
        replace hp := blk_u hp b12
        replace hd := blk_u hd b12
        replace he := blk_u he b12
        replace hr := blk_u hr b12
        replace ho := ho.below b12
        replace hb := hb.below b12
        replace hQ := hQ.below b12
        replace hD := hD.below b12
        replace so1 := so1.below b12
        replace sb1 := sb1.below b12
        replace bel := bel.trans (b12.mono bel.size)
        clear b12
        refine hK.out _ _ ⟨hp, hd⟩ (fun hH13 => ?_)
        clear hK K
        refine wpAnyH_ready (rs := [4]) (by kernel_rfl) (by simp) ?_
        refine AllReadyH.cons (o := _) rfl (fun K hK => ?_) AllReadyH.nil
        simp only [List.getElem_toArray, List.getElem_cons_zero, List.getElem_cons_succ]
        go_simp
        with_reducible refine (rtcput_good _ _ _ _ _ _ _ _ _ _ _ _ _ _ _ _ _ _ _ _ _ _ _ _ _ _ _ _ _ _ _ _ _ _ _ _ _  ho hQ hD G1.out G2.out (by have := H2.out; omega) E0.out E1.out K0.out K1.out).mono ?_
        rintro e w14 ⟨Ao2, co2, Ab2, cb2, rfl, so2, sb2, fo2, fb2, b14⟩
        dsimp only
        have av_so2_p := fo2.av (hlt hp)
        have av_so2_d := fo2.av (hlt hd)
        have av_so2_e := fo2.av (hlt he)
        have av_so2_r := fo2.av (hlt hr)
        have av_sb2_p := fb2.av (hlt hp)
        have av_sb2_d := fb2.av (hlt hd)
        have av_sb2_e := fb2.av (hlt he)
        have av_sb2_r := fb2.av (hlt hr)
        replace hp := blk_u hp b14
        replace hd := blk_u hd b14
        replace he := blk_u he b14
        replace hr := blk_u hr b14
        replace ho := ho.below b14
        replace hb := hb.below b14
        replace hQ := hQ.below b14
        replace hD := hD.below b14
        replace so1 := so1.below b14
        replace sb1 := sb1.below b14
        replace bel := bel.trans (b14.mono bel.size)
        clear b14
        replace so2 : Sl w14 (Ao2) (no) (co2) (lo) := so2
        replace sb2 : Sl w14 (Ab2) (20 + nq + nd) (cb2) (tcBytes a0 a1 a2 a3 a4 a5 a6 a7 sf st se ak fg wn ug lq ld) := sb2
        refine hK.out _ _ ⟨hp, hd⟩ (fun hH15 => ?_)
        clear hK K
        refine wpAnyH_take (i := 5) (v := ?_) rfl (by kernel_rfl) (by kernel_rfl) (by kernel_rfl) (fun _ _ _ h => h) (Or.inl ⟨by rfl, ?_⟩) hH15 ?_
        rotate_left
        · ((intro W hW; clear hW; go_simp) <;> with_reducible rfl)
        simp only [Act.put, List.getElem_toArray, List.getElem_cons_zero, List.getElem_cons_succ, List.setIfInBounds_toArray, List.set_cons_zero, List.set_cons_succ]
        refine wpAnyH_take (i := 6) (v := ?_) rfl (by kernel_rfl) (by kernel_rfl) (by kernel_rfl) (fun _ _ _ h => h) (Or.inl ⟨by rfl, ?_⟩) hH15 ?_
        rotate_left
        · ((intro W hW; clear hW; go_simp) <;> with_reducible rfl)
        simp only [Act.put, List.getElem_toArray, List.getElem_cons_zero, List.getElem_cons_succ, List.setIfInBounds_toArray, List.set_cons_zero, List.set_cons_succ]
        refine wpAnyH_take (i := 7) (v := ?_) rfl (by kernel_rfl) (by kernel_rfl) (by kernel_rfl) (fun _ _ _ h => h) (Or.inl ⟨by rfl, ?_⟩) hH15 ?_
        rotate_left
        · ((intro W hW; clear hW; go_simp) <;> with_reducible rfl)
        simp only [Act.put, List.getElem_toArray, List.getElem_cons_zero, List.getElem_cons_succ, List.setIfInBounds_toArray, List.set_cons_zero, List.set_cons_succ]
        refine wpAnyH_ready (rs := [9]) (by kernel_rfl) (by simp) ?_
        refine AllReadyH.cons (o := _) rfl (fun K hK => ?_) AllReadyH.nil
        simp only [List.getElem_toArray, List.getElem_cons_zero, List.getElem_cons_succ]
        rw [if_pos (by rfl)]
        refine wp_store_blk 40 (.tmp 7) (.tmp 47) rfl g7 rfl _ rfl _ 40 hr (by rfl) (by kernel_rfl) (by kernel_rfl) ?_
        intro w16 hq gr
        replace ho := ho.away av_ho_r gr
        replace hb := hb.away av_hb_r gr
        replace hQ := hQ.away av_hQ_r gr
        replace hD := hD.away av_hD_r gr
        replace so1 := so1.away av_so1_r gr
        replace sb1 := sb1.away av_sb1_r gr
        replace so2 := so2.away av_so2_r gr
        replace sb2 := sb2.away av_sb2_r gr
        replace hp := blk_a hp gr d_p_r
        replace hd := blk_a hd gr d_d_r
        replace he := blk_a he gr d_e_r
        replace bel := below_grown bel gr or bel.size
        clear hr
        have hr := hq
        clear hq gr
        refine hK.out _ _ ⟨hp, hd⟩ (fun hH17 => ?_)
        clear hK K
        simp only [Act.put]
        refine wpAnyH_take (i := 10) (v := ?_) rfl (by kernel_rfl) (by kernel_rfl) (by kernel_rfl) (fun _ _ _ h => h) (Or.inl ⟨by rfl, ?_⟩) hH17 ?_
        rotate_left
        · ((intro W hW; clear hW; go_simp) <;> with_reducible rfl)
        simp only [Act.put, List.getElem_toArray, List.getElem_cons_zero, List.getElem_cons_succ, List.setIfInBounds_toArray, List.set_cons_zero, List.set_cons_succ]
        refine wpAnyH_done (by kernel_rfl) ?_ _
        go_wp2_with fail
        go_meet
        case rel => exact ⟨g7, Ao2, co2, Ab2, cb2, rfl, rfl, hp, hd, he, hr, or, d_d_e, (ne_symm d_p_d), d_d_r, (ne_symm d_p_e), d_e_r, d_p_r, ho, av_ho_d, av_ho_e, av_ho_p, av_ho_r, hb, av_hb_d, av_hb_e, av_hb_p, av_hb_r, hQ, av_hQ_d, av_hQ_e, av_hQ_p, av_hQ_r, hD, av_hD_d, av_hD_e, av_hD_p, av_hD_r, so1, av_so1_d, av_so1_e, av_so1_p, av_so1_r, sb1, av_sb1_d, av_sb1_e, av_sb1_p, av_sb1_r, so2, av_so2_d, av_so2_e, av_so2_p, av_so2_r, sb2, av_sb2_d, av_sb2_e, av_sb2_p, av_sb2_r, bel⟩
    · simp only [List.getElem_toArray, List.getElem_cons_zero, List.getElem_cons_succ]
      rw [if_pos (by rfl)]
      refine wp_new_a 40 rfl #[.int .i64 0, .int .i64 0, .int .i64 0, .int .i64 0, .int .i64 0, .int .i64 0, .int .u8 0, .int .u8 0, .int .u8 0, .int .u8 0, .int .u8 0, .int .u8 0, .int .u8 0, .int .u8 0, .slice none 0 0, .slice none 0 0] (by kernel_rfl) ?_
      intro g7 w8 ge hh bb
      have d_p_r := ne_new (hlt hp) ge
      have d_d_r := ne_new (hlt hd) ge
      have d_e_r := ne_new (hlt he) ge
      have av_ho_r := ho.av_new ge
      have av_hb_r := hb.av_new ge
      have av_hQ_r := hQ.av_new ge
      have av_hD_r := hD.av_new ge
      have av_so1_r := so1.av_new ge
      have av_sb1_r := sb1.av_new ge
      have or := Nat.le_trans bel.size ge
      replace hp := blk_u hp bb
      replace hd := blk_u hd bb
      replace he := blk_u he bb
      replace ho := ho.below bb
      replace hb := hb.below bb
      replace hQ := hQ.below bb
      replace hD := hD.below bb
      replace so1 := so1.below bb
      replace sb1 := sb1.below bb
      replace bel := bel.trans (bb.mono bel.size)
      have hr := hh
      clear hh ge bb
      refine hK.out _ _ ⟨hp, hd⟩ (fun hH9 => ?_)
      clear hK K
      simp only [Act.put, List.setIfInBounds_toArray, List.set_cons_zero, List.set_cons_succ]
      refine wpAnyH_ready (rs := [1]) (by kernel_rfl) (by simp) ?_
      refine AllReadyH.cons (o := _) rfl (fun K hK => ?_) AllReadyH.nil
      simp only [List.getElem_toArray, List.getElem_cons_zero, List.getElem_cons_succ]
      go_simp
      with_reducible refine (own8_any _ _ _ _ _ _ _ _ _ _ _ _ _ _ _ _ _ _ _ _ _).mono ?_
      rintro e w10 ⟨rfl, b10⟩
      dsimp only
      replace hp := blk_u hp b10
      replace hd := blk_u hd b10
      replace he := blk_u he b10
      replace hr := blk_u hr b10
      replace ho := ho.below b10
      replace hb := hb.below b10
      replace hQ := hQ.below b10
      replace hD := hD.below b10
      replace so1 := so1.below b10
      replace sb1 := sb1.below b10
      replace bel := bel.trans (b10.mono bel.size)
      clear b10
      refine hK.out _ _ ⟨hp, hd⟩ (fun hH11 => ?_)
      clear hK K
      refine wpAnyH_ready (rs := [3]) (by kernel_rfl) (by simp) ?_
      refine AllReadyH.cons (o := _) rfl (fun K hK => ?_) AllReadyH.nil
      simp only [List.getElem_toArray, List.getElem_cons_zero, List.getElem_cons_succ]
      go_simp
      with_reducible refine (seg8_any _ _ _ _ _ _ _ _ _ _ _ _ _ _).mono ?_
      rintro e w12 ⟨rfl, b12⟩
      dsimp only
      replace hp := blk_u hp b12
      replace hd := blk_u hd b12
      replace he := blk_u he b12
      replace hr := blk_u hr b12
      replace ho := ho.below b12
      replace hb := hb.below b12
      replace hQ := hQ.below b12
      replace hD := hD.below b12
      replace so1 := so1.below b12
      replace sb1 := sb1.below b12
      replace bel := bel.trans (b12.mono bel.size)
      clear b12
      refine hK.out _ _ ⟨hp, hd⟩ (fun hH13 => ?_)
      clear hK K
      refine wpAnyH_ready (rs := [4]) (by kernel_rfl) (by simp) ?_
      refine AllReadyH.cons (o := _) rfl (fun K hK => ?_) AllReadyH.nil
      simp only [List.getElem_toArray, List.getElem_cons_zero, List.getElem_cons_succ]
      go_simp
      with_reducible refine (rtcput_good _ _ _ _ _ _ _ _ _ _ _ _ _ _ _ _ _ _ _ _ _ _ _ _ _ _ _ _ _ _ _ _ _ _ _ _ _  ho hQ hD G1.out G2.out (by have := H2.out; omega) E0.out E1.out K0.out K1.out).mono ?_
      rintro e w14 ⟨Ao2, co2, Ab2, cb2, rfl, so2, sb2, fo2, fb2, b14⟩
      dsimp only
      have av_so2_p := fo2.av (hlt hp)
      have av_so2_d := fo2.av (hlt hd)
      have av_so2_e := fo2.av (hlt he)
      have av_so2_r := fo2.av (hlt hr)
      have av_sb2_p := fb2.av (hlt hp)
      have av_sb2_d := fb2.av (hlt hd)
      have av_sb2_e := fb2.av (hlt he)
      have av_sb2_r := fb2.av (hlt hr)
      replace hp := blk_u hp b14
      replace hd := blk_u hd b14
      replace he := blk_u he b14
      replace hr := blk_u hr b14
      replace ho := ho.below b14
      replace hb := hb.below b14
      replace hQ := hQ.below b14
      replace hD := hD.below b14
      replace so1 := so1.below b14
      replace sb1 := sb1.below b14
      replace bel := bel.trans (b14.mono bel.size)
      clear b14
      replace so2 : Sl w14 (Ao2) (no) (co2) (lo) := so2
      replace sb2 : Sl w14 (Ab2) (20 + nq + nd) (cb2) (tcBytes a0 a1 a2 a3 a4 a5 a6 a7 sf st se ak fg wn ug lq ld) := sb2
      refine hK.out _ _ ⟨hp, hd⟩ (fun hH15 => ?_)
      clear hK K
      refine wpAnyH_take (i := 5) (v := ?_) rfl (by kernel_rfl) (by kernel_rfl) (by kernel_rfl) (fun _ _ _ h => h) (Or.inl ⟨by rfl, ?_⟩) hH15 ?_
      rotate_left
      · ((intro W hW; clear hW; go_simp) <;> with_reducible rfl)
      simp only [Act.put, List.getElem_toArray, List.getElem_cons_zero, List.getElem_cons_succ, List.setIfInBounds_toArray, List.set_cons_zero, List.set_cons_succ]
      refine wpAnyH_take (i := 6) (v := ?_) rfl (by kernel_rfl) (by kernel_rfl) (by kernel_rfl) (fun _ _ _ h => h) (Or.inl ⟨by rfl, ?_⟩) hH15 ?_
      rotate_left
      · ((intro W hW; clear hW; go_simp) <;> with_reducible rfl)
      simp only [Act.put, List.getElem_toArray, List.getElem_cons_zero, List.getElem_cons_succ, List.setIfInBounds_toArray, List.set_cons_zero, List.set_cons_succ]
      refine wpAnyH_take (i := 7) (v := ?_) rfl (by kernel_rfl) (by kernel_rfl) (by kernel_rfl) (fun _ _ _ h => h) (Or.inl ⟨by rfl, ?_⟩) hH15 ?_
      rotate_left
      · ((intro W hW; clear hW; go_simp) <;> with_reducible rfl)
      simp only [Act.put, List.getElem_toArray, List.getElem_cons_zero, List.getElem_cons_succ, List.setIfInBounds_toArray, List.set_cons_zero, List.set_cons_succ]
      refine wpAnyH_ready (rs := [9]) (by kernel_rfl) (by simp) ?_
      refine AllReadyH.cons (o := _) rfl (fun K hK => ?_) AllReadyH.nil
      simp only [List.getElem_toArray, List.getElem_cons_zero, List.getElem_cons_succ]
      rw [if_pos (by rfl)]
      refine wp_store_blk 40 (.tmp 7) (.tmp 47) rfl g7 rfl _ rfl _ 40 hr (by rfl) (by kernel_rfl) (by kernel_rfl) ?_
      intro w16 hq gr
      replace ho := ho.away av_ho_r gr
      replace hb := hb.away av_hb_r gr
      replace hQ := hQ.away av_hQ_r gr
      replace hD := hD.away av_hD_r gr
      replace so1 := so1.away av_so1_r gr
      replace sb1 := sb1.away av_sb1_r gr
      replace so2 := so2.away av_so2_r gr
      replace sb2 := sb2.away av_sb2_r gr
      replace hp := blk_a hp gr d_p_r
      replace hd := blk_a hd gr d_d_r
      replace he := blk_a he gr d_e_r
      replace bel := below_grown bel gr or bel.size
      clear hr
      have hr := hq
      clear hq gr
      refine hK.out _ _ ⟨hp, hd⟩ (fun hH17 => ?_)
      clear hK K
      simp only [Act.put]
      refine wpAnyH_take (i := 10) (v := ?_) rfl (by kernel_rfl) (by kernel_rfl) (by kernel_rfl) (fun _ _ _ h => h) (Or.inl ⟨by rfl, ?_⟩) hH17 ?_
      rotate_left
      · ((intro W hW; clear hW; go_simp) <;> with_reducible rfl)
      simp only [Act.put, List.getElem_toArray, List.getElem_cons_zero, List.getElem_cons_succ, List.setIfInBounds_toArray, List.set_cons_zero, List.set_cons_succ]
      refine wpAnyH_done (by kernel_rfl) ?_ _
      go_wp2_with fail
      go_meet
      case rel => exact ⟨g7, Ao2, co2, Ab2, cb2, rfl, rfl, hp, hd, he, hr, or, d_d_e, (ne_symm d_p_d), d_d_r, (ne_symm d_p_e), d_e_r, d_p_r, ho, av_ho_d, av_ho_e, av_ho_p, av_ho_r, hb, av_hb_d, av_hb_e, av_hb_p, av_hb_r, hQ, av_hQ_d, av_hQ_e, av_hQ_p, av_hQ_r, hD, av_hD_d, av_hD_e, av_hD_p, av_hD_r, so1, av_so1_d, av_so1_e, av_so1_p, av_so1_r, sb1, av_sb1_d, av_sb1_e, av_sb1_p, av_sb1_r, so2, av_so2_d, av_so2_e, av_so2_p, av_so2_r, sb2, av_sb2_d, av_sb2_e, av_sb2_p, av_sb2_r, bel⟩
  obtain ⟨w18, hw_⟩ : ∃ x, x = wc := ⟨_, rfl⟩
  subst hw_
  obtain ⟨g7, Ao2, co2, Ab2, cb2, rfl, rfl, hp, hd, he, hr, or, d_d_e, d_d_p, d_d_r, d_e_p, d_e_r, d_p_r, ho, av_ho_d, av_ho_e, av_ho_p, av_ho_r, hb, av_hb_d, av_hb_e, av_hb_p, av_hb_r, hQ, av_hQ_d, av_hQ_e, av_hQ_p, av_hQ_r, hD, av_hD_d, av_hD_e, av_hD_p, av_hD_r, so1, av_so1_d, av_so1_e, av_so1_p, av_so1_r, sb1, av_sb1_d, av_sb1_e, av_sb1_p, av_sb1_r, so2, av_so2_d, av_so2_e, av_so2_p, av_so2_r, sb2, av_sb2_d, av_sb2_e, av_sb2_p, av_sb2_r, bel⟩ := hcut
  go_wp2_with fail
  replace bel := bel.drew
  replace hp : w18.drew.heap[g2]? = _ := hp
  replace hd : w18.drew.heap[g3]? = _ := hd
  replace he : w18.drew.heap[g5]? = _ := he
  replace hr : w18.drew.heap[g7]? = _ := hr
  replace ho := ho.drew
  replace hb := hb.drew
  replace hQ := hQ.drew
  replace hD := hD.drew
  replace so1 := so1.drew
  replace sb1 := sb1.drew
  replace so2 := so2.drew
  replace sb2 := sb2.drew
  refine wp_region_held_drew (S := fun W => W.heap[g5]? = some (.cells #[.int .i64 tos, .int .i64 id, .int .i64 fl, .int .i64 pt, .int .i64 ttl, .int .i64 6, .int .u8 (a0.toNat : Int), .int .u8 (a1.toNat : Int), .int .u8 (a2.toNat : Int), .int .u8 (a3.toNat : Int), .int .u8 (a4.toNat : Int), .int .u8 (a5.toNat : Int), .int .u8 (a6.toNat : Int), .int .u8 (a7.toNat : Int), .slice Ao1 no co1, .slice Ab1 (20 + nq + nd) cb1] 27 (0, 0)) ∧ W.heap[g7]? = some (.cells #[.int .i64 tos, .int .i64 id, .int .i64 fl, .int .i64 pt, .int .i64 ttl, .int .i64 6, .int .u8 (a0.toNat : Int), .int .u8 (a1.toNat : Int), .int .u8 (a2.toNat : Int), .int .u8 (a3.toNat : Int), .int .u8 (a4.toNat : Int), .int .u8 (a5.toNat : Int), .int .u8 (a6.toNat : Int), .int .u8 (a7.toNat : Int), .slice Ao2 no co2, .slice Ab2 (20 + nq + nd) cb2] 40 (0, 0))) (by kernel_rfl) ⟨he, hr⟩ (fun hH => ?_)
  generalize w18.drew = w19 at bel hp hd he hr ho hb hQ hD so1 sb1 so2 sb2 hH ⊢
  refine wpAnyH_take (i := 0) (v := ?_) rfl (by kernel_rfl) (by kernel_rfl) (by kernel_rfl) (fun _ _ _ h => h) (Or.inl ⟨by rfl, ?_⟩) hH ?_
  rotate_left
  · ((intro W hW; clear hW; go_simp) <;> with_reducible rfl)
  simp only [Act.put, List.getElem_toArray, List.getElem_cons_zero, List.setIfInBounds_toArray, List.set_cons_zero, List.set_cons_succ]
  refine wpAnyH_take (i := 1) (v := ?_) rfl (by kernel_rfl) (by kernel_rfl) (by kernel_rfl) (fun _ _ _ h => h) (Or.inl ⟨by rfl, ?_⟩) hH ?_
  rotate_left
  · ((intro W hW; clear hW; go_simp) <;> with_reducible rfl)
  simp only [Act.put, List.getElem_toArray, List.getElem_cons_zero, List.getElem_cons_succ, List.setIfInBounds_toArray, List.set_cons_zero, List.set_cons_succ]
  refine wpAnyH_take (i := 2) (v := ?_) rfl (by kernel_rfl) (by kernel_rfl) (by kernel_rfl) (fun _ _ _ h => h) (Or.inl ⟨by rfl, ?_⟩) hH ?_
  rotate_left
  · ((intro W hW; clear hW; go_simp) <;> with_reducible rfl)
  simp only [Act.put, List.getElem_toArray, List.getElem_cons_zero, List.getElem_cons_succ, List.setIfInBounds_toArray, List.set_cons_zero, List.set_cons_succ]
  refine wpAnyH_take (i := 3) (v := ?_) rfl (by kernel_rfl) (by kernel_rfl) (by kernel_rfl) (fun _ _ _ h => h) (Or.inl ⟨by rfl, ?_⟩) hH ?_
  rotate_left
  · ((intro W hW; clear hW; go_simp) <;> with_reducible rfl)
  simp only [Act.put, List.getElem_toArray, List.getElem_cons_zero, List.getElem_cons_succ, List.setIfInBounds_toArray, List.set_cons_zero, List.set_cons_succ]
  refine wpAnyH_take (i := 4) (v := ?_) rfl (by kernel_rfl) (by kernel_rfl) (by kernel_rfl) (fun _ _ _ h => h) (Or.inl ⟨by rfl, ?_⟩) hH ?_
  rotate_left
  · ((intro W hW; clear hW; go_simp) <;> with_reducible rfl)
  simp only [Act.put, List.getElem_toArray, List.getElem_cons_zero, List.getElem_cons_succ, List.setIfInBounds_toArray, List.set_cons_zero, List.set_cons_succ]
  refine wpAnyH_take (i := 5) (v := ?_) rfl (by kernel_rfl) (by kernel_rfl) (by kernel_rfl) (fun _ _ _ h => h) (Or.inl ⟨by rfl, ?_⟩) hH ?_
  rotate_left
  · ((intro W hW; clear hW; go_simp) <;> with_reducible rfl)
  simp only [Act.put, List.getElem_toArray, List.getElem_cons_zero, List.getElem_cons_succ, List.setIfInBounds_toArray, List.set_cons_zero, List.set_cons_succ]
  refine wpAnyH_take (i := 6) (v := ?_) rfl (by kernel_rfl) (by kernel_rfl) (by kernel_rfl) (fun _ _ _ h => h) (Or.inl ⟨by rfl, ?_⟩) hH ?_
  rotate_left
  · ((intro W hW; clear hW; go_simp) <;> with_reducible rfl)
  simp only [Act.put, List.getElem_toArray, List.getElem_cons_zero, List.getElem_cons_succ, List.setIfInBounds_toArray, List.set_cons_zero, List.set_cons_succ]
  refine wpAnyH_take (i := 7) (v := .agg #[.int .i64 tos, .int .i64 id, .int .i64 fl, .int .i64 pt, .int .i64 ttl, .int .i64 6, .int .u8 (a0.toNat : Int), .int .u8 (a1.toNat : Int), .int .u8 (a2.toNat : Int), .int .u8 (a3.toNat : Int), .int .u8 (a4.toNat : Int), .int .u8 (a5.toNat : Int), .int .u8 (a6.toNat : Int), .int .u8 (a7.toNat : Int), .slice Ao1 no co1, .slice Ab1 (20 + nq + nd) cb1]) rfl (by kernel_rfl) (by kernel_rfl) (by kernel_rfl) (fun _ _ _ h => h) (yieldsIf_load_part (by kernel_rfl) 27 _ rfl g5 0 16 rfl _ 27 (0, 0) (fun W hW => hW.1) _ rfl _ Try.underlying27 rfl (by kernel_rfl)) hH ?_
  simp only [Act.put, List.getElem_toArray, List.getElem_cons_zero, List.getElem_cons_succ, List.setIfInBounds_toArray, List.set_cons_zero, List.set_cons_succ]
  refine wpAnyH_take (i := 9) (v := .agg #[.int .i64 tos, .int .i64 id, .int .i64 fl, .int .i64 pt, .int .i64 ttl, .int .i64 6, .int .u8 (a0.toNat : Int), .int .u8 (a1.toNat : Int), .int .u8 (a2.toNat : Int), .int .u8 (a3.toNat : Int), .int .u8 (a4.toNat : Int), .int .u8 (a5.toNat : Int), .int .u8 (a6.toNat : Int), .int .u8 (a7.toNat : Int), .slice Ao2 no co2, .slice Ab2 (20 + nq + nd) cb2]) rfl (by kernel_rfl) (by kernel_rfl) (by kernel_rfl) (fun _ _ _ h => h) (yieldsIf_load_part (by kernel_rfl) 40 _ rfl g7 0 16 rfl _ 40 (0, 0) (fun W hW => hW.2) _ rfl _ Try.underlying40 rfl (by kernel_rfl)) hH ?_
  simp only [Act.put, List.getElem_toArray, List.getElem_cons_zero, List.getElem_cons_succ, List.setIfInBounds_toArray, List.set_cons_zero, List.set_cons_succ]
  refine wpAnyH_ready (rs := [8]) (by kernel_rfl) (by simp) ?_
  refine AllReadyH.cons (o := _) rfl (fun K hK => ?_) AllReadyH.nil
  simp only [List.getElem_toArray, List.getElem_cons_zero, List.getElem_cons_succ]
  go_simp
  with_reducible refine (own8_any _ _ _ _ _ _ _ _ _ _ _ _ _ _ _ _ _ _ _ _ _).mono ?_
  rintro e w20 ⟨rfl, b20⟩
  dsimp only
  replace hp := blk_u hp b20
  replace hd := blk_u hd b20
  replace he := blk_u he b20
  replace hr := blk_u hr b20
  replace ho := ho.below b20
  replace hb := hb.below b20
  replace hQ := hQ.below b20
  replace hD := hD.below b20
  replace so1 := so1.below b20
  replace sb1 := sb1.below b20
  replace so2 := so2.below b20
  replace sb2 := sb2.below b20
  replace bel := bel.trans (b20.mono bel.size)
  clear b20
  refine hK.out _ _ ⟨he, hr⟩ (fun hH21 => ?_)
  clear hK K
  refine wpAnyH_ready (rs := [10]) (by kernel_rfl) (by simp) ?_
  refine AllReadyH.cons (o := _) rfl (fun K hK => ?_) AllReadyH.nil
  simp only [List.getElem_toArray, List.getElem_cons_zero, List.getElem_cons_succ]
  go_simp
  with_reducible refine (same6_true _ _ _ _ _ _ _ _ _ _ _ _ _ _ _ _ _ _ _ _ _ _ _ _ _ _ _  so1 sb1 so2 sb2).mono ?_
  rintro e w22 ⟨rfl, b22⟩
  dsimp only
  replace hp := blk_u hp b22
  replace hd := blk_u hd b22
  replace he := blk_u he b22
  replace hr := blk_u hr b22
  replace ho := ho.below b22
  replace hb := hb.below b22
  replace hQ := hQ.below b22
  replace hD := hD.below b22
  replace so1 := so1.below b22
  replace sb1 := sb1.below b22
  replace so2 := so2.below b22
  replace sb2 := sb2.below b22
  replace bel := bel.trans (b22.mono bel.size)
  clear b22
  refine hK.out _ _ ⟨he, hr⟩ (fun hH23 => ?_)
  clear hK K
  refine wpAnyH_take (i := 11) (v := ?_) rfl (by kernel_rfl) (by kernel_rfl) (by kernel_rfl) (fun _ _ _ h => h) (Or.inl ⟨by rfl, ?_⟩) hH23 ?_
  rotate_left
  · ((intro W hW; clear hW; go_simp) <;> with_reducible rfl)
  simp only [Act.put, List.getElem_toArray, List.getElem_cons_zero, List.getElem_cons_succ, List.setIfInBounds_toArray, List.set_cons_zero, List.set_cons_succ]
  refine wpAnyH_take (i := 12) (v := ?_) rfl (by kernel_rfl) (by kernel_rfl) (by kernel_rfl) (fun _ _ _ h => h) (Or.inl ⟨by rfl, ?_⟩) hH23 ?_
  rotate_left
  · ((intro W hW; clear hW; go_simp) <;> with_reducible rfl)
  simp only [Act.put, List.getElem_toArray, List.getElem_cons_zero, List.getElem_cons_succ, List.setIfInBounds_toArray, List.set_cons_zero, List.set_cons_succ]
  refine wpAnyH_take (i := 13) (v := ?_) rfl (by kernel_rfl) (by kernel_rfl) (by kernel_rfl) (fun _ _ _ h => h) (Or.inl ⟨by rfl, ?_⟩) hH23 ?_
  rotate_left
  · ((intro W hW; clear hW; go_simp) <;> with_reducible rfl)
  simp only [Act.put, List.getElem_toArray, List.getElem_cons_zero, List.getElem_cons_succ, List.setIfInBounds_toArray, List.set_cons_zero, List.set_cons_succ]
  refine wpAnyH_done (by kernel_rfl) ?_ _
  have R66 := Lib.hid (range_lit he 0 16 [.int .i64 tos, .int .i64 id, .int .i64 fl, .int .i64 pt, .int .i64 ttl, .int .i64 6, .int .u8 (a0.toNat : Int), .int .u8 (a1.toNat : Int), .int .u8 (a2.toNat : Int), .int .u8 (a3.toNat : Int), .int .u8 (a4.toNat : Int), .int .u8 (a5.toNat : Int), .int .u8 (a6.toNat : Int), .int .u8 (a7.toNat : Int), .slice Ao1 no co1, .slice Ab1 (20 + nq + nd) cb1] rfl)
  go_wp2_with (first | ((with_reducible show wpList _ _ _ (⟨some 66, _, _, _, _, _⟩ :: _) _ _); refine wpList_load_rng 27 (.tmp 5) rfl (by kernel_rfl) _ _ rfl _ R66.out _ Try.underlying27 rfl (by kernel_rfl) ?_))
  try clear R66
  with_reducible refine (ipwhole_any _ _ _ _ _ _ _ _ _ _ _ _ _ _ _ _ _ _ _ _ _).mono ?_
  rintro e w24 ⟨rfl, b24⟩
  replace hp := blk_u hp b24
  replace hd := blk_u hd b24
  replace he := blk_u he b24
  replace hr := blk_u hr b24
  replace ho := ho.below b24
  replace hb := hb.below b24
  replace hQ := hQ.below b24
  replace hD := hD.below b24
  replace so1 := so1.below b24
  replace sb1 := sb1.below b24
  replace so2 := so2.below b24
  replace sb2 := sb2.below b24
  replace bel := bel.trans (b24.mono bel.size)
  clear b24
  rw [HW.out]
  have R71 := Lib.hid (range_lit he 0 16 [.int .i64 tos, .int .i64 id, .int .i64 fl, .int .i64 pt, .int .i64 ttl, .int .i64 6, .int .u8 (a0.toNat : Int), .int .u8 (a1.toNat : Int), .int .u8 (a2.toNat : Int), .int .u8 (a3.toNat : Int), .int .u8 (a4.toNat : Int), .int .u8 (a5.toNat : Int), .int .u8 (a6.toNat : Int), .int .u8 (a7.toNat : Int), .slice Ao1 no co1, .slice Ab1 (20 + nq + nd) cb1] rfl)
  go_wp2_with (first | ((with_reducible show wpList _ _ _ (⟨some 71, _, _, _, _, _⟩ :: _) _ _); refine wpList_load_rng 27 (.tmp 5) rfl (by kernel_rfl) _ _ rfl _ R71.out _ Try.underlying27 rfl (by kernel_rfl) ?_))
  try clear R71
  with_reducible refine (tcget_good _ _ _ _ _ _ _ _ _ _ _ _ _ _ _ _ _ _ _ _ _ lq ld _ _ _ _ _ _ _ nq nd _ sb1 (by have := G2.out; omega) (tc_back HW.out a0 a1 a2 a3 a4 a5 a6 a7 lq ld (by rw [HQ1.out]; exact G1.out) E0.out E1.out K0.out K1.out) HQ1.out HD1.out).mono ?_
  rintro e w25 ⟨A3, c3, B3, d3, rfl, s3, z3, fa3, ga3, b25⟩
  have av_s3_p := fa3.av (hlt hp)
  have av_s3_d := fa3.av (hlt hd)
  have av_s3_e := fa3.av (hlt he)
  have av_s3_r := fa3.av (hlt hr)
  have av_z3_p := ga3.av (hlt hp)
  have av_z3_d := ga3.av (hlt hd)
  have av_z3_e := ga3.av (hlt he)
  have av_z3_r := ga3.av (hlt hr)
  replace hp := blk_u hp b25
  replace hd := blk_u hd b25
  replace he := blk_u he b25
  replace hr := blk_u hr b25
  replace ho := ho.below b25
  replace hb := hb.below b25
  replace hQ := hQ.below b25
  replace hD := hD.below b25
  replace so1 := so1.below b25
  replace sb1 := sb1.below b25
  replace so2 := so2.below b25
  replace sb2 := sb2.below b25
  replace bel := bel.trans (b25.mono bel.size)
  clear b25
  replace s3 : Sl w25 (A3) (nq) (c3) (lq) := s3
  replace z3 : Sl w25 (B3) (nd) (d3) (ld) := z3
  go_wp2_with (first | ((with_reducible show wpList _ _ _ (⟨some 9, _, _, _, _, _⟩ :: _) _ _); refine wpList_new_a rfl 34 rfl #[.int .i64 0, .int .i64 0, .int .u32 0, .int .u32 0, .int .i64 0, .int .i64 0, .int .i64 0, .slice none 0 0, .slice none 0 0] (by kernel_rfl) ?_; intro g9 w26 ge hh bb; have d_p_x := ne_new (hlt hp) ge; have d_d_x := ne_new (hlt hd) ge; have d_e_x := ne_new (hlt he) ge; have d_r_x := ne_new (hlt hr) ge; have av_ho_x := ho.av_new ge; have av_hb_x := hb.av_new ge; have av_hQ_x := hQ.av_new ge; have av_hD_x := hD.av_new ge; have av_so1_x := so1.av_new ge; have av_sb1_x := sb1.av_new ge; have av_so2_x := so2.av_new ge; have av_sb2_x := sb2.av_new ge; have av_s3_x := s3.av_new ge; have av_z3_x := z3.av_new ge; have ox := Nat.le_trans bel.size ge; replace hp := blk_u hp bb; replace hd := blk_u hd bb; replace he := blk_u he bb; replace hr := blk_u hr bb; replace ho := ho.below bb; replace hb := hb.below bb; replace hQ := hQ.below bb; replace hD := hD.below bb; replace so1 := so1.below bb; replace sb1 := sb1.below bb; replace so2 := so2.below bb; replace sb2 := sb2.below bb; replace s3 := s3.below bb; replace z3 := z3.below bb; replace bel := bel.trans (bb.mono bel.size); have hx := hh; clear hh ge bb) | ((with_reducible show wpList _ _ _ (⟨none, Op.store _ (.tmp 9) _, _, _, _, _⟩ :: _) _ _); refine wpList_store_blk rfl 34 (.tmp 9) (.tmp 73) rfl g9 rfl _ rfl _ 34 hx (by rfl) (by kernel_rfl) (by kernel_rfl) ?_; intro w27 hq gr; replace ho := ho.away av_ho_x gr; replace hb := hb.away av_hb_x gr; replace hQ := hQ.away av_hQ_x gr; replace hD := hD.away av_hD_x gr; replace so1 := so1.away av_so1_x gr; replace sb1 := sb1.away av_sb1_x gr; replace so2 := so2.away av_so2_x gr; replace sb2 := sb2.away av_sb2_x gr; replace s3 := s3.away av_s3_x gr; replace z3 := z3.away av_z3_x gr; replace hp := blk_a hp gr d_p_x; replace hd := blk_a hd gr d_d_x; replace he := blk_a he gr d_e_x; replace hr := blk_a hr gr d_r_x; replace bel := below_grown bel gr ox bel.size; clear hx; have hx := hq; clear hq gr))
  replace bel := bel.drew
  replace hp : w27.drew.heap[g2]? = _ := hp
  replace hd : w27.drew.heap[g3]? = _ := hd
  replace he : w27.drew.heap[g5]? = _ := he
  replace hr : w27.drew.heap[g7]? = _ := hr
  replace hx : w27.drew.heap[g9]? = _ := hx
  replace ho := ho.drew
  replace hb := hb.drew
  replace hQ := hQ.drew
  replace hD := hD.drew
  replace so1 := so1.drew
  replace sb1 := sb1.drew
  replace so2 := so2.drew
  replace sb2 := sb2.drew
  replace s3 := s3.drew
  replace z3 := z3.drew
  refine wp_region_held_drew (S := fun W => W.heap[g9]? = some (.cells #[.int .i64 sf, .int .i64 st, .int .u32 se, .int .u32 ak, .int .i64 fg, .int .i64 wn, .int .i64 ug, .slice A3 nq c3, .slice B3 nd d3] 34 (0, 0)) ∧ W.heap[g3]? = some (.cells #[.int .i64 sf, .int .i64 st, .int .u32 se, .int .u32 ak, .int .i64 fg, .int .i64 wn, .int .i64 ug, .slice Q nq cq, .slice D nd cd] 34 (0, 0))) (by kernel_rfl) ⟨hx, hd⟩ (fun hH => ?_)
  generalize w27.drew = w28 at bel hp hd he hr hx ho hb hQ hD so1 sb1 so2 sb2 s3 z3 hH ⊢
  refine wpAnyH_take (i := 0) (v := ?_) rfl (by kernel_rfl) (by kernel_rfl) (by kernel_rfl) (fun _ _ _ h => h) (Or.inl ⟨by rfl, ?_⟩) hH ?_
  rotate_left
  · ((intro W hW; clear hW; go_simp) <;> with_reducible rfl)
  simp only [Act.put, List.getElem_toArray, List.getElem_cons_zero, List.setIfInBounds_toArray, List.set_cons_zero, List.set_cons_succ]
  refine wpAnyH_take (i := 1) (v := ?_) rfl (by kernel_rfl) (by kernel_rfl) (by kernel_rfl) (fun _ _ _ h => h) (Or.inl ⟨by rfl, ?_⟩) hH ?_
  rotate_left
  · ((intro W hW; clear hW; go_simp) <;> with_reducible rfl)
  simp only [Act.put, List.getElem_toArray, List.getElem_cons_zero, List.getElem_cons_succ, List.setIfInBounds_toArray, List.set_cons_zero, List.set_cons_succ]
  refine wpAnyH_take (i := 2) (v := ?_) rfl (by kernel_rfl) (by kernel_rfl) (by kernel_rfl) (fun _ _ _ h => h) (Or.inl ⟨by rfl, ?_⟩) hH ?_
  rotate_left
  · ((intro W hW; clear hW; go_simp) <;> with_reducible rfl)
  simp only [Act.put, List.getElem_toArray, List.getElem_cons_zero, List.getElem_cons_succ, List.setIfInBounds_toArray, List.set_cons_zero, List.set_cons_succ]
  refine wpAnyH_take (i := 3) (v := .agg #[.int .i64 sf, .int .i64 st, .int .u32 se, .int .u32 ak, .int .i64 fg, .int .i64 wn, .int .i64 ug, .slice A3 nq c3, .slice B3 nd d3]) rfl (by kernel_rfl) (by kernel_rfl) (by kernel_rfl) (fun _ _ _ h => h) (yieldsIf_load_part (by kernel_rfl) 34 _ rfl g9 0 9 rfl _ 34 (0, 0) (fun W hW => hW.1) _ rfl _ Try.underlying34 rfl (by kernel_rfl)) hH ?_
  simp only [Act.put, List.getElem_toArray, List.getElem_cons_zero, List.getElem_cons_succ, List.setIfInBounds_toArray, List.set_cons_zero, List.set_cons_succ]
  refine wpAnyH_take (i := 4) (v := .agg #[.int .i64 sf, .int .i64 st, .int .u32 se, .int .u32 ak, .int .i64 fg, .int .i64 wn, .int .i64 ug, .slice Q nq cq, .slice D nd cd]) rfl (by kernel_rfl) (by kernel_rfl) (by kernel_rfl) (fun _ _ _ h => h) (yieldsIf_load_part (by kernel_rfl) 34 _ rfl g3 0 9 rfl _ 34 (0, 0) (fun W hW => hW.2) _ rfl _ Try.underlying34 rfl (by kernel_rfl)) hH ?_
  simp only [Act.put, List.getElem_toArray, List.getElem_cons_zero, List.getElem_cons_succ, List.setIfInBounds_toArray, List.set_cons_zero, List.set_cons_succ]
  refine wpAnyH_ready (rs := [5]) (by kernel_rfl) (by simp) ?_
  refine AllReadyH.cons (o := _) rfl (fun K hK => ?_) AllReadyH.nil
  simp only [List.getElem_toArray, List.getElem_cons_zero, List.getElem_cons_succ]
  go_simp
  with_reducible refine (seg8_any _ _ _ _ _ _ _ _ _ _ _ _ _ _).mono ?_
  rintro e w29 ⟨rfl, b29⟩
  dsimp only
  replace hp := blk_u hp b29
  replace hd := blk_u hd b29
  replace he := blk_u he b29
  replace hr := blk_u hr b29
  replace hx := blk_u hx b29
  replace ho := ho.below b29
  replace hb := hb.below b29
  replace hQ := hQ.below b29
  replace hD := hD.below b29
  replace so1 := so1.below b29
  replace sb1 := sb1.below b29
  replace so2 := so2.below b29
  replace sb2 := sb2.below b29
  replace s3 := s3.below b29
  replace z3 := z3.below b29
  replace bel := bel.trans (b29.mono bel.size)
  clear b29
  refine hK.out _ _ ⟨hx, hd⟩ (fun hH30 => ?_)
  clear hK K
  refine wpAnyH_ready (rs := [6]) (by kernel_rfl) (by simp) ?_
  refine AllReadyH.cons (o := _) rfl (fun K hK => ?_) AllReadyH.nil
  simp only [List.getElem_toArray, List.getElem_cons_zero, List.getElem_cons_succ]
  go_simp
  with_reducible refine (same8_true _ _ _ _ _ _ _ _ _ _ _ _ _ _ _ _ _ _ _ _  s3 z3 hQ hD).mono ?_
  rintro e w31 ⟨rfl, b31⟩
  dsimp only
  replace hp := blk_u hp b31
  replace hd := blk_u hd b31
  replace he := blk_u he b31
  replace hr := blk_u hr b31
  replace hx := blk_u hx b31
  replace ho := ho.below b31
  replace hb := hb.below b31
  replace hQ := hQ.below b31
  replace hD := hD.below b31
  replace so1 := so1.below b31
  replace sb1 := sb1.below b31
  replace so2 := so2.below b31
  replace sb2 := sb2.below b31
  replace s3 := s3.below b31
  replace z3 := z3.below b31
  replace bel := bel.trans (b31.mono bel.size)
  clear b31
  refine hK.out _ _ ⟨hx, hd⟩ (fun hH32 => ?_)
  clear hK K
  refine wpAnyH_take (i := 7) (v := ?_) rfl (by kernel_rfl) (by kernel_rfl) (by kernel_rfl) (fun _ _ _ h => h) (Or.inl ⟨by rfl, ?_⟩) hH32 ?_
  rotate_left
  · ((intro W hW; clear hW; go_simp) <;> with_reducible rfl)
  simp only [Act.put, List.getElem_toArray, List.getElem_cons_zero, List.getElem_cons_succ, List.setIfInBounds_toArray, List.set_cons_zero, List.set_cons_succ]
  refine wpAnyH_take (i := 8) (v := ?_) rfl (by kernel_rfl) (by kernel_rfl) (by kernel_rfl) (fun _ _ _ h => h) (Or.inl ⟨by rfl, ?_⟩) hH32 ?_
  rotate_left
  · ((intro W hW; clear hW; go_simp) <;> with_reducible rfl)
  simp only [Act.put, List.getElem_toArray, List.getElem_cons_zero, List.getElem_cons_succ, List.setIfInBounds_toArray, List.set_cons_zero, List.set_cons_succ]
  refine wpAnyH_done (by kernel_rfl) ?_ _
  go_wp2_with fail
  go_ret
  exact ⟨rfl, bel⟩
theorem tcpWrites_walk (tos id fl pt ttl pr : Int) (a0 a1 a2 a3 a4 a5 a6 a7 : UInt8) (So : Option Addr) (no co : Nat) (lo : List UInt8) (Sb : Option Addr) (nb cb : Nat) (lb : List UInt8) (sf st se ak fg wn ug : Int) (Q : Option Addr) (nq cq : Nat) (lq : List UInt8) (D : Option Addr) (nd cd : Nat) (ld : List UInt8) (w : World) (ho : Sl w So no co lo) (hb : Sl w Sb nb cb lb) (hq : Sl w Q nq cq lq) (hd : Sl w D nd cd ld) (e0 : 0 ≤ se) (e1 : se < 4294967296) (k0 : 0 ≤ ak) (k1 : ak < 4294967296) : Calls Try.prog 5 #[.agg #[.int .i64 tos, .int .i64 id, .int .i64 fl, .int .i64 pt, .int .i64 ttl, .int .i64 pr, .int .u8 (a0.toNat : Int), .int .u8 (a1.toNat : Int), .int .u8 (a2.toNat : Int), .int .u8 (a3.toNat : Int), .int .u8 (a4.toNat : Int), .int .u8 (a5.toNat : Int), .int .u8 (a6.toNat : Int), .int .u8 (a7.toNat : Int), .slice So no co, .slice Sb nb cb], .agg #[.int .i64 sf, .int .i64 st, .int .u32 se, .int .u32 ak, .int .i64 fg, .int .i64 wn, .int .i64 ug, .slice Q nq cq, .slice D nd cd]] w fun e w' => e = .returned (.bool true) ∧ Below w.heap.size w w' := by
  by_cases h1 : nb ≤ 1600
  · by_cases h2 : no ≤ 60
    · by_cases h3 : nd ≤ 1600
      · by_cases h4 : nq ≤ 60
        · by_cases he : (tcPut tos id fl pt ttl a0 a1 a2 a3 a4 a5 a6 a7 lo sf st se ak fg wn ug lq ld).2.2 = 0
          · obtain ⟨g1, g2⟩ := tcput_pos he
            rw [hq.1] at g1 g2
            rw [hd.1] at g2
            rcases (by decide : ∀ b : Bool, b = true ∨ b = false) (decide (pt = 0) && decide (fl % 2 = 0)) with hw | hw
            · exact tcpWrites_7 tos id fl pt ttl pr a0 a1 a2 a3 a4 a5 a6 a7 So no co lo Sb nb cb lb sf st se ak fg wn ug Q nq cq lq D nd cd ld w ho hb hq hd h1 h2 h3 h4 e0 e1 k0 k1 g1 g2 hw
            · exact tcpWrites_6 tos id fl pt ttl pr a0 a1 a2 a3 a4 a5 a6 a7 So no co lo Sb nb cb lb sf st se ak fg wn ug Q nq cq lq D nd cd ld w ho hb hq hd h1 h2 h3 h4 e0 e1 k0 k1 g1 g2 hw
          · exact tcpWrites_5 tos id fl pt ttl pr a0 a1 a2 a3 a4 a5 a6 a7 So no co lo Sb nb cb lb sf st se ak fg wn ug Q nq cq lq D nd cd ld w ho hb hq hd h1 h2 h3 h4 e0 e1 k0 k1 _ rfl he
        · exact tcpWrites_4 tos id fl pt ttl pr a0 a1 a2 a3 a4 a5 a6 a7 So no co lo Sb nb cb lb sf st se ak fg wn ug Q nq cq lq D nd cd ld w h1 h2 h3 (by omega)
      · exact tcpWrites_3 tos id fl pt ttl pr a0 a1 a2 a3 a4 a5 a6 a7 So no co lo Sb nb cb lb sf st se ak fg wn ug Q nq cq lq D nd cd ld w h1 h2 (by omega)
    · exact tcpWrites_2 tos id fl pt ttl pr a0 a1 a2 a3 a4 a5 a6 a7 So no co lo Sb nb cb lb sf st se ak fg wn ug Q nq cq lq D nd cd ld w h1 (by omega)
  · exact tcpWrites_1 tos id fl pt ttl pr a0 a1 a2 a3 a4 a5 a6 a7 So no co lo Sb nb cb lb sf st se ak fg wn ug Q nq cq lq D nd cd ld w (by omega)
end Go.Proofs.Ytkmihoijnjdbnaa
