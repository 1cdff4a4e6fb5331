/- Layer 9: own, msg, same, base, awake; IcmpReads, IcmpWrites, IcmpKinds. -/
import Derived.Test.YtfmllopeeiecjaaIc2
import Derived.Test.YtfmllopeeiecjaaIc3
import Derived.Test.YtfmllopeeiecjaaIpr3
import Derived.Deep.CutRange
namespace Go.Proofs.Ytfmllopeeiecjaa
open Go.RowKit

set_option maxRecDepth 100000 in
set_option maxHeartbeats 16000000 in
theorem own9_any (tos id fl pt ttl pr : Int) (a0 a1 a2 a3 a4 a5 a6 a7 : UInt8) (So Sb : Option Addr) (no co nb cb : Nat) (w : World) : Calls Try.prog 18 #[.agg #[.int .i64 tos, .int .i64 id, .int .i64 fl, .int .i64 pt, .int .i64 ttl, .int .i64 pr, .int .u8 (a0.toNat : Int), .int .u8 (a1.toNat : Int), .int .u8 (a2.toNat : Int), .int .u8 (a3.toNat : Int), .int .u8 (a4.toNat : Int), .int .u8 (a5.toNat : Int), .int .u8 (a6.toNat : Int), .int .u8 (a7.toNat : Int), .slice So no co, .slice Sb nb cb]] w fun e w' => e = .returned (.agg #[.int .i64 tos, .int .i64 id, .int .i64 fl, .int .i64 pt, .int .i64 ttl, .int .i64 pr, .int .u8 (a0.toNat : Int), .int .u8 (a1.toNat : Int), .int .u8 (a2.toNat : Int), .int .u8 (a3.toNat : Int), .int .u8 (a4.toNat : Int), .int .u8 (a5.toNat : Int), .int .u8 (a6.toNat : Int), .int .u8 (a7.toNat : Int), .slice So no co, .slice Sb nb cb]) ∧ Below w.heap.size w w' := by
  have bel := Below.refl w.heap.size w
  go_enter Try.func18, Try.ntmps18
  go_wp2_with (first | ((with_reducible show wpList _ _ _ (⟨some 1, _, _, _, _, _⟩ :: _) _ _); refine wpList_box_n rfl 27 (.tmp 0) rfl #[.int .i64 tos, .int .i64 id, .int .i64 fl, .int .i64 pt, .int .i64 ttl, .int .i64 pr, .int .u8 (a0.toNat : Int), .int .u8 (a1.toNat : Int), .int .u8 (a2.toNat : Int), .int .u8 (a3.toNat : Int), .int .u8 (a4.toNat : Int), .int .u8 (a5.toNat : Int), .int .u8 (a6.toNat : Int), .int .u8 (a7.toNat : Int), .slice So no co, .slice Sb nb cb] rfl ?_; intro g1 w1 ge lt hh bb; have op := Nat.le_trans bel.size ge; replace bel := bel.trans (bb.mono bel.size); have hp := hh; clear hh lt ge bb) | ((with_reducible show wpList _ _ _ (⟨some 2, _, _, _, _, _⟩ :: _) _ _); refine wpList_new_a rfl 45 rfl #[.int .i64 0, .int .i64 0, .int .i64 0, .int .i64 0, .int .i64 0, .int .i64 0, .int .u8 0, .int .u8 0, .int .u8 0, .int .u8 0, .int .u8 0, .int .u8 0, .int .u8 0, .int .u8 0, .slice none 0 0, .slice none 0 0] (by kernel_rfl) ?_; intro g2 w2 ge hh bb; have d_p_z := ne_new (hlt hp) ge; have oz := Nat.le_trans bel.size ge; replace hp := blk_u hp bb; replace bel := bel.trans (bb.mono bel.size); have hz := hh; clear hh ge bb; have R4 := cell_lit hp 0 _ rfl; have R6 := cell_lit hp 1 _ rfl; have R8 := cell_lit hp 2 _ rfl; have R10 := cell_lit hp 3 _ rfl; have R12 := cell_lit hp 4 _ rfl; have R14 := cell_lit hp 5 _ rfl; have R16 := Lib.hid (range_lit hp 6 4 [.int .u8 (a0.toNat : Int), .int .u8 (a1.toNat : Int), .int .u8 (a2.toNat : Int), .int .u8 (a3.toNat : Int)] rfl)) | ((with_reducible show wpList _ _ _ (⟨some 16, _, _, _, _, _⟩ :: _) _ _); refine wpList_load_rng 24 (.tmp 15) rfl (by kernel_rfl) _ _ rfl _ R16.out _ Try.underlying24 rfl (by kernel_rfl) ?_; have R18 := Lib.hid (range_lit hp 10 4 [.int .u8 (a4.toNat : Int), .int .u8 (a5.toNat : Int), .int .u8 (a6.toNat : Int), .int .u8 (a7.toNat : Int)] rfl)) | ((with_reducible show wpList _ _ _ (⟨some 18, _, _, _, _, _⟩ :: _) _ _); refine wpList_load_rng 24 (.tmp 17) rfl (by kernel_rfl) _ _ rfl _ R18.out _ Try.underlying24 rfl (by kernel_rfl) ?_; have R20 := cell_lit hp 14 _ rfl; have R22 := cell_lit hp 15 _ rfl) | ((with_reducible show wpList _ _ _ (⟨none, Op.store _ (.tmp 2) _, _, _, _, _⟩ :: _) _ _); refine wpList_store_blk rfl 45 (.tmp 2) (.tmp 23) rfl g2 rfl _ rfl _ 45 hz (by rfl) (by kernel_rfl) (by kernel_rfl) ?_; intro w3 hq gr; replace hp := blk_a hp gr d_p_z; replace bel := below_grown bel gr oz bel.size; clear hz; have hz := hq; clear hq gr))
  try clear R4
  try clear R6
  try clear R8
  try clear R10
  try clear R12
  try clear R14
  try clear R16
  try clear R18
  try clear R20
  try clear R22
  exact bodyPost_ret (results_cell_row' rfl _ _ _ _ _ _ _ rfl hz Try.underlying45 rfl (by kernel_rfl)) rfl ⟨rfl, bel⟩
set_option maxRecDepth 100000 in
set_option maxHeartbeats 16000000 in
theorem msg9_any (ty cd re : Int) (D : Option Addr) (nd qd : Nat) (w : World) : Calls Try.prog 24 #[.agg #[.int .i64 ty, .int .i64 cd, .int .u32 re, .slice D nd qd]] w fun e w' => e = .returned (.agg #[.int .i64 ty, .int .i64 cd, .int .u32 re, .slice D nd qd]) ∧ Below w.heap.size w w' := by
  have bel := Below.refl w.heap.size w
  go_enter Try.func24, Try.ntmps24
  go_wp2_with (first | ((with_reducible show wpList _ _ _ (⟨some 1, _, _, _, _, _⟩ :: _) _ _); refine wpList_box_n rfl 34 (.tmp 0) rfl #[.int .i64 ty, .int .i64 cd, .int .u32 re, .slice D nd qd] rfl ?_; intro g1 w1 ge lt hh bb; have om := Nat.le_trans bel.size ge; replace bel := bel.trans (bb.mono bel.size); have hm := hh; clear hh lt ge bb) | ((with_reducible show wpList _ _ _ (⟨some 2, _, _, _, _, _⟩ :: _) _ _); refine wpList_new_a rfl 42 rfl #[.int .i64 0, .int .i64 0, .int .u32 0, .slice none 0 0] (by kernel_rfl) ?_; intro g2 w2 ge hh bb; have d_m_z := ne_new (hlt hm) ge; have oz := Nat.le_trans bel.size ge; replace hm := blk_u hm bb; replace bel := bel.trans (bb.mono bel.size); have hz := hh; clear hh ge bb; have R4 := cell_lit hm 0 _ rfl; have R6 := cell_lit hm 1 _ rfl; have R8 := cell_lit hm 2 _ rfl; have R10 := cell_lit hm 3 _ rfl) | ((with_reducible show wpList _ _ _ (⟨none, Op.store _ (.tmp 2) _, _, _, _, _⟩ :: _) _ _); refine wpList_store_blk rfl 42 (.tmp 2) (.tmp 11) rfl g2 rfl _ rfl _ 42 hz (by rfl) (by kernel_rfl) (by kernel_rfl) ?_; intro w3 hq gr; replace hm := blk_a hm gr d_m_z; replace bel := below_grown bel gr oz bel.size; clear hz; have hz := hq; clear hq gr))
  try clear R4
  try clear R6
  try clear R8
  try clear R10
  exact bodyPost_ret (results_cell_row' rfl _ _ _ _ _ _ _ rfl hz Try.underlying42 rfl (by kernel_rfl)) rfl ⟨rfl, bel⟩
set_option maxRecDepth 100000 in
set_option maxHeartbeats 16000000 in
theorem same9_true (ty cd re : Int) (D : Option Addr) (qd : Nat) (D2 : Option Addr) (m2 d2 : Nat) (ld : List UInt8) (w : World) (h2 : Sl w D m2 qd ld) (h4 : Sl w D2 m2 d2 ld) : Calls Try.prog 20 #[.agg #[.int .i64 ty, .int .i64 cd, .int .u32 re, .slice D m2 qd], .agg #[.int .i64 ty, .int .i64 cd, .int .u32 re, .slice D2 m2 d2]] w fun e w' => e = .returned (.bool true) ∧ Below w.heap.size w w' := by
  have bel := Below.refl w.heap.size w
  go_enter Try.func20, Try.ntmps20
  go_wp2_with (first | ((with_reducible show wpList _ _ _ (⟨some 2, _, _, _, _, _⟩ :: _) _ _); refine wpList_box_n rfl 34 (.tmp 0) rfl #[.int .i64 ty, .int .i64 cd, .int .u32 re, .slice D m2 qd] rfl ?_; intro g2 w1 ge lt hh bb; have av_h2_m := h2.av_new ge; have av_h4_m := h4.av_new ge; have om := Nat.le_trans bel.size ge; replace h2 := h2.below bb; replace h4 := h4.below bb; replace bel := bel.trans (bb.mono bel.size); have hm := hh; clear hh lt ge bb) | ((with_reducible show wpList _ _ _ (⟨some 3, _, _, _, _, _⟩ :: _) _ _); refine wpList_box_n rfl 42 (.tmp 1) rfl #[.int .i64 ty, .int .i64 cd, .int .u32 re, .slice D2 m2 d2] rfl ?_; intro g3 w2 ge lt hh bb; have d_m_q := ne_new (hlt hm) ge; have av_h2_q := h2.av_new ge; have av_h4_q := h4.av_new ge; have oq := Nat.le_trans bel.size ge; replace hm := blk_u hm bb; replace h2 := h2.below bb; replace h4 := h4.below bb; replace bel := bel.trans (bb.mono bel.size); have hq := hh; clear hh lt ge bb; have R6 := cell_lit hm 0 _ rfl; have R8 := cell_lit hq 0 _ rfl; have R12 := cell_lit hm 1 _ rfl; have R14 := cell_lit hq 1 _ rfl; have R19 := cell_lit hm 2 _ rfl; have R21 := cell_lit hq 2 _ rfl; have R26 := cell_lit hm 3 _ rfl; have st27 := h2.str (P := Try.prog) 25 5 9 Try.underlying25 Try.underlying5 Try.underlying9; have R29 := cell_lit hq 3 _ rfl; have st30 := h4.str (P := Try.prog) 25 5 9 Try.underlying25 Try.underlying5 Try.underlying9))
  try clear R6
  try clear R8
  try clear R12
  try clear R14
  try clear R19
  try clear R21
  try clear R26
  try clear st27
  try clear R29
  try clear st30
  go_ret
  exact ⟨rfl, bel⟩
set_option maxRecDepth 100000 in
set_option maxHeartbeats 16000000 in
theorem base9 (w : World) : Calls Try.prog 12 #[] w fun e w' => e = .returned (.agg #[.int .i64 0, .int .i64 0, .int .i64 0, .int .i64 0, .int .i64 64, .int .i64 0, .int .u8 10, .int .u8 0, .int .u8 0, .int .u8 1, .int .u8 10, .int .u8 0, .int .u8 0, .int .u8 2, .slice none 0 0, .slice none 0 0]) ∧ Below w.heap.size w w' := by
  have bel := Below.refl w.heap.size w
  go_enter Try.func12, Try.ntmps12
  go_wp2_with (first | ((with_reducible show wpList _ _ _ (⟨some 0, _, _, _, _, _⟩ :: _) _ _); refine wpList_new_a rfl 27 rfl #[.int .i64 0, .int .i64 0, .int .i64 0, .int .i64 0, .int .i64 0, .int .i64 0, .int .u8 0, .int .u8 0, .int .u8 0, .int .u8 0, .int .u8 0, .int .u8 0, .int .u8 0, .int .u8 0, .slice none 0 0, .slice none 0 0] (by kernel_rfl) ?_; intro g0 w1 ge hh bb; have oz := Nat.le_trans bel.size ge; replace bel := bel.trans (bb.mono bel.size); have hz := hh; clear hh ge bb) | ((with_reducible show wpList _ _ _ (⟨none, Op.store _ (.tmp 0) _, _, _, _, _⟩ :: _) _ _); refine wpList_store_blk rfl 27 (.tmp 0) (.tmp 3) rfl g0 rfl _ rfl _ 27 hz (by rfl) (by kernel_rfl) (by kernel_rfl) ?_; intro w2 hq gr; replace bel := below_grown bel gr oz bel.size; clear hz; have hz := hq; clear hq gr))
  exact bodyPost_ret (results_cell_row' rfl _ _ _ _ _ _ _ rfl hz Try.underlying27 rfl (by kernel_rfl)) rfl ⟨rfl, bel⟩
/-- An answer of Query by names. -/
def icQ (ty cd re : Int) : Int × Bool := (if (echoT ty && decide (cd = 0)) = true then re / 65536 else 0, echoT ty && decide (cd = 0))
theorem icquery_q (ty cd re : Int) (D : Option Addr) (nd qd : Nat) (e0 : 0 ≤ re) (e1 : re < 4294967296) (w : World) : Calls Try.prog 16 #[.agg #[.int .i64 ty, .int .i64 cd, .int .u32 re, .slice D nd qd]] w fun e w' => ∃ (qv : Int) (qb : Bool), e = .returned (.tuple #[.int .i64 qv, .bool qb]) ∧ Below w.heap.size w w' ∧ (qv, qb) = icQ ty cd re := by
  refine (icquery_any ty cd re D nd qd e0 e1 w).mono ?_
  rintro e w' ⟨rfl, bel⟩
  exact ⟨_, _, rfl, bel, rfl⟩
theorem ricquery_q (ty cd re : Int) (D : Option Addr) (nd qd : Nat) (e0 : 0 ≤ re) (e1 : re < 4294967296) (w : World) : Calls Try.prog 19 #[.agg #[.int .i64 ty, .int .i64 cd, .int .u32 re, .slice D nd qd]] w fun e w' => ∃ (qv : Int) (qb : Bool), e = .returned (.tuple #[.int .i64 qv, .bool qb]) ∧ Below w.heap.size w w' ∧ (qv, qb) = icQ ty cd re := by
  refine (ricquery_any ty cd re D nd qd e0 e1 w).mono ?_
  rintro e w' ⟨rfl, bel⟩
  exact ⟨_, _, rfl, bel, rfl⟩
theorem icget_re {fl pt pr : Int} {b : List UInt8} {x y z : Int} {l : List UInt8} {er : Int} (h : ([x, y, z], l, er) = icGet fl pt pr b) : 0 ≤ z ∧ z < 4294967296 := by
  unfold icGet at h
  split at h
  · simp only [msNone, Prod.mk.injEq, List.cons.injEq, and_true] at h
    omega
  · simp only [Prod.mk.injEq, List.cons.injEq, and_true] at h
    have h2 := h.1.2.2
    rw [h2]
    have h3 := be_lt 4 ((b.drop 4).take 4)
    by_cases hl : ((b.drop 4).take 4).length = 4
    · have := h3 hl
      omega
    · exfalso
      rename_i h9
      simp only [ne_eq, Decidable.not_not] at h9
      unfold icErr at h9
      split at h9
      · simp at h9
      split at h9
      · simp at h9
      split at h9
      · simp at h9
      rw [List.length_take, List.length_drop] at hl
      omega
theorem kput (ty cd re : Int) (D : Option Addr) (nd qd : Nat) (ld : List UInt8) (w : World) (hb : Sl w D nd qd ld) (e0 : 0 ≤ re) (e1 : re < 4294967296) : Calls Try.prog 11 #[.agg #[.int .i64 0, .int .i64 0, .int .i64 0, .int .i64 0, .int .i64 64, .int .i64 0, .int .u8 10, .int .u8 0, .int .u8 0, .int .u8 1, .int .u8 10, .int .u8 0, .int .u8 0, .int .u8 2, .slice none 0 0, .slice none 0 0], .agg #[.int .i64 ty, .int .i64 cd, .int .u32 re, .slice D nd qd]] w (PkPost (icPut 0 0 0 0 64 10 0 0 1 10 0 0 2 [] ty cd re ld) w) :=
  icput_any 0 0 0 0 64 0 10 0 0 1 10 0 0 2 none none 0 0 0 0 ty cd re D nd qd [] ld w (Sl.nil w) hb (by omega) e0 e1
theorem kput_ok (ty cd re : Int) (D : Option Addr) (nd qd : Nat) (ld : List UInt8) (w : World) (hb : Sl w D nd qd ld) (h1 : byteOk ty = true) (h2 : byteOk cd = true) (hn : nd ≤ 1472) (e0 : 0 ≤ re) (e1 : re < 4294967296) : Calls Try.prog 11 #[.agg #[.int .i64 0, .int .i64 0, .int .i64 0, .int .i64 0, .int .i64 64, .int .i64 0, .int .u8 10, .int .u8 0, .int .u8 0, .int .u8 1, .int .u8 10, .int .u8 0, .int .u8 0, .int .u8 2, .slice none 0 0, .slice none 0 0], .agg #[.int .i64 ty, .int .i64 cd, .int .u32 re, .slice D nd qd]] w fun e w' => ∃ Ao co Ab cb, e = .returned (.tuple #[.agg #[.int .i64 0, .int .i64 0, .int .i64 0, .int .i64 0, .int .i64 64, .int .i64 1, .int .u8 10, .int .u8 0, .int .u8 0, .int .u8 1, .int .u8 10, .int .u8 0, .int .u8 0, .int .u8 2, .slice Ao 0 co, .slice Ab (8 + nd) cb], .int .i64 0]) ∧ Sl w' Ao 0 co [] ∧ Sl w' Ab (8 + nd) cb (icBytes ty cd re ld) ∧ Fr w.heap.size Ab (8 + nd) ∧ Below w.heap.size w w' := by
  refine (kput ty cd re D nd qd ld w hb e0 e1).mono ?_
  rintro e w' ⟨f0, f1, f2, f3, f4, f5, g0, g1, g2, g3, g4, g5, g6, g7, lo, lb, Ao, Ab, co, cb, er, rfl, ho, hbb, fo, fb, bel, hq⟩
  rw [icput_eq h1 h2 (by rw [hb.1]; exact hn)] at hq
  simp only [Prod.mk.injEq, List.cons.injEq, and_true] at hq
  obtain ⟨⟨⟨rfl, rfl, rfl, rfl, rfl, rfl⟩, rfl, rfl, rfl, rfl, rfl, rfl, rfl, rfl⟩, ⟨rfl, rfl⟩, rfl⟩ := hq
  have hl : (icBytes ty cd re ld).length = 8 + nd := by rw [icBytes_len, hb.1]
  rw [hl] at hbb fb ⊢
  exact ⟨Ao, co, Ab, cb, rfl, ho, hbb, fb, bel⟩
theorem kput_er (ty cd re : Int) (D : Option Addr) (nd qd : Nat) (ld : List UInt8) (er : Int) (w : World) (hb : Sl w D nd qd ld) (e0 : 0 ≤ re) (e1 : re < 4294967296) (h : (icPut 0 0 0 0 64 10 0 0 1 10 0 0 2 [] ty cd re ld).2.2 = er) : Calls Try.prog 11 #[.agg #[.int .i64 0, .int .i64 0, .int .i64 0, .int .i64 0, .int .i64 64, .int .i64 0, .int .u8 10, .int .u8 0, .int .u8 0, .int .u8 1, .int .u8 10, .int .u8 0, .int .u8 0, .int .u8 2, .slice none 0 0, .slice none 0 0], .agg #[.int .i64 ty, .int .i64 cd, .int .u32 re, .slice D nd qd]] w fun e w' => ∃ f0 f1 f2 f3 f4 f5 : Int, ∃ g0 g1 g2 g3 g4 g5 g6 g7 : UInt8, ∃ Ao no co Ab nb cb, e = .returned (.tuple #[.agg #[.int .i64 f0, .int .i64 f1, .int .i64 f2, .int .i64 f3, .int .i64 f4, .int .i64 f5, .int .u8 (g0.toNat : Int), .int .u8 (g1.toNat : Int), .int .u8 (g2.toNat : Int), .int .u8 (g3.toNat : Int), .int .u8 (g4.toNat : Int), .int .u8 (g5.toNat : Int), .int .u8 (g6.toNat : Int), .int .u8 (g7.toNat : Int), .slice Ao no co, .slice Ab nb cb], .int .i64 er]) ∧ Below w.heap.size w w' := by
  refine (kput ty cd re D nd qd ld w hb e0 e1).mono ?_
  rintro e w' ⟨f0, f1, f2, f3, f4, f5, g0, g1, g2, g3, g4, g5, g6, g7, lo, lb, Ao, Ab, co, cb, er', rfl, ho, hbb, fo, fb, bel, hq⟩
  rw [← hq] at h
  subst h
  exact ⟨_, _, _, _, _, _, _, _, _, _, _, _, _, _, _, _, _, _, _, _, rfl, bel⟩
theorem icget_good (tos id fl pt ttl pr : Int) (a0 a1 a2 a3 a4 a5 a6 a7 : UInt8) (So Sb : Option Addr) (no co nb cb : Nat) (lb ld : List UInt8) (ty cd re : Int) (nd : Nat) (w : World) (hb : Sl w Sb nb cb lb) (hm : nb ≤ 100000) (hg : icGet fl pt pr lb = ([ty, cd, re], ld, 0)) (hd : ld.length = nd) : Calls Try.prog 15 #[.agg #[.int .i64 tos, .int .i64 id, .int .i64 fl, .int .i64 pt, .int .i64 ttl, .int .i64 pr, .int .u8 (a0.toNat : Int), .int .u8 (a1.toNat : Int), .int .u8 (a2.toNat : Int), .int .u8 (a3.toNat : Int), .int .u8 (a4.toNat : Int), .int .u8 (a5.toNat : Int), .int .u8 (a6.toNat : Int), .int .u8 (a7.toNat : Int), .slice So no co, .slice Sb nb cb]] w fun e w' => ∃ B d, e = .returned (.tuple #[.agg #[.int .i64 ty, .int .i64 cd, .int .u32 re, .slice B nd d], .int .i64 0]) ∧ Sl w' B nd d ld ∧ Fr w.heap.size B nd ∧ Below w.heap.size w w' := by
  subst hd
  refine (icget_any tos id fl pt ttl pr a0 a1 a2 a3 a4 a5 a6 a7 So Sb no co nb cb lb w hb hm).mono ?_
  rintro e w' ⟨f0, f1, f2, b, B, d, er, rfl, ht, hh, bel, hq⟩
  rw [hg] at hq
  simp only [Prod.mk.injEq, List.cons.injEq, and_true] at hq
  obtain ⟨⟨rfl, rfl, rfl⟩, rfl, rfl⟩ := hq
  exact ⟨B, d, rfl, ht, hh, bel⟩
theorem icget_er (tos id fl pt ttl pr : Int) (a0 a1 a2 a3 a4 a5 a6 a7 : UInt8) (So Sb : Option Addr) (no co nb cb : Nat) (lb : List UInt8) (er : Int) (w : World) (hb : Sl w Sb nb cb lb) (hm : nb ≤ 100000) (hg : icErr fl pt pr lb = er) : Calls Try.prog 15 #[.agg #[.int .i64 tos, .int .i64 id, .int .i64 fl, .int .i64 pt, .int .i64 ttl, .int .i64 pr, .int .u8 (a0.toNat : Int), .int .u8 (a1.toNat : Int), .int .u8 (a2.toNat : Int), .int .u8 (a3.toNat : Int), .int .u8 (a4.toNat : Int), .int .u8 (a5.toNat : Int), .int .u8 (a6.toNat : Int), .int .u8 (a7.toNat : Int), .slice So no co, .slice Sb nb cb]] w fun e w' => ∃ (f0 f1 f2 : Int) (B : Option Addr) (n d : Nat), e = .returned (.tuple #[.agg #[.int .i64 f0, .int .i64 f1, .int .u32 f2, .slice B n d], .int .i64 er]) ∧ Below w.heap.size w w' := by
  refine (icget_any tos id fl pt ttl pr a0 a1 a2 a3 a4 a5 a6 a7 So Sb no co nb cb lb w hb hm).mono ?_
  rintro e w' ⟨f0, f1, f2, b, B, d, er', rfl, ht, hh, bel, hq⟩
  have e1 := congrArg (fun z => z.2.2) hq
  simp only [icGet_er] at e1
  rw [hg] at e1
  subst e1
  exact ⟨f0, f1, f2, B, _, d, rfl, bel⟩
theorem kget (Ao Ab : Option Addr) (no co cb n : Nat) (l ld : List UInt8) (ty cd re : Int) (nd : Nat) (w : World) (h : Sl w Ab n cb l) (hn : n ≤ 80000) (hg : icGet 0 0 1 l = ([ty, cd, re], ld, 0)) (hd : ld.length = nd) : Calls Try.prog 15 #[.agg #[.int .i64 0, .int .i64 0, .int .i64 0, .int .i64 0, .int .i64 64, .int .i64 1, .int .u8 10, .int .u8 0, .int .u8 0, .int .u8 1, .int .u8 10, .int .u8 0, .int .u8 0, .int .u8 2, .slice Ao no co, .slice Ab n cb]] w fun e w' => ∃ B d, e = .returned (.tuple #[.agg #[.int .i64 ty, .int .i64 cd, .int .u32 re, .slice B nd d], .int .i64 0]) ∧ Sl w' B nd d ld ∧ Fr w.heap.size B nd ∧ Below w.heap.size w w' :=
  icget_good 0 0 0 0 64 1 10 0 0 1 10 0 0 2 Ao Ab no co n cb l ld ty cd re nd w h (by omega) hg hd
theorem kget_er (Ao Ab : Option Addr) (no co cb n : Nat) (l : List UInt8) (er : Int) (w : World) (h : Sl w Ab n cb l) (hn : n ≤ 80000) (hg : icErr 0 0 1 l = er) : Calls Try.prog 15 #[.agg #[.int .i64 0, .int .i64 0, .int .i64 0, .int .i64 0, .int .i64 64, .int .i64 1, .int .u8 10, .int .u8 0, .int .u8 0, .int .u8 1, .int .u8 10, .int .u8 0, .int .u8 0, .int .u8 2, .slice Ao no co, .slice Ab n cb]] w fun e w' => ∃ (f0 f1 f2 : Int) (B : Option Addr) (n d : Nat), e = .returned (.tuple #[.agg #[.int .i64 f0, .int .i64 f1, .int .u32 f2, .slice B n d], .int .i64 er]) ∧ Below w.heap.size w w' :=
  icget_er 0 0 0 0 64 1 10 0 0 1 10 0 0 2 Ao Ab no co n cb l er w h (by omega) hg
theorem icfault_n (ty cd re : Int) (D : Option Addr) (nd qd : Nat) (b : Bool) (h : faultT ty = b) (w : World) : Calls Try.prog 21 #[.agg #[.int .i64 ty, .int .i64 cd, .int .u32 re, .slice D nd qd]] w fun e w' => e = .returned (.bool b) ∧ Below w.heap.size w w' := by
  subst h; exact icfault_any ty cd re D nd qd w
set_option maxRecDepth 100000 in
set_option maxHeartbeats 16000000 in
theorem awake9 (w : World) : Calls Try.prog 10 #[] w fun e w' => e = .returned (.bool true) ∧ Below w.heap.size w w' := by
  obtain ⟨ii, hii, hz0, hz1, hz2⟩ := info_parts Try.info5
  have bel := Below.refl w.heap.size w
  go_enter Try.func10, Try.ntmps10
  go_wp2_with (first | ((with_reducible show wpList _ _ _ (⟨some 8, _, _, _, _, _⟩ :: _) _ _); refine wpList_lit_n rfl 25 5 1 _ rfl #[.int .u8 120] (.int .u8 0) Try.underlying25 (by kernel_rfl) 1 (by kernel_rfl) (by decide) (by kernel_rfl) ?_; intro g8 w1 ge lt hh bb; have hl : w1.heap[g8]? = some (.cells (([120] : List UInt8).map u8v).toArray 5 (0, 0)) := (by simpa [u8v, byteOf_val] using hh); have sxw := own_lit (B := w.heap.size) ([120]) hl ge 1 rfl (by simp [maxLen]); have sx := (own_sl sxw).1; have sxlo := bel.size; clear hl; have sxge := ge; have lz_sx := bb.size; have ob8 := Nat.le_trans bel.size ge; replace bel := bel.trans (bb.mono bel.size); have hb8 := hh; clear hh lt ge bb) | ((with_reducible show wpList _ _ _ (⟨some 9, _, _, _, _, _⟩ :: _) _ _); refine wpList_mark_n rfl 25 5 (.tmp 8) rfl Try.underlying25 Try.underlying5 g8 #[.int .u8 120] _ _ rfl hb8 ?_; intro w2 hq gr; replace lz_sx := Nat.le_trans lz_sx gr.size; replace bel := below_grown bel gr ob8 bel.size; clear hb8; have hb8 := hq; clear hq gr; replace sx : Sl w2 (some ⟨g8, 0, none⟩) 1 1 ([120]) := sl_lit ([120]) hb8 rfl (by simp [maxLen]); clear sxw lz_sx; clear hb8) | ((with_reducible show wpList _ _ _ (⟨some 1, _, _, _, _, _⟩ :: _) _ _); refine wpList_new_a rfl 34 rfl #[.int .i64 0, .int .i64 0, .int .u32 0, .slice none 0 0] (by kernel_rfl) ?_; intro g1 w3 ge hh bb; have av_sx_m := sx.av_new ge; have om := Nat.le_trans bel.size ge; replace sx := sx.below bb; replace bel := bel.trans (bb.mono bel.size); have hm := hh; clear hh ge bb) | ((with_reducible show wpList _ _ _ (⟨none, Op.store _ (.tmp 1) _, _, _, _, _⟩ :: _) _ _); refine wpList_store_blk rfl 34 (.tmp 1) (.tmp 10) rfl g1 rfl _ rfl _ 34 hm (by rfl) (by kernel_rfl) (by kernel_rfl) ?_; intro w4 hq gr; replace sx := sx.away av_sx_m gr; replace bel := below_grown bel gr om bel.size; clear hm; have hm := hq; clear hq gr))
  simp only [Act.put, List.setIfInBounds_toArray, List.set_cons_zero, List.set_cons_succ]
  go_cut [2, 3] from 9999 (fun s2 s3 W => ∃ g2 : Nat, ∃ Ab : Option Addr, ∃ cb : Nat, ∃ Ao : Option Addr, ∃ co : Nat, s2 = .pointer (some ⟨g2, 0, none⟩) ∧ s3 = .int .i64 0 ∧ W.heap[g1]? = some (.cells #[.int .i64 8, .int .i64 0, .int .u32 458752, .slice (some ⟨g8, 0, none⟩) 1 1] 34 (0, 0)) ∧ W.heap[g2]? = some (.cells #[.int .i64 0, .int .i64 0, .int .i64 0, .int .i64 0, .int .i64 64, .int .i64 1, .int .u8 10, .int .u8 0, .int .u8 0, .int .u8 1, .int .u8 10, .int .u8 0, .int .u8 0, .int .u8 2, .slice Ao 0 co, .slice Ab 9 cb] 27 (0, 0)) ∧ w.heap.size ≤ g2 ∧ Hid (g1 ≠ g2) ∧ Sl W (some ⟨g8, 0, none⟩) (1) (1) ([120]) ∧ Av (some ⟨g8, 0, none⟩) (1) g1 ∧ Av (some ⟨g8, 0, none⟩) (1) g2 ∧ Sl W (Ab) (9) (cb) (icBytes 8 0 458752 [120]) ∧ Av (Ab) (9) g1 ∧ Av (Ab) (9) g2 ∧ Below w.heap.size w W)
  case first =>
    replace bel := bel.drew
    replace hm : w4.drew.heap[g1]? = _ := hm
    replace sx := sx.drew
    refine wp_region_held_drew (S := fun W => W.heap[g1]? = some (.cells #[.int .i64 8, .int .i64 0, .int .u32 458752, .slice (some ⟨g8, 0, none⟩) 1 1] 34 (0, 0))) (by kernel_rfl) hm (fun hH => ?_)
    generalize w4.drew = w5 at bel hm sx hH ⊢
    refine wpAnyH_take (i := 1) (v := .agg #[.int .i64 8, .int .i64 0, .int .u32 458752, .slice (some ⟨g8, 0, none⟩) 1 1]) rfl (by kernel_rfl) (by kernel_rfl) (by kernel_rfl) (fun _ _ _ h => h) (yieldsIf_load_part (by kernel_rfl) 34 _ rfl g1 0 4 rfl _ 34 (0, 0) (fun W hW => hW) _ rfl _ Try.underlying34 rfl (by kernel_rfl)) hH ?_
    simp only [Act.put, List.getElem_toArray, List.getElem_cons_zero, List.getElem_cons_succ, List.setIfInBounds_toArray, List.set_cons_zero, List.set_cons_succ]
    refine wpAnyH_ready (rs := [0, 6]) (by kernel_rfl) (by simp) ?_
    refine AllReadyH.cons (o := _) rfl (fun K hK => ?_) (AllReadyH.cons (o := _) rfl (fun K hK => ?_) AllReadyH.nil)
    · simp only [List.getElem_toArray, List.getElem_cons_zero]
      go_simp
      with_reducible refine (base9 _).mono ?_
      rintro e w6 ⟨rfl, b6⟩
      dsimp only
      replace hm := blk_u hm b6
      replace sx := sx.below b6
      replace bel := bel.trans (b6.mono bel.size)
      clear b6
      refine hK.out _ _ hm (fun hH7 => ?_)
      clear hK K
      refine wpAnyH_ready (rs := [2, 6]) (by kernel_rfl) (by simp) ?_
      refine AllReadyH.cons (o := _) rfl (fun K hK => ?_) (AllReadyH.cons (o := _) rfl (fun K hK => ?_) AllReadyH.nil)
      · simp only [List.getElem_toArray, List.getElem_cons_zero, List.getElem_cons_succ]
        go_simp
        with_reducible refine (kput_ok 8 0 458752 _ 1 1 [120] _ sx (by decide) (by decide) (by omega) (by decide) (by decide)).mono ?_
        rintro e w8 ⟨Ao, co, Ab, cb, rfl, _, pb, fb, b8⟩
        dsimp only
        have av_pb_m := fb.av (hlt hm)
        replace hm := blk_u hm b8
        replace sx := sx.below b8
        replace bel := bel.trans (b8.mono bel.size)
        clear b8
        replace pb : Sl w8 (Ab) (9) (cb) (icBytes 8 0 458752 [120]) := pb
        refine hK.out _ _ hm (fun hH9 => ?_)
        clear hK K
        refine wpAnyH_take (i := 3) (v := ?_) rfl (by kernel_rfl) (by kernel_rfl) (by kernel_rfl) (fun _ _ _ h => h) (Or.inl ⟨by rfl, ?_⟩) hH9 ?_
        rotate_left
        · ((intro W hW; clear hW; go_simp) <;> with_reducible rfl)
        simp only [Act.put, List.getElem_toArray, List.getElem_cons_zero, List.getElem_cons_succ, List.setIfInBounds_toArray, List.set_cons_zero, List.set_cons_succ]
        refine wpAnyH_take (i := 4) (v := ?_) rfl (by kernel_rfl) (by kernel_rfl) (by kernel_rfl) (fun _ _ _ h => h) (Or.inl ⟨by rfl, ?_⟩) hH9 ?_
        rotate_left
        · ((intro W hW; clear hW; go_simp) <;> with_reducible rfl)
        simp only [Act.put, List.getElem_toArray, List.getElem_cons_zero, List.getElem_cons_succ, List.setIfInBounds_toArray, List.set_cons_zero, List.set_cons_succ]
        refine wpAnyH_take (i := 5) (v := ?_) rfl (by kernel_rfl) (by kernel_rfl) (by kernel_rfl) (fun _ _ _ h => h) (Or.inl ⟨by rfl, ?_⟩) hH9 ?_
        rotate_left
        · ((intro W hW; clear hW; go_simp) <;> with_reducible rfl)
        simp only [Act.put, List.getElem_toArray, List.getElem_cons_zero, List.getElem_cons_succ, List.setIfInBounds_toArray, List.set_cons_zero, List.set_cons_succ]
        refine wpAnyH_ready (rs := [6]) (by kernel_rfl) (by simp) ?_
        refine AllReadyH.cons (o := _) rfl (fun K hK => ?_) AllReadyH.nil
        simp only [List.getElem_toArray, List.getElem_cons_zero, List.getElem_cons_succ]
        rw [if_pos (by rfl)]
        refine wp_new_a 27 rfl #[.int .i64 0, .int .i64 0, .int .i64 0, .int .i64 0, .int .i64 0, .int .i64 0, .int .u8 0, .int .u8 0, .int .u8 0, .int .u8 0, .int .u8 0, .int .u8 0, .int .u8 0, .int .u8 0, .slice none 0 0, .slice none 0 0] (by kernel_rfl) ?_
        intro g2 w10 ge hh bb
        have d_m_p := ne_new (hlt hm) ge
        have av_sx_p := sx.av_new ge
        have av_pb_p := pb.av_new ge
        have op := Nat.le_trans bel.size ge
        replace hm := blk_u hm bb
        replace sx := sx.below bb
        replace pb := pb.below bb
        replace bel := bel.trans (bb.mono bel.size)
        have hp := hh
        clear hh ge bb
        refine hK.out _ _ hm (fun hH11 => ?_)
        clear hK K
        simp only [Act.put, List.setIfInBounds_toArray, List.set_cons_zero, List.set_cons_succ]
        refine wpAnyH_ready (rs := [7]) (by kernel_rfl) (by simp) ?_
        refine AllReadyH.cons (o := _) rfl (fun K hK => ?_) AllReadyH.nil
        simp only [List.getElem_toArray, List.getElem_cons_zero, List.getElem_cons_succ]
        rw [if_pos (by rfl)]
        refine wp_store_blk 27 (.tmp 2) (.tmp 15) rfl g2 rfl _ rfl _ 27 hp (by rfl) (by kernel_rfl) (by kernel_rfl) ?_
        intro w12 hq gr
        replace sx := sx.away av_sx_p gr
        replace pb := pb.away av_pb_p gr
        replace hm := blk_a hm gr d_m_p
        replace bel := below_grown bel gr op bel.size
        clear hp
        have hp := hq
        clear hq gr
        refine hK.out _ _ hm (fun hH13 => ?_)
        clear hK K
        simp only [Act.put]
        refine wpAnyH_take (i := 8) (v := ?_) rfl (by kernel_rfl) (by kernel_rfl) (by kernel_rfl) (fun _ _ _ h => h) (Or.inl ⟨by rfl, ?_⟩) hH13 ?_
        rotate_left
        · ((intro W hW; clear hW; go_simp) <;> with_reducible rfl)
        simp only [Act.put, List.getElem_toArray, List.getElem_cons_zero, List.getElem_cons_succ, List.setIfInBounds_toArray, List.set_cons_zero, List.set_cons_succ]
        refine wpAnyH_done (by kernel_rfl) ?_ _
        go_wp2_with fail
        go_meet
        case rel => exact ⟨g2, Ab, cb, Ao, co, rfl, rfl, hm, hp, op, d_m_p, sx, av_sx_m, av_sx_p, pb, av_pb_m, av_pb_p, bel⟩
      · simp only [List.getElem_toArray, List.getElem_cons_zero, List.getElem_cons_succ]
        rw [if_pos (by rfl)]
        refine wp_new_a 27 rfl #[.int .i64 0, .int .i64 0, .int .i64 0, .int .i64 0, .int .i64 0, .int .i64 0, .int .u8 0, .int .u8 0, .int .u8 0, .int .u8 0, .int .u8 0, .int .u8 0, .int .u8 0, .int .u8 0, .slice none 0 0, .slice none 0 0] (by kernel_rfl) ?_
        intro g2 w8 ge hh bb
        have d_m_p := ne_new (hlt hm) ge
        have av_sx_p := sx.av_new ge
        have op := Nat.le_trans bel.size ge
        replace hm := blk_u hm bb
        replace sx := sx.below bb
        replace bel := bel.trans (bb.mono bel.size)
        have hp := hh
        clear hh ge bb
        refine hK.out _ _ hm (fun hH9 => ?_)
        clear hK K
        simp only [Act.put, List.setIfInBounds_toArray, List.set_cons_zero, List.set_cons_succ]
        refine wpAnyH_ready (rs := [2]) (by kernel_rfl) (by simp) ?_
        refine AllReadyH.cons (o := _) rfl (fun K hK => ?_) AllReadyH.nil
        simp only [List.getElem_toArray, List.getElem_cons_zero, List.getElem_cons_succ]
        go_simp
        with_reducible refine (kput_ok 8 0 458752 _ 1 1 [120] _ sx (by decide) (by decide) (by omega) (by decide) (by decide)).mono ?_
        rintro e w10 ⟨Ao, co, Ab, cb, rfl, _, pb, fb, b10⟩
        dsimp only
        have av_pb_m := fb.av (hlt hm)
        have av_pb_p := fb.av (hlt hp)
        replace hm := blk_u hm b10
        replace hp := blk_u hp b10
        replace sx := sx.below b10
        replace bel := bel.trans (b10.mono bel.size)
        clear b10
        replace pb : Sl w10 (Ab) (9) (cb) (icBytes 8 0 458752 [120]) := pb
        refine hK.out _ _ hm (fun hH11 => ?_)
        clear hK K
        refine wpAnyH_take (i := 3) (v := ?_) rfl (by kernel_rfl) (by kernel_rfl) (by kernel_rfl) (fun _ _ _ h => h) (Or.inl ⟨by rfl, ?_⟩) hH11 ?_
        rotate_left
        · ((intro W hW; clear hW; go_simp) <;> with_reducible rfl)
        simp only [Act.put, List.getElem_toArray, List.getElem_cons_zero, List.getElem_cons_succ, List.setIfInBounds_toArray, List.set_cons_zero, List.set_cons_succ]
        refine wpAnyH_take (i := 4) (v := ?_) rfl (by kernel_rfl) (by kernel_rfl) (by kernel_rfl) (fun _ _ _ h => h) (Or.inl ⟨by rfl, ?_⟩) hH11 ?_
        rotate_left
        · ((intro W hW; clear hW; go_simp) <;> with_reducible rfl)
        simp only [Act.put, List.getElem_toArray, List.getElem_cons_zero, List.getElem_cons_succ, List.setIfInBounds_toArray, List.set_cons_zero, List.set_cons_succ]
        refine wpAnyH_take (i := 5) (v := ?_) rfl (by kernel_rfl) (by kernel_rfl) (by kernel_rfl) (fun _ _ _ h => h) (Or.inl ⟨by rfl, ?_⟩) hH11 ?_
        rotate_left
        · ((intro W hW; clear hW; go_simp) <;> with_reducible rfl)
        simp only [Act.put, List.getElem_toArray, List.getElem_cons_zero, List.getElem_cons_succ, List.setIfInBounds_toArray, List.set_cons_zero, List.set_cons_succ]
        refine wpAnyH_ready (rs := [7]) (by kernel_rfl) (by simp) ?_
        refine AllReadyH.cons (o := _) rfl (fun K hK => ?_) AllReadyH.nil
        simp only [List.getElem_toArray, List.getElem_cons_zero, List.getElem_cons_succ]
        rw [if_pos (by rfl)]
        refine wp_store_blk 27 (.tmp 2) (.tmp 15) rfl g2 rfl _ rfl _ 27 hp (by rfl) (by kernel_rfl) (by kernel_rfl) ?_
        intro w12 hq gr
        replace sx := sx.away av_sx_p gr
        replace pb := pb.away av_pb_p gr
        replace hm := blk_a hm gr d_m_p
        replace bel := below_grown bel gr op bel.size
        clear hp
        have hp := hq
        clear hq gr
        refine hK.out _ _ hm (fun hH13 => ?_)
        clear hK K
        simp only [Act.put]
        refine wpAnyH_take (i := 8) (v := ?_) rfl (by kernel_rfl) (by kernel_rfl) (by kernel_rfl) (fun _ _ _ h => h) (Or.inl ⟨by rfl, ?_⟩) hH13 ?_
        rotate_left
        · ((intro W hW; clear hW; go_simp) <;> with_reducible rfl)
        simp only [Act.put, List.getElem_toArray, List.getElem_cons_zero, List.getElem_cons_succ, List.setIfInBounds_toArray, List.set_cons_zero, List.set_cons_succ]
        refine wpAnyH_done (by kernel_rfl) ?_ _
        go_wp2_with fail
        go_meet
        case rel => exact ⟨g2, Ab, cb, Ao, co, rfl, rfl, hm, hp, op, d_m_p, sx, av_sx_m, av_sx_p, pb, av_pb_m, av_pb_p, bel⟩
    · simp only [List.getElem_toArray, List.getElem_cons_zero, List.getElem_cons_succ]
      rw [if_pos (by rfl)]
      refine wp_new_a 27 rfl #[.int .i64 0, .int .i64 0, .int .i64 0, .int .i64 0, .int .i64 0, .int .i64 0, .int .u8 0, .int .u8 0, .int .u8 0, .int .u8 0, .int .u8 0, .int .u8 0, .int .u8 0, .int .u8 0, .slice none 0 0, .slice none 0 0] (by kernel_rfl) ?_
      intro g2 w6 ge hh bb
      have d_m_p := ne_new (hlt hm) ge
      have av_sx_p := sx.av_new ge
      have op := Nat.le_trans bel.size ge
      replace hm := blk_u hm bb
      replace sx := sx.below bb
      replace bel := bel.trans (bb.mono bel.size)
      have hp := hh
      clear hh ge bb
      refine hK.out _ _ hm (fun hH7 => ?_)
      clear hK K
      simp only [Act.put, List.setIfInBounds_toArray, List.set_cons_zero, List.set_cons_succ]
      refine wpAnyH_ready (rs := [0]) (by kernel_rfl) (by simp) ?_
      refine AllReadyH.cons (o := _) rfl (fun K hK => ?_) AllReadyH.nil
      simp only [List.getElem_toArray, List.getElem_cons_zero]
      go_simp
      with_reducible refine (base9 _).mono ?_
      rintro e w8 ⟨rfl, b8⟩
      dsimp only
      replace hm := blk_u hm b8
      replace hp := blk_u hp b8
      replace sx := sx.below b8
      replace bel := bel.trans (b8.mono bel.size)
      clear b8
      refine hK.out _ _ hm (fun hH9 => ?_)
      clear hK K
      refine wpAnyH_ready (rs := [2]) (by kernel_rfl) (by simp) ?_
      refine AllReadyH.cons (o := _) rfl (fun K hK => ?_) AllReadyH.nil
      simp only [List.getElem_toArray, List.getElem_cons_zero, List.getElem_cons_succ]
      go_simp
      with_reducible refine (kput_ok 8 0 458752 _ 1 1 [120] _ sx (by decide) (by decide) (by omega) (by decide) (by decide)).mono ?_
      rintro e w10 ⟨Ao, co, Ab, cb, rfl, _, pb, fb, b10⟩
      dsimp only
      have av_pb_m := fb.av (hlt hm)
      have av_pb_p := fb.av (hlt hp)
      replace hm := blk_u hm b10
      replace hp := blk_u hp b10
      replace sx := sx.below b10
      replace bel := bel.trans (b10.mono bel.size)
      clear b10
      replace pb : Sl w10 (Ab) (9) (cb) (icBytes 8 0 458752 [120]) := pb
      refine hK.out _ _ hm (fun hH11 => ?_)
      clear hK K
      refine wpAnyH_take (i := 3) (v := ?_) rfl (by kernel_rfl) (by kernel_rfl) (by kernel_rfl) (fun _ _ _ h => h) (Or.inl ⟨by rfl, ?_⟩) hH11 ?_
      rotate_left
      · ((intro W hW; clear hW; go_simp) <;> with_reducible rfl)
      simp only [Act.put, List.getElem_toArray, List.getElem_cons_zero, List.getElem_cons_succ, List.setIfInBounds_toArray, List.set_cons_zero, List.set_cons_succ]
      refine wpAnyH_take (i := 4) (v := ?_) rfl (by kernel_rfl) (by kernel_rfl) (by kernel_rfl) (fun _ _ _ h => h) (Or.inl ⟨by rfl, ?_⟩) hH11 ?_
      rotate_left
      · ((intro W hW; clear hW; go_simp) <;> with_reducible rfl)
      simp only [Act.put, List.getElem_toArray, List.getElem_cons_zero, List.getElem_cons_succ, List.setIfInBounds_toArray, List.set_cons_zero, List.set_cons_succ]
      refine wpAnyH_take (i := 5) (v := ?_) rfl (by kernel_rfl) (by kernel_rfl) (by kernel_rfl) (fun _ _ _ h => h) (Or.inl ⟨by rfl, ?_⟩) hH11 ?_
      rotate_left
      · ((intro W hW; clear hW; go_simp) <;> with_reducible rfl)
      simp only [Act.put, List.getElem_toArray, List.getElem_cons_zero, List.getElem_cons_succ, List.setIfInBounds_toArray, List.set_cons_zero, List.set_cons_succ]
      refine wpAnyH_ready (rs := [7]) (by kernel_rfl) (by simp) ?_
      refine AllReadyH.cons (o := _) rfl (fun K hK => ?_) AllReadyH.nil
      simp only [List.getElem_toArray, List.getElem_cons_zero, List.getElem_cons_succ]
      rw [if_pos (by rfl)]
      refine wp_store_blk 27 (.tmp 2) (.tmp 15) rfl g2 rfl _ rfl _ 27 hp (by rfl) (by kernel_rfl) (by kernel_rfl) ?_
      intro w12 hq gr
      replace sx := sx.away av_sx_p gr
      replace pb := pb.away av_pb_p gr
      replace hm := blk_a hm gr d_m_p
      replace bel := below_grown bel gr op bel.size
      clear hp
      have hp := hq
      clear hq gr
      refine hK.out _ _ hm (fun hH13 => ?_)
      clear hK K
      simp only [Act.put]
      refine wpAnyH_take (i := 8) (v := ?_) rfl (by kernel_rfl) (by kernel_rfl) (by kernel_rfl) (fun _ _ _ h => h) (Or.inl ⟨by rfl, ?_⟩) hH13 ?_
      rotate_left
      · ((intro W hW; clear hW; go_simp) <;> with_reducible rfl)
      simp only [Act.put, List.getElem_toArray, List.getElem_cons_zero, List.getElem_cons_succ, List.setIfInBounds_toArray, List.set_cons_zero, List.set_cons_succ]
      refine wpAnyH_done (by kernel_rfl) ?_ _
      go_wp2_with fail
      go_meet
      case rel => exact ⟨g2, Ab, cb, Ao, co, rfl, rfl, hm, hp, op, d_m_p, sx, av_sx_m, av_sx_p, pb, av_pb_m, av_pb_p, bel⟩
  obtain ⟨w14, hw_⟩ : ∃ x, x = wc := ⟨_, rfl⟩
  subst hw_
  obtain ⟨g2, Ab, cb, Ao, co, rfl, rfl, hm, hp, op, d_m_p, sx, av_sx_m, av_sx_p, pb, av_pb_m, av_pb_p, bel⟩ := hcut
  have R18 := Lib.hid (range_lit hp 0 16 [.int .i64 0, .int .i64 0, .int .i64 0, .int .i64 0, .int .i64 64, .int .i64 1, .int .u8 10, .int .u8 0, .int .u8 0, .int .u8 1, .int .u8 10, .int .u8 0, .int .u8 0, .int .u8 2, .slice Ao 0 co, .slice Ab 9 cb] rfl)
  go_wp2_with (first | ((with_reducible show wpList _ _ _ (⟨some 18, _, _, _, _, _⟩ :: _) _ _); refine wpList_load_rng 27 (.tmp 2) rfl (by kernel_rfl) _ _ rfl _ R18.out _ Try.underlying27 rfl (by kernel_rfl) ?_))
  try clear R18
  with_reducible refine (kget _ _ _ _ _ 9 _ [120] 8 0 458752 1 _ pb (by omega) (ic_back (by decide) (by decide) (by decide) (by decide) (by decide) [120]) rfl).mono ?_
  rintro e w15 ⟨Ad, cq, rfl, db, fd, b15⟩
  have av_db_m := fd.av (hlt hm)
  have av_db_p := fd.av (hlt hp)
  replace hm := blk_u hm b15
  replace hp := blk_u hp b15
  replace sx := sx.below b15
  replace pb := pb.below b15
  replace bel := bel.trans (b15.mono bel.size)
  clear b15
  replace db : Sl w15 (Ad) (1) (cq) ([120]) := db
  go_wp2_with (first | ((with_reducible show wpList _ _ _ (⟨some 4, _, _, _, _, _⟩ :: _) _ _); refine wpList_new_a rfl 34 rfl #[.int .i64 0, .int .i64 0, .int .u32 0, .slice none 0 0] (by kernel_rfl) ?_; intro g4 w16 ge hh bb; have d_m_d := ne_new (hlt hm) ge; have d_p_d := ne_new (hlt hp) ge; have av_sx_d := sx.av_new ge; have av_pb_d := pb.av_new ge; have av_db_d := db.av_new ge; have od := Nat.le_trans bel.size ge; replace hm := blk_u hm bb; replace hp := blk_u hp bb; replace sx := sx.below bb; replace pb := pb.below bb; replace db := db.below bb; replace bel := bel.trans (bb.mono bel.size); have hd := hh; clear hh ge bb) | ((with_reducible show wpList _ _ _ (⟨none, Op.store _ (.tmp 4) _, _, _, _, _⟩ :: _) _ _); refine wpList_store_blk rfl 34 (.tmp 4) (.tmp 20) rfl g4 rfl _ rfl _ 34 hd (by rfl) (by kernel_rfl) (by kernel_rfl) ?_; intro w17 hq gr; replace sx := sx.away av_sx_d gr; replace pb := pb.away av_pb_d gr; replace db := db.away av_db_d gr; replace hm := blk_a hm gr d_m_d; replace hp := blk_a hp gr d_p_d; replace bel := below_grown bel gr od bel.size; clear hd; have hd := hq; clear hq gr; have R23 := Lib.hid (range_lit hd 0 4 [.int .i64 8, .int .i64 0, .int .u32 458752, .slice Ad 1 cq] rfl)) | ((with_reducible show wpList _ _ _ (⟨some 23, _, _, _, _, _⟩ :: _) _ _); refine wpList_load_rng 34 (.tmp 4) rfl (by kernel_rfl) _ _ rfl _ R23.out _ Try.underlying34 rfl (by kernel_rfl) ?_))
  try clear R23
  with_reducible refine (icquery_2 8 0 458752 _ _ _ (by decide) rfl (by decide) (by decide) _).mono ?_
  rintro e w18 ⟨rfl, b18⟩
  replace hm := blk_u hm b18
  replace hp := blk_u hp b18
  replace hd := blk_u hd b18
  replace sx := sx.below b18
  replace pb := pb.below b18
  replace db := db.below b18
  replace bel := bel.trans (b18.mono bel.size)
  clear b18
  go_wp2_with fail
  replace bel := bel.drew
  replace hm : w18.drew.heap[g1]? = _ := hm
  replace hp : w18.drew.heap[g2]? = _ := hp
  replace hd : w18.drew.heap[g4]? = _ := hd
  replace sx := sx.drew
  replace pb := pb.drew
  replace db := db.drew
  refine wp_region_held_drew (S := fun W => W.heap[g4]? = some (.cells #[.int .i64 8, .int .i64 0, .int .u32 458752, .slice Ad 1 cq] 34 (0, 0)) ∧ W.heap[g1]? = some (.cells #[.int .i64 8, .int .i64 0, .int .u32 458752, .slice (some ⟨g8, 0, none⟩) 1 1] 34 (0, 0))) (by kernel_rfl) ⟨hd, hm⟩ (fun hH => ?_)
  generalize w18.drew = w19 at bel hm hp hd sx pb db hH ⊢
  refine wpAnyH_take (i := 0) (v := ?_) rfl (by kernel_rfl) (by kernel_rfl) (by kernel_rfl) (fun _ _ _ h => h) (Or.inl ⟨by rfl, ?_⟩) hH ?_
  rotate_left
  · ((intro W hW; clear hW; go_simp) <;> with_reducible rfl)
  simp only [Act.put, List.getElem_toArray, List.getElem_cons_zero, List.setIfInBounds_toArray, List.set_cons_zero, List.set_cons_succ]
  refine wpAnyH_take (i := 1) (v := ?_) rfl (by kernel_rfl) (by kernel_rfl) (by kernel_rfl) (fun _ _ _ h => h) (Or.inl ⟨by rfl, ?_⟩) hH ?_
  rotate_left
  · ((intro W hW; clear hW; go_simp) <;> with_reducible rfl)
  simp only [Act.put, List.getElem_toArray, List.getElem_cons_zero, List.getElem_cons_succ, List.setIfInBounds_toArray, List.set_cons_zero, List.set_cons_succ]
  refine wpAnyH_take (i := 2) (v := ?_) rfl (by kernel_rfl) (by kernel_rfl) (by kernel_rfl) (fun _ _ _ h => h) (Or.inl ⟨by rfl, ?_⟩) hH ?_
  rotate_left
  · ((intro W hW; clear hW; go_simp) <;> with_reducible rfl)
  simp only [Act.put, List.getElem_toArray, List.getElem_cons_zero, List.getElem_cons_succ, List.setIfInBounds_toArray, List.set_cons_zero, List.set_cons_succ]
  refine wpAnyH_take (i := 3) (v := ?_) rfl (by kernel_rfl) (by kernel_rfl) (by kernel_rfl) (fun _ _ _ h => h) (Or.inl ⟨by rfl, ?_⟩) hH ?_
  rotate_left
  · ((intro W hW; clear hW; go_simp) <;> with_reducible rfl)
  simp only [Act.put, List.getElem_toArray, List.getElem_cons_zero, List.getElem_cons_succ, List.setIfInBounds_toArray, List.set_cons_zero, List.set_cons_succ]
  refine wpAnyH_take (i := 4) (v := ?_) rfl (by kernel_rfl) (by kernel_rfl) (by kernel_rfl) (fun _ _ _ h => h) (Or.inl ⟨by rfl, ?_⟩) hH ?_
  rotate_left
  · ((intro W hW; clear hW; go_simp) <;> with_reducible rfl)
  simp only [Act.put, List.getElem_toArray, List.getElem_cons_zero, List.getElem_cons_succ, List.setIfInBounds_toArray, List.set_cons_zero, List.set_cons_succ]
  refine wpAnyH_take (i := 5) (v := ?_) rfl (by kernel_rfl) (by kernel_rfl) (by kernel_rfl) (fun _ _ _ h => h) (Or.inl ⟨by rfl, ?_⟩) hH ?_
  rotate_left
  · ((intro W hW; clear hW; go_simp) <;> with_reducible rfl)
  simp only [Act.put, List.getElem_toArray, List.getElem_cons_zero, List.getElem_cons_succ, List.setIfInBounds_toArray, List.set_cons_zero, List.set_cons_succ]
  refine wpAnyH_take (i := 6) (v := ?_) rfl (by kernel_rfl) (by kernel_rfl) (by kernel_rfl) (fun _ _ _ h => h) (Or.inl ⟨by rfl, ?_⟩) hH ?_
  rotate_left
  · ((intro W hW; clear hW; go_simp) <;> with_reducible rfl)
  simp only [Act.put, List.getElem_toArray, List.getElem_cons_zero, List.getElem_cons_succ, List.setIfInBounds_toArray, List.set_cons_zero, List.set_cons_succ]
  refine wpAnyH_take (i := 7) (v := .agg #[.int .i64 8, .int .i64 0, .int .u32 458752, .slice Ad 1 cq]) rfl (by kernel_rfl) (by kernel_rfl) (by kernel_rfl) (fun _ _ _ h => h) (yieldsIf_load_part (by kernel_rfl) 34 _ rfl g4 0 4 rfl _ 34 (0, 0) (fun W hW => hW.1) _ rfl _ Try.underlying34 rfl (by kernel_rfl)) hH ?_
  simp only [Act.put, List.getElem_toArray, List.getElem_cons_zero, List.getElem_cons_succ, List.setIfInBounds_toArray, List.set_cons_zero, List.set_cons_succ]
  refine wpAnyH_take (i := 8) (v := .agg #[.int .i64 8, .int .i64 0, .int .u32 458752, .slice (some ⟨g8, 0, none⟩) 1 1]) rfl (by kernel_rfl) (by kernel_rfl) (by kernel_rfl) (fun _ _ _ h => h) (yieldsIf_load_part (by kernel_rfl) 34 _ rfl g1 0 4 rfl _ 34 (0, 0) (fun W hW => hW.2) _ rfl _ Try.underlying34 rfl (by kernel_rfl)) hH ?_
  simp only [Act.put, List.getElem_toArray, List.getElem_cons_zero, List.getElem_cons_succ, List.setIfInBounds_toArray, List.set_cons_zero, List.set_cons_succ]
  refine wpAnyH_ready (rs := [9]) (by kernel_rfl) (by simp) ?_
  refine AllReadyH.cons (o := _) rfl (fun K hK => ?_) AllReadyH.nil
  simp only [List.getElem_toArray, List.getElem_cons_zero, List.getElem_cons_succ]
  go_simp
  with_reducible refine (msg9_any _ _ _ _ _ _ _).mono ?_
  rintro e w20 ⟨rfl, b20⟩
  dsimp only
  replace hm := blk_u hm b20
  replace hp := blk_u hp b20
  replace hd := blk_u hd b20
  replace sx := sx.below b20
  replace pb := pb.below b20
  replace db := db.below b20
  replace bel := bel.trans (b20.mono bel.size)
  clear b20
  refine hK.out _ _ ⟨hd, hm⟩ (fun hH21 => ?_)
  clear hK K
  refine wpAnyH_ready (rs := [10]) (by kernel_rfl) (by simp) ?_
  refine AllReadyH.cons (o := _) rfl (fun K hK => ?_) AllReadyH.nil
  simp only [List.getElem_toArray, List.getElem_cons_zero, List.getElem_cons_succ]
  go_simp
  with_reducible refine (same9_true _ _ _ _ _ _ _ _ _ _  db sx).mono ?_
  rintro e w22 ⟨rfl, b22⟩
  dsimp only
  replace hm := blk_u hm b22
  replace hp := blk_u hp b22
  replace hd := blk_u hd b22
  replace sx := sx.below b22
  replace pb := pb.below b22
  replace db := db.below b22
  replace bel := bel.trans (b22.mono bel.size)
  clear b22
  refine hK.out _ _ ⟨hd, hm⟩ (fun hH23 => ?_)
  clear hK K
  refine wpAnyH_take (i := 11) (v := ?_) rfl (by kernel_rfl) (by kernel_rfl) (by kernel_rfl) (fun _ _ _ h => h) (Or.inl ⟨by rfl, ?_⟩) hH23 ?_
  rotate_left
  · ((intro W hW; clear hW; go_simp) <;> with_reducible rfl)
  simp only [Act.put, List.getElem_toArray, List.getElem_cons_zero, List.getElem_cons_succ, List.setIfInBounds_toArray, List.set_cons_zero, List.set_cons_succ]
  refine wpAnyH_take (i := 12) (v := ?_) rfl (by kernel_rfl) (by kernel_rfl) (by kernel_rfl) (fun _ _ _ h => h) (Or.inl ⟨by rfl, ?_⟩) hH23 ?_
  rotate_left
  · ((intro W hW; clear hW; go_simp) <;> with_reducible rfl)
  simp only [Act.put, List.getElem_toArray, List.getElem_cons_zero, List.getElem_cons_succ, List.setIfInBounds_toArray, List.set_cons_zero, List.set_cons_succ]
  refine wpAnyH_take (i := 13) (v := ?_) rfl (by kernel_rfl) (by kernel_rfl) (by kernel_rfl) (fun _ _ _ h => h) (Or.inl ⟨by rfl, ?_⟩) hH23 ?_
  rotate_left
  · ((intro W hW; clear hW; go_simp) <;> with_reducible rfl)
  simp only [Act.put, List.getElem_toArray, List.getElem_cons_zero, List.getElem_cons_succ, List.setIfInBounds_toArray, List.set_cons_zero, List.set_cons_succ]
  refine wpAnyH_take (i := 14) (v := ?_) rfl (by kernel_rfl) (by kernel_rfl) (by kernel_rfl) (fun _ _ _ h => h) (Or.inl ⟨by rfl, ?_⟩) hH23 ?_
  rotate_left
  · ((intro W hW; clear hW; go_simp) <;> with_reducible rfl)
  simp only [Act.put, List.getElem_toArray, List.getElem_cons_zero, List.getElem_cons_succ, List.setIfInBounds_toArray, List.set_cons_zero, List.set_cons_succ]
  refine wpAnyH_take (i := 15) (v := ?_) rfl (by kernel_rfl) (by kernel_rfl) (by kernel_rfl) (fun _ _ _ h => h) (Or.inl ⟨by rfl, ?_⟩) hH23 ?_
  rotate_left
  · ((intro W hW; clear hW; go_simp) <;> with_reducible rfl)
  simp only [Act.put, List.getElem_toArray, List.getElem_cons_zero, List.getElem_cons_succ, List.setIfInBounds_toArray, List.set_cons_zero, List.set_cons_succ]
  refine wpAnyH_take (i := 16) (v := ?_) rfl (by kernel_rfl) (by kernel_rfl) (by kernel_rfl) (fun _ _ _ h => h) (Or.inl ⟨by rfl, ?_⟩) hH23 ?_
  rotate_left
  · ((intro W hW; clear hW; go_simp) <;> with_reducible rfl)
  simp only [Act.put, List.getElem_toArray, List.getElem_cons_zero, List.getElem_cons_succ, List.setIfInBounds_toArray, List.set_cons_zero, List.set_cons_succ]
  refine wpAnyH_take (i := 17) (v := ?_) rfl (by kernel_rfl) (by kernel_rfl) (by kernel_rfl) (fun _ _ _ h => h) (Or.inl ⟨by rfl, ?_⟩) hH23 ?_
  rotate_left
  · ((intro W hW; clear hW; go_simp) <;> with_reducible rfl)
  simp only [Act.put, List.getElem_toArray, List.getElem_cons_zero, List.getElem_cons_succ, List.setIfInBounds_toArray, List.set_cons_zero, List.set_cons_succ]
  refine wpAnyH_take (i := 18) (v := ?_) rfl (by kernel_rfl) (by kernel_rfl) (by kernel_rfl) (fun _ _ _ h => h) (Or.inl ⟨by rfl, ?_⟩) hH23 ?_
  rotate_left
  · ((intro W hW; clear hW; go_simp) <;> with_reducible rfl)
  simp only [Act.put, List.getElem_toArray, List.getElem_cons_zero, List.getElem_cons_succ, List.setIfInBounds_toArray, List.set_cons_zero, List.set_cons_succ]
  refine wpAnyH_take (i := 19) (v := ?_) rfl (by kernel_rfl) (by kernel_rfl) (by kernel_rfl) (fun _ _ _ h => h) (Or.inl ⟨by rfl, ?_⟩) hH23 ?_
  rotate_left
  · ((intro W hW; clear hW; go_simp) <;> with_reducible rfl)
  simp only [Act.put, List.getElem_toArray, List.getElem_cons_zero, List.getElem_cons_succ, List.setIfInBounds_toArray, List.set_cons_zero, List.set_cons_succ]
  refine wpAnyH_take (i := 20) (v := .agg #[.int .i64 8, .int .i64 0, .int .u32 458752, .slice (some ⟨g8, 0, none⟩) 1 1]) rfl (by kernel_rfl) (by kernel_rfl) (by kernel_rfl) (fun _ _ _ h => h) (yieldsIf_load_part (by kernel_rfl) 34 _ rfl g1 0 4 rfl _ 34 (0, 0) (fun W hW => hW.2) _ rfl _ Try.underlying34 rfl (by kernel_rfl)) hH23 ?_
  simp only [Act.put, List.getElem_toArray, List.getElem_cons_zero, List.getElem_cons_succ, List.setIfInBounds_toArray, List.set_cons_zero, List.set_cons_succ]
  refine wpAnyH_ready (rs := [21]) (by kernel_rfl) (by simp) ?_
  refine AllReadyH.cons (o := _) rfl (fun K hK => ?_) AllReadyH.nil
  simp only [List.getElem_toArray, List.getElem_cons_zero, List.getElem_cons_succ]
  go_simp
  with_reducible refine (icfault_n _ _ _ _ _ _  false (by decide) _).mono ?_
  rintro e w24 ⟨rfl, b24⟩
  dsimp only
  replace hm := blk_u hm b24
  replace hp := blk_u hp b24
  replace hd := blk_u hd b24
  replace sx := sx.below b24
  replace pb := pb.below b24
  replace db := db.below b24
  replace bel := bel.trans (b24.mono bel.size)
  clear b24
  refine hK.out _ _ ⟨hd, hm⟩ (fun hH25 => ?_)
  clear hK K
  refine wpAnyH_take (i := 22) (v := ?_) rfl (by kernel_rfl) (by kernel_rfl) (by kernel_rfl) (fun _ _ _ h => h) (Or.inl ⟨by rfl, ?_⟩) hH25 ?_
  rotate_left
  · ((intro W hW; clear hW; go_simp) <;> with_reducible rfl)
  simp only [Act.put, List.getElem_toArray, List.getElem_cons_zero, List.getElem_cons_succ, List.setIfInBounds_toArray, List.set_cons_zero, List.set_cons_succ]
  refine wpAnyH_take (i := 23) (v := ?_) rfl (by kernel_rfl) (by kernel_rfl) (by kernel_rfl) (fun _ _ _ h => h) (Or.inl ⟨by rfl, ?_⟩) hH25 ?_
  rotate_left
  · ((intro W hW; clear hW; go_simp) <;> with_reducible rfl)
  simp only [Act.put, List.getElem_toArray, List.getElem_cons_zero, List.getElem_cons_succ, List.setIfInBounds_toArray, List.set_cons_zero, List.set_cons_succ]
  refine wpAnyH_take (i := 24) (v := ?_) rfl (by kernel_rfl) (by kernel_rfl) (by kernel_rfl) (fun _ _ _ h => h) (Or.inl ⟨by rfl, ?_⟩) hH25 ?_
  rotate_left
  · ((intro W hW; clear hW; go_simp) <;> with_reducible rfl)
  simp only [Act.put, List.getElem_toArray, List.getElem_cons_zero, List.getElem_cons_succ, List.setIfInBounds_toArray, List.set_cons_zero, List.set_cons_succ]
  refine wpAnyH_take (i := 25) (v := ?_) rfl (by kernel_rfl) (by kernel_rfl) (by kernel_rfl) (fun _ _ _ h => h) (Or.inl ⟨by rfl, ?_⟩) hH25 ?_
  rotate_left
  · ((intro W hW; clear hW; go_simp) <;> with_reducible rfl)
  simp only [Act.put, List.getElem_toArray, List.getElem_cons_zero, List.getElem_cons_succ, List.setIfInBounds_toArray, List.set_cons_zero, List.set_cons_succ]
  refine wpAnyH_ready (rs := [26]) (by kernel_rfl) (by simp) ?_
  refine AllReadyH.cons (o := _) rfl (fun K hK => ?_) AllReadyH.nil
  simp only [List.getElem_toArray, List.getElem_cons_zero, List.getElem_cons_succ]
  go_simp
  with_reducible refine (icfault_n _ _ _ _ _ _  true (by decide) _).mono ?_
  rintro e w26 ⟨rfl, b26⟩
  dsimp only
  replace hm := blk_u hm b26
  replace hp := blk_u hp b26
  replace hd := blk_u hd b26
  replace sx := sx.below b26
  replace pb := pb.below b26
  replace db := db.below b26
  replace bel := bel.trans (b26.mono bel.size)
  clear b26
  refine hK.out _ _ ⟨hd, hm⟩ (fun hH27 => ?_)
  clear hK K
  refine wpAnyH_take (i := 27) (v := ?_) rfl (by kernel_rfl) (by kernel_rfl) (by kernel_rfl) (fun _ _ _ h => h) (Or.inl ⟨by rfl, ?_⟩) hH27 ?_
  rotate_left
  · ((intro W hW; clear hW; go_simp) <;> with_reducible rfl)
  simp only [Act.put, List.getElem_toArray, List.getElem_cons_zero, List.getElem_cons_succ, List.setIfInBounds_toArray, List.set_cons_zero, List.set_cons_succ]
  refine wpAnyH_take (i := 28) (v := ?_) rfl (by kernel_rfl) (by kernel_rfl) (by kernel_rfl) (fun _ _ _ h => h) (Or.inl ⟨by rfl, ?_⟩) hH27 ?_
  rotate_left
  · ((intro W hW; clear hW; go_simp) <;> with_reducible rfl)
  simp only [Act.put, List.getElem_toArray, List.getElem_cons_zero, List.getElem_cons_succ, List.setIfInBounds_toArray, List.set_cons_zero]
  refine wpAnyH_done (by kernel_rfl) ?_ _
  go_wp2_with fail
  go_ret
  exact ⟨rfl, bel⟩
set_option linter.unusedVariables false in
set_option maxRecDepth 100000 in
set_option maxHeartbeats 16000000 in
theorem icmpReads_1 (tos id fl pt ttl pr : Int) (a0 a1 a2 a3 a4 a5 a6 a7 : UInt8) (So : Option Addr) (no co : Nat) (lo : List UInt8) (Sb : Option Addr) (nb cb : Nat) (lb : List UInt8) (w : World) (h1 : 1600 < nb) : Calls Try.prog 4 #[.agg #[.int .i64 tos, .int .i64 id, .int .i64 fl, .int .i64 pt, .int .i64 ttl, .int .i64 pr, .int .u8 (a0.toNat : Int), .int .u8 (a1.toNat : Int), .int .u8 (a2.toNat : Int), .int .u8 (a3.toNat : Int), .int .u8 (a4.toNat : Int), .int .u8 (a5.toNat : Int), .int .u8 (a6.toNat : Int), .int .u8 (a7.toNat : Int), .slice So no co, .slice Sb nb cb]] w fun e w' => e = .returned (.bool true) ∧ Below w.heap.size w w' := by
  have t1 : (1600 : Int) < nb := by omega
  clear h1
  have bel := Below.refl w.heap.size w
  go_enter Try.func4, Try.ntmps4
  go_wp2_with (first | ((with_reducible show wpList _ _ _ (⟨some 1, _, _, _, _, _⟩ :: _) _ _); refine wpList_box_n rfl 27 (.tmp 0) rfl #[.int .i64 tos, .int .i64 id, .int .i64 fl, .int .i64 pt, .int .i64 ttl, .int .i64 pr, .int .u8 (a0.toNat : Int), .int .u8 (a1.toNat : Int), .int .u8 (a2.toNat : Int), .int .u8 (a3.toNat : Int), .int .u8 (a4.toNat : Int), .int .u8 (a5.toNat : Int), .int .u8 (a6.toNat : Int), .int .u8 (a7.toNat : Int), .slice So no co, .slice Sb nb cb] rfl ?_; intro g1 w1 ge lt hh bb; have op := Nat.le_trans bel.size ge; replace bel := bel.trans (bb.mono bel.size); have hp := hh; clear hh lt ge bb))
  with_reducible refine (awake9 _).mono ?_
  rintro e w2 ⟨rfl, b2⟩
  replace hp := blk_u hp b2
  replace bel := bel.trans (b2.mono bel.size)
  clear b2
  have R14 := cell_lit hp 15 _ rfl
  go_wp2_with fail
  clear R14
  go_ret
  exact ⟨rfl, bel⟩
set_option linter.unusedVariables false in
set_option maxRecDepth 100000 in
set_option maxHeartbeats 16000000 in
theorem icmpReads_2 (tos id fl pt ttl pr : Int) (a0 a1 a2 a3 a4 a5 a6 a7 : UInt8) (So : Option Addr) (no co : Nat) (lo : List UInt8) (Sb : Option Addr) (nb cb : Nat) (lb : List UInt8) (w : World) (h1 : nb ≤ 1600) (h2 : 60 < no) : Calls Try.prog 4 #[.agg #[.int .i64 tos, .int .i64 id, .int .i64 fl, .int .i64 pt, .int .i64 ttl, .int .i64 pr, .int .u8 (a0.toNat : Int), .int .u8 (a1.toNat : Int), .int .u8 (a2.toNat : Int), .int .u8 (a3.toNat : Int), .int .u8 (a4.toNat : Int), .int .u8 (a5.toNat : Int), .int .u8 (a6.toNat : Int), .int .u8 (a7.toNat : Int), .slice So no co, .slice Sb nb cb]] w fun e w' => e = .returned (.bool true) ∧ Below w.heap.size w w' := by
  have t1 : decide ((1600 : Int) < nb) = false := decide_eq_false (by omega)
  have t2 : (60 : Int) < no := by omega
  clear h1 h2
  have bel := Below.refl w.heap.size w
  go_enter Try.func4, Try.ntmps4
  go_wp2_with (first | ((with_reducible show wpList _ _ _ (⟨some 1, _, _, _, _, _⟩ :: _) _ _); refine wpList_box_n rfl 27 (.tmp 0) rfl #[.int .i64 tos, .int .i64 id, .int .i64 fl, .int .i64 pt, .int .i64 ttl, .int .i64 pr, .int .u8 (a0.toNat : Int), .int .u8 (a1.toNat : Int), .int .u8 (a2.toNat : Int), .int .u8 (a3.toNat : Int), .int .u8 (a4.toNat : Int), .int .u8 (a5.toNat : Int), .int .u8 (a6.toNat : Int), .int .u8 (a7.toNat : Int), .slice So no co, .slice Sb nb cb] rfl ?_; intro g1 w1 ge lt hh bb; have op := Nat.le_trans bel.size ge; replace bel := bel.trans (bb.mono bel.size); have hp := hh; clear hh lt ge bb))
  with_reducible refine (awake9 _).mono ?_
  rintro e w2 ⟨rfl, b2⟩
  replace hp := blk_u hp b2
  replace bel := bel.trans (b2.mono bel.size)
  clear b2
  have R14 := cell_lit hp 15 _ rfl
  have R19 := cell_lit hp 14 _ rfl
  go_wp2_with fail
  clear R14 R19
  go_ret
  exact ⟨rfl, bel⟩
set_option linter.unusedVariables false in
set_option maxRecDepth 100000 in
set_option maxHeartbeats 16000000 in
theorem icmpReads_3 (tos id fl pt ttl pr : Int) (a0 a1 a2 a3 a4 a5 a6 a7 : UInt8) (So : Option Addr) (no co : Nat) (lo : List UInt8) (Sb : Option Addr) (nb cb : Nat) (lb : List UInt8) (w : World) (ho : Sl w So no co lo) (hb : Sl w Sb nb cb lb) (h1 : nb ≤ 1600) (h2 : no ≤ 60) : Calls Try.prog 4 #[.agg #[.int .i64 tos, .int .i64 id, .int .i64 fl, .int .i64 pt, .int .i64 ttl, .int .i64 pr, .int .u8 (a0.toNat : Int), .int .u8 (a1.toNat : Int), .int .u8 (a2.toNat : Int), .int .u8 (a3.toNat : Int), .int .u8 (a4.toNat : Int), .int .u8 (a5.toNat : Int), .int .u8 (a6.toNat : Int), .int .u8 (a7.toNat : Int), .slice So no co, .slice Sb nb cb]] w fun e w' => e = .returned (.bool true) ∧ Below w.heap.size w w' := by
  have t1 : decide ((1600 : Int) < nb) = false := decide_eq_false (by omega)
  have t2 : decide ((60 : Int) < no) = false := decide_eq_false (by omega)
  have H1 := Lib.hid h1
  clear h1 h2
  have bel := Below.refl w.heap.size w
  go_enter Try.func4, Try.ntmps4
  go_wp2_with (first | ((with_reducible show wpList _ _ _ (⟨some 1, _, _, _, _, _⟩ :: _) _ _); refine wpList_box_n rfl 27 (.tmp 0) rfl #[.int .i64 tos, .int .i64 id, .int .i64 fl, .int .i64 pt, .int .i64 ttl, .int .i64 pr, .int .u8 (a0.toNat : Int), .int .u8 (a1.toNat : Int), .int .u8 (a2.toNat : Int), .int .u8 (a3.toNat : Int), .int .u8 (a4.toNat : Int), .int .u8 (a5.toNat : Int), .int .u8 (a6.toNat : Int), .int .u8 (a7.toNat : Int), .slice So no co, .slice Sb nb cb] rfl ?_; intro g1 w1 ge lt hh bb; have av_ho_p := ho.av_new ge; have av_hb_p := hb.av_new ge; have op := Nat.le_trans bel.size ge; replace ho := ho.below bb; replace hb := hb.below bb; replace bel := bel.trans (bb.mono bel.size); have hp := hh; clear hh lt ge bb))
  with_reducible refine (awake9 _).mono ?_
  rintro e w2 ⟨rfl, b2⟩
  replace hp := blk_u hp b2
  replace ho := ho.below b2
  replace hb := hb.below b2
  replace bel := bel.trans (b2.mono bel.size)
  clear b2
  have R14 := cell_lit hp 15 _ rfl
  have R19 := cell_lit hp 14 _ rfl
  have R24 := Lib.hid (range_lit hp 0 16 [.int .i64 tos, .int .i64 id, .int .i64 fl, .int .i64 pt, .int .i64 ttl, .int .i64 pr, .int .u8 (a0.toNat : Int), .int .u8 (a1.toNat : Int), .int .u8 (a2.toNat : Int), .int .u8 (a3.toNat : Int), .int .u8 (a4.toNat : Int), .int .u8 (a5.toNat : Int), .int .u8 (a6.toNat : Int), .int .u8 (a7.toNat : Int), .slice So no co, .slice Sb nb cb] rfl)
  go_wp2_with (first | ((with_reducible show wpList _ _ _ (⟨some 24, _, _, _, _, _⟩ :: _) _ _); refine wpList_load_rng 27 (.tmp 1) rfl (by kernel_rfl) _ _ rfl _ R24.out _ Try.underlying27 rfl (by kernel_rfl) ?_))
  try clear R14
  try clear R19
  try clear R24
  with_reducible refine (icget_any _ _ _ _ _ _ _ _ _ _ _ _ _ _ _ _ _ _ _ _ _ _ hb (by have := H1.out; omega)).mono ?_
  rintro e w3 ⟨y10, y11, y12, lb1, B1, d1, er1, rfl, z1, ga1, b3, q1⟩
  have av_z1_p := ga1.av (hlt hp)
  replace hp := blk_u hp b3
  replace ho := ho.below b3
  replace hb := hb.below b3
  replace bel := bel.trans (b3.mono bel.size)
  clear b3
  replace z1 : Sl w3 (B1) (lb1.length) (d1) (lb1) := z1
  go_wp2_with (first | ((with_reducible show wpList _ _ _ (⟨some 3, _, _, _, _, _⟩ :: _) _ _); refine wpList_new_a rfl 34 rfl #[.int .i64 0, .int .i64 0, .int .u32 0, .slice none 0 0] (by kernel_rfl) ?_; intro g3 w4 ge hh bb; have d_p_d := ne_new (hlt hp) ge; have av_ho_d := ho.av_new ge; have av_hb_d := hb.av_new ge; have av_z1_d := z1.av_new ge; have od := Nat.le_trans bel.size ge; replace hp := blk_u hp bb; replace ho := ho.below bb; replace hb := hb.below bb; replace z1 := z1.below bb; replace bel := bel.trans (bb.mono bel.size); have hd := hh; clear hh ge bb) | ((with_reducible show wpList _ _ _ (⟨none, Op.store _ (.tmp 3) _, _, _, _, _⟩ :: _) _ _); refine wpList_store_blk rfl 34 (.tmp 3) (.tmp 26) rfl g3 rfl _ rfl _ 34 hd (by rfl) (by kernel_rfl) (by kernel_rfl) ?_; intro w5 hq gr; replace ho := ho.away av_ho_d gr; replace hb := hb.away av_hb_d gr; replace z1 := z1.away av_z1_d gr; replace hp := blk_a hp gr d_p_d; replace bel := below_grown bel gr od bel.size; clear hd; have hd := hq; clear hq gr; have R29 := Lib.hid (range_lit hp 0 16 [.int .i64 tos, .int .i64 id, .int .i64 fl, .int .i64 pt, .int .i64 ttl, .int .i64 pr, .int .u8 (a0.toNat : Int), .int .u8 (a1.toNat : Int), .int .u8 (a2.toNat : Int), .int .u8 (a3.toNat : Int), .int .u8 (a4.toNat : Int), .int .u8 (a5.toNat : Int), .int .u8 (a6.toNat : Int), .int .u8 (a7.toNat : Int), .slice So no co, .slice Sb nb cb] rfl)) | ((with_reducible show wpList _ _ _ (⟨some 29, _, _, _, _, _⟩ :: _) _ _); refine wpList_load_rng 27 (.tmp 1) rfl (by kernel_rfl) _ _ rfl _ R29.out _ Try.underlying27 rfl (by kernel_rfl) ?_))
  try clear R29
  with_reducible refine (own9_any _ _ _ _ _ _ _ _ _ _ _ _ _ _ _ _ _ _ _ _ _).mono ?_
  rintro e w6 ⟨rfl, b6⟩
  replace hp := blk_u hp b6
  replace hd := blk_u hd b6
  replace ho := ho.below b6
  replace hb := hb.below b6
  replace z1 := z1.below b6
  replace bel := bel.trans (b6.mono bel.size)
  clear b6
  go_wp2_with fail
  with_reducible refine (ricget_any _ _ _ _ _ _ _ _ _ _ _ _ _ _ _ _ _ _ _ _ _ _ hb (by have := H1.out; omega)).mono ?_
  rintro e w7 ⟨y20, y21, y22, lb2, B2, d2, er2, rfl, z2, ga2, b7, q2⟩
  have av_z2_p := ga2.av (hlt hp)
  have av_z2_d := ga2.av (hlt hd)
  replace hp := blk_u hp b7
  replace hd := blk_u hd b7
  replace ho := ho.below b7
  replace hb := hb.below b7
  replace z1 := z1.below b7
  replace bel := bel.trans (b7.mono bel.size)
  clear b7
  have ER := Lib.hid (icget_re q1)
  have hh := q1.trans q2.symm
  simp only [Prod.mk.injEq, List.cons.injEq, and_true] at hh
  obtain ⟨⟨rfl, rfl, rfl⟩, rfl, rfl⟩ := hh
  clear q1 q2
  obtain ⟨ft, hft⟩ : ∃ b, faultT y10 = b := ⟨_, rfl⟩
  have HFT := Lib.hid hft
  clear hft
  go_wp2_with (first | ((with_reducible show wpList _ _ _ (⟨some 5, _, _, _, _, _⟩ :: _) _ _); refine wpList_new_a rfl 42 rfl #[.int .i64 0, .int .i64 0, .int .u32 0, .slice none 0 0] (by kernel_rfl) ?_; intro g5 w8 ge hh bb; have d_p_r := ne_new (hlt hp) ge; have d_d_r := ne_new (hlt hd) ge; have av_ho_r := ho.av_new ge; have av_hb_r := hb.av_new ge; have av_z1_r := z1.av_new ge; have av_z2_r := z2.av_new ge; have or := Nat.le_trans bel.size ge; replace hp := blk_u hp bb; replace hd := blk_u hd bb; replace ho := ho.below bb; replace hb := hb.below bb; replace z1 := z1.below bb; replace z2 := z2.below bb; replace bel := bel.trans (bb.mono bel.size); have hr := hh; clear hh ge bb) | ((with_reducible show wpList _ _ _ (⟨none, Op.store _ (.tmp 5) _, _, _, _, _⟩ :: _) _ _); refine wpList_store_blk rfl 42 (.tmp 5) (.tmp 32) rfl g5 rfl _ rfl _ 42 hr (by rfl) (by kernel_rfl) (by kernel_rfl) ?_; intro w9 hq gr; replace ho := ho.away av_ho_r gr; replace hb := hb.away av_hb_r gr; replace z1 := z1.away av_z1_r gr; replace z2 := z2.away av_z2_r gr; replace hp := blk_a hp gr d_p_r; replace hd := blk_a hd gr d_d_r; replace bel := below_grown bel gr or bel.size; clear hr; have hr := hq; clear hq gr; have R35 := Lib.hid (range_lit hd 0 4 [.int .i64 y10, .int .i64 y11, .int .u32 y12, .slice B1 lb1.length d1] rfl)) | ((with_reducible show wpList _ _ _ (⟨some 35, _, _, _, _, _⟩ :: _) _ _); refine wpList_load_rng 34 (.tmp 3) rfl (by kernel_rfl) _ _ rfl _ R35.out _ Try.underlying34 rfl (by kernel_rfl) ?_))
  try clear R35
  with_reducible refine (icquery_q _ _ _ _ _ _ ER.out.1 ER.out.2 _).mono ?_
  rintro e w10 ⟨qv, qb, rfl, b10, q1⟩
  replace hp := blk_u hp b10
  replace hd := blk_u hd b10
  replace hr := blk_u hr b10
  replace ho := ho.below b10
  replace hb := hb.below b10
  replace z1 := z1.below b10
  replace z2 := z2.below b10
  replace bel := bel.trans (b10.mono bel.size)
  clear b10
  have R40 := Lib.hid (range_lit hr 0 4 [.int .i64 y10, .int .i64 y11, .int .u32 y12, .slice B2 lb1.length d2] rfl)
  go_wp2_with (first | ((with_reducible show wpList _ _ _ (⟨some 40, _, _, _, _, _⟩ :: _) _ _); refine wpList_load_rng 42 (.tmp 5) rfl (by kernel_rfl) _ _ rfl _ R40.out _ Try.underlying42 rfl (by kernel_rfl) ?_))
  try clear R40
  with_reducible refine (ricquery_q _ _ _ _ _ _ ER.out.1 ER.out.2 _).mono ?_
  rintro e w11 ⟨qv2, qb2, rfl, b11, q2⟩
  replace hp := blk_u hp b11
  replace hd := blk_u hd b11
  replace hr := blk_u hr b11
  replace ho := ho.below b11
  replace hb := hb.below b11
  replace z1 := z1.below b11
  replace z2 := z2.below b11
  replace bel := bel.trans (b11.mono bel.size)
  clear b11
  have hh := q1.trans q2.symm
  simp only [Prod.mk.injEq] at hh
  obtain ⟨rfl, rfl⟩ := hh
  clear q1 q2
  go_wp2_with fail
  replace bel := bel.drew
  replace hp : w11.drew.heap[g1]? = _ := hp
  replace hd : w11.drew.heap[g3]? = _ := hd
  replace hr : w11.drew.heap[g5]? = _ := hr
  replace ho := ho.drew
  replace hb := hb.drew
  replace z1 := z1.drew
  replace z2 := z2.drew
  refine wp_region_held_drew (S := fun W => W.heap[g3]? = some (.cells #[.int .i64 y10, .int .i64 y11, .int .u32 y12, .slice B1 lb1.length d1] 34 (0, 0)) ∧ W.heap[g5]? = some (.cells #[.int .i64 y10, .int .i64 y11, .int .u32 y12, .slice B2 lb1.length d2] 42 (0, 0))) (by kernel_rfl) ⟨hd, hr⟩ (fun hH => ?_)
  generalize w11.drew = w12 at bel hp hd hr ho hb z1 z2 hH ⊢
  refine wpAnyH_take (i := 0) (v := ?_) rfl (by kernel_rfl) (by kernel_rfl) (by kernel_rfl) (fun _ _ _ h => h) (Or.inl ⟨by rfl, ?_⟩) hH ?_
  rotate_left
  · ((intro W hW; clear hW; go_simp) <;> with_reducible rfl)
  simp only [Act.put, List.getElem_toArray, List.getElem_cons_zero, List.setIfInBounds_toArray, List.set_cons_zero, List.set_cons_succ]
  refine wpAnyH_take (i := 1) (v := ?_) rfl (by kernel_rfl) (by kernel_rfl) (by kernel_rfl) (fun _ _ _ h => h) (Or.inl ⟨by rfl, ?_⟩) hH ?_
  rotate_left
  · ((intro W hW; clear hW; go_simp) <;> with_reducible rfl)
  simp only [Act.put, List.getElem_toArray, List.getElem_cons_zero, List.getElem_cons_succ, List.setIfInBounds_toArray, List.set_cons_zero, List.set_cons_succ]
  refine wpAnyH_take (i := 2) (v := ?_) rfl (by kernel_rfl) (by kernel_rfl) (by kernel_rfl) (fun _ _ _ h => h) (Or.inl ⟨by rfl, ?_⟩) hH ?_
  rotate_left
  · ((intro W hW; clear hW; go_simp) <;> with_reducible rfl)
  simp only [Act.put, List.getElem_toArray, List.getElem_cons_zero, List.getElem_cons_succ, List.setIfInBounds_toArray, List.set_cons_zero, List.set_cons_succ]
  refine wpAnyH_take (i := 3) (v := ?_) rfl (by kernel_rfl) (by kernel_rfl) (by kernel_rfl) (fun _ _ _ h => h) (Or.inl ⟨by rfl, ?_⟩) hH ?_
  rotate_left
  · ((intro W hW; clear hW; go_simp) <;> with_reducible rfl)
  simp only [Act.put, List.getElem_toArray, List.getElem_cons_zero, List.getElem_cons_succ, List.setIfInBounds_toArray, List.set_cons_zero, List.set_cons_succ]
  refine wpAnyH_take (i := 4) (v := .agg #[.int .i64 y10, .int .i64 y11, .int .u32 y12, .slice B1 lb1.length d1]) rfl (by kernel_rfl) (by kernel_rfl) (by kernel_rfl) (fun _ _ _ h => h) (yieldsIf_load_part (by kernel_rfl) 34 _ rfl g3 0 4 rfl _ 34 (0, 0) (fun W hW => hW.1) _ rfl _ Try.underlying34 rfl (by kernel_rfl)) hH ?_
  simp only [Act.put, List.getElem_toArray, List.getElem_cons_zero, List.getElem_cons_succ, List.setIfInBounds_toArray, List.set_cons_zero, List.set_cons_succ]
  refine wpAnyH_take (i := 5) (v := .agg #[.int .i64 y10, .int .i64 y11, .int .u32 y12, .slice B2 lb1.length d2]) rfl (by kernel_rfl) (by kernel_rfl) (by kernel_rfl) (fun _ _ _ h => h) (yieldsIf_load_part (by kernel_rfl) 42 _ rfl g5 0 4 rfl _ 42 (0, 0) (fun W hW => hW.2) _ rfl _ Try.underlying42 rfl (by kernel_rfl)) hH ?_
  simp only [Act.put, List.getElem_toArray, List.getElem_cons_zero, List.getElem_cons_succ, List.setIfInBounds_toArray, List.set_cons_zero, List.set_cons_succ]
  refine wpAnyH_ready (rs := [6]) (by kernel_rfl) (by simp) ?_
  refine AllReadyH.cons (o := _) rfl (fun K hK => ?_) AllReadyH.nil
  simp only [List.getElem_toArray, List.getElem_cons_zero, List.getElem_cons_succ]
  go_simp
  with_reducible refine (same9_true _ _ _ _ _ _ _ _ _ _  z1 z2).mono ?_
  rintro e w13 ⟨rfl, b13⟩
  dsimp only
  replace hp := blk_u hp b13
  replace hd := blk_u hd b13
  replace hr := blk_u hr b13
  replace ho := ho.below b13
  replace hb := hb.below b13
  replace z1 := z1.below b13
  replace z2 := z2.below b13
  replace bel := bel.trans (b13.mono bel.size)
  clear b13
  refine hK.out _ _ ⟨hd, hr⟩ (fun hH14 => ?_)
  clear hK K
  refine wpAnyH_take (i := 7) (v := ?_) rfl (by kernel_rfl) (by kernel_rfl) (by kernel_rfl) (fun _ _ _ h => h) (Or.inl ⟨by rfl, ?_⟩) hH14 ?_
  rotate_left
  · ((intro W hW; clear hW; go_simp) <;> with_reducible rfl)
  simp only [Act.put, List.getElem_toArray, List.getElem_cons_zero, List.getElem_cons_succ, List.setIfInBounds_toArray, List.set_cons_zero, List.set_cons_succ]
  refine wpAnyH_take (i := 8) (v := ?_) rfl (by kernel_rfl) (by kernel_rfl) (by kernel_rfl) (fun _ _ _ h => h) (Or.inl ⟨by rfl, ?_⟩) hH14 ?_
  rotate_left
  · ((intro W hW; clear hW; go_simp) <;> with_reducible rfl)
  simp only [Act.put, List.getElem_toArray, List.getElem_cons_zero, List.getElem_cons_succ, List.setIfInBounds_toArray, List.set_cons_zero, List.set_cons_succ]
  refine wpAnyH_take (i := 9) (v := ?_) rfl (by kernel_rfl) (by kernel_rfl) (by kernel_rfl) (fun _ _ _ h => h) (Or.inl ⟨by rfl, ?_⟩) hH14 ?_
  rotate_left
  · ((intro W hW; clear hW; go_simp) <;> with_reducible rfl)
  simp only [Act.put, List.getElem_toArray, List.getElem_cons_zero, List.getElem_cons_succ, List.setIfInBounds_toArray, List.set_cons_zero, List.set_cons_succ]
  refine wpAnyH_take (i := 10) (v := ?_) rfl (by kernel_rfl) (by kernel_rfl) (by kernel_rfl) (fun _ _ _ h => h) (Or.inl ⟨by rfl, ?_⟩) hH14 ?_
  rotate_left
  · ((intro W hW; clear hW; go_simp) <;> with_reducible rfl)
  simp only [Act.put, List.getElem_toArray, List.getElem_cons_zero, List.getElem_cons_succ, List.setIfInBounds_toArray, List.set_cons_zero, List.set_cons_succ]
  refine wpAnyH_take (i := 11) (v := ?_) rfl (by kernel_rfl) (by kernel_rfl) (by kernel_rfl) (fun _ _ _ h => h) (Or.inl ⟨by rfl, ?_⟩) hH14 ?_
  rotate_left
  · ((intro W hW; clear hW; go_simp) <;> with_reducible rfl)
  simp only [Act.put, List.getElem_toArray, List.getElem_cons_zero, List.getElem_cons_succ, List.setIfInBounds_toArray, List.set_cons_zero, List.set_cons_succ]
  refine wpAnyH_take (i := 12) (v := ?_) rfl (by kernel_rfl) (by kernel_rfl) (by kernel_rfl) (fun _ _ _ h => h) (Or.inl ⟨by rfl, ?_⟩) hH14 ?_
  rotate_left
  · ((intro W hW; clear hW; go_simp) <;> with_reducible rfl)
  simp only [Act.put, List.getElem_toArray, List.getElem_cons_zero, List.getElem_cons_succ, List.setIfInBounds_toArray, List.set_cons_zero, List.set_cons_succ]
  refine wpAnyH_take (i := 13) (v := ?_) rfl (by kernel_rfl) (by kernel_rfl) (by kernel_rfl) (fun _ _ _ h => h) (Or.inl ⟨by rfl, ?_⟩) hH14 ?_
  rotate_left
  · ((intro W hW; clear hW; go_simp) <;> with_reducible rfl)
  simp only [Act.put, List.getElem_toArray, List.getElem_cons_zero, List.getElem_cons_succ, List.setIfInBounds_toArray, List.set_cons_zero, List.set_cons_succ]
  refine wpAnyH_take (i := 14) (v := ?_) rfl (by kernel_rfl) (by kernel_rfl) (by kernel_rfl) (fun _ _ _ h => h) (Or.inl ⟨by rfl, ?_⟩) hH14 ?_
  rotate_left
  · ((intro W hW; clear hW; go_simp) <;> with_reducible rfl)
  simp only [Act.put, List.getElem_toArray, List.getElem_cons_zero, List.getElem_cons_succ, List.setIfInBounds_toArray, List.set_cons_zero, List.set_cons_succ]
  refine wpAnyH_take (i := 15) (v := ?_) rfl (by kernel_rfl) (by kernel_rfl) (by kernel_rfl) (fun _ _ _ h => h) (Or.inl ⟨by rfl, ?_⟩) hH14 ?_
  rotate_left
  · ((intro W hW; clear hW; go_simp) <;> with_reducible rfl)
  simp only [Act.put, List.getElem_toArray, List.getElem_cons_zero, List.getElem_cons_succ, List.setIfInBounds_toArray, List.set_cons_zero, List.set_cons_succ]
  refine wpAnyH_take (i := 16) (v := ?_) rfl (by kernel_rfl) (by kernel_rfl) (by kernel_rfl) (fun _ _ _ h => h) (Or.inl ⟨by rfl, ?_⟩) hH14 ?_
  rotate_left
  · ((intro W hW; clear hW; go_simp) <;> with_reducible rfl)
  simp only [Act.put, List.getElem_toArray, List.getElem_cons_zero, List.getElem_cons_succ, List.setIfInBounds_toArray, List.set_cons_zero, List.set_cons_succ]
  refine wpAnyH_take (i := 17) (v := ?_) rfl (by kernel_rfl) (by kernel_rfl) (by kernel_rfl) (fun _ _ _ h => h) (Or.inl ⟨by rfl, ?_⟩) hH14 ?_
  rotate_left
  · ((intro W hW; clear hW; go_simp) <;> with_reducible rfl)
  simp only [Act.put, List.getElem_toArray, List.getElem_cons_zero, List.getElem_cons_succ, List.setIfInBounds_toArray, List.set_cons_zero, List.set_cons_succ]
  refine wpAnyH_take (i := 18) (v := ?_) rfl (by kernel_rfl) (by kernel_rfl) (by kernel_rfl) (fun _ _ _ h => h) (Or.inl ⟨by rfl, ?_⟩) hH14 ?_
  rotate_left
  · ((intro W hW; clear hW; go_simp) <;> with_reducible rfl)
  simp only [Act.put, List.getElem_toArray, List.getElem_cons_zero, List.getElem_cons_succ, List.setIfInBounds_toArray, List.set_cons_zero, List.set_cons_succ]
  refine wpAnyH_take (i := 19) (v := .agg #[.int .i64 y10, .int .i64 y11, .int .u32 y12, .slice B1 lb1.length d1]) rfl (by kernel_rfl) (by kernel_rfl) (by kernel_rfl) (fun _ _ _ h => h) (yieldsIf_load_part (by kernel_rfl) 34 _ rfl g3 0 4 rfl _ 34 (0, 0) (fun W hW => hW.1) _ rfl _ Try.underlying34 rfl (by kernel_rfl)) hH14 ?_
  simp only [Act.put, List.getElem_toArray, List.getElem_cons_zero, List.getElem_cons_succ, List.setIfInBounds_toArray, List.set_cons_zero, List.set_cons_succ]
  refine wpAnyH_take (i := 21) (v := .agg #[.int .i64 y10, .int .i64 y11, .int .u32 y12, .slice B2 lb1.length d2]) rfl (by kernel_rfl) (by kernel_rfl) (by kernel_rfl) (fun _ _ _ h => h) (yieldsIf_load_part (by kernel_rfl) 42 _ rfl g5 0 4 rfl _ 42 (0, 0) (fun W hW => hW.2) _ rfl _ Try.underlying42 rfl (by kernel_rfl)) hH14 ?_
  simp only [Act.put, List.getElem_toArray, List.getElem_cons_zero, List.getElem_cons_succ, List.setIfInBounds_toArray, List.set_cons_zero, List.set_cons_succ]
  refine wpAnyH_ready (rs := [20]) (by kernel_rfl) (by simp) ?_
  refine AllReadyH.cons (o := _) rfl (fun K hK => ?_) AllReadyH.nil
  simp only [List.getElem_toArray, List.getElem_cons_zero, List.getElem_cons_succ]
  go_simp
  with_reducible refine (icfault_any _ _ _ _ _ _ _).mono ?_
  rintro e w15 ⟨rfl, b15⟩
  dsimp only
  replace hp := blk_u hp b15
  replace hd := blk_u hd b15
  replace hr := blk_u hr b15
  replace ho := ho.below b15
  replace hb := hb.below b15
  replace z1 := z1.below b15
  replace z2 := z2.below b15
  replace bel := bel.trans (b15.mono bel.size)
  clear b15
  rw [HFT.out]
  refine hK.out _ _ ⟨hd, hr⟩ (fun hH16 => ?_)
  clear hK K
  refine wpAnyH_ready (rs := [22]) (by kernel_rfl) (by simp) ?_
  refine AllReadyH.cons (o := _) rfl (fun K hK => ?_) AllReadyH.nil
  simp only [List.getElem_toArray, List.getElem_cons_zero, List.getElem_cons_succ]
  go_simp
  with_reducible refine (ricfault_any _ _ _ _ _ _ _).mono ?_
  rintro e w17 ⟨rfl, b17⟩
  dsimp only
  replace hp := blk_u hp b17
  replace hd := blk_u hd b17
  replace hr := blk_u hr b17
  replace ho := ho.below b17
  replace hb := hb.below b17
  replace z1 := z1.below b17
  replace z2 := z2.below b17
  replace bel := bel.trans (b17.mono bel.size)
  clear b17
  rw [HFT.out]
  refine hK.out _ _ ⟨hd, hr⟩ (fun hH18 => ?_)
  clear hK K
  refine wpAnyH_take (i := 23) (v := ?_) rfl (by kernel_rfl) (by kernel_rfl) (by kernel_rfl) (fun _ _ _ h => h) (Or.inl ⟨by rfl, ?_⟩) hH18 ?_
  rotate_left
  · ((intro W hW; clear hW; go_simp) <;> with_reducible rfl)
  simp only [Act.put, List.getElem_toArray, List.getElem_cons_zero, List.getElem_cons_succ, List.setIfInBounds_toArray, List.set_cons_zero, List.set_cons_succ]
  refine wpAnyH_take (i := 24) (v := ?_) rfl (by kernel_rfl) (by kernel_rfl) (by kernel_rfl) (fun _ _ _ h => h) (Or.inl ⟨by rfl, ?_⟩) hH18 ?_
  rotate_left
  · ((intro W hW; clear hW; go_simp) <;> with_reducible rfl)
  simp only [Act.put, List.getElem_toArray, List.getElem_cons_zero, List.getElem_cons_succ, List.setIfInBounds_toArray, List.set_cons_zero, List.set_cons_succ]
  refine wpAnyH_take (i := 25) (v := ?_) rfl (by kernel_rfl) (by kernel_rfl) (by kernel_rfl) (fun _ _ _ h => h) (Or.inl ⟨by rfl, ?_⟩) hH18 ?_
  rotate_left
  · ((intro W hW; clear hW; go_simp) <;> with_reducible rfl)
  simp only [Act.put, List.getElem_toArray, List.getElem_cons_zero, List.getElem_cons_succ, List.setIfInBounds_toArray, List.set_cons_zero, List.set_cons_succ]
  refine wpAnyH_done (by kernel_rfl) ?_ _
  go_wp2_with fail
  go_ret
  exact ⟨rfl, bel⟩
theorem icmpReads_walk (tos id fl pt ttl pr : Int) (a0 a1 a2 a3 a4 a5 a6 a7 : UInt8) (So : Option Addr) (no co : Nat) (lo : List UInt8) (Sb : Option Addr) (nb cb : Nat) (lb : List UInt8) (w : World) (ho : Sl w So no co lo) (hb : Sl w Sb nb cb lb) : Calls Try.prog 4 #[.agg #[.int .i64 tos, .int .i64 id, .int .i64 fl, .int .i64 pt, .int .i64 ttl, .int .i64 pr, .int .u8 (a0.toNat : Int), .int .u8 (a1.toNat : Int), .int .u8 (a2.toNat : Int), .int .u8 (a3.toNat : Int), .int .u8 (a4.toNat : Int), .int .u8 (a5.toNat : Int), .int .u8 (a6.toNat : Int), .int .u8 (a7.toNat : Int), .slice So no co, .slice Sb nb cb]] w fun e w' => e = .returned (.bool true) ∧ Below w.heap.size w w' := by
  by_cases h1 : nb ≤ 1600
  · by_cases h2 : no ≤ 60
    · exact icmpReads_3 tos id fl pt ttl pr a0 a1 a2 a3 a4 a5 a6 a7 So no co lo Sb nb cb lb w ho hb h1 h2
    · exact icmpReads_2 tos id fl pt ttl pr a0 a1 a2 a3 a4 a5 a6 a7 So no co lo Sb nb cb lb w h1 (by omega)
  · exact icmpReads_1 tos id fl pt ttl pr a0 a1 a2 a3 a4 a5 a6 a7 So no co lo Sb nb cb lb w (by omega)
theorem icput_good (tos id fl pt ttl pr : Int) (a0 a1 a2 a3 a4 a5 a6 a7 : UInt8) (So Sb : Option Addr) (no co nb cb : Nat) (ty cd re : Int) (D : Option Addr) (nd qd : Nat) (lo ld : List UInt8) (w : World) (ho : Sl w So no co lo) (hb : Sl w D nd qd ld) (h1 : byteOk ty = true) (h2 : byteOk cd = true) (hl : nd ≤ 1472) (hno : no ≤ 100000) (e0 : 0 ≤ re) (e1 : re < 4294967296) : Calls Try.prog 11 #[.agg #[.int .i64 tos, .int .i64 id, .int .i64 fl, .int .i64 pt, .int .i64 ttl, .int .i64 pr, .int .u8 (a0.toNat : Int), .int .u8 (a1.toNat : Int), .int .u8 (a2.toNat : Int), .int .u8 (a3.toNat : Int), .int .u8 (a4.toNat : Int), .int .u8 (a5.toNat : Int), .int .u8 (a6.toNat : Int), .int .u8 (a7.toNat : Int), .slice So no co, .slice Sb nb cb], .agg #[.int .i64 ty, .int .i64 cd, .int .u32 re, .slice D nd qd]] w fun e w' => ∃ Ao co' Ab cb', e = .returned (.tuple #[.agg #[.int .i64 tos, .int .i64 id, .int .i64 fl, .int .i64 pt, .int .i64 ttl, .int .i64 1, .int .u8 (a0.toNat : Int), .int .u8 (a1.toNat : Int), .int .u8 (a2.toNat : Int), .int .u8 (a3.toNat : Int), .int .u8 (a4.toNat : Int), .int .u8 (a5.toNat : Int), .int .u8 (a6.toNat : Int), .int .u8 (a7.toNat : Int), .slice Ao no co', .slice Ab (8 + nd) cb'], .int .i64 0]) ∧ Sl w' Ao no co' lo ∧ Sl w' Ab (8 + nd) cb' (icBytes ty cd re ld) ∧ Fr w.heap.size Ao no ∧ Fr w.heap.size Ab (8 + nd) ∧ Below w.heap.size w w' := by
  refine (icput_any tos id fl pt ttl pr a0 a1 a2 a3 a4 a5 a6 a7 So Sb no co nb cb ty cd re D nd qd lo ld w ho hb hno e0 e1).mono ?_
  rintro e w' ⟨f0, f1, f2, f3, f4, f5, g0, g1, g2, g3, g4, g5, g6, g7, lo', lb', Ao, Ab, co', cb', er', rfl, ho', hbb, fo, fb, bel, hq⟩
  rw [icput_eq h1 h2 (by rw [hb.1]; exact hl)] at hq
  simp only [Prod.mk.injEq, List.cons.injEq, and_true] at hq
  obtain ⟨⟨⟨rfl, rfl, rfl, rfl, rfl, rfl⟩, rfl, rfl, rfl, rfl, rfl, rfl, rfl, rfl⟩, ⟨rfl, rfl⟩, rfl⟩ := hq
  have hl : (icBytes ty cd re ld).length = 8 + nd := by rw [icBytes_len, hb.1]
  have hl2 := ho.1
  rw [hl] at hbb fb ⊢
  rw [hl2] at ho' fo ⊢
  exact ⟨Ao, co', Ab, cb', rfl, ho', hbb, fo, fb, bel⟩
theorem icput_er (tos id fl pt ttl pr : Int) (a0 a1 a2 a3 a4 a5 a6 a7 : UInt8) (So Sb : Option Addr) (no co nb cb : Nat) (ty cd re : Int) (D : Option Addr) (nd qd : Nat) (lo ld : List UInt8) (w : World) (ho : Sl w So no co lo) (hb : Sl w D nd qd ld) (hno : no ≤ 100000) (e0 : 0 ≤ re) (e1 : re < 4294967296) : Calls Try.prog 11 #[.agg #[.int .i64 tos, .int .i64 id, .int .i64 fl, .int .i64 pt, .int .i64 ttl, .int .i64 pr, .int .u8 (a0.toNat : Int), .int .u8 (a1.toNat : Int), .int .u8 (a2.toNat : Int), .int .u8 (a3.toNat : Int), .int .u8 (a4.toNat : Int), .int .u8 (a5.toNat : Int), .int .u8 (a6.toNat : Int), .int .u8 (a7.toNat : Int), .slice So no co, .slice Sb nb cb], .agg #[.int .i64 ty, .int .i64 cd, .int .u32 re, .slice D nd qd]] w fun e w' => ∃ f0 f1 f2 f3 f4 f5 : Int, ∃ g0 g1 g2 g3 g4 g5 g6 g7 : UInt8, ∃ Ao n1 co' Ab n2 cb', e = .returned (.tuple #[.agg #[.int .i64 f0, .int .i64 f1, .int .i64 f2, .int .i64 f3, .int .i64 f4, .int .i64 f5, .int .u8 (g0.toNat : Int), .int .u8 (g1.toNat : Int), .int .u8 (g2.toNat : Int), .int .u8 (g3.toNat : Int), .int .u8 (g4.toNat : Int), .int .u8 (g5.toNat : Int), .int .u8 (g6.toNat : Int), .int .u8 (g7.toNat : Int), .slice Ao n1 co', .slice Ab n2 cb'], .int .i64 (icPut tos id fl pt ttl a0 a1 a2 a3 a4 a5 a6 a7 lo ty cd re ld).2.2]) ∧ Below w.heap.size w w' := by
  refine (icput_any tos id fl pt ttl pr a0 a1 a2 a3 a4 a5 a6 a7 So Sb no co nb cb ty cd re D nd qd lo ld w ho hb hno e0 e1).mono ?_
  rintro e w' ⟨f0, f1, f2, f3, f4, f5, g0, g1, g2, g3, g4, g5, g6, g7, lo', lb', Ao, Ab, co', cb', er', rfl, ho', hbb, fo, fb, bel, hq⟩
  rw [← hq]
  exact ⟨_, _, _, _, _, _, _, _, _, _, _, _, _, _, _, _, _, _, _, _, rfl, bel⟩
theorem ricput_good (tos id fl pt ttl pr : Int) (a0 a1 a2 a3 a4 a5 a6 a7 : UInt8) (So Sb : Option Addr) (no co nb cb : Nat) (ty cd re : Int) (D : Option Addr) (nd qd : Nat) (lo ld : List UInt8) (w : World) (ho : Sl w So no co lo) (hb : Sl w D nd qd ld) (h1 : byteOk ty = true) (h2 : byteOk cd = true) (hl : nd ≤ 1472) (hno : no ≤ 100000) (e0 : 0 ≤ re) (e1 : re < 4294967296) : Calls Try.prog 23 #[.agg #[.int .i64 tos, .int .i64 id, .int .i64 fl, .int .i64 pt, .int .i64 ttl, .int .i64 pr, .int .u8 (a0.toNat : Int), .int .u8 (a1.toNat : Int), .int .u8 (a2.toNat : Int), .int .u8 (a3.toNat : Int), .int .u8 (a4.toNat : Int), .int .u8 (a5.toNat : Int), .int .u8 (a6.toNat : Int), .int .u8 (a7.toNat : Int), .slice So no co, .slice Sb nb cb], .agg #[.int .i64 ty, .int .i64 cd, .int .u32 re, .slice D nd qd]] w fun e w' => ∃ Ao co' Ab cb', e = .returned (.tuple #[.agg #[.int .i64 tos, .int .i64 id, .int .i64 fl, .int .i64 pt, .int .i64 ttl, .int .i64 1, .int .u8 (a0.toNat : Int), .int .u8 (a1.toNat : Int), .int .u8 (a2.toNat : Int), .int .u8 (a3.toNat : Int), .int .u8 (a4.toNat : Int), .int .u8 (a5.toNat : Int), .int .u8 (a6.toNat : Int), .int .u8 (a7.toNat : Int), .slice Ao no co', .slice Ab (8 + nd) cb'], .int .i64 0]) ∧ Sl w' Ao no co' lo ∧ Sl w' Ab (8 + nd) cb' (icBytes ty cd re ld) ∧ Fr w.heap.size Ao no ∧ Fr w.heap.size Ab (8 + nd) ∧ Below w.heap.size w w' := by
  refine (ricput_any tos id fl pt ttl pr a0 a1 a2 a3 a4 a5 a6 a7 So Sb no co nb cb ty cd re D nd qd lo ld w ho hb hno e0 e1).mono ?_
  rintro e w' ⟨f0, f1, f2, f3, f4, f5, g0, g1, g2, g3, g4, g5, g6, g7, lo', lb', Ao, Ab, co', cb', er', rfl, ho', hbb, fo, fb, bel, hq⟩
  rw [icput_eq h1 h2 (by rw [hb.1]; exact hl)] at hq
  simp only [Prod.mk.injEq, List.cons.injEq, and_true] at hq
  obtain ⟨⟨⟨rfl, rfl, rfl, rfl, rfl, rfl⟩, rfl, rfl, rfl, rfl, rfl, rfl, rfl, rfl⟩, ⟨rfl, rfl⟩, rfl⟩ := hq
  have hl : (icBytes ty cd re ld).length = 8 + nd := by rw [icBytes_len, hb.1]
  have hl2 := ho.1
  rw [hl] at hbb fb ⊢
  rw [hl2] at ho' fo ⊢
  exact ⟨Ao, co', Ab, cb', rfl, ho', hbb, fo, fb, bel⟩
theorem ricput_er (tos id fl pt ttl pr : Int) (a0 a1 a2 a3 a4 a5 a6 a7 : UInt8) (So Sb : Option Addr) (no co nb cb : Nat) (ty cd re : Int) (D : Option Addr) (nd qd : Nat) (lo ld : List UInt8) (w : World) (ho : Sl w So no co lo) (hb : Sl w D nd qd ld) (hno : no ≤ 100000) (e0 : 0 ≤ re) (e1 : re < 4294967296) : Calls Try.prog 23 #[.agg #[.int .i64 tos, .int .i64 id, .int .i64 fl, .int .i64 pt, .int .i64 ttl, .int .i64 pr, .int .u8 (a0.toNat : Int), .int .u8 (a1.toNat : Int), .int .u8 (a2.toNat : Int), .int .u8 (a3.toNat : Int), .int .u8 (a4.toNat : Int), .int .u8 (a5.toNat : Int), .int .u8 (a6.toNat : Int), .int .u8 (a7.toNat : Int), .slice So no co, .slice Sb nb cb], .agg #[.int .i64 ty, .int .i64 cd, .int .u32 re, .slice D nd qd]] w fun e w' => ∃ f0 f1 f2 f3 f4 f5 : Int, ∃ g0 g1 g2 g3 g4 g5 g6 g7 : UInt8, ∃ Ao n1 co' Ab n2 cb', e = .returned (.tuple #[.agg #[.int .i64 f0, .int .i64 f1, .int .i64 f2, .int .i64 f3, .int .i64 f4, .int .i64 f5, .int .u8 (g0.toNat : Int), .int .u8 (g1.toNat : Int), .int .u8 (g2.toNat : Int), .int .u8 (g3.toNat : Int), .int .u8 (g4.toNat : Int), .int .u8 (g5.toNat : Int), .int .u8 (g6.toNat : Int), .int .u8 (g7.toNat : Int), .slice Ao n1 co', .slice Ab n2 cb'], .int .i64 (icPut tos id fl pt ttl a0 a1 a2 a3 a4 a5 a6 a7 lo ty cd re ld).2.2]) ∧ Below w.heap.size w w' := by
  refine (ricput_any tos id fl pt ttl pr a0 a1 a2 a3 a4 a5 a6 a7 So Sb no co nb cb ty cd re D nd qd lo ld w ho hb hno e0 e1).mono ?_
  rintro e w' ⟨f0, f1, f2, f3, f4, f5, g0, g1, g2, g3, g4, g5, g6, g7, lo', lb', Ao, Ab, co', cb', er', rfl, ho', hbb, fo, fb, bel, hq⟩
  rw [← hq]
  exact ⟨_, _, _, _, _, _, _, _, _, _, _, _, _, _, _, _, _, _, _, _, rfl, bel⟩
set_option linter.unusedVariables false in
set_option maxRecDepth 100000 in
set_option maxHeartbeats 16000000 in
theorem icmpWrites_1 (tos id fl pt ttl pr : Int) (a0 a1 a2 a3 a4 a5 a6 a7 : UInt8) (So : Option Addr) (no co : Nat) (lo : List UInt8) (Sb : Option Addr) (nb cb : Nat) (lb : List UInt8) (ty cd re : Int) (D : Option Addr) (nd qd : Nat) (ld : List UInt8) (w : World) (h1 : 1600 < nb) : Calls Try.prog 5 #[.agg #[.int .i64 tos, .int .i64 id, .int .i64 fl, .int .i64 pt, .int .i64 ttl, .int .i64 pr, .int .u8 (a0.toNat : Int), .int .u8 (a1.toNat : Int), .int .u8 (a2.toNat : Int), .int .u8 (a3.toNat : Int), .int .u8 (a4.toNat : Int), .int .u8 (a5.toNat : Int), .int .u8 (a6.toNat : Int), .int .u8 (a7.toNat : Int), .slice So no co, .slice Sb nb cb], .agg #[.int .i64 ty, .int .i64 cd, .int .u32 re, .slice D nd qd]] w fun e w' => e = .returned (.bool true) ∧ Below w.heap.size w w' := by
  have t1 : (1600 : Int) < nb := by omega
  clear h1
  have bel := Below.refl w.heap.size w
  go_enter Try.func5, Try.ntmps5
  go_wp2_with (first | ((with_reducible show wpList _ _ _ (⟨some 2, _, _, _, _, _⟩ :: _) _ _); refine wpList_box_n rfl 27 (.tmp 0) rfl #[.int .i64 tos, .int .i64 id, .int .i64 fl, .int .i64 pt, .int .i64 ttl, .int .i64 pr, .int .u8 (a0.toNat : Int), .int .u8 (a1.toNat : Int), .int .u8 (a2.toNat : Int), .int .u8 (a3.toNat : Int), .int .u8 (a4.toNat : Int), .int .u8 (a5.toNat : Int), .int .u8 (a6.toNat : Int), .int .u8 (a7.toNat : Int), .slice So no co, .slice Sb nb cb] rfl ?_; intro g2 w1 ge lt hh bb; have op := Nat.le_trans bel.size ge; replace bel := bel.trans (bb.mono bel.size); have hp := hh; clear hh lt ge bb) | ((with_reducible show wpList _ _ _ (⟨some 3, _, _, _, _, _⟩ :: _) _ _); refine wpList_box_n rfl 34 (.tmp 1) rfl #[.int .i64 ty, .int .i64 cd, .int .u32 re, .slice D nd qd] rfl ?_; intro g3 w2 ge lt hh bb; have d_p_d := ne_new (hlt hp) ge; have od := Nat.le_trans bel.size ge; replace hp := blk_u hp bb; replace bel := bel.trans (bb.mono bel.size); have hd := hh; clear hh lt ge bb))
  with_reducible refine (awake9 _).mono ?_
  rintro e w3 ⟨rfl, b3⟩
  replace hp := blk_u hp b3
  replace hd := blk_u hd b3
  replace bel := bel.trans (b3.mono bel.size)
  clear b3
  have R14 := cell_lit hp 15 _ rfl
  go_wp2_with fail
  clear R14
  go_ret
  exact ⟨rfl, bel⟩
set_option linter.unusedVariables false in
set_option maxRecDepth 100000 in
set_option maxHeartbeats 16000000 in
theorem icmpWrites_2 (tos id fl pt ttl pr : Int) (a0 a1 a2 a3 a4 a5 a6 a7 : UInt8) (So : Option Addr) (no co : Nat) (lo : List UInt8) (Sb : Option Addr) (nb cb : Nat) (lb : List UInt8) (ty cd re : Int) (D : Option Addr) (nd qd : Nat) (ld : List UInt8) (w : World) (h1 : nb ≤ 1600) (h2 : 60 < no) : Calls Try.prog 5 #[.agg #[.int .i64 tos, .int .i64 id, .int .i64 fl, .int .i64 pt, .int .i64 ttl, .int .i64 pr, .int .u8 (a0.toNat : Int), .int .u8 (a1.toNat : Int), .int .u8 (a2.toNat : Int), .int .u8 (a3.toNat : Int), .int .u8 (a4.toNat : Int), .int .u8 (a5.toNat : Int), .int .u8 (a6.toNat : Int), .int .u8 (a7.toNat : Int), .slice So no co, .slice Sb nb cb], .agg #[.int .i64 ty, .int .i64 cd, .int .u32 re, .slice D nd qd]] w fun e w' => e = .returned (.bool true) ∧ Below w.heap.size w w' := by
  have t1 : decide ((1600 : Int) < nb) = false := decide_eq_false (by omega)
  have t2 : (60 : Int) < no := by omega
  clear h1 h2
  have bel := Below.refl w.heap.size w
  go_enter Try.func5, Try.ntmps5
  go_wp2_with (first | ((with_reducible show wpList _ _ _ (⟨some 2, _, _, _, _, _⟩ :: _) _ _); refine wpList_box_n rfl 27 (.tmp 0) rfl #[.int .i64 tos, .int .i64 id, .int .i64 fl, .int .i64 pt, .int .i64 ttl, .int .i64 pr, .int .u8 (a0.toNat : Int), .int .u8 (a1.toNat : Int), .int .u8 (a2.toNat : Int), .int .u8 (a3.toNat : Int), .int .u8 (a4.toNat : Int), .int .u8 (a5.toNat : Int), .int .u8 (a6.toNat : Int), .int .u8 (a7.toNat : Int), .slice So no co, .slice Sb nb cb] rfl ?_; intro g2 w1 ge lt hh bb; have op := Nat.le_trans bel.size ge; replace bel := bel.trans (bb.mono bel.size); have hp := hh; clear hh lt ge bb) | ((with_reducible show wpList _ _ _ (⟨some 3, _, _, _, _, _⟩ :: _) _ _); refine wpList_box_n rfl 34 (.tmp 1) rfl #[.int .i64 ty, .int .i64 cd, .int .u32 re, .slice D nd qd] rfl ?_; intro g3 w2 ge lt hh bb; have d_p_d := ne_new (hlt hp) ge; have od := Nat.le_trans bel.size ge; replace hp := blk_u hp bb; replace bel := bel.trans (bb.mono bel.size); have hd := hh; clear hh lt ge bb))
  with_reducible refine (awake9 _).mono ?_
  rintro e w3 ⟨rfl, b3⟩
  replace hp := blk_u hp b3
  replace hd := blk_u hd b3
  replace bel := bel.trans (b3.mono bel.size)
  clear b3
  have R14 := cell_lit hp 15 _ rfl
  have R19 := cell_lit hp 14 _ rfl
  go_wp2_with fail
  clear R14 R19
  go_ret
  exact ⟨rfl, bel⟩
set_option linter.unusedVariables false in
set_option maxRecDepth 100000 in
set_option maxHeartbeats 16000000 in
theorem icmpWrites_3 (tos id fl pt ttl pr : Int) (a0 a1 a2 a3 a4 a5 a6 a7 : UInt8) (So : Option Addr) (no co : Nat) (lo : List UInt8) (Sb : Option Addr) (nb cb : Nat) (lb : List UInt8) (ty cd re : Int) (D : Option Addr) (nd qd : Nat) (ld : List UInt8) (w : World) (h1 : nb ≤ 1600) (h2 : no ≤ 60) (h3 : 1600 < nd) : Calls Try.prog 5 #[.agg #[.int .i64 tos, .int .i64 id, .int .i64 fl, .int .i64 pt, .int .i64 ttl, .int .i64 pr, .int .u8 (a0.toNat : Int), .int .u8 (a1.toNat : Int), .int .u8 (a2.toNat : Int), .int .u8 (a3.toNat : Int), .int .u8 (a4.toNat : Int), .int .u8 (a5.toNat : Int), .int .u8 (a6.toNat : Int), .int .u8 (a7.toNat : Int), .slice So no co, .slice Sb nb cb], .agg #[.int .i64 ty, .int .i64 cd, .int .u32 re, .slice D nd qd]] w fun e w' => e = .returned (.bool true) ∧ Below w.heap.size w w' := by
  have t1 : decide ((1600 : Int) < nb) = false := decide_eq_false (by omega)
  have t2 : decide ((60 : Int) < no) = false := decide_eq_false (by omega)
  have t3 : (1600 : Int) < nd := by omega
  clear h1 h2 h3
  have bel := Below.refl w.heap.size w
  go_enter Try.func5, Try.ntmps5
  go_wp2_with (first | ((with_reducible show wpList _ _ _ (⟨some 2, _, _, _, _, _⟩ :: _) _ _); refine wpList_box_n rfl 27 (.tmp 0) rfl #[.int .i64 tos, .int .i64 id, .int .i64 fl, .int .i64 pt, .int .i64 ttl, .int .i64 pr, .int .u8 (a0.toNat : Int), .int .u8 (a1.toNat : Int), .int .u8 (a2.toNat : Int), .int .u8 (a3.toNat : Int), .int .u8 (a4.toNat : Int), .int .u8 (a5.toNat : Int), .int .u8 (a6.toNat : Int), .int .u8 (a7.toNat : Int), .slice So no co, .slice Sb nb cb] rfl ?_; intro g2 w1 ge lt hh bb; have op := Nat.le_trans bel.size ge; replace bel := bel.trans (bb.mono bel.size); have hp := hh; clear hh lt ge bb) | ((with_reducible show wpList _ _ _ (⟨some 3, _, _, _, _, _⟩ :: _) _ _); refine wpList_box_n rfl 34 (.tmp 1) rfl #[.int .i64 ty, .int .i64 cd, .int .u32 re, .slice D nd qd] rfl ?_; intro g3 w2 ge lt hh bb; have d_p_d := ne_new (hlt hp) ge; have od := Nat.le_trans bel.size ge; replace hp := blk_u hp bb; replace bel := bel.trans (bb.mono bel.size); have hd := hh; clear hh lt ge bb))
  with_reducible refine (awake9 _).mono ?_
  rintro e w3 ⟨rfl, b3⟩
  replace hp := blk_u hp b3
  replace hd := blk_u hd b3
  replace bel := bel.trans (b3.mono bel.size)
  clear b3
  have R14 := cell_lit hp 15 _ rfl
  have R19 := cell_lit hp 14 _ rfl
  have R25 := cell_lit hd 3 _ rfl
  go_wp2_with fail
  clear R14 R19 R25
  go_ret
  exact ⟨rfl, bel⟩
set_option linter.unusedVariables false in
set_option maxRecDepth 100000 in
set_option maxHeartbeats 16000000 in
theorem icmpWrites_5 (tos id fl pt ttl pr : Int) (a0 a1 a2 a3 a4 a5 a6 a7 : UInt8) (So : Option Addr) (no co : Nat) (lo : List UInt8) (Sb : Option Addr) (nb cb : Nat) (lb : List UInt8) (ty cd re : Int) (D : Option Addr) (nd qd : Nat) (ld : List UInt8) (w : World) (ho : Sl w So no co lo) (hb : Sl w Sb nb cb lb) (hD : Sl w D nd qd ld) (h1 : nb ≤ 1600) (h2 : no ≤ 60) (h3 : nd ≤ 1600) (e0 : 0 ≤ re) (e1 : re < 4294967296) (er : Int) (he : (icPut tos id fl pt ttl a0 a1 a2 a3 a4 a5 a6 a7 lo ty cd re ld).2.2 = er) (hz : er ≠ 0) : Calls Try.prog 5 #[.agg #[.int .i64 tos, .int .i64 id, .int .i64 fl, .int .i64 pt, .int .i64 ttl, .int .i64 pr, .int .u8 (a0.toNat : Int), .int .u8 (a1.toNat : Int), .int .u8 (a2.toNat : Int), .int .u8 (a3.toNat : Int), .int .u8 (a4.toNat : Int), .int .u8 (a5.toNat : Int), .int .u8 (a6.toNat : Int), .int .u8 (a7.toNat : Int), .slice So no co, .slice Sb nb cb], .agg #[.int .i64 ty, .int .i64 cd, .int .u32 re, .slice D nd qd]] w fun e w' => e = .returned (.bool true) ∧ Below w.heap.size w w' := by
  have t1 : decide ((1600 : Int) < nb) = false := decide_eq_false (by omega)
  have t2 : decide ((60 : Int) < no) = false := decide_eq_false (by omega)
  have t3 : decide ((1600 : Int) < nd) = false := decide_eq_false (by omega)
  have H2 := Lib.hid h2
  have H3 := Lib.hid h3
  have E0 := Lib.hid e0
  have E1 := Lib.hid e1
  clear h1 h2 h3 e0 e1
  have HE := Lib.hid he
  have t5 : (er == 0) = false := by simpa using hz
  have t6 : (er != 0) = true := by simpa using hz
  clear he hz
  have bel := Below.refl w.heap.size w
  go_enter Try.func5, Try.ntmps5
  go_wp2_with (first | ((with_reducible show wpList _ _ _ (⟨some 2, _, _, _, _, _⟩ :: _) _ _); refine wpList_box_n rfl 27 (.tmp 0) rfl #[.int .i64 tos, .int .i64 id, .int .i64 fl, .int .i64 pt, .int .i64 ttl, .int .i64 pr, .int .u8 (a0.toNat : Int), .int .u8 (a1.toNat : Int), .int .u8 (a2.toNat : Int), .int .u8 (a3.toNat : Int), .int .u8 (a4.toNat : Int), .int .u8 (a5.toNat : Int), .int .u8 (a6.toNat : Int), .int .u8 (a7.toNat : Int), .slice So no co, .slice Sb nb cb] rfl ?_; intro g2 w1 ge lt hh bb; have av_ho_p := ho.av_new ge; have av_hb_p := hb.av_new ge; have av_hD_p := hD.av_new ge; have op := Nat.le_trans bel.size ge; replace ho := ho.below bb; replace hb := hb.below bb; replace hD := hD.below bb; replace bel := bel.trans (bb.mono bel.size); have hp := hh; clear hh lt ge bb) | ((with_reducible show wpList _ _ _ (⟨some 3, _, _, _, _, _⟩ :: _) _ _); refine wpList_box_n rfl 34 (.tmp 1) rfl #[.int .i64 ty, .int .i64 cd, .int .u32 re, .slice D nd qd] rfl ?_; intro g3 w2 ge lt hh bb; have d_p_d := ne_new (hlt hp) ge; have av_ho_d := ho.av_new ge; have av_hb_d := hb.av_new ge; have av_hD_d := hD.av_new ge; have od := Nat.le_trans bel.size ge; replace hp := blk_u hp bb; replace ho := ho.below bb; replace hb := hb.below bb; replace hD := hD.below bb; replace bel := bel.trans (bb.mono bel.size); have hd := hh; clear hh lt ge bb))
  with_reducible refine (awake9 _).mono ?_
  rintro e w3 ⟨rfl, b3⟩
  replace hp := blk_u hp b3
  replace hd := blk_u hd b3
  replace ho := ho.below b3
  replace hb := hb.below b3
  replace hD := hD.below b3
  replace bel := bel.trans (b3.mono bel.size)
  clear b3
  have R14 := cell_lit hp 15 _ rfl
  have R19 := cell_lit hp 14 _ rfl
  have R25 := cell_lit hd 3 _ rfl
  have R30 := Lib.hid (range_lit hp 0 16 [.int .i64 tos, .int .i64 id, .int .i64 fl, .int .i64 pt, .int .i64 ttl, .int .i64 pr, .int .u8 (a0.toNat : Int), .int .u8 (a1.toNat : Int), .int .u8 (a2.toNat : Int), .int .u8 (a3.toNat : Int), .int .u8 (a4.toNat : Int), .int .u8 (a5.toNat : Int), .int .u8 (a6.toNat : Int), .int .u8 (a7.toNat : Int), .slice So no co, .slice Sb nb cb] rfl)
  go_wp2_with (first | ((with_reducible show wpList _ _ _ (⟨some 30, _, _, _, _, _⟩ :: _) _ _); refine wpList_load_rng 27 (.tmp 2) rfl (by kernel_rfl) _ _ rfl _ R30.out _ Try.underlying27 rfl (by kernel_rfl) ?_; have R31 := Lib.hid (range_lit hd 0 4 [.int .i64 ty, .int .i64 cd, .int .u32 re, .slice D nd qd] rfl)) | ((with_reducible show wpList _ _ _ (⟨some 31, _, _, _, _, _⟩ :: _) _ _); refine wpList_load_rng 34 (.tmp 3) rfl (by kernel_rfl) _ _ rfl _ R31.out _ Try.underlying34 rfl (by kernel_rfl) ?_))
  try clear R14
  try clear R19
  try clear R25
  try clear R30
  try clear R31
  with_reducible refine (icput_er _ _ _ _ _ _ _ _ _ _ _ _ _ _ _ _ _ _ _ _ _ _ _ _ _ _ _ _ _  ho hD (by have := H2.out; omega) E0.out E1.out).mono ?_
  rintro e w4 ⟨f01, f11, f21, f31, f41, f51, g01, g11, g21, g31, g41, g51, g61, g71, Ao1, m1, co1, Ab1, n1, cb1, rfl, b4⟩
  replace hp := blk_u hp b4
  replace hd := blk_u hd b4
  replace ho := ho.below b4
  replace hb := hb.below b4
  replace hD := hD.below b4
  replace bel := bel.trans (b4.mono bel.size)
  clear b4
  rw [HE.out]
  go_wp2_with (first | ((with_reducible show wpList _ _ _ (⟨some 5, _, _, _, _, _⟩ :: _) _ _); refine wpList_new_a rfl 27 rfl #[.int .i64 0, .int .i64 0, .int .i64 0, .int .i64 0, .int .i64 0, .int .i64 0, .int .u8 0, .int .u8 0, .int .u8 0, .int .u8 0, .int .u8 0, .int .u8 0, .int .u8 0, .int .u8 0, .slice none 0 0, .slice none 0 0] (by kernel_rfl) ?_; intro g5 w5 ge hh bb; have d_p_e := ne_new (hlt hp) ge; have d_d_e := ne_new (hlt hd) ge; have av_ho_e := ho.av_new ge; have av_hb_e := hb.av_new ge; have av_hD_e := hD.av_new ge; have oe := Nat.le_trans bel.size ge; replace hp := blk_u hp bb; replace hd := blk_u hd bb; replace ho := ho.below bb; replace hb := hb.below bb; replace hD := hD.below bb; replace bel := bel.trans (bb.mono bel.size); have he := hh; clear hh ge bb) | ((with_reducible show wpList _ _ _ (⟨none, Op.store _ (.tmp 5) _, _, _, _, _⟩ :: _) _ _); refine wpList_store_blk rfl 27 (.tmp 5) (.tmp 33) rfl g5 rfl _ rfl _ 27 he (by rfl) (by kernel_rfl) (by kernel_rfl) ?_; intro w6 hq gr; replace ho := ho.away av_ho_e gr; replace hb := hb.away av_hb_e gr; replace hD := hD.away av_hD_e gr; replace hp := blk_a hp gr d_p_e; replace hd := blk_a hd gr d_d_e; replace bel := below_grown bel gr oe bel.size; clear he; have he := hq; clear hq gr))
  go_cut [7, 8] from 9999 (fun s7 s8 W => ∃ g7 : Nat, ∃ f02 : Int, ∃ f12 : Int, ∃ f22 : Int, ∃ f32 : Int, ∃ f42 : Int, ∃ f52 : Int, ∃ g02 : UInt8, ∃ g12 : UInt8, ∃ g22 : UInt8, ∃ g32 : UInt8, ∃ g42 : UInt8, ∃ g52 : UInt8, ∃ g62 : UInt8, ∃ g72 : UInt8, ∃ Ao2 : Option Addr, ∃ m2 : Nat, ∃ co2 : Nat, ∃ Ab2 : Option Addr, ∃ n2 : Nat, ∃ cb2 : Nat, s7 = .pointer (some ⟨g7, 0, none⟩) ∧ s8 = .int .i64 er ∧ W.heap[g2]? = some (.cells #[.int .i64 tos, .int .i64 id, .int .i64 fl, .int .i64 pt, .int .i64 ttl, .int .i64 pr, .int .u8 (a0.toNat : Int), .int .u8 (a1.toNat : Int), .int .u8 (a2.toNat : Int), .int .u8 (a3.toNat : Int), .int .u8 (a4.toNat : Int), .int .u8 (a5.toNat : Int), .int .u8 (a6.toNat : Int), .int .u8 (a7.toNat : Int), .slice So no co, .slice Sb nb cb] 27 (0, 0)) ∧ W.heap[g3]? = some (.cells #[.int .i64 ty, .int .i64 cd, .int .u32 re, .slice D nd qd] 34 (0, 0)) ∧ W.heap[g5]? = some (.cells #[.int .i64 f01, .int .i64 f11, .int .i64 f21, .int .i64 f31, .int .i64 f41, .int .i64 f51, .int .u8 (g01.toNat : Int), .int .u8 (g11.toNat : Int), .int .u8 (g21.toNat : Int), .int .u8 (g31.toNat : Int), .int .u8 (g41.toNat : Int), .int .u8 (g51.toNat : Int), .int .u8 (g61.toNat : Int), .int .u8 (g71.toNat : Int), .slice Ao1 m1 co1, .slice Ab1 n1 cb1] 27 (0, 0)) ∧ W.heap[g7]? = some (.cells #[.int .i64 f02, .int .i64 f12, .int .i64 f22, .int .i64 f32, .int .i64 f42, .int .i64 f52, .int .u8 (g02.toNat : Int), .int .u8 (g12.toNat : Int), .int .u8 (g22.toNat : Int), .int .u8 (g32.toNat : Int), .int .u8 (g42.toNat : Int), .int .u8 (g52.toNat : Int), .int .u8 (g62.toNat : Int), .int .u8 (g72.toNat : Int), .slice Ao2 m2 co2, .slice Ab2 n2 cb2] 45 (0, 0)) ∧ w.heap.size ≤ g7 ∧ Hid (g3 ≠ g5) ∧ Hid (g3 ≠ g2) ∧ Hid (g3 ≠ g7) ∧ Hid (g5 ≠ g2) ∧ Hid (g5 ≠ g7) ∧ Hid (g2 ≠ g7) ∧ Sl W (So) (no) (co) (lo) ∧ Av (So) (no) g3 ∧ Av (So) (no) g5 ∧ Av (So) (no) g2 ∧ Av (So) (no) g7 ∧ Sl W (Sb) (nb) (cb) (lb) ∧ Av (Sb) (nb) g3 ∧ Av (Sb) (nb) g5 ∧ Av (Sb) (nb) g2 ∧ Av (Sb) (nb) g7 ∧ Sl W (D) (nd) (qd) (ld) ∧ Av (D) (nd) g3 ∧ Av (D) (nd) g5 ∧ Av (D) (nd) g2 ∧ Av (D) (nd) g7 ∧ Below w.heap.size w W)
  case first =>
    replace bel := bel.drew
    replace hp : w6.drew.heap[g2]? = _ := hp
    replace hd : w6.drew.heap[g3]? = _ := hd
    replace he : w6.drew.heap[g5]? = _ := he
    replace ho := ho.drew
    replace hb := hb.drew
    replace hD := hD.drew
    refine wp_region_held_drew (S := fun W => W.heap[g2]? = some (.cells #[.int .i64 tos, .int .i64 id, .int .i64 fl, .int .i64 pt, .int .i64 ttl, .int .i64 pr, .int .u8 (a0.toNat : Int), .int .u8 (a1.toNat : Int), .int .u8 (a2.toNat : Int), .int .u8 (a3.toNat : Int), .int .u8 (a4.toNat : Int), .int .u8 (a5.toNat : Int), .int .u8 (a6.toNat : Int), .int .u8 (a7.toNat : Int), .slice So no co, .slice Sb nb cb] 27 (0, 0)) ∧ W.heap[g3]? = some (.cells #[.int .i64 ty, .int .i64 cd, .int .u32 re, .slice D nd qd] 34 (0, 0))) (by kernel_rfl) ⟨hp, hd⟩ (fun hH => ?_)
    generalize w6.drew = w7 at bel hp hd he ho hb hD hH ⊢
    refine wpAnyH_take (i := 0) (v := .agg #[.int .i64 tos, .int .i64 id, .int .i64 fl, .int .i64 pt, .int .i64 ttl, .int .i64 pr, .int .u8 (a0.toNat : Int), .int .u8 (a1.toNat : Int), .int .u8 (a2.toNat : Int), .int .u8 (a3.toNat : Int), .int .u8 (a4.toNat : Int), .int .u8 (a5.toNat : Int), .int .u8 (a6.toNat : Int), .int .u8 (a7.toNat : Int), .slice So no co, .slice Sb nb cb]) rfl (by kernel_rfl) (by kernel_rfl) (by kernel_rfl) (fun _ _ _ h => h) (yieldsIf_load_part (by kernel_rfl) 27 _ rfl g2 0 16 rfl _ 27 (0, 0) (fun W hW => hW.1) _ rfl _ Try.underlying27 rfl (by kernel_rfl)) hH ?_
    simp only [Act.put, List.getElem_toArray, List.getElem_cons_zero, List.setIfInBounds_toArray, List.set_cons_zero, List.set_cons_succ]
    refine wpAnyH_take (i := 2) (v := .agg #[.int .i64 ty, .int .i64 cd, .int .u32 re, .slice D nd qd]) rfl (by kernel_rfl) (by kernel_rfl) (by kernel_rfl) (fun _ _ _ h => h) (yieldsIf_load_part (by kernel_rfl) 34 _ rfl g3 0 4 rfl _ 34 (0, 0) (fun W hW => hW.2) _ rfl _ Try.underlying34 rfl (by kernel_rfl)) hH ?_
    simp only [Act.put, List.getElem_toArray, List.getElem_cons_zero, List.getElem_cons_succ, List.setIfInBounds_toArray, List.set_cons_zero, List.set_cons_succ]
    refine wpAnyH_ready (rs := [1, 8]) (by kernel_rfl) (by simp) ?_
    refine AllReadyH.cons (o := _) rfl (fun K hK => ?_) (AllReadyH.cons (o := _) rfl (fun K hK => ?_) AllReadyH.nil)
    · simp only [List.getElem_toArray, List.getElem_cons_zero, List.getElem_cons_succ]
      go_simp
      with_reducible refine (own9_any _ _ _ _ _ _ _ _ _ _ _ _ _ _ _ _ _ _ _ _ _).mono ?_
      rintro e w8 ⟨rfl, b8⟩
      dsimp only
      replace hp := blk_u hp b8
      replace hd := blk_u hd b8
      replace he := blk_u he b8
      replace ho := ho.below b8
      replace hb := hb.below b8
      replace hD := hD.below b8
      replace bel := bel.trans (b8.mono bel.size)
      clear b8
      refine hK.out _ _ ⟨hp, hd⟩ (fun hH9 => ?_)
      clear hK K
      refine wpAnyH_ready (rs := [3, 8]) (by kernel_rfl) (by simp) ?_
      refine AllReadyH.cons (o := _) rfl (fun K hK => ?_) (AllReadyH.cons (o := _) rfl (fun K hK => ?_) AllReadyH.nil)
      · simp only [List.getElem_toArray, List.getElem_cons_zero, List.getElem_cons_succ]
        go_simp
        with_reducible refine (msg9_any _ _ _ _ _ _ _).mono ?_
        rintro e w10 ⟨rfl, b10⟩
        dsimp only
        replace hp := blk_u hp b10
        replace hd := blk_u hd b10
        replace he := blk_u he b10
        replace ho := ho.below b10
        replace hb := hb.below b10
        replace hD := hD.below b10
        replace bel := bel.trans (b10.mono bel.size)
        clear b10
        refine hK.out _ _ ⟨hp, hd⟩ (fun hH11 => ?_)
        clear hK K
        refine wpAnyH_ready (rs := [4, 8]) (by kernel_rfl) (by simp) ?_
        refine AllReadyH.cons (o := _) rfl (fun K hK => ?_) (AllReadyH.cons (o := _) rfl (fun K hK => ?_) AllReadyH.nil)
        · simp only [List.getElem_toArray, List.getElem_cons_zero, List.getElem_cons_succ]
          go_simp
          with_reducible refine (ricput_er _ _ _ _ _ _ _ _ _ _ _ _ _ _ _ _ _ _ _ _ _ _ _ _ _ _ _ _ _  ho hD (by have := H2.out; omega) E0.out E1.out).mono ?_
          rintro e w12 ⟨f02, f12, f22, f32, f42, f52, g02, g12, g22, g32, g42, g52, g62, g72, Ao2, m2, co2, Ab2, n2, cb2, rfl, b12⟩
          dsimp only
          replace hp := blk_u hp b12
          replace hd := blk_u hd b12
          replace he := blk_u he b12
          replace ho := ho.below b12
          replace hb := hb.below b12
          replace hD := hD.below b12
          replace bel := bel.trans (b12.mono bel.size)
          clear b12
          rw [HE.out]
          refine hK.out _ _ ⟨hp, hd⟩ (fun hH13 => ?_)
          clear hK K
          refine wpAnyH_take (i := 5) (v := ?_) rfl (by kernel_rfl) (by kernel_rfl) (by kernel_rfl) (fun _ _ _ h => h) (Or.inl ⟨by rfl, ?_⟩) hH13 ?_
          rotate_left
          · ((intro W hW; clear hW; go_simp) <;> with_reducible rfl)
          simp only [Act.put, List.getElem_toArray, List.getElem_cons_zero, List.getElem_cons_succ, List.setIfInBounds_toArray, List.set_cons_zero, List.set_cons_succ]
          refine wpAnyH_take (i := 6) (v := ?_) rfl (by kernel_rfl) (by kernel_rfl) (by kernel_rfl) (fun _ _ _ h => h) (Or.inl ⟨by rfl, ?_⟩) hH13 ?_
          rotate_left
          · ((intro W hW; clear hW; go_simp) <;> with_reducible rfl)
          simp only [Act.put, List.getElem_toArray, List.getElem_cons_zero, List.getElem_cons_succ, List.setIfInBounds_toArray, List.set_cons_zero, List.set_cons_succ]
          refine wpAnyH_take (i := 7) (v := ?_) rfl (by kernel_rfl) (by kernel_rfl) (by kernel_rfl) (fun _ _ _ h => h) (Or.inl ⟨by rfl, ?_⟩) hH13 ?_
          rotate_left
          · ((intro W hW; clear hW; go_simp) <;> with_reducible rfl)
          simp only [Act.put, List.getElem_toArray, List.getElem_cons_zero, List.getElem_cons_succ, List.setIfInBounds_toArray, List.set_cons_zero, List.set_cons_succ]
          refine wpAnyH_ready (rs := [8]) (by kernel_rfl) (by simp) ?_
          refine AllReadyH.cons (o := _) rfl (fun K hK => ?_) AllReadyH.nil
          simp only [List.getElem_toArray, List.getElem_cons_zero, List.getElem_cons_succ]
          rw [if_pos (by rfl)]
          refine wp_new_a 45 rfl #[.int .i64 0, .int .i64 0, .int .i64 0, .int .i64 0, .int .i64 0, .int .i64 0, .int .u8 0, .int .u8 0, .int .u8 0, .int .u8 0, .int .u8 0, .int .u8 0, .int .u8 0, .int .u8 0, .slice none 0 0, .slice none 0 0] (by kernel_rfl) ?_
          intro g7 w14 ge hh bb
          have d_p_r := ne_new (hlt hp) ge
          have d_d_r := ne_new (hlt hd) ge
          have d_e_r := ne_new (hlt he) ge
          have av_ho_r := ho.av_new ge
          have av_hb_r := hb.av_new ge
          have av_hD_r := hD.av_new ge
          have or := Nat.le_trans bel.size ge
          replace hp := blk_u hp bb
          replace hd := blk_u hd bb
          replace he := blk_u he bb
          replace ho := ho.below bb
          replace hb := hb.below bb
          replace hD := hD.below bb
          replace bel := bel.trans (bb.mono bel.size)
          have hr := hh
          clear hh ge bb
          refine hK.out _ _ ⟨hp, hd⟩ (fun hH15 => ?_)
          clear hK K
          simp only [Act.put, List.setIfInBounds_toArray, List.set_cons_zero, List.set_cons_succ]
          refine wpAnyH_ready (rs := [9]) (by kernel_rfl) (by simp) ?_
          refine AllReadyH.cons (o := _) rfl (fun K hK => ?_) AllReadyH.nil
          simp only [List.getElem_toArray, List.getElem_cons_zero, List.getElem_cons_succ]
          rw [if_pos (by rfl)]
          refine wp_store_blk 45 (.tmp 7) (.tmp 41) rfl g7 rfl _ rfl _ 45 hr (by rfl) (by kernel_rfl) (by kernel_rfl) ?_
          intro w16 hq gr
          replace ho := ho.away av_ho_r gr
          replace hb := hb.away av_hb_r gr
          replace hD := hD.away av_hD_r gr
          replace hp := blk_a hp gr d_p_r
          replace hd := blk_a hd gr d_d_r
          replace he := blk_a he gr d_e_r
          replace bel := below_grown bel gr or bel.size
          clear hr
          have hr := hq
          clear hq gr
          refine hK.out _ _ ⟨hp, hd⟩ (fun hH17 => ?_)
          clear hK K
          simp only [Act.put]
          refine wpAnyH_take (i := 10) (v := ?_) rfl (by kernel_rfl) (by kernel_rfl) (by kernel_rfl) (fun _ _ _ h => h) (Or.inl ⟨by rfl, ?_⟩) hH17 ?_
          rotate_left
          · ((intro W hW; clear hW; go_simp) <;> with_reducible rfl)
          simp only [Act.put, List.getElem_toArray, List.getElem_cons_zero, List.getElem_cons_succ, List.setIfInBounds_toArray, List.set_cons_zero, List.set_cons_succ]
          refine wpAnyH_done (by kernel_rfl) ?_ _
          go_wp2_with fail
          go_meet
          case rel => exact ⟨g7, f02, f12, f22, f32, f42, f52, g02, g12, g22, g32, g42, g52, g62, g72, Ao2, m2, co2, Ab2, n2, cb2, rfl, rfl, hp, hd, he, hr, or, d_d_e, (ne_symm d_p_d), d_d_r, (ne_symm d_p_e), d_e_r, d_p_r, ho, av_ho_d, av_ho_e, av_ho_p, av_ho_r, hb, av_hb_d, av_hb_e, av_hb_p, av_hb_r, hD, av_hD_d, av_hD_e, av_hD_p, av_hD_r, bel⟩
        · simp only [List.getElem_toArray, List.getElem_cons_zero, List.getElem_cons_succ]
          rw [if_pos (by rfl)]
          refine wp_new_a 45 rfl #[.int .i64 0, .int .i64 0, .int .i64 0, .int .i64 0, .int .i64 0, .int .i64 0, .int .u8 0, .int .u8 0, .int .u8 0, .int .u8 0, .int .u8 0, .int .u8 0, .int .u8 0, .int .u8 0, .slice none 0 0, .slice none 0 0] (by kernel_rfl) ?_
          intro g7 w12 ge hh bb
          have d_p_r := ne_new (hlt hp) ge
          have d_d_r := ne_new (hlt hd) ge
          have d_e_r := ne_new (hlt he) ge
          have av_ho_r := ho.av_new ge
          have av_hb_r := hb.av_new ge
          have av_hD_r := hD.av_new ge
          have or := Nat.le_trans bel.size ge
          replace hp := blk_u hp bb
          replace hd := blk_u hd bb
          replace he := blk_u he bb
          replace ho := ho.below bb
          replace hb := hb.below bb
          replace hD := hD.below bb
          replace bel := bel.trans (bb.mono bel.size)
          have hr := hh
          clear hh ge bb
          refine hK.out _ _ ⟨hp, hd⟩ (fun hH13 => ?_)
          clear hK K
          simp only [Act.put, List.setIfInBounds_toArray, List.set_cons_zero, List.set_cons_succ]
          refine wpAnyH_ready (rs := [4]) (by kernel_rfl) (by simp) ?_
          refine AllReadyH.cons (o := _) rfl (fun K hK => ?_) AllReadyH.nil
          simp only [List.getElem_toArray, List.getElem_cons_zero, List.getElem_cons_succ]
          go_simp
          with_reducible refine (ricput_er _ _ _ _ _ _ _ _ _ _ _ _ _ _ _ _ _ _ _ _ _ _ _ _ _ _ _ _ _  ho hD (by have := H2.out; omega) E0.out E1.out).mono ?_
          rintro e w14 ⟨f02, f12, f22, f32, f42, f52, g02, g12, g22, g32, g42, g52, g62, g72, Ao2, m2, co2, Ab2, n2, cb2, rfl, b14⟩
          dsimp only
          replace hp := blk_u hp b14
          replace hd := blk_u hd b14
          replace he := blk_u he b14
          replace hr := blk_u hr b14
          replace ho := ho.below b14
          replace hb := hb.below b14
          replace hD := hD.below b14
          replace bel := bel.trans (b14.mono bel.size)
          clear b14
          rw [HE.out]
          refine hK.out _ _ ⟨hp, hd⟩ (fun hH15 => ?_)
          clear hK K
          refine wpAnyH_take (i := 5) (v := ?_) rfl (by kernel_rfl) (by kernel_rfl) (by kernel_rfl) (fun _ _ _ h => h) (Or.inl ⟨by rfl, ?_⟩) hH15 ?_
          rotate_left
          · ((intro W hW; clear hW; go_simp) <;> with_reducible rfl)
          simp only [Act.put, List.getElem_toArray, List.getElem_cons_zero, List.getElem_cons_succ, List.setIfInBounds_toArray, List.set_cons_zero, List.set_cons_succ]
          refine wpAnyH_take (i := 6) (v := ?_) rfl (by kernel_rfl) (by kernel_rfl) (by kernel_rfl) (fun _ _ _ h => h) (Or.inl ⟨by rfl, ?_⟩) hH15 ?_
          rotate_left
          · ((intro W hW; clear hW; go_simp) <;> with_reducible rfl)
          simp only [Act.put, List.getElem_toArray, List.getElem_cons_zero, List.getElem_cons_succ, List.setIfInBounds_toArray, List.set_cons_zero, List.set_cons_succ]
          refine wpAnyH_take (i := 7) (v := ?_) rfl (by kernel_rfl) (by kernel_rfl) (by kernel_rfl) (fun _ _ _ h => h) (Or.inl ⟨by rfl, ?_⟩) hH15 ?_
          rotate_left
          · ((intro W hW; clear hW; go_simp) <;> with_reducible rfl)
          simp only [Act.put, List.getElem_toArray, List.getElem_cons_zero, List.getElem_cons_succ, List.setIfInBounds_toArray, List.set_cons_zero, List.set_cons_succ]
          refine wpAnyH_ready (rs := [9]) (by kernel_rfl) (by simp) ?_
          refine AllReadyH.cons (o := _) rfl (fun K hK => ?_) AllReadyH.nil
          simp only [List.getElem_toArray, List.getElem_cons_zero, List.getElem_cons_succ]
          rw [if_pos (by rfl)]
          refine wp_store_blk 45 (.tmp 7) (.tmp 41) rfl g7 rfl _ rfl _ 45 hr (by rfl) (by kernel_rfl) (by kernel_rfl) ?_
          intro w16 hq gr
          replace ho := ho.away av_ho_r gr
          replace hb := hb.away av_hb_r gr
          replace hD := hD.away av_hD_r gr
          replace hp := blk_a hp gr d_p_r
          replace hd := blk_a hd gr d_d_r
          replace he := blk_a he gr d_e_r
          replace bel := below_grown bel gr or bel.size
          clear hr
          have hr := hq
          clear hq gr
          refine hK.out _ _ ⟨hp, hd⟩ (fun hH17 => ?_)
          clear hK K
          simp only [Act.put]
          refine wpAnyH_take (i := 10) (v := ?_) rfl (by kernel_rfl) (by kernel_rfl) (by kernel_rfl) (fun _ _ _ h => h) (Or.inl ⟨by rfl, ?_⟩) hH17 ?_
          rotate_left
          · ((intro W hW; clear hW; go_simp) <;> with_reducible rfl)
          simp only [Act.put, List.getElem_toArray, List.getElem_cons_zero, List.getElem_cons_succ, List.setIfInBounds_toArray, List.set_cons_zero, List.set_cons_succ]
          refine wpAnyH_done (by kernel_rfl) ?_ _
          go_wp2_with fail
          go_meet
          case rel => exact ⟨g7, f02, f12, f22, f32, f42, f52, g02, g12, g22, g32, g42, g52, g62, g72, Ao2, m2, co2, Ab2, n2, cb2, rfl, rfl, hp, hd, he, hr, or, d_d_e, (ne_symm d_p_d), d_d_r, (ne_symm d_p_e), d_e_r, d_p_r, ho, av_ho_d, av_ho_e, av_ho_p, av_ho_r, hb, av_hb_d, av_hb_e, av_hb_p, av_hb_r, hD, av_hD_d, av_hD_e, av_hD_p, av_hD_r, bel⟩
      · simp only [List.getElem_toArray, List.getElem_cons_zero, List.getElem_cons_succ]
        rw [if_pos (by rfl)]
        refine wp_new_a 45 rfl #[.int .i64 0, .int .i64 0, .int .i64 0, .int .i64 0, .int .i64 0, .int .i64 0, .int .u8 0, .int .u8 0, .int .u8 0, .int .u8 0, .int .u8 0, .int .u8 0, .int .u8 0, .int .u8 0, .slice none 0 0, .slice none 0 0] (by kernel_rfl) ?_
        intro g7 w10 ge hh bb
        have d_p_r := ne_new (hlt hp) ge
        have d_d_r := ne_new (hlt hd) ge
        have d_e_r := ne_new (hlt he) ge
        have av_ho_r := ho.av_new ge
        have av_hb_r := hb.av_new ge
        have av_hD_r := hD.av_new ge
        have or := Nat.le_trans bel.size ge
        replace hp := blk_u hp bb
        replace hd := blk_u hd bb
        replace he := blk_u he bb
        replace ho := ho.below bb
        replace hb := hb.below bb
        replace hD := hD.below bb
        replace bel := bel.trans (bb.mono bel.size)
        have hr := hh
        clear hh ge bb
        refine hK.out _ _ ⟨hp, hd⟩ (fun hH11 => ?_)
        clear hK K
        simp only [Act.put, List.setIfInBounds_toArray, List.set_cons_zero, List.set_cons_succ]
        refine wpAnyH_ready (rs := [3]) (by kernel_rfl) (by simp) ?_
        refine AllReadyH.cons (o := _) rfl (fun K hK => ?_) AllReadyH.nil
        simp only [List.getElem_toArray, List.getElem_cons_zero, List.getElem_cons_succ]
        go_simp
        with_reducible refine (msg9_any _ _ _ _ _ _ _).mono ?_
        rintro e w12 ⟨rfl, b12⟩
        dsimp only
        replace hp := blk_u hp b12
        replace hd := blk_u hd b12
        replace he := blk_u he b12
        replace hr := blk_u hr b12
        replace ho := ho.below b12
        replace hb := hb.below b12
        replace hD := hD.below b12
        replace bel := bel.trans (b12.mono bel.size)
        clear b12
        refine hK.out _ _ ⟨hp, hd⟩ (fun hH13 => ?_)
        clear hK K
        refine wpAnyH_ready (rs := [4]) (by kernel_rfl) (by simp) ?_
        refine AllReadyH.cons (o := _) rfl (fun K hK => ?_) AllReadyH.nil
        simp only [List.getElem_toArray, List.getElem_cons_zero, List.getElem_cons_succ]
        go_simp
        with_reducible refine (ricput_er _ _ _ _ _ _ _ _ _ _ _ _ _ _ _ _ _ _ _ _ _ _ _ _ _ _ _ _ _  ho hD (by have := H2.out; omega) E0.out E1.out).mono ?_
        rintro e w14 ⟨f02, f12, f22, f32, f42, f52, g02, g12, g22, g32, g42, g52, g62, g72, Ao2, m2, co2, Ab2, n2, cb2, rfl, b14⟩
        dsimp only
        replace hp := blk_u hp b14
        replace hd := blk_u hd b14
        replace he := blk_u he b14
        replace hr := blk_u hr b14
        replace ho := ho.below b14
        replace hb := hb.below b14
        replace hD := hD.below b14
        replace bel := bel.trans (b14.mono bel.size)
        clear b14
        rw [HE.out]
        refine hK.out _ _ ⟨hp, hd⟩ (fun hH15 => ?_)
        clear hK K
        refine wpAnyH_take (i := 5) (v := ?_) rfl (by kernel_rfl) (by kernel_rfl) (by kernel_rfl) (fun _ _ _ h => h) (Or.inl ⟨by rfl, ?_⟩) hH15 ?_
        rotate_left
        · ((intro W hW; clear hW; go_simp) <;> with_reducible rfl)
        simp only [Act.put, List.getElem_toArray, List.getElem_cons_zero, List.getElem_cons_succ, List.setIfInBounds_toArray, List.set_cons_zero, List.set_cons_succ]
        refine wpAnyH_take (i := 6) (v := ?_) rfl (by kernel_rfl) (by kernel_rfl) (by kernel_rfl) (fun _ _ _ h => h) (Or.inl ⟨by rfl, ?_⟩) hH15 ?_
        rotate_left
        · ((intro W hW; clear hW; go_simp) <;> with_reducible rfl)
        simp only [Act.put, List.getElem_toArray, List.getElem_cons_zero, List.getElem_cons_succ, List.setIfInBounds_toArray, List.set_cons_zero, List.set_cons_succ]
        refine wpAnyH_take (i := 7) (v := ?_) rfl (by kernel_rfl) (by kernel_rfl) (by kernel_rfl) (fun _ _ _ h => h) (Or.inl ⟨by rfl, ?_⟩) hH15 ?_
        rotate_left
        · ((intro W hW; clear hW; go_simp) <;> with_reducible rfl)
        simp only [Act.put, List.getElem_toArray, List.getElem_cons_zero, List.getElem_cons_succ, List.setIfInBounds_toArray, List.set_cons_zero, List.set_cons_succ]
        refine wpAnyH_ready (rs := [9]) (by kernel_rfl) (by simp) ?_
        refine AllReadyH.cons (o := _) rfl (fun K hK => ?_) AllReadyH.nil
        simp only [List.getElem_toArray, List.getElem_cons_zero, List.getElem_cons_succ]
        rw [if_pos (by rfl)]
        refine wp_store_blk 45 (.tmp 7) (.tmp 41) rfl g7 rfl _ rfl _ 45 hr (by rfl) (by kernel_rfl) (by kernel_rfl) ?_
        intro w16 hq gr
        replace ho := ho.away av_ho_r gr
        replace hb := hb.away av_hb_r gr
        replace hD := hD.away av_hD_r gr
        replace hp := blk_a hp gr d_p_r
        replace hd := blk_a hd gr d_d_r
        replace he := blk_a he gr d_e_r
        replace bel := below_grown bel gr or bel.size
        clear hr
        have hr := hq
        clear hq gr
        refine hK.out _ _ ⟨hp, hd⟩ (fun hH17 => ?_)
        clear hK K
        simp only [Act.put]
        refine wpAnyH_take (i := 10) (v := ?_) rfl (by kernel_rfl) (by kernel_rfl) (by kernel_rfl) (fun _ _ _ h => h) (Or.inl ⟨by rfl, ?_⟩) hH17 ?_
        rotate_left
        · ((intro W hW; clear hW; go_simp) <;> with_reducible rfl)
        simp only [Act.put, List.getElem_toArray, List.getElem_cons_zero, List.getElem_cons_succ, List.setIfInBounds_toArray, List.set_cons_zero, List.set_cons_succ]
        refine wpAnyH_done (by kernel_rfl) ?_ _
        go_wp2_with fail
        go_meet
        case rel => exact ⟨g7, f02, f12, f22, f32, f42, f52, g02, g12, g22, g32, g42, g52, g62, g72, Ao2, m2, co2, Ab2, n2, cb2, rfl, rfl, hp, hd, he, hr, or, d_d_e, (ne_symm d_p_d), d_d_r, (ne_symm d_p_e), d_e_r, d_p_r, ho, av_ho_d, av_ho_e, av_ho_p, av_ho_r, hb, av_hb_d, av_hb_e, av_hb_p, av_hb_r, hD, av_hD_d, av_hD_e, av_hD_p, av_hD_r, bel⟩
    · simp only [List.getElem_toArray, List.getElem_cons_zero, List.getElem_cons_succ]
      rw [if_pos (by rfl)]
      refine wp_new_a 45 rfl #[.int .i64 0, .int .i64 0, .int .i64 0, .int .i64 0, .int .i64 0, .int .i64 0, .int .u8 0, .int .u8 0, .int .u8 0, .int .u8 0, .int .u8 0, .int .u8 0, .int .u8 0, .int .u8 0, .slice none 0 0, .slice none 0 0] (by kernel_rfl) ?_
      intro g7 w8 ge hh bb
      have d_p_r := ne_new (hlt hp) ge
      have d_d_r := ne_new (hlt hd) ge
      have d_e_r := ne_new (hlt he) ge
      have av_ho_r := ho.av_new ge
      have av_hb_r := hb.av_new ge
      have av_hD_r := hD.av_new ge
      have or := Nat.le_trans bel.size ge
      replace hp := blk_u hp bb
      replace hd := blk_u hd bb
      replace he := blk_u he bb
      replace ho := ho.below bb
      replace hb := hb.below bb
      replace hD := hD.below bb
      replace bel := bel.trans (bb.mono bel.size)
      have hr := hh
      clear hh ge bb
      refine hK.out _ _ ⟨hp, hd⟩ (fun hH9 => ?_)
      clear hK K
      simp only [Act.put, List.setIfInBounds_toArray, List.set_cons_zero, List.set_cons_succ]
      refine wpAnyH_ready (rs := [1]) (by kernel_rfl) (by simp) ?_
      refine AllReadyH.cons (o := _) rfl (fun K hK => ?_) AllReadyH.nil
      simp only [List.getElem_toArray, List.getElem_cons_zero, List.getElem_cons_succ]
      go_simp
      with_reducible refine (own9_any _ _ _ _ _ _ _ _ _ _ _ _ _ _ _ _ _ _ _ _ _).mono ?_
      rintro e w10 ⟨rfl, b10⟩
      dsimp only
      replace hp := blk_u hp b10
      replace hd := blk_u hd b10
      replace he := blk_u he b10
      replace hr := blk_u hr b10
      replace ho := ho.below b10
      replace hb := hb.below b10
      replace hD := hD.below b10
      replace bel := bel.trans (b10.mono bel.size)
      clear b10
      refine hK.out _ _ ⟨hp, hd⟩ (fun hH11 => ?_)
      clear hK K
      refine wpAnyH_ready (rs := [3]) (by kernel_rfl) (by simp) ?_
      refine AllReadyH.cons (o := _) rfl (fun K hK => ?_) AllReadyH.nil
      simp only [List.getElem_toArray, List.getElem_cons_zero, List.getElem_cons_succ]
      go_simp
      with_reducible refine (msg9_any _ _ _ _ _ _ _).mono ?_
      rintro e w12 ⟨rfl, b12⟩
      dsimp only
      replace hp := blk_u hp b12
      replace hd := blk_u hd b12
      replace he := blk_u he b12
      replace hr := blk_u hr b12
      replace ho := ho.below b12
      replace hb := hb.below b12
      replace hD := hD.below b12
      replace bel := bel.trans (b12.mono bel.size)
      clear b12
      refine hK.out _ _ ⟨hp, hd⟩ (fun hH13 => ?_)
      clear hK K
      refine wpAnyH_ready (rs := [4]) (by kernel_rfl) (by simp) ?_
      refine AllReadyH.cons (o := _) rfl (fun K hK => ?_) AllReadyH.nil
      simp only [List.getElem_toArray, List.getElem_cons_zero, List.getElem_cons_succ]
      go_simp
      with_reducible refine (ricput_er _ _ _ _ _ _ _ _ _ _ _ _ _ _ _ _ _ _ _ _ _ _ _ _ _ _ _ _ _  ho hD (by have := H2.out; omega) E0.out E1.out).mono ?_
      rintro e w14 ⟨f02, f12, f22, f32, f42, f52, g02, g12, g22, g32, g42, g52, g62, g72, Ao2, m2, co2, Ab2, n2, cb2, rfl, b14⟩
      dsimp only
      replace hp := blk_u hp b14
      replace hd := blk_u hd b14
      replace he := blk_u he b14
      replace hr := blk_u hr b14
      replace ho := ho.below b14
      replace hb := hb.below b14
      replace hD := hD.below b14
      replace bel := bel.trans (b14.mono bel.size)
      clear b14
      rw [HE.out]
      refine hK.out _ _ ⟨hp, hd⟩ (fun hH15 => ?_)
      clear hK K
      refine wpAnyH_take (i := 5) (v := ?_) rfl (by kernel_rfl) (by kernel_rfl) (by kernel_rfl) (fun _ _ _ h => h) (Or.inl ⟨by rfl, ?_⟩) hH15 ?_
      rotate_left
      · ((intro W hW; clear hW; go_simp) <;> with_reducible rfl)
      simp only [Act.put, List.getElem_toArray, List.getElem_cons_zero, List.getElem_cons_succ, List.setIfInBounds_toArray, List.set_cons_zero, List.set_cons_succ]
      refine wpAnyH_take (i := 6) (v := ?_) rfl (by kernel_rfl) (by kernel_rfl) (by kernel_rfl) (fun _ _ _ h => h) (Or.inl ⟨by rfl, ?_⟩) hH15 ?_
      rotate_left
      · ((intro W hW; clear hW; go_simp) <;> with_reducible rfl)
      simp only [Act.put, List.getElem_toArray, List.getElem_cons_zero, List.getElem_cons_succ, List.setIfInBounds_toArray, List.set_cons_zero, List.set_cons_succ]
      refine wpAnyH_take (i := 7) (v := ?_) rfl (by kernel_rfl) (by kernel_rfl) (by kernel_rfl) (fun _ _ _ h => h) (Or.inl ⟨by rfl, ?_⟩) hH15 ?_
      rotate_left
      · ((intro W hW; clear hW; go_simp) <;> with_reducible rfl)
      simp only [Act.put, List.getElem_toArray, List.getElem_cons_zero, List.getElem_cons_succ, List.setIfInBounds_toArray, List.set_cons_zero, List.set_cons_succ]
      refine wpAnyH_ready (rs := [9]) (by kernel_rfl) (by simp) ?_
      refine AllReadyH.cons (o := _) rfl (fun K hK => ?_) AllReadyH.nil
      simp only [List.getElem_toArray, List.getElem_cons_zero, List.getElem_cons_succ]
      rw [if_pos (by rfl)]
      refine wp_store_blk 45 (.tmp 7) (.tmp 41) rfl g7 rfl _ rfl _ 45 hr (by rfl) (by kernel_rfl) (by kernel_rfl) ?_
      intro w16 hq gr
      replace ho := ho.away av_ho_r gr
      replace hb := hb.away av_hb_r gr
      replace hD := hD.away av_hD_r gr
      replace hp := blk_a hp gr d_p_r
      replace hd := blk_a hd gr d_d_r
      replace he := blk_a he gr d_e_r
      replace bel := below_grown bel gr or bel.size
      clear hr
      have hr := hq
      clear hq gr
      refine hK.out _ _ ⟨hp, hd⟩ (fun hH17 => ?_)
      clear hK K
      simp only [Act.put]
      refine wpAnyH_take (i := 10) (v := ?_) rfl (by kernel_rfl) (by kernel_rfl) (by kernel_rfl) (fun _ _ _ h => h) (Or.inl ⟨by rfl, ?_⟩) hH17 ?_
      rotate_left
      · ((intro W hW; clear hW; go_simp) <;> with_reducible rfl)
      simp only [Act.put, List.getElem_toArray, List.getElem_cons_zero, List.getElem_cons_succ, List.setIfInBounds_toArray, List.set_cons_zero, List.set_cons_succ]
      refine wpAnyH_done (by kernel_rfl) ?_ _
      go_wp2_with fail
      go_meet
      case rel => exact ⟨g7, f02, f12, f22, f32, f42, f52, g02, g12, g22, g32, g42, g52, g62, g72, Ao2, m2, co2, Ab2, n2, cb2, rfl, rfl, hp, hd, he, hr, or, d_d_e, (ne_symm d_p_d), d_d_r, (ne_symm d_p_e), d_e_r, d_p_r, ho, av_ho_d, av_ho_e, av_ho_p, av_ho_r, hb, av_hb_d, av_hb_e, av_hb_p, av_hb_r, hD, av_hD_d, av_hD_e, av_hD_p, av_hD_r, bel⟩
  obtain ⟨w18, hw_⟩ : ∃ x, x = wc := ⟨_, rfl⟩
  subst hw_
  obtain ⟨g7, f02, f12, f22, f32, f42, f52, g02, g12, g22, g32, g42, g52, g62, g72, Ao2, m2, co2, Ab2, n2, cb2, rfl, rfl, hp, hd, he, hr, or, d_d_e, d_d_p, d_d_r, d_e_p, d_e_r, d_p_r, ho, av_ho_d, av_ho_e, av_ho_p, av_ho_r, hb, av_hb_d, av_hb_e, av_hb_p, av_hb_r, hD, av_hD_d, av_hD_e, av_hD_p, av_hD_r, bel⟩ := hcut
  go_wp2_with fail
  replace bel := bel.drew
  replace hp : w18.drew.heap[g2]? = _ := hp
  replace hd : w18.drew.heap[g3]? = _ := hd
  replace he : w18.drew.heap[g5]? = _ := he
  replace hr : w18.drew.heap[g7]? = _ := hr
  replace ho := ho.drew
  replace hb := hb.drew
  replace hD := hD.drew
  refine wp_region_held_drew (S := fun W => W.heap[g5]? = some (.cells #[.int .i64 f01, .int .i64 f11, .int .i64 f21, .int .i64 f31, .int .i64 f41, .int .i64 f51, .int .u8 (g01.toNat : Int), .int .u8 (g11.toNat : Int), .int .u8 (g21.toNat : Int), .int .u8 (g31.toNat : Int), .int .u8 (g41.toNat : Int), .int .u8 (g51.toNat : Int), .int .u8 (g61.toNat : Int), .int .u8 (g71.toNat : Int), .slice Ao1 m1 co1, .slice Ab1 n1 cb1] 27 (0, 0)) ∧ W.heap[g7]? = some (.cells #[.int .i64 f02, .int .i64 f12, .int .i64 f22, .int .i64 f32, .int .i64 f42, .int .i64 f52, .int .u8 (g02.toNat : Int), .int .u8 (g12.toNat : Int), .int .u8 (g22.toNat : Int), .int .u8 (g32.toNat : Int), .int .u8 (g42.toNat : Int), .int .u8 (g52.toNat : Int), .int .u8 (g62.toNat : Int), .int .u8 (g72.toNat : Int), .slice Ao2 m2 co2, .slice Ab2 n2 cb2] 45 (0, 0))) (by kernel_rfl) ⟨he, hr⟩ (fun hH => ?_)
  generalize w18.drew = w19 at bel hp hd he hr ho hb hD hH ⊢
  refine wpAnyH_take (i := 0) (v := ?_) rfl (by kernel_rfl) (by kernel_rfl) (by kernel_rfl) (fun _ _ _ h => h) (Or.inl ⟨by rfl, ?_⟩) hH ?_
  rotate_left
  · ((intro W hW; clear hW; go_simp) <;> with_reducible rfl)
  simp only [Act.put, List.getElem_toArray, List.getElem_cons_zero, List.setIfInBounds_toArray, List.set_cons_zero, List.set_cons_succ]
  refine wpAnyH_take (i := 1) (v := ?_) rfl (by kernel_rfl) (by kernel_rfl) (by kernel_rfl) (fun _ _ _ h => h) (Or.inl ⟨by rfl, ?_⟩) hH ?_
  rotate_left
  · ((intro W hW; clear hW; go_simp) <;> with_reducible rfl)
  simp only [Act.put, List.getElem_toArray, List.getElem_cons_zero, List.getElem_cons_succ, List.setIfInBounds_toArray, List.set_cons_zero, List.set_cons_succ]
  refine wpAnyH_take (i := 2) (v := ?_) rfl (by kernel_rfl) (by kernel_rfl) (by kernel_rfl) (fun _ _ _ h => h) (Or.inl ⟨by rfl, ?_⟩) hH ?_
  rotate_left
  · ((intro W hW; clear hW; go_simp) <;> with_reducible rfl)
  simp only [Act.put, List.getElem_toArray, List.getElem_cons_zero, List.getElem_cons_succ, List.setIfInBounds_toArray, List.set_cons_zero, List.set_cons_succ]
  refine wpAnyH_take (i := 3) (v := ?_) rfl (by kernel_rfl) (by kernel_rfl) (by kernel_rfl) (fun _ _ _ h => h) (Or.inl ⟨by rfl, ?_⟩) hH ?_
  rotate_left
  · ((intro W hW; clear hW; go_simp) <;> with_reducible rfl)
  simp only [Act.put, List.getElem_toArray, List.getElem_cons_zero, List.getElem_cons_succ, List.setIfInBounds_toArray, List.set_cons_zero, List.set_cons_succ]
  refine wpAnyH_take (i := 4) (v := ?_) rfl (by kernel_rfl) (by kernel_rfl) (by kernel_rfl) (fun _ _ _ h => h) (Or.inl ⟨by rfl, ?_⟩) hH ?_
  rotate_left
  · ((intro W hW; clear hW; go_simp) <;> with_reducible rfl)
  simp only [Act.put, List.getElem_toArray, List.getElem_cons_zero, List.getElem_cons_succ, List.setIfInBounds_toArray, List.set_cons_zero, List.set_cons_succ]
  refine wpAnyH_take (i := 5) (v := ?_) rfl (by kernel_rfl) (by kernel_rfl) (by kernel_rfl) (fun _ _ _ h => h) (Or.inl ⟨by rfl, ?_⟩) hH ?_
  rotate_left
  · ((intro W hW; clear hW; go_simp) <;> with_reducible rfl)
  simp only [Act.put, List.getElem_toArray, List.getElem_cons_zero, List.getElem_cons_succ, List.setIfInBounds_toArray, List.set_cons_zero, List.set_cons_succ]
  refine wpAnyH_take (i := 6) (v := ?_) rfl (by kernel_rfl) (by kernel_rfl) (by kernel_rfl) (fun _ _ _ h => h) (Or.inl ⟨by rfl, ?_⟩) hH ?_
  rotate_left
  · ((intro W hW; clear hW; go_simp) <;> with_reducible rfl)
  simp only [Act.put, List.getElem_toArray, List.getElem_cons_zero, List.getElem_cons_succ, List.setIfInBounds_toArray, List.set_cons_zero, List.set_cons_succ]
  refine wpAnyH_take (i := 7) (v := undef) rfl (by kernel_rfl) (by kernel_rfl) (by kernel_rfl) (fun _ _ _ h => h) (Or.inr ⟨by rfl, rfl⟩) hH ?_
  simp only [Act.put, List.getElem_toArray, List.getElem_cons_zero, List.getElem_cons_succ, List.setIfInBounds_toArray, List.set_cons_zero, List.set_cons_succ]
  refine wpAnyH_take (i := 8) (v := undef) rfl (by kernel_rfl) (by kernel_rfl) (by kernel_rfl) (fun _ _ _ h => h) (Or.inr ⟨by rfl, rfl⟩) hH ?_
  simp only [Act.put, List.getElem_toArray, List.getElem_cons_zero, List.getElem_cons_succ, List.setIfInBounds_toArray, List.set_cons_zero, List.set_cons_succ]
  refine wpAnyH_take (i := 9) (v := undef) rfl (by kernel_rfl) (by kernel_rfl) (by kernel_rfl) (fun _ _ _ h => h) (Or.inr ⟨by rfl, rfl⟩) hH ?_
  simp only [Act.put, List.getElem_toArray, List.getElem_cons_zero, List.getElem_cons_succ, List.setIfInBounds_toArray, List.set_cons_zero, List.set_cons_succ]
  refine wpAnyH_take (i := 10) (v := undef) rfl (by kernel_rfl) (by kernel_rfl) (by kernel_rfl) (fun _ _ _ h => h) (Or.inr ⟨by rfl, rfl⟩) hH ?_
  simp only [Act.put, List.getElem_toArray, List.getElem_cons_zero, List.getElem_cons_succ, List.setIfInBounds_toArray, List.set_cons_zero, List.set_cons_succ]
  refine wpAnyH_take (i := 11) (v := undef) rfl (by kernel_rfl) (by kernel_rfl) (by kernel_rfl) (fun _ _ _ h => h) (Or.inr ⟨by rfl, rfl⟩) hH ?_
  simp only [Act.put, List.getElem_toArray, List.getElem_cons_zero, List.getElem_cons_succ, List.setIfInBounds_toArray, List.set_cons_zero, List.set_cons_succ]
  refine wpAnyH_take (i := 12) (v := ?_) rfl (by kernel_rfl) (by kernel_rfl) (by kernel_rfl) (fun _ _ _ h => h) (Or.inl ⟨by rfl, ?_⟩) hH ?_
  rotate_left
  · ((intro W hW; clear hW; go_simp) <;> with_reducible rfl)
  simp only [Act.put, List.getElem_toArray, List.getElem_cons_zero, List.getElem_cons_succ, List.setIfInBounds_toArray, List.set_cons_zero, List.set_cons_succ]
  refine wpAnyH_take (i := 13) (v := ?_) rfl (by kernel_rfl) (by kernel_rfl) (by kernel_rfl) (fun _ _ _ h => h) (Or.inl ⟨by rfl, ?_⟩) hH ?_
  rotate_left
  · ((intro W hW; clear hW; go_simp) <;> with_reducible rfl)
  simp only [Act.put, List.getElem_toArray, List.getElem_cons_zero, List.getElem_cons_succ, List.setIfInBounds_toArray, List.set_cons_zero, List.set_cons_succ]
  refine wpAnyH_done (by kernel_rfl) ?_ _
  go_wp2_with fail
  go_ret
  exact ⟨rfl, bel⟩
set_option linter.unusedVariables false in
set_option maxRecDepth 100000 in
set_option maxHeartbeats 16000000 in
theorem icmpWrites_6 (tos id fl pt ttl pr : Int) (a0 a1 a2 a3 a4 a5 a6 a7 : UInt8) (So : Option Addr) (no co : Nat) (lo : List UInt8) (Sb : Option Addr) (nb cb : Nat) (lb : List UInt8) (ty cd re : Int) (D : Option Addr) (nd qd : Nat) (ld : List UInt8) (w : World) (ho : Sl w So no co lo) (hb : Sl w Sb nb cb lb) (hD : Sl w D nd qd ld) (h1 : nb ≤ 1600) (h2 : no ≤ 60) (h3 : nd ≤ 1600) (e0 : 0 ≤ re) (e1 : re < 4294967296) (g1 : byteOk ty = true) (g2 : byteOk cd = true) (g3 : nd ≤ 1472) (hw : (decide (pt = 0) && decide (fl % 2 = 0)) = false) : Calls Try.prog 5 #[.agg #[.int .i64 tos, .int .i64 id, .int .i64 fl, .int .i64 pt, .int .i64 ttl, .int .i64 pr, .int .u8 (a0.toNat : Int), .int .u8 (a1.toNat : Int), .int .u8 (a2.toNat : Int), .int .u8 (a3.toNat : Int), .int .u8 (a4.toNat : Int), .int .u8 (a5.toNat : Int), .int .u8 (a6.toNat : Int), .int .u8 (a7.toNat : Int), .slice So no co, .slice Sb nb cb], .agg #[.int .i64 ty, .int .i64 cd, .int .u32 re, .slice D nd qd]] w fun e w' => e = .returned (.bool true) ∧ Below w.heap.size w w' := by
  have t1 : decide ((1600 : Int) < nb) = false := decide_eq_false (by omega)
  have t2 : decide ((60 : Int) < no) = false := decide_eq_false (by omega)
  have t3 : decide ((1600 : Int) < nd) = false := decide_eq_false (by omega)
  have H2 := Lib.hid h2
  have H3 := Lib.hid h3
  have E0 := Lib.hid e0
  have E1 := Lib.hid e1
  clear h1 h2 h3 e0 e1
  have G1 := Lib.hid g1
  have G2 := Lib.hid g2
  have G3 := Lib.hid g3
  clear g1 g2 g3
  have HW := Lib.hid hw
  clear hw
  have bel := Below.refl w.heap.size w
  go_enter Try.func5, Try.ntmps5
  go_wp2_with (first | ((with_reducible show wpList _ _ _ (⟨some 2, _, _, _, _, _⟩ :: _) _ _); refine wpList_box_n rfl 27 (.tmp 0) rfl #[.int .i64 tos, .int .i64 id, .int .i64 fl, .int .i64 pt, .int .i64 ttl, .int .i64 pr, .int .u8 (a0.toNat : Int), .int .u8 (a1.toNat : Int), .int .u8 (a2.toNat : Int), .int .u8 (a3.toNat : Int), .int .u8 (a4.toNat : Int), .int .u8 (a5.toNat : Int), .int .u8 (a6.toNat : Int), .int .u8 (a7.toNat : Int), .slice So no co, .slice Sb nb cb] rfl ?_; intro g2 w1 ge lt hh bb; have av_ho_p := ho.av_new ge; have av_hb_p := hb.av_new ge; have av_hD_p := hD.av_new ge; have op := Nat.le_trans bel.size ge; replace ho := ho.below bb; replace hb := hb.below bb; replace hD := hD.below bb; replace bel := bel.trans (bb.mono bel.size); have hp := hh; clear hh lt ge bb) | ((with_reducible show wpList _ _ _ (⟨some 3, _, _, _, _, _⟩ :: _) _ _); refine wpList_box_n rfl 34 (.tmp 1) rfl #[.int .i64 ty, .int .i64 cd, .int .u32 re, .slice D nd qd] rfl ?_; intro g3 w2 ge lt hh bb; have d_p_d := ne_new (hlt hp) ge; have av_ho_d := ho.av_new ge; have av_hb_d := hb.av_new ge; have av_hD_d := hD.av_new ge; have od := Nat.le_trans bel.size ge; replace hp := blk_u hp bb; replace ho := ho.below bb; replace hb := hb.below bb; replace hD := hD.below bb; replace bel := bel.trans (bb.mono bel.size); have hd := hh; clear hh lt ge bb))
  with_reducible refine (awake9 _).mono ?_
  rintro e w3 ⟨rfl, b3⟩
  replace hp := blk_u hp b3
  replace hd := blk_u hd b3
  replace ho := ho.below b3
  replace hb := hb.below b3
  replace hD := hD.below b3
  replace bel := bel.trans (b3.mono bel.size)
  clear b3
  have R14 := cell_lit hp 15 _ rfl
  have R19 := cell_lit hp 14 _ rfl
  have R25 := cell_lit hd 3 _ rfl
  have R30 := Lib.hid (range_lit hp 0 16 [.int .i64 tos, .int .i64 id, .int .i64 fl, .int .i64 pt, .int .i64 ttl, .int .i64 pr, .int .u8 (a0.toNat : Int), .int .u8 (a1.toNat : Int), .int .u8 (a2.toNat : Int), .int .u8 (a3.toNat : Int), .int .u8 (a4.toNat : Int), .int .u8 (a5.toNat : Int), .int .u8 (a6.toNat : Int), .int .u8 (a7.toNat : Int), .slice So no co, .slice Sb nb cb] rfl)
  go_wp2_with (first | ((with_reducible show wpList _ _ _ (⟨some 30, _, _, _, _, _⟩ :: _) _ _); refine wpList_load_rng 27 (.tmp 2) rfl (by kernel_rfl) _ _ rfl _ R30.out _ Try.underlying27 rfl (by kernel_rfl) ?_; have R31 := Lib.hid (range_lit hd 0 4 [.int .i64 ty, .int .i64 cd, .int .u32 re, .slice D nd qd] rfl)) | ((with_reducible show wpList _ _ _ (⟨some 31, _, _, _, _, _⟩ :: _) _ _); refine wpList_load_rng 34 (.tmp 3) rfl (by kernel_rfl) _ _ rfl _ R31.out _ Try.underlying34 rfl (by kernel_rfl) ?_))
  try clear R14
  try clear R19
  try clear R25
  try clear R30
  try clear R31
  with_reducible refine (icput_good _ _ _ _ _ _ _ _ _ _ _ _ _ _ _ _ _ _ _ _ _ _ _ _ _ _ _ _ _  ho hD G1.out G2.out G3.out (by have := H2.out; omega) E0.out E1.out).mono ?_
  rintro e w4 ⟨Ao1, co1, Ab1, cb1, rfl, so1, sb1, fo1, fb1, b4⟩
  have av_so1_p := fo1.av (hlt hp)
  have av_so1_d := fo1.av (hlt hd)
  have av_sb1_p := fb1.av (hlt hp)
  have av_sb1_d := fb1.av (hlt hd)
  replace hp := blk_u hp b4
  replace hd := blk_u hd b4
  replace ho := ho.below b4
  replace hb := hb.below b4
  replace hD := hD.below b4
  replace bel := bel.trans (b4.mono bel.size)
  clear b4
  replace so1 : Sl w4 (Ao1) (no) (co1) (lo) := so1
  replace sb1 : Sl w4 (Ab1) (8 + nd) (cb1) (icBytes ty cd re ld) := sb1
  go_wp2_with (first | ((with_reducible show wpList _ _ _ (⟨some 5, _, _, _, _, _⟩ :: _) _ _); refine wpList_new_a rfl 27 rfl #[.int .i64 0, .int .i64 0, .int .i64 0, .int .i64 0, .int .i64 0, .int .i64 0, .int .u8 0, .int .u8 0, .int .u8 0, .int .u8 0, .int .u8 0, .int .u8 0, .int .u8 0, .int .u8 0, .slice none 0 0, .slice none 0 0] (by kernel_rfl) ?_; intro g5 w5 ge hh bb; have d_p_e := ne_new (hlt hp) ge; have d_d_e := ne_new (hlt hd) ge; have av_ho_e := ho.av_new ge; have av_hb_e := hb.av_new ge; have av_hD_e := hD.av_new ge; have av_so1_e := so1.av_new ge; have av_sb1_e := sb1.av_new ge; have oe := Nat.le_trans bel.size ge; replace hp := blk_u hp bb; replace hd := blk_u hd bb; replace ho := ho.below bb; replace hb := hb.below bb; replace hD := hD.below bb; replace so1 := so1.below bb; replace sb1 := sb1.below bb; replace bel := bel.trans (bb.mono bel.size); have he := hh; clear hh ge bb) | ((with_reducible show wpList _ _ _ (⟨none, Op.store _ (.tmp 5) _, _, _, _, _⟩ :: _) _ _); refine wpList_store_blk rfl 27 (.tmp 5) (.tmp 33) rfl g5 rfl _ rfl _ 27 he (by rfl) (by kernel_rfl) (by kernel_rfl) ?_; intro w6 hq gr; replace ho := ho.away av_ho_e gr; replace hb := hb.away av_hb_e gr; replace hD := hD.away av_hD_e gr; replace so1 := so1.away av_so1_e gr; replace sb1 := sb1.away av_sb1_e gr; replace hp := blk_a hp gr d_p_e; replace hd := blk_a hd gr d_d_e; replace bel := below_grown bel gr oe bel.size; clear he; have he := hq; clear hq gr))
  go_cut [7, 8] from 9999 (fun s7 s8 W => ∃ g7 : Nat, ∃ Ao2 : Option Addr, ∃ co2 : Nat, ∃ Ab2 : Option Addr, ∃ cb2 : Nat, s7 = .pointer (some ⟨g7, 0, none⟩) ∧ s8 = .int .i64 0 ∧ W.heap[g2]? = some (.cells #[.int .i64 tos, .int .i64 id, .int .i64 fl, .int .i64 pt, .int .i64 ttl, .int .i64 pr, .int .u8 (a0.toNat : Int), .int .u8 (a1.toNat : Int), .int .u8 (a2.toNat : Int), .int .u8 (a3.toNat : Int), .int .u8 (a4.toNat : Int), .int .u8 (a5.toNat : Int), .int .u8 (a6.toNat : Int), .int .u8 (a7.toNat : Int), .slice So no co, .slice Sb nb cb] 27 (0, 0)) ∧ W.heap[g3]? = some (.cells #[.int .i64 ty, .int .i64 cd, .int .u32 re, .slice D nd qd] 34 (0, 0)) ∧ W.heap[g5]? = some (.cells #[.int .i64 tos, .int .i64 id, .int .i64 fl, .int .i64 pt, .int .i64 ttl, .int .i64 1, .int .u8 (a0.toNat : Int), .int .u8 (a1.toNat : Int), .int .u8 (a2.toNat : Int), .int .u8 (a3.toNat : Int), .int .u8 (a4.toNat : Int), .int .u8 (a5.toNat : Int), .int .u8 (a6.toNat : Int), .int .u8 (a7.toNat : Int), .slice Ao1 no co1, .slice Ab1 (8 + nd) cb1] 27 (0, 0)) ∧ W.heap[g7]? = some (.cells #[.int .i64 tos, .int .i64 id, .int .i64 fl, .int .i64 pt, .int .i64 ttl, .int .i64 1, .int .u8 (a0.toNat : Int), .int .u8 (a1.toNat : Int), .int .u8 (a2.toNat : Int), .int .u8 (a3.toNat : Int), .int .u8 (a4.toNat : Int), .int .u8 (a5.toNat : Int), .int .u8 (a6.toNat : Int), .int .u8 (a7.toNat : Int), .slice Ao2 no co2, .slice Ab2 (8 + nd) cb2] 45 (0, 0)) ∧ w.heap.size ≤ g7 ∧ Hid (g3 ≠ g5) ∧ Hid (g3 ≠ g2) ∧ Hid (g3 ≠ g7) ∧ Hid (g5 ≠ g2) ∧ Hid (g5 ≠ g7) ∧ Hid (g2 ≠ g7) ∧ Sl W (So) (no) (co) (lo) ∧ Av (So) (no) g3 ∧ Av (So) (no) g5 ∧ Av (So) (no) g2 ∧ Av (So) (no) g7 ∧ Sl W (Sb) (nb) (cb) (lb) ∧ Av (Sb) (nb) g3 ∧ Av (Sb) (nb) g5 ∧ Av (Sb) (nb) g2 ∧ Av (Sb) (nb) g7 ∧ Sl W (D) (nd) (qd) (ld) ∧ Av (D) (nd) g3 ∧ Av (D) (nd) g5 ∧ Av (D) (nd) g2 ∧ Av (D) (nd) g7 ∧ Sl W (Ao1) (no) (co1) (lo) ∧ Av (Ao1) (no) g3 ∧ Av (Ao1) (no) g5 ∧ Av (Ao1) (no) g2 ∧ Av (Ao1) (no) g7 ∧ Sl W (Ab1) (8 + nd) (cb1) (icBytes ty cd re ld) ∧ Av (Ab1) (8 + nd) g3 ∧ Av (Ab1) (8 + nd) g5 ∧ Av (Ab1) (8 + nd) g2 ∧ Av (Ab1) (8 + nd) g7 ∧ Sl W (Ao2) (no) (co2) (lo) ∧ Av (Ao2) (no) g3 ∧ Av (Ao2) (no) g5 ∧ Av (Ao2) (no) g2 ∧ Av (Ao2) (no) g7 ∧ Sl W (Ab2) (8 + nd) (cb2) (icBytes ty cd re ld) ∧ Av (Ab2) (8 + nd) g3 ∧ Av (Ab2) (8 + nd) g5 ∧ Av (Ab2) (8 + nd) g2 ∧ Av (Ab2) (8 + nd) g7 ∧ Below w.heap.size w W)
  case first =>
    replace bel := bel.drew
    replace hp : w6.drew.heap[g2]? = _ := hp
    replace hd : w6.drew.heap[g3]? = _ := hd
    replace he : w6.drew.heap[g5]? = _ := he
    replace ho := ho.drew
    replace hb := hb.drew
    replace hD := hD.drew
    replace so1 := so1.drew
    replace sb1 := sb1.drew
    refine wp_region_held_drew (S := fun W => W.heap[g2]? = some (.cells #[.int .i64 tos, .int .i64 id, .int .i64 fl, .int .i64 pt, .int .i64 ttl, .int .i64 pr, .int .u8 (a0.toNat : Int), .int .u8 (a1.toNat : Int), .int .u8 (a2.toNat : Int), .int .u8 (a3.toNat : Int), .int .u8 (a4.toNat : Int), .int .u8 (a5.toNat : Int), .int .u8 (a6.toNat : Int), .int .u8 (a7.toNat : Int), .slice So no co, .slice Sb nb cb] 27 (0, 0)) ∧ W.heap[g3]? = some (.cells #[.int .i64 ty, .int .i64 cd, .int .u32 re, .slice D nd qd] 34 (0, 0))) (by kernel_rfl) ⟨hp, hd⟩ (fun hH => ?_)
    generalize w6.drew = w7 at bel hp hd he ho hb hD so1 sb1 hH ⊢
    refine wpAnyH_take (i := 0) (v := .agg #[.int .i64 tos, .int .i64 id, .int .i64 fl, .int .i64 pt, .int .i64 ttl, .int .i64 pr, .int .u8 (a0.toNat : Int), .int .u8 (a1.toNat : Int), .int .u8 (a2.toNat : Int), .int .u8 (a3.toNat : Int), .int .u8 (a4.toNat : Int), .int .u8 (a5.toNat : Int), .int .u8 (a6.toNat : Int), .int .u8 (a7.toNat : Int), .slice So no co, .slice Sb nb cb]) rfl (by kernel_rfl) (by kernel_rfl) (by kernel_rfl) (fun _ _ _ h => h) (yieldsIf_load_part (by kernel_rfl) 27 _ rfl g2 0 16 rfl _ 27 (0, 0) (fun W hW => hW.1) _ rfl _ Try.underlying27 rfl (by kernel_rfl)) hH ?_
    simp only [Act.put, List.getElem_toArray, List.getElem_cons_zero, List.setIfInBounds_toArray, List.set_cons_zero, List.set_cons_succ]
    refine wpAnyH_take (i := 2) (v := .agg #[.int .i64 ty, .int .i64 cd, .int .u32 re, .slice D nd qd]) rfl (by kernel_rfl) (by kernel_rfl) (by kernel_rfl) (fun _ _ _ h => h) (yieldsIf_load_part (by kernel_rfl) 34 _ rfl g3 0 4 rfl _ 34 (0, 0) (fun W hW => hW.2) _ rfl _ Try.underlying34 rfl (by kernel_rfl)) hH ?_
    simp only [Act.put, List.getElem_toArray, List.getElem_cons_zero, List.getElem_cons_succ, List.setIfInBounds_toArray, List.set_cons_zero, List.set_cons_succ]
    refine wpAnyH_ready (rs := [1, 8]) (by kernel_rfl) (by simp) ?_
    refine AllReadyH.cons (o := _) rfl (fun K hK => ?_) (AllReadyH.cons (o := _) rfl (fun K hK => ?_) AllReadyH.nil)
    · simp only [List.getElem_toArray, List.getElem_cons_zero, List.getElem_cons_succ]
      go_simp
      with_reducible refine (own9_any _ _ _ _ _ _ _ _ _ _ _ _ _ _ _ _ _ _ _ _ _).mono ?_
      rintro e w8 ⟨rfl, b8⟩
      dsimp only
      replace hp := blk_u hp b8
      replace hd := blk_u hd b8
      replace he := blk_u he b8
      replace ho := ho.below b8
      replace hb := hb.below b8
      replace hD := hD.below b8
      replace so1 := so1.below b8
      replace sb1 := sb1.below b8
      replace bel := bel.trans (b8.mono bel.size)
      clear b8
      refine hK.out _ _ ⟨hp, hd⟩ (fun hH9 => ?_)
      clear hK K
      refine wpAnyH_ready (rs := [3, 8]) (by kernel_rfl) (by simp) ?_
      refine AllReadyH.cons (o := _) rfl (fun K hK => ?_) (AllReadyH.cons (o := _) rfl (fun K hK => ?_) AllReadyH.nil)
      · simp only [List.getElem_toArray, List.getElem_cons_zero, List.getElem_cons_succ]
        go_simp
        with_reducible refine (msg9_any _ _ _ _ _ _ _).mono ?_
        rintro e w10 ⟨rfl, b10⟩
        dsimp only
        replace hp := blk_u hp b10
        replace hd := blk_u hd b10
        replace he := blk_u he b10
        replace ho := ho.below b10
        replace hb := hb.below b10
        replace hD := hD.below b10
        replace so1 := so1.below b10
        replace sb1 := sb1.below b10
        replace bel := bel.trans (b10.mono bel.size)
        clear b10
        refine hK.out _ _ ⟨hp, hd⟩ (fun hH11 => ?_)
        clear hK K
        refine wpAnyH_ready (rs := [4, 8]) (by kernel_rfl) (by simp) ?_
        refine AllReadyH.cons (o := _) rfl (fun K hK => ?_) (AllReadyH.cons (o := _) rfl (fun K hK => ?_) AllReadyH.nil)
        · simp only [List.getElem_toArray, List.getElem_cons_zero, List.getElem_cons_succ]
          go_simp
          with_reducible refine (ricput_good _ _ _ _ _ _ _ _ _ _ _ _ _ _ _ _ _ _ _ _ _ _ _ _ _ _ _ _ _  ho hD G1.out G2.out G3.out (by have := H2.out; omega) E0.out E1.out).mono ?_
          rintro e w12 ⟨Ao2, co2, Ab2, cb2, rfl, so2, sb2, fo2, fb2, b12⟩
          dsimp only
          have av_so2_p := fo2.av (hlt hp)
          have av_so2_d := fo2.av (hlt hd)
          have av_so2_e := fo2.av (hlt he)
          have av_sb2_p := fb2.av (hlt hp)
          have av_sb2_d := fb2.av (hlt hd)
          have av_sb2_e := fb2.av (hlt he)
          replace hp := blk_u hp b12
          replace hd := blk_u hd b12
          replace he := blk_u he b12
          replace ho := ho.below b12
          replace hb := hb.below b12
          replace hD := hD.below b12
          replace so1 := so1.below b12
          replace sb1 := sb1.below b12
          replace bel := bel.trans (b12.mono bel.size)
          clear b12
          replace so2 : Sl w12 (Ao2) (no) (co2) (lo) := so2
          replace sb2 : Sl w12 (Ab2) (8 + nd) (cb2) (icBytes ty cd re ld) := sb2
          refine hK.out _ _ ⟨hp, hd⟩ (fun hH13 => ?_)
          clear hK K
          refine wpAnyH_take (i := 5) (v := ?_) rfl (by kernel_rfl) (by kernel_rfl) (by kernel_rfl) (fun _ _ _ h => h) (Or.inl ⟨by rfl, ?_⟩) hH13 ?_
          rotate_left
          · ((intro W hW; clear hW; go_simp) <;> with_reducible rfl)
          simp only [Act.put, List.getElem_toArray, List.getElem_cons_zero, List.getElem_cons_succ, List.setIfInBounds_toArray, List.set_cons_zero, List.set_cons_succ]
          refine wpAnyH_take (i := 6) (v := ?_) rfl (by kernel_rfl) (by kernel_rfl) (by kernel_rfl) (fun _ _ _ h => h) (Or.inl ⟨by rfl, ?_⟩) hH13 ?_
          rotate_left
          · ((intro W hW; clear hW; go_simp) <;> with_reducible rfl)
          simp only [Act.put, List.getElem_toArray, List.getElem_cons_zero, List.getElem_cons_succ, List.setIfInBounds_toArray, List.set_cons_zero, List.set_cons_succ]
          refine wpAnyH_take (i := 7) (v := ?_) rfl (by kernel_rfl) (by kernel_rfl) (by kernel_rfl) (fun _ _ _ h => h) (Or.inl ⟨by rfl, ?_⟩) hH13 ?_
          rotate_left
          · ((intro W hW; clear hW; go_simp) <;> with_reducible rfl)
          simp only [Act.put, List.getElem_toArray, List.getElem_cons_zero, List.getElem_cons_succ, List.setIfInBounds_toArray, List.set_cons_zero, List.set_cons_succ]
          refine wpAnyH_ready (rs := [8]) (by kernel_rfl) (by simp) ?_
          refine AllReadyH.cons (o := _) rfl (fun K hK => ?_) AllReadyH.nil
          simp only [List.getElem_toArray, List.getElem_cons_zero, List.getElem_cons_succ]
          rw [if_pos (by rfl)]
          refine wp_new_a 45 rfl #[.int .i64 0, .int .i64 0, .int .i64 0, .int .i64 0, .int .i64 0, .int .i64 0, .int .u8 0, .int .u8 0, .int .u8 0, .int .u8 0, .int .u8 0, .int .u8 0, .int .u8 0, .int .u8 0, .slice none 0 0, .slice none 0 0] (by kernel_rfl) ?_
          intro g7 w14 ge hh bb
          have d_p_r := ne_new (hlt hp) ge
          have d_d_r := ne_new (hlt hd) ge
          have d_e_r := ne_new (hlt he) ge
          have av_ho_r := ho.av_new ge
          have av_hb_r := hb.av_new ge
          have av_hD_r := hD.av_new ge
          have av_so1_r := so1.av_new ge
          have av_sb1_r := sb1.av_new ge
          have av_so2_r := so2.av_new ge
          have av_sb2_r := sb2.av_new ge
          have or := Nat.le_trans bel.size ge
          replace hp := blk_u hp bb
          replace hd := blk_u hd bb
          replace he := blk_u he bb
          replace ho := ho.below bb
          replace hb := hb.below bb
          replace hD := hD.below bb
          replace so1 := so1.below bb
          replace sb1 := sb1.below bb
          replace so2 := so2.below bb
          replace sb2 := sb2.below bb
          replace bel := bel.trans (bb.mono bel.size)
          have hr := hh
          clear hh ge bb
          refine hK.out _ _ ⟨hp, hd⟩ (fun hH15 => ?_)
          clear hK K
          simp only [Act.put, List.setIfInBounds_toArray, List.set_cons_zero, List.set_cons_succ]
          refine wpAnyH_ready (rs := [9]) (by kernel_rfl) (by simp) ?_
          refine AllReadyH.cons (o := _) rfl (fun K hK => ?_) AllReadyH.nil
          simp only [List.getElem_toArray, List.getElem_cons_zero, List.getElem_cons_succ]
          rw [if_pos (by rfl)]
          refine wp_store_blk 45 (.tmp 7) (.tmp 41) rfl g7 rfl _ rfl _ 45 hr (by rfl) (by kernel_rfl) (by kernel_rfl) ?_
          intro w16 hq gr
          replace ho := ho.away av_ho_r gr
          replace hb := hb.away av_hb_r gr
          replace hD := hD.away av_hD_r gr
          replace so1 := so1.away av_so1_r gr
          replace sb1 := sb1.away av_sb1_r gr
          replace so2 := so2.away av_so2_r gr
          replace sb2 := sb2.away av_sb2_r gr
          replace hp := blk_a hp gr d_p_r
          replace hd := blk_a hd gr d_d_r
          replace he := blk_a he gr d_e_r
          replace bel := below_grown bel gr or bel.size
          clear hr
          have hr := hq
          clear hq gr
          refine hK.out _ _ ⟨hp, hd⟩ (fun hH17 => ?_)
          clear hK K
          simp only [Act.put]
          refine wpAnyH_take (i := 10) (v := ?_) rfl (by kernel_rfl) (by kernel_rfl) (by kernel_rfl) (fun _ _ _ h => h) (Or.inl ⟨by rfl, ?_⟩) hH17 ?_
          rotate_left
          · ((intro W hW; clear hW; go_simp) <;> with_reducible rfl)
          simp only [Act.put, List.getElem_toArray, List.getElem_cons_zero, List.getElem_cons_succ, List.setIfInBounds_toArray, List.set_cons_zero, List.set_cons_succ]
          refine wpAnyH_done (by kernel_rfl) ?_ _
          go_wp2_with fail
          go_meet
          case rel => exact ⟨g7, Ao2, co2, Ab2, cb2, rfl, rfl, hp, hd, he, hr, or, d_d_e, (ne_symm d_p_d), d_d_r, (ne_symm d_p_e), d_e_r, d_p_r, ho, av_ho_d, av_ho_e, av_ho_p, av_ho_r, hb, av_hb_d, av_hb_e, av_hb_p, av_hb_r, hD, av_hD_d, av_hD_e, av_hD_p, av_hD_r, so1, av_so1_d, av_so1_e, av_so1_p, av_so1_r, sb1, av_sb1_d, av_sb1_e, av_sb1_p, av_sb1_r, so2, av_so2_d, av_so2_e, av_so2_p, av_so2_r, sb2, av_sb2_d, av_sb2_e, av_sb2_p, av_sb2_r, bel⟩
        · simp only [List.getElem_toArray, List.getElem_cons_zero, List.getElem_cons_succ]
          rw [if_pos (by rfl)]
          refine wp_new_a 45 rfl #[.int .i64 0, .int .i64 0, .int .i64 0, .int .i64 0, .int .i64 0, .int .i64 0, .int .u8 0, .int .u8 0, .int .u8 0, .int .u8 0, .int .u8 0, .int .u8 0, .int .u8 0, .int .u8 0, .slice none 0 0, .slice none 0 0] (by kernel_rfl) ?_
          intro g7 w12 ge hh bb
          have d_p_r := ne_new (hlt hp) ge
          have d_d_r := ne_new (hlt hd) ge
          have d_e_r := ne_new (hlt he) ge
          have av_ho_r := ho.av_new ge
          have av_hb_r := hb.av_new ge
          have av_hD_r := hD.av_new ge
          have av_so1_r := so1.av_new ge
          have av_sb1_r := sb1.av_new ge
          have or := Nat.le_trans bel.size ge
          replace hp := blk_u hp bb
          replace hd := blk_u hd bb
          replace he := blk_u he bb
          replace ho := ho.below bb
          replace hb := hb.below bb
          replace hD := hD.below bb
          replace so1 := so1.below bb
          replace sb1 := sb1.below bb
          replace bel := bel.trans (bb.mono bel.size)
          have hr := hh
          clear hh ge bb
          refine hK.out _ _ ⟨hp, hd⟩ (fun hH13 => ?_)
          clear hK K
          simp only [Act.put, List.setIfInBounds_toArray, List.set_cons_zero, List.set_cons_succ]
          refine wpAnyH_ready (rs := [4]) (by kernel_rfl) (by simp) ?_
          refine AllReadyH.cons (o := _) rfl (fun K hK => ?_) AllReadyH.nil
          simp only [List.getElem_toArray, List.getElem_cons_zero, List.getElem_cons_succ]
          go_simp
          with_reducible refine (ricput_good _ _ _ _ _ _ _ _ _ _ _ _ _ _ _ _ _ _ _ _ _ _ _ _ _ _ _ _ _  ho hD G1.out G2.out G3.out (by have := H2.out; omega) E0.out E1.out).mono ?_
          rintro e w14 ⟨Ao2, co2, Ab2, cb2, rfl, so2, sb2, fo2, fb2, b14⟩
          dsimp only
          have av_so2_p := fo2.av (hlt hp)
          have av_so2_d := fo2.av (hlt hd)
          have av_so2_e := fo2.av (hlt he)
          have av_so2_r := fo2.av (hlt hr)
          have av_sb2_p := fb2.av (hlt hp)
          have av_sb2_d := fb2.av (hlt hd)
          have av_sb2_e := fb2.av (hlt he)
          have av_sb2_r := fb2.av (hlt hr)
          replace hp := blk_u hp b14
          replace hd := blk_u hd b14
          replace he := blk_u he b14
          replace hr := blk_u hr b14
          replace ho := ho.below b14
          replace hb := hb.below b14
          replace hD := hD.below b14
          replace so1 := so1.below b14
          replace sb1 := sb1.below b14
          replace bel := bel.trans (b14.mono bel.size)
          clear b14
          replace so2 : Sl w14 (Ao2) (no) (co2) (lo) := so2
          replace sb2 : Sl w14 (Ab2) (8 + nd) (cb2) (icBytes ty cd re ld) := sb2
          refine hK.out _ _ ⟨hp, hd⟩ (fun hH15 => ?_)
          clear hK K
          refine wpAnyH_take (i := 5) (v := ?_) rfl (by kernel_rfl) (by kernel_rfl) (by kernel_rfl) (fun _ _ _ h => h) (Or.inl ⟨by rfl, ?_⟩) hH15 ?_
          rotate_left
          · ((intro W hW; clear hW; go_simp) <;> with_reducible rfl)
          simp only [Act.put, List.getElem_toArray, List.getElem_cons_zero, List.getElem_cons_succ, List.setIfInBounds_toArray, List.set_cons_zero, List.set_cons_succ]
          refine wpAnyH_take (i := 6) (v := ?_) rfl (by kernel_rfl) (by kernel_rfl) (by kernel_rfl) (fun _ _ _ h => h) (Or.inl ⟨by rfl, ?_⟩) hH15 ?_
          rotate_left
          · ((intro W hW; clear hW; go_simp) <;> with_reducible rfl)
          simp only [Act.put, List.getElem_toArray, List.getElem_cons_zero, List.getElem_cons_succ, List.setIfInBounds_toArray, List.set_cons_zero, List.set_cons_succ]
          refine wpAnyH_take (i := 7) (v := ?_) rfl (by kernel_rfl) (by kernel_rfl) (by kernel_rfl) (fun _ _ _ h => h) (Or.inl ⟨by rfl, ?_⟩) hH15 ?_
          rotate_left
          · ((intro W hW; clear hW; go_simp) <;> with_reducible rfl)
          simp only [Act.put, List.getElem_toArray, List.getElem_cons_zero, List.getElem_cons_succ, List.setIfInBounds_toArray, List.set_cons_zero, List.set_cons_succ]
          refine wpAnyH_ready (rs := [9]) (by kernel_rfl) (by simp) ?_
          refine AllReadyH.cons (o := _) rfl (fun K hK => ?_) AllReadyH.nil
          simp only [List.getElem_toArray, List.getElem_cons_zero, List.getElem_cons_succ]
          rw [if_pos (by rfl)]
          refine wp_store_blk 45 (.tmp 7) (.tmp 41) rfl g7 rfl _ rfl _ 45 hr (by rfl) (by kernel_rfl) (by kernel_rfl) ?_
          intro w16 hq gr
          replace ho := ho.away av_ho_r gr
          replace hb := hb.away av_hb_r gr
          replace hD := hD.away av_hD_r gr
          replace so1 := so1.away av_so1_r gr
          replace sb1 := sb1.away av_sb1_r gr
          replace so2 := so2.away av_so2_r gr
          replace sb2 := sb2.away av_sb2_r gr
          replace hp := blk_a hp gr d_p_r
          replace hd := blk_a hd gr d_d_r
          replace he := blk_a he gr d_e_r
          replace bel := below_grown bel gr or bel.size
          clear hr
          have hr := hq
          clear hq gr
          refine hK.out _ _ ⟨hp, hd⟩ (fun hH17 => ?_)
          clear hK K
          simp only [Act.put]
          refine wpAnyH_take (i := 10) (v := ?_) rfl (by kernel_rfl) (by kernel_rfl) (by kernel_rfl) (fun _ _ _ h => h) (Or.inl ⟨by rfl, ?_⟩) hH17 ?_
          rotate_left
          · ((intro W hW; clear hW; go_simp) <;> with_reducible rfl)
          simp only [Act.put, List.getElem_toArray, List.getElem_cons_zero, List.getElem_cons_succ, List.setIfInBounds_toArray, List.set_cons_zero, List.set_cons_succ]
          refine wpAnyH_done (by kernel_rfl) ?_ _
          go_wp2_with fail
          go_meet
          case rel => exact ⟨g7, Ao2, co2, Ab2, cb2, rfl, rfl, hp, hd, he, hr, or, d_d_e, (ne_symm d_p_d), d_d_r, (ne_symm d_p_e), d_e_r, d_p_r, ho, av_ho_d, av_ho_e, av_ho_p, av_ho_r, hb, av_hb_d, av_hb_e, av_hb_p, av_hb_r, hD, av_hD_d, av_hD_e, av_hD_p, av_hD_r, so1, av_so1_d, av_so1_e, av_so1_p, av_so1_r, sb1, av_sb1_d, av_sb1_e, av_sb1_p, av_sb1_r, so2, av_so2_d, av_so2_e, av_so2_p, av_so2_r, sb2, av_sb2_d, av_sb2_e, av_sb2_p, av_sb2_r, bel⟩
      · simp only [List.getElem_toArray, List.getElem_cons_zero, List.getElem_cons_succ]
        rw [if_pos (by rfl)]
        refine wp_new_a 45 rfl #[.int .i64 0, .int .i64 0, .int .i64 0, .int .i64 0, .int .i64 0, .int .i64 0, .int .u8 0, .int .u8 0, .int .u8 0, .int .u8 0, .int .u8 0, .int .u8 0, .int .u8 0, .int .u8 0, .slice none 0 0, .slice none 0 0] (by kernel_rfl) ?_
        intro g7 w10 ge hh bb
        have d_p_r := ne_new (hlt hp) ge
        have d_d_r := ne_new (hlt hd) ge
        have d_e_r := ne_new (hlt he) ge
        have av_ho_r := ho.av_new ge
        have av_hb_r := hb.av_new ge
        have av_hD_r := hD.av_new ge
        have av_so1_r := so1.av_new ge
        have av_sb1_r := sb1.av_new ge
        have or := Nat.le_trans bel.size ge
        replace hp := blk_u hp bb
        replace hd := blk_u hd bb
        replace he := blk_u he bb
        replace ho := ho.below bb
        replace hb := hb.below bb
        replace hD := hD.below bb
        replace so1 := so1.below bb
        replace sb1 := sb1.below bb
        replace bel := bel.trans (bb.mono bel.size)
        have hr := hh
        clear hh ge bb
        refine hK.out _ _ ⟨hp, hd⟩ (fun hH11 => ?_)
        clear hK K
        simp only [Act.put, List.setIfInBounds_toArray, List.set_cons_zero, List.set_cons_succ]
        refine wpAnyH_ready (rs := [3]) (by kernel_rfl) (by simp) ?_
        refine AllReadyH.cons (o := _) rfl (fun K hK => ?_) AllReadyH.nil
        simp only [List.getElem_toArray, List.getElem_cons_zero, List.getElem_cons_succ]
        go_simp
        with_reducible refine (msg9_any _ _ _ _ _ _ _).mono ?_
        rintro e w12 ⟨rfl, b12⟩
        dsimp only
        replace hp := blk_u hp b12
        replace hd := blk_u hd b12
        replace he := blk_u he b12
        replace hr := blk_u hr b12
        replace ho := ho.below b12
        replace hb := hb.below b12
        replace hD := hD.below b12
        replace so1 := so1.below b12
        replace sb1 := sb1.below b12
        replace bel := bel.trans (b12.mono bel.size)
        clear b12
        refine hK.out _ _ ⟨hp, hd⟩ (fun hH13 => ?_)
        clear hK K
        refine wpAnyH_ready (rs := [4]) (by kernel_rfl) (by simp) ?_
        refine AllReadyH.cons (o := _) rfl (fun K hK => ?_) AllReadyH.nil
        simp only [List.getElem_toArray, List.getElem_cons_zero, List.getElem_cons_succ]
        go_simp
        with_reducible refine (ricput_good _ _ _ _ _ _ _ _ _ _ _ _ _ _ _ _ _ _ _ _ _ _ _ _ _ _ _ _ _  ho hD G1.out G2.out G3.out (by have := H2.out; omega) E0.out E1.out).mono ?_
        rintro e w14 ⟨Ao2, co2, Ab2, cb2, rfl, so2, sb2, fo2, fb2, b14⟩
        dsimp only
        have av_so2_p := fo2.av (hlt hp)
        have av_so2_d := fo2.av (hlt hd)
        have av_so2_e := fo2.av (hlt he)
        have av_so2_r := fo2.av (hlt hr)
        have av_sb2_p := fb2.av (hlt hp)
        have av_sb2_d := fb2.av (hlt hd)
        have av_sb2_e := fb2.av (hlt he)
        have av_sb2_r := fb2.av (hlt hr)
        replace hp := blk_u hp b14
        replace hd := blk_u hd b14
        replace he := blk_u he b14
        replace hr := blk_u hr b14
        replace ho := ho.below b14
        replace hb := hb.below b14
        replace hD := hD.below b14
        replace so1 := so1.below b14
        replace sb1 := sb1.below b14
        replace bel := bel.trans (b14.mono bel.size)
        clear b14
        replace so2 : Sl w14 (Ao2) (no) (co2) (lo) := so2
        replace sb2 : Sl w14 (Ab2) (8 + nd) (cb2) (icBytes ty cd re ld) := sb2
        refine hK.out _ _ ⟨hp, hd⟩ (fun hH15 => ?_)
        clear hK K
        refine wpAnyH_take (i := 5) (v := ?_) rfl (by kernel_rfl) (by kernel_rfl) (by kernel_rfl) (fun _ _ _ h => h) (Or.inl ⟨by rfl, ?_⟩) hH15 ?_
        rotate_left
        · ((intro W hW; clear hW; go_simp) <;> with_reducible rfl)
        simp only [Act.put, List.getElem_toArray, List.getElem_cons_zero, List.getElem_cons_succ, List.setIfInBounds_toArray, List.set_cons_zero, List.set_cons_succ]
        refine wpAnyH_take (i := 6) (v := ?_) rfl (by kernel_rfl) (by kernel_rfl) (by kernel_rfl) (fun _ _ _ h => h) (Or.inl ⟨by rfl, ?_⟩) hH15 ?_
        rotate_left
        · ((intro W hW; clear hW; go_simp) <;> with_reducible rfl)
        simp only [Act.put, List.getElem_toArray, List.getElem_cons_zero, List.getElem_cons_succ, List.setIfInBounds_toArray, List.set_cons_zero, List.set_cons_succ]
        refine wpAnyH_take (i := 7) (v := ?_) rfl (by kernel_rfl) (by kernel_rfl) (by kernel_rfl) (fun _ _ _ h => h) (Or.inl ⟨by rfl, ?_⟩) hH15 ?_
        rotate_left
        · ((intro W hW; clear hW; go_simp) <;> with_reducible rfl)
        simp only [Act.put, List.getElem_toArray, List.getElem_cons_zero, List.getElem_cons_succ, List.setIfInBounds_toArray, List.set_cons_zero, List.set_cons_succ]
        refine wpAnyH_ready (rs := [9]) (by kernel_rfl) (by simp) ?_
        refine AllReadyH.cons (o := _) rfl (fun K hK => ?_) AllReadyH.nil
        simp only [List.getElem_toArray, List.getElem_cons_zero, List.getElem_cons_succ]
        rw [if_pos (by rfl)]
        refine wp_store_blk 45 (.tmp 7) (.tmp 41) rfl g7 rfl _ rfl _ 45 hr (by rfl) (by kernel_rfl) (by kernel_rfl) ?_
        intro w16 hq gr
        replace ho := ho.away av_ho_r gr
        replace hb := hb.away av_hb_r gr
        replace hD := hD.away av_hD_r gr
        replace so1 := so1.away av_so1_r gr
        replace sb1 := sb1.away av_sb1_r gr
        replace so2 := so2.away av_so2_r gr
        replace sb2 := sb2.away av_sb2_r gr
        replace hp := blk_a hp gr d_p_r
        replace hd := blk_a hd gr d_d_r
        replace he := blk_a he gr d_e_r
        replace bel := below_grown bel gr or bel.size
        clear hr
        have hr := hq
        clear hq gr
        refine hK.out _ _ ⟨hp, hd⟩ (fun hH17 => ?_)
        clear hK K
        simp only [Act.put]
        refine wpAnyH_take (i := 10) (v := ?_) rfl (by kernel_rfl) (by kernel_rfl) (by kernel_rfl) (fun _ _ _ h => h) (Or.inl ⟨by rfl, ?_⟩) hH17 ?_
        rotate_left
        · ((intro W hW; clear hW; go_simp) <;> with_reducible rfl)
        simp only [Act.put, List.getElem_toArray, List.getElem_cons_zero, List.getElem_cons_succ, List.setIfInBounds_toArray, List.set_cons_zero, List.set_cons_succ]
        refine wpAnyH_done (by kernel_rfl) ?_ _
        go_wp2_with fail
        go_meet
        case rel => exact ⟨g7, Ao2, co2, Ab2, cb2, rfl, rfl, hp, hd, he, hr, or, d_d_e, (ne_symm d_p_d), d_d_r, (ne_symm d_p_e), d_e_r, d_p_r, ho, av_ho_d, av_ho_e, av_ho_p, av_ho_r, hb, av_hb_d, av_hb_e, av_hb_p, av_hb_r, hD, av_hD_d, av_hD_e, av_hD_p, av_hD_r, so1, av_so1_d, av_so1_e, av_so1_p, av_so1_r, sb1, av_sb1_d, av_sb1_e, av_sb1_p, av_sb1_r, so2, av_so2_d, av_so2_e, av_so2_p, av_so2_r, sb2, av_sb2_d, av_sb2_e, av_sb2_p, av_sb2_r, bel⟩
    · simp only [List.getElem_toArray, List.getElem_cons_zero, List.getElem_cons_succ]
      rw [if_pos (by rfl)]
      refine wp_new_a 45 rfl #[.int .i64 0, .int .i64 0, .int .i64 0, .int .i64 0, .int .i64 0, .int .i64 0, .int .u8 0, .int .u8 0, .int .u8 0, .int .u8 0, .int .u8 0, .int .u8 0, .int .u8 0, .int .u8 0, .slice none 0 0, .slice none 0 0] (by kernel_rfl) ?_
      intro g7 w8 ge hh bb
      have d_p_r := ne_new (hlt hp) ge
      have d_d_r := ne_new (hlt hd) ge
      have d_e_r := ne_new (hlt he) ge
      have av_ho_r := ho.av_new ge
      have av_hb_r := hb.av_new ge
      have av_hD_r := hD.av_new ge
      have av_so1_r := so1.av_new ge
      have av_sb1_r := sb1.av_new ge
      have or := Nat.le_trans bel.size ge
      replace hp := blk_u hp bb
      replace hd := blk_u hd bb
      replace he := blk_u he bb
      replace ho := ho.below bb
      replace hb := hb.below bb
      replace hD := hD.below bb
      replace so1 := so1.below bb
      replace sb1 := sb1.below bb
      replace bel := bel.trans (bb.mono bel.size)
      have hr := hh
      clear hh ge bb
      refine hK.out _ _ ⟨hp, hd⟩ (fun hH9 => ?_)
      clear hK K
      simp only [Act.put, List.setIfInBounds_toArray, List.set_cons_zero, List.set_cons_succ]
      refine wpAnyH_ready (rs := [1]) (by kernel_rfl) (by simp) ?_
      refine AllReadyH.cons (o := _) rfl (fun K hK => ?_) AllReadyH.nil
      simp only [List.getElem_toArray, List.getElem_cons_zero, List.getElem_cons_succ]
      go_simp
      with_reducible refine (own9_any _ _ _ _ _ _ _ _ _ _ _ _ _ _ _ _ _ _ _ _ _).mono ?_
      rintro e w10 ⟨rfl, b10⟩
      dsimp only
      replace hp := blk_u hp b10
      replace hd := blk_u hd b10
      replace he := blk_u he b10
      replace hr := blk_u hr b10
      replace ho := ho.below b10
      replace hb := hb.below b10
      replace hD := hD.below b10
      replace so1 := so1.below b10
      replace sb1 := sb1.below b10
      replace bel := bel.trans (b10.mono bel.size)
      clear b10
      refine hK.out _ _ ⟨hp, hd⟩ (fun hH11 => ?_)
      clear hK K
      refine wpAnyH_ready (rs := [3]) (by kernel_rfl) (by simp) ?_
      refine AllReadyH.cons (o := _) rfl (fun K hK => ?_) AllReadyH.nil
      simp only [List.getElem_toArray, List.getElem_cons_zero, List.getElem_cons_succ]
      go_simp
      with_reducible refine (msg9_any _ _ _ _ _ _ _).mono ?_
      rintro e w12 ⟨rfl, b12⟩
      dsimp only
      replace hp := blk_u hp b12
      replace hd := blk_u hd b12
      replace he := blk_u he b12
      replace hr := blk_u hr b12
      replace ho := ho.below b12
      replace hb := hb.below b12
      replace hD := hD.below b12
      replace so1 := so1.below b12
      replace sb1 := sb1.below b12
      replace bel := bel.trans (b12.mono bel.size)
      clear b12
      refine hK.out _ _ ⟨hp, hd⟩ (fun hH13 => ?_)
      clear hK K
      refine wpAnyH_ready (rs := [4]) (by kernel_rfl) (by simp) ?_
      refine AllReadyH.cons (o := _) rfl (fun K hK => ?_) AllReadyH.nil
      simp only [List.getElem_toArray, List.getElem_cons_zero, List.getElem_cons_succ]
      go_simp
      with_reducible refine (ricput_good _ _ _ _ _ _ _ _ _ _ _ _ _ _ _ _ _ _ _ _ _ _ _ _ _ _ _ _ _  ho hD G1.out G2.out G3.out (by have := H2.out; omega) E0.out E1.out).mono ?_
      rintro e w14 ⟨Ao2, co2, Ab2, cb2, rfl, so2, sb2, fo2, fb2, b14⟩
      dsimp only
      have av_so2_p := fo2.av (hlt hp)
      have av_so2_d := fo2.av (hlt hd)
      have av_so2_e := fo2.av (hlt he)
      have av_so2_r := fo2.av (hlt hr)
      have av_sb2_p := fb2.av (hlt hp)
      have av_sb2_d := fb2.av (hlt hd)
      have av_sb2_e := fb2.av (hlt he)
      have av_sb2_r := fb2.av (hlt hr)
      replace hp := blk_u hp b14
      replace hd := blk_u hd b14
      replace he := blk_u he b14
      replace hr := blk_u hr b14
      replace ho := ho.below b14
      replace hb := hb.below b14
      replace hD := hD.below b14
      replace so1 := so1.below b14
      replace sb1 := sb1.below b14
      replace bel := bel.trans (b14.mono bel.size)
      clear b14
      replace so2 : Sl w14 (Ao2) (no) (co2) (lo) := so2
      replace sb2 : Sl w14 (Ab2) (8 + nd) (cb2) (icBytes ty cd re ld) := sb2
      refine hK.out _ _ ⟨hp, hd⟩ (fun hH15 => ?_)
      clear hK K
      refine wpAnyH_take (i := 5) (v := ?_) rfl (by kernel_rfl) (by kernel_rfl) (by kernel_rfl) (fun _ _ _ h => h) (Or.inl ⟨by rfl, ?_⟩) hH15 ?_
      rotate_left
      · ((intro W hW; clear hW; go_simp) <;> with_reducible rfl)
      simp only [Act.put, List.getElem_toArray, List.getElem_cons_zero, List.getElem_cons_succ, List.setIfInBounds_toArray, List.set_cons_zero, List.set_cons_succ]
      refine wpAnyH_take (i := 6) (v := ?_) rfl (by kernel_rfl) (by kernel_rfl) (by kernel_rfl) (fun _ _ _ h => h) (Or.inl ⟨by rfl, ?_⟩) hH15 ?_
      rotate_left
      · ((intro W hW; clear hW; go_simp) <;> with_reducible rfl)
      simp only [Act.put, List.getElem_toArray, List.getElem_cons_zero, List.getElem_cons_succ, List.setIfInBounds_toArray, List.set_cons_zero, List.set_cons_succ]
      refine wpAnyH_take (i := 7) (v := ?_) rfl (by kernel_rfl) (by kernel_rfl) (by kernel_rfl) (fun _ _ _ h => h) (Or.inl ⟨by rfl, ?_⟩) hH15 ?_
      rotate_left
      · ((intro W hW; clear hW; go_simp) <;> with_reducible rfl)
      simp only [Act.put, List.getElem_toArray, List.getElem_cons_zero, List.getElem_cons_succ, List.setIfInBounds_toArray, List.set_cons_zero, List.set_cons_succ]
      refine wpAnyH_ready (rs := [9]) (by kernel_rfl) (by simp) ?_
      refine AllReadyH.cons (o := _) rfl (fun K hK => ?_) AllReadyH.nil
      simp only [List.getElem_toArray, List.getElem_cons_zero, List.getElem_cons_succ]
      rw [if_pos (by rfl)]
      refine wp_store_blk 45 (.tmp 7) (.tmp 41) rfl g7 rfl _ rfl _ 45 hr (by rfl) (by kernel_rfl) (by kernel_rfl) ?_
      intro w16 hq gr
      replace ho := ho.away av_ho_r gr
      replace hb := hb.away av_hb_r gr
      replace hD := hD.away av_hD_r gr
      replace so1 := so1.away av_so1_r gr
      replace sb1 := sb1.away av_sb1_r gr
      replace so2 := so2.away av_so2_r gr
      replace sb2 := sb2.away av_sb2_r gr
      replace hp := blk_a hp gr d_p_r
      replace hd := blk_a hd gr d_d_r
      replace he := blk_a he gr d_e_r
      replace bel := below_grown bel gr or bel.size
      clear hr
      have hr := hq
      clear hq gr
      refine hK.out _ _ ⟨hp, hd⟩ (fun hH17 => ?_)
      clear hK K
      simp only [Act.put]
      refine wpAnyH_take (i := 10) (v := ?_) rfl (by kernel_rfl) (by kernel_rfl) (by kernel_rfl) (fun _ _ _ h => h) (Or.inl ⟨by rfl, ?_⟩) hH17 ?_
      rotate_left
      · ((intro W hW; clear hW; go_simp) <;> with_reducible rfl)
      simp only [Act.put, List.getElem_toArray, List.getElem_cons_zero, List.getElem_cons_succ, List.setIfInBounds_toArray, List.set_cons_zero, List.set_cons_succ]
      refine wpAnyH_done (by kernel_rfl) ?_ _
      go_wp2_with fail
      go_meet
      case rel => exact ⟨g7, Ao2, co2, Ab2, cb2, rfl, rfl, hp, hd, he, hr, or, d_d_e, (ne_symm d_p_d), d_d_r, (ne_symm d_p_e), d_e_r, d_p_r, ho, av_ho_d, av_ho_e, av_ho_p, av_ho_r, hb, av_hb_d, av_hb_e, av_hb_p, av_hb_r, hD, av_hD_d, av_hD_e, av_hD_p, av_hD_r, so1, av_so1_d, av_so1_e, av_so1_p, av_so1_r, sb1, av_sb1_d, av_sb1_e, av_sb1_p, av_sb1_r, so2, av_so2_d, av_so2_e, av_so2_p, av_so2_r, sb2, av_sb2_d, av_sb2_e, av_sb2_p, av_sb2_r, bel⟩
  obtain ⟨w18, hw_⟩ : ∃ x, x = wc := ⟨_, rfl⟩
  subst hw_
  obtain ⟨g7, Ao2, co2, Ab2, cb2, rfl, rfl, hp, hd, he, hr, or, d_d_e, d_d_p, d_d_r, d_e_p, d_e_r, d_p_r, ho, av_ho_d, av_ho_e, av_ho_p, av_ho_r, hb, av_hb_d, av_hb_e, av_hb_p, av_hb_r, hD, av_hD_d, av_hD_e, av_hD_p, av_hD_r, so1, av_so1_d, av_so1_e, av_so1_p, av_so1_r, sb1, av_sb1_d, av_sb1_e, av_sb1_p, av_sb1_r, so2, av_so2_d, av_so2_e, av_so2_p, av_so2_r, sb2, av_sb2_d, av_sb2_e, av_sb2_p, av_sb2_r, bel⟩ := hcut
  go_wp2_with fail
  replace bel := bel.drew
  replace hp : w18.drew.heap[g2]? = _ := hp
  replace hd : w18.drew.heap[g3]? = _ := hd
  replace he : w18.drew.heap[g5]? = _ := he
  replace hr : w18.drew.heap[g7]? = _ := hr
  replace ho := ho.drew
  replace hb := hb.drew
  replace hD := hD.drew
  replace so1 := so1.drew
  replace sb1 := sb1.drew
  replace so2 := so2.drew
  replace sb2 := sb2.drew
  refine wp_region_held_drew (S := fun W => W.heap[g5]? = some (.cells #[.int .i64 tos, .int .i64 id, .int .i64 fl, .int .i64 pt, .int .i64 ttl, .int .i64 1, .int .u8 (a0.toNat : Int), .int .u8 (a1.toNat : Int), .int .u8 (a2.toNat : Int), .int .u8 (a3.toNat : Int), .int .u8 (a4.toNat : Int), .int .u8 (a5.toNat : Int), .int .u8 (a6.toNat : Int), .int .u8 (a7.toNat : Int), .slice Ao1 no co1, .slice Ab1 (8 + nd) cb1] 27 (0, 0)) ∧ W.heap[g7]? = some (.cells #[.int .i64 tos, .int .i64 id, .int .i64 fl, .int .i64 pt, .int .i64 ttl, .int .i64 1, .int .u8 (a0.toNat : Int), .int .u8 (a1.toNat : Int), .int .u8 (a2.toNat : Int), .int .u8 (a3.toNat : Int), .int .u8 (a4.toNat : Int), .int .u8 (a5.toNat : Int), .int .u8 (a6.toNat : Int), .int .u8 (a7.toNat : Int), .slice Ao2 no co2, .slice Ab2 (8 + nd) cb2] 45 (0, 0))) (by kernel_rfl) ⟨he, hr⟩ (fun hH => ?_)
  generalize w18.drew = w19 at bel hp hd he hr ho hb hD so1 sb1 so2 sb2 hH ⊢
  refine wpAnyH_take (i := 0) (v := ?_) rfl (by kernel_rfl) (by kernel_rfl) (by kernel_rfl) (fun _ _ _ h => h) (Or.inl ⟨by rfl, ?_⟩) hH ?_
  rotate_left
  · ((intro W hW; clear hW; go_simp) <;> with_reducible rfl)
  simp only [Act.put, List.getElem_toArray, List.getElem_cons_zero, List.setIfInBounds_toArray, List.set_cons_zero, List.set_cons_succ]
  refine wpAnyH_take (i := 1) (v := ?_) rfl (by kernel_rfl) (by kernel_rfl) (by kernel_rfl) (fun _ _ _ h => h) (Or.inl ⟨by rfl, ?_⟩) hH ?_
  rotate_left
  · ((intro W hW; clear hW; go_simp) <;> with_reducible rfl)
  simp only [Act.put, List.getElem_toArray, List.getElem_cons_zero, List.getElem_cons_succ, List.setIfInBounds_toArray, List.set_cons_zero, List.set_cons_succ]
  refine wpAnyH_take (i := 2) (v := ?_) rfl (by kernel_rfl) (by kernel_rfl) (by kernel_rfl) (fun _ _ _ h => h) (Or.inl ⟨by rfl, ?_⟩) hH ?_
  rotate_left
  · ((intro W hW; clear hW; go_simp) <;> with_reducible rfl)
  simp only [Act.put, List.getElem_toArray, List.getElem_cons_zero, List.getElem_cons_succ, List.setIfInBounds_toArray, List.set_cons_zero, List.set_cons_succ]
  refine wpAnyH_take (i := 3) (v := ?_) rfl (by kernel_rfl) (by kernel_rfl) (by kernel_rfl) (fun _ _ _ h => h) (Or.inl ⟨by rfl, ?_⟩) hH ?_
  rotate_left
  · ((intro W hW; clear hW; go_simp) <;> with_reducible rfl)
  simp only [Act.put, List.getElem_toArray, List.getElem_cons_zero, List.getElem_cons_succ, List.setIfInBounds_toArray, List.set_cons_zero, List.set_cons_succ]
  refine wpAnyH_take (i := 4) (v := ?_) rfl (by kernel_rfl) (by kernel_rfl) (by kernel_rfl) (fun _ _ _ h => h) (Or.inl ⟨by rfl, ?_⟩) hH ?_
  rotate_left
  · ((intro W hW; clear hW; go_simp) <;> with_reducible rfl)
  simp only [Act.put, List.getElem_toArray, List.getElem_cons_zero, List.getElem_cons_succ, List.setIfInBounds_toArray, List.set_cons_zero, List.set_cons_succ]
  refine wpAnyH_take (i := 5) (v := ?_) rfl (by kernel_rfl) (by kernel_rfl) (by kernel_rfl) (fun _ _ _ h => h) (Or.inl ⟨by rfl, ?_⟩) hH ?_
  rotate_left
  · ((intro W hW; clear hW; go_simp) <;> with_reducible rfl)
  simp only [Act.put, List.getElem_toArray, List.getElem_cons_zero, List.getElem_cons_succ, List.setIfInBounds_toArray, List.set_cons_zero, List.set_cons_succ]
  refine wpAnyH_take (i := 6) (v := ?_) rfl (by kernel_rfl) (by kernel_rfl) (by kernel_rfl) (fun _ _ _ h => h) (Or.inl ⟨by rfl, ?_⟩) hH ?_
  rotate_left
  · ((intro W hW; clear hW; go_simp) <;> with_reducible rfl)
  simp only [Act.put, List.getElem_toArray, List.getElem_cons_zero, List.getElem_cons_succ, List.setIfInBounds_toArray, List.set_cons_zero, List.set_cons_succ]
  refine wpAnyH_take (i := 7) (v := .agg #[.int .i64 tos, .int .i64 id, .int .i64 fl, .int .i64 pt, .int .i64 ttl, .int .i64 1, .int .u8 (a0.toNat : Int), .int .u8 (a1.toNat : Int), .int .u8 (a2.toNat : Int), .int .u8 (a3.toNat : Int), .int .u8 (a4.toNat : Int), .int .u8 (a5.toNat : Int), .int .u8 (a6.toNat : Int), .int .u8 (a7.toNat : Int), .slice Ao1 no co1, .slice Ab1 (8 + nd) cb1]) rfl (by kernel_rfl) (by kernel_rfl) (by kernel_rfl) (fun _ _ _ h => h) (yieldsIf_load_part (by kernel_rfl) 27 _ rfl g5 0 16 rfl _ 27 (0, 0) (fun W hW => hW.1) _ rfl _ Try.underlying27 rfl (by kernel_rfl)) hH ?_
  simp only [Act.put, List.getElem_toArray, List.getElem_cons_zero, List.getElem_cons_succ, List.setIfInBounds_toArray, List.set_cons_zero, List.set_cons_succ]
  refine wpAnyH_take (i := 9) (v := .agg #[.int .i64 tos, .int .i64 id, .int .i64 fl, .int .i64 pt, .int .i64 ttl, .int .i64 1, .int .u8 (a0.toNat : Int), .int .u8 (a1.toNat : Int), .int .u8 (a2.toNat : Int), .int .u8 (a3.toNat : Int), .int .u8 (a4.toNat : Int), .int .u8 (a5.toNat : Int), .int .u8 (a6.toNat : Int), .int .u8 (a7.toNat : Int), .slice Ao2 no co2, .slice Ab2 (8 + nd) cb2]) rfl (by kernel_rfl) (by kernel_rfl) (by kernel_rfl) (fun _ _ _ h => h) (yieldsIf_load_part (by kernel_rfl) 45 _ rfl g7 0 16 rfl _ 45 (0, 0) (fun W hW => hW.2) _ rfl _ Try.underlying45 rfl (by kernel_rfl)) hH ?_
  simp only [Act.put, List.getElem_toArray, List.getElem_cons_zero, List.getElem_cons_succ, List.setIfInBounds_toArray, List.set_cons_zero, List.set_cons_succ]
  refine wpAnyH_ready (rs := [8]) (by kernel_rfl) (by simp) ?_
  refine AllReadyH.cons (o := _) rfl (fun K hK => ?_) AllReadyH.nil
  simp only [List.getElem_toArray, List.getElem_cons_zero, List.getElem_cons_succ]
  go_simp
  with_reducible refine (own9_any _ _ _ _ _ _ _ _ _ _ _ _ _ _ _ _ _ _ _ _ _).mono ?_
  rintro e w20 ⟨rfl, b20⟩
  dsimp only
  replace hp := blk_u hp b20
  replace hd := blk_u hd b20
  replace he := blk_u he b20
  replace hr := blk_u hr b20
  replace ho := ho.below b20
  replace hb := hb.below b20
  replace hD := hD.below b20
  replace so1 := so1.below b20
  replace sb1 := sb1.below b20
  replace so2 := so2.below b20
  replace sb2 := sb2.below b20
  replace bel := bel.trans (b20.mono bel.size)
  clear b20
  refine hK.out _ _ ⟨he, hr⟩ (fun hH21 => ?_)
  clear hK K
  refine wpAnyH_ready (rs := [10]) (by kernel_rfl) (by simp) ?_
  refine AllReadyH.cons (o := _) rfl (fun K hK => ?_) AllReadyH.nil
  simp only [List.getElem_toArray, List.getElem_cons_zero, List.getElem_cons_succ]
  go_simp
  with_reducible refine (same6_true _ _ _ _ _ _ _ _ _ _ _ _ _ _ _ _ _ _ _ _ _ _ _ _ _ _ _  so1 sb1 so2 sb2).mono ?_
  rintro e w22 ⟨rfl, b22⟩
  dsimp only
  replace hp := blk_u hp b22
  replace hd := blk_u hd b22
  replace he := blk_u he b22
  replace hr := blk_u hr b22
  replace ho := ho.below b22
  replace hb := hb.below b22
  replace hD := hD.below b22
  replace so1 := so1.below b22
  replace sb1 := sb1.below b22
  replace so2 := so2.below b22
  replace sb2 := sb2.below b22
  replace bel := bel.trans (b22.mono bel.size)
  clear b22
  refine hK.out _ _ ⟨he, hr⟩ (fun hH23 => ?_)
  clear hK K
  refine wpAnyH_take (i := 11) (v := ?_) rfl (by kernel_rfl) (by kernel_rfl) (by kernel_rfl) (fun _ _ _ h => h) (Or.inl ⟨by rfl, ?_⟩) hH23 ?_
  rotate_left
  · ((intro W hW; clear hW; go_simp) <;> with_reducible rfl)
  simp only [Act.put, List.getElem_toArray, List.getElem_cons_zero, List.getElem_cons_succ, List.setIfInBounds_toArray, List.set_cons_zero, List.set_cons_succ]
  refine wpAnyH_take (i := 12) (v := ?_) rfl (by kernel_rfl) (by kernel_rfl) (by kernel_rfl) (fun _ _ _ h => h) (Or.inl ⟨by rfl, ?_⟩) hH23 ?_
  rotate_left
  · ((intro W hW; clear hW; go_simp) <;> with_reducible rfl)
  simp only [Act.put, List.getElem_toArray, List.getElem_cons_zero, List.getElem_cons_succ, List.setIfInBounds_toArray, List.set_cons_zero, List.set_cons_succ]
  refine wpAnyH_take (i := 13) (v := ?_) rfl (by kernel_rfl) (by kernel_rfl) (by kernel_rfl) (fun _ _ _ h => h) (Or.inl ⟨by rfl, ?_⟩) hH23 ?_
  rotate_left
  · ((intro W hW; clear hW; go_simp) <;> with_reducible rfl)
  simp only [Act.put, List.getElem_toArray, List.getElem_cons_zero, List.getElem_cons_succ, List.setIfInBounds_toArray, List.set_cons_zero, List.set_cons_succ]
  refine wpAnyH_done (by kernel_rfl) ?_ _
  have R60 := Lib.hid (range_lit he 0 16 [.int .i64 tos, .int .i64 id, .int .i64 fl, .int .i64 pt, .int .i64 ttl, .int .i64 1, .int .u8 (a0.toNat : Int), .int .u8 (a1.toNat : Int), .int .u8 (a2.toNat : Int), .int .u8 (a3.toNat : Int), .int .u8 (a4.toNat : Int), .int .u8 (a5.toNat : Int), .int .u8 (a6.toNat : Int), .int .u8 (a7.toNat : Int), .slice Ao1 no co1, .slice Ab1 (8 + nd) cb1] rfl)
  go_wp2_with (first | ((with_reducible show wpList _ _ _ (⟨some 60, _, _, _, _, _⟩ :: _) _ _); refine wpList_load_rng 27 (.tmp 5) rfl (by kernel_rfl) _ _ rfl _ R60.out _ Try.underlying27 rfl (by kernel_rfl) ?_))
  try clear R60
  with_reducible refine (ipwhole_any _ _ _ _ _ _ _ _ _ _ _ _ _ _ _ _ _ _ _ _ _).mono ?_
  rintro e w24 ⟨rfl, b24⟩
  replace hp := blk_u hp b24
  replace hd := blk_u hd b24
  replace he := blk_u he b24
  replace hr := blk_u hr b24
  replace ho := ho.below b24
  replace hb := hb.below b24
  replace hD := hD.below b24
  replace so1 := so1.below b24
  replace sb1 := sb1.below b24
  replace so2 := so2.below b24
  replace sb2 := sb2.below b24
  replace bel := bel.trans (b24.mono bel.size)
  clear b24
  rw [HW.out]
  go_wp2_with fail
  go_ret
  exact ⟨rfl, bel⟩
set_option linter.unusedVariables false in
set_option maxRecDepth 100000 in
set_option maxHeartbeats 16000000 in
theorem icmpWrites_7 (tos id fl pt ttl pr : Int) (a0 a1 a2 a3 a4 a5 a6 a7 : UInt8) (So : Option Addr) (no co : Nat) (lo : List UInt8) (Sb : Option Addr) (nb cb : Nat) (lb : List UInt8) (ty cd re : Int) (D : Option Addr) (nd qd : Nat) (ld : List UInt8) (w : World) (ho : Sl w So no co lo) (hb : Sl w Sb nb cb lb) (hD : Sl w D nd qd ld) (h1 : nb ≤ 1600) (h2 : no ≤ 60) (h3 : nd ≤ 1600) (e0 : 0 ≤ re) (e1 : re < 4294967296) (g1 : byteOk ty = true) (g2 : byteOk cd = true) (g3 : nd ≤ 1472) (hw : (decide (pt = 0) && decide (fl % 2 = 0)) = true) : Calls Try.prog 5 #[.agg #[.int .i64 tos, .int .i64 id, .int .i64 fl, .int .i64 pt, .int .i64 ttl, .int .i64 pr, .int .u8 (a0.toNat : Int), .int .u8 (a1.toNat : Int), .int .u8 (a2.toNat : Int), .int .u8 (a3.toNat : Int), .int .u8 (a4.toNat : Int), .int .u8 (a5.toNat : Int), .int .u8 (a6.toNat : Int), .int .u8 (a7.toNat : Int), .slice So no co, .slice Sb nb cb], .agg #[.int .i64 ty, .int .i64 cd, .int .u32 re, .slice D nd qd]] w fun e w' => e = .returned (.bool true) ∧ Below w.heap.size w w' := by
  have HD1 := Lib.hid hD.1
  have t1 : decide ((1600 : Int) < nb) = false := decide_eq_false (by omega)
  have t2 : decide ((60 : Int) < no) = false := decide_eq_false (by omega)
  have t3 : decide ((1600 : Int) < nd) = false := decide_eq_false (by omega)
  have H2 := Lib.hid h2
  have H3 := Lib.hid h3
  have E0 := Lib.hid e0
  have E1 := Lib.hid e1
  clear h1 h2 h3 e0 e1
  have G1 := Lib.hid g1
  have G2 := Lib.hid g2
  have G3 := Lib.hid g3
  clear g1 g2 g3
  have HW := Lib.hid hw
  clear hw
  have bel := Below.refl w.heap.size w
  go_enter Try.func5, Try.ntmps5
  go_wp2_with (first | ((with_reducible show wpList _ _ _ (⟨some 2, _, _, _, _, _⟩ :: _) _ _); refine wpList_box_n rfl 27 (.tmp 0) rfl #[.int .i64 tos, .int .i64 id, .int .i64 fl, .int .i64 pt, .int .i64 ttl, .int .i64 pr, .int .u8 (a0.toNat : Int), .int .u8 (a1.toNat : Int), .int .u8 (a2.toNat : Int), .int .u8 (a3.toNat : Int), .int .u8 (a4.toNat : Int), .int .u8 (a5.toNat : Int), .int .u8 (a6.toNat : Int), .int .u8 (a7.toNat : Int), .slice So no co, .slice Sb nb cb] rfl ?_; intro g2 w1 ge lt hh bb; have av_ho_p := ho.av_new ge; have av_hb_p := hb.av_new ge; have av_hD_p := hD.av_new ge; have op := Nat.le_trans bel.size ge; replace ho := ho.below bb; replace hb := hb.below bb; replace hD := hD.below bb; replace bel := bel.trans (bb.mono bel.size); have hp := hh; clear hh lt ge bb) | ((with_reducible show wpList _ _ _ (⟨some 3, _, _, _, _, _⟩ :: _) _ _); refine wpList_box_n rfl 34 (.tmp 1) rfl #[.int .i64 ty, .int .i64 cd, .int .u32 re, .slice D nd qd] rfl ?_; intro g3 w2 ge lt hh bb; have d_p_d := ne_new (hlt hp) ge; have av_ho_d := ho.av_new ge; have av_hb_d := hb.av_new ge; have av_hD_d := hD.av_new ge; have od := Nat.le_trans bel.size ge; replace hp := blk_u hp bb; replace ho := ho.below bb; replace hb := hb.below bb; replace hD := hD.below bb; replace bel := bel.trans (bb.mono bel.size); have hd := hh; clear hh lt ge bb))
  with_reducible refine (awake9 _).mono ?_
  rintro e w3 ⟨rfl, b3⟩
  replace hp := blk_u hp b3
  replace hd := blk_u hd b3
  replace ho := ho.below b3
  replace hb := hb.below b3
  replace hD := hD.below b3
  replace bel := bel.trans (b3.mono bel.size)
  clear b3
  have R14 := cell_lit hp 15 _ rfl
  have R19 := cell_lit hp 14 _ rfl
  have R25 := cell_lit hd 3 _ rfl
  have R30 := Lib.hid (range_lit hp 0 16 [.int .i64 tos, .int .i64 id, .int .i64 fl, .int .i64 pt, .int .i64 ttl, .int .i64 pr, .int .u8 (a0.toNat : Int), .int .u8 (a1.toNat : Int), .int .u8 (a2.toNat : Int), .int .u8 (a3.toNat : Int), .int .u8 (a4.toNat : Int), .int .u8 (a5.toNat : Int), .int .u8 (a6.toNat : Int), .int .u8 (a7.toNat : Int), .slice So no co, .slice Sb nb cb] rfl)
  go_wp2_with (first | ((with_reducible show wpList _ _ _ (⟨some 30, _, _, _, _, _⟩ :: _) _ _); refine wpList_load_rng 27 (.tmp 2) rfl (by kernel_rfl) _ _ rfl _ R30.out _ Try.underlying27 rfl (by kernel_rfl) ?_; have R31 := Lib.hid (range_lit hd 0 4 [.int .i64 ty, .int .i64 cd, .int .u32 re, .slice D nd qd] rfl)) | ((with_reducible show wpList _ _ _ (⟨some 31, _, _, _, _, _⟩ :: _) _ _); refine wpList_load_rng 34 (.tmp 3) rfl (by kernel_rfl) _ _ rfl _ R31.out _ Try.underlying34 rfl (by kernel_rfl) ?_))
  try clear R14
  try clear R19
  try clear R25
  try clear R30
  try clear R31
  with_reducible refine (icput_good _ _ _ _ _ _ _ _ _ _ _ _ _ _ _ _ _ _ _ _ _ _ _ _ _ _ _ _ _  ho hD G1.out G2.out G3.out (by have := H2.out; omega) E0.out E1.out).mono ?_
  rintro e w4 ⟨Ao1, co1, Ab1, cb1, rfl, so1, sb1, fo1, fb1, b4⟩
  have av_so1_p := fo1.av (hlt hp)
  have av_so1_d := fo1.av (hlt hd)
  have av_sb1_p := fb1.av (hlt hp)
  have av_sb1_d := fb1.av (hlt hd)
  replace hp := blk_u hp b4
  replace hd := blk_u hd b4
  replace ho := ho.below b4
  replace hb := hb.below b4
  replace hD := hD.below b4
  replace bel := bel.trans (b4.mono bel.size)
  clear b4
  replace so1 : Sl w4 (Ao1) (no) (co1) (lo) := so1
  replace sb1 : Sl w4 (Ab1) (8 + nd) (cb1) (icBytes ty cd re ld) := sb1
  go_wp2_with (first | ((with_reducible show wpList _ _ _ (⟨some 5, _, _, _, _, _⟩ :: _) _ _); refine wpList_new_a rfl 27 rfl #[.int .i64 0, .int .i64 0, .int .i64 0, .int .i64 0, .int .i64 0, .int .i64 0, .int .u8 0, .int .u8 0, .int .u8 0, .int .u8 0, .int .u8 0, .int .u8 0, .int .u8 0, .int .u8 0, .slice none 0 0, .slice none 0 0] (by kernel_rfl) ?_; intro g5 w5 ge hh bb; have d_p_e := ne_new (hlt hp) ge; have d_d_e := ne_new (hlt hd) ge; have av_ho_e := ho.av_new ge; have av_hb_e := hb.av_new ge; have av_hD_e := hD.av_new ge; have av_so1_e := so1.av_new ge; have av_sb1_e := sb1.av_new ge; have oe := Nat.le_trans bel.size ge; replace hp := blk_u hp bb; replace hd := blk_u hd bb; replace ho := ho.below bb; replace hb := hb.below bb; replace hD := hD.below bb; replace so1 := so1.below bb; replace sb1 := sb1.below bb; replace bel := bel.trans (bb.mono bel.size); have he := hh; clear hh ge bb) | ((with_reducible show wpList _ _ _ (⟨none, Op.store _ (.tmp 5) _, _, _, _, _⟩ :: _) _ _); refine wpList_store_blk rfl 27 (.tmp 5) (.tmp 33) rfl g5 rfl _ rfl _ 27 he (by rfl) (by kernel_rfl) (by kernel_rfl) ?_; intro w6 hq gr; replace ho := ho.away av_ho_e gr; replace hb := hb.away av_hb_e gr; replace hD := hD.away av_hD_e gr; replace so1 := so1.away av_so1_e gr; replace sb1 := sb1.away av_sb1_e gr; replace hp := blk_a hp gr d_p_e; replace hd := blk_a hd gr d_d_e; replace bel := below_grown bel gr oe bel.size; clear he; have he := hq; clear hq gr))
  go_cut [7, 8] from 9999 (fun s7 s8 W => ∃ g7 : Nat, ∃ Ao2 : Option Addr, ∃ co2 : Nat, ∃ Ab2 : Option Addr, ∃ cb2 : Nat, s7 = .pointer (some ⟨g7, 0, none⟩) ∧ s8 = .int .i64 0 ∧ W.heap[g2]? = some (.cells #[.int .i64 tos, .int .i64 id, .int .i64 fl, .int .i64 pt, .int .i64 ttl, .int .i64 pr, .int .u8 (a0.toNat : Int), .int .u8 (a1.toNat : Int), .int .u8 (a2.toNat : Int), .int .u8 (a3.toNat : Int), .int .u8 (a4.toNat : Int), .int .u8 (a5.toNat : Int), .int .u8 (a6.toNat : Int), .int .u8 (a7.toNat : Int), .slice So no co, .slice Sb nb cb] 27 (0, 0)) ∧ W.heap[g3]? = some (.cells #[.int .i64 ty, .int .i64 cd, .int .u32 re, .slice D nd qd] 34 (0, 0)) ∧ W.heap[g5]? = some (.cells #[.int .i64 tos, .int .i64 id, .int .i64 fl, .int .i64 pt, .int .i64 ttl, .int .i64 1, .int .u8 (a0.toNat : Int), .int .u8 (a1.toNat : Int), .int .u8 (a2.toNat : Int), .int .u8 (a3.toNat : Int), .int .u8 (a4.toNat : Int), .int .u8 (a5.toNat : Int), .int .u8 (a6.toNat : Int), .int .u8 (a7.toNat : Int), .slice Ao1 no co1, .slice Ab1 (8 + nd) cb1] 27 (0, 0)) ∧ W.heap[g7]? = some (.cells #[.int .i64 tos, .int .i64 id, .int .i64 fl, .int .i64 pt, .int .i64 ttl, .int .i64 1, .int .u8 (a0.toNat : Int), .int .u8 (a1.toNat : Int), .int .u8 (a2.toNat : Int), .int .u8 (a3.toNat : Int), .int .u8 (a4.toNat : Int), .int .u8 (a5.toNat : Int), .int .u8 (a6.toNat : Int), .int .u8 (a7.toNat : Int), .slice Ao2 no co2, .slice Ab2 (8 + nd) cb2] 45 (0, 0)) ∧ w.heap.size ≤ g7 ∧ Hid (g3 ≠ g5) ∧ Hid (g3 ≠ g2) ∧ Hid (g3 ≠ g7) ∧ Hid (g5 ≠ g2) ∧ Hid (g5 ≠ g7) ∧ Hid (g2 ≠ g7) ∧ Sl W (So) (no) (co) (lo) ∧ Av (So) (no) g3 ∧ Av (So) (no) g5 ∧ Av (So) (no) g2 ∧ Av (So) (no) g7 ∧ Sl W (Sb) (nb) (cb) (lb) ∧ Av (Sb) (nb) g3 ∧ Av (Sb) (nb) g5 ∧ Av (Sb) (nb) g2 ∧ Av (Sb) (nb) g7 ∧ Sl W (D) (nd) (qd) (ld) ∧ Av (D) (nd) g3 ∧ Av (D) (nd) g5 ∧ Av (D) (nd) g2 ∧ Av (D) (nd) g7 ∧ Sl W (Ao1) (no) (co1) (lo) ∧ Av (Ao1) (no) g3 ∧ Av (Ao1) (no) g5 ∧ Av (Ao1) (no) g2 ∧ Av (Ao1) (no) g7 ∧ Sl W (Ab1) (8 + nd) (cb1) (icBytes ty cd re ld) ∧ Av (Ab1) (8 + nd) g3 ∧ Av (Ab1) (8 + nd) g5 ∧ Av (Ab1) (8 + nd) g2 ∧ Av (Ab1) (8 + nd) g7 ∧ Sl W (Ao2) (no) (co2) (lo) ∧ Av (Ao2) (no) g3 ∧ Av (Ao2) (no) g5 ∧ Av (Ao2) (no) g2 ∧ Av (Ao2) (no) g7 ∧ Sl W (Ab2) (8 + nd) (cb2) (icBytes ty cd re ld) ∧ Av (Ab2) (8 + nd) g3 ∧ Av (Ab2) (8 + nd) g5 ∧ Av (Ab2) (8 + nd) g2 ∧ Av (Ab2) (8 + nd) g7 ∧ Below w.heap.size w W)
  case first =>
    replace bel := bel.drew
    replace hp : w6.drew.heap[g2]? = _ := hp
    replace hd : w6.drew.heap[g3]? = _ := hd
    replace he : w6.drew.heap[g5]? = _ := he
    replace ho := ho.drew
    replace hb := hb.drew
    replace hD := hD.drew
    replace so1 := so1.drew
    replace sb1 := sb1.drew
    refine wp_region_held_drew (S := fun W => W.heap[g2]? = some (.cells #[.int .i64 tos, .int .i64 id, .int .i64 fl, .int .i64 pt, .int .i64 ttl, .int .i64 pr, .int .u8 (a0.toNat : Int), .int .u8 (a1.toNat : Int), .int .u8 (a2.toNat : Int), .int .u8 (a3.toNat : Int), .int .u8 (a4.toNat : Int), .int .u8 (a5.toNat : Int), .int .u8 (a6.toNat : Int), .int .u8 (a7.toNat : Int), .slice So no co, .slice Sb nb cb] 27 (0, 0)) ∧ W.heap[g3]? = some (.cells #[.int .i64 ty, .int .i64 cd, .int .u32 re, .slice D nd qd] 34 (0, 0))) (by kernel_rfl) ⟨hp, hd⟩ (fun hH => ?_)
    generalize w6.drew = w7 at bel hp hd he ho hb hD so1 sb1 hH ⊢
    refine wpAnyH_take (i := 0) (v := .agg #[.int .i64 tos, .int .i64 id, .int .i64 fl, .int .i64 pt, .int .i64 ttl, .int .i64 pr, .int .u8 (a0.toNat : Int), .int .u8 (a1.toNat : Int), .int .u8 (a2.toNat : Int), .int .u8 (a3.toNat : Int), .int .u8 (a4.toNat : Int), .int .u8 (a5.toNat : Int), .int .u8 (a6.toNat : Int), .int .u8 (a7.toNat : Int), .slice So no co, .slice Sb nb cb]) rfl (by kernel_rfl) (by kernel_rfl) (by kernel_rfl) (fun _ _ _ h => h) (yieldsIf_load_part (by kernel_rfl) 27 _ rfl g2 0 16 rfl _ 27 (0, 0) (fun W hW => hW.1) _ rfl _ Try.underlying27 rfl (by kernel_rfl)) hH ?_
    simp only [Act.put, List.getElem_toArray, List.getElem_cons_zero, List.setIfInBounds_toArray, List.set_cons_zero, List.set_cons_succ]
    refine wpAnyH_take (i := 2) (v := .agg #[.int .i64 ty, .int .i64 cd, .int .u32 re, .slice D nd qd]) rfl (by kernel_rfl) (by kernel_rfl) (by kernel_rfl) (fun _ _ _ h => h) (yieldsIf_load_part (by kernel_rfl) 34 _ rfl g3 0 4 rfl _ 34 (0, 0) (fun W hW => hW.2) _ rfl _ Try.underlying34 rfl (by kernel_rfl)) hH ?_
    simp only [Act.put, List.getElem_toArray, List.getElem_cons_zero, List.getElem_cons_succ, List.setIfInBounds_toArray, List.set_cons_zero, List.set_cons_succ]
    refine wpAnyH_ready (rs := [1, 8]) (by kernel_rfl) (by simp) ?_
    refine AllReadyH.cons (o := _) rfl (fun K hK => ?_) (AllReadyH.cons (o := _) rfl (fun K hK => ?_) AllReadyH.nil)
    · simp only [List.getElem_toArray, List.getElem_cons_zero, List.getElem_cons_succ]
      go_simp
      with_reducible refine (own9_any _ _ _ _ _ _ _ _ _ _ _ _ _ _ _ _ _ _ _ _ _).mono ?_
      rintro e w8 ⟨rfl, b8⟩
      dsimp only
      replace hp := blk_u hp b8
      replace hd := blk_u hd b8
      replace he := blk_u he b8
      replace ho := ho.below b8
      replace hb := hb.below b8
      replace hD := hD.below b8
      replace so1 := so1.below b8
      replace sb1 := sb1.below b8
      replace bel := bel.trans (b8.mono bel.size)
      clear b8
      refine hK.out _ _ ⟨hp, hd⟩ (fun hH9 => ?_)
      clear hK K
      refine wpAnyH_ready (rs := [3, 8]) (by kernel_rfl) (by simp) ?_
      refine AllReadyH.cons (o := _) rfl (fun K hK => ?_) (AllReadyH.cons (o := _) rfl (fun K hK => ?_) AllReadyH.nil)
      · simp only [List.getElem_toArray, List.getElem_cons_zero, List.getElem_cons_succ]
        go_simp
        with_reducible refine (msg9_any _ _ _ _ _ _ _).mono ?_
        rintro e w10 ⟨rfl, b10⟩
        dsimp only
        replace hp := blk_u hp b10
        replace hd := blk_u hd b10
        replace he := blk_u he b10
        replace ho := ho.below b10
        replace hb := hb.below b10
        replace hD := hD.below b10
        replace so1 := so1.below b10
        replace sb1 := sb1.below b10
        replace bel := bel.trans (b10.mono bel.size)
        clear b10
        refine hK.out _ _ ⟨hp, hd⟩ (fun hH11 => ?_)
        clear hK K
        refine wpAnyH_ready (rs := [4, 8]) (by kernel_rfl) (by simp) ?_
        refine AllReadyH.cons (o := _) rfl (fun K hK => ?_) (AllReadyH.cons (o := _) rfl (fun K hK => ?_) AllReadyH.nil)
        · simp only [List.getElem_toArray, List.getElem_cons_zero, List.getElem_cons_succ]
          go_simp
          with_reducible refine (ricput_good _ _ _ _ _ _ _ _ _ _ _ _ _ _ _ _ _ _ _ _ _ _ _ _ _ _ _ _ _  ho hD G1.out G2.out G3.out (by have := H2.out; omega) E0.out E1.out).mono ?_
          rintro e w12 ⟨Ao2, co2, Ab2, cb2, rfl, so2, sb2, fo2, fb2, b12⟩
          dsimp only
          have av_so2_p := fo2.av (hlt hp)
          have av_so2_d := fo2.av (hlt hd)
          have av_so2_e := fo2.av (hlt he)
          have av_sb2_p := fb2.av (hlt hp)
          have av_sb2_d := fb2.av (hlt hd)
          have av_sb2_e := fb2.av (hlt he)
          replace hp := blk_u hp b12
          replace hd := blk_u hd b12
          replace he := blk_u he b12
          replace ho := ho.below b12
          replace hb := hb.below b12
          replace hD := hD.below b12
          replace so1 := so1.below b12
          replace sb1 := sb1.below b12
          replace bel := bel.trans (b12.mono bel.size)
          clear b12
          replace so2 : Sl w12 (Ao2) (no) (co2) (lo) := so2
          replace sb2 : Sl w12 (Ab2) (8 + nd) (cb2) (icBytes ty cd re ld) := sb2
          refine hK.out _ _ ⟨hp, hd⟩ (fun hH13 => ?_)
          clear hK K
          refine wpAnyH_take (i := 5) (v := ?_) rfl (by kernel_rfl) (by kernel_rfl) (by kernel_rfl) (fun _ _ _ h => h) (Or.inl ⟨by rfl, ?_⟩) hH13 ?_
          rotate_left
          · ((intro W hW; clear hW; go_simp) <;> with_reducible rfl)
          simp only [Act.put, List.getElem_toArray, List.getElem_cons_zero, List.getElem_cons_succ, List.setIfInBounds_toArray, List.set_cons_zero, List.set_cons_succ]
          refine wpAnyH_take (i := 6) (v := ?_) rfl (by kernel_rfl) (by kernel_rfl) (by kernel_rfl) (fun _ _ _ h => h) (Or.inl ⟨by rfl, ?_⟩) hH13 ?_
          rotate_left
          · ((intro W hW; clear hW; go_simp) <;> with_reducible rfl)
          simp only [Act.put, List.getElem_toArray, List.getElem_cons_zero, List.getElem_cons_succ, List.setIfInBounds_toArray, List.set_cons_zero, List.set_cons_succ]
          refine wpAnyH_take (i := 7) (v := ?_) rfl (by kernel_rfl) (by kernel_rfl) (by kernel_rfl) (fun _ _ _ h => h) (Or.inl ⟨by rfl, ?_⟩) hH13 ?_
          rotate_left
          · ((intro W hW; clear hW; go_simp) <;> with_reducible rfl)
          simp only [Act.put, List.getElem_toArray, List.getElem_cons_zero, List.getElem_cons_succ, List.setIfInBounds_toArray, List.set_cons_zero, List.set_cons_succ]
          refine wpAnyH_ready (rs := [8]) (by kernel_rfl) (by simp) ?_
          refine AllReadyH.cons (o := _) rfl (fun K hK => ?_) AllReadyH.nil
          simp only [List.getElem_toArray, List.getElem_cons_zero, List.getElem_cons_succ]
          rw [if_pos (by rfl)]
          refine wp_new_a 45 rfl #[.int .i64 0, .int .i64 0, .int .i64 0, .int .i64 0, .int .i64 0, .int .i64 0, .int .u8 0, .int .u8 0, .int .u8 0, .int .u8 0, .int .u8 0, .int .u8 0, .int .u8 0, .int .u8 0, .slice none 0 0, .slice none 0 0] (by kernel_rfl) ?_
          intro g7 w14 ge hh bb
          have d_p_r := ne_new (hlt hp) ge
          have d_d_r := ne_new (hlt hd) ge
          have d_e_r := ne_new (hlt he) ge
          have av_ho_r := ho.av_new ge
          have av_hb_r := hb.av_new ge
          have av_hD_r := hD.av_new ge
          have av_so1_r := so1.av_new ge
          have av_sb1_r := sb1.av_new ge
          have av_so2_r := so2.av_new ge
          have av_sb2_r := sb2.av_new ge
          have or := Nat.le_trans bel.size ge
          replace hp := blk_u hp bb
          replace hd := blk_u hd bb
          replace he := blk_u he bb
          replace ho := ho.below bb
          replace hb := hb.below bb
          replace hD := hD.below bb
          replace so1 := so1.below bb
          replace sb1 := sb1.below bb
          replace so2 := so2.below bb
          replace sb2 := sb2.below bb
          replace bel := bel.trans (bb.mono bel.size)
          have hr := hh
          clear hh ge bb
          refine hK.out _ _ ⟨hp, hd⟩ (fun hH15 => ?_)
          clear hK K
          simp only [Act.put, List.setIfInBounds_toArray, List.set_cons_zero, List.set_cons_succ]
          refine wpAnyH_ready (rs := [9]) (by kernel_rfl) (by simp) ?_
          refine AllReadyH.cons (o := _) rfl (fun K hK => ?_) AllReadyH.nil
          simp only [List.getElem_toArray, List.getElem_cons_zero, List.getElem_cons_succ]
          rw [if_pos (by rfl)]
          refine wp_store_blk 45 (.tmp 7) (.tmp 41) rfl g7 rfl _ rfl _ 45 hr (by rfl) (by kernel_rfl) (by kernel_rfl) ?_
          intro w16 hq gr
          replace ho := ho.away av_ho_r gr
          replace hb := hb.away av_hb_r gr
          replace hD := hD.away av_hD_r gr
          replace so1 := so1.away av_so1_r gr
          replace sb1 := sb1.away av_sb1_r gr
          replace so2 := so2.away av_so2_r gr
          replace sb2 := sb2.away av_sb2_r gr
          replace hp := blk_a hp gr d_p_r
          replace hd := blk_a hd gr d_d_r
          replace he := blk_a he gr d_e_r
          replace bel := below_grown bel gr or bel.size
          clear hr
          have hr := hq
          clear hq gr
          refine hK.out _ _ ⟨hp, hd⟩ (fun hH17 => ?_)
          clear hK K
          simp only [Act.put]
          refine wpAnyH_take (i := 10) (v := ?_) rfl (by kernel_rfl) (by kernel_rfl) (by kernel_rfl) (fun _ _ _ h => h) (Or.inl ⟨by rfl, ?_⟩) hH17 ?_
          rotate_left
          · ((intro W hW; clear hW; go_simp) <;> with_reducible rfl)
          simp only [Act.put, List.getElem_toArray, List.getElem_cons_zero, List.getElem_cons_succ, List.setIfInBounds_toArray, List.set_cons_zero, List.set_cons_succ]
          refine wpAnyH_done (by kernel_rfl) ?_ _
          go_wp2_with fail
          go_meet
          case rel => exact ⟨g7, Ao2, co2, Ab2, cb2, rfl, rfl, hp, hd, he, hr, or, d_d_e, (ne_symm d_p_d), d_d_r, (ne_symm d_p_e), d_e_r, d_p_r, ho, av_ho_d, av_ho_e, av_ho_p, av_ho_r, hb, av_hb_d, av_hb_e, av_hb_p, av_hb_r, hD, av_hD_d, av_hD_e, av_hD_p, av_hD_r, so1, av_so1_d, av_so1_e, av_so1_p, av_so1_r, sb1, av_sb1_d, av_sb1_e, av_sb1_p, av_sb1_r, so2, av_so2_d, av_so2_e, av_so2_p, av_so2_r, sb2, av_sb2_d, av_sb2_e, av_sb2_p, av_sb2_r, bel⟩
        · simp only [List.getElem_toArray, List.getElem_cons_zero, List.getElem_cons_succ]
          rw [if_pos (by rfl)]
          refine wp_new_a 45 rfl #[.int .i64 0, .int .i64 0, .int .i64 0, .int .i64 0, .int .i64 0, .int .i64 0, .int .u8 0, .int .u8 0, .int .u8 0, .int .u8 0, .int .u8 0, .int .u8 0, .int .u8 0, .int .u8 0, .slice none 0 0, .slice none 0 0] (by kernel_rfl) ?_
          intro g7 w12 ge hh bb
          have d_p_r := ne_new (hlt hp) ge
          have d_d_r := ne_new (hlt hd) ge
          have d_e_r := ne_new (hlt he) ge
          have av_ho_r := ho.av_new ge
          have av_hb_r := hb.av_new ge
          have av_hD_r := hD.av_new ge
          have av_so1_r := so1.av_new ge
          have av_sb1_r := sb1.av_new ge
          have or := Nat.le_trans bel.size ge
          replace hp := blk_u hp bb
          replace hd := blk_u hd bb
          replace he := blk_u he bb
          replace ho := ho.below bb
          replace hb := hb.below bb
          replace hD := hD.below bb
          replace so1 := so1.below bb
          replace sb1 := sb1.below bb
          replace bel := bel.trans (bb.mono bel.size)
          have hr := hh
          clear hh ge bb
          refine hK.out _ _ ⟨hp, hd⟩ (fun hH13 => ?_)
          clear hK K
          simp only [Act.put, List.setIfInBounds_toArray, List.set_cons_zero, List.set_cons_succ]
          refine wpAnyH_ready (rs := [4]) (by kernel_rfl) (by simp) ?_
          refine AllReadyH.cons (o := _) rfl (fun K hK => ?_) AllReadyH.nil
          simp only [List.getElem_toArray, List.getElem_cons_zero, List.getElem_cons_succ]
          go_simp
          with_reducible refine (ricput_good _ _ _ _ _ _ _ _ _ _ _ _ _ _ _ _ _ _ _ _ _ _ _ _ _ _ _ _ _  ho hD G1.out G2.out G3.out (by have := H2.out; omega) E0.out E1.out).mono ?_
          rintro e w14 ⟨Ao2, co2, Ab2, cb2, rfl, so2, sb2, fo2, fb2, b14⟩
          dsimp only
          have av_so2_p := fo2.av (hlt hp)
          have av_so2_d := fo2.av (hlt hd)
          have av_so2_e := fo2.av (hlt he)
          have av_so2_r := fo2.av (hlt hr)
          have av_sb2_p := fb2.av (hlt hp)
          have av_sb2_d := fb2.av (hlt hd)
          have av_sb2_e := fb2.av (hlt he)
          have av_sb2_r := fb2.av (hlt hr)
          replace hp := blk_u hp b14
          replace hd := blk_u hd b14
          replace he := blk_u he b14
          replace hr := blk_u hr b14
          replace ho := ho.below b14
          replace hb := hb.below b14
          replace hD := hD.below b14
          replace so1 := so1.below b14
          replace sb1 := sb1.below b14
          replace bel := bel.trans (b14.mono bel.size)
          clear b14
          replace so2 : Sl w14 (Ao2) (no) (co2) (lo) := so2
          replace sb2 : Sl w14 (Ab2) (8 + nd) (cb2) (icBytes ty cd re ld) := sb2
          refine hK.out _ _ ⟨hp, hd⟩ (fun hH15 => ?_)
          clear hK K
          refine wpAnyH_take (i := 5) (v := ?_) rfl (by kernel_rfl) (by kernel_rfl) (by kernel_rfl) (fun _ _ _ h => h) (Or.inl ⟨by rfl, ?_⟩) hH15 ?_
          rotate_left
          · ((intro W hW; clear hW; go_simp) <;> with_reducible rfl)
          simp only [Act.put, List.getElem_toArray, List.getElem_cons_zero, List.getElem_cons_succ, List.setIfInBounds_toArray, List.set_cons_zero, List.set_cons_succ]
          refine wpAnyH_take (i := 6) (v := ?_) rfl (by kernel_rfl) (by kernel_rfl) (by kernel_rfl) (fun _ _ _ h => h) (Or.inl ⟨by rfl, ?_⟩) hH15 ?_
          rotate_left
          · ((intro W hW; clear hW; go_simp) <;> with_reducible rfl)
          simp only [Act.put, List.getElem_toArray, List.getElem_cons_zero, List.getElem_cons_succ, List.setIfInBounds_toArray, List.set_cons_zero, List.set_cons_succ]
          refine wpAnyH_take (i := 7) (v := ?_) rfl (by kernel_rfl) (by kernel_rfl) (by kernel_rfl) (fun _ _ _ h => h) (Or.inl ⟨by rfl, ?_⟩) hH15 ?_
          rotate_left
          · ((intro W hW; clear hW; go_simp) <;> with_reducible rfl)
          simp only [Act.put, List.getElem_toArray, List.getElem_cons_zero, List.getElem_cons_succ, List.setIfInBounds_toArray, List.set_cons_zero, List.set_cons_succ]
          refine wpAnyH_ready (rs := [9]) (by kernel_rfl) (by simp) ?_
          refine AllReadyH.cons (o := _) rfl (fun K hK => ?_) AllReadyH.nil
          simp only [List.getElem_toArray, List.getElem_cons_zero, List.getElem_cons_succ]
          rw [if_pos (by rfl)]
          refine wp_store_blk 45 (.tmp 7) (.tmp 41) rfl g7 rfl _ rfl _ 45 hr (by rfl) (by kernel_rfl) (by kernel_rfl) ?_
          intro w16 hq gr
          replace ho := ho.away av_ho_r gr
          replace hb := hb.away av_hb_r gr
          replace hD := hD.away av_hD_r gr
          replace so1 := so1.away av_so1_r gr
          replace sb1 := sb1.away av_sb1_r gr
          replace so2 := so2.away av_so2_r gr
          replace sb2 := sb2.away av_sb2_r gr
          replace hp := blk_a hp gr d_p_r
          replace hd := blk_a hd gr d_d_r
          replace he := blk_a he gr d_e_r
          replace bel := below_grown bel gr or bel.size
          clear hr
          have hr := hq
          clear hq gr
          refine hK.out _ _ ⟨hp, hd⟩ (fun hH17 => ?_)
          clear hK K
          simp only [Act.put]
          refine wpAnyH_take (i := 10) (v := ?_) rfl (by kernel_rfl) (by kernel_rfl) (by kernel_rfl) (fun _ _ _ h => h) (Or.inl ⟨by rfl, ?_⟩) hH17 ?_
          rotate_left
          · ((intro W hW; clear hW; go_simp) <;> with_reducible rfl)
          simp only [Act.put, List.getElem_toArray, List.getElem_cons_zero, List.getElem_cons_succ, List.setIfInBounds_toArray, List.set_cons_zero, List.set_cons_succ]
          refine wpAnyH_done (by kernel_rfl) ?_ _
          go_wp2_with fail
          go_meet
          case rel => exact ⟨g7, Ao2, co2, Ab2, cb2, rfl, rfl, hp, hd, he, hr, or, d_d_e, (ne_symm d_p_d), d_d_r, (ne_symm d_p_e), d_e_r, d_p_r, ho, av_ho_d, av_ho_e, av_ho_p, av_ho_r, hb, av_hb_d, av_hb_e, av_hb_p, av_hb_r, hD, av_hD_d, av_hD_e, av_hD_p, av_hD_r, so1, av_so1_d, av_so1_e, av_so1_p, av_so1_r, sb1, av_sb1_d, av_sb1_e, av_sb1_p, av_sb1_r, so2, av_so2_d, av_so2_e, av_so2_p, av_so2_r, sb2, av_sb2_d, av_sb2_e, av_sb2_p, av_sb2_r, bel⟩
      · simp only [List.getElem_toArray, List.getElem_cons_zero, List.getElem_cons_succ]
        rw [if_pos (by rfl)]
        refine wp_new_a 45 rfl #[.int .i64 0, .int .i64 0, .int .i64 0, .int .i64 0, .int .i64 0, .int .i64 0, .int .u8 0, .int .u8 0, .int .u8 0, .int .u8 0, .int .u8 0, .int .u8 0, .int .u8 0, .int .u8 0, .slice none 0 0, .slice none 0 0] (by kernel_rfl) ?_
        intro g7 w10 ge hh bb
        have d_p_r := ne_new (hlt hp) ge
        have d_d_r := ne_new (hlt hd) ge
        have d_e_r := ne_new (hlt he) ge
        have av_ho_r := ho.av_new ge
        have av_hb_r := hb.av_new ge
        have av_hD_r := hD.av_new ge
        have av_so1_r := so1.av_new ge
        have av_sb1_r := sb1.av_new ge
        have or := Nat.le_trans bel.size ge
        replace hp := blk_u hp bb
        replace hd := blk_u hd bb
        replace he := blk_u he bb
        replace ho := ho.below bb
        replace hb := hb.below bb
        replace hD := hD.below bb
        replace so1 := so1.below bb
        replace sb1 := sb1.below bb
        replace bel := bel.trans (bb.mono bel.size)
        have hr := hh
        clear hh ge bb
        refine hK.out _ _ ⟨hp, hd⟩ (fun hH11 => ?_)
        clear hK K
        simp only [Act.put, List.setIfInBounds_toArray, List.set_cons_zero, List.set_cons_succ]
        refine wpAnyH_ready (rs := [3]) (by kernel_rfl) (by simp) ?_
        refine AllReadyH.cons (o := _) rfl (fun K hK => ?_) AllReadyH.nil
        simp only [List.getElem_toArray, List.getElem_cons_zero, List.getElem_cons_succ]
        go_simp
        with_reducible refine (msg9_any _ _ _ _ _ _ _).mono ?_
        rintro e w12 ⟨rfl, b12⟩
        dsimp only
        replace hp := blk_u hp b12
        replace hd := blk_u hd b12
        replace he := blk_u he b12
        replace hr := blk_u hr b12
        replace ho := ho.below b12
        replace hb := hb.below b12
        replace hD := hD.below b12
        replace so1 := so1.below b12
        replace sb1 := sb1.below b12
        replace bel := bel.trans (b12.mono bel.size)
        clear b12
        refine hK.out _ _ ⟨hp, hd⟩ (fun hH13 => ?_)
        clear hK K
        refine wpAnyH_ready (rs := [4]) (by kernel_rfl) (by simp) ?_
        refine AllReadyH.cons (o := _) rfl (fun K hK => ?_) AllReadyH.nil
        simp only [List.getElem_toArray, List.getElem_cons_zero, List.getElem_cons_succ]
        go_simp
        with_reducible refine (ricput_good _ _ _ _ _ _ _ _ _ _ _ _ _ _ _ _ _ _ _ _ _ _ _ _ _ _ _ _ _  ho hD G1.out G2.out G3.out (by have := H2.out; omega) E0.out E1.out).mono ?_
        rintro e w14 ⟨Ao2, co2, Ab2, cb2, rfl, so2, sb2, fo2, fb2, b14⟩
        dsimp only
        have av_so2_p := fo2.av (hlt hp)
        have av_so2_d := fo2.av (hlt hd)
        have av_so2_e := fo2.av (hlt he)
        have av_so2_r := fo2.av (hlt hr)
        have av_sb2_p := fb2.av (hlt hp)
        have av_sb2_d := fb2.av (hlt hd)
        have av_sb2_e := fb2.av (hlt he)
        have av_sb2_r := fb2.av (hlt hr)
        replace hp := blk_u hp b14
        replace hd := blk_u hd b14
        replace he := blk_u he b14
        replace hr := blk_u hr b14
        replace ho := ho.below b14
        replace hb := hb.below b14
        replace hD := hD.below b14
        replace so1 := so1.below b14
        replace sb1 := sb1.below b14
        replace bel := bel.trans (b14.mono bel.size)
        clear b14
        replace so2 : Sl w14 (Ao2) (no) (co2) (lo) := so2
        replace sb2 : Sl w14 (Ab2) (8 + nd) (cb2) (icBytes ty cd re ld) := sb2
        refine hK.out _ _ ⟨hp, hd⟩ (fun hH15 => ?_)
        clear hK K
        refine wpAnyH_take (i := 5) (v := ?_) rfl (by kernel_rfl) (by kernel_rfl) (by kernel_rfl) (fun _ _ _ h => h) (Or.inl ⟨by rfl, ?_⟩) hH15 ?_
        rotate_left
        · ((intro W hW; clear hW; go_simp) <;> with_reducible rfl)
        simp only [Act.put, List.getElem_toArray, List.getElem_cons_zero, List.getElem_cons_succ, List.setIfInBounds_toArray, List.set_cons_zero, List.set_cons_succ]
        refine wpAnyH_take (i := 6) (v := ?_) rfl (by kernel_rfl) (by kernel_rfl) (by kernel_rfl) (fun _ _ _ h => h) (Or.inl ⟨by rfl, ?_⟩) hH15 ?_
        rotate_left
        · ((intro W hW; clear hW; go_simp) <;> with_reducible rfl)
        simp only [Act.put, List.getElem_toArray, List.getElem_cons_zero, List.getElem_cons_succ, List.setIfInBounds_toArray, List.set_cons_zero, List.set_cons_succ]
        refine wpAnyH_take (i := 7) (v := ?_) rfl (by kernel_rfl) (by kernel_rfl) (by kernel_rfl) (fun _ _ _ h => h) (Or.inl ⟨by rfl, ?_⟩) hH15 ?_
        rotate_left
        · ((intro W hW; clear hW; go_simp) <;> with_reducible rfl)
        simp only [Act.put, List.getElem_toArray, List.getElem_cons_zero, List.getElem_cons_succ, List.setIfInBounds_toArray, List.set_cons_zero, List.set_cons_succ]
        refine wpAnyH_ready (rs := [9]) (by kernel_rfl) (by simp) ?_
        refine AllReadyH.cons (o := _) rfl (fun K hK => ?_) AllReadyH.nil
        simp only [List.getElem_toArray, List.getElem_cons_zero, List.getElem_cons_succ]
        rw [if_pos (by rfl)]
        refine wp_store_blk 45 (.tmp 7) (.tmp 41) rfl g7 rfl _ rfl _ 45 hr (by rfl) (by kernel_rfl) (by kernel_rfl) ?_
        intro w16 hq gr
        replace ho := ho.away av_ho_r gr
        replace hb := hb.away av_hb_r gr
        replace hD := hD.away av_hD_r gr
        replace so1 := so1.away av_so1_r gr
        replace sb1 := sb1.away av_sb1_r gr
        replace so2 := so2.away av_so2_r gr
        replace sb2 := sb2.away av_sb2_r gr
        replace hp := blk_a hp gr d_p_r
        replace hd := blk_a hd gr d_d_r
        replace he := blk_a he gr d_e_r
        replace bel := below_grown bel gr or bel.size
        clear hr
        have hr := hq
        clear hq gr
        refine hK.out _ _ ⟨hp, hd⟩ (fun hH17 => ?_)
        clear hK K
        simp only [Act.put]
        refine wpAnyH_take (i := 10) (v := ?_) rfl (by kernel_rfl) (by kernel_rfl) (by kernel_rfl) (fun _ _ _ h => h) (Or.inl ⟨by rfl, ?_⟩) hH17 ?_
        rotate_left
        · ((intro W hW; clear hW; go_simp) <;> with_reducible rfl)
        simp only [Act.put, List.getElem_toArray, List.getElem_cons_zero, List.getElem_cons_succ, List.setIfInBounds_toArray, List.set_cons_zero, List.set_cons_succ]
        refine wpAnyH_done (by kernel_rfl) ?_ _
        go_wp2_with fail
        go_meet
        case rel => exact ⟨g7, Ao2, co2, Ab2, cb2, rfl, rfl, hp, hd, he, hr, or, d_d_e, (ne_symm d_p_d), d_d_r, (ne_symm d_p_e), d_e_r, d_p_r, ho, av_ho_d, av_ho_e, av_ho_p, av_ho_r, hb, av_hb_d, av_hb_e, av_hb_p, av_hb_r, hD, av_hD_d, av_hD_e, av_hD_p, av_hD_r, so1, av_so1_d, av_so1_e, av_so1_p, av_so1_r, sb1, av_sb1_d, av_sb1_e, av_sb1_p, av_sb1_r, so2, av_so2_d, av_so2_e, av_so2_p, av_so2_r, sb2, av_sb2_d, av_sb2_e, av_sb2_p, av_sb2_r, bel⟩
    · simp only [List.getElem_toArray, List.getElem_cons_zero, List.getElem_cons_succ]
      rw [if_pos (by rfl)]
      refine wp_new_a 45 rfl #[.int .i64 0, .int .i64 0, .int .i64 0, .int .i64 0, .int .i64 0, .int .i64 0, .int .u8 0, .int .u8 0, .int .u8 0, .int .u8 0, .int .u8 0, .int .u8 0, .int .u8 0, .int .u8 0, .slice none 0 0, .slice none 0 0] (by kernel_rfl) ?_
      intro g7 w8 ge hh bb
      have d_p_r := ne_new (hlt hp) ge
      have d_d_r := ne_new (hlt hd) ge
      have d_e_r := ne_new (hlt he) ge
      have av_ho_r := ho.av_new ge
      have av_hb_r := hb.av_new ge
      have av_hD_r := hD.av_new ge
      have av_so1_r := so1.av_new ge
      have av_sb1_r := sb1.av_new ge
      have or := Nat.le_trans bel.size ge
      replace hp := blk_u hp bb
      replace hd := blk_u hd bb
      replace he := blk_u he bb
      replace ho := ho.below bb
      replace hb := hb.below bb
      replace hD := hD.below bb
      replace so1 := so1.below bb
      replace sb1 := sb1.below bb
      replace bel := bel.trans (bb.mono bel.size)
      have hr := hh
      clear hh ge bb
      refine hK.out _ _ ⟨hp, hd⟩ (fun hH9 => ?_)
      clear hK K
      simp only [Act.put, List.setIfInBounds_toArray, List.set_cons_zero, List.set_cons_succ]
      refine wpAnyH_ready (rs := [1]) (by kernel_rfl) (by simp) ?_
      refine AllReadyH.cons (o := _) rfl (fun K hK => ?_) AllReadyH.nil
      simp only [List.getElem_toArray, List.getElem_cons_zero, List.getElem_cons_succ]
      go_simp
      with_reducible refine (own9_any _ _ _ _ _ _ _ _ _ _ _ _ _ _ _ _ _ _ _ _ _).mono ?_
      rintro e w10 ⟨rfl, b10⟩
      dsimp only
      replace hp := blk_u hp b10
      replace hd := blk_u hd b10
      replace he := blk_u he b10
      replace hr := blk_u hr b10
      replace ho := ho.below b10
      replace hb := hb.below b10
      replace hD := hD.below b10
      replace so1 := so1.below b10
      replace sb1 := sb1.below b10
      replace bel := bel.trans (b10.mono bel.size)
      clear b10
      refine hK.out _ _ ⟨hp, hd⟩ (fun hH11 => ?_)
      clear hK K
      refine wpAnyH_ready (rs := [3]) (by kernel_rfl) (by simp) ?_
      refine AllReadyH.cons (o := _) rfl (fun K hK => ?_) AllReadyH.nil
      simp only [List.getElem_toArray, List.getElem_cons_zero, List.getElem_cons_succ]
      go_simp
      with_reducible refine (msg9_any _ _ _ _ _ _ _).mono ?_
      rintro e w12 ⟨rfl, b12⟩
      dsimp only
      replace hp := blk_u hp b12
      replace hd := blk_u hd b12
      replace he := blk_u he b12
      replace hr := blk_u hr b12
      replace ho := ho.below b12
      replace hb := hb.below b12
      replace hD := hD.below b12
      replace so1 := so1.below b12
      replace sb1 := sb1.below b12
      replace bel := bel.trans (b12.mono bel.size)
      clear b12
      refine hK.out _ _ ⟨hp, hd⟩ (fun hH13 => ?_)
      clear hK K
      refine wpAnyH_ready (rs := [4]) (by kernel_rfl) (by simp) ?_
      refine AllReadyH.cons (o := _) rfl (fun K hK => ?_) AllReadyH.nil
      simp only [List.getElem_toArray, List.getElem_cons_zero, List.getElem_cons_succ]
      go_simp
      with_reducible refine (ricput_good _ _ _ _ _ _ _ _ _ _ _ _ _ _ _ _ _ _ _ _ _ _ _ _ _ _ _ _ _  ho hD G1.out G2.out G3.out (by have := H2.out; omega) E0.out E1.out).mono ?_
      rintro e w14 ⟨Ao2, co2, Ab2, cb2, rfl, so2, sb2, fo2, fb2, b14⟩
      dsimp only
      have av_so2_p := fo2.av (hlt hp)
      have av_so2_d := fo2.av (hlt hd)
      have av_so2_e := fo2.av (hlt he)
      have av_so2_r := fo2.av (hlt hr)
      have av_sb2_p := fb2.av (hlt hp)
      have av_sb2_d := fb2.av (hlt hd)
      have av_sb2_e := fb2.av (hlt he)
      have av_sb2_r := fb2.av (hlt hr)
      replace hp := blk_u hp b14
      replace hd := blk_u hd b14
      replace he := blk_u he b14
      replace hr := blk_u hr b14
      replace ho := ho.below b14
      replace hb := hb.below b14
      replace hD := hD.below b14
      replace so1 := so1.below b14
      replace sb1 := sb1.below b14
      replace bel := bel.trans (b14.mono bel.size)
      clear b14
      replace so2 : Sl w14 (Ao2) (no) (co2) (lo) := so2
      replace sb2 : Sl w14 (Ab2) (8 + nd) (cb2) (icBytes ty cd re ld) := sb2
      refine hK.out _ _ ⟨hp, hd⟩ (fun hH15 => ?_)
      clear hK K
      refine wpAnyH_take (i := 5) (v := ?_) rfl (by kernel_rfl) (by kernel_rfl) (by kernel_rfl) (fun _ _ _ h => h) (Or.inl ⟨by rfl, ?_⟩) hH15 ?_
      rotate_left
      · ((intro W hW; clear hW; go_simp) <;> with_reducible rfl)
      simp only [Act.put, List.getElem_toArray, List.getElem_cons_zero, List.getElem_cons_succ, List.setIfInBounds_toArray, List.set_cons_zero, List.set_cons_succ]
      refine wpAnyH_take (i := 6) (v := ?_) rfl (by kernel_rfl) (by kernel_rfl) (by kernel_rfl) (fun _ _ _ h => h) (Or.inl ⟨by rfl, ?_⟩) hH15 ?_
      rotate_left
      · ((intro W hW; clear hW; go_simp) <;> with_reducible rfl)
      simp only [Act.put, List.getElem_toArray, List.getElem_cons_zero, List.getElem_cons_succ, List.setIfInBounds_toArray, List.set_cons_zero, List.set_cons_succ]
      refine wpAnyH_take (i := 7) (v := ?_) rfl (by kernel_rfl) (by kernel_rfl) (by kernel_rfl) (fun _ _ _ h => h) (Or.inl ⟨by rfl, ?_⟩) hH15 ?_
      rotate_left
      · ((intro W hW; clear hW; go_simp) <;> with_reducible rfl)
      simp only [Act.put, List.getElem_toArray, List.getElem_cons_zero, List.getElem_cons_succ, List.setIfInBounds_toArray, List.set_cons_zero, List.set_cons_succ]
      refine wpAnyH_ready (rs := [9]) (by kernel_rfl) (by simp) ?_
      refine AllReadyH.cons (o := _) rfl (fun K hK => ?_) AllReadyH.nil
      simp only [List.getElem_toArray, List.getElem_cons_zero, List.getElem_cons_succ]
      rw [if_pos (by rfl)]
      refine wp_store_blk 45 (.tmp 7) (.tmp 41) rfl g7 rfl _ rfl _ 45 hr (by rfl) (by kernel_rfl) (by kernel_rfl) ?_
      intro w16 hq gr
      replace ho := ho.away av_ho_r gr
      replace hb := hb.away av_hb_r gr
      replace hD := hD.away av_hD_r gr
      replace so1 := so1.away av_so1_r gr
      replace sb1 := sb1.away av_sb1_r gr
      replace so2 := so2.away av_so2_r gr
      replace sb2 := sb2.away av_sb2_r gr
      replace hp := blk_a hp gr d_p_r
      replace hd := blk_a hd gr d_d_r
      replace he := blk_a he gr d_e_r
      replace bel := below_grown bel gr or bel.size
      clear hr
      have hr := hq
      clear hq gr
      refine hK.out _ _ ⟨hp, hd⟩ (fun hH17 => ?_)
      clear hK K
      simp only [Act.put]
      refine wpAnyH_take (i := 10) (v := ?_) rfl (by kernel_rfl) (by kernel_rfl) (by kernel_rfl) (fun _ _ _ h => h) (Or.inl ⟨by rfl, ?_⟩) hH17 ?_
      rotate_left
      · ((intro W hW; clear hW; go_simp) <;> with_reducible rfl)
      simp only [Act.put, List.getElem_toArray, List.getElem_cons_zero, List.getElem_cons_succ, List.setIfInBounds_toArray, List.set_cons_zero, List.set_cons_succ]
      refine wpAnyH_done (by kernel_rfl) ?_ _
      go_wp2_with fail
      go_meet
      case rel => exact ⟨g7, Ao2, co2, Ab2, cb2, rfl, rfl, hp, hd, he, hr, or, d_d_e, (ne_symm d_p_d), d_d_r, (ne_symm d_p_e), d_e_r, d_p_r, ho, av_ho_d, av_ho_e, av_ho_p, av_ho_r, hb, av_hb_d, av_hb_e, av_hb_p, av_hb_r, hD, av_hD_d, av_hD_e, av_hD_p, av_hD_r, so1, av_so1_d, av_so1_e, av_so1_p, av_so1_r, sb1, av_sb1_d, av_sb1_e, av_sb1_p, av_sb1_r, so2, av_so2_d, av_so2_e, av_so2_p, av_so2_r, sb2, av_sb2_d, av_sb2_e, av_sb2_p, av_sb2_r, bel⟩
  obtain ⟨w18, hw_⟩ : ∃ x, x = wc := ⟨_, rfl⟩
  subst hw_
  obtain ⟨g7, Ao2, co2, Ab2, cb2, rfl, rfl, hp, hd, he, hr, or, d_d_e, d_d_p, d_d_r, d_e_p, d_e_r, d_p_r, ho, av_ho_d, av_ho_e, av_ho_p, av_ho_r, hb, av_hb_d, av_hb_e, av_hb_p, av_hb_r, hD, av_hD_d, av_hD_e, av_hD_p, av_hD_r, so1, av_so1_d, av_so1_e, av_so1_p, av_so1_r, sb1, av_sb1_d, av_sb1_e, av_sb1_p, av_sb1_r, so2, av_so2_d, av_so2_e, av_so2_p, av_so2_r, sb2, av_sb2_d, av_sb2_e, av_sb2_p, av_sb2_r, bel⟩ := hcut
  go_wp2_with fail
  replace bel := bel.drew
  replace hp : w18.drew.heap[g2]? = _ := hp
  replace hd : w18.drew.heap[g3]? = _ := hd
  replace he : w18.drew.heap[g5]? = _ := he
  replace hr : w18.drew.heap[g7]? = _ := hr
  replace ho := ho.drew
  replace hb := hb.drew
  replace hD := hD.drew
  replace so1 := so1.drew
  replace sb1 := sb1.drew
  replace so2 := so2.drew
  replace sb2 := sb2.drew
  refine wp_region_held_drew (S := fun W => W.heap[g5]? = some (.cells #[.int .i64 tos, .int .i64 id, .int .i64 fl, .int .i64 pt, .int .i64 ttl, .int .i64 1, .int .u8 (a0.toNat : Int), .int .u8 (a1.toNat : Int), .int .u8 (a2.toNat : Int), .int .u8 (a3.toNat : Int), .int .u8 (a4.toNat : Int), .int .u8 (a5.toNat : Int), .int .u8 (a6.toNat : Int), .int .u8 (a7.toNat : Int), .slice Ao1 no co1, .slice Ab1 (8 + nd) cb1] 27 (0, 0)) ∧ W.heap[g7]? = some (.cells #[.int .i64 tos, .int .i64 id, .int .i64 fl, .int .i64 pt, .int .i64 ttl, .int .i64 1, .int .u8 (a0.toNat : Int), .int .u8 (a1.toNat : Int), .int .u8 (a2.toNat : Int), .int .u8 (a3.toNat : Int), .int .u8 (a4.toNat : Int), .int .u8 (a5.toNat : Int), .int .u8 (a6.toNat : Int), .int .u8 (a7.toNat : Int), .slice Ao2 no co2, .slice Ab2 (8 + nd) cb2] 45 (0, 0))) (by kernel_rfl) ⟨he, hr⟩ (fun hH => ?_)
  generalize w18.drew = w19 at bel hp hd he hr ho hb hD so1 sb1 so2 sb2 hH ⊢
  refine wpAnyH_take (i := 0) (v := ?_) rfl (by kernel_rfl) (by kernel_rfl) (by kernel_rfl) (fun _ _ _ h => h) (Or.inl ⟨by rfl, ?_⟩) hH ?_
  rotate_left
  · ((intro W hW; clear hW; go_simp) <;> with_reducible rfl)
  simp only [Act.put, List.getElem_toArray, List.getElem_cons_zero, List.setIfInBounds_toArray, List.set_cons_zero, List.set_cons_succ]
  refine wpAnyH_take (i := 1) (v := ?_) rfl (by kernel_rfl) (by kernel_rfl) (by kernel_rfl) (fun _ _ _ h => h) (Or.inl ⟨by rfl, ?_⟩) hH ?_
  rotate_left
  · ((intro W hW; clear hW; go_simp) <;> with_reducible rfl)
  simp only [Act.put, List.getElem_toArray, List.getElem_cons_zero, List.getElem_cons_succ, List.setIfInBounds_toArray, List.set_cons_zero, List.set_cons_succ]
  refine wpAnyH_take (i := 2) (v := ?_) rfl (by kernel_rfl) (by kernel_rfl) (by kernel_rfl) (fun _ _ _ h => h) (Or.inl ⟨by rfl, ?_⟩) hH ?_
  rotate_left
  · ((intro W hW; clear hW; go_simp) <;> with_reducible rfl)
  simp only [Act.put, List.getElem_toArray, List.getElem_cons_zero, List.getElem_cons_succ, List.setIfInBounds_toArray, List.set_cons_zero, List.set_cons_succ]
  refine wpAnyH_take (i := 3) (v := ?_) rfl (by kernel_rfl) (by kernel_rfl) (by kernel_rfl) (fun _ _ _ h => h) (Or.inl ⟨by rfl, ?_⟩) hH ?_
  rotate_left
  · ((intro W hW; clear hW; go_simp) <;> with_reducible rfl)
  simp only [Act.put, List.getElem_toArray, List.getElem_cons_zero, List.getElem_cons_succ, List.setIfInBounds_toArray, List.set_cons_zero, List.set_cons_succ]
  refine wpAnyH_take (i := 4) (v := ?_) rfl (by kernel_rfl) (by kernel_rfl) (by kernel_rfl) (fun _ _ _ h => h) (Or.inl ⟨by rfl, ?_⟩) hH ?_
  rotate_left
  · ((intro W hW; clear hW; go_simp) <;> with_reducible rfl)
  simp only [Act.put, List.getElem_toArray, List.getElem_cons_zero, List.getElem_cons_succ, List.setIfInBounds_toArray, List.set_cons_zero, List.set_cons_succ]
  refine wpAnyH_take (i := 5) (v := ?_) rfl (by kernel_rfl) (by kernel_rfl) (by kernel_rfl) (fun _ _ _ h => h) (Or.inl ⟨by rfl, ?_⟩) hH ?_
  rotate_left
  · ((intro W hW; clear hW; go_simp) <;> with_reducible rfl)
  simp only [Act.put, List.getElem_toArray, List.getElem_cons_zero, List.getElem_cons_succ, List.setIfInBounds_toArray, List.set_cons_zero, List.set_cons_succ]
  refine wpAnyH_take (i := 6) (v := ?_) rfl (by kernel_rfl) (by kernel_rfl) (by kernel_rfl) (fun _ _ _ h => h) (Or.inl ⟨by rfl, ?_⟩) hH ?_
  rotate_left
  · ((intro W hW; clear hW; go_simp) <;> with_reducible rfl)
  simp only [Act.put, List.getElem_toArray, List.getElem_cons_zero, List.getElem_cons_succ, List.setIfInBounds_toArray, List.set_cons_zero, List.set_cons_succ]
  refine wpAnyH_take (i := 7) (v := .agg #[.int .i64 tos, .int .i64 id, .int .i64 fl, .int .i64 pt, .int .i64 ttl, .int .i64 1, .int .u8 (a0.toNat : Int), .int .u8 (a1.toNat : Int), .int .u8 (a2.toNat : Int), .int .u8 (a3.toNat : Int), .int .u8 (a4.toNat : Int), .int .u8 (a5.toNat : Int), .int .u8 (a6.toNat : Int), .int .u8 (a7.toNat : Int), .slice Ao1 no co1, .slice Ab1 (8 + nd) cb1]) rfl (by kernel_rfl) (by kernel_rfl) (by kernel_rfl) (fun _ _ _ h => h) (yieldsIf_load_part (by kernel_rfl) 27 _ rfl g5 0 16 rfl _ 27 (0, 0) (fun W hW => hW.1) _ rfl _ Try.underlying27 rfl (by kernel_rfl)) hH ?_
  simp only [Act.put, List.getElem_toArray, List.getElem_cons_zero, List.getElem_cons_succ, List.setIfInBounds_toArray, List.set_cons_zero, List.set_cons_succ]
  refine wpAnyH_take (i := 9) (v := .agg #[.int .i64 tos, .int .i64 id, .int .i64 fl, .int .i64 pt, .int .i64 ttl, .int .i64 1, .int .u8 (a0.toNat : Int), .int .u8 (a1.toNat : Int), .int .u8 (a2.toNat : Int), .int .u8 (a3.toNat : Int), .int .u8 (a4.toNat : Int), .int .u8 (a5.toNat : Int), .int .u8 (a6.toNat : Int), .int .u8 (a7.toNat : Int), .slice Ao2 no co2, .slice Ab2 (8 + nd) cb2]) rfl (by kernel_rfl) (by kernel_rfl) (by kernel_rfl) (fun _ _ _ h => h) (yieldsIf_load_part (by kernel_rfl) 45 _ rfl g7 0 16 rfl _ 45 (0, 0) (fun W hW => hW.2) _ rfl _ Try.underlying45 rfl (by kernel_rfl)) hH ?_
  simp only [Act.put, List.getElem_toArray, List.getElem_cons_zero, List.getElem_cons_succ, List.setIfInBounds_toArray, List.set_cons_zero, List.set_cons_succ]
  refine wpAnyH_ready (rs := [8]) (by kernel_rfl) (by simp) ?_
  refine AllReadyH.cons (o := _) rfl (fun K hK => ?_) AllReadyH.nil
  simp only [List.getElem_toArray, List.getElem_cons_zero, List.getElem_cons_succ]
  go_simp
  with_reducible refine (own9_any _ _ _ _ _ _ _ _ _ _ _ _ _ _ _ _ _ _ _ _ _).mono ?_
  rintro e w20 ⟨rfl, b20⟩
  dsimp only
  replace hp := blk_u hp b20
  replace hd := blk_u hd b20
  replace he := blk_u he b20
  replace hr := blk_u hr b20
  replace ho := ho.below b20
  replace hb := hb.below b20
  replace hD := hD.below b20
  replace so1 := so1.below b20
  replace sb1 := sb1.below b20
  replace so2 := so2.below b20
  replace sb2 := sb2.below b20
  replace bel := bel.trans (b20.mono bel.size)
  clear b20
  refine hK.out _ _ ⟨he, hr⟩ (fun hH21 => ?_)
  clear hK K
  refine wpAnyH_ready (rs := [10]) (by kernel_rfl) (by simp) ?_
  refine AllReadyH.cons (o := _) rfl (fun K hK => ?_) AllReadyH.nil
  simp only [List.getElem_toArray, List.getElem_cons_zero, List.getElem_cons_succ]
  go_simp
  with_reducible refine (same6_true _ _ _ _ _ _ _ _ _ _ _ _ _ _ _ _ _ _ _ _ _ _ _ _ _ _ _  so1 sb1 so2 sb2).mono ?_
  rintro e w22 ⟨rfl, b22⟩
  dsimp only
  replace hp := blk_u hp b22
  replace hd := blk_u hd b22
  replace he := blk_u he b22
  replace hr := blk_u hr b22
  replace ho := ho.below b22
  replace hb := hb.below b22
  replace hD := hD.below b22
  replace so1 := so1.below b22
  replace sb1 := sb1.below b22
  replace so2 := so2.below b22
  replace sb2 := sb2.below b22
  replace bel := bel.trans (b22.mono bel.size)
  clear b22
  refine hK.out _ _ ⟨he, hr⟩ (fun hH23 => ?_)
  clear hK K
  refine wpAnyH_take (i := 11) (v := ?_) rfl (by kernel_rfl) (by kernel_rfl) (by kernel_rfl) (fun _ _ _ h => h) (Or.inl ⟨by rfl, ?_⟩) hH23 ?_
  rotate_left
  · ((intro W hW; clear hW; go_simp) <;> with_reducible rfl)
  simp only [Act.put, List.getElem_toArray, List.getElem_cons_zero, List.getElem_cons_succ, List.setIfInBounds_toArray, List.set_cons_zero, List.set_cons_succ]
  refine wpAnyH_take (i := 12) (v := ?_) rfl (by kernel_rfl) (by kernel_rfl) (by kernel_rfl) (fun _ _ _ h => h) (Or.inl ⟨by rfl, ?_⟩) hH23 ?_
  rotate_left
  · ((intro W hW; clear hW; go_simp) <;> with_reducible rfl)
  simp only [Act.put, List.getElem_toArray, List.getElem_cons_zero, List.getElem_cons_succ, List.setIfInBounds_toArray, List.set_cons_zero, List.set_cons_succ]
  refine wpAnyH_take (i := 13) (v := ?_) rfl (by kernel_rfl) (by kernel_rfl) (by kernel_rfl) (fun _ _ _ h => h) (Or.inl ⟨by rfl, ?_⟩) hH23 ?_
  rotate_left
  · ((intro W hW; clear hW; go_simp) <;> with_reducible rfl)
  simp only [Act.put, List.getElem_toArray, List.getElem_cons_zero, List.getElem_cons_succ, List.setIfInBounds_toArray, List.set_cons_zero, List.set_cons_succ]
  refine wpAnyH_done (by kernel_rfl) ?_ _
  have R60 := Lib.hid (range_lit he 0 16 [.int .i64 tos, .int .i64 id, .int .i64 fl, .int .i64 pt, .int .i64 ttl, .int .i64 1, .int .u8 (a0.toNat : Int), .int .u8 (a1.toNat : Int), .int .u8 (a2.toNat : Int), .int .u8 (a3.toNat : Int), .int .u8 (a4.toNat : Int), .int .u8 (a5.toNat : Int), .int .u8 (a6.toNat : Int), .int .u8 (a7.toNat : Int), .slice Ao1 no co1, .slice Ab1 (8 + nd) cb1] rfl)
  go_wp2_with (first | ((with_reducible show wpList _ _ _ (⟨some 60, _, _, _, _, _⟩ :: _) _ _); refine wpList_load_rng 27 (.tmp 5) rfl (by kernel_rfl) _ _ rfl _ R60.out _ Try.underlying27 rfl (by kernel_rfl) ?_))
  try clear R60
  with_reducible refine (ipwhole_any _ _ _ _ _ _ _ _ _ _ _ _ _ _ _ _ _ _ _ _ _).mono ?_
  rintro e w24 ⟨rfl, b24⟩
  replace hp := blk_u hp b24
  replace hd := blk_u hd b24
  replace he := blk_u he b24
  replace hr := blk_u hr b24
  replace ho := ho.below b24
  replace hb := hb.below b24
  replace hD := hD.below b24
  replace so1 := so1.below b24
  replace sb1 := sb1.below b24
  replace so2 := so2.below b24
  replace sb2 := sb2.below b24
  replace bel := bel.trans (b24.mono bel.size)
  clear b24
  rw [HW.out]
  have R65 := Lib.hid (range_lit he 0 16 [.int .i64 tos, .int .i64 id, .int .i64 fl, .int .i64 pt, .int .i64 ttl, .int .i64 1, .int .u8 (a0.toNat : Int), .int .u8 (a1.toNat : Int), .int .u8 (a2.toNat : Int), .int .u8 (a3.toNat : Int), .int .u8 (a4.toNat : Int), .int .u8 (a5.toNat : Int), .int .u8 (a6.toNat : Int), .int .u8 (a7.toNat : Int), .slice Ao1 no co1, .slice Ab1 (8 + nd) cb1] rfl)
  go_wp2_with (first | ((with_reducible show wpList _ _ _ (⟨some 65, _, _, _, _, _⟩ :: _) _ _); refine wpList_load_rng 27 (.tmp 5) rfl (by kernel_rfl) _ _ rfl _ R65.out _ Try.underlying27 rfl (by kernel_rfl) ?_))
  try clear R65
  with_reducible refine (icget_good _ _ _ _ _ _ _ _ _ _ _ _ _ _ _ _ _ _ _ _ _ ld _ _ _ nd _ sb1 (by have := G3.out; omega) (ic_back HW.out G1.out G2.out E0.out E1.out ld) HD1.out).mono ?_
  rintro e w25 ⟨B3, d3, rfl, z3, ga3, b25⟩
  have av_z3_p := ga3.av (hlt hp)
  have av_z3_d := ga3.av (hlt hd)
  have av_z3_e := ga3.av (hlt he)
  have av_z3_r := ga3.av (hlt hr)
  replace hp := blk_u hp b25
  replace hd := blk_u hd b25
  replace he := blk_u he b25
  replace hr := blk_u hr b25
  replace ho := ho.below b25
  replace hb := hb.below b25
  replace hD := hD.below b25
  replace so1 := so1.below b25
  replace sb1 := sb1.below b25
  replace so2 := so2.below b25
  replace sb2 := sb2.below b25
  replace bel := bel.trans (b25.mono bel.size)
  clear b25
  replace z3 : Sl w25 (B3) (nd) (d3) (ld) := z3
  go_wp2_with (first | ((with_reducible show wpList _ _ _ (⟨some 9, _, _, _, _, _⟩ :: _) _ _); refine wpList_new_a rfl 34 rfl #[.int .i64 0, .int .i64 0, .int .u32 0, .slice none 0 0] (by kernel_rfl) ?_; intro g9 w26 ge hh bb; have d_p_x := ne_new (hlt hp) ge; have d_d_x := ne_new (hlt hd) ge; have d_e_x := ne_new (hlt he) ge; have d_r_x := ne_new (hlt hr) ge; have av_ho_x := ho.av_new ge; have av_hb_x := hb.av_new ge; have av_hD_x := hD.av_new ge; have av_so1_x := so1.av_new ge; have av_sb1_x := sb1.av_new ge; have av_so2_x := so2.av_new ge; have av_sb2_x := sb2.av_new ge; have av_z3_x := z3.av_new ge; have ox := Nat.le_trans bel.size ge; replace hp := blk_u hp bb; replace hd := blk_u hd bb; replace he := blk_u he bb; replace hr := blk_u hr bb; replace ho := ho.below bb; replace hb := hb.below bb; replace hD := hD.below bb; replace so1 := so1.below bb; replace sb1 := sb1.below bb; replace so2 := so2.below bb; replace sb2 := sb2.below bb; replace z3 := z3.below bb; replace bel := bel.trans (bb.mono bel.size); have hx := hh; clear hh ge bb) | ((with_reducible show wpList _ _ _ (⟨none, Op.store _ (.tmp 9) _, _, _, _, _⟩ :: _) _ _); refine wpList_store_blk rfl 34 (.tmp 9) (.tmp 67) rfl g9 rfl _ rfl _ 34 hx (by rfl) (by kernel_rfl) (by kernel_rfl) ?_; intro w27 hq gr; replace ho := ho.away av_ho_x gr; replace hb := hb.away av_hb_x gr; replace hD := hD.away av_hD_x gr; replace so1 := so1.away av_so1_x gr; replace sb1 := sb1.away av_sb1_x gr; replace so2 := so2.away av_so2_x gr; replace sb2 := sb2.away av_sb2_x gr; replace z3 := z3.away av_z3_x gr; replace hp := blk_a hp gr d_p_x; replace hd := blk_a hd gr d_d_x; replace he := blk_a he gr d_e_x; replace hr := blk_a hr gr d_r_x; replace bel := below_grown bel gr ox bel.size; clear hx; have hx := hq; clear hq gr))
  replace bel := bel.drew
  replace hp : w27.drew.heap[g2]? = _ := hp
  replace hd : w27.drew.heap[g3]? = _ := hd
  replace he : w27.drew.heap[g5]? = _ := he
  replace hr : w27.drew.heap[g7]? = _ := hr
  replace hx : w27.drew.heap[g9]? = _ := hx
  replace ho := ho.drew
  replace hb := hb.drew
  replace hD := hD.drew
  replace so1 := so1.drew
  replace sb1 := sb1.drew
  replace so2 := so2.drew
  replace sb2 := sb2.drew
  replace z3 := z3.drew
  refine wp_region_held_drew (S := fun W => W.heap[g9]? = some (.cells #[.int .i64 ty, .int .i64 cd, .int .u32 re, .slice B3 nd d3] 34 (0, 0)) ∧ W.heap[g3]? = some (.cells #[.int .i64 ty, .int .i64 cd, .int .u32 re, .slice D nd qd] 34 (0, 0))) (by kernel_rfl) ⟨hx, hd⟩ (fun hH => ?_)
  generalize w27.drew = w28 at bel hp hd he hr hx ho hb hD so1 sb1 so2 sb2 z3 hH ⊢
  refine wpAnyH_take (i := 0) (v := ?_) rfl (by kernel_rfl) (by kernel_rfl) (by kernel_rfl) (fun _ _ _ h => h) (Or.inl ⟨by rfl, ?_⟩) hH ?_
  rotate_left
  · ((intro W hW; clear hW; go_simp) <;> with_reducible rfl)
  simp only [Act.put, List.getElem_toArray, List.getElem_cons_zero, List.setIfInBounds_toArray, List.set_cons_zero, List.set_cons_succ]
  refine wpAnyH_take (i := 1) (v := ?_) rfl (by kernel_rfl) (by kernel_rfl) (by kernel_rfl) (fun _ _ _ h => h) (Or.inl ⟨by rfl, ?_⟩) hH ?_
  rotate_left
  · ((intro W hW; clear hW; go_simp) <;> with_reducible rfl)
  simp only [Act.put, List.getElem_toArray, List.getElem_cons_zero, List.getElem_cons_succ, List.setIfInBounds_toArray, List.set_cons_zero, List.set_cons_succ]
  refine wpAnyH_take (i := 2) (v := ?_) rfl (by kernel_rfl) (by kernel_rfl) (by kernel_rfl) (fun _ _ _ h => h) (Or.inl ⟨by rfl, ?_⟩) hH ?_
  rotate_left
  · ((intro W hW; clear hW; go_simp) <;> with_reducible rfl)
  simp only [Act.put, List.getElem_toArray, List.getElem_cons_zero, List.getElem_cons_succ, List.setIfInBounds_toArray, List.set_cons_zero, List.set_cons_succ]
  refine wpAnyH_take (i := 3) (v := .agg #[.int .i64 ty, .int .i64 cd, .int .u32 re, .slice B3 nd d3]) rfl (by kernel_rfl) (by kernel_rfl) (by kernel_rfl) (fun _ _ _ h => h) (yieldsIf_load_part (by kernel_rfl) 34 _ rfl g9 0 4 rfl _ 34 (0, 0) (fun W hW => hW.1) _ rfl _ Try.underlying34 rfl (by kernel_rfl)) hH ?_
  simp only [Act.put, List.getElem_toArray, List.getElem_cons_zero, List.getElem_cons_succ, List.setIfInBounds_toArray, List.set_cons_zero, List.set_cons_succ]
  refine wpAnyH_take (i := 4) (v := .agg #[.int .i64 ty, .int .i64 cd, .int .u32 re, .slice D nd qd]) rfl (by kernel_rfl) (by kernel_rfl) (by kernel_rfl) (fun _ _ _ h => h) (yieldsIf_load_part (by kernel_rfl) 34 _ rfl g3 0 4 rfl _ 34 (0, 0) (fun W hW => hW.2) _ rfl _ Try.underlying34 rfl (by kernel_rfl)) hH ?_
  simp only [Act.put, List.getElem_toArray, List.getElem_cons_zero, List.getElem_cons_succ, List.setIfInBounds_toArray, List.set_cons_zero, List.set_cons_succ]
  refine wpAnyH_ready (rs := [5]) (by kernel_rfl) (by simp) ?_
  refine AllReadyH.cons (o := _) rfl (fun K hK => ?_) AllReadyH.nil
  simp only [List.getElem_toArray, List.getElem_cons_zero, List.getElem_cons_succ]
  go_simp
  with_reducible refine (msg9_any _ _ _ _ _ _ _).mono ?_
  rintro e w29 ⟨rfl, b29⟩
  dsimp only
  replace hp := blk_u hp b29
  replace hd := blk_u hd b29
  replace he := blk_u he b29
  replace hr := blk_u hr b29
  replace hx := blk_u hx b29
  replace ho := ho.below b29
  replace hb := hb.below b29
  replace hD := hD.below b29
  replace so1 := so1.below b29
  replace sb1 := sb1.below b29
  replace so2 := so2.below b29
  replace sb2 := sb2.below b29
  replace z3 := z3.below b29
  replace bel := bel.trans (b29.mono bel.size)
  clear b29
  refine hK.out _ _ ⟨hx, hd⟩ (fun hH30 => ?_)
  clear hK K
  refine wpAnyH_ready (rs := [6]) (by kernel_rfl) (by simp) ?_
  refine AllReadyH.cons (o := _) rfl (fun K hK => ?_) AllReadyH.nil
  simp only [List.getElem_toArray, List.getElem_cons_zero, List.getElem_cons_succ]
  go_simp
  with_reducible refine (same9_true _ _ _ _ _ _ _ _ _ _  z3 hD).mono ?_
  rintro e w31 ⟨rfl, b31⟩
  dsimp only
  replace hp := blk_u hp b31
  replace hd := blk_u hd b31
  replace he := blk_u he b31
  replace hr := blk_u hr b31
  replace hx := blk_u hx b31
  replace ho := ho.below b31
  replace hb := hb.below b31
  replace hD := hD.below b31
  replace so1 := so1.below b31
  replace sb1 := sb1.below b31
  replace so2 := so2.below b31
  replace sb2 := sb2.below b31
  replace z3 := z3.below b31
  replace bel := bel.trans (b31.mono bel.size)
  clear b31
  refine hK.out _ _ ⟨hx, hd⟩ (fun hH32 => ?_)
  clear hK K
  refine wpAnyH_take (i := 7) (v := ?_) rfl (by kernel_rfl) (by kernel_rfl) (by kernel_rfl) (fun _ _ _ h => h) (Or.inl ⟨by rfl, ?_⟩) hH32 ?_
  rotate_left
  · ((intro W hW; clear hW; go_simp) <;> with_reducible rfl)
  simp only [Act.put, List.getElem_toArray, List.getElem_cons_zero, List.getElem_cons_succ, List.setIfInBounds_toArray, List.set_cons_zero, List.set_cons_succ]
  refine wpAnyH_take (i := 8) (v := ?_) rfl (by kernel_rfl) (by kernel_rfl) (by kernel_rfl) (fun _ _ _ h => h) (Or.inl ⟨by rfl, ?_⟩) hH32 ?_
  rotate_left
  · ((intro W hW; clear hW; go_simp) <;> with_reducible rfl)
  simp only [Act.put, List.getElem_toArray, List.getElem_cons_zero, List.getElem_cons_succ, List.setIfInBounds_toArray, List.set_cons_zero, List.set_cons_succ]
  refine wpAnyH_done (by kernel_rfl) ?_ _
  go_wp2_with fail
  go_ret
  exact ⟨rfl, bel⟩
theorem icmpWrites_walk (tos id fl pt ttl pr : Int) (a0 a1 a2 a3 a4 a5 a6 a7 : UInt8) (So : Option Addr) (no co : Nat) (lo : List UInt8) (Sb : Option Addr) (nb cb : Nat) (lb : List UInt8) (ty cd re : Int) (D : Option Addr) (nd qd : Nat) (ld : List UInt8) (w : World) (ho : Sl w So no co lo) (hb : Sl w Sb nb cb lb) (hd : Sl w D nd qd ld) (e0 : 0 ≤ re) (e1 : re < 4294967296) : Calls Try.prog 5 #[.agg #[.int .i64 tos, .int .i64 id, .int .i64 fl, .int .i64 pt, .int .i64 ttl, .int .i64 pr, .int .u8 (a0.toNat : Int), .int .u8 (a1.toNat : Int), .int .u8 (a2.toNat : Int), .int .u8 (a3.toNat : Int), .int .u8 (a4.toNat : Int), .int .u8 (a5.toNat : Int), .int .u8 (a6.toNat : Int), .int .u8 (a7.toNat : Int), .slice So no co, .slice Sb nb cb], .agg #[.int .i64 ty, .int .i64 cd, .int .u32 re, .slice D nd qd]] w fun e w' => e = .returned (.bool true) ∧ Below w.heap.size w w' := by
  by_cases h1 : nb ≤ 1600
  · by_cases h2 : no ≤ 60
    · by_cases h3 : nd ≤ 1600
      · by_cases he : (icPut tos id fl pt ttl a0 a1 a2 a3 a4 a5 a6 a7 lo ty cd re ld).2.2 = 0
        · obtain ⟨g1, g2, g3⟩ := icput_pos he
          rw [hd.1] at g3
          rcases (by decide : ∀ b : Bool, b = true ∨ b = false) (decide (pt = 0) && decide (fl % 2 = 0)) with hw | hw
          · exact icmpWrites_7 tos id fl pt ttl pr a0 a1 a2 a3 a4 a5 a6 a7 So no co lo Sb nb cb lb ty cd re D nd qd ld w ho hb hd h1 h2 h3 e0 e1 g1 g2 g3 hw
          · exact icmpWrites_6 tos id fl pt ttl pr a0 a1 a2 a3 a4 a5 a6 a7 So no co lo Sb nb cb lb ty cd re D nd qd ld w ho hb hd h1 h2 h3 e0 e1 g1 g2 g3 hw
        · exact icmpWrites_5 tos id fl pt ttl pr a0 a1 a2 a3 a4 a5 a6 a7 So no co lo Sb nb cb lb ty cd re D nd qd ld w ho hb hd h1 h2 h3 e0 e1 _ rfl he
      · exact icmpWrites_3 tos id fl pt ttl pr a0 a1 a2 a3 a4 a5 a6 a7 So no co lo Sb nb cb lb ty cd re D nd qd ld w h1 h2 (by omega)
    · exact icmpWrites_2 tos id fl pt ttl pr a0 a1 a2 a3 a4 a5 a6 a7 So no co lo Sb nb cb lb ty cd re D nd qd ld w h1 (by omega)
  · exact icmpWrites_1 tos id fl pt ttl pr a0 a1 a2 a3 a4 a5 a6 a7 So no co lo Sb nb cb lb ty cd re D nd qd ld w (by omega)
set_option linter.unusedVariables false in
set_option maxRecDepth 100000 in
set_option maxHeartbeats 16000000 in
theorem icmpKinds_a1 (ty cd re : Int) (D : Option Addr) (nd qd : Nat) (w : World) (g0 : ty = 0) (g2 : cd = 0) (e0 : 0 ≤ re) (e1 : re < 4294967296) : Calls Try.prog 9 #[.agg #[.int .i64 ty, .int .i64 cd, .int .u32 re, .slice D nd qd]] w fun e w' => e = .returned (.bool true) ∧ Below w.heap.size w w' := by
  have HE : Hid (echoT ty = true) := Lib.hid (by rw [g0]; decide)
  have HF : Hid (faultT ty = false) := Lib.hid (by rw [g0]; decide)
  have HC := Lib.hid g2
  have t0 : (ty == 0) = true := by simpa using g0
  have u0 : (ty != 0) = false := by simpa using g0
  have t2 : (cd == 0) = true := by simpa using g2
  have u2 : (cd != 0) = false := by simpa using g2
  clear g0 g2
  have bel := Below.refl w.heap.size w
  go_enter Try.func9, Try.ntmps9
  go_wp2_with (first | ((with_reducible show wpList _ _ _ (⟨some 1, _, _, _, _, _⟩ :: _) _ _); refine wpList_box_n rfl 34 (.tmp 0) rfl #[.int .i64 ty, .int .i64 cd, .int .u32 re, .slice D nd qd] rfl ?_; intro g1 w1 ge lt hh bb; have om := Nat.le_trans bel.size ge; replace bel := bel.trans (bb.mono bel.size); have hm := hh; clear hh lt ge bb))
  with_reducible refine (awake9 _).mono ?_
  rintro e w2 ⟨rfl, b2⟩
  replace hm := blk_u hm b2
  replace bel := bel.trans (b2.mono bel.size)
  clear b2
  have R8 := Lib.hid (range_lit hm 0 4 [.int .i64 ty, .int .i64 cd, .int .u32 re, .slice D nd qd] rfl)
  go_wp2_with (first | ((with_reducible show wpList _ _ _ (⟨some 8, _, _, _, _, _⟩ :: _) _ _); refine wpList_load_rng 34 (.tmp 1) rfl (by kernel_rfl) _ _ rfl _ R8.out _ Try.underlying34 rfl (by kernel_rfl) ?_))
  try clear R8
  with_reducible refine (icquery_2 _ _ _ _ _ _ HE.out HC.out e0 e1 _).mono ?_
  rintro e w3 ⟨rfl, b3⟩
  replace hm := blk_u hm b3
  replace bel := bel.trans (b3.mono bel.size)
  clear b3
  have R14 := Lib.hid (range_lit hm 0 4 [.int .i64 ty, .int .i64 cd, .int .u32 re, .slice D nd qd] rfl)
  go_wp2_with (first | ((with_reducible show wpList _ _ _ (⟨some 14, _, _, _, _, _⟩ :: _) _ _); refine wpList_load_rng 34 (.tmp 1) rfl (by kernel_rfl) _ _ rfl _ R14.out _ Try.underlying34 rfl (by kernel_rfl) ?_))
  try clear R14
  with_reducible refine (icfault_n _ _ _ _ _ _ false HF.out _).mono ?_
  rintro e w4 ⟨rfl, b4⟩
  replace hm := blk_u hm b4
  replace bel := bel.trans (b4.mono bel.size)
  clear b4
  have R21 := cell_lit hm 0 _ rfl
  have R30 := cell_lit hm 1 _ rfl
  have R40 := cell_lit hm 2 _ rfl
  go_wp2_with fail
  clear R21 R30 R40
  go_ret
  exact ⟨rfl, bel⟩
set_option linter.unusedVariables false in
set_option maxRecDepth 100000 in
set_option maxHeartbeats 16000000 in
theorem icmpKinds_a0 (ty cd re : Int) (D : Option Addr) (nd qd : Nat) (w : World) (g0 : ty = 0) (g2 : cd ≠ 0) (e0 : 0 ≤ re) (e1 : re < 4294967296) : Calls Try.prog 9 #[.agg #[.int .i64 ty, .int .i64 cd, .int .u32 re, .slice D nd qd]] w fun e w' => e = .returned (.bool true) ∧ Below w.heap.size w w' := by
  have HE : Hid (echoT ty = true) := Lib.hid (by rw [g0]; decide)
  have HF : Hid (faultT ty = false) := Lib.hid (by rw [g0]; decide)
  have HC := Lib.hid g2
  have t0 : (ty == 0) = true := by simpa using g0
  have u0 : (ty != 0) = false := by simpa using g0
  have t2 : (cd == 0) = false := by simpa using g2
  have u2 : (cd != 0) = true := by simpa using g2
  clear g0 g2
  have bel := Below.refl w.heap.size w
  go_enter Try.func9, Try.ntmps9
  go_wp2_with (first | ((with_reducible show wpList _ _ _ (⟨some 1, _, _, _, _, _⟩ :: _) _ _); refine wpList_box_n rfl 34 (.tmp 0) rfl #[.int .i64 ty, .int .i64 cd, .int .u32 re, .slice D nd qd] rfl ?_; intro g1 w1 ge lt hh bb; have om := Nat.le_trans bel.size ge; replace bel := bel.trans (bb.mono bel.size); have hm := hh; clear hh lt ge bb))
  with_reducible refine (awake9 _).mono ?_
  rintro e w2 ⟨rfl, b2⟩
  replace hm := blk_u hm b2
  replace bel := bel.trans (b2.mono bel.size)
  clear b2
  have R8 := Lib.hid (range_lit hm 0 4 [.int .i64 ty, .int .i64 cd, .int .u32 re, .slice D nd qd] rfl)
  go_wp2_with (first | ((with_reducible show wpList _ _ _ (⟨some 8, _, _, _, _, _⟩ :: _) _ _); refine wpList_load_rng 34 (.tmp 1) rfl (by kernel_rfl) _ _ rfl _ R8.out _ Try.underlying34 rfl (by kernel_rfl) ?_))
  try clear R8
  with_reducible refine (icquery_1 _ _ _ _ _ _ HE.out HC.out _).mono ?_
  rintro e w3 ⟨rfl, b3⟩
  replace hm := blk_u hm b3
  replace bel := bel.trans (b3.mono bel.size)
  clear b3
  have R21 := cell_lit hm 0 _ rfl
  have R30 := cell_lit hm 1 _ rfl
  go_wp2_with fail
  clear R21 R30
  go_ret
  exact ⟨rfl, bel⟩
set_option linter.unusedVariables false in
set_option maxRecDepth 100000 in
set_option maxHeartbeats 16000000 in
theorem icmpKinds_b1 (ty cd re : Int) (D : Option Addr) (nd qd : Nat) (w : World) (g0 : ty ≠ 0) (g1 : ty = 8) (g2 : cd = 0) (e0 : 0 ≤ re) (e1 : re < 4294967296) : Calls Try.prog 9 #[.agg #[.int .i64 ty, .int .i64 cd, .int .u32 re, .slice D nd qd]] w fun e w' => e = .returned (.bool true) ∧ Below w.heap.size w w' := by
  have HE : Hid (echoT ty = true) := Lib.hid (by rw [g1]; decide)
  have HF : Hid (faultT ty = false) := Lib.hid (by rw [g1]; decide)
  have HC := Lib.hid g2
  have t0 : (ty == 0) = false := by simpa using g0
  have u0 : (ty != 0) = true := by simpa using g0
  have t1 : (ty == 8) = true := by simpa using g1
  have u1 : (ty != 8) = false := by simpa using g1
  have t2 : (cd == 0) = true := by simpa using g2
  have u2 : (cd != 0) = false := by simpa using g2
  clear g0 g2 g1
  have bel := Below.refl w.heap.size w
  go_enter Try.func9, Try.ntmps9
  go_wp2_with (first | ((with_reducible show wpList _ _ _ (⟨some 1, _, _, _, _, _⟩ :: _) _ _); refine wpList_box_n rfl 34 (.tmp 0) rfl #[.int .i64 ty, .int .i64 cd, .int .u32 re, .slice D nd qd] rfl ?_; intro g1 w1 ge lt hh bb; have om := Nat.le_trans bel.size ge; replace bel := bel.trans (bb.mono bel.size); have hm := hh; clear hh lt ge bb))
  with_reducible refine (awake9 _).mono ?_
  rintro e w2 ⟨rfl, b2⟩
  replace hm := blk_u hm b2
  replace bel := bel.trans (b2.mono bel.size)
  clear b2
  have R8 := Lib.hid (range_lit hm 0 4 [.int .i64 ty, .int .i64 cd, .int .u32 re, .slice D nd qd] rfl)
  go_wp2_with (first | ((with_reducible show wpList _ _ _ (⟨some 8, _, _, _, _, _⟩ :: _) _ _); refine wpList_load_rng 34 (.tmp 1) rfl (by kernel_rfl) _ _ rfl _ R8.out _ Try.underlying34 rfl (by kernel_rfl) ?_))
  try clear R8
  with_reducible refine (icquery_2 _ _ _ _ _ _ HE.out HC.out e0 e1 _).mono ?_
  rintro e w3 ⟨rfl, b3⟩
  replace hm := blk_u hm b3
  replace bel := bel.trans (b3.mono bel.size)
  clear b3
  have R14 := Lib.hid (range_lit hm 0 4 [.int .i64 ty, .int .i64 cd, .int .u32 re, .slice D nd qd] rfl)
  go_wp2_with (first | ((with_reducible show wpList _ _ _ (⟨some 14, _, _, _, _, _⟩ :: _) _ _); refine wpList_load_rng 34 (.tmp 1) rfl (by kernel_rfl) _ _ rfl _ R14.out _ Try.underlying34 rfl (by kernel_rfl) ?_))
  try clear R14
  with_reducible refine (icfault_n _ _ _ _ _ _ false HF.out _).mono ?_
  rintro e w4 ⟨rfl, b4⟩
  replace hm := blk_u hm b4
  replace bel := bel.trans (b4.mono bel.size)
  clear b4
  have R21 := cell_lit hm 0 _ rfl
  have R25 := cell_lit hm 0 _ rfl
  have R30 := cell_lit hm 1 _ rfl
  have R40 := cell_lit hm 2 _ rfl
  go_wp2_with fail
  clear R21 R25 R30 R40
  go_ret
  exact ⟨rfl, bel⟩
set_option linter.unusedVariables false in
set_option maxRecDepth 100000 in
set_option maxHeartbeats 16000000 in
theorem icmpKinds_b0 (ty cd re : Int) (D : Option Addr) (nd qd : Nat) (w : World) (g0 : ty ≠ 0) (g1 : ty = 8) (g2 : cd ≠ 0) (e0 : 0 ≤ re) (e1 : re < 4294967296) : Calls Try.prog 9 #[.agg #[.int .i64 ty, .int .i64 cd, .int .u32 re, .slice D nd qd]] w fun e w' => e = .returned (.bool true) ∧ Below w.heap.size w w' := by
  have HE : Hid (echoT ty = true) := Lib.hid (by rw [g1]; decide)
  have HF : Hid (faultT ty = false) := Lib.hid (by rw [g1]; decide)
  have HC := Lib.hid g2
  have t0 : (ty == 0) = false := by simpa using g0
  have u0 : (ty != 0) = true := by simpa using g0
  have t1 : (ty == 8) = true := by simpa using g1
  have u1 : (ty != 8) = false := by simpa using g1
  have t2 : (cd == 0) = false := by simpa using g2
  have u2 : (cd != 0) = true := by simpa using g2
  clear g0 g2 g1
  have bel := Below.refl w.heap.size w
  go_enter Try.func9, Try.ntmps9
  go_wp2_with (first | ((with_reducible show wpList _ _ _ (⟨some 1, _, _, _, _, _⟩ :: _) _ _); refine wpList_box_n rfl 34 (.tmp 0) rfl #[.int .i64 ty, .int .i64 cd, .int .u32 re, .slice D nd qd] rfl ?_; intro g1 w1 ge lt hh bb; have om := Nat.le_trans bel.size ge; replace bel := bel.trans (bb.mono bel.size); have hm := hh; clear hh lt ge bb))
  with_reducible refine (awake9 _).mono ?_
  rintro e w2 ⟨rfl, b2⟩
  replace hm := blk_u hm b2
  replace bel := bel.trans (b2.mono bel.size)
  clear b2
  have R8 := Lib.hid (range_lit hm 0 4 [.int .i64 ty, .int .i64 cd, .int .u32 re, .slice D nd qd] rfl)
  go_wp2_with (first | ((with_reducible show wpList _ _ _ (⟨some 8, _, _, _, _, _⟩ :: _) _ _); refine wpList_load_rng 34 (.tmp 1) rfl (by kernel_rfl) _ _ rfl _ R8.out _ Try.underlying34 rfl (by kernel_rfl) ?_))
  try clear R8
  with_reducible refine (icquery_1 _ _ _ _ _ _ HE.out HC.out _).mono ?_
  rintro e w3 ⟨rfl, b3⟩
  replace hm := blk_u hm b3
  replace bel := bel.trans (b3.mono bel.size)
  clear b3
  have R21 := cell_lit hm 0 _ rfl
  have R25 := cell_lit hm 0 _ rfl
  have R30 := cell_lit hm 1 _ rfl
  go_wp2_with fail
  clear R21 R25 R30
  go_ret
  exact ⟨rfl, bel⟩
set_option linter.unusedVariables false in
set_option maxRecDepth 100000 in
set_option maxHeartbeats 16000000 in
theorem icmpKinds_c (ty cd re : Int) (D : Option Addr) (nd qd : Nat) (w : World) (g0 : ty ≠ 0) (g1 : ty ≠ 8) (e0 : 0 ≤ re) (e1 : re < 4294967296) : Calls Try.prog 9 #[.agg #[.int .i64 ty, .int .i64 cd, .int .u32 re, .slice D nd qd]] w fun e w' => e = .returned (.bool true) ∧ Below w.heap.size w w' := by
  have HE : Hid (echoT ty = false) := Lib.hid (by unfold echoT; rw [decide_eq_false g0, decide_eq_false g1]; rfl)
  have t0 : (ty == 0) = false := by simpa using g0
  have u0 : (ty != 0) = true := by simpa using g0
  have t1 : (ty == 8) = false := by simpa using g1
  have u1 : (ty != 8) = true := by simpa using g1
  clear g0 g1
  have bel := Below.refl w.heap.size w
  go_enter Try.func9, Try.ntmps9
  go_wp2_with (first | ((with_reducible show wpList _ _ _ (⟨some 1, _, _, _, _, _⟩ :: _) _ _); refine wpList_box_n rfl 34 (.tmp 0) rfl #[.int .i64 ty, .int .i64 cd, .int .u32 re, .slice D nd qd] rfl ?_; intro g1 w1 ge lt hh bb; have om := Nat.le_trans bel.size ge; replace bel := bel.trans (bb.mono bel.size); have hm := hh; clear hh lt ge bb))
  with_reducible refine (awake9 _).mono ?_
  rintro e w2 ⟨rfl, b2⟩
  replace hm := blk_u hm b2
  replace bel := bel.trans (b2.mono bel.size)
  clear b2
  have R8 := Lib.hid (range_lit hm 0 4 [.int .i64 ty, .int .i64 cd, .int .u32 re, .slice D nd qd] rfl)
  go_wp2_with (first | ((with_reducible show wpList _ _ _ (⟨some 8, _, _, _, _, _⟩ :: _) _ _); refine wpList_load_rng 34 (.tmp 1) rfl (by kernel_rfl) _ _ rfl _ R8.out _ Try.underlying34 rfl (by kernel_rfl) ?_))
  try clear R8
  with_reducible refine (icquery_0 _ _ _ _ _ _ HE.out _).mono ?_
  rintro e w3 ⟨rfl, b3⟩
  replace hm := blk_u hm b3
  replace bel := bel.trans (b3.mono bel.size)
  clear b3
  have R21 := cell_lit hm 0 _ rfl
  have R25 := cell_lit hm 0 _ rfl
  go_wp2_with fail
  clear R21 R25
  go_ret
  exact ⟨rfl, bel⟩
theorem icmpKinds_walk (ty cd re : Int) (D : Option Addr) (nd qd : Nat) (w : World) (e0 : 0 ≤ re) (e1 : re < 4294967296) : Calls Try.prog 9 #[.agg #[.int .i64 ty, .int .i64 cd, .int .u32 re, .slice D nd qd]] w fun e w' => e = .returned (.bool true) ∧ Below w.heap.size w w' := by
  by_cases g0 : ty = 0
  · by_cases g2 : cd = 0
    · exact icmpKinds_a1 ty cd re D nd qd w g0 g2 e0 e1
    · exact icmpKinds_a0 ty cd re D nd qd w g0 g2 e0 e1
  by_cases g1 : ty = 8
  · by_cases g2 : cd = 0
    · exact icmpKinds_b1 ty cd re D nd qd w g0 g1 g2 e0 e1
    · exact icmpKinds_b0 ty cd re D nd qd w g0 g1 g2 e0 e1
  · exact icmpKinds_c ty cd re D nd qd w g0 g1 e0 e1
end Go.Proofs.Ytfmllopeeiecjaa
