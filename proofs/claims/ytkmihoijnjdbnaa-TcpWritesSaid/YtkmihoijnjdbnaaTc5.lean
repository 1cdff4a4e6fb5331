/- The reference's PutTcp. -/
import Derived.Test.YtkmihoijnjdbnaaTc4
namespace Go.Proofs.Ytkmihoijnjdbnaa
open Go.RowKit

theorem rfit_any (m v : Int) (w : World) : Calls Try.prog 33 #[.int .i64 v, .int .i64 m] w fun e w' => e = .returned (.bool (inOk m v)) ∧ w = w' := rfits_any v m w
/-- The sum's two bytes are written last; until then they are noughts. -/
theorem tc_ck (a0 a1 a2 a3 a4 a5 a6 a7 : UInt8) (sf st se ak fg wn ug : Int) (q b : List UInt8) : ck (l4Ps a0 a1 a2 a3 a4 a5 a6 a7 6 (20 + (q.length : Int) + (b.length : Int)) ++ ([] ++ two sf ++ two st ++ four se ++ four ak ++ [byteOf (80 + 4 * (q.length : Int)), byteOf fg] ++ two wn ++ [0, 0] ++ two ug ++ q ++ b)) = tcSum a0 a1 a2 a3 a4 a5 a6 a7 sf st se ak fg wn ug q b := by
  unfold tcSum
  refine ck_of_ws ?_
  have e1 : l4Ps a0 a1 a2 a3 a4 a5 a6 a7 6 (20 + (q.length : Int) + (b.length : Int)) ++ ([] ++ two sf ++ two st ++ four se ++ four ak ++ [byteOf (80 + 4 * (q.length : Int)), byteOf fg] ++ two wn ++ [0, 0] ++ two ug ++ q ++ b) = (l4Ps a0 a1 a2 a3 a4 a5 a6 a7 6 (20 + (q.length : Int) + (b.length : Int)) ++ tcA sf st se ak q.length fg wn) ++ 0 :: 0 :: (two ug ++ q ++ b) := by simp [tcA]
  have e2 : [l4Ps a0 a1 a2 a3 a4 a5 a6 a7 6 (20 + (q.length : Int) + (b.length : Int)), tcA sf st se ak q.length fg wn, two ug ++ q ++ b].flatten = (l4Ps a0 a1 a2 a3 a4 a5 a6 a7 6 (20 + (q.length : Int) + (b.length : Int)) ++ tcA sf st se ak q.length fg wn) ++ (two ug ++ q ++ b) := by simp
  rw [e1, e2, ws_at _ _ _ _ (by rw [List.length_append, tcA_len]; simp [l4Ps, two]), ws_even _ (two ug ++ q ++ b) (by rw [List.length_append, tcA_len]; simp [l4Ps, two])]
  simp
set_option linter.unusedVariables false in
set_option maxRecDepth 100000 in
set_option maxHeartbeats 16000000 in
theorem rtcput_0 (tos id fl pt ttl pr : Int) (a0 a1 a2 a3 a4 a5 a6 a7 : UInt8) (So Sb : Option Addr) (no co nb cb : Nat) (sf st se ak fg wn ug : Int) (Q : Option Addr) (nq cq : Nat) (D : Option Addr) (nd cd : Nat) (lo lq ld : List UInt8) (w : World) (ho : Sl w So no co lo) (hv : Sl w Q nq cq lq) (hb : Sl w D nd cd ld) (f0 : inOk 65535 sf = false) : Calls Try.prog 14 #[.agg #[.int .i64 tos, .int .i64 id, .int .i64 fl, .int .i64 pt, .int .i64 ttl, .int .i64 pr, .int .u8 (a0.toNat : Int), .int .u8 (a1.toNat : Int), .int .u8 (a2.toNat : Int), .int .u8 (a3.toNat : Int), .int .u8 (a4.toNat : Int), .int .u8 (a5.toNat : Int), .int .u8 (a6.toNat : Int), .int .u8 (a7.toNat : Int), .slice So no co, .slice Sb nb cb], .agg #[.int .i64 sf, .int .i64 st, .int .u32 se, .int .u32 ak, .int .i64 fg, .int .i64 wn, .int .i64 ug, .slice Q nq cq, .slice D nd cd]] w (PkPost (tcPut tos id fl pt ttl a0 a1 a2 a3 a4 a5 a6 a7 lo sf st se ak fg wn ug lq ld) w) := by
  have HP : Hid (tcPut tos id fl pt ttl a0 a1 a2 a3 a4 a5 a6 a7 lo sf st se ak fg wn ug lq ld = pkNone 1) := Lib.hid (if_pos (by rw [hv.1]; unfold segOk; simp [f0]))
  have F0 := Lib.hid f0
  clear f0
  clear ho hv hb
  have bel := Below.refl w.heap.size w
  go_enter Try.func14, Try.ntmps14
  go_wp2_with (first | ((with_reducible show wpList _ _ _ (⟨some 2, _, _, _, _, _⟩ :: _) _ _); refine wpList_box_n rfl 40 (.tmp 0) rfl #[.int .i64 tos, .int .i64 id, .int .i64 fl, .int .i64 pt, .int .i64 ttl, .int .i64 pr, .int .u8 (a0.toNat : Int), .int .u8 (a1.toNat : Int), .int .u8 (a2.toNat : Int), .int .u8 (a3.toNat : Int), .int .u8 (a4.toNat : Int), .int .u8 (a5.toNat : Int), .int .u8 (a6.toNat : Int), .int .u8 (a7.toNat : Int), .slice So no co, .slice Sb nb cb] rfl ?_; intro g2 w1 ge lt hh bb; have op := Nat.le_trans bel.size ge; replace bel := bel.trans (bb.mono bel.size); have hp := hh; clear hh lt ge bb) | ((with_reducible show wpList _ _ _ (⟨some 3, _, _, _, _, _⟩ :: _) _ _); refine wpList_box_n rfl 37 (.tmp 1) rfl #[.int .i64 sf, .int .i64 st, .int .u32 se, .int .u32 ak, .int .i64 fg, .int .i64 wn, .int .i64 ug, .slice Q nq cq, .slice D nd cd] rfl ?_; intro g3 w2 ge lt hh bb; have d_p_d := ne_new (hlt hp) ge; have od := Nat.le_trans bel.size ge; replace hp := blk_u hp bb; replace bel := bel.trans (bb.mono bel.size); have hd := hh; clear hh lt ge bb) | ((with_reducible show wpList _ _ _ (⟨some 4, _, _, _, _, _⟩ :: _) _ _); refine wpList_new_a rfl 40 rfl #[.int .i64 0, .int .i64 0, .int .i64 0, .int .i64 0, .int .i64 0, .int .i64 0, .int .u8 0, .int .u8 0, .int .u8 0, .int .u8 0, .int .u8 0, .int .u8 0, .int .u8 0, .int .u8 0, .slice none 0 0, .slice none 0 0] (by kernel_rfl) ?_; intro g4 w3 ge hh bb; have d_p_z := ne_new (hlt hp) ge; have d_d_z := ne_new (hlt hd) ge; have oz := Nat.le_trans bel.size ge; replace hp := blk_u hp bb; replace hd := blk_u hd bb; replace bel := bel.trans (bb.mono bel.size); have hz := hh; clear hh ge bb; have R9 := cell_lit hd 0 _ rfl))
  try clear R9
  with_reducible refine (rfit_any 65535 _ _).mono ?_
  rintro e _ ⟨rfl, rfl⟩
  rw [F0.out]
  go_wp2_with (first | ((with_reducible show wpList _ _ _ (⟨none, Op.store _ (.tmp 4) _, _, _, _, _⟩ :: _) _ _); refine wpList_store_blk rfl 40 (.tmp 4) (.tmp 49) rfl g4 rfl _ rfl _ 40 hz (by rfl) (by kernel_rfl) (by kernel_rfl) ?_; intro w4 hq gr; replace hp := blk_a hp gr d_p_z; replace hd := blk_a hd gr d_d_z; replace bel := below_grown bel gr oz bel.size; clear hz; have hz := hq; clear hq gr))
  exact bodyPost_ret (results_cell_tmp_row rfl _ _ _ _ _ _ _ rfl hz Try.underlying40 rfl (by kernel_rfl) (.int .i64 1) rfl) rfl (by rw [HP.out]; exact PkPost.none bel)
set_option linter.unusedVariables false in
set_option maxRecDepth 100000 in
set_option maxHeartbeats 16000000 in
theorem rtcput_1 (tos id fl pt ttl pr : Int) (a0 a1 a2 a3 a4 a5 a6 a7 : UInt8) (So Sb : Option Addr) (no co nb cb : Nat) (sf st se ak fg wn ug : Int) (Q : Option Addr) (nq cq : Nat) (D : Option Addr) (nd cd : Nat) (lo lq ld : List UInt8) (w : World) (ho : Sl w So no co lo) (hv : Sl w Q nq cq lq) (hb : Sl w D nd cd ld) (f0 : inOk 65535 sf = true) (f1 : inOk 65535 st = false) : Calls Try.prog 14 #[.agg #[.int .i64 tos, .int .i64 id, .int .i64 fl, .int .i64 pt, .int .i64 ttl, .int .i64 pr, .int .u8 (a0.toNat : Int), .int .u8 (a1.toNat : Int), .int .u8 (a2.toNat : Int), .int .u8 (a3.toNat : Int), .int .u8 (a4.toNat : Int), .int .u8 (a5.toNat : Int), .int .u8 (a6.toNat : Int), .int .u8 (a7.toNat : Int), .slice So no co, .slice Sb nb cb], .agg #[.int .i64 sf, .int .i64 st, .int .u32 se, .int .u32 ak, .int .i64 fg, .int .i64 wn, .int .i64 ug, .slice Q nq cq, .slice D nd cd]] w (PkPost (tcPut tos id fl pt ttl a0 a1 a2 a3 a4 a5 a6 a7 lo sf st se ak fg wn ug lq ld) w) := by
  have HP : Hid (tcPut tos id fl pt ttl a0 a1 a2 a3 a4 a5 a6 a7 lo sf st se ak fg wn ug lq ld = pkNone 1) := Lib.hid (if_pos (by rw [hv.1]; unfold segOk; simp [f0, f1]))
  have F0 := Lib.hid f0
  have F1 := Lib.hid f1
  clear f0 f1
  clear ho hv hb
  have bel := Below.refl w.heap.size w
  go_enter Try.func14, Try.ntmps14
  go_wp2_with (first | ((with_reducible show wpList _ _ _ (⟨some 2, _, _, _, _, _⟩ :: _) _ _); refine wpList_box_n rfl 40 (.tmp 0) rfl #[.int .i64 tos, .int .i64 id, .int .i64 fl, .int .i64 pt, .int .i64 ttl, .int .i64 pr, .int .u8 (a0.toNat : Int), .int .u8 (a1.toNat : Int), .int .u8 (a2.toNat : Int), .int .u8 (a3.toNat : Int), .int .u8 (a4.toNat : Int), .int .u8 (a5.toNat : Int), .int .u8 (a6.toNat : Int), .int .u8 (a7.toNat : Int), .slice So no co, .slice Sb nb cb] rfl ?_; intro g2 w1 ge lt hh bb; have op := Nat.le_trans bel.size ge; replace bel := bel.trans (bb.mono bel.size); have hp := hh; clear hh lt ge bb) | ((with_reducible show wpList _ _ _ (⟨some 3, _, _, _, _, _⟩ :: _) _ _); refine wpList_box_n rfl 37 (.tmp 1) rfl #[.int .i64 sf, .int .i64 st, .int .u32 se, .int .u32 ak, .int .i64 fg, .int .i64 wn, .int .i64 ug, .slice Q nq cq, .slice D nd cd] rfl ?_; intro g3 w2 ge lt hh bb; have d_p_d := ne_new (hlt hp) ge; have od := Nat.le_trans bel.size ge; replace hp := blk_u hp bb; replace bel := bel.trans (bb.mono bel.size); have hd := hh; clear hh lt ge bb) | ((with_reducible show wpList _ _ _ (⟨some 4, _, _, _, _, _⟩ :: _) _ _); refine wpList_new_a rfl 40 rfl #[.int .i64 0, .int .i64 0, .int .i64 0, .int .i64 0, .int .i64 0, .int .i64 0, .int .u8 0, .int .u8 0, .int .u8 0, .int .u8 0, .int .u8 0, .int .u8 0, .int .u8 0, .int .u8 0, .slice none 0 0, .slice none 0 0] (by kernel_rfl) ?_; intro g4 w3 ge hh bb; have d_p_z := ne_new (hlt hp) ge; have d_d_z := ne_new (hlt hd) ge; have oz := Nat.le_trans bel.size ge; replace hp := blk_u hp bb; replace hd := blk_u hd bb; replace bel := bel.trans (bb.mono bel.size); have hz := hh; clear hh ge bb; have R9 := cell_lit hd 0 _ rfl))
  try clear R9
  with_reducible refine (rfit_any 65535 _ _).mono ?_
  rintro e _ ⟨rfl, rfl⟩
  rw [F0.out]
  have R14 := cell_lit hd 1 _ rfl
  go_wp2_with fail
  clear R14
  with_reducible refine (rfit_any 65535 _ _).mono ?_
  rintro e _ ⟨rfl, rfl⟩
  rw [F1.out]
  go_wp2_with (first | ((with_reducible show wpList _ _ _ (⟨none, Op.store _ (.tmp 4) _, _, _, _, _⟩ :: _) _ _); refine wpList_store_blk rfl 40 (.tmp 4) (.tmp 49) rfl g4 rfl _ rfl _ 40 hz (by rfl) (by kernel_rfl) (by kernel_rfl) ?_; intro w4 hq gr; replace hp := blk_a hp gr d_p_z; replace hd := blk_a hd gr d_d_z; replace bel := below_grown bel gr oz bel.size; clear hz; have hz := hq; clear hq gr))
  exact bodyPost_ret (results_cell_tmp_row rfl _ _ _ _ _ _ _ rfl hz Try.underlying40 rfl (by kernel_rfl) (.int .i64 1) rfl) rfl (by rw [HP.out]; exact PkPost.none bel)
set_option linter.unusedVariables false in
set_option maxRecDepth 100000 in
set_option maxHeartbeats 16000000 in
theorem rtcput_2 (tos id fl pt ttl pr : Int) (a0 a1 a2 a3 a4 a5 a6 a7 : UInt8) (So Sb : Option Addr) (no co nb cb : Nat) (sf st se ak fg wn ug : Int) (Q : Option Addr) (nq cq : Nat) (D : Option Addr) (nd cd : Nat) (lo lq ld : List UInt8) (w : World) (ho : Sl w So no co lo) (hv : Sl w Q nq cq lq) (hb : Sl w D nd cd ld) (f0 : inOk 65535 sf = true) (f1 : inOk 65535 st = true) (f2 : inOk 63 fg = false) : Calls Try.prog 14 #[.agg #[.int .i64 tos, .int .i64 id, .int .i64 fl, .int .i64 pt, .int .i64 ttl, .int .i64 pr, .int .u8 (a0.toNat : Int), .int .u8 (a1.toNat : Int), .int .u8 (a2.toNat : Int), .int .u8 (a3.toNat : Int), .int .u8 (a4.toNat : Int), .int .u8 (a5.toNat : Int), .int .u8 (a6.toNat : Int), .int .u8 (a7.toNat : Int), .slice So no co, .slice Sb nb cb], .agg #[.int .i64 sf, .int .i64 st, .int .u32 se, .int .u32 ak, .int .i64 fg, .int .i64 wn, .int .i64 ug, .slice Q nq cq, .slice D nd cd]] w (PkPost (tcPut tos id fl pt ttl a0 a1 a2 a3 a4 a5 a6 a7 lo sf st se ak fg wn ug lq ld) w) := by
  have HP : Hid (tcPut tos id fl pt ttl a0 a1 a2 a3 a4 a5 a6 a7 lo sf st se ak fg wn ug lq ld = pkNone 1) := Lib.hid (if_pos (by rw [hv.1]; unfold segOk; simp [f0, f1, f2]))
  have F0 := Lib.hid f0
  have F1 := Lib.hid f1
  have F2 := Lib.hid f2
  clear f0 f1 f2
  clear ho hv hb
  have bel := Below.refl w.heap.size w
  go_enter Try.func14, Try.ntmps14
  go_wp2_with (first | ((with_reducible show wpList _ _ _ (⟨some 2, _, _, _, _, _⟩ :: _) _ _); refine wpList_box_n rfl 40 (.tmp 0) rfl #[.int .i64 tos, .int .i64 id, .int .i64 fl, .int .i64 pt, .int .i64 ttl, .int .i64 pr, .int .u8 (a0.toNat : Int), .int .u8 (a1.toNat : Int), .int .u8 (a2.toNat : Int), .int .u8 (a3.toNat : Int), .int .u8 (a4.toNat : Int), .int .u8 (a5.toNat : Int), .int .u8 (a6.toNat : Int), .int .u8 (a7.toNat : Int), .slice So no co, .slice Sb nb cb] rfl ?_; intro g2 w1 ge lt hh bb; have op := Nat.le_trans bel.size ge; replace bel := bel.trans (bb.mono bel.size); have hp := hh; clear hh lt ge bb) | ((with_reducible show wpList _ _ _ (⟨some 3, _, _, _, _, _⟩ :: _) _ _); refine wpList_box_n rfl 37 (.tmp 1) rfl #[.int .i64 sf, .int .i64 st, .int .u32 se, .int .u32 ak, .int .i64 fg, .int .i64 wn, .int .i64 ug, .slice Q nq cq, .slice D nd cd] rfl ?_; intro g3 w2 ge lt hh bb; have d_p_d := ne_new (hlt hp) ge; have od := Nat.le_trans bel.size ge; replace hp := blk_u hp bb; replace bel := bel.trans (bb.mono bel.size); have hd := hh; clear hh lt ge bb) | ((with_reducible show wpList _ _ _ (⟨some 4, _, _, _, _, _⟩ :: _) _ _); refine wpList_new_a rfl 40 rfl #[.int .i64 0, .int .i64 0, .int .i64 0, .int .i64 0, .int .i64 0, .int .i64 0, .int .u8 0, .int .u8 0, .int .u8 0, .int .u8 0, .int .u8 0, .int .u8 0, .int .u8 0, .int .u8 0, .slice none 0 0, .slice none 0 0] (by kernel_rfl) ?_; intro g4 w3 ge hh bb; have d_p_z := ne_new (hlt hp) ge; have d_d_z := ne_new (hlt hd) ge; have oz := Nat.le_trans bel.size ge; replace hp := blk_u hp bb; replace hd := blk_u hd bb; replace bel := bel.trans (bb.mono bel.size); have hz := hh; clear hh ge bb; have R9 := cell_lit hd 0 _ rfl))
  try clear R9
  with_reducible refine (rfit_any 65535 _ _).mono ?_
  rintro e _ ⟨rfl, rfl⟩
  rw [F0.out]
  have R14 := cell_lit hd 1 _ rfl
  go_wp2_with fail
  clear R14
  with_reducible refine (rfit_any 65535 _ _).mono ?_
  rintro e _ ⟨rfl, rfl⟩
  rw [F1.out]
  have R20 := cell_lit hd 4 _ rfl
  go_wp2_with fail
  clear R20
  with_reducible refine (rfit_any 63 _ _).mono ?_
  rintro e _ ⟨rfl, rfl⟩
  rw [F2.out]
  go_wp2_with (first | ((with_reducible show wpList _ _ _ (⟨none, Op.store _ (.tmp 4) _, _, _, _, _⟩ :: _) _ _); refine wpList_store_blk rfl 40 (.tmp 4) (.tmp 49) rfl g4 rfl _ rfl _ 40 hz (by rfl) (by kernel_rfl) (by kernel_rfl) ?_; intro w4 hq gr; replace hp := blk_a hp gr d_p_z; replace hd := blk_a hd gr d_d_z; replace bel := below_grown bel gr oz bel.size; clear hz; have hz := hq; clear hq gr))
  exact bodyPost_ret (results_cell_tmp_row rfl _ _ _ _ _ _ _ rfl hz Try.underlying40 rfl (by kernel_rfl) (.int .i64 1) rfl) rfl (by rw [HP.out]; exact PkPost.none bel)
set_option linter.unusedVariables false in
set_option maxRecDepth 100000 in
set_option maxHeartbeats 16000000 in
theorem rtcput_3 (tos id fl pt ttl pr : Int) (a0 a1 a2 a3 a4 a5 a6 a7 : UInt8) (So Sb : Option Addr) (no co nb cb : Nat) (sf st se ak fg wn ug : Int) (Q : Option Addr) (nq cq : Nat) (D : Option Addr) (nd cd : Nat) (lo lq ld : List UInt8) (w : World) (ho : Sl w So no co lo) (hv : Sl w Q nq cq lq) (hb : Sl w D nd cd ld) (f0 : inOk 65535 sf = true) (f1 : inOk 65535 st = true) (f2 : inOk 63 fg = true) (f3 : inOk 65535 wn = false) : Calls Try.prog 14 #[.agg #[.int .i64 tos, .int .i64 id, .int .i64 fl, .int .i64 pt, .int .i64 ttl, .int .i64 pr, .int .u8 (a0.toNat : Int), .int .u8 (a1.toNat : Int), .int .u8 (a2.toNat : Int), .int .u8 (a3.toNat : Int), .int .u8 (a4.toNat : Int), .int .u8 (a5.toNat : Int), .int .u8 (a6.toNat : Int), .int .u8 (a7.toNat : Int), .slice So no co, .slice Sb nb cb], .agg #[.int .i64 sf, .int .i64 st, .int .u32 se, .int .u32 ak, .int .i64 fg, .int .i64 wn, .int .i64 ug, .slice Q nq cq, .slice D nd cd]] w (PkPost (tcPut tos id fl pt ttl a0 a1 a2 a3 a4 a5 a6 a7 lo sf st se ak fg wn ug lq ld) w) := by
  have HP : Hid (tcPut tos id fl pt ttl a0 a1 a2 a3 a4 a5 a6 a7 lo sf st se ak fg wn ug lq ld = pkNone 1) := Lib.hid (if_pos (by rw [hv.1]; unfold segOk; simp [f0, f1, f2, f3]))
  have F0 := Lib.hid f0
  have F1 := Lib.hid f1
  have F2 := Lib.hid f2
  have F3 := Lib.hid f3
  clear f0 f1 f2 f3
  clear ho hv hb
  have bel := Below.refl w.heap.size w
  go_enter Try.func14, Try.ntmps14
  go_wp2_with (first | ((with_reducible show wpList _ _ _ (⟨some 2, _, _, _, _, _⟩ :: _) _ _); refine wpList_box_n rfl 40 (.tmp 0) rfl #[.int .i64 tos, .int .i64 id, .int .i64 fl, .int .i64 pt, .int .i64 ttl, .int .i64 pr, .int .u8 (a0.toNat : Int), .int .u8 (a1.toNat : Int), .int .u8 (a2.toNat : Int), .int .u8 (a3.toNat : Int), .int .u8 (a4.toNat : Int), .int .u8 (a5.toNat : Int), .int .u8 (a6.toNat : Int), .int .u8 (a7.toNat : Int), .slice So no co, .slice Sb nb cb] rfl ?_; intro g2 w1 ge lt hh bb; have op := Nat.le_trans bel.size ge; replace bel := bel.trans (bb.mono bel.size); have hp := hh; clear hh lt ge bb) | ((with_reducible show wpList _ _ _ (⟨some 3, _, _, _, _, _⟩ :: _) _ _); refine wpList_box_n rfl 37 (.tmp 1) rfl #[.int .i64 sf, .int .i64 st, .int .u32 se, .int .u32 ak, .int .i64 fg, .int .i64 wn, .int .i64 ug, .slice Q nq cq, .slice D nd cd] rfl ?_; intro g3 w2 ge lt hh bb; have d_p_d := ne_new (hlt hp) ge; have od := Nat.le_trans bel.size ge; replace hp := blk_u hp bb; replace bel := bel.trans (bb.mono bel.size); have hd := hh; clear hh lt ge bb) | ((with_reducible show wpList _ _ _ (⟨some 4, _, _, _, _, _⟩ :: _) _ _); refine wpList_new_a rfl 40 rfl #[.int .i64 0, .int .i64 0, .int .i64 0, .int .i64 0, .int .i64 0, .int .i64 0, .int .u8 0, .int .u8 0, .int .u8 0, .int .u8 0, .int .u8 0, .int .u8 0, .int .u8 0, .int .u8 0, .slice none 0 0, .slice none 0 0] (by kernel_rfl) ?_; intro g4 w3 ge hh bb; have d_p_z := ne_new (hlt hp) ge; have d_d_z := ne_new (hlt hd) ge; have oz := Nat.le_trans bel.size ge; replace hp := blk_u hp bb; replace hd := blk_u hd bb; replace bel := bel.trans (bb.mono bel.size); have hz := hh; clear hh ge bb; have R9 := cell_lit hd 0 _ rfl))
  try clear R9
  with_reducible refine (rfit_any 65535 _ _).mono ?_
  rintro e _ ⟨rfl, rfl⟩
  rw [F0.out]
  have R14 := cell_lit hd 1 _ rfl
  go_wp2_with fail
  clear R14
  with_reducible refine (rfit_any 65535 _ _).mono ?_
  rintro e _ ⟨rfl, rfl⟩
  rw [F1.out]
  have R20 := cell_lit hd 4 _ rfl
  go_wp2_with fail
  clear R20
  with_reducible refine (rfit_any 63 _ _).mono ?_
  rintro e _ ⟨rfl, rfl⟩
  rw [F2.out]
  have R26 := cell_lit hd 5 _ rfl
  go_wp2_with fail
  clear R26
  with_reducible refine (rfit_any 65535 _ _).mono ?_
  rintro e _ ⟨rfl, rfl⟩
  rw [F3.out]
  go_wp2_with (first | ((with_reducible show wpList _ _ _ (⟨none, Op.store _ (.tmp 4) _, _, _, _, _⟩ :: _) _ _); refine wpList_store_blk rfl 40 (.tmp 4) (.tmp 49) rfl g4 rfl _ rfl _ 40 hz (by rfl) (by kernel_rfl) (by kernel_rfl) ?_; intro w4 hq gr; replace hp := blk_a hp gr d_p_z; replace hd := blk_a hd gr d_d_z; replace bel := below_grown bel gr oz bel.size; clear hz; have hz := hq; clear hq gr))
  exact bodyPost_ret (results_cell_tmp_row rfl _ _ _ _ _ _ _ rfl hz Try.underlying40 rfl (by kernel_rfl) (.int .i64 1) rfl) rfl (by rw [HP.out]; exact PkPost.none bel)
set_option linter.unusedVariables false in
set_option maxRecDepth 100000 in
set_option maxHeartbeats 16000000 in
theorem rtcput_4 (tos id fl pt ttl pr : Int) (a0 a1 a2 a3 a4 a5 a6 a7 : UInt8) (So Sb : Option Addr) (no co nb cb : Nat) (sf st se ak fg wn ug : Int) (Q : Option Addr) (nq cq : Nat) (D : Option Addr) (nd cd : Nat) (lo lq ld : List UInt8) (w : World) (ho : Sl w So no co lo) (hv : Sl w Q nq cq lq) (hb : Sl w D nd cd ld) (f0 : inOk 65535 sf = true) (f1 : inOk 65535 st = true) (f2 : inOk 63 fg = true) (f3 : inOk 65535 wn = true) (f4 : inOk 65535 ug = false) : Calls Try.prog 14 #[.agg #[.int .i64 tos, .int .i64 id, .int .i64 fl, .int .i64 pt, .int .i64 ttl, .int .i64 pr, .int .u8 (a0.toNat : Int), .int .u8 (a1.toNat : Int), .int .u8 (a2.toNat : Int), .int .u8 (a3.toNat : Int), .int .u8 (a4.toNat : Int), .int .u8 (a5.toNat : Int), .int .u8 (a6.toNat : Int), .int .u8 (a7.toNat : Int), .slice So no co, .slice Sb nb cb], .agg #[.int .i64 sf, .int .i64 st, .int .u32 se, .int .u32 ak, .int .i64 fg, .int .i64 wn, .int .i64 ug, .slice Q nq cq, .slice D nd cd]] w (PkPost (tcPut tos id fl pt ttl a0 a1 a2 a3 a4 a5 a6 a7 lo sf st se ak fg wn ug lq ld) w) := by
  have HP : Hid (tcPut tos id fl pt ttl a0 a1 a2 a3 a4 a5 a6 a7 lo sf st se ak fg wn ug lq ld = pkNone 1) := Lib.hid (if_pos (by rw [hv.1]; unfold segOk; simp [f0, f1, f2, f3, f4]))
  have F0 := Lib.hid f0
  have F1 := Lib.hid f1
  have F2 := Lib.hid f2
  have F3 := Lib.hid f3
  have F4 := Lib.hid f4
  clear f0 f1 f2 f3 f4
  clear ho hv hb
  have bel := Below.refl w.heap.size w
  go_enter Try.func14, Try.ntmps14
  go_wp2_with (first | ((with_reducible show wpList _ _ _ (⟨some 2, _, _, _, _, _⟩ :: _) _ _); refine wpList_box_n rfl 40 (.tmp 0) rfl #[.int .i64 tos, .int .i64 id, .int .i64 fl, .int .i64 pt, .int .i64 ttl, .int .i64 pr, .int .u8 (a0.toNat : Int), .int .u8 (a1.toNat : Int), .int .u8 (a2.toNat : Int), .int .u8 (a3.toNat : Int), .int .u8 (a4.toNat : Int), .int .u8 (a5.toNat : Int), .int .u8 (a6.toNat : Int), .int .u8 (a7.toNat : Int), .slice So no co, .slice Sb nb cb] rfl ?_; intro g2 w1 ge lt hh bb; have op := Nat.le_trans bel.size ge; replace bel := bel.trans (bb.mono bel.size); have hp := hh; clear hh lt ge bb) | ((with_reducible show wpList _ _ _ (⟨some 3, _, _, _, _, _⟩ :: _) _ _); refine wpList_box_n rfl 37 (.tmp 1) rfl #[.int .i64 sf, .int .i64 st, .int .u32 se, .int .u32 ak, .int .i64 fg, .int .i64 wn, .int .i64 ug, .slice Q nq cq, .slice D nd cd] rfl ?_; intro g3 w2 ge lt hh bb; have d_p_d := ne_new (hlt hp) ge; have od := Nat.le_trans bel.size ge; replace hp := blk_u hp bb; replace bel := bel.trans (bb.mono bel.size); have hd := hh; clear hh lt ge bb) | ((with_reducible show wpList _ _ _ (⟨some 4, _, _, _, _, _⟩ :: _) _ _); refine wpList_new_a rfl 40 rfl #[.int .i64 0, .int .i64 0, .int .i64 0, .int .i64 0, .int .i64 0, .int .i64 0, .int .u8 0, .int .u8 0, .int .u8 0, .int .u8 0, .int .u8 0, .int .u8 0, .int .u8 0, .int .u8 0, .slice none 0 0, .slice none 0 0] (by kernel_rfl) ?_; intro g4 w3 ge hh bb; have d_p_z := ne_new (hlt hp) ge; have d_d_z := ne_new (hlt hd) ge; have oz := Nat.le_trans bel.size ge; replace hp := blk_u hp bb; replace hd := blk_u hd bb; replace bel := bel.trans (bb.mono bel.size); have hz := hh; clear hh ge bb; have R9 := cell_lit hd 0 _ rfl))
  try clear R9
  with_reducible refine (rfit_any 65535 _ _).mono ?_
  rintro e _ ⟨rfl, rfl⟩
  rw [F0.out]
  have R14 := cell_lit hd 1 _ rfl
  go_wp2_with fail
  clear R14
  with_reducible refine (rfit_any 65535 _ _).mono ?_
  rintro e _ ⟨rfl, rfl⟩
  rw [F1.out]
  have R20 := cell_lit hd 4 _ rfl
  go_wp2_with fail
  clear R20
  with_reducible refine (rfit_any 63 _ _).mono ?_
  rintro e _ ⟨rfl, rfl⟩
  rw [F2.out]
  have R26 := cell_lit hd 5 _ rfl
  go_wp2_with fail
  clear R26
  with_reducible refine (rfit_any 65535 _ _).mono ?_
  rintro e _ ⟨rfl, rfl⟩
  rw [F3.out]
  have R32 := cell_lit hd 6 _ rfl
  go_wp2_with fail
  clear R32
  with_reducible refine (rfit_any 65535 _ _).mono ?_
  rintro e _ ⟨rfl, rfl⟩
  rw [F4.out]
  go_wp2_with (first | ((with_reducible show wpList _ _ _ (⟨none, Op.store _ (.tmp 4) _, _, _, _, _⟩ :: _) _ _); refine wpList_store_blk rfl 40 (.tmp 4) (.tmp 49) rfl g4 rfl _ rfl _ 40 hz (by rfl) (by kernel_rfl) (by kernel_rfl) ?_; intro w4 hq gr; replace hp := blk_a hp gr d_p_z; replace hd := blk_a hd gr d_d_z; replace bel := below_grown bel gr oz bel.size; clear hz; have hz := hq; clear hq gr))
  exact bodyPost_ret (results_cell_tmp_row rfl _ _ _ _ _ _ _ rfl hz Try.underlying40 rfl (by kernel_rfl) (.int .i64 1) rfl) rfl (by rw [HP.out]; exact PkPost.none bel)
set_option linter.unusedVariables false in
set_option maxRecDepth 100000 in
set_option maxHeartbeats 16000000 in
theorem rtcput_5 (tos id fl pt ttl pr : Int) (a0 a1 a2 a3 a4 a5 a6 a7 : UInt8) (So Sb : Option Addr) (no co nb cb : Nat) (sf st se ak fg wn ug : Int) (Q : Option Addr) (nq cq : Nat) (D : Option Addr) (nd cd : Nat) (lo lq ld : List UInt8) (w : World) (ho : Sl w So no co lo) (hv : Sl w Q nq cq lq) (hb : Sl w D nd cd ld) (f0 : inOk 65535 sf = true) (f1 : inOk 65535 st = true) (f2 : inOk 63 fg = true) (f3 : inOk 65535 wn = true) (f4 : inOk 65535 ug = true) (n0 : 40 < nq) : Calls Try.prog 14 #[.agg #[.int .i64 tos, .int .i64 id, .int .i64 fl, .int .i64 pt, .int .i64 ttl, .int .i64 pr, .int .u8 (a0.toNat : Int), .int .u8 (a1.toNat : Int), .int .u8 (a2.toNat : Int), .int .u8 (a3.toNat : Int), .int .u8 (a4.toNat : Int), .int .u8 (a5.toNat : Int), .int .u8 (a6.toNat : Int), .int .u8 (a7.toNat : Int), .slice So no co, .slice Sb nb cb], .agg #[.int .i64 sf, .int .i64 st, .int .u32 se, .int .u32 ak, .int .i64 fg, .int .i64 wn, .int .i64 ug, .slice Q nq cq, .slice D nd cd]] w (PkPost (tcPut tos id fl pt ttl a0 a1 a2 a3 a4 a5 a6 a7 lo sf st se ak fg wn ug lq ld) w) := by
  have HP : Hid (tcPut tos id fl pt ttl a0 a1 a2 a3 a4 a5 a6 a7 lo sf st se ak fg wn ug lq ld = pkNone 1) := Lib.hid (if_pos (by rw [hv.1]; unfold segOk; simp [f0, f1, f2, f3, f4]; omega))
  have F0 := Lib.hid f0
  have F1 := Lib.hid f1
  have F2 := Lib.hid f2
  have F3 := Lib.hid f3
  have F4 := Lib.hid f4
  have t0 : (40 : Int) < nq := by omega
  clear f0 f1 f2 f3 f4 n0
  have bel := Below.refl w.heap.size w
  go_enter Try.func14, Try.ntmps14
  go_wp2_with (first | ((with_reducible show wpList _ _ _ (⟨some 2, _, _, _, _, _⟩ :: _) _ _); refine wpList_box_n rfl 40 (.tmp 0) rfl #[.int .i64 tos, .int .i64 id, .int .i64 fl, .int .i64 pt, .int .i64 ttl, .int .i64 pr, .int .u8 (a0.toNat : Int), .int .u8 (a1.toNat : Int), .int .u8 (a2.toNat : Int), .int .u8 (a3.toNat : Int), .int .u8 (a4.toNat : Int), .int .u8 (a5.toNat : Int), .int .u8 (a6.toNat : Int), .int .u8 (a7.toNat : Int), .slice So no co, .slice Sb nb cb] rfl ?_; intro g2 w1 ge lt hh bb; have av_ho_p := ho.av_new ge; have av_hv_p := hv.av_new ge; have av_hb_p := hb.av_new ge; have op := Nat.le_trans bel.size ge; replace ho := ho.below bb; replace hv := hv.below bb; replace hb := hb.below bb; replace bel := bel.trans (bb.mono bel.size); have hp := hh; clear hh lt ge bb) | ((with_reducible show wpList _ _ _ (⟨some 3, _, _, _, _, _⟩ :: _) _ _); refine wpList_box_n rfl 37 (.tmp 1) rfl #[.int .i64 sf, .int .i64 st, .int .u32 se, .int .u32 ak, .int .i64 fg, .int .i64 wn, .int .i64 ug, .slice Q nq cq, .slice D nd cd] rfl ?_; intro g3 w2 ge lt hh bb; have d_p_d := ne_new (hlt hp) ge; have av_ho_d := ho.av_new ge; have av_hv_d := hv.av_new ge; have av_hb_d := hb.av_new ge; have od := Nat.le_trans bel.size ge; replace hp := blk_u hp bb; replace ho := ho.below bb; replace hv := hv.below bb; replace hb := hb.below bb; replace bel := bel.trans (bb.mono bel.size); have hd := hh; clear hh lt ge bb) | ((with_reducible show wpList _ _ _ (⟨some 4, _, _, _, _, _⟩ :: _) _ _); refine wpList_new_a rfl 40 rfl #[.int .i64 0, .int .i64 0, .int .i64 0, .int .i64 0, .int .i64 0, .int .i64 0, .int .u8 0, .int .u8 0, .int .u8 0, .int .u8 0, .int .u8 0, .int .u8 0, .int .u8 0, .int .u8 0, .slice none 0 0, .slice none 0 0] (by kernel_rfl) ?_; intro g4 w3 ge hh bb; have d_p_z := ne_new (hlt hp) ge; have d_d_z := ne_new (hlt hd) ge; have av_ho_z := ho.av_new ge; have av_hv_z := hv.av_new ge; have av_hb_z := hb.av_new ge; have oz := Nat.le_trans bel.size ge; replace hp := blk_u hp bb; replace hd := blk_u hd bb; replace ho := ho.below bb; replace hv := hv.below bb; replace hb := hb.below bb; replace bel := bel.trans (bb.mono bel.size); have hz := hh; clear hh ge bb; have R9 := cell_lit hd 0 _ rfl))
  try clear R9
  with_reducible refine (rfit_any 65535 _ _).mono ?_
  rintro e _ ⟨rfl, rfl⟩
  rw [F0.out]
  have R14 := cell_lit hd 1 _ rfl
  go_wp2_with fail
  clear R14
  with_reducible refine (rfit_any 65535 _ _).mono ?_
  rintro e _ ⟨rfl, rfl⟩
  rw [F1.out]
  have R20 := cell_lit hd 4 _ rfl
  go_wp2_with fail
  clear R20
  with_reducible refine (rfit_any 63 _ _).mono ?_
  rintro e _ ⟨rfl, rfl⟩
  rw [F2.out]
  have R26 := cell_lit hd 5 _ rfl
  go_wp2_with fail
  clear R26
  with_reducible refine (rfit_any 65535 _ _).mono ?_
  rintro e _ ⟨rfl, rfl⟩
  rw [F3.out]
  have R32 := cell_lit hd 6 _ rfl
  go_wp2_with fail
  clear R32
  with_reducible refine (rfit_any 65535 _ _).mono ?_
  rintro e _ ⟨rfl, rfl⟩
  rw [F4.out]
  have R38 := cell_lit hd 7 _ rfl
  go_wp2_with (first | ((with_reducible show wpList _ _ _ (⟨none, Op.store _ (.tmp 4) _, _, _, _, _⟩ :: _) _ _); refine wpList_store_blk rfl 40 (.tmp 4) (.tmp 49) rfl g4 rfl _ rfl _ 40 hz (by rfl) (by kernel_rfl) (by kernel_rfl) ?_; intro w4 hq gr; replace ho := ho.away av_ho_z gr; replace hv := hv.away av_hv_z gr; replace hb := hb.away av_hb_z gr; replace hp := blk_a hp gr d_p_z; replace hd := blk_a hd gr d_d_z; replace bel := below_grown bel gr oz bel.size; clear hz; have hz := hq; clear hq gr))
  try clear R38
  exact bodyPost_ret (results_cell_tmp_row rfl _ _ _ _ _ _ _ rfl hz Try.underlying40 rfl (by kernel_rfl) (.int .i64 1) rfl) rfl (by rw [HP.out]; exact PkPost.none bel)
set_option linter.unusedVariables false in
set_option maxRecDepth 100000 in
set_option maxHeartbeats 16000000 in
theorem rtcput_6 (tos id fl pt ttl pr : Int) (a0 a1 a2 a3 a4 a5 a6 a7 : UInt8) (So Sb : Option Addr) (no co nb cb : Nat) (sf st se ak fg wn ug : Int) (Q : Option Addr) (nq cq : Nat) (D : Option Addr) (nd cd : Nat) (lo lq ld : List UInt8) (w : World) (ho : Sl w So no co lo) (hv : Sl w Q nq cq lq) (hb : Sl w D nd cd ld) (f0 : inOk 65535 sf = true) (f1 : inOk 65535 st = true) (f2 : inOk 63 fg = true) (f3 : inOk 65535 wn = true) (f4 : inOk 65535 ug = true) (n0 : nq ≤ 40) (n1 : nq % 4 ≠ 0) : Calls Try.prog 14 #[.agg #[.int .i64 tos, .int .i64 id, .int .i64 fl, .int .i64 pt, .int .i64 ttl, .int .i64 pr, .int .u8 (a0.toNat : Int), .int .u8 (a1.toNat : Int), .int .u8 (a2.toNat : Int), .int .u8 (a3.toNat : Int), .int .u8 (a4.toNat : Int), .int .u8 (a5.toNat : Int), .int .u8 (a6.toNat : Int), .int .u8 (a7.toNat : Int), .slice So no co, .slice Sb nb cb], .agg #[.int .i64 sf, .int .i64 st, .int .u32 se, .int .u32 ak, .int .i64 fg, .int .i64 wn, .int .i64 ug, .slice Q nq cq, .slice D nd cd]] w (PkPost (tcPut tos id fl pt ttl a0 a1 a2 a3 a4 a5 a6 a7 lo sf st se ak fg wn ug lq ld) w) := by
  have HP : Hid (tcPut tos id fl pt ttl a0 a1 a2 a3 a4 a5 a6 a7 lo sf st se ak fg wn ug lq ld = pkNone 1) := Lib.hid (if_pos (by rw [hv.1]; unfold segOk; simp [f0, f1, f2, f3, f4]; omega))
  have F0 := Lib.hid f0
  have F1 := Lib.hid f1
  have F2 := Lib.hid f2
  have F3 := Lib.hid f3
  have F4 := Lib.hid f4
  have t0 : decide ((40 : Int) < nq) = false := decide_eq_false (by omega)
  have t1 : ((nq : Int) % 4 == 0) = false := by simp; omega
  have t2 : ((nq : Int) % 4 != 0) = true := by simp; omega
  clear f0 f1 f2 f3 f4 n0 n1
  have bel := Below.refl w.heap.size w
  go_enter Try.func14, Try.ntmps14
  go_wp2_with (first | ((with_reducible show wpList _ _ _ (⟨some 2, _, _, _, _, _⟩ :: _) _ _); refine wpList_box_n rfl 40 (.tmp 0) rfl #[.int .i64 tos, .int .i64 id, .int .i64 fl, .int .i64 pt, .int .i64 ttl, .int .i64 pr, .int .u8 (a0.toNat : Int), .int .u8 (a1.toNat : Int), .int .u8 (a2.toNat : Int), .int .u8 (a3.toNat : Int), .int .u8 (a4.toNat : Int), .int .u8 (a5.toNat : Int), .int .u8 (a6.toNat : Int), .int .u8 (a7.toNat : Int), .slice So no co, .slice Sb nb cb] rfl ?_; intro g2 w1 ge lt hh bb; have av_ho_p := ho.av_new ge; have av_hv_p := hv.av_new ge; have av_hb_p := hb.av_new ge; have op := Nat.le_trans bel.size ge; replace ho := ho.below bb; replace hv := hv.below bb; replace hb := hb.below bb; replace bel := bel.trans (bb.mono bel.size); have hp := hh; clear hh lt ge bb) | ((with_reducible show wpList _ _ _ (⟨some 3, _, _, _, _, _⟩ :: _) _ _); refine wpList_box_n rfl 37 (.tmp 1) rfl #[.int .i64 sf, .int .i64 st, .int .u32 se, .int .u32 ak, .int .i64 fg, .int .i64 wn, .int .i64 ug, .slice Q nq cq, .slice D nd cd] rfl ?_; intro g3 w2 ge lt hh bb; have d_p_d := ne_new (hlt hp) ge; have av_ho_d := ho.av_new ge; have av_hv_d := hv.av_new ge; have av_hb_d := hb.av_new ge; have od := Nat.le_trans bel.size ge; replace hp := blk_u hp bb; replace ho := ho.below bb; replace hv := hv.below bb; replace hb := hb.below bb; replace bel := bel.trans (bb.mono bel.size); have hd := hh; clear hh lt ge bb) | ((with_reducible show wpList _ _ _ (⟨some 4, _, _, _, _, _⟩ :: _) _ _); refine wpList_new_a rfl 40 rfl #[.int .i64 0, .int .i64 0, .int .i64 0, .int .i64 0, .int .i64 0, .int .i64 0, .int .u8 0, .int .u8 0, .int .u8 0, .int .u8 0, .int .u8 0, .int .u8 0, .int .u8 0, .int .u8 0, .slice none 0 0, .slice none 0 0] (by kernel_rfl) ?_; intro g4 w3 ge hh bb; have d_p_z := ne_new (hlt hp) ge; have d_d_z := ne_new (hlt hd) ge; have av_ho_z := ho.av_new ge; have av_hv_z := hv.av_new ge; have av_hb_z := hb.av_new ge; have oz := Nat.le_trans bel.size ge; replace hp := blk_u hp bb; replace hd := blk_u hd bb; replace ho := ho.below bb; replace hv := hv.below bb; replace hb := hb.below bb; replace bel := bel.trans (bb.mono bel.size); have hz := hh; clear hh ge bb; have R9 := cell_lit hd 0 _ rfl))
  try clear R9
  with_reducible refine (rfit_any 65535 _ _).mono ?_
  rintro e _ ⟨rfl, rfl⟩
  rw [F0.out]
  have R14 := cell_lit hd 1 _ rfl
  go_wp2_with fail
  clear R14
  with_reducible refine (rfit_any 65535 _ _).mono ?_
  rintro e _ ⟨rfl, rfl⟩
  rw [F1.out]
  have R20 := cell_lit hd 4 _ rfl
  go_wp2_with fail
  clear R20
  with_reducible refine (rfit_any 63 _ _).mono ?_
  rintro e _ ⟨rfl, rfl⟩
  rw [F2.out]
  have R26 := cell_lit hd 5 _ rfl
  go_wp2_with fail
  clear R26
  with_reducible refine (rfit_any 65535 _ _).mono ?_
  rintro e _ ⟨rfl, rfl⟩
  rw [F3.out]
  have R32 := cell_lit hd 6 _ rfl
  go_wp2_with fail
  clear R32
  with_reducible refine (rfit_any 65535 _ _).mono ?_
  rintro e _ ⟨rfl, rfl⟩
  rw [F4.out]
  have R38 := cell_lit hd 7 _ rfl
  have R44 := cell_lit hd 7 _ rfl
  go_wp2_with (first | ((with_reducible show wpList _ _ _ (⟨none, Op.store _ (.tmp 4) _, _, _, _, _⟩ :: _) _ _); refine wpList_store_blk rfl 40 (.tmp 4) (.tmp 49) rfl g4 rfl _ rfl _ 40 hz (by rfl) (by kernel_rfl) (by kernel_rfl) ?_; intro w4 hq gr; replace ho := ho.away av_ho_z gr; replace hv := hv.away av_hv_z gr; replace hb := hb.away av_hb_z gr; replace hp := blk_a hp gr d_p_z; replace hd := blk_a hd gr d_d_z; replace bel := below_grown bel gr oz bel.size; clear hz; have hz := hq; clear hq gr))
  try clear R38
  try clear R44
  exact bodyPost_ret (results_cell_tmp_row rfl _ _ _ _ _ _ _ rfl hz Try.underlying40 rfl (by kernel_rfl) (.int .i64 1) rfl) rfl (by rw [HP.out]; exact PkPost.none bel)
set_option linter.unusedVariables false in
set_option maxRecDepth 100000 in
set_option maxHeartbeats 16000000 in
theorem rtcput_long (tos id fl pt ttl pr : Int) (a0 a1 a2 a3 a4 a5 a6 a7 : UInt8) (So Sb : Option Addr) (no co nb cb : Nat) (sf st se ak fg wn ug : Int) (Q : Option Addr) (nq cq : Nat) (D : Option Addr) (nd cd : Nat) (lo lq ld : List UInt8) (w : World) (ho : Sl w So no co lo) (hv : Sl w Q nq cq lq) (hb : Sl w D nd cd ld) (f0 : inOk 65535 sf = true) (f1 : inOk 65535 st = true) (f2 : inOk 63 fg = true) (f3 : inOk 65535 wn = true) (f4 : inOk 65535 ug = true) (n0 : nq ≤ 40) (n1 : nq % 4 = 0) (hn : 1460 < nq + nd) : Calls Try.prog 14 #[.agg #[.int .i64 tos, .int .i64 id, .int .i64 fl, .int .i64 pt, .int .i64 ttl, .int .i64 pr, .int .u8 (a0.toNat : Int), .int .u8 (a1.toNat : Int), .int .u8 (a2.toNat : Int), .int .u8 (a3.toNat : Int), .int .u8 (a4.toNat : Int), .int .u8 (a5.toNat : Int), .int .u8 (a6.toNat : Int), .int .u8 (a7.toNat : Int), .slice So no co, .slice Sb nb cb], .agg #[.int .i64 sf, .int .i64 st, .int .u32 se, .int .u32 ak, .int .i64 fg, .int .i64 wn, .int .i64 ug, .slice Q nq cq, .slice D nd cd]] w (PkPost (tcPut tos id fl pt ttl a0 a1 a2 a3 a4 a5 a6 a7 lo sf st se ak fg wn ug lq ld) w) := by
  have HP : Hid (tcPut tos id fl pt ttl a0 a1 a2 a3 a4 a5 a6 a7 lo sf st se ak fg wn ug lq ld = pkNone 2) := Lib.hid (by unfold tcPut; rw [if_neg (by rw [hv.1, show segOk sf st fg wn ug nq = true by unfold segOk; simp [f0, f1, f2, f3, f4, n0, n1]]; decide), if_pos (by rw [hv.1, hb.1]; omega)])
  have F0 := Lib.hid f0
  have F1 := Lib.hid f1
  have F2 := Lib.hid f2
  have F3 := Lib.hid f3
  have F4 := Lib.hid f4
  have t0 : decide ((40 : Int) < nq) = false := decide_eq_false (by omega)
  have t1 : ((nq : Int) % 4 == 0) = true := by simp; omega
  have t2 : ((nq : Int) % 4 != 0) = false := by simp; omega
  have t3 : (1460 : Int) - nq < nd := by omega
  clear hn
  clear f0 f1 f2 f3 f4 n1
  have p0 : (0 : Int) ≤ nq := by omega
  have p2 : (nq : Int) ≤ 40 := by omega
  clear n0
  have bel := Below.refl w.heap.size w
  go_enter Try.func14, Try.ntmps14
  go_wp2_with (first | ((with_reducible show wpList _ _ _ (⟨some 2, _, _, _, _, _⟩ :: _) _ _); refine wpList_box_n rfl 40 (.tmp 0) rfl #[.int .i64 tos, .int .i64 id, .int .i64 fl, .int .i64 pt, .int .i64 ttl, .int .i64 pr, .int .u8 (a0.toNat : Int), .int .u8 (a1.toNat : Int), .int .u8 (a2.toNat : Int), .int .u8 (a3.toNat : Int), .int .u8 (a4.toNat : Int), .int .u8 (a5.toNat : Int), .int .u8 (a6.toNat : Int), .int .u8 (a7.toNat : Int), .slice So no co, .slice Sb nb cb] rfl ?_; intro g2 w1 ge lt hh bb; have av_ho_p := ho.av_new ge; have av_hv_p := hv.av_new ge; have av_hb_p := hb.av_new ge; have op := Nat.le_trans bel.size ge; replace ho := ho.below bb; replace hv := hv.below bb; replace hb := hb.below bb; replace bel := bel.trans (bb.mono bel.size); have hp := hh; clear hh lt ge bb) | ((with_reducible show wpList _ _ _ (⟨some 3, _, _, _, _, _⟩ :: _) _ _); refine wpList_box_n rfl 37 (.tmp 1) rfl #[.int .i64 sf, .int .i64 st, .int .u32 se, .int .u32 ak, .int .i64 fg, .int .i64 wn, .int .i64 ug, .slice Q nq cq, .slice D nd cd] rfl ?_; intro g3 w2 ge lt hh bb; have d_p_d := ne_new (hlt hp) ge; have av_ho_d := ho.av_new ge; have av_hv_d := hv.av_new ge; have av_hb_d := hb.av_new ge; have od := Nat.le_trans bel.size ge; replace hp := blk_u hp bb; replace ho := ho.below bb; replace hv := hv.below bb; replace hb := hb.below bb; replace bel := bel.trans (bb.mono bel.size); have hd := hh; clear hh lt ge bb) | ((with_reducible show wpList _ _ _ (⟨some 4, _, _, _, _, _⟩ :: _) _ _); refine wpList_new_a rfl 40 rfl #[.int .i64 0, .int .i64 0, .int .i64 0, .int .i64 0, .int .i64 0, .int .i64 0, .int .u8 0, .int .u8 0, .int .u8 0, .int .u8 0, .int .u8 0, .int .u8 0, .int .u8 0, .int .u8 0, .slice none 0 0, .slice none 0 0] (by kernel_rfl) ?_; intro g4 w3 ge hh bb; have d_p_z := ne_new (hlt hp) ge; have d_d_z := ne_new (hlt hd) ge; have av_ho_z := ho.av_new ge; have av_hv_z := hv.av_new ge; have av_hb_z := hb.av_new ge; have oz := Nat.le_trans bel.size ge; replace hp := blk_u hp bb; replace hd := blk_u hd bb; replace ho := ho.below bb; replace hv := hv.below bb; replace hb := hb.below bb; replace bel := bel.trans (bb.mono bel.size); have hz := hh; clear hh ge bb; have R9 := cell_lit hd 0 _ rfl))
  try clear R9
  with_reducible refine (rfit_any 65535 _ _).mono ?_
  rintro e _ ⟨rfl, rfl⟩
  rw [F0.out]
  have R14 := cell_lit hd 1 _ rfl
  go_wp2_with fail
  clear R14
  with_reducible refine (rfit_any 65535 _ _).mono ?_
  rintro e _ ⟨rfl, rfl⟩
  rw [F1.out]
  have R20 := cell_lit hd 4 _ rfl
  go_wp2_with fail
  clear R20
  with_reducible refine (rfit_any 63 _ _).mono ?_
  rintro e _ ⟨rfl, rfl⟩
  rw [F2.out]
  have R26 := cell_lit hd 5 _ rfl
  go_wp2_with fail
  clear R26
  with_reducible refine (rfit_any 65535 _ _).mono ?_
  rintro e _ ⟨rfl, rfl⟩
  rw [F3.out]
  have R32 := cell_lit hd 6 _ rfl
  go_wp2_with fail
  clear R32
  with_reducible refine (rfit_any 65535 _ _).mono ?_
  rintro e _ ⟨rfl, rfl⟩
  rw [F4.out]
  have R38 := cell_lit hd 7 _ rfl
  have R44 := cell_lit hd 7 _ rfl
  have R51 := cell_lit hd 8 _ rfl
  have R54 := cell_lit hd 7 _ rfl
  go_wp2_with (first | ((with_reducible show wpList _ _ _ (⟨none, Op.store _ (.tmp 4) _, _, _, _, _⟩ :: _) _ _); refine wpList_store_blk rfl 40 (.tmp 4) (.tmp 58) rfl g4 rfl _ rfl _ 40 hz (by rfl) (by kernel_rfl) (by kernel_rfl) ?_; intro w4 hq gr; replace ho := ho.away av_ho_z gr; replace hv := hv.away av_hv_z gr; replace hb := hb.away av_hb_z gr; replace hp := blk_a hp gr d_p_z; replace hd := blk_a hd gr d_d_z; replace bel := below_grown bel gr oz bel.size; clear hz; have hz := hq; clear hq gr))
  try clear R38
  try clear R44
  try clear R51
  try clear R54
  exact bodyPost_ret (results_cell_tmp_row rfl _ _ _ _ _ _ _ rfl hz Try.underlying40 rfl (by kernel_rfl) (.int .i64 2) rfl) rfl (by rw [HP.out]; exact PkPost.none bel)
set_option linter.unusedVariables false in
set_option maxRecDepth 100000 in
set_option maxHeartbeats 16000000 in
theorem rtcput_ok (tos id fl pt ttl pr : Int) (a0 a1 a2 a3 a4 a5 a6 a7 : UInt8) (So Sb : Option Addr) (no co nb cb : Nat) (sf st se ak fg wn ug : Int) (Q : Option Addr) (nq cq : Nat) (D : Option Addr) (nd cd : Nat) (lo lq ld : List UInt8) (w : World) (ho : Sl w So no co lo) (hv : Sl w Q nq cq lq) (hb : Sl w D nd cd ld) (f0 : inOk 65535 sf = true) (f1 : inOk 65535 st = true) (f2 : inOk 63 fg = true) (f3 : inOk 65535 wn = true) (f4 : inOk 65535 ug = true) (n0 : nq ≤ 40) (n1 : nq % 4 = 0) (hn : nq + nd ≤ 1460) (hno : no ≤ 100000) (sm : Int) (hs : ck (l4Ps a0 a1 a2 a3 a4 a5 a6 a7 6 (20 + (nq : Int) + (nd : Int)) ++ ([] ++ two sf ++ two st ++ four se ++ four ak ++ [byteOf (80 + 4 * (nq : Int)), byteOf fg] ++ two wn ++ [0, 0] ++ two ug ++ lq ++ ld)) = sm) (e0 : 0 ≤ se) (e1 : se < 4294967296) (k0 : 0 ≤ ak) (k1 : ak < 4294967296) : Calls Try.prog 14 #[.agg #[.int .i64 tos, .int .i64 id, .int .i64 fl, .int .i64 pt, .int .i64 ttl, .int .i64 pr, .int .u8 (a0.toNat : Int), .int .u8 (a1.toNat : Int), .int .u8 (a2.toNat : Int), .int .u8 (a3.toNat : Int), .int .u8 (a4.toNat : Int), .int .u8 (a5.toNat : Int), .int .u8 (a6.toNat : Int), .int .u8 (a7.toNat : Int), .slice So no co, .slice Sb nb cb], .agg #[.int .i64 sf, .int .i64 st, .int .u32 se, .int .u32 ak, .int .i64 fg, .int .i64 wn, .int .i64 ug, .slice Q nq cq, .slice D nd cd]] w (PkPost (tcPut tos id fl pt ttl a0 a1 a2 a3 a4 a5 a6 a7 lo sf st se ak fg wn ug lq ld) w) := by
  obtain ⟨ii, hii, hz0, hz1, hz2⟩ := info_parts Try.info5
  have HP : Hid (tcPut tos id fl pt ttl a0 a1 a2 a3 a4 a5 a6 a7 lo sf st se ak fg wn ug lq ld = (([tos, id, fl, pt, ttl, 6], [a0, a1, a2, a3, a4, a5, a6, a7]), (lo, tcBytes a0 a1 a2 a3 a4 a5 a6 a7 sf st se ak fg wn ug lq ld), 0)) := Lib.hid (by unfold tcPut; rw [if_neg (by rw [hv.1, show segOk sf st fg wn ug nq = true by unfold segOk; simp [f0, f1, f2, f3, f4, n0, n1]]; decide), if_neg (by rw [hv.1, hb.1]; omega)])
  have HL1 := Lib.hid ho.1
  have HL2 : Hid ((tcBytes a0 a1 a2 a3 a4 a5 a6 a7 sf st se ak fg wn ug lq ld).length = 20 + nq + nd) := Lib.hid (by rw [tcBytes_len, hv.1, hb.1])
  have HB : Hid (tcBytes a0 a1 a2 a3 a4 a5 a6 a7 sf st se ak fg wn ug lq ld = (([] ++ two sf ++ two st ++ four se ++ four ak ++ [byteOf (80 + 4 * (nq : Int)), byteOf fg] ++ two wn ++ [0, 0] ++ two ug ++ lq ++ ld).set 16 (byteOf (sm / 256))).set 17 (byteOf sm)) := Lib.hid (by
    have e := tc_ck a0 a1 a2 a3 a4 a5 a6 a7 sf st se ak fg wn ug lq ld
    rw [hv.1, hb.1, hs] at e
    unfold tcBytes
    rw [← e, hv.1]
    simp only [List.nil_append, List.append_assoc]
    rfl)
  have HS := Lib.hid hs
  have F0 := Lib.hid f0
  have F1 := Lib.hid f1
  have F2 := Lib.hid f2
  have F3 := Lib.hid f3
  have F4 := Lib.hid f4
  have t0 : decide ((40 : Int) < nq) = false := decide_eq_false (by omega)
  have t1 : ((nq : Int) % 4 == 0) = true := by simp; omega
  have t2 : ((nq : Int) % 4 != 0) = false := by simp; omega
  clear f0 f1 f2 f3 f4 n1
  have p0 : (0 : Int) ≤ nq := by omega
  have p2 : (nq : Int) ≤ 40 := by omega
  clear n0
  have t3 : decide ((1460 : Int) - nq < nd) = false := decide_eq_false (by omega)
  have n3 : (0 : Int) ≤ nd := by omega
  have n4 : (nd : Int) ≤ 1460 := by omega
  have HNO := Lib.hid hno
  have E0 := Lib.hid e0
  have E1 := Lib.hid e1
  have K0 := Lib.hid k0
  have K1 := Lib.hid k1
  clear hs hno hn e0 e1 k0 k1
  have bel := Below.refl w.heap.size w
  go_enter Try.func14, Try.ntmps14
  go_wp2_with (first | ((with_reducible show wpList _ _ _ (⟨some 2, _, _, _, _, _⟩ :: _) _ _); refine wpList_box_n rfl 40 (.tmp 0) rfl #[.int .i64 tos, .int .i64 id, .int .i64 fl, .int .i64 pt, .int .i64 ttl, .int .i64 pr, .int .u8 (a0.toNat : Int), .int .u8 (a1.toNat : Int), .int .u8 (a2.toNat : Int), .int .u8 (a3.toNat : Int), .int .u8 (a4.toNat : Int), .int .u8 (a5.toNat : Int), .int .u8 (a6.toNat : Int), .int .u8 (a7.toNat : Int), .slice So no co, .slice Sb nb cb] rfl ?_; intro g2 w1 ge lt hh bb; have av_ho_p := ho.av_new ge; have av_hv_p := hv.av_new ge; have av_hb_p := hb.av_new ge; have op := Nat.le_trans bel.size ge; replace ho := ho.below bb; replace hv := hv.below bb; replace hb := hb.below bb; replace bel := bel.trans (bb.mono bel.size); have hp := hh; clear hh lt ge bb) | ((with_reducible show wpList _ _ _ (⟨some 3, _, _, _, _, _⟩ :: _) _ _); refine wpList_box_n rfl 37 (.tmp 1) rfl #[.int .i64 sf, .int .i64 st, .int .u32 se, .int .u32 ak, .int .i64 fg, .int .i64 wn, .int .i64 ug, .slice Q nq cq, .slice D nd cd] rfl ?_; intro g3 w2 ge lt hh bb; have d_p_d := ne_new (hlt hp) ge; have av_ho_d := ho.av_new ge; have av_hv_d := hv.av_new ge; have av_hb_d := hb.av_new ge; have od := Nat.le_trans bel.size ge; replace hp := blk_u hp bb; replace ho := ho.below bb; replace hv := hv.below bb; replace hb := hb.below bb; replace bel := bel.trans (bb.mono bel.size); have hd := hh; clear hh lt ge bb) | ((with_reducible show wpList _ _ _ (⟨some 4, _, _, _, _, _⟩ :: _) _ _); refine wpList_new_a rfl 40 rfl #[.int .i64 0, .int .i64 0, .int .i64 0, .int .i64 0, .int .i64 0, .int .i64 0, .int .u8 0, .int .u8 0, .int .u8 0, .int .u8 0, .int .u8 0, .int .u8 0, .int .u8 0, .int .u8 0, .slice none 0 0, .slice none 0 0] (by kernel_rfl) ?_; intro g4 w3 ge hh bb; have d_p_z := ne_new (hlt hp) ge; have d_d_z := ne_new (hlt hd) ge; have av_ho_z := ho.av_new ge; have av_hv_z := hv.av_new ge; have av_hb_z := hb.av_new ge; have oz := Nat.le_trans bel.size ge; replace hp := blk_u hp bb; replace hd := blk_u hd bb; replace ho := ho.below bb; replace hv := hv.below bb; replace hb := hb.below bb; replace bel := bel.trans (bb.mono bel.size); have hz := hh; clear hh ge bb; have R9 := cell_lit hd 0 _ rfl))
  try clear R9
  with_reducible refine (rfit_any 65535 _ _).mono ?_
  rintro e _ ⟨rfl, rfl⟩
  rw [F0.out]
  have R14 := cell_lit hd 1 _ rfl
  go_wp2_with fail
  clear R14
  with_reducible refine (rfit_any 65535 _ _).mono ?_
  rintro e _ ⟨rfl, rfl⟩
  rw [F1.out]
  have R20 := cell_lit hd 4 _ rfl
  go_wp2_with fail
  clear R20
  with_reducible refine (rfit_any 63 _ _).mono ?_
  rintro e _ ⟨rfl, rfl⟩
  rw [F2.out]
  have R26 := cell_lit hd 5 _ rfl
  go_wp2_with fail
  clear R26
  with_reducible refine (rfit_any 65535 _ _).mono ?_
  rintro e _ ⟨rfl, rfl⟩
  rw [F3.out]
  have R32 := cell_lit hd 6 _ rfl
  go_wp2_with fail
  clear R32
  with_reducible refine (rfit_any 65535 _ _).mono ?_
  rintro e _ ⟨rfl, rfl⟩
  rw [F4.out]
  have R38 := cell_lit hd 7 _ rfl
  have R44 := cell_lit hd 7 _ rfl
  have R51 := cell_lit hd 8 _ rfl
  have R54 := cell_lit hd 7 _ rfl
  go_wp2_with (first | ((with_reducible show wpList _ _ _ (⟨none, Op.store _ (.tmp 59) _, _, _, _, _⟩ :: _) _ _); refine wpList_store_part rfl 3 (.tmp 59) (.const (.int .i64 6)) rfl g2 5 rfl [.int .i64 6] rfl [.int .i64 tos, .int .i64 id, .int .i64 fl, .int .i64 pt, .int .i64 ttl, .int .i64 pr, .int .u8 (a0.toNat : Int), .int .u8 (a1.toNat : Int), .int .u8 (a2.toNat : Int), .int .u8 (a3.toNat : Int), .int .u8 (a4.toNat : Int), .int .u8 (a5.toNat : Int), .int .u8 (a6.toNat : Int), .int .u8 (a7.toNat : Int), .slice So no co, .slice Sb nb cb] 40 hp (by simp) [.int .i64 tos, .int .i64 id, .int .i64 fl, .int .i64 pt, .int .i64 ttl, .int .i64 6, .int .u8 (a0.toNat : Int), .int .u8 (a1.toNat : Int), .int .u8 (a2.toNat : Int), .int .u8 (a3.toNat : Int), .int .u8 (a4.toNat : Int), .int .u8 (a5.toNat : Int), .int .u8 (a6.toNat : Int), .int .u8 (a7.toNat : Int), .slice So no co, .slice Sb nb cb] rfl (by kernel_rfl) (by rfl) ?_; intro w4 hq gr; replace ho := ho.away av_ho_p gr; replace hv := hv.away av_hv_p gr; replace hb := hb.away av_hb_p gr; replace hd := blk_a hd gr (ne_symm d_p_d); replace hz := blk_a hz gr (ne_symm d_p_z); replace bel := below_grown bel gr op bel.size; clear hp; have hp := hq; clear hq gr))
  try clear R38
  try clear R44
  try clear R51
  try clear R54
  replace bel := bel.drew
  replace hp : w4.drew.heap[g2]? = _ := hp
  replace hd : w4.drew.heap[g3]? = _ := hd
  replace hz : w4.drew.heap[g4]? = _ := hz
  replace ho := ho.drew
  replace hv := hv.drew
  replace hb := hb.drew
  refine wp_region_held_drew (S := fun W => W.heap[g3]? = some (.cells #[.int .i64 sf, .int .i64 st, .int .u32 se, .int .u32 ak, .int .i64 fg, .int .i64 wn, .int .i64 ug, .slice Q nq cq, .slice D nd cd] 37 (0, 0))) (by kernel_rfl) hd (fun hH => ?_)
  generalize w4.drew = w5 at bel hp hd hz ho hv hb hH ⊢
  refine wpAnyH_take (i := 0) (v := ?_) rfl (by kernel_rfl) (by kernel_rfl) (by kernel_rfl) (fun _ _ _ h => h) (Or.inl ⟨by rfl, ?_⟩) hH ?_
  rotate_left
  · ((intro W hW; clear hW; go_simp) <;> with_reducible rfl)
  simp only [Act.put, List.getElem_toArray, List.getElem_cons_zero, List.setIfInBounds_toArray, List.set_cons_zero, List.set_cons_succ]
  refine wpAnyH_take (i := 1) (v := ?_) rfl (by kernel_rfl) (by kernel_rfl) (by kernel_rfl) (fun _ _ _ h => h) (Or.inl ⟨by rfl, ?_⟩) hH ?_
  rotate_left
  · ((intro W hW; have hk := cell_lit (hW) 0 _ rfl; clear hW; go_simp) <;> with_reducible rfl)
  simp only [Act.put, List.getElem_toArray, List.getElem_cons_zero, List.getElem_cons_succ, List.setIfInBounds_toArray, List.set_cons_zero, List.set_cons_succ]
  refine wpAnyH_take (i := 3) (v := ?_) rfl (by kernel_rfl) (by kernel_rfl) (by kernel_rfl) (fun _ _ _ h => h) (Or.inl ⟨by rfl, ?_⟩) hH ?_
  rotate_left
  · ((intro W hW; clear hW; go_simp) <;> with_reducible rfl)
  simp only [Act.put, List.getElem_toArray, List.getElem_cons_zero, List.getElem_cons_succ, List.setIfInBounds_toArray, List.set_cons_zero, List.set_cons_succ]
  refine wpAnyH_take (i := 4) (v := ?_) rfl (by kernel_rfl) (by kernel_rfl) (by kernel_rfl) (fun _ _ _ h => h) (Or.inl ⟨by rfl, ?_⟩) hH ?_
  rotate_left
  · ((intro W hW; have hk := cell_lit (hW) 1 _ rfl; clear hW; go_simp) <;> with_reducible rfl)
  simp only [Act.put, List.getElem_toArray, List.getElem_cons_zero, List.getElem_cons_succ, List.setIfInBounds_toArray, List.set_cons_zero, List.set_cons_succ]
  refine wpAnyH_ready (rs := [2]) (by kernel_rfl) (by simp) ?_
  refine AllReadyH.cons (o := _) rfl (fun K hK => ?_) AllReadyH.nil
  simp only [List.getElem_toArray, List.getElem_cons_zero, List.getElem_cons_succ]
  go_simp
  with_reducible refine (r16_oto _ 0 2 _ _ _ _ rfl (Sl.nil _) (by omega)).mono ?_
  rintro e w6 ⟨v, rfl, h1w, b6⟩
  dsimp only
  have y_h1_p := Lib.hid (hlt hp)
  have y_h1_d := Lib.hid (hlt hd)
  have y_h1_z := Lib.hid (hlt hz)
  have bl_ho_h1 := ho.bl_new
  have bl_hv_h1 := hv.bl_new
  have bl_hb_h1 := hb.bl_new
  have h1lo := bel.size
  have lz_h1 := b6.size
  replace hp := blk_u hp b6
  replace hd := blk_u hd b6
  replace hz := blk_u hz b6
  replace ho := ho.below b6
  replace hv := hv.below b6
  replace hb := hb.below b6
  replace bel := bel.trans (b6.mono bel.size)
  clear b6
  obtain ⟨Ah1, ch1, rfl⟩ := own_val h1w
  have h1 := (own_sl h1w).1
  have fr_h1 := (own_sl h1w).2
  have av_h1_p := fr_h1.av y_h1_p.out
  have av_h1_d := fr_h1.av y_h1_d.out
  have av_h1_z := fr_h1.av y_h1_z.out
  refine hK.out _ _ hd (fun hH7 => ?_)
  clear hK K
  refine wpAnyH_ready (rs := [5]) (by kernel_rfl) (by simp) ?_
  refine AllReadyH.cons (o := _) rfl (fun K hK => ?_) AllReadyH.nil
  simp only [List.getElem_toArray, List.getElem_cons_zero, List.getElem_cons_succ]
  go_simp
  with_reducible refine (r16_oto _ 2 4 _ _ _ _ rfl h1 (by omega)).mono ?_
  rintro e w8 ⟨v, rfl, h2w, b8⟩
  dsimp only
  have y_h2_p := Lib.hid (hlt hp)
  have y_h2_d := Lib.hid (hlt hd)
  have y_h2_z := Lib.hid (hlt hz)
  have bl_ho_h2 := ho.bl_new
  have bl_hv_h2 := hv.bl_new
  have bl_hb_h2 := hb.bl_new
  have bl_h1_h2 := h1.bl_new
  have h2lo := bel.size
  have lz_h2 := b8.size
  replace hp := blk_u hp b8
  replace hd := blk_u hd b8
  replace hz := blk_u hz b8
  replace ho := ho.below b8
  replace hv := hv.below b8
  replace hb := hb.below b8
  replace h1 := h1.below b8
  replace h1w := own_under h1w b8
  replace lz_h1 := Nat.le_trans lz_h1 b8.size
  replace bel := bel.trans (b8.mono bel.size)
  clear b8
  obtain ⟨Ah2, ch2, rfl⟩ := own_val h2w
  have h2 := (own_sl h2w).1
  have fr_h2 := (own_sl h2w).2
  have av_h2_p := fr_h2.av y_h2_p.out
  have av_h2_d := fr_h2.av y_h2_d.out
  have av_h2_z := fr_h2.av y_h2_z.out
  refine hK.out _ _ hd (fun hH9 => ?_)
  clear hK K
  refine wpAnyH_take (i := 6) (v := ?_) rfl (by kernel_rfl) (by kernel_rfl) (by kernel_rfl) (fun _ _ _ h => h) (Or.inl ⟨by rfl, ?_⟩) hH9 ?_
  rotate_left
  · ((intro W hW; clear hW; go_simp) <;> with_reducible rfl)
  simp only [Act.put, List.getElem_toArray, List.getElem_cons_zero, List.getElem_cons_succ, List.setIfInBounds_toArray, List.set_cons_zero, List.set_cons_succ]
  refine wpAnyH_done (by kernel_rfl) ?_ _
  go_wp2_with fail
  replace bel := bel.drew
  replace hp : w8.drew.heap[g2]? = _ := hp
  replace hd : w8.drew.heap[g3]? = _ := hd
  replace hz : w8.drew.heap[g4]? = _ := hz
  replace ho := ho.drew
  replace hv := hv.drew
  replace hb := hb.drew
  replace h1 := h1.drew
  replace h1w : w8.drew.ownsRow _ _ _ _ _ _ := h1w
  replace lz_h1 : _ ≤ w8.drew.heap.size := lz_h1
  replace h2 := h2.drew
  replace h2w : w8.drew.ownsRow _ _ _ _ _ _ := h2w
  replace lz_h2 : _ ≤ w8.drew.heap.size := lz_h2
  refine wp_region_held_drew (S := fun W => W.heap[g3]? = some (.cells #[.int .i64 sf, .int .i64 st, .int .u32 se, .int .u32 ak, .int .i64 fg, .int .i64 wn, .int .i64 ug, .slice Q nq cq, .slice D nd cd] 37 (0, 0))) (by kernel_rfl) hd (fun hH => ?_)
  generalize w8.drew = w10 at bel hp hd hz ho hv hb h1 h2 h1w h2w lz_h1 lz_h2 hH ⊢
  refine wpAnyH_take (i := 0) (v := ?_) rfl (by kernel_rfl) (by kernel_rfl) (by kernel_rfl) (fun _ _ _ h => h) (Or.inl ⟨by rfl, ?_⟩) hH ?_
  rotate_left
  · ((intro W hW; clear hW; go_simp) <;> with_reducible rfl)
  simp only [Act.put, List.getElem_toArray, List.getElem_cons_zero, List.setIfInBounds_toArray, List.set_cons_zero, List.set_cons_succ]
  refine wpAnyH_take (i := 1) (v := ?_) rfl (by kernel_rfl) (by kernel_rfl) (by kernel_rfl) (fun _ _ _ h => h) (Or.inl ⟨by rfl, ?_⟩) hH ?_
  rotate_left
  · ((intro W hW; clear hW; go_simp) <;> with_reducible rfl)
  simp only [Act.put, List.getElem_toArray, List.getElem_cons_zero, List.getElem_cons_succ, List.setIfInBounds_toArray, List.set_cons_zero, List.set_cons_succ]
  refine wpAnyH_take (i := 2) (v := ?_) rfl (by kernel_rfl) (by kernel_rfl) (by kernel_rfl) (fun _ _ _ h => h) (Or.inl ⟨by rfl, ?_⟩) hH ?_
  rotate_left
  · ((intro W hW; have hk := cell_lit (hW) 2 _ rfl; clear hW; go_simp) <;> with_reducible rfl)
  simp only [Act.put, List.getElem_toArray, List.getElem_cons_zero, List.getElem_cons_succ, List.setIfInBounds_toArray, List.set_cons_zero, List.set_cons_succ]
  refine wpAnyH_take (i := 4) (v := ?_) rfl (by kernel_rfl) (by kernel_rfl) (by kernel_rfl) (fun _ _ _ h => h) (Or.inl ⟨by rfl, ?_⟩) hH ?_
  rotate_left
  · ((intro W hW; clear hW; go_simp) <;> with_reducible rfl)
  simp only [Act.put, List.getElem_toArray, List.getElem_cons_zero, List.getElem_cons_succ, List.setIfInBounds_toArray, List.set_cons_zero, List.set_cons_succ]
  refine wpAnyH_take (i := 5) (v := ?_) rfl (by kernel_rfl) (by kernel_rfl) (by kernel_rfl) (fun _ _ _ h => h) (Or.inl ⟨by rfl, ?_⟩) hH ?_
  rotate_left
  · ((intro W hW; have hk := cell_lit (hW) 3 _ rfl; clear hW; go_simp) <;> with_reducible rfl)
  simp only [Act.put, List.getElem_toArray, List.getElem_cons_zero, List.getElem_cons_succ, List.setIfInBounds_toArray, List.set_cons_zero, List.set_cons_succ]
  refine wpAnyH_ready (rs := [3]) (by kernel_rfl) (by simp) ?_
  refine AllReadyH.cons (o := _) rfl (fun K hK => ?_) AllReadyH.nil
  simp only [List.getElem_toArray, List.getElem_cons_zero, List.getElem_cons_succ]
  go_simp
  with_reducible refine (r32_oto _ 4 8 _ _ _ _ E0.out E1.out rfl h2 (by omega)).mono ?_
  rintro e w11 ⟨v, rfl, h3w, b11⟩
  dsimp only
  have y_h3_p := Lib.hid (hlt hp)
  have y_h3_d := Lib.hid (hlt hd)
  have y_h3_z := Lib.hid (hlt hz)
  have bl_ho_h3 := ho.bl_new
  have bl_hv_h3 := hv.bl_new
  have bl_hb_h3 := hb.bl_new
  have bl_h1_h3 := h1.bl_new
  have bl_h2_h3 := h2.bl_new
  have h3lo := bel.size
  have lz_h3 := b11.size
  replace hp := blk_u hp b11
  replace hd := blk_u hd b11
  replace hz := blk_u hz b11
  replace ho := ho.below b11
  replace hv := hv.below b11
  replace hb := hb.below b11
  replace h1 := h1.below b11
  replace h1w := own_under h1w b11
  replace h2 := h2.below b11
  replace h2w := own_under h2w b11
  replace lz_h1 := Nat.le_trans lz_h1 b11.size
  replace lz_h2 := Nat.le_trans lz_h2 b11.size
  replace bel := bel.trans (b11.mono bel.size)
  clear b11
  obtain ⟨Ah3, ch3, rfl⟩ := own_val h3w
  have h3 := (own_sl h3w).1
  have fr_h3 := (own_sl h3w).2
  have av_h3_p := fr_h3.av y_h3_p.out
  have av_h3_d := fr_h3.av y_h3_d.out
  have av_h3_z := fr_h3.av y_h3_z.out
  refine hK.out _ _ hd (fun hH12 => ?_)
  clear hK K
  refine wpAnyH_ready (rs := [6]) (by kernel_rfl) (by simp) ?_
  refine AllReadyH.cons (o := _) rfl (fun K hK => ?_) AllReadyH.nil
  simp only [List.getElem_toArray, List.getElem_cons_zero, List.getElem_cons_succ]
  go_simp
  with_reducible refine (r32_oto _ 8 12 _ _ _ _ K0.out K1.out rfl h3 (by omega)).mono ?_
  rintro e w13 ⟨v, rfl, h4w, b13⟩
  dsimp only
  have y_h4_p := Lib.hid (hlt hp)
  have y_h4_d := Lib.hid (hlt hd)
  have y_h4_z := Lib.hid (hlt hz)
  have bl_ho_h4 := ho.bl_new
  have bl_hv_h4 := hv.bl_new
  have bl_hb_h4 := hb.bl_new
  have bl_h1_h4 := h1.bl_new
  have bl_h2_h4 := h2.bl_new
  have bl_h3_h4 := h3.bl_new
  have h4lo := bel.size
  have lz_h4 := b13.size
  replace hp := blk_u hp b13
  replace hd := blk_u hd b13
  replace hz := blk_u hz b13
  replace ho := ho.below b13
  replace hv := hv.below b13
  replace hb := hb.below b13
  replace h1 := h1.below b13
  replace h1w := own_under h1w b13
  replace h2 := h2.below b13
  replace h2w := own_under h2w b13
  replace h3 := h3.below b13
  replace h3w := own_under h3w b13
  replace lz_h1 := Nat.le_trans lz_h1 b13.size
  replace lz_h2 := Nat.le_trans lz_h2 b13.size
  replace lz_h3 := Nat.le_trans lz_h3 b13.size
  replace bel := bel.trans (b13.mono bel.size)
  clear b13
  obtain ⟨Ah4, ch4, rfl⟩ := own_val h4w
  have h4 := (own_sl h4w).1
  have fr_h4 := (own_sl h4w).2
  have av_h4_p := fr_h4.av y_h4_p.out
  have av_h4_d := fr_h4.av y_h4_d.out
  have av_h4_z := fr_h4.av y_h4_z.out
  refine hK.out _ _ hd (fun hH14 => ?_)
  clear hK K
  refine wpAnyH_take (i := 7) (v := ?_) rfl (by kernel_rfl) (by kernel_rfl) (by kernel_rfl) (fun _ _ _ h => h) (Or.inl ⟨by rfl, ?_⟩) hH14 ?_
  rotate_left
  · ((intro W hW; clear hW; go_simp) <;> with_reducible rfl)
  simp only [Act.put, List.getElem_toArray, List.getElem_cons_zero, List.getElem_cons_succ, List.setIfInBounds_toArray, List.set_cons_zero, List.set_cons_succ]
  refine wpAnyH_done (by kernel_rfl) ?_ _
  have R75 := cell_lit hd 7 _ rfl
  have R81 := cell_lit hd 4 _ rfl
  go_wp2_with (first | ((with_reducible show wpList _ _ _ (⟨some 83, _, _, _, _, _⟩ :: _) _ _); refine wpList_lit_n rfl 25 5 2 _ rfl #[.int .u8 (80 + 4 * (nq : Int)), .int .u8 (fg % 256)] (.int .u8 0) Try.underlying25 (by kernel_rfl) 1 (by kernel_rfl) (by decide) (by kernel_rfl) ?_; intro g83 w15 ge lt hh bb; have hl : w15.heap[g83]? = some (.cells (([byteOf (80 + 4 * (nq : Int)), byteOf fg] : List UInt8).map u8v).toArray 5 (0, 0)) := (by have e5 : (80 + 4 * (nq : Int)) % 256 = 80 + 4 * (nq : Int) := (by omega); simpa [u8v, byteOf_val, e5] using hh); have tww := own_lit (B := w13.heap.size) ([byteOf (80 + 4 * (nq : Int)), byteOf fg]) hl ge 2 rfl (by simp [maxLen]); have tw := (own_sl tww).1; have twlo := bel.size; clear hl; have twge := ge; have lz_tw := bb.size; have y_tw_p := Lib.hid (hlt hp); have y_tw_d := Lib.hid (hlt hd); have y_tw_z := Lib.hid (hlt hz); have bl_ho_tw := ho.bl_new; have bl_hv_tw := hv.bl_new; have bl_hb_tw := hb.bl_new; have bl_h1_tw := h1.bl_new; have bl_h2_tw := h2.bl_new; have bl_h3_tw := h3.bl_new; have bl_h4_tw := h4.bl_new; have d_p_b83 := ne_new (hlt hp) ge; have d_d_b83 := ne_new (hlt hd) ge; have d_z_b83 := ne_new (hlt hz) ge; have av_ho_b83 := ho.av_new ge; have av_hv_b83 := hv.av_new ge; have av_hb_b83 := hb.av_new ge; have av_h1_b83 := h1.av_new ge; have of_h1_b83 := own_new h1w ge; have av_h2_b83 := h2.av_new ge; have of_h2_b83 := own_new h2w ge; have av_h3_b83 := h3.av_new ge; have of_h3_b83 := own_new h3w ge; have av_h4_b83 := h4.av_new ge; have of_h4_b83 := own_new h4w ge; have ob83 := Nat.le_trans bel.size ge; replace hp := blk_u hp bb; replace hd := blk_u hd bb; replace hz := blk_u hz bb; replace ho := ho.below bb; replace hv := hv.below bb; replace hb := hb.below bb; replace h1 := h1.below bb; replace h1w := own_under h1w bb; replace h2 := h2.below bb; replace h2w := own_under h2w bb; replace h3 := h3.below bb; replace h3w := own_under h3w bb; replace h4 := h4.below bb; replace h4w := own_under h4w bb; replace lz_h1 := Nat.le_trans lz_h1 bb.size; replace lz_h2 := Nat.le_trans lz_h2 bb.size; replace lz_h3 := Nat.le_trans lz_h3 bb.size; replace lz_h4 := Nat.le_trans lz_h4 bb.size; replace bel := bel.trans (bb.mono bel.size); have hb83 := hh; clear hh lt ge bb; have av_tw_p := (own_sl tww).2.av y_tw_p.out; have av_tw_d := (own_sl tww).2.av y_tw_d.out; have av_tw_z := (own_sl tww).2.av y_tw_z.out) | ((with_reducible show wpList _ _ _ (⟨some 84, _, _, _, _, _⟩ :: _) _ _); refine wpList_append_bb _ rfl (.tmp 73) (.tmp 83) 25 rfl (w11.heap.size) 5 ii (.int .u8 0) Try.underlying25 hii hz0 hz1 hz2 rfl _ (12) ([] ++ two sf ++ two st ++ four se ++ four ak) rfl h4w (some ⟨g83, 0, none⟩) (2) (2) ([byteOf (80 + 4 * (nq : Int)), byteOf fg]) rfl tw (by omega) lz_h4 ?_; intro v84 w16 own_ bb; replace ho := ho.under bl_ho_h4 bb; replace hv := hv.under bl_hv_h4 bb; replace hb := hb.under bl_hb_h4 bb; replace h1 := h1.under bl_h1_h4 bb; clear h1w lz_h1; replace h2 := h2.under bl_h2_h4 bb; clear h2w lz_h2; replace h3 := h3.under bl_h3_h4 bb; clear h3w lz_h3; clear tw tww lz_tw; replace hp := blk_under hp bb y_h4_p.out; replace hd := blk_under hd bb y_h4_d.out; replace hz := blk_under hz bb y_h4_z.out; clear hb83; replace bel := bel.trans (bb.mono h4lo); have lz_h5 := Nat.le_trans lz_h4 bb.size; clear bb; clear h4 h4w lz_h4; replace own_ : w16.ownsRow (w11.heap.size) 5 1 v84 (14) (([] ++ two sf ++ two st ++ four se ++ four ak ++ [byteOf (80 + 4 * (nq : Int)), byteOf fg] : List UInt8).map u8v) := own_; obtain ⟨A84, c84, rfl⟩ := own_val own_; have h5w := own_; have h5 := (own_sl own_).1; have fr_h5 := (own_sl own_).2; clear own_; have av_h5_p := fr_h5.av y_h4_p.out; have av_h5_d := fr_h5.av y_h4_d.out; have av_h5_z := fr_h5.av y_h4_z.out; have R87 := cell_lit hd 5 _ rfl))
  try clear R75
  try clear R81
  try clear R87
  with_reducible refine (r16_oto _ 14 16 _ _ _ _ rfl h5 (by omega)).mono ?_
  rintro e w17 ⟨v, rfl, h6w, b17⟩
  have y_h6_p := Lib.hid (hlt hp)
  have y_h6_d := Lib.hid (hlt hd)
  have y_h6_z := Lib.hid (hlt hz)
  have bl_ho_h6 := ho.bl_new
  have bl_hv_h6 := hv.bl_new
  have bl_hb_h6 := hb.bl_new
  have bl_h1_h6 := h1.bl_new
  have bl_h2_h6 := h2.bl_new
  have bl_h3_h6 := h3.bl_new
  have bl_h5_h6 := h5.bl_new
  have h6lo := bel.size
  have lz_h6 := b17.size
  replace hp := blk_u hp b17
  replace hd := blk_u hd b17
  replace hz := blk_u hz b17
  replace ho := ho.below b17
  replace hv := hv.below b17
  replace hb := hb.below b17
  replace h1 := h1.below b17
  replace h2 := h2.below b17
  replace h3 := h3.below b17
  replace h5 := h5.below b17
  replace h5w := own_under h5w b17
  replace lz_h5 := Nat.le_trans lz_h5 b17.size
  replace bel := bel.trans (b17.mono bel.size)
  clear b17
  obtain ⟨Ah6, ch6, rfl⟩ := own_val h6w
  have h6 := (own_sl h6w).1
  have fr_h6 := (own_sl h6w).2
  have av_h6_p := fr_h6.av y_h6_p.out
  have av_h6_d := fr_h6.av y_h6_d.out
  have av_h6_z := fr_h6.av y_h6_z.out
  go_wp2_with (first | ((with_reducible show wpList _ _ _ (⟨some 89, _, _, _, _, _⟩ :: _) _ _); refine wpList_lit_n rfl 25 5 2 _ rfl #[.int .u8 0, .int .u8 0] (.int .u8 0) Try.underlying25 (by kernel_rfl) 1 (by kernel_rfl) (by decide) (by kernel_rfl) ?_; intro g89 w18 ge lt hh bb; have hl : w18.heap[g89]? = some (.cells (([0, 0] : List UInt8).map u8v).toArray 5 (0, 0)) := (by simpa [u8v, byteOf_val] using hh); have tzw := own_lit (B := w17.heap.size) ([0, 0]) hl ge 2 rfl (by simp [maxLen]); have tz := (own_sl tzw).1; have tzlo := bel.size; clear hl; have tzge := ge; have lz_tz := bb.size; have y_tz_p := Lib.hid (hlt hp); have y_tz_d := Lib.hid (hlt hd); have y_tz_z := Lib.hid (hlt hz); have bl_ho_tz := ho.bl_new; have bl_hv_tz := hv.bl_new; have bl_hb_tz := hb.bl_new; have bl_h1_tz := h1.bl_new; have bl_h2_tz := h2.bl_new; have bl_h3_tz := h3.bl_new; have bl_h5_tz := h5.bl_new; have bl_h6_tz := h6.bl_new; have d_p_b89 := ne_new (hlt hp) ge; have d_d_b89 := ne_new (hlt hd) ge; have d_z_b89 := ne_new (hlt hz) ge; have av_ho_b89 := ho.av_new ge; have av_hv_b89 := hv.av_new ge; have av_hb_b89 := hb.av_new ge; have av_h1_b89 := h1.av_new ge; have av_h2_b89 := h2.av_new ge; have av_h3_b89 := h3.av_new ge; have av_h5_b89 := h5.av_new ge; have of_h5_b89 := own_new h5w ge; have av_h6_b89 := h6.av_new ge; have of_h6_b89 := own_new h6w ge; have ob89 := Nat.le_trans bel.size ge; replace hp := blk_u hp bb; replace hd := blk_u hd bb; replace hz := blk_u hz bb; replace ho := ho.below bb; replace hv := hv.below bb; replace hb := hb.below bb; replace h1 := h1.below bb; replace h2 := h2.below bb; replace h3 := h3.below bb; replace h5 := h5.below bb; replace h5w := own_under h5w bb; replace h6 := h6.below bb; replace h6w := own_under h6w bb; replace lz_h5 := Nat.le_trans lz_h5 bb.size; replace lz_h6 := Nat.le_trans lz_h6 bb.size; replace bel := bel.trans (bb.mono bel.size); have hb89 := hh; clear hh lt ge bb; have av_tz_p := (own_sl tzw).2.av y_tz_p.out; have av_tz_d := (own_sl tzw).2.av y_tz_d.out; have av_tz_z := (own_sl tzw).2.av y_tz_z.out) | ((with_reducible show wpList _ _ _ (⟨some 90, _, _, _, _, _⟩ :: _) _ _); refine wpList_append_bb _ rfl (.tmp 88) (.tmp 89) 25 rfl (w16.heap.size) 5 ii (.int .u8 0) Try.underlying25 hii hz0 hz1 hz2 rfl _ (16) ([] ++ two sf ++ two st ++ four se ++ four ak ++ [byteOf (80 + 4 * (nq : Int)), byteOf fg] ++ two wn) rfl h6w (some ⟨g89, 0, none⟩) (2) (2) ([0, 0]) rfl tz (by omega) lz_h6 ?_; intro v90 w19 own_ bb; replace ho := ho.under bl_ho_h6 bb; replace hv := hv.under bl_hv_h6 bb; replace hb := hb.under bl_hb_h6 bb; replace h1 := h1.under bl_h1_h6 bb; replace h2 := h2.under bl_h2_h6 bb; replace h3 := h3.under bl_h3_h6 bb; replace h5 := h5.under bl_h5_h6 bb; clear h5w lz_h5; clear tz tzw lz_tz; replace hp := blk_under hp bb y_h6_p.out; replace hd := blk_under hd bb y_h6_d.out; replace hz := blk_under hz bb y_h6_z.out; clear hb89; replace bel := bel.trans (bb.mono h6lo); have lz_h7 := Nat.le_trans lz_h6 bb.size; clear bb; clear h6 h6w lz_h6; replace own_ : w19.ownsRow (w16.heap.size) 5 1 v90 (18) (([] ++ two sf ++ two st ++ four se ++ four ak ++ [byteOf (80 + 4 * (nq : Int)), byteOf fg] ++ two wn ++ [0, 0] : List UInt8).map u8v) := own_; obtain ⟨A90, c90, rfl⟩ := own_val own_; have h7w := own_; have h7 := (own_sl own_).1; have fr_h7 := (own_sl own_).2; clear own_; have av_h7_p := fr_h7.av y_h6_p.out; have av_h7_d := fr_h7.av y_h6_d.out; have av_h7_z := fr_h7.av y_h6_z.out; have R93 := cell_lit hd 6 _ rfl))
  try clear R93
  with_reducible refine (r16_oto _ 18 20 _ _ _ _ rfl h7 (by omega)).mono ?_
  rintro e w20 ⟨v, rfl, h8w, b20⟩
  have y_h8_p := Lib.hid (hlt hp)
  have y_h8_d := Lib.hid (hlt hd)
  have y_h8_z := Lib.hid (hlt hz)
  have bl_ho_h8 := ho.bl_new
  have bl_hv_h8 := hv.bl_new
  have bl_hb_h8 := hb.bl_new
  have bl_h1_h8 := h1.bl_new
  have bl_h2_h8 := h2.bl_new
  have bl_h3_h8 := h3.bl_new
  have bl_h5_h8 := h5.bl_new
  have bl_h7_h8 := h7.bl_new
  have h8lo := bel.size
  have lz_h8 := b20.size
  replace hp := blk_u hp b20
  replace hd := blk_u hd b20
  replace hz := blk_u hz b20
  replace ho := ho.below b20
  replace hv := hv.below b20
  replace hb := hb.below b20
  replace h1 := h1.below b20
  replace h2 := h2.below b20
  replace h3 := h3.below b20
  replace h5 := h5.below b20
  replace h7 := h7.below b20
  replace h7w := own_under h7w b20
  replace lz_h7 := Nat.le_trans lz_h7 b20.size
  replace bel := bel.trans (b20.mono bel.size)
  clear b20
  obtain ⟨Ah8, ch8, rfl⟩ := own_val h8w
  have h8 := (own_sl h8w).1
  have fr_h8 := (own_sl h8w).2
  have av_h8_p := fr_h8.av y_h8_p.out
  have av_h8_d := fr_h8.av y_h8_d.out
  have av_h8_z := fr_h8.av y_h8_z.out
  have R97 := cell_lit hd 7 _ rfl
  go_wp2_with (first | ((with_reducible show wpList _ _ _ (⟨some 98, _, _, _, _, _⟩ :: _) _ _); refine wpList_append_bb _ rfl (.tmp 95) (.tmp 97) 25 rfl (w19.heap.size) 5 ii (.int .u8 0) Try.underlying25 hii hz0 hz1 hz2 rfl _ (20) ([] ++ two sf ++ two st ++ four se ++ four ak ++ [byteOf (80 + 4 * (nq : Int)), byteOf fg] ++ two wn ++ [0, 0] ++ two ug) rfl h8w (Q) (nq) (cq) (lq) rfl hv (by omega) lz_h8 ?_; intro v98 w21 own_ bb; replace ho := ho.under bl_ho_h8 bb; replace hv := hv.under bl_hv_h8 bb; replace hb := hb.under bl_hb_h8 bb; replace h1 := h1.under bl_h1_h8 bb; replace h2 := h2.under bl_h2_h8 bb; replace h3 := h3.under bl_h3_h8 bb; replace h5 := h5.under bl_h5_h8 bb; replace h7 := h7.under bl_h7_h8 bb; clear h7w lz_h7; replace hp := blk_under hp bb y_h8_p.out; replace hd := blk_under hd bb y_h8_d.out; replace hz := blk_under hz bb y_h8_z.out; replace bel := bel.trans (bb.mono h8lo); have lz_h9 := Nat.le_trans lz_h8 bb.size; clear bb; clear h8 h8w lz_h8; replace own_ : w21.ownsRow (w19.heap.size) 5 1 v98 (20 + nq) (([] ++ two sf ++ two st ++ four se ++ four ak ++ [byteOf (80 + 4 * (nq : Int)), byteOf fg] ++ two wn ++ [0, 0] ++ two ug ++ lq : List UInt8).map u8v) := own_; obtain ⟨A98, c98, rfl⟩ := own_val own_; have h9w := own_; have h9 := (own_sl own_).1; have fr_h9 := (own_sl own_).2; clear own_; have av_h9_p := fr_h9.av y_h8_p.out; have av_h9_d := fr_h9.av y_h8_d.out; have av_h9_z := fr_h9.av y_h8_z.out; have R101 := cell_lit hd 8 _ rfl) | ((with_reducible show wpList _ _ _ (⟨some 102, _, _, _, _, _⟩ :: _) _ _); refine wpList_append_bb _ rfl (.tmp 99) (.tmp 101) 25 rfl (w19.heap.size) 5 ii (.int .u8 0) Try.underlying25 hii hz0 hz1 hz2 rfl _ (20 + nq) ([] ++ two sf ++ two st ++ four se ++ four ak ++ [byteOf (80 + 4 * (nq : Int)), byteOf fg] ++ two wn ++ [0, 0] ++ two ug ++ lq) rfl h9w (D) (nd) (cd) (ld) rfl hb (by omega) lz_h9 ?_; intro v102 w22 own_ bb; replace ho := ho.under bl_ho_h8 bb; replace hv := hv.under bl_hv_h8 bb; replace hb := hb.under bl_hb_h8 bb; replace h1 := h1.under bl_h1_h8 bb; replace h2 := h2.under bl_h2_h8 bb; replace h3 := h3.under bl_h3_h8 bb; replace h5 := h5.under bl_h5_h8 bb; replace h7 := h7.under bl_h7_h8 bb; replace hp := blk_under hp bb y_h8_p.out; replace hd := blk_under hd bb y_h8_d.out; replace hz := blk_under hz bb y_h8_z.out; replace bel := bel.trans (bb.mono h8lo); have lz_al := Nat.le_trans lz_h9 bb.size; clear bb; clear h9 h9w lz_h9; replace own_ : w22.ownsRow (w19.heap.size) 5 1 v102 (20 + nq + nd) (([] ++ two sf ++ two st ++ four se ++ four ak ++ [byteOf (80 + 4 * (nq : Int)), byteOf fg] ++ two wn ++ [0, 0] ++ two ug ++ lq ++ ld : List UInt8).map u8v) := own_; obtain ⟨A102, c102, rfl⟩ := own_val own_; have alw := own_; have al := (own_sl own_).1; have fr_al := (own_sl own_).2; clear own_; have av_al_p := fr_al.av y_h8_p.out; have av_al_d := fr_al.av y_h8_d.out; have av_al_z := fr_al.av y_h8_z.out; have R103 := Lib.hid (range_lit hp 0 16 [.int .i64 tos, .int .i64 id, .int .i64 fl, .int .i64 pt, .int .i64 ttl, .int .i64 6, .int .u8 (a0.toNat : Int), .int .u8 (a1.toNat : Int), .int .u8 (a2.toNat : Int), .int .u8 (a3.toNat : Int), .int .u8 (a4.toNat : Int), .int .u8 (a5.toNat : Int), .int .u8 (a6.toNat : Int), .int .u8 (a7.toNat : Int), .slice So no co, .slice Sb nb cb] rfl)) | ((with_reducible show wpList _ _ _ (⟨some 103, _, _, _, _, _⟩ :: _) _ _); refine wpList_load_rng 40 (.tmp 2) rfl (by kernel_rfl) _ _ rfl _ R103.out _ Try.underlying40 rfl (by kernel_rfl) ?_))
  try clear R97
  try clear R101
  try clear R103
  with_reducible refine (rsum_any _ _ _ _ _ _ _ _ _ _ _ _ _ _ _ _ _ _ _ _ _ _ _ _ _ al (by omega)).mono ?_
  rintro e w23 ⟨rfl, b23⟩
  replace hp := blk_u hp b23
  replace hd := blk_u hd b23
  replace hz := blk_u hz b23
  replace ho := ho.below b23
  replace hv := hv.below b23
  replace hb := hb.below b23
  replace h1 := h1.below b23
  replace h2 := h2.below b23
  replace h3 := h3.below b23
  replace h5 := h5.below b23
  replace h7 := h7.below b23
  replace al := al.below b23
  replace alw := own_under alw b23
  replace lz_al := Nat.le_trans lz_al b23.size
  replace bel := bel.trans (b23.mono bel.size)
  clear b23
  rw [show ((20 + nq + nd : Nat) : Int) = 20 + (nq : Int) + (nd : Int) from rfl, HS.out]
  obtain ⟨gb, cg, eg, alge, allt, alnc, alcm⟩ := own_at alw (by omega)
  injection eg with eg1 _ eg3
  subst eg1
  subst eg3
  have m6 : (16 : Int) < 20 + (nq : Int) + (nd : Int) := by omega
  have m7 : (17 : Int) < 20 + (nq : Int) + (nd : Int) := by omega
  have FRB : Fr w.heap.size (some ⟨gb, 0, none⟩) (20 + nq + nd) := fun _ => ⟨_, _, rfl, Nat.le_trans h8lo alge⟩
  go_wp2_with (first | ((with_reducible show wpList _ _ _ (⟨none, Op.store _ (.tmp 113) _, _, _, _, _⟩ :: _) _ _); refine wpList_store_byte rfl 5 (.tmp 113) (.tmp 110) rfl (w19.heap.size) 5 gb 16 (20 + nq + nd) (c102) ([] ++ two sf ++ two st ++ four se ++ four ak ++ [byteOf (80 + 4 * (nq : Int)), byteOf fg] ++ two wn ++ [0, 0] ++ two ug ++ lq ++ ld) (byteOf (sm / 256)) rfl (by show (Value.int .u8 (sm / 256 % 256) : Value) = .int .u8 ((byteOf (sm / 256)).toNat : Int); rw [byteOf_val]) alw (by omega) (by kernel_rfl) ?_; intro w24 own_ gr; replace ho := ho.away (bl_ho_h8.av alge) gr; replace hv := hv.away (bl_hv_h8.av alge) gr; replace hb := hb.away (bl_hb_h8.av alge) gr; replace h1 := h1.away (bl_h1_h8.av alge) gr; replace h2 := h2.away (bl_h2_h8.av alge) gr; replace h3 := h3.away (bl_h3_h8.av alge) gr; replace h5 := h5.away (bl_h5_h8.av alge) gr; replace h7 := h7.away (bl_h7_h8.av alge) gr; replace hp := blk_a hp gr (ne_new y_h8_p.out alge); replace hd := blk_a hd gr (ne_new y_h8_d.out alge); replace hz := blk_a hz gr (ne_new y_h8_z.out alge); replace bel := below_grown bel gr (Nat.le_trans h8lo alge) bel.size; replace lz_al := Nat.le_trans lz_al gr.size; clear gr al alw; have alw := own_; have al := (own_sl own_).1; clear own_) | ((with_reducible show wpList _ _ _ (⟨none, Op.store _ (.tmp 114) _, _, _, _, _⟩ :: _) _ _); refine wpList_store_byte rfl 5 (.tmp 114) (.tmp 112) rfl (w19.heap.size) 5 gb 17 (20 + nq + nd) (c102) (([] ++ two sf ++ two st ++ four se ++ four ak ++ [byteOf (80 + 4 * (nq : Int)), byteOf fg] ++ two wn ++ [0, 0] ++ two ug ++ lq ++ ld).set 16 (byteOf (sm / 256))) (byteOf sm) rfl (by show (Value.int .u8 (sm % 256) : Value) = .int .u8 ((byteOf sm).toNat : Int); rw [byteOf_val]) alw (by omega) (by kernel_rfl) ?_; intro w25 own_ gr; replace ho := ho.away (bl_ho_h8.av alge) gr; replace hv := hv.away (bl_hv_h8.av alge) gr; replace hb := hb.away (bl_hb_h8.av alge) gr; replace h1 := h1.away (bl_h1_h8.av alge) gr; replace h2 := h2.away (bl_h2_h8.av alge) gr; replace h3 := h3.away (bl_h3_h8.av alge) gr; replace h5 := h5.away (bl_h5_h8.av alge) gr; replace h7 := h7.away (bl_h7_h8.av alge) gr; replace hp := blk_a hp gr (ne_new y_h8_p.out alge); replace hd := blk_a hd gr (ne_new y_h8_d.out alge); replace hz := blk_a hz gr (ne_new y_h8_z.out alge); replace bel := below_grown bel gr (Nat.le_trans h8lo alge) bel.size; replace lz_al := Nat.le_trans lz_al gr.size; clear gr al alw; have alw := own_; have al := (own_sl own_).1; clear own_) | ((with_reducible show wpList _ _ _ (⟨none, Op.store _ (.tmp 116) _, _, _, _, _⟩ :: _) _ _); refine wpList_store_part rfl 25 (.tmp 116) (.tmp 115) rfl g2 15 rfl [.slice (some ⟨gb, 0, none⟩) (20 + nq + nd) c102] rfl [.int .i64 tos, .int .i64 id, .int .i64 fl, .int .i64 pt, .int .i64 ttl, .int .i64 6, .int .u8 (a0.toNat : Int), .int .u8 (a1.toNat : Int), .int .u8 (a2.toNat : Int), .int .u8 (a3.toNat : Int), .int .u8 (a4.toNat : Int), .int .u8 (a5.toNat : Int), .int .u8 (a6.toNat : Int), .int .u8 (a7.toNat : Int), .slice So no co, .slice Sb nb cb] 40 hp (by simp) [.int .i64 tos, .int .i64 id, .int .i64 fl, .int .i64 pt, .int .i64 ttl, .int .i64 6, .int .u8 (a0.toNat : Int), .int .u8 (a1.toNat : Int), .int .u8 (a2.toNat : Int), .int .u8 (a3.toNat : Int), .int .u8 (a4.toNat : Int), .int .u8 (a5.toNat : Int), .int .u8 (a6.toNat : Int), .int .u8 (a7.toNat : Int), .slice So no co, .slice (some ⟨gb, 0, none⟩) (20 + nq + nd) c102] rfl (by kernel_rfl) (by rfl) ?_; intro w26 hq gr; replace ho := ho.away av_ho_p gr; replace hv := hv.away av_hv_p gr; replace hb := hb.away av_hb_p gr; replace h1 := h1.away av_h1_p gr; replace h2 := h2.away av_h2_p gr; replace h3 := h3.away av_h3_p gr; replace h5 := h5.away av_h5_p gr; replace h7 := h7.away av_h7_p gr; replace al := al.away av_al_p gr; replace alw := own_away alw y_h8_p.out gr; replace lz_al := Nat.le_trans lz_al gr.size; replace hd := blk_a hd gr (ne_symm d_p_d); replace hz := blk_a hz gr (ne_symm d_p_z); replace bel := below_grown bel gr op bel.size; clear hp; have hp := hq; clear hq gr; have R118 := cell_lit hp 14 _ rfl))
  try clear R118
  with_reducible refine (rcopied_o _ _ _ _ _ ho (by have := HNO.out; omega)).mono ?_
  rintro e w27 ⟨v, rfl, oqw, b27⟩
  have y_oq_p := Lib.hid (hlt hp)
  have y_oq_d := Lib.hid (hlt hd)
  have y_oq_z := Lib.hid (hlt hz)
  have bl_ho_oq := ho.bl_new
  have bl_hv_oq := hv.bl_new
  have bl_hb_oq := hb.bl_new
  have bl_h1_oq := h1.bl_new
  have bl_h2_oq := h2.bl_new
  have bl_h3_oq := h3.bl_new
  have bl_h5_oq := h5.bl_new
  have bl_h7_oq := h7.bl_new
  have bl_al_oq := al.bl_new
  have oqlo := bel.size
  have lz_oq := b27.size
  replace hp := blk_u hp b27
  replace hd := blk_u hd b27
  replace hz := blk_u hz b27
  replace ho := ho.below b27
  replace hv := hv.below b27
  replace hb := hb.below b27
  replace h1 := h1.below b27
  replace h2 := h2.below b27
  replace h3 := h3.below b27
  replace h5 := h5.below b27
  replace h7 := h7.below b27
  replace al := al.below b27
  replace alw := own_under alw b27
  replace lz_al := Nat.le_trans lz_al b27.size
  replace bel := bel.trans (b27.mono bel.size)
  clear b27
  obtain ⟨Aoq, coq, rfl⟩ := own_val oqw
  have oq := (own_sl oqw).1
  have fr_oq := (own_sl oqw).2
  have av_oq_p := fr_oq.av y_oq_p.out
  have av_oq_d := fr_oq.av y_oq_d.out
  have av_oq_z := fr_oq.av y_oq_z.out
  go_wp2_with (first | ((with_reducible show wpList _ _ _ (⟨none, Op.store _ (.tmp 120) _, _, _, _, _⟩ :: _) _ _); refine wpList_store_part rfl 25 (.tmp 120) (.tmp 119) rfl g2 14 rfl [.slice Aoq no coq] rfl [.int .i64 tos, .int .i64 id, .int .i64 fl, .int .i64 pt, .int .i64 ttl, .int .i64 6, .int .u8 (a0.toNat : Int), .int .u8 (a1.toNat : Int), .int .u8 (a2.toNat : Int), .int .u8 (a3.toNat : Int), .int .u8 (a4.toNat : Int), .int .u8 (a5.toNat : Int), .int .u8 (a6.toNat : Int), .int .u8 (a7.toNat : Int), .slice So no co, .slice (some ⟨gb, 0, none⟩) (20 + nq + nd) c102] 40 hp (by simp) [.int .i64 tos, .int .i64 id, .int .i64 fl, .int .i64 pt, .int .i64 ttl, .int .i64 6, .int .u8 (a0.toNat : Int), .int .u8 (a1.toNat : Int), .int .u8 (a2.toNat : Int), .int .u8 (a3.toNat : Int), .int .u8 (a4.toNat : Int), .int .u8 (a5.toNat : Int), .int .u8 (a6.toNat : Int), .int .u8 (a7.toNat : Int), .slice Aoq no coq, .slice (some ⟨gb, 0, none⟩) (20 + nq + nd) c102] rfl (by kernel_rfl) (by rfl) ?_; intro w28 hq gr; replace ho := ho.away av_ho_p gr; replace hv := hv.away av_hv_p gr; replace hb := hb.away av_hb_p gr; replace h1 := h1.away av_h1_p gr; replace h2 := h2.away av_h2_p gr; replace h3 := h3.away av_h3_p gr; replace h5 := h5.away av_h5_p gr; replace h7 := h7.away av_h7_p gr; replace al := al.away av_al_p gr; replace alw := own_away alw y_h8_p.out gr; replace oq := oq.away av_oq_p gr; replace oqw := own_away oqw y_oq_p.out gr; replace lz_al := Nat.le_trans lz_al gr.size; replace lz_oq := Nat.le_trans lz_oq gr.size; replace hd := blk_a hd gr (ne_symm d_p_d); replace hz := blk_a hz gr (ne_symm d_p_z); replace bel := below_grown bel gr op bel.size; clear hp; have hp := hq; clear hq gr; have R121 := Lib.hid (range_lit hp 0 16 [.int .i64 tos, .int .i64 id, .int .i64 fl, .int .i64 pt, .int .i64 ttl, .int .i64 6, .int .u8 (a0.toNat : Int), .int .u8 (a1.toNat : Int), .int .u8 (a2.toNat : Int), .int .u8 (a3.toNat : Int), .int .u8 (a4.toNat : Int), .int .u8 (a5.toNat : Int), .int .u8 (a6.toNat : Int), .int .u8 (a7.toNat : Int), .slice Aoq no coq, .slice (some ⟨gb, 0, none⟩) (20 + nq + nd) c102] rfl)) | ((with_reducible show wpList _ _ _ (⟨some 121, _, _, _, _, _⟩ :: _) _ _); refine wpList_load_rng 40 (.tmp 2) rfl (by kernel_rfl) _ _ rfl _ R121.out _ Try.underlying40 rfl (by kernel_rfl) ?_) | ((with_reducible show wpList _ _ _ (⟨none, Op.store _ (.tmp 4) _, _, _, _, _⟩ :: _) _ _); refine wpList_store_blk rfl 40 (.tmp 4) (.tmp 121) rfl g4 rfl _ rfl _ 40 hz (by rfl) (by kernel_rfl) (by kernel_rfl) ?_; intro w29 hq gr; replace ho := ho.away av_ho_z gr; replace hv := hv.away av_hv_z gr; replace hb := hb.away av_hb_z gr; replace h1 := h1.away av_h1_z gr; replace h2 := h2.away av_h2_z gr; replace h3 := h3.away av_h3_z gr; replace h5 := h5.away av_h5_z gr; replace h7 := h7.away av_h7_z gr; replace al := al.away av_al_z gr; replace alw := own_away alw y_h8_z.out gr; replace oq := oq.away av_oq_z gr; replace oqw := own_away oqw y_oq_z.out gr; replace lz_al := Nat.le_trans lz_al gr.size; replace lz_oq := Nat.le_trans lz_oq gr.size; replace hp := blk_a hp gr d_p_z; replace hd := blk_a hd gr d_d_z; replace bel := below_grown bel gr oz bel.size; clear hz; have hz := hq; clear hq gr))
  try clear R121
  exact bodyPost_ret (results_cell_tmp_row rfl _ _ _ _ _ _ _ rfl hz Try.underlying40 rfl (by kernel_rfl) (.int .i64 0) rfl) rfl ⟨tos, id, fl, pt, ttl, 6, a0, a1, a2, a3, a4, a5, a6, a7, lo, tcBytes a0 a1 a2 a3 a4 a5 a6 a7 sf st se ak fg wn ug lq ld, Aoq, some ⟨gb, 0, none⟩, coq, c102, 0, by rw [HL1.out, HL2.out], by rw [HL1.out]; exact oq, by rw [HL2.out, HB.out]; exact al, by rw [HL1.out]; exact fr_oq.mono oqlo, by rw [HL2.out]; exact FRB, bel, HP.out.symm⟩
theorem rtcput_any (tos id fl pt ttl pr : Int) (a0 a1 a2 a3 a4 a5 a6 a7 : UInt8) (So Sb : Option Addr) (no co nb cb : Nat) (sf st se ak fg wn ug : Int) (Q : Option Addr) (nq cq : Nat) (D : Option Addr) (nd cd : Nat) (lo lq ld : List UInt8) (w : World) (ho : Sl w So no co lo) (hv : Sl w Q nq cq lq) (hb : Sl w D nd cd ld) (hno : no ≤ 100000) (e0 : 0 ≤ se) (e1 : se < 4294967296) (k0 : 0 ≤ ak) (k1 : ak < 4294967296) : Calls Try.prog 14 #[.agg #[.int .i64 tos, .int .i64 id, .int .i64 fl, .int .i64 pt, .int .i64 ttl, .int .i64 pr, .int .u8 (a0.toNat : Int), .int .u8 (a1.toNat : Int), .int .u8 (a2.toNat : Int), .int .u8 (a3.toNat : Int), .int .u8 (a4.toNat : Int), .int .u8 (a5.toNat : Int), .int .u8 (a6.toNat : Int), .int .u8 (a7.toNat : Int), .slice So no co, .slice Sb nb cb], .agg #[.int .i64 sf, .int .i64 st, .int .u32 se, .int .u32 ak, .int .i64 fg, .int .i64 wn, .int .i64 ug, .slice Q nq cq, .slice D nd cd]] w (PkPost (tcPut tos id fl pt ttl a0 a1 a2 a3 a4 a5 a6 a7 lo sf st se ak fg wn ug lq ld) w) := by
  rcases (by decide : ∀ b : Bool, b = true ∨ b = false) (inOk 65535 sf) with f0 | f0
  · rcases (by decide : ∀ b : Bool, b = true ∨ b = false) (inOk 65535 st) with f1 | f1
    · rcases (by decide : ∀ b : Bool, b = true ∨ b = false) (inOk 63 fg) with f2 | f2
      · rcases (by decide : ∀ b : Bool, b = true ∨ b = false) (inOk 65535 wn) with f3 | f3
        · rcases (by decide : ∀ b : Bool, b = true ∨ b = false) (inOk 65535 ug) with f4 | f4
          · by_cases n0 : nq ≤ 40
            · by_cases n1 : nq % 4 = 0
              · by_cases hl : nq + nd ≤ 1460
                · exact rtcput_ok tos id fl pt ttl pr a0 a1 a2 a3 a4 a5 a6 a7 So Sb no co nb cb sf st se ak fg wn ug Q nq cq D nd cd lo lq ld w ho hv hb f0 f1 f2 f3 f4 n0 n1 hl hno _ rfl e0 e1 k0 k1
                · exact rtcput_long tos id fl pt ttl pr a0 a1 a2 a3 a4 a5 a6 a7 So Sb no co nb cb sf st se ak fg wn ug Q nq cq D nd cd lo lq ld w ho hv hb f0 f1 f2 f3 f4 n0 n1 (by omega)
              · exact rtcput_6 tos id fl pt ttl pr a0 a1 a2 a3 a4 a5 a6 a7 So Sb no co nb cb sf st se ak fg wn ug Q nq cq D nd cd lo lq ld w ho hv hb f0 f1 f2 f3 f4 n0 n1
            · exact rtcput_5 tos id fl pt ttl pr a0 a1 a2 a3 a4 a5 a6 a7 So Sb no co nb cb sf st se ak fg wn ug Q nq cq D nd cd lo lq ld w ho hv hb f0 f1 f2 f3 f4 (by omega)
          · exact rtcput_4 tos id fl pt ttl pr a0 a1 a2 a3 a4 a5 a6 a7 So Sb no co nb cb sf st se ak fg wn ug Q nq cq D nd cd lo lq ld w ho hv hb f0 f1 f2 f3 f4
        · exact rtcput_3 tos id fl pt ttl pr a0 a1 a2 a3 a4 a5 a6 a7 So Sb no co nb cb sf st se ak fg wn ug Q nq cq D nd cd lo lq ld w ho hv hb f0 f1 f2 f3
      · exact rtcput_2 tos id fl pt ttl pr a0 a1 a2 a3 a4 a5 a6 a7 So Sb no co nb cb sf st se ak fg wn ug Q nq cq D nd cd lo lq ld w ho hv hb f0 f1 f2
    · exact rtcput_1 tos id fl pt ttl pr a0 a1 a2 a3 a4 a5 a6 a7 So Sb no co nb cb sf st se ak fg wn ug Q nq cq D nd cd lo lq ld w ho hv hb f0 f1
  · exact rtcput_0 tos id fl pt ttl pr a0 a1 a2 a3 a4 a5 a6 a7 So Sb no co nb cb sf st se ak fg wn ug Q nq cq D nd cd lo lq ld w ho hv hb f0
end Go.Proofs.Ytkmihoijnjdbnaa
