/- The reference's PutUdp. -/
import Derived.Test.YthikedajhocdkaaUd4
namespace Go.Proofs.Ythikedajhocdkaa
open Go.RowKit

/-- The sum's two bytes are written last; until then they are noughts. -/
theorem ud_ck (a0 a1 a2 a3 a4 a5 a6 a7 : UInt8) (df dt : Int) (b : List UInt8) : ck (l4Ps a0 a1 a2 a3 a4 a5 a6 a7 17 (8 + (b.length : Int)) ++ ([] ++ two df ++ two dt ++ two (8 + (b.length : Int)) ++ [0, 0] ++ b)) = ck [l4Ps a0 a1 a2 a3 a4 a5 a6 a7 17 (8 + (b.length : Int)), udHd df dt b.length, b].flatten := by
  refine ck_of_ws ?_
  have e1 : l4Ps a0 a1 a2 a3 a4 a5 a6 a7 17 (8 + (b.length : Int)) ++ ([] ++ two df ++ two dt ++ two (8 + (b.length : Int)) ++ [0, 0] ++ b) = (l4Ps a0 a1 a2 a3 a4 a5 a6 a7 17 (8 + (b.length : Int)) ++ udHd df dt b.length) ++ 0 :: 0 :: b := by simp [udHd]
  have e2 : [l4Ps a0 a1 a2 a3 a4 a5 a6 a7 17 (8 + (b.length : Int)), udHd df dt b.length, b].flatten = (l4Ps a0 a1 a2 a3 a4 a5 a6 a7 17 (8 + (b.length : Int)) ++ udHd df dt b.length) ++ b := by simp
  rw [e1, e2, ws_at _ _ _ _ (by simp [l4Ps, udHd, two]), ws_even _ b (by simp [l4Ps, udHd, two])]
  simp
set_option maxRecDepth 100000 in
set_option maxHeartbeats 16000000 in
theorem rudput_bad1 (tos id fl pt ttl pr : Int) (a0 a1 a2 a3 a4 a5 a6 a7 : UInt8) (So Sb : Option Addr) (no co nb cb : Nat) (df dt : Int) (D : Option Addr) (nd cd : Nat) (lo ld : List UInt8) (w : World) (h1 : portOk df = false) : Calls Try.prog 15 #[.agg #[.int .i64 tos, .int .i64 id, .int .i64 fl, .int .i64 pt, .int .i64 ttl, .int .i64 pr, .int .u8 (a0.toNat : Int), .int .u8 (a1.toNat : Int), .int .u8 (a2.toNat : Int), .int .u8 (a3.toNat : Int), .int .u8 (a4.toNat : Int), .int .u8 (a5.toNat : Int), .int .u8 (a6.toNat : Int), .int .u8 (a7.toNat : Int), .slice So no co, .slice Sb nb cb], .agg #[.int .i64 df, .int .i64 dt, .slice D nd cd]] w (PkPost (udPut tos id fl pt ttl a0 a1 a2 a3 a4 a5 a6 a7 lo df dt ld) w) := by
  have H1 := Lib.hid h1
  have HP : Hid (udPut tos id fl pt ttl a0 a1 a2 a3 a4 a5 a6 a7 lo df dt ld = pkNone 1) := Lib.hid (if_pos (by rw [h1]; rfl))
  clear h1
  have bel := Below.refl w.heap.size w
  go_enter Try.func15, Try.ntmps15
  go_wp2_with (first | ((with_reducible show wpList _ _ _ (⟨some 2, _, _, _, _, _⟩ :: _) _ _); refine wpList_box_n rfl 39 (.tmp 0) rfl #[.int .i64 tos, .int .i64 id, .int .i64 fl, .int .i64 pt, .int .i64 ttl, .int .i64 pr, .int .u8 (a0.toNat : Int), .int .u8 (a1.toNat : Int), .int .u8 (a2.toNat : Int), .int .u8 (a3.toNat : Int), .int .u8 (a4.toNat : Int), .int .u8 (a5.toNat : Int), .int .u8 (a6.toNat : Int), .int .u8 (a7.toNat : Int), .slice So no co, .slice Sb nb cb] rfl ?_; intro g2 w1 ge lt hh bb; have op := Nat.le_trans bel.size ge; replace bel := bel.trans (bb.mono bel.size); have hp := hh; have zp := lt; clear hh lt ge bb) | ((with_reducible show wpList _ _ _ (⟨some 3, _, _, _, _, _⟩ :: _) _ _); refine wpList_box_n rfl 36 (.tmp 1) rfl #[.int .i64 df, .int .i64 dt, .slice D nd cd] rfl ?_; intro g3 w2 ge lt hh bb; have d_p_d := ne_new zp ge; have od := Nat.le_trans bel.size ge; replace hp := blk_under hp bb zp; replace zp := Nat.lt_of_lt_of_le zp bb.size; replace bel := bel.trans (bb.mono bel.size); have hd := hh; have zd := lt; clear hh lt ge bb) | ((with_reducible show wpList _ _ _ (⟨some 4, _, _, _, _, _⟩ :: _) _ _); refine wpList_new_n rfl 39 rfl (.agg #[.int .i64 0, .int .i64 0, .int .i64 0, .int .i64 0, .int .i64 0, .int .i64 0, .int .u8 0, .int .u8 0, .int .u8 0, .int .u8 0, .int .u8 0, .int .u8 0, .int .u8 0, .int .u8 0, .slice none 0 0, .slice none 0 0]) (by kernel_rfl) #[.int .i64 0, .int .i64 0, .int .i64 0, .int .i64 0, .int .i64 0, .int .i64 0, .int .u8 0, .int .u8 0, .int .u8 0, .int .u8 0, .int .u8 0, .int .u8 0, .int .u8 0, .int .u8 0, .slice none 0 0, .slice none 0 0] rfl ?_; intro g4 w3 ge lt hh bb; have d_p_z := ne_new zp ge; have d_d_z := ne_new zd ge; have oz := Nat.le_trans bel.size ge; replace hp := blk_under hp bb zp; replace zp := Nat.lt_of_lt_of_le zp bb.size; replace hd := blk_under hd bb zd; replace zd := Nat.lt_of_lt_of_le zd bb.size; replace bel := bel.trans (bb.mono bel.size); have hz := hh; have zz := lt; clear hh lt ge bb; have R9 := cell_lit hd 0 _ rfl))
  try clear R9
  with_reducible refine (rport_any _ _).mono ?_
  rintro e _ ⟨rfl, rfl⟩
  rw [H1.out]
  go_wp2_with (first | ((with_reducible show wpList _ _ _ (⟨none, Op.store _ (.tmp 4) _, _, _, _, _⟩ :: _) _ _); refine wpList_store_blk rfl 39 (.tmp 4) (.tmp 18) rfl g4 rfl #[.int .i64 0, .int .i64 0, .int .i64 0, .int .i64 0, .int .i64 0, .int .i64 0, .int .u8 0, .int .u8 0, .int .u8 0, .int .u8 0, .int .u8 0, .int .u8 0, .int .u8 0, .int .u8 0, .slice none 0 0, .slice none 0 0] rfl _ 39 hz (by rfl) (by kernel_rfl) (by kernel_rfl) ?_; intro w4 hq gr; replace hp := blk_away hp gr zp d_p_z; replace hd := blk_away hd gr zd d_d_z; replace zp := Nat.lt_of_lt_of_le zp gr.size; replace zd := Nat.lt_of_lt_of_le zd gr.size; replace zz := Nat.lt_of_lt_of_le zz gr.size; replace bel := below_grown bel gr oz bel.size; clear hz; have hz := hq; clear hq gr))
  exact bodyPost_ret (results_cell_tmp_row rfl _ _ _ _ _ _ _ rfl hz Try.underlying39 rfl (by kernel_rfl) (.int .i64 1) rfl) rfl (by rw [HP.out]; exact PkPost.none bel)
set_option maxRecDepth 100000 in
set_option maxHeartbeats 16000000 in
theorem rudput_bad2 (tos id fl pt ttl pr : Int) (a0 a1 a2 a3 a4 a5 a6 a7 : UInt8) (So Sb : Option Addr) (no co nb cb : Nat) (df dt : Int) (D : Option Addr) (nd cd : Nat) (lo ld : List UInt8) (w : World) (h1 : portOk df = true) (h2 : portOk dt = false) : Calls Try.prog 15 #[.agg #[.int .i64 tos, .int .i64 id, .int .i64 fl, .int .i64 pt, .int .i64 ttl, .int .i64 pr, .int .u8 (a0.toNat : Int), .int .u8 (a1.toNat : Int), .int .u8 (a2.toNat : Int), .int .u8 (a3.toNat : Int), .int .u8 (a4.toNat : Int), .int .u8 (a5.toNat : Int), .int .u8 (a6.toNat : Int), .int .u8 (a7.toNat : Int), .slice So no co, .slice Sb nb cb], .agg #[.int .i64 df, .int .i64 dt, .slice D nd cd]] w (PkPost (udPut tos id fl pt ttl a0 a1 a2 a3 a4 a5 a6 a7 lo df dt ld) w) := by
  have H1 := Lib.hid h1
  have H2 := Lib.hid h2
  have HP : Hid (udPut tos id fl pt ttl a0 a1 a2 a3 a4 a5 a6 a7 lo df dt ld = pkNone 1) := Lib.hid (if_pos (by rw [h1, h2]; rfl))
  clear h1 h2
  have bel := Below.refl w.heap.size w
  go_enter Try.func15, Try.ntmps15
  go_wp2_with (first | ((with_reducible show wpList _ _ _ (⟨some 2, _, _, _, _, _⟩ :: _) _ _); refine wpList_box_n rfl 39 (.tmp 0) rfl #[.int .i64 tos, .int .i64 id, .int .i64 fl, .int .i64 pt, .int .i64 ttl, .int .i64 pr, .int .u8 (a0.toNat : Int), .int .u8 (a1.toNat : Int), .int .u8 (a2.toNat : Int), .int .u8 (a3.toNat : Int), .int .u8 (a4.toNat : Int), .int .u8 (a5.toNat : Int), .int .u8 (a6.toNat : Int), .int .u8 (a7.toNat : Int), .slice So no co, .slice Sb nb cb] rfl ?_; intro g2 w1 ge lt hh bb; have op := Nat.le_trans bel.size ge; replace bel := bel.trans (bb.mono bel.size); have hp := hh; have zp := lt; clear hh lt ge bb) | ((with_reducible show wpList _ _ _ (⟨some 3, _, _, _, _, _⟩ :: _) _ _); refine wpList_box_n rfl 36 (.tmp 1) rfl #[.int .i64 df, .int .i64 dt, .slice D nd cd] rfl ?_; intro g3 w2 ge lt hh bb; have d_p_d := ne_new zp ge; have od := Nat.le_trans bel.size ge; replace hp := blk_under hp bb zp; replace zp := Nat.lt_of_lt_of_le zp bb.size; replace bel := bel.trans (bb.mono bel.size); have hd := hh; have zd := lt; clear hh lt ge bb) | ((with_reducible show wpList _ _ _ (⟨some 4, _, _, _, _, _⟩ :: _) _ _); refine wpList_new_n rfl 39 rfl (.agg #[.int .i64 0, .int .i64 0, .int .i64 0, .int .i64 0, .int .i64 0, .int .i64 0, .int .u8 0, .int .u8 0, .int .u8 0, .int .u8 0, .int .u8 0, .int .u8 0, .int .u8 0, .int .u8 0, .slice none 0 0, .slice none 0 0]) (by kernel_rfl) #[.int .i64 0, .int .i64 0, .int .i64 0, .int .i64 0, .int .i64 0, .int .i64 0, .int .u8 0, .int .u8 0, .int .u8 0, .int .u8 0, .int .u8 0, .int .u8 0, .int .u8 0, .int .u8 0, .slice none 0 0, .slice none 0 0] rfl ?_; intro g4 w3 ge lt hh bb; have d_p_z := ne_new zp ge; have d_d_z := ne_new zd ge; have oz := Nat.le_trans bel.size ge; replace hp := blk_under hp bb zp; replace zp := Nat.lt_of_lt_of_le zp bb.size; replace hd := blk_under hd bb zd; replace zd := Nat.lt_of_lt_of_le zd bb.size; replace bel := bel.trans (bb.mono bel.size); have hz := hh; have zz := lt; clear hh lt ge bb; have R9 := cell_lit hd 0 _ rfl))
  try clear R9
  with_reducible refine (rport_any _ _).mono ?_
  rintro e _ ⟨rfl, rfl⟩
  rw [H1.out]
  have R14 := cell_lit hd 1 _ rfl
  go_wp2_with fail
  clear R14
  with_reducible refine (rport_any _ _).mono ?_
  rintro e _ ⟨rfl, rfl⟩
  rw [H2.out]
  go_wp2_with (first | ((with_reducible show wpList _ _ _ (⟨none, Op.store _ (.tmp 4) _, _, _, _, _⟩ :: _) _ _); refine wpList_store_blk rfl 39 (.tmp 4) (.tmp 18) rfl g4 rfl #[.int .i64 0, .int .i64 0, .int .i64 0, .int .i64 0, .int .i64 0, .int .i64 0, .int .u8 0, .int .u8 0, .int .u8 0, .int .u8 0, .int .u8 0, .int .u8 0, .int .u8 0, .int .u8 0, .slice none 0 0, .slice none 0 0] rfl _ 39 hz (by rfl) (by kernel_rfl) (by kernel_rfl) ?_; intro w4 hq gr; replace hp := blk_away hp gr zp d_p_z; replace hd := blk_away hd gr zd d_d_z; replace zp := Nat.lt_of_lt_of_le zp gr.size; replace zd := Nat.lt_of_lt_of_le zd gr.size; replace zz := Nat.lt_of_lt_of_le zz gr.size; replace bel := below_grown bel gr oz bel.size; clear hz; have hz := hq; clear hq gr))
  exact bodyPost_ret (results_cell_tmp_row rfl _ _ _ _ _ _ _ rfl hz Try.underlying39 rfl (by kernel_rfl) (.int .i64 1) rfl) rfl (by rw [HP.out]; exact PkPost.none bel)
set_option maxRecDepth 100000 in
set_option maxHeartbeats 16000000 in
theorem rudput_long (tos id fl pt ttl pr : Int) (a0 a1 a2 a3 a4 a5 a6 a7 : UInt8) (So Sb : Option Addr) (no co nb cb : Nat) (df dt : Int) (D : Option Addr) (nd cd : Nat) (lo ld : List UInt8) (w : World) (h1 : portOk df = true) (h2 : portOk dt = true) (hn : 1472 < nd) (hl : ld.length = nd) : Calls Try.prog 15 #[.agg #[.int .i64 tos, .int .i64 id, .int .i64 fl, .int .i64 pt, .int .i64 ttl, .int .i64 pr, .int .u8 (a0.toNat : Int), .int .u8 (a1.toNat : Int), .int .u8 (a2.toNat : Int), .int .u8 (a3.toNat : Int), .int .u8 (a4.toNat : Int), .int .u8 (a5.toNat : Int), .int .u8 (a6.toNat : Int), .int .u8 (a7.toNat : Int), .slice So no co, .slice Sb nb cb], .agg #[.int .i64 df, .int .i64 dt, .slice D nd cd]] w (PkPost (udPut tos id fl pt ttl a0 a1 a2 a3 a4 a5 a6 a7 lo df dt ld) w) := by
  have H1 := Lib.hid h1
  have H2 := Lib.hid h2
  have HP : Hid (udPut tos id fl pt ttl a0 a1 a2 a3 a4 a5 a6 a7 lo df dt ld = pkNone 2) := Lib.hid (by unfold udPut; rw [if_neg (by rw [h1, h2]; decide), if_pos (by omega)])
  have t0 : (1472 : Int) < nd := by omega
  clear h1 h2 hn hl
  have bel := Below.refl w.heap.size w
  go_enter Try.func15, Try.ntmps15
  go_wp2_with (first | ((with_reducible show wpList _ _ _ (⟨some 2, _, _, _, _, _⟩ :: _) _ _); refine wpList_box_n rfl 39 (.tmp 0) rfl #[.int .i64 tos, .int .i64 id, .int .i64 fl, .int .i64 pt, .int .i64 ttl, .int .i64 pr, .int .u8 (a0.toNat : Int), .int .u8 (a1.toNat : Int), .int .u8 (a2.toNat : Int), .int .u8 (a3.toNat : Int), .int .u8 (a4.toNat : Int), .int .u8 (a5.toNat : Int), .int .u8 (a6.toNat : Int), .int .u8 (a7.toNat : Int), .slice So no co, .slice Sb nb cb] rfl ?_; intro g2 w1 ge lt hh bb; have op := Nat.le_trans bel.size ge; replace bel := bel.trans (bb.mono bel.size); have hp := hh; have zp := lt; clear hh lt ge bb) | ((with_reducible show wpList _ _ _ (⟨some 3, _, _, _, _, _⟩ :: _) _ _); refine wpList_box_n rfl 36 (.tmp 1) rfl #[.int .i64 df, .int .i64 dt, .slice D nd cd] rfl ?_; intro g3 w2 ge lt hh bb; have d_p_d := ne_new zp ge; have od := Nat.le_trans bel.size ge; replace hp := blk_under hp bb zp; replace zp := Nat.lt_of_lt_of_le zp bb.size; replace bel := bel.trans (bb.mono bel.size); have hd := hh; have zd := lt; clear hh lt ge bb) | ((with_reducible show wpList _ _ _ (⟨some 4, _, _, _, _, _⟩ :: _) _ _); refine wpList_new_n rfl 39 rfl (.agg #[.int .i64 0, .int .i64 0, .int .i64 0, .int .i64 0, .int .i64 0, .int .i64 0, .int .u8 0, .int .u8 0, .int .u8 0, .int .u8 0, .int .u8 0, .int .u8 0, .int .u8 0, .int .u8 0, .slice none 0 0, .slice none 0 0]) (by kernel_rfl) #[.int .i64 0, .int .i64 0, .int .i64 0, .int .i64 0, .int .i64 0, .int .i64 0, .int .u8 0, .int .u8 0, .int .u8 0, .int .u8 0, .int .u8 0, .int .u8 0, .int .u8 0, .int .u8 0, .slice none 0 0, .slice none 0 0] rfl ?_; intro g4 w3 ge lt hh bb; have d_p_z := ne_new zp ge; have d_d_z := ne_new zd ge; have oz := Nat.le_trans bel.size ge; replace hp := blk_under hp bb zp; replace zp := Nat.lt_of_lt_of_le zp bb.size; replace hd := blk_under hd bb zd; replace zd := Nat.lt_of_lt_of_le zd bb.size; replace bel := bel.trans (bb.mono bel.size); have hz := hh; have zz := lt; clear hh lt ge bb; have R9 := cell_lit hd 0 _ rfl))
  try clear R9
  with_reducible refine (rport_any _ _).mono ?_
  rintro e _ ⟨rfl, rfl⟩
  rw [H1.out]
  have R14 := cell_lit hd 1 _ rfl
  go_wp2_with fail
  clear R14
  with_reducible refine (rport_any _ _).mono ?_
  rintro e _ ⟨rfl, rfl⟩
  rw [H2.out]
  have R20 := cell_lit hd 2 _ rfl
  go_wp2_with (first | ((with_reducible show wpList _ _ _ (⟨none, Op.store _ (.tmp 4) _, _, _, _, _⟩ :: _) _ _); refine wpList_store_blk rfl 39 (.tmp 4) (.tmp 23) rfl g4 rfl #[.int .i64 0, .int .i64 0, .int .i64 0, .int .i64 0, .int .i64 0, .int .i64 0, .int .u8 0, .int .u8 0, .int .u8 0, .int .u8 0, .int .u8 0, .int .u8 0, .int .u8 0, .int .u8 0, .slice none 0 0, .slice none 0 0] rfl _ 39 hz (by rfl) (by kernel_rfl) (by kernel_rfl) ?_; intro w4 hq gr; replace hp := blk_away hp gr zp d_p_z; replace hd := blk_away hd gr zd d_d_z; replace zp := Nat.lt_of_lt_of_le zp gr.size; replace zd := Nat.lt_of_lt_of_le zd gr.size; replace zz := Nat.lt_of_lt_of_le zz gr.size; replace bel := below_grown bel gr oz bel.size; clear hz; have hz := hq; clear hq gr))
  try clear R20
  exact bodyPost_ret (results_cell_tmp_row rfl _ _ _ _ _ _ _ rfl hz Try.underlying39 rfl (by kernel_rfl) (.int .i64 2) rfl) rfl (by rw [HP.out]; exact PkPost.none bel)
set_option maxRecDepth 100000 in
set_option maxHeartbeats 16000000 in
theorem rudput_z (tos id fl pt ttl pr : Int) (a0 a1 a2 a3 a4 a5 a6 a7 : UInt8) (So Sb : Option Addr) (no co nb cb : Nat) (df dt : Int) (D : Option Addr) (nd cd : Nat) (lo ld : List UInt8) (w : World) (ho : Sl w So no co lo) (hb : Sl w D nd cd ld) (h1 : portOk df = true) (h2 : portOk dt = true) (hn : nd ≤ 1472) (hno : no ≤ 100000) (sm : Int) (hs : ck (l4Ps a0 a1 a2 a3 a4 a5 a6 a7 17 (8 + (nd : Int)) ++ ([] ++ two df ++ two dt ++ two (8 + (nd : Int)) ++ [0, 0] ++ ld)) = sm) (hz : sm = 0) : Calls Try.prog 15 #[.agg #[.int .i64 tos, .int .i64 id, .int .i64 fl, .int .i64 pt, .int .i64 ttl, .int .i64 pr, .int .u8 (a0.toNat : Int), .int .u8 (a1.toNat : Int), .int .u8 (a2.toNat : Int), .int .u8 (a3.toNat : Int), .int .u8 (a4.toNat : Int), .int .u8 (a5.toNat : Int), .int .u8 (a6.toNat : Int), .int .u8 (a7.toNat : Int), .slice So no co, .slice Sb nb cb], .agg #[.int .i64 df, .int .i64 dt, .slice D nd cd]] w (PkPost (udPut tos id fl pt ttl a0 a1 a2 a3 a4 a5 a6 a7 lo df dt ld) w) := by
  obtain ⟨ii, hii, hz0, hz1, hz2⟩ := info_parts Try.info5
  have H1 := Lib.hid h1
  have H2 := Lib.hid h2
  have hl2 := hb.1
  have HS := Lib.hid hs
  have HL1 := Lib.hid ho.1
  have HL2 : Hid ((udBytes a0 a1 a2 a3 a4 a5 a6 a7 df dt ld).length = 8 + nd) := Lib.hid (by rw [udBytes_len, hb.1])
  have HP : Hid (udPut tos id fl pt ttl a0 a1 a2 a3 a4 a5 a6 a7 lo df dt ld = (([tos, id, fl, pt, ttl, 17], [a0, a1, a2, a3, a4, a5, a6, a7]), (lo, udBytes a0 a1 a2 a3 a4 a5 a6 a7 df dt ld), 0)) := Lib.hid (by unfold udPut; rw [if_neg (by rw [h1, h2]; decide), if_neg (by rw [hb.1]; omega)])
  have HB : Hid (udBytes a0 a1 a2 a3 a4 a5 a6 a7 df dt ld = (([] ++ two df ++ two dt ++ two (8 + (nd : Int)) ++ [0, 0] ++ ld).set 6 255).set 7 255) := Lib.hid (by
    have e := ud_ck a0 a1 a2 a3 a4 a5 a6 a7 df dt ld
    rw [hl2, hs] at e
    unfold udBytes udSum
    rw [hl2, ← e, if_pos hz]
    rfl)
  have t0 : decide ((1472 : Int) < nd) = false := decide_eq_false (by omega)
  have n0 : (0 : Int) ≤ nd := by omega
  have n1 : (nd : Int) ≤ 1472 := by omega
  have HNO := Lib.hid hno
  have t1 : (sm == 0) = true := by simpa using hz
  clear h1 h2 hno hs hz hl2
  have bel := Below.refl w.heap.size w
  go_enter Try.func15, Try.ntmps15
  go_wp2_with (first | ((with_reducible show wpList _ _ _ (⟨some 2, _, _, _, _, _⟩ :: _) _ _); refine wpList_box_n rfl 39 (.tmp 0) rfl #[.int .i64 tos, .int .i64 id, .int .i64 fl, .int .i64 pt, .int .i64 ttl, .int .i64 pr, .int .u8 (a0.toNat : Int), .int .u8 (a1.toNat : Int), .int .u8 (a2.toNat : Int), .int .u8 (a3.toNat : Int), .int .u8 (a4.toNat : Int), .int .u8 (a5.toNat : Int), .int .u8 (a6.toNat : Int), .int .u8 (a7.toNat : Int), .slice So no co, .slice Sb nb cb] rfl ?_; intro g2 w1 ge lt hh bb; have av_ho_p := ho.av_new ge; have av_hb_p := hb.av_new ge; have op := Nat.le_trans bel.size ge; replace ho := ho.below bb; replace hb := hb.below bb; replace bel := bel.trans (bb.mono bel.size); have hp := hh; have zp := lt; clear hh lt ge bb) | ((with_reducible show wpList _ _ _ (⟨some 3, _, _, _, _, _⟩ :: _) _ _); refine wpList_box_n rfl 36 (.tmp 1) rfl #[.int .i64 df, .int .i64 dt, .slice D nd cd] rfl ?_; intro g3 w2 ge lt hh bb; have d_p_d := ne_new zp ge; have av_ho_d := ho.av_new ge; have av_hb_d := hb.av_new ge; have od := Nat.le_trans bel.size ge; replace hp := blk_under hp bb zp; replace zp := Nat.lt_of_lt_of_le zp bb.size; replace ho := ho.below bb; replace hb := hb.below bb; replace bel := bel.trans (bb.mono bel.size); have hd := hh; have zd := lt; clear hh lt ge bb) | ((with_reducible show wpList _ _ _ (⟨some 4, _, _, _, _, _⟩ :: _) _ _); refine wpList_new_n rfl 39 rfl (.agg #[.int .i64 0, .int .i64 0, .int .i64 0, .int .i64 0, .int .i64 0, .int .i64 0, .int .u8 0, .int .u8 0, .int .u8 0, .int .u8 0, .int .u8 0, .int .u8 0, .int .u8 0, .int .u8 0, .slice none 0 0, .slice none 0 0]) (by kernel_rfl) #[.int .i64 0, .int .i64 0, .int .i64 0, .int .i64 0, .int .i64 0, .int .i64 0, .int .u8 0, .int .u8 0, .int .u8 0, .int .u8 0, .int .u8 0, .int .u8 0, .int .u8 0, .int .u8 0, .slice none 0 0, .slice none 0 0] rfl ?_; intro g4 w3 ge lt hh bb; have d_p_z := ne_new zp ge; have d_d_z := ne_new zd ge; have av_ho_z := ho.av_new ge; have av_hb_z := hb.av_new ge; have oz := Nat.le_trans bel.size ge; replace hp := blk_under hp bb zp; replace zp := Nat.lt_of_lt_of_le zp bb.size; replace hd := blk_under hd bb zd; replace zd := Nat.lt_of_lt_of_le zd bb.size; replace ho := ho.below bb; replace hb := hb.below bb; replace bel := bel.trans (bb.mono bel.size); have hz := hh; have zz := lt; clear hh lt ge bb; have R9 := cell_lit hd 0 _ rfl))
  try clear R9
  with_reducible refine (rport_any _ _).mono ?_
  rintro e _ ⟨rfl, rfl⟩
  rw [H1.out]
  have R14 := cell_lit hd 1 _ rfl
  go_wp2_with fail
  clear R14
  with_reducible refine (rport_any _ _).mono ?_
  rintro e _ ⟨rfl, rfl⟩
  rw [H2.out]
  have R20 := cell_lit hd 2 _ rfl
  go_wp2_with (first | ((with_reducible show wpList _ _ _ (⟨none, Op.store _ (.tmp 24) _, _, _, _, _⟩ :: _) _ _); refine wpList_store_part rfl 3 (.tmp 24) (.const (.int .i64 17)) rfl g2 5 rfl [.int .i64 17] rfl [.int .i64 tos, .int .i64 id, .int .i64 fl, .int .i64 pt, .int .i64 ttl, .int .i64 pr, .int .u8 (a0.toNat : Int), .int .u8 (a1.toNat : Int), .int .u8 (a2.toNat : Int), .int .u8 (a3.toNat : Int), .int .u8 (a4.toNat : Int), .int .u8 (a5.toNat : Int), .int .u8 (a6.toNat : Int), .int .u8 (a7.toNat : Int), .slice So no co, .slice Sb nb cb] 39 hp (by simp) [.int .i64 tos, .int .i64 id, .int .i64 fl, .int .i64 pt, .int .i64 ttl, .int .i64 17, .int .u8 (a0.toNat : Int), .int .u8 (a1.toNat : Int), .int .u8 (a2.toNat : Int), .int .u8 (a3.toNat : Int), .int .u8 (a4.toNat : Int), .int .u8 (a5.toNat : Int), .int .u8 (a6.toNat : Int), .int .u8 (a7.toNat : Int), .slice So no co, .slice Sb nb cb] rfl (by kernel_rfl) (by rfl) ?_; intro w4 hq gr; replace ho := ho.away av_ho_p gr; replace hb := hb.away av_hb_p gr; replace hd := blk_away hd gr zd (ne_symm d_p_d); replace hz := blk_away hz gr zz (ne_symm d_p_z); replace zp := Nat.lt_of_lt_of_le zp gr.size; replace zd := Nat.lt_of_lt_of_le zd gr.size; replace zz := Nat.lt_of_lt_of_le zz gr.size; replace bel := below_grown bel gr op bel.size; clear hp; have hp := hq; clear hq gr))
  try clear R20
  replace bel := bel.drew
  replace hp : w4.drew.heap[g2]? = _ := hp
  replace zp : _ < w4.drew.heap.size := zp
  replace hd : w4.drew.heap[g3]? = _ := hd
  replace zd : _ < w4.drew.heap.size := zd
  replace hz : w4.drew.heap[g4]? = _ := hz
  replace zz : _ < w4.drew.heap.size := zz
  replace ho := ho.drew
  replace hb := hb.drew
  refine wp_region_held_drew (S := fun W => W.heap[g3]? = some (.cells #[.int .i64 df, .int .i64 dt, .slice D nd cd] 36 (0, 0))) (by kernel_rfl) hd (fun hH => ?_)
  generalize w4.drew = w5 at bel hp zp hd zd hz zz ho hb hH ⊢
  refine wpAnyH_take (i := 0) (v := ?_) rfl (by kernel_rfl) (by kernel_rfl) (by kernel_rfl) (fun _ _ _ h => h) (Or.inl ⟨by rfl, ?_⟩) hH ?_
  rotate_left
  · ((intro W hW; clear hW; go_simp) <;> with_reducible rfl)
  simp only [Act.put, List.getElem_toArray, List.getElem_cons_zero, List.setIfInBounds_toArray, List.set_cons_zero, List.set_cons_succ]
  refine wpAnyH_take (i := 1) (v := ?_) rfl (by kernel_rfl) (by kernel_rfl) (by kernel_rfl) (fun _ _ _ h => h) (Or.inl ⟨by rfl, ?_⟩) hH ?_
  rotate_left
  · ((intro W hW; have hk := cell_lit (hW) 0 _ rfl; clear hW; go_simp) <;> with_reducible rfl)
  simp only [Act.put, List.getElem_toArray, List.getElem_cons_zero, List.getElem_cons_succ, List.setIfInBounds_toArray, List.set_cons_zero, List.set_cons_succ]
  refine wpAnyH_take (i := 3) (v := ?_) rfl (by kernel_rfl) (by kernel_rfl) (by kernel_rfl) (fun _ _ _ h => h) (Or.inl ⟨by rfl, ?_⟩) hH ?_
  rotate_left
  · ((intro W hW; clear hW; go_simp) <;> with_reducible rfl)
  simp only [Act.put, List.getElem_toArray, List.getElem_cons_zero, List.getElem_cons_succ, List.setIfInBounds_toArray, List.set_cons_zero, List.set_cons_succ]
  refine wpAnyH_take (i := 4) (v := ?_) rfl (by kernel_rfl) (by kernel_rfl) (by kernel_rfl) (fun _ _ _ h => h) (Or.inl ⟨by rfl, ?_⟩) hH ?_
  rotate_left
  · ((intro W hW; have hk := cell_lit (hW) 1 _ rfl; clear hW; go_simp) <;> with_reducible rfl)
  simp only [Act.put, List.getElem_toArray, List.getElem_cons_zero, List.getElem_cons_succ, List.setIfInBounds_toArray, List.set_cons_zero, List.set_cons_succ]
  refine wpAnyH_ready (rs := [2]) (by kernel_rfl) (by simp) ?_
  refine AllReadyH.cons (o := _) rfl (fun K hK => ?_) AllReadyH.nil
  simp only [List.getElem_toArray, List.getElem_cons_zero, List.getElem_cons_succ]
  go_simp
  with_reducible refine (r16_oto _ 0 2 _ _ _ _ rfl (Sl.nil _) (by omega)).mono ?_
  rintro e w6 ⟨v, rfl, h1w, b6⟩
  dsimp only
  have y_h1_p := Lib.hid zp
  have y_h1_d := Lib.hid zd
  have y_h1_z := Lib.hid zz
  have bl_ho_h1 := ho.bl_new
  have bl_hb_h1 := hb.bl_new
  have h1lo := bel.size
  have lz_h1 := b6.size
  replace hp := blk_under hp b6 zp
  replace zp := Nat.lt_of_lt_of_le zp b6.size
  replace hd := blk_under hd b6 zd
  replace zd := Nat.lt_of_lt_of_le zd b6.size
  replace hz := blk_under hz b6 zz
  replace zz := Nat.lt_of_lt_of_le zz b6.size
  replace ho := ho.below b6
  replace hb := hb.below b6
  replace bel := bel.trans (b6.mono bel.size)
  clear b6
  obtain ⟨Ah1, ch1, rfl⟩ := own_val h1w
  have h1 := (own_sl h1w).1
  have fr_h1 := (own_sl h1w).2
  have av_h1_p := fr_h1.av y_h1_p.out
  have av_h1_d := fr_h1.av y_h1_d.out
  have av_h1_z := fr_h1.av y_h1_z.out
  refine hK.out _ _ hd (fun hH7 => ?_)
  clear hK K
  refine wpAnyH_ready (rs := [5]) (by kernel_rfl) (by simp) ?_
  refine AllReadyH.cons (o := _) rfl (fun K hK => ?_) AllReadyH.nil
  simp only [List.getElem_toArray, List.getElem_cons_zero, List.getElem_cons_succ]
  go_simp
  with_reducible refine (r16_oto _ 2 4 _ _ _ _ rfl h1 (by omega)).mono ?_
  rintro e w8 ⟨v, rfl, h2w, b8⟩
  dsimp only
  have y_h2_p := Lib.hid zp
  have y_h2_d := Lib.hid zd
  have y_h2_z := Lib.hid zz
  have bl_ho_h2 := ho.bl_new
  have bl_hb_h2 := hb.bl_new
  have bl_h1_h2 := h1.bl_new
  have h2lo := bel.size
  have lz_h2 := b8.size
  replace hp := blk_under hp b8 zp
  replace zp := Nat.lt_of_lt_of_le zp b8.size
  replace hd := blk_under hd b8 zd
  replace zd := Nat.lt_of_lt_of_le zd b8.size
  replace hz := blk_under hz b8 zz
  replace zz := Nat.lt_of_lt_of_le zz b8.size
  replace ho := ho.below b8
  replace hb := hb.below b8
  replace h1 := h1.below b8
  replace h1w := own_under h1w b8
  replace lz_h1 := Nat.le_trans lz_h1 b8.size
  replace bel := bel.trans (b8.mono bel.size)
  clear b8
  obtain ⟨Ah2, ch2, rfl⟩ := own_val h2w
  have h2 := (own_sl h2w).1
  have fr_h2 := (own_sl h2w).2
  have av_h2_p := fr_h2.av y_h2_p.out
  have av_h2_d := fr_h2.av y_h2_d.out
  have av_h2_z := fr_h2.av y_h2_z.out
  refine hK.out _ _ hd (fun hH9 => ?_)
  clear hK K
  refine wpAnyH_take (i := 6) (v := ?_) rfl (by kernel_rfl) (by kernel_rfl) (by kernel_rfl) (fun _ _ _ h => h) (Or.inl ⟨by rfl, ?_⟩) hH9 ?_
  rotate_left
  · ((intro W hW; clear hW; go_simp) <;> with_reducible rfl)
  simp only [Act.put, List.getElem_toArray, List.getElem_cons_zero, List.getElem_cons_succ, List.setIfInBounds_toArray, List.set_cons_zero, List.set_cons_succ]
  refine wpAnyH_done (by kernel_rfl) ?_ _
  have R33 := cell_lit hd 2 _ rfl
  go_wp2_with fail
  clear R33
  with_reducible refine (r16_oto _ 4 6 _ _ _ _ rfl h2 (by omega)).mono ?_
  rintro e w10 ⟨v, rfl, h3w, b10⟩
  have y_h3_p := Lib.hid zp
  have y_h3_d := Lib.hid zd
  have y_h3_z := Lib.hid zz
  have bl_ho_h3 := ho.bl_new
  have bl_hb_h3 := hb.bl_new
  have bl_h1_h3 := h1.bl_new
  have bl_h2_h3 := h2.bl_new
  have h3lo := bel.size
  have lz_h3 := b10.size
  replace hp := blk_under hp b10 zp
  replace zp := Nat.lt_of_lt_of_le zp b10.size
  replace hd := blk_under hd b10 zd
  replace zd := Nat.lt_of_lt_of_le zd b10.size
  replace hz := blk_under hz b10 zz
  replace zz := Nat.lt_of_lt_of_le zz b10.size
  replace ho := ho.below b10
  replace hb := hb.below b10
  replace h1 := h1.below b10
  replace h1w := own_under h1w b10
  replace h2 := h2.below b10
  replace h2w := own_under h2w b10
  replace lz_h1 := Nat.le_trans lz_h1 b10.size
  replace lz_h2 := Nat.le_trans lz_h2 b10.size
  replace bel := bel.trans (b10.mono bel.size)
  clear b10
  obtain ⟨Ah3, ch3, rfl⟩ := own_val h3w
  have h3 := (own_sl h3w).1
  have fr_h3 := (own_sl h3w).2
  have av_h3_p := fr_h3.av y_h3_p.out
  have av_h3_d := fr_h3.av y_h3_d.out
  have av_h3_z := fr_h3.av y_h3_z.out
  go_wp2_with (first | ((with_reducible show wpList _ _ _ (⟨some 37, _, _, _, _, _⟩ :: _) _ _); refine wpList_lit_n rfl 25 5 2 _ rfl #[.int .u8 0, .int .u8 0] (.int .u8 0) Try.underlying25 (by kernel_rfl) 1 (by kernel_rfl) (by decide) (by kernel_rfl) ?_; intro g37 w11 ge lt hh bb; have hl : w11.heap[g37]? = some (.cells (([0, 0] : List UInt8).map u8v).toArray 5 (0, 0)) := (by simpa [u8v, byteOf_val] using hh); have tww := own_lit (B := w10.heap.size) ([0, 0]) hl ge 2 rfl (by simp [maxLen]); have tw := (own_sl tww).1; have twlo := bel.size; clear hl; have twge := ge; have lz_tw := bb.size; have y_tw_p := Lib.hid zp; have y_tw_d := Lib.hid zd; have y_tw_z := Lib.hid zz; have bl_ho_tw := ho.bl_new; have bl_hb_tw := hb.bl_new; have bl_h1_tw := h1.bl_new; have bl_h2_tw := h2.bl_new; have bl_h3_tw := h3.bl_new; have d_p_b37 := ne_new zp ge; have d_d_b37 := ne_new zd ge; have d_z_b37 := ne_new zz ge; have av_ho_b37 := ho.av_new ge; have av_hb_b37 := hb.av_new ge; have av_h1_b37 := h1.av_new ge; have of_h1_b37 := own_new h1w ge; have av_h2_b37 := h2.av_new ge; have of_h2_b37 := own_new h2w ge; have av_h3_b37 := h3.av_new ge; have of_h3_b37 := own_new h3w ge; have ob37 := Nat.le_trans bel.size ge; replace hp := blk_under hp bb zp; replace zp := Nat.lt_of_lt_of_le zp bb.size; replace hd := blk_under hd bb zd; replace zd := Nat.lt_of_lt_of_le zd bb.size; replace hz := blk_under hz bb zz; replace zz := Nat.lt_of_lt_of_le zz bb.size; replace ho := ho.below bb; replace hb := hb.below bb; replace h1 := h1.below bb; replace h1w := own_under h1w bb; replace h2 := h2.below bb; replace h2w := own_under h2w bb; replace h3 := h3.below bb; replace h3w := own_under h3w bb; replace lz_h1 := Nat.le_trans lz_h1 bb.size; replace lz_h2 := Nat.le_trans lz_h2 bb.size; replace lz_h3 := Nat.le_trans lz_h3 bb.size; replace bel := bel.trans (bb.mono bel.size); have hb37 := hh; have zb37 := lt; clear hh lt ge bb; have av_tw_p := (own_sl tww).2.av y_tw_p.out; have av_tw_d := (own_sl tww).2.av y_tw_d.out; have av_tw_z := (own_sl tww).2.av y_tw_z.out) | ((with_reducible show wpList _ _ _ (⟨some 38, _, _, _, _, _⟩ :: _) _ _); refine wpList_append_bb _ rfl (.tmp 36) (.tmp 37) 25 rfl (w8.heap.size) 5 ii (.int .u8 0) Try.underlying25 hii hz0 hz1 hz2 rfl _ (6) ([] ++ two df ++ two dt ++ two (8 + (nd : Int))) rfl h3w (some ⟨g37, 0, none⟩) (2) (2) ([0, 0]) rfl tw (by omega) lz_h3 ?_; intro v38 w12 own_ bb; replace ho := ho.under bl_ho_h3 bb; replace hb := hb.under bl_hb_h3 bb; replace h1 := h1.under bl_h1_h3 bb; clear h1w lz_h1; replace h2 := h2.under bl_h2_h3 bb; clear h2w lz_h2; clear tw tww lz_tw; replace hp := blk_under hp bb y_h3_p.out; replace zp := Nat.lt_of_lt_of_le zp bb.size; replace hd := blk_under hd bb y_h3_d.out; replace zd := Nat.lt_of_lt_of_le zd bb.size; replace hz := blk_under hz bb y_h3_z.out; replace zz := Nat.lt_of_lt_of_le zz bb.size; clear hb37 zb37; replace bel := bel.trans (bb.mono h3lo); have lz_h8 := Nat.le_trans lz_h3 bb.size; clear bb; clear h3 h3w lz_h3; replace own_ : w12.ownsRow (w8.heap.size) 5 1 v38 (8) (([] ++ two df ++ two dt ++ two (8 + (nd : Int)) ++ [0, 0] : List UInt8).map u8v) := own_; obtain ⟨A38, c38, rfl⟩ := own_val own_; have h8w := own_; have h8 := (own_sl own_).1; have fr_h8 := (own_sl own_).2; clear own_; have av_h8_p := fr_h8.av y_h3_p.out; have av_h8_d := fr_h8.av y_h3_d.out; have av_h8_z := fr_h8.av y_h3_z.out; have R41 := cell_lit hd 2 _ rfl) | ((with_reducible show wpList _ _ _ (⟨some 42, _, _, _, _, _⟩ :: _) _ _); refine wpList_append_bb _ rfl (.tmp 39) (.tmp 41) 25 rfl (w8.heap.size) 5 ii (.int .u8 0) Try.underlying25 hii hz0 hz1 hz2 rfl _ (8) ([] ++ two df ++ two dt ++ two (8 + (nd : Int)) ++ [0, 0]) rfl h8w (D) (nd) (cd) (ld) rfl hb (by omega) lz_h8 ?_; intro v42 w13 own_ bb; replace ho := ho.under bl_ho_h3 bb; replace hb := hb.under bl_hb_h3 bb; replace h1 := h1.under bl_h1_h3 bb; replace h2 := h2.under bl_h2_h3 bb; replace hp := blk_under hp bb y_h3_p.out; replace zp := Nat.lt_of_lt_of_le zp bb.size; replace hd := blk_under hd bb y_h3_d.out; replace zd := Nat.lt_of_lt_of_le zd bb.size; replace hz := blk_under hz bb y_h3_z.out; replace zz := Nat.lt_of_lt_of_le zz bb.size; replace bel := bel.trans (bb.mono h3lo); have lz_al := Nat.le_trans lz_h8 bb.size; clear bb; clear h8 h8w lz_h8; replace own_ : w13.ownsRow (w8.heap.size) 5 1 v42 (8 + nd) (([] ++ two df ++ two dt ++ two (8 + (nd : Int)) ++ [0, 0] ++ ld : List UInt8).map u8v) := own_; obtain ⟨A42, c42, rfl⟩ := own_val own_; have alw := own_; have al := (own_sl own_).1; have fr_al := (own_sl own_).2; clear own_; have av_al_p := fr_al.av y_h3_p.out; have av_al_d := fr_al.av y_h3_d.out; have av_al_z := fr_al.av y_h3_z.out; have R43 := Lib.hid (range_lit hp 0 16 [.int .i64 tos, .int .i64 id, .int .i64 fl, .int .i64 pt, .int .i64 ttl, .int .i64 17, .int .u8 (a0.toNat : Int), .int .u8 (a1.toNat : Int), .int .u8 (a2.toNat : Int), .int .u8 (a3.toNat : Int), .int .u8 (a4.toNat : Int), .int .u8 (a5.toNat : Int), .int .u8 (a6.toNat : Int), .int .u8 (a7.toNat : Int), .slice So no co, .slice Sb nb cb] rfl)) | ((with_reducible show wpList _ _ _ (⟨some 43, _, _, _, _, _⟩ :: _) _ _); refine wpList_load_rng 39 (.tmp 2) rfl (by kernel_rfl) _ _ rfl _ R43.out _ Try.underlying39 rfl (by kernel_rfl) ?_))
  try clear R41
  try clear R43
  with_reducible refine (rsum_any _ _ _ _ _ _ _ _ _ _ _ _ _ _ _ _ _ _ _ _ _ _ _ _ _ al (by omega)).mono ?_
  rintro e w14 ⟨rfl, b14⟩
  replace hp := blk_under hp b14 zp
  replace zp := Nat.lt_of_lt_of_le zp b14.size
  replace hd := blk_under hd b14 zd
  replace zd := Nat.lt_of_lt_of_le zd b14.size
  replace hz := blk_under hz b14 zz
  replace zz := Nat.lt_of_lt_of_le zz b14.size
  replace ho := ho.below b14
  replace hb := hb.below b14
  replace h1 := h1.below b14
  replace h2 := h2.below b14
  replace al := al.below b14
  replace alw := own_under alw b14
  replace lz_al := Nat.le_trans lz_al b14.size
  replace bel := bel.trans (b14.mono bel.size)
  clear b14
  rw [show ((8 + nd : Nat) : Int) = 8 + (nd : Int) from rfl, HS.out]
  obtain ⟨gb, cg, eg, alge, allt, alnc, alcm⟩ := own_at alw (by omega)
  injection eg with eg1 _ eg3
  subst eg1
  subst eg3
  have m6 : (6 : Int) < 8 + (nd : Int) := by omega
  have m7 : (7 : Int) < 8 + (nd : Int) := by omega
  have FRB : Fr w.heap.size (some ⟨gb, 0, none⟩) (8 + nd) := fun _ => ⟨_, _, rfl, Nat.le_trans h3lo alge⟩
  go_wp2_with (first | ((with_reducible show wpList _ _ _ (⟨none, Op.store _ (.tmp 55) _, _, _, _, _⟩ :: _) _ _); refine wpList_store_byte rfl 5 (.tmp 55) (.tmp 52) rfl (w8.heap.size) 5 gb 6 (8 + nd) (c42) ([] ++ two df ++ two dt ++ two (8 + (nd : Int)) ++ [0, 0] ++ ld) (255) rfl rfl alw (by omega) (by kernel_rfl) ?_; intro w15 own_ gr; replace ho := ho.away (bl_ho_h3.av alge) gr; replace hb := hb.away (bl_hb_h3.av alge) gr; replace h1 := h1.away (bl_h1_h3.av alge) gr; replace h2 := h2.away (bl_h2_h3.av alge) gr; replace hp := blk_away hp gr zp (ne_new y_h3_p.out alge); replace zp := Nat.lt_of_lt_of_le zp gr.size; replace hd := blk_away hd gr zd (ne_new y_h3_d.out alge); replace zd := Nat.lt_of_lt_of_le zd gr.size; replace hz := blk_away hz gr zz (ne_new y_h3_z.out alge); replace zz := Nat.lt_of_lt_of_le zz gr.size; replace bel := below_grown bel gr (Nat.le_trans h3lo alge) bel.size; replace lz_al := Nat.le_trans lz_al gr.size; clear gr al alw; have alw := own_; have al := (own_sl own_).1; clear own_) | ((with_reducible show wpList _ _ _ (⟨none, Op.store _ (.tmp 56) _, _, _, _, _⟩ :: _) _ _); refine wpList_store_byte rfl 5 (.tmp 56) (.tmp 54) rfl (w8.heap.size) 5 gb 7 (8 + nd) (c42) (([] ++ two df ++ two dt ++ two (8 + (nd : Int)) ++ [0, 0] ++ ld).set 6 255) (255) rfl rfl alw (by omega) (by kernel_rfl) ?_; intro w16 own_ gr; replace ho := ho.away (bl_ho_h3.av alge) gr; replace hb := hb.away (bl_hb_h3.av alge) gr; replace h1 := h1.away (bl_h1_h3.av alge) gr; replace h2 := h2.away (bl_h2_h3.av alge) gr; replace hp := blk_away hp gr zp (ne_new y_h3_p.out alge); replace zp := Nat.lt_of_lt_of_le zp gr.size; replace hd := blk_away hd gr zd (ne_new y_h3_d.out alge); replace zd := Nat.lt_of_lt_of_le zd gr.size; replace hz := blk_away hz gr zz (ne_new y_h3_z.out alge); replace zz := Nat.lt_of_lt_of_le zz gr.size; replace bel := below_grown bel gr (Nat.le_trans h3lo alge) bel.size; replace lz_al := Nat.le_trans lz_al gr.size; clear gr al alw; have alw := own_; have al := (own_sl own_).1; clear own_) | ((with_reducible show wpList _ _ _ (⟨none, Op.store _ (.tmp 58) _, _, _, _, _⟩ :: _) _ _); refine wpList_store_part rfl 25 (.tmp 58) (.tmp 57) rfl g2 15 rfl [.slice (some ⟨gb, 0, none⟩) (8 + nd) c42] rfl [.int .i64 tos, .int .i64 id, .int .i64 fl, .int .i64 pt, .int .i64 ttl, .int .i64 17, .int .u8 (a0.toNat : Int), .int .u8 (a1.toNat : Int), .int .u8 (a2.toNat : Int), .int .u8 (a3.toNat : Int), .int .u8 (a4.toNat : Int), .int .u8 (a5.toNat : Int), .int .u8 (a6.toNat : Int), .int .u8 (a7.toNat : Int), .slice So no co, .slice Sb nb cb] 39 hp (by simp) [.int .i64 tos, .int .i64 id, .int .i64 fl, .int .i64 pt, .int .i64 ttl, .int .i64 17, .int .u8 (a0.toNat : Int), .int .u8 (a1.toNat : Int), .int .u8 (a2.toNat : Int), .int .u8 (a3.toNat : Int), .int .u8 (a4.toNat : Int), .int .u8 (a5.toNat : Int), .int .u8 (a6.toNat : Int), .int .u8 (a7.toNat : Int), .slice So no co, .slice (some ⟨gb, 0, none⟩) (8 + nd) c42] rfl (by kernel_rfl) (by rfl) ?_; intro w17 hq gr; replace ho := ho.away av_ho_p gr; replace hb := hb.away av_hb_p gr; replace h1 := h1.away av_h1_p gr; replace h2 := h2.away av_h2_p gr; replace al := al.away av_al_p gr; replace alw := own_away alw y_h3_p.out gr; replace lz_al := Nat.le_trans lz_al gr.size; replace hd := blk_away hd gr zd (ne_symm d_p_d); replace hz := blk_away hz gr zz (ne_symm d_p_z); replace zp := Nat.lt_of_lt_of_le zp gr.size; replace zd := Nat.lt_of_lt_of_le zd gr.size; replace zz := Nat.lt_of_lt_of_le zz gr.size; replace bel := below_grown bel gr op bel.size; clear hp; have hp := hq; clear hq gr; have R60 := cell_lit hp 14 _ rfl))
  try clear R60
  with_reducible refine (rcopied_o _ _ _ _ _ ho (by have := HNO.out; omega)).mono ?_
  rintro e w18 ⟨v, rfl, oqw, b18⟩
  have y_oq_p := Lib.hid zp
  have y_oq_d := Lib.hid zd
  have y_oq_z := Lib.hid zz
  have bl_ho_oq := ho.bl_new
  have bl_hb_oq := hb.bl_new
  have bl_h1_oq := h1.bl_new
  have bl_h2_oq := h2.bl_new
  have bl_al_oq := al.bl_new
  have oqlo := bel.size
  have lz_oq := b18.size
  replace hp := blk_under hp b18 zp
  replace zp := Nat.lt_of_lt_of_le zp b18.size
  replace hd := blk_under hd b18 zd
  replace zd := Nat.lt_of_lt_of_le zd b18.size
  replace hz := blk_under hz b18 zz
  replace zz := Nat.lt_of_lt_of_le zz b18.size
  replace ho := ho.below b18
  replace hb := hb.below b18
  replace h1 := h1.below b18
  replace h2 := h2.below b18
  replace al := al.below b18
  replace alw := own_under alw b18
  replace lz_al := Nat.le_trans lz_al b18.size
  replace bel := bel.trans (b18.mono bel.size)
  clear b18
  obtain ⟨Aoq, coq, rfl⟩ := own_val oqw
  have oq := (own_sl oqw).1
  have fr_oq := (own_sl oqw).2
  have av_oq_p := fr_oq.av y_oq_p.out
  have av_oq_d := fr_oq.av y_oq_d.out
  have av_oq_z := fr_oq.av y_oq_z.out
  go_wp2_with (first | ((with_reducible show wpList _ _ _ (⟨none, Op.store _ (.tmp 62) _, _, _, _, _⟩ :: _) _ _); refine wpList_store_part rfl 25 (.tmp 62) (.tmp 61) rfl g2 14 rfl [.slice Aoq no coq] rfl [.int .i64 tos, .int .i64 id, .int .i64 fl, .int .i64 pt, .int .i64 ttl, .int .i64 17, .int .u8 (a0.toNat : Int), .int .u8 (a1.toNat : Int), .int .u8 (a2.toNat : Int), .int .u8 (a3.toNat : Int), .int .u8 (a4.toNat : Int), .int .u8 (a5.toNat : Int), .int .u8 (a6.toNat : Int), .int .u8 (a7.toNat : Int), .slice So no co, .slice (some ⟨gb, 0, none⟩) (8 + nd) c42] 39 hp (by simp) [.int .i64 tos, .int .i64 id, .int .i64 fl, .int .i64 pt, .int .i64 ttl, .int .i64 17, .int .u8 (a0.toNat : Int), .int .u8 (a1.toNat : Int), .int .u8 (a2.toNat : Int), .int .u8 (a3.toNat : Int), .int .u8 (a4.toNat : Int), .int .u8 (a5.toNat : Int), .int .u8 (a6.toNat : Int), .int .u8 (a7.toNat : Int), .slice Aoq no coq, .slice (some ⟨gb, 0, none⟩) (8 + nd) c42] rfl (by kernel_rfl) (by rfl) ?_; intro w19 hq gr; replace ho := ho.away av_ho_p gr; replace hb := hb.away av_hb_p gr; replace h1 := h1.away av_h1_p gr; replace h2 := h2.away av_h2_p gr; replace al := al.away av_al_p gr; replace alw := own_away alw y_h3_p.out gr; replace oq := oq.away av_oq_p gr; replace oqw := own_away oqw y_oq_p.out gr; replace lz_al := Nat.le_trans lz_al gr.size; replace lz_oq := Nat.le_trans lz_oq gr.size; replace hd := blk_away hd gr zd (ne_symm d_p_d); replace hz := blk_away hz gr zz (ne_symm d_p_z); replace zp := Nat.lt_of_lt_of_le zp gr.size; replace zd := Nat.lt_of_lt_of_le zd gr.size; replace zz := Nat.lt_of_lt_of_le zz gr.size; replace bel := below_grown bel gr op bel.size; clear hp; have hp := hq; clear hq gr; have R63 := Lib.hid (range_lit hp 0 16 [.int .i64 tos, .int .i64 id, .int .i64 fl, .int .i64 pt, .int .i64 ttl, .int .i64 17, .int .u8 (a0.toNat : Int), .int .u8 (a1.toNat : Int), .int .u8 (a2.toNat : Int), .int .u8 (a3.toNat : Int), .int .u8 (a4.toNat : Int), .int .u8 (a5.toNat : Int), .int .u8 (a6.toNat : Int), .int .u8 (a7.toNat : Int), .slice Aoq no coq, .slice (some ⟨gb, 0, none⟩) (8 + nd) c42] rfl)) | ((with_reducible show wpList _ _ _ (⟨some 63, _, _, _, _, _⟩ :: _) _ _); refine wpList_load_rng 39 (.tmp 2) rfl (by kernel_rfl) _ _ rfl _ R63.out _ Try.underlying39 rfl (by kernel_rfl) ?_) | ((with_reducible show wpList _ _ _ (⟨none, Op.store _ (.tmp 4) _, _, _, _, _⟩ :: _) _ _); refine wpList_store_blk rfl 39 (.tmp 4) (.tmp 63) rfl g4 rfl #[.int .i64 tos, .int .i64 id, .int .i64 fl, .int .i64 pt, .int .i64 ttl, .int .i64 17, .int .u8 (a0.toNat : Int), .int .u8 (a1.toNat : Int), .int .u8 (a2.toNat : Int), .int .u8 (a3.toNat : Int), .int .u8 (a4.toNat : Int), .int .u8 (a5.toNat : Int), .int .u8 (a6.toNat : Int), .int .u8 (a7.toNat : Int), .slice Aoq no coq, .slice (some ⟨gb, 0, none⟩) (8 + nd) c42] rfl _ 39 hz (by rfl) (by kernel_rfl) (by kernel_rfl) ?_; intro w20 hq gr; replace ho := ho.away av_ho_z gr; replace hb := hb.away av_hb_z gr; replace h1 := h1.away av_h1_z gr; replace h2 := h2.away av_h2_z gr; replace al := al.away av_al_z gr; replace alw := own_away alw y_h3_z.out gr; replace oq := oq.away av_oq_z gr; replace oqw := own_away oqw y_oq_z.out gr; replace lz_al := Nat.le_trans lz_al gr.size; replace lz_oq := Nat.le_trans lz_oq gr.size; replace hp := blk_away hp gr zp d_p_z; replace hd := blk_away hd gr zd d_d_z; replace zp := Nat.lt_of_lt_of_le zp gr.size; replace zd := Nat.lt_of_lt_of_le zd gr.size; replace zz := Nat.lt_of_lt_of_le zz gr.size; replace bel := below_grown bel gr oz bel.size; clear hz; have hz := hq; clear hq gr))
  try clear R63
  exact bodyPost_ret (results_cell_tmp_row rfl _ _ _ _ _ _ _ rfl hz Try.underlying39 rfl (by kernel_rfl) (.int .i64 0) rfl) rfl ⟨tos, id, fl, pt, ttl, 17, a0, a1, a2, a3, a4, a5, a6, a7, lo, udBytes a0 a1 a2 a3 a4 a5 a6 a7 df dt ld, Aoq, some ⟨gb, 0, none⟩, coq, c42, 0, by rw [HL1.out, HL2.out], by rw [HL1.out]; exact oq, by rw [HL2.out, HB.out]; exact al, by rw [HL1.out]; exact fr_oq.mono oqlo, by rw [HL2.out]; exact FRB, bel, HP.out.symm⟩
set_option maxRecDepth 100000 in
set_option maxHeartbeats 16000000 in
theorem rudput_n (tos id fl pt ttl pr : Int) (a0 a1 a2 a3 a4 a5 a6 a7 : UInt8) (So Sb : Option Addr) (no co nb cb : Nat) (df dt : Int) (D : Option Addr) (nd cd : Nat) (lo ld : List UInt8) (w : World) (ho : Sl w So no co lo) (hb : Sl w D nd cd ld) (h1 : portOk df = true) (h2 : portOk dt = true) (hn : nd ≤ 1472) (hno : no ≤ 100000) (sm : Int) (hs : ck (l4Ps a0 a1 a2 a3 a4 a5 a6 a7 17 (8 + (nd : Int)) ++ ([] ++ two df ++ two dt ++ two (8 + (nd : Int)) ++ [0, 0] ++ ld)) = sm) (hz : sm ≠ 0) : Calls Try.prog 15 #[.agg #[.int .i64 tos, .int .i64 id, .int .i64 fl, .int .i64 pt, .int .i64 ttl, .int .i64 pr, .int .u8 (a0.toNat : Int), .int .u8 (a1.toNat : Int), .int .u8 (a2.toNat : Int), .int .u8 (a3.toNat : Int), .int .u8 (a4.toNat : Int), .int .u8 (a5.toNat : Int), .int .u8 (a6.toNat : Int), .int .u8 (a7.toNat : Int), .slice So no co, .slice Sb nb cb], .agg #[.int .i64 df, .int .i64 dt, .slice D nd cd]] w (PkPost (udPut tos id fl pt ttl a0 a1 a2 a3 a4 a5 a6 a7 lo df dt ld) w) := by
  obtain ⟨ii, hii, hz0, hz1, hz2⟩ := info_parts Try.info5
  have H1 := Lib.hid h1
  have H2 := Lib.hid h2
  have hl2 := hb.1
  have HS := Lib.hid hs
  have HL1 := Lib.hid ho.1
  have HL2 : Hid ((udBytes a0 a1 a2 a3 a4 a5 a6 a7 df dt ld).length = 8 + nd) := Lib.hid (by rw [udBytes_len, hb.1])
  have HP : Hid (udPut tos id fl pt ttl a0 a1 a2 a3 a4 a5 a6 a7 lo df dt ld = (([tos, id, fl, pt, ttl, 17], [a0, a1, a2, a3, a4, a5, a6, a7]), (lo, udBytes a0 a1 a2 a3 a4 a5 a6 a7 df dt ld), 0)) := Lib.hid (by unfold udPut; rw [if_neg (by rw [h1, h2]; decide), if_neg (by rw [hb.1]; omega)])
  have HB : Hid (udBytes a0 a1 a2 a3 a4 a5 a6 a7 df dt ld = (([] ++ two df ++ two dt ++ two (8 + (nd : Int)) ++ [0, 0] ++ ld).set 6 (byteOf (sm / 256))).set 7 (byteOf sm)) := Lib.hid (by
    have e := ud_ck a0 a1 a2 a3 a4 a5 a6 a7 df dt ld
    rw [hl2, hs] at e
    unfold udBytes udSum
    rw [hl2, ← e, if_neg hz]
    rfl)
  have t0 : decide ((1472 : Int) < nd) = false := decide_eq_false (by omega)
  have n0 : (0 : Int) ≤ nd := by omega
  have n1 : (nd : Int) ≤ 1472 := by omega
  have HNO := Lib.hid hno
  have t1 : (sm == 0) = false := by simpa using hz
  clear h1 h2 hno hs hz hl2
  have bel := Below.refl w.heap.size w
  go_enter Try.func15, Try.ntmps15
  go_wp2_with (first | ((with_reducible show wpList _ _ _ (⟨some 2, _, _, _, _, _⟩ :: _) _ _); refine wpList_box_n rfl 39 (.tmp 0) rfl #[.int .i64 tos, .int .i64 id, .int .i64 fl, .int .i64 pt, .int .i64 ttl, .int .i64 pr, .int .u8 (a0.toNat : Int), .int .u8 (a1.toNat : Int), .int .u8 (a2.toNat : Int), .int .u8 (a3.toNat : Int), .int .u8 (a4.toNat : Int), .int .u8 (a5.toNat : Int), .int .u8 (a6.toNat : Int), .int .u8 (a7.toNat : Int), .slice So no co, .slice Sb nb cb] rfl ?_; intro g2 w1 ge lt hh bb; have av_ho_p := ho.av_new ge; have av_hb_p := hb.av_new ge; have op := Nat.le_trans bel.size ge; replace ho := ho.below bb; replace hb := hb.below bb; replace bel := bel.trans (bb.mono bel.size); have hp := hh; have zp := lt; clear hh lt ge bb) | ((with_reducible show wpList _ _ _ (⟨some 3, _, _, _, _, _⟩ :: _) _ _); refine wpList_box_n rfl 36 (.tmp 1) rfl #[.int .i64 df, .int .i64 dt, .slice D nd cd] rfl ?_; intro g3 w2 ge lt hh bb; have d_p_d := ne_new zp ge; have av_ho_d := ho.av_new ge; have av_hb_d := hb.av_new ge; have od := Nat.le_trans bel.size ge; replace hp := blk_under hp bb zp; replace zp := Nat.lt_of_lt_of_le zp bb.size; replace ho := ho.below bb; replace hb := hb.below bb; replace bel := bel.trans (bb.mono bel.size); have hd := hh; have zd := lt; clear hh lt ge bb) | ((with_reducible show wpList _ _ _ (⟨some 4, _, _, _, _, _⟩ :: _) _ _); refine wpList_new_n rfl 39 rfl (.agg #[.int .i64 0, .int .i64 0, .int .i64 0, .int .i64 0, .int .i64 0, .int .i64 0, .int .u8 0, .int .u8 0, .int .u8 0, .int .u8 0, .int .u8 0, .int .u8 0, .int .u8 0, .int .u8 0, .slice none 0 0, .slice none 0 0]) (by kernel_rfl) #[.int .i64 0, .int .i64 0, .int .i64 0, .int .i64 0, .int .i64 0, .int .i64 0, .int .u8 0, .int .u8 0, .int .u8 0, .int .u8 0, .int .u8 0, .int .u8 0, .int .u8 0, .int .u8 0, .slice none 0 0, .slice none 0 0] rfl ?_; intro g4 w3 ge lt hh bb; have d_p_z := ne_new zp ge; have d_d_z := ne_new zd ge; have av_ho_z := ho.av_new ge; have av_hb_z := hb.av_new ge; have oz := Nat.le_trans bel.size ge; replace hp := blk_under hp bb zp; replace zp := Nat.lt_of_lt_of_le zp bb.size; replace hd := blk_under hd bb zd; replace zd := Nat.lt_of_lt_of_le zd bb.size; replace ho := ho.below bb; replace hb := hb.below bb; replace bel := bel.trans (bb.mono bel.size); have hz := hh; have zz := lt; clear hh lt ge bb; have R9 := cell_lit hd 0 _ rfl))
  try clear R9
  with_reducible refine (rport_any _ _).mono ?_
  rintro e _ ⟨rfl, rfl⟩
  rw [H1.out]
  have R14 := cell_lit hd 1 _ rfl
  go_wp2_with fail
  clear R14
  with_reducible refine (rport_any _ _).mono ?_
  rintro e _ ⟨rfl, rfl⟩
  rw [H2.out]
  have R20 := cell_lit hd 2 _ rfl
  go_wp2_with (first | ((with_reducible show wpList _ _ _ (⟨none, Op.store _ (.tmp 24) _, _, _, _, _⟩ :: _) _ _); refine wpList_store_part rfl 3 (.tmp 24) (.const (.int .i64 17)) rfl g2 5 rfl [.int .i64 17] rfl [.int .i64 tos, .int .i64 id, .int .i64 fl, .int .i64 pt, .int .i64 ttl, .int .i64 pr, .int .u8 (a0.toNat : Int), .int .u8 (a1.toNat : Int), .int .u8 (a2.toNat : Int), .int .u8 (a3.toNat : Int), .int .u8 (a4.toNat : Int), .int .u8 (a5.toNat : Int), .int .u8 (a6.toNat : Int), .int .u8 (a7.toNat : Int), .slice So no co, .slice Sb nb cb] 39 hp (by simp) [.int .i64 tos, .int .i64 id, .int .i64 fl, .int .i64 pt, .int .i64 ttl, .int .i64 17, .int .u8 (a0.toNat : Int), .int .u8 (a1.toNat : Int), .int .u8 (a2.toNat : Int), .int .u8 (a3.toNat : Int), .int .u8 (a4.toNat : Int), .int .u8 (a5.toNat : Int), .int .u8 (a6.toNat : Int), .int .u8 (a7.toNat : Int), .slice So no co, .slice Sb nb cb] rfl (by kernel_rfl) (by rfl) ?_; intro w4 hq gr; replace ho := ho.away av_ho_p gr; replace hb := hb.away av_hb_p gr; replace hd := blk_away hd gr zd (ne_symm d_p_d); replace hz := blk_away hz gr zz (ne_symm d_p_z); replace zp := Nat.lt_of_lt_of_le zp gr.size; replace zd := Nat.lt_of_lt_of_le zd gr.size; replace zz := Nat.lt_of_lt_of_le zz gr.size; replace bel := below_grown bel gr op bel.size; clear hp; have hp := hq; clear hq gr))
  try clear R20
  replace bel := bel.drew
  replace hp : w4.drew.heap[g2]? = _ := hp
  replace zp : _ < w4.drew.heap.size := zp
  replace hd : w4.drew.heap[g3]? = _ := hd
  replace zd : _ < w4.drew.heap.size := zd
  replace hz : w4.drew.heap[g4]? = _ := hz
  replace zz : _ < w4.drew.heap.size := zz
  replace ho := ho.drew
  replace hb := hb.drew
  refine wp_region_held_drew (S := fun W => W.heap[g3]? = some (.cells #[.int .i64 df, .int .i64 dt, .slice D nd cd] 36 (0, 0))) (by kernel_rfl) hd (fun hH => ?_)
  generalize w4.drew = w5 at bel hp zp hd zd hz zz ho hb hH ⊢
  refine wpAnyH_take (i := 0) (v := ?_) rfl (by kernel_rfl) (by kernel_rfl) (by kernel_rfl) (fun _ _ _ h => h) (Or.inl ⟨by rfl, ?_⟩) hH ?_
  rotate_left
  · ((intro W hW; clear hW; go_simp) <;> with_reducible rfl)
  simp only [Act.put, List.getElem_toArray, List.getElem_cons_zero, List.setIfInBounds_toArray, List.set_cons_zero, List.set_cons_succ]
  refine wpAnyH_take (i := 1) (v := ?_) rfl (by kernel_rfl) (by kernel_rfl) (by kernel_rfl) (fun _ _ _ h => h) (Or.inl ⟨by rfl, ?_⟩) hH ?_
  rotate_left
  · ((intro W hW; have hk := cell_lit (hW) 0 _ rfl; clear hW; go_simp) <;> with_reducible rfl)
  simp only [Act.put, List.getElem_toArray, List.getElem_cons_zero, List.getElem_cons_succ, List.setIfInBounds_toArray, List.set_cons_zero, List.set_cons_succ]
  refine wpAnyH_take (i := 3) (v := ?_) rfl (by kernel_rfl) (by kernel_rfl) (by kernel_rfl) (fun _ _ _ h => h) (Or.inl ⟨by rfl, ?_⟩) hH ?_
  rotate_left
  · ((intro W hW; clear hW; go_simp) <;> with_reducible rfl)
  simp only [Act.put, List.getElem_toArray, List.getElem_cons_zero, List.getElem_cons_succ, List.setIfInBounds_toArray, List.set_cons_zero, List.set_cons_succ]
  refine wpAnyH_take (i := 4) (v := ?_) rfl (by kernel_rfl) (by kernel_rfl) (by kernel_rfl) (fun _ _ _ h => h) (Or.inl ⟨by rfl, ?_⟩) hH ?_
  rotate_left
  · ((intro W hW; have hk := cell_lit (hW) 1 _ rfl; clear hW; go_simp) <;> with_reducible rfl)
  simp only [Act.put, List.getElem_toArray, List.getElem_cons_zero, List.getElem_cons_succ, List.setIfInBounds_toArray, List.set_cons_zero, List.set_cons_succ]
  refine wpAnyH_ready (rs := [2]) (by kernel_rfl) (by simp) ?_
  refine AllReadyH.cons (o := _) rfl (fun K hK => ?_) AllReadyH.nil
  simp only [List.getElem_toArray, List.getElem_cons_zero, List.getElem_cons_succ]
  go_simp
  with_reducible refine (r16_oto _ 0 2 _ _ _ _ rfl (Sl.nil _) (by omega)).mono ?_
  rintro e w6 ⟨v, rfl, h1w, b6⟩
  dsimp only
  have y_h1_p := Lib.hid zp
  have y_h1_d := Lib.hid zd
  have y_h1_z := Lib.hid zz
  have bl_ho_h1 := ho.bl_new
  have bl_hb_h1 := hb.bl_new
  have h1lo := bel.size
  have lz_h1 := b6.size
  replace hp := blk_under hp b6 zp
  replace zp := Nat.lt_of_lt_of_le zp b6.size
  replace hd := blk_under hd b6 zd
  replace zd := Nat.lt_of_lt_of_le zd b6.size
  replace hz := blk_under hz b6 zz
  replace zz := Nat.lt_of_lt_of_le zz b6.size
  replace ho := ho.below b6
  replace hb := hb.below b6
  replace bel := bel.trans (b6.mono bel.size)
  clear b6
  obtain ⟨Ah1, ch1, rfl⟩ := own_val h1w
  have h1 := (own_sl h1w).1
  have fr_h1 := (own_sl h1w).2
  have av_h1_p := fr_h1.av y_h1_p.out
  have av_h1_d := fr_h1.av y_h1_d.out
  have av_h1_z := fr_h1.av y_h1_z.out
  refine hK.out _ _ hd (fun hH7 => ?_)
  clear hK K
  refine wpAnyH_ready (rs := [5]) (by kernel_rfl) (by simp) ?_
  refine AllReadyH.cons (o := _) rfl (fun K hK => ?_) AllReadyH.nil
  simp only [List.getElem_toArray, List.getElem_cons_zero, List.getElem_cons_succ]
  go_simp
  with_reducible refine (r16_oto _ 2 4 _ _ _ _ rfl h1 (by omega)).mono ?_
  rintro e w8 ⟨v, rfl, h2w, b8⟩
  dsimp only
  have y_h2_p := Lib.hid zp
  have y_h2_d := Lib.hid zd
  have y_h2_z := Lib.hid zz
  have bl_ho_h2 := ho.bl_new
  have bl_hb_h2 := hb.bl_new
  have bl_h1_h2 := h1.bl_new
  have h2lo := bel.size
  have lz_h2 := b8.size
  replace hp := blk_under hp b8 zp
  replace zp := Nat.lt_of_lt_of_le zp b8.size
  replace hd := blk_under hd b8 zd
  replace zd := Nat.lt_of_lt_of_le zd b8.size
  replace hz := blk_under hz b8 zz
  replace zz := Nat.lt_of_lt_of_le zz b8.size
  replace ho := ho.below b8
  replace hb := hb.below b8
  replace h1 := h1.below b8
  replace h1w := own_under h1w b8
  replace lz_h1 := Nat.le_trans lz_h1 b8.size
  replace bel := bel.trans (b8.mono bel.size)
  clear b8
  obtain ⟨Ah2, ch2, rfl⟩ := own_val h2w
  have h2 := (own_sl h2w).1
  have fr_h2 := (own_sl h2w).2
  have av_h2_p := fr_h2.av y_h2_p.out
  have av_h2_d := fr_h2.av y_h2_d.out
  have av_h2_z := fr_h2.av y_h2_z.out
  refine hK.out _ _ hd (fun hH9 => ?_)
  clear hK K
  refine wpAnyH_take (i := 6) (v := ?_) rfl (by kernel_rfl) (by kernel_rfl) (by kernel_rfl) (fun _ _ _ h => h) (Or.inl ⟨by rfl, ?_⟩) hH9 ?_
  rotate_left
  · ((intro W hW; clear hW; go_simp) <;> with_reducible rfl)
  simp only [Act.put, List.getElem_toArray, List.getElem_cons_zero, List.getElem_cons_succ, List.setIfInBounds_toArray, List.set_cons_zero, List.set_cons_succ]
  refine wpAnyH_done (by kernel_rfl) ?_ _
  have R33 := cell_lit hd 2 _ rfl
  go_wp2_with fail
  clear R33
  with_reducible refine (r16_oto _ 4 6 _ _ _ _ rfl h2 (by omega)).mono ?_
  rintro e w10 ⟨v, rfl, h3w, b10⟩
  have y_h3_p := Lib.hid zp
  have y_h3_d := Lib.hid zd
  have y_h3_z := Lib.hid zz
  have bl_ho_h3 := ho.bl_new
  have bl_hb_h3 := hb.bl_new
  have bl_h1_h3 := h1.bl_new
  have bl_h2_h3 := h2.bl_new
  have h3lo := bel.size
  have lz_h3 := b10.size
  replace hp := blk_under hp b10 zp
  replace zp := Nat.lt_of_lt_of_le zp b10.size
  replace hd := blk_under hd b10 zd
  replace zd := Nat.lt_of_lt_of_le zd b10.size
  replace hz := blk_under hz b10 zz
  replace zz := Nat.lt_of_lt_of_le zz b10.size
  replace ho := ho.below b10
  replace hb := hb.below b10
  replace h1 := h1.below b10
  replace h1w := own_under h1w b10
  replace h2 := h2.below b10
  replace h2w := own_under h2w b10
  replace lz_h1 := Nat.le_trans lz_h1 b10.size
  replace lz_h2 := Nat.le_trans lz_h2 b10.size
  replace bel := bel.trans (b10.mono bel.size)
  clear b10
  obtain ⟨Ah3, ch3, rfl⟩ := own_val h3w
  have h3 := (own_sl h3w).1
  have fr_h3 := (own_sl h3w).2
  have av_h3_p := fr_h3.av y_h3_p.out
  have av_h3_d := fr_h3.av y_h3_d.out
  have av_h3_z := fr_h3.av y_h3_z.out
  go_wp2_with (first | ((with_reducible show wpList _ _ _ (⟨some 37, _, _, _, _, _⟩ :: _) _ _); refine wpList_lit_n rfl 25 5 2 _ rfl #[.int .u8 0, .int .u8 0] (.int .u8 0) Try.underlying25 (by kernel_rfl) 1 (by kernel_rfl) (by decide) (by kernel_rfl) ?_; intro g37 w11 ge lt hh bb; have hl : w11.heap[g37]? = some (.cells (([0, 0] : List UInt8).map u8v).toArray 5 (0, 0)) := (by simpa [u8v, byteOf_val] using hh); have tww := own_lit (B := w10.heap.size) ([0, 0]) hl ge 2 rfl (by simp [maxLen]); have tw := (own_sl tww).1; have twlo := bel.size; clear hl; have twge := ge; have lz_tw := bb.size; have y_tw_p := Lib.hid zp; have y_tw_d := Lib.hid zd; have y_tw_z := Lib.hid zz; have bl_ho_tw := ho.bl_new; have bl_hb_tw := hb.bl_new; have bl_h1_tw := h1.bl_new; have bl_h2_tw := h2.bl_new; have bl_h3_tw := h3.bl_new; have d_p_b37 := ne_new zp ge; have d_d_b37 := ne_new zd ge; have d_z_b37 := ne_new zz ge; have av_ho_b37 := ho.av_new ge; have av_hb_b37 := hb.av_new ge; have av_h1_b37 := h1.av_new ge; have of_h1_b37 := own_new h1w ge; have av_h2_b37 := h2.av_new ge; have of_h2_b37 := own_new h2w ge; have av_h3_b37 := h3.av_new ge; have of_h3_b37 := own_new h3w ge; have ob37 := Nat.le_trans bel.size ge; replace hp := blk_under hp bb zp; replace zp := Nat.lt_of_lt_of_le zp bb.size; replace hd := blk_under hd bb zd; replace zd := Nat.lt_of_lt_of_le zd bb.size; replace hz := blk_under hz bb zz; replace zz := Nat.lt_of_lt_of_le zz bb.size; replace ho := ho.below bb; replace hb := hb.below bb; replace h1 := h1.below bb; replace h1w := own_under h1w bb; replace h2 := h2.below bb; replace h2w := own_under h2w bb; replace h3 := h3.below bb; replace h3w := own_under h3w bb; replace lz_h1 := Nat.le_trans lz_h1 bb.size; replace lz_h2 := Nat.le_trans lz_h2 bb.size; replace lz_h3 := Nat.le_trans lz_h3 bb.size; replace bel := bel.trans (bb.mono bel.size); have hb37 := hh; have zb37 := lt; clear hh lt ge bb; have av_tw_p := (own_sl tww).2.av y_tw_p.out; have av_tw_d := (own_sl tww).2.av y_tw_d.out; have av_tw_z := (own_sl tww).2.av y_tw_z.out) | ((with_reducible show wpList _ _ _ (⟨some 38, _, _, _, _, _⟩ :: _) _ _); refine wpList_append_bb _ rfl (.tmp 36) (.tmp 37) 25 rfl (w8.heap.size) 5 ii (.int .u8 0) Try.underlying25 hii hz0 hz1 hz2 rfl _ (6) ([] ++ two df ++ two dt ++ two (8 + (nd : Int))) rfl h3w (some ⟨g37, 0, none⟩) (2) (2) ([0, 0]) rfl tw (by omega) lz_h3 ?_; intro v38 w12 own_ bb; replace ho := ho.under bl_ho_h3 bb; replace hb := hb.under bl_hb_h3 bb; replace h1 := h1.under bl_h1_h3 bb; clear h1w lz_h1; replace h2 := h2.under bl_h2_h3 bb; clear h2w lz_h2; clear tw tww lz_tw; replace hp := blk_under hp bb y_h3_p.out; replace zp := Nat.lt_of_lt_of_le zp bb.size; replace hd := blk_under hd bb y_h3_d.out; replace zd := Nat.lt_of_lt_of_le zd bb.size; replace hz := blk_under hz bb y_h3_z.out; replace zz := Nat.lt_of_lt_of_le zz bb.size; clear hb37 zb37; replace bel := bel.trans (bb.mono h3lo); have lz_h8 := Nat.le_trans lz_h3 bb.size; clear bb; clear h3 h3w lz_h3; replace own_ : w12.ownsRow (w8.heap.size) 5 1 v38 (8) (([] ++ two df ++ two dt ++ two (8 + (nd : Int)) ++ [0, 0] : List UInt8).map u8v) := own_; obtain ⟨A38, c38, rfl⟩ := own_val own_; have h8w := own_; have h8 := (own_sl own_).1; have fr_h8 := (own_sl own_).2; clear own_; have av_h8_p := fr_h8.av y_h3_p.out; have av_h8_d := fr_h8.av y_h3_d.out; have av_h8_z := fr_h8.av y_h3_z.out; have R41 := cell_lit hd 2 _ rfl) | ((with_reducible show wpList _ _ _ (⟨some 42, _, _, _, _, _⟩ :: _) _ _); refine wpList_append_bb _ rfl (.tmp 39) (.tmp 41) 25 rfl (w8.heap.size) 5 ii (.int .u8 0) Try.underlying25 hii hz0 hz1 hz2 rfl _ (8) ([] ++ two df ++ two dt ++ two (8 + (nd : Int)) ++ [0, 0]) rfl h8w (D) (nd) (cd) (ld) rfl hb (by omega) lz_h8 ?_; intro v42 w13 own_ bb; replace ho := ho.under bl_ho_h3 bb; replace hb := hb.under bl_hb_h3 bb; replace h1 := h1.under bl_h1_h3 bb; replace h2 := h2.under bl_h2_h3 bb; replace hp := blk_under hp bb y_h3_p.out; replace zp := Nat.lt_of_lt_of_le zp bb.size; replace hd := blk_under hd bb y_h3_d.out; replace zd := Nat.lt_of_lt_of_le zd bb.size; replace hz := blk_under hz bb y_h3_z.out; replace zz := Nat.lt_of_lt_of_le zz bb.size; replace bel := bel.trans (bb.mono h3lo); have lz_al := Nat.le_trans lz_h8 bb.size; clear bb; clear h8 h8w lz_h8; replace own_ : w13.ownsRow (w8.heap.size) 5 1 v42 (8 + nd) (([] ++ two df ++ two dt ++ two (8 + (nd : Int)) ++ [0, 0] ++ ld : List UInt8).map u8v) := own_; obtain ⟨A42, c42, rfl⟩ := own_val own_; have alw := own_; have al := (own_sl own_).1; have fr_al := (own_sl own_).2; clear own_; have av_al_p := fr_al.av y_h3_p.out; have av_al_d := fr_al.av y_h3_d.out; have av_al_z := fr_al.av y_h3_z.out; have R43 := Lib.hid (range_lit hp 0 16 [.int .i64 tos, .int .i64 id, .int .i64 fl, .int .i64 pt, .int .i64 ttl, .int .i64 17, .int .u8 (a0.toNat : Int), .int .u8 (a1.toNat : Int), .int .u8 (a2.toNat : Int), .int .u8 (a3.toNat : Int), .int .u8 (a4.toNat : Int), .int .u8 (a5.toNat : Int), .int .u8 (a6.toNat : Int), .int .u8 (a7.toNat : Int), .slice So no co, .slice Sb nb cb] rfl)) | ((with_reducible show wpList _ _ _ (⟨some 43, _, _, _, _, _⟩ :: _) _ _); refine wpList_load_rng 39 (.tmp 2) rfl (by kernel_rfl) _ _ rfl _ R43.out _ Try.underlying39 rfl (by kernel_rfl) ?_))
  try clear R41
  try clear R43
  with_reducible refine (rsum_any _ _ _ _ _ _ _ _ _ _ _ _ _ _ _ _ _ _ _ _ _ _ _ _ _ al (by omega)).mono ?_
  rintro e w14 ⟨rfl, b14⟩
  replace hp := blk_under hp b14 zp
  replace zp := Nat.lt_of_lt_of_le zp b14.size
  replace hd := blk_under hd b14 zd
  replace zd := Nat.lt_of_lt_of_le zd b14.size
  replace hz := blk_under hz b14 zz
  replace zz := Nat.lt_of_lt_of_le zz b14.size
  replace ho := ho.below b14
  replace hb := hb.below b14
  replace h1 := h1.below b14
  replace h2 := h2.below b14
  replace al := al.below b14
  replace alw := own_under alw b14
  replace lz_al := Nat.le_trans lz_al b14.size
  replace bel := bel.trans (b14.mono bel.size)
  clear b14
  rw [show ((8 + nd : Nat) : Int) = 8 + (nd : Int) from rfl, HS.out]
  obtain ⟨gb, cg, eg, alge, allt, alnc, alcm⟩ := own_at alw (by omega)
  injection eg with eg1 _ eg3
  subst eg1
  subst eg3
  have m6 : (6 : Int) < 8 + (nd : Int) := by omega
  have m7 : (7 : Int) < 8 + (nd : Int) := by omega
  have FRB : Fr w.heap.size (some ⟨gb, 0, none⟩) (8 + nd) := fun _ => ⟨_, _, rfl, Nat.le_trans h3lo alge⟩
  go_wp2_with (first | ((with_reducible show wpList _ _ _ (⟨none, Op.store _ (.tmp 55) _, _, _, _, _⟩ :: _) _ _); refine wpList_store_byte rfl 5 (.tmp 55) (.tmp 52) rfl (w8.heap.size) 5 gb 6 (8 + nd) (c42) ([] ++ two df ++ two dt ++ two (8 + (nd : Int)) ++ [0, 0] ++ ld) (byteOf (sm / 256)) rfl (by show (Value.int .u8 (sm / 256 % 256) : Value) = .int .u8 ((byteOf (sm / 256)).toNat : Int); rw [byteOf_val]) alw (by omega) (by kernel_rfl) ?_; intro w15 own_ gr; replace ho := ho.away (bl_ho_h3.av alge) gr; replace hb := hb.away (bl_hb_h3.av alge) gr; replace h1 := h1.away (bl_h1_h3.av alge) gr; replace h2 := h2.away (bl_h2_h3.av alge) gr; replace hp := blk_away hp gr zp (ne_new y_h3_p.out alge); replace zp := Nat.lt_of_lt_of_le zp gr.size; replace hd := blk_away hd gr zd (ne_new y_h3_d.out alge); replace zd := Nat.lt_of_lt_of_le zd gr.size; replace hz := blk_away hz gr zz (ne_new y_h3_z.out alge); replace zz := Nat.lt_of_lt_of_le zz gr.size; replace bel := below_grown bel gr (Nat.le_trans h3lo alge) bel.size; replace lz_al := Nat.le_trans lz_al gr.size; clear gr al alw; have alw := own_; have al := (own_sl own_).1; clear own_) | ((with_reducible show wpList _ _ _ (⟨none, Op.store _ (.tmp 56) _, _, _, _, _⟩ :: _) _ _); refine wpList_store_byte rfl 5 (.tmp 56) (.tmp 54) rfl (w8.heap.size) 5 gb 7 (8 + nd) (c42) (([] ++ two df ++ two dt ++ two (8 + (nd : Int)) ++ [0, 0] ++ ld).set 6 (byteOf (sm / 256))) (byteOf sm) rfl (by show (Value.int .u8 (sm % 256) : Value) = .int .u8 ((byteOf sm).toNat : Int); rw [byteOf_val]) alw (by omega) (by kernel_rfl) ?_; intro w16 own_ gr; replace ho := ho.away (bl_ho_h3.av alge) gr; replace hb := hb.away (bl_hb_h3.av alge) gr; replace h1 := h1.away (bl_h1_h3.av alge) gr; replace h2 := h2.away (bl_h2_h3.av alge) gr; replace hp := blk_away hp gr zp (ne_new y_h3_p.out alge); replace zp := Nat.lt_of_lt_of_le zp gr.size; replace hd := blk_away hd gr zd (ne_new y_h3_d.out alge); replace zd := Nat.lt_of_lt_of_le zd gr.size; replace hz := blk_away hz gr zz (ne_new y_h3_z.out alge); replace zz := Nat.lt_of_lt_of_le zz gr.size; replace bel := below_grown bel gr (Nat.le_trans h3lo alge) bel.size; replace lz_al := Nat.le_trans lz_al gr.size; clear gr al alw; have alw := own_; have al := (own_sl own_).1; clear own_) | ((with_reducible show wpList _ _ _ (⟨none, Op.store _ (.tmp 58) _, _, _, _, _⟩ :: _) _ _); refine wpList_store_part rfl 25 (.tmp 58) (.tmp 57) rfl g2 15 rfl [.slice (some ⟨gb, 0, none⟩) (8 + nd) c42] rfl [.int .i64 tos, .int .i64 id, .int .i64 fl, .int .i64 pt, .int .i64 ttl, .int .i64 17, .int .u8 (a0.toNat : Int), .int .u8 (a1.toNat : Int), .int .u8 (a2.toNat : Int), .int .u8 (a3.toNat : Int), .int .u8 (a4.toNat : Int), .int .u8 (a5.toNat : Int), .int .u8 (a6.toNat : Int), .int .u8 (a7.toNat : Int), .slice So no co, .slice Sb nb cb] 39 hp (by simp) [.int .i64 tos, .int .i64 id, .int .i64 fl, .int .i64 pt, .int .i64 ttl, .int .i64 17, .int .u8 (a0.toNat : Int), .int .u8 (a1.toNat : Int), .int .u8 (a2.toNat : Int), .int .u8 (a3.toNat : Int), .int .u8 (a4.toNat : Int), .int .u8 (a5.toNat : Int), .int .u8 (a6.toNat : Int), .int .u8 (a7.toNat : Int), .slice So no co, .slice (some ⟨gb, 0, none⟩) (8 + nd) c42] rfl (by kernel_rfl) (by rfl) ?_; intro w17 hq gr; replace ho := ho.away av_ho_p gr; replace hb := hb.away av_hb_p gr; replace h1 := h1.away av_h1_p gr; replace h2 := h2.away av_h2_p gr; replace al := al.away av_al_p gr; replace alw := own_away alw y_h3_p.out gr; replace lz_al := Nat.le_trans lz_al gr.size; replace hd := blk_away hd gr zd (ne_symm d_p_d); replace hz := blk_away hz gr zz (ne_symm d_p_z); replace zp := Nat.lt_of_lt_of_le zp gr.size; replace zd := Nat.lt_of_lt_of_le zd gr.size; replace zz := Nat.lt_of_lt_of_le zz gr.size; replace bel := below_grown bel gr op bel.size; clear hp; have hp := hq; clear hq gr; have R60 := cell_lit hp 14 _ rfl))
  try clear R60
  with_reducible refine (rcopied_o _ _ _ _ _ ho (by have := HNO.out; omega)).mono ?_
  rintro e w18 ⟨v, rfl, oqw, b18⟩
  have y_oq_p := Lib.hid zp
  have y_oq_d := Lib.hid zd
  have y_oq_z := Lib.hid zz
  have bl_ho_oq := ho.bl_new
  have bl_hb_oq := hb.bl_new
  have bl_h1_oq := h1.bl_new
  have bl_h2_oq := h2.bl_new
  have bl_al_oq := al.bl_new
  have oqlo := bel.size
  have lz_oq := b18.size
  replace hp := blk_under hp b18 zp
  replace zp := Nat.lt_of_lt_of_le zp b18.size
  replace hd := blk_under hd b18 zd
  replace zd := Nat.lt_of_lt_of_le zd b18.size
  replace hz := blk_under hz b18 zz
  replace zz := Nat.lt_of_lt_of_le zz b18.size
  replace ho := ho.below b18
  replace hb := hb.below b18
  replace h1 := h1.below b18
  replace h2 := h2.below b18
  replace al := al.below b18
  replace alw := own_under alw b18
  replace lz_al := Nat.le_trans lz_al b18.size
  replace bel := bel.trans (b18.mono bel.size)
  clear b18
  obtain ⟨Aoq, coq, rfl⟩ := own_val oqw
  have oq := (own_sl oqw).1
  have fr_oq := (own_sl oqw).2
  have av_oq_p := fr_oq.av y_oq_p.out
  have av_oq_d := fr_oq.av y_oq_d.out
  have av_oq_z := fr_oq.av y_oq_z.out
  go_wp2_with (first | ((with_reducible show wpList _ _ _ (⟨none, Op.store _ (.tmp 62) _, _, _, _, _⟩ :: _) _ _); refine wpList_store_part rfl 25 (.tmp 62) (.tmp 61) rfl g2 14 rfl [.slice Aoq no coq] rfl [.int .i64 tos, .int .i64 id, .int .i64 fl, .int .i64 pt, .int .i64 ttl, .int .i64 17, .int .u8 (a0.toNat : Int), .int .u8 (a1.toNat : Int), .int .u8 (a2.toNat : Int), .int .u8 (a3.toNat : Int), .int .u8 (a4.toNat : Int), .int .u8 (a5.toNat : Int), .int .u8 (a6.toNat : Int), .int .u8 (a7.toNat : Int), .slice So no co, .slice (some ⟨gb, 0, none⟩) (8 + nd) c42] 39 hp (by simp) [.int .i64 tos, .int .i64 id, .int .i64 fl, .int .i64 pt, .int .i64 ttl, .int .i64 17, .int .u8 (a0.toNat : Int), .int .u8 (a1.toNat : Int), .int .u8 (a2.toNat : Int), .int .u8 (a3.toNat : Int), .int .u8 (a4.toNat : Int), .int .u8 (a5.toNat : Int), .int .u8 (a6.toNat : Int), .int .u8 (a7.toNat : Int), .slice Aoq no coq, .slice (some ⟨gb, 0, none⟩) (8 + nd) c42] rfl (by kernel_rfl) (by rfl) ?_; intro w19 hq gr; replace ho := ho.away av_ho_p gr; replace hb := hb.away av_hb_p gr; replace h1 := h1.away av_h1_p gr; replace h2 := h2.away av_h2_p gr; replace al := al.away av_al_p gr; replace alw := own_away alw y_h3_p.out gr; replace oq := oq.away av_oq_p gr; replace oqw := own_away oqw y_oq_p.out gr; replace lz_al := Nat.le_trans lz_al gr.size; replace lz_oq := Nat.le_trans lz_oq gr.size; replace hd := blk_away hd gr zd (ne_symm d_p_d); replace hz := blk_away hz gr zz (ne_symm d_p_z); replace zp := Nat.lt_of_lt_of_le zp gr.size; replace zd := Nat.lt_of_lt_of_le zd gr.size; replace zz := Nat.lt_of_lt_of_le zz gr.size; replace bel := below_grown bel gr op bel.size; clear hp; have hp := hq; clear hq gr; have R63 := Lib.hid (range_lit hp 0 16 [.int .i64 tos, .int .i64 id, .int .i64 fl, .int .i64 pt, .int .i64 ttl, .int .i64 17, .int .u8 (a0.toNat : Int), .int .u8 (a1.toNat : Int), .int .u8 (a2.toNat : Int), .int .u8 (a3.toNat : Int), .int .u8 (a4.toNat : Int), .int .u8 (a5.toNat : Int), .int .u8 (a6.toNat : Int), .int .u8 (a7.toNat : Int), .slice Aoq no coq, .slice (some ⟨gb, 0, none⟩) (8 + nd) c42] rfl)) | ((with_reducible show wpList _ _ _ (⟨some 63, _, _, _, _, _⟩ :: _) _ _); refine wpList_load_rng 39 (.tmp 2) rfl (by kernel_rfl) _ _ rfl _ R63.out _ Try.underlying39 rfl (by kernel_rfl) ?_) | ((with_reducible show wpList _ _ _ (⟨none, Op.store _ (.tmp 4) _, _, _, _, _⟩ :: _) _ _); refine wpList_store_blk rfl 39 (.tmp 4) (.tmp 63) rfl g4 rfl #[.int .i64 tos, .int .i64 id, .int .i64 fl, .int .i64 pt, .int .i64 ttl, .int .i64 17, .int .u8 (a0.toNat : Int), .int .u8 (a1.toNat : Int), .int .u8 (a2.toNat : Int), .int .u8 (a3.toNat : Int), .int .u8 (a4.toNat : Int), .int .u8 (a5.toNat : Int), .int .u8 (a6.toNat : Int), .int .u8 (a7.toNat : Int), .slice Aoq no coq, .slice (some ⟨gb, 0, none⟩) (8 + nd) c42] rfl _ 39 hz (by rfl) (by kernel_rfl) (by kernel_rfl) ?_; intro w20 hq gr; replace ho := ho.away av_ho_z gr; replace hb := hb.away av_hb_z gr; replace h1 := h1.away av_h1_z gr; replace h2 := h2.away av_h2_z gr; replace al := al.away av_al_z gr; replace alw := own_away alw y_h3_z.out gr; replace oq := oq.away av_oq_z gr; replace oqw := own_away oqw y_oq_z.out gr; replace lz_al := Nat.le_trans lz_al gr.size; replace lz_oq := Nat.le_trans lz_oq gr.size; replace hp := blk_away hp gr zp d_p_z; replace hd := blk_away hd gr zd d_d_z; replace zp := Nat.lt_of_lt_of_le zp gr.size; replace zd := Nat.lt_of_lt_of_le zd gr.size; replace zz := Nat.lt_of_lt_of_le zz gr.size; replace bel := below_grown bel gr oz bel.size; clear hz; have hz := hq; clear hq gr))
  try clear R63
  exact bodyPost_ret (results_cell_tmp_row rfl _ _ _ _ _ _ _ rfl hz Try.underlying39 rfl (by kernel_rfl) (.int .i64 0) rfl) rfl ⟨tos, id, fl, pt, ttl, 17, a0, a1, a2, a3, a4, a5, a6, a7, lo, udBytes a0 a1 a2 a3 a4 a5 a6 a7 df dt ld, Aoq, some ⟨gb, 0, none⟩, coq, c42, 0, by rw [HL1.out, HL2.out], by rw [HL1.out]; exact oq, by rw [HL2.out, HB.out]; exact al, by rw [HL1.out]; exact fr_oq.mono oqlo, by rw [HL2.out]; exact FRB, bel, HP.out.symm⟩
theorem rudput_any (tos id fl pt ttl pr : Int) (a0 a1 a2 a3 a4 a5 a6 a7 : UInt8) (So Sb : Option Addr) (no co nb cb : Nat) (df dt : Int) (D : Option Addr) (nd cd : Nat) (lo ld : List UInt8) (w : World) (ho : Sl w So no co lo) (hb : Sl w D nd cd ld) (hn : nd ≤ 100000) (hno : no ≤ 100000) : Calls Try.prog 15 #[.agg #[.int .i64 tos, .int .i64 id, .int .i64 fl, .int .i64 pt, .int .i64 ttl, .int .i64 pr, .int .u8 (a0.toNat : Int), .int .u8 (a1.toNat : Int), .int .u8 (a2.toNat : Int), .int .u8 (a3.toNat : Int), .int .u8 (a4.toNat : Int), .int .u8 (a5.toNat : Int), .int .u8 (a6.toNat : Int), .int .u8 (a7.toNat : Int), .slice So no co, .slice Sb nb cb], .agg #[.int .i64 df, .int .i64 dt, .slice D nd cd]] w (PkPost (udPut tos id fl pt ttl a0 a1 a2 a3 a4 a5 a6 a7 lo df dt ld) w) := by
  rcases (by decide : ∀ b : Bool, b = true ∨ b = false) (portOk df) with h1 | h1
  · rcases (by decide : ∀ b : Bool, b = true ∨ b = false) (portOk dt) with h2 | h2
    · by_cases hl : nd ≤ 1472
      · by_cases hz : ck (l4Ps a0 a1 a2 a3 a4 a5 a6 a7 17 (8 + (nd : Int)) ++ ([] ++ two df ++ two dt ++ two (8 + (nd : Int)) ++ [0, 0] ++ ld)) = 0
        · exact rudput_z tos id fl pt ttl pr a0 a1 a2 a3 a4 a5 a6 a7 So Sb no co nb cb df dt D nd cd lo ld w ho hb h1 h2 hl hno _ rfl hz
        · exact rudput_n tos id fl pt ttl pr a0 a1 a2 a3 a4 a5 a6 a7 So Sb no co nb cb df dt D nd cd lo ld w ho hb h1 h2 hl hno _ rfl hz
      · exact rudput_long tos id fl pt ttl pr a0 a1 a2 a3 a4 a5 a6 a7 So Sb no co nb cb df dt D nd cd lo ld w h1 h2 (by omega) hb.1
    · exact rudput_bad2 tos id fl pt ttl pr a0 a1 a2 a3 a4 a5 a6 a7 So Sb no co nb cb df dt D nd cd lo ld w h1 h2
  · exact rudput_bad1 tos id fl pt ttl pr a0 a1 a2 a3 a4 a5 a6 a7 So Sb no co nb cb df dt D nd cd lo ld w h1
end Go.Proofs.Ythikedajhocdkaa
