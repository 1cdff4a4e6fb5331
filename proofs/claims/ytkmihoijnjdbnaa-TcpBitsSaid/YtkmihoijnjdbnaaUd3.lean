/- The reference's Whole, fits, U16, Pseudo, sum. -/
import Derived.Test.YtkmihoijnjdbnaaUdl
import Derived.Test.YtkmihoijnjdbnaaSumc
import Derived.Test.YtkmihoijnjdbnaaEth5
import Derived.Test.YtkmihoijnjdbnaaEth4
import Derived.Test.YtkmihoijnjdbnaaIpd
import Derived.Deep.RegionHeld3
namespace Go.Proofs.Ytkmihoijnjdbnaa
open Go.RowKit

theorem rfits_any (v m : Int) (w : World) : Calls Try.prog 33 #[.int .i64 v, .int .i64 m] w fun e w' => e = .returned (.bool (decide (0 ≤ v) && decide (v ≤ m))) ∧ w = w' := by
  by_cases h0 : 0 ≤ v
  · rw [decide_eq_true h0, Bool.true_and]
    by_cases h1 : v ≤ m
    · rw [decide_eq_true h1]
      go_enter Try.func33, Try.ntmps33
      go_wp2
      go_ret
      exact ⟨rfl, rfl⟩
    · have h2 : decide (v ≤ m) = false := decide_eq_false h1
      rw [h2]
      clear h1
      go_enter Try.func33, Try.ntmps33
      go_wp2
      go_ret
      exact ⟨rfl, rfl⟩
  · have h2 : decide (0 ≤ v) = false := decide_eq_false h0
    rw [h2, Bool.false_and]
    clear h0
    go_enter Try.func33, Try.ntmps33
    go_wp2
    go_ret
    exact ⟨rfl, rfl⟩
theorem rport_any (v : Int) (w : World) : Calls Try.prog 33 #[.int .i64 v, .int .i64 65535] w fun e w' => e = .returned (.bool (portOk v)) ∧ w = w' := rfits_any v 65535 w
set_option maxRecDepth 100000 in
set_option maxHeartbeats 16000000 in
theorem rwhole_y (tos id fl pt ttl pr : Int) (a0 a1 a2 a3 a4 a5 a6 a7 : UInt8) (So Sb : Option Addr) (no co nb cb : Nat) (w : World) (hp0 : pt = 0) (hf0 : fl % 2 = 0) : Calls Try.prog 28 #[.agg #[.int .i64 tos, .int .i64 id, .int .i64 fl, .int .i64 pt, .int .i64 ttl, .int .i64 pr, .int .u8 (a0.toNat : Int), .int .u8 (a1.toNat : Int), .int .u8 (a2.toNat : Int), .int .u8 (a3.toNat : Int), .int .u8 (a4.toNat : Int), .int .u8 (a5.toNat : Int), .int .u8 (a6.toNat : Int), .int .u8 (a7.toNat : Int), .slice So no co, .slice Sb nb cb]] w fun e w' => e = .returned (.bool true) ∧ Below w.heap.size w w' := by
  have t0 : (pt == 0) = true := by simpa using hp0
  have ea := and1_i64 fl
  have t1 : (fl % 2 == 0) = true := by simpa using hf0
  clear hf0 hp0
  have bel := Below.refl w.heap.size w
  have hp : (w.alloc (.cells #[.int .i64 tos, .int .i64 id, .int .i64 fl, .int .i64 pt, .int .i64 ttl, .int .i64 pr, .int .u8 (a0.toNat : Int), .int .u8 (a1.toNat : Int), .int .u8 (a2.toNat : Int), .int .u8 (a3.toNat : Int), .int .u8 (a4.toNat : Int), .int .u8 (a5.toNat : Int), .int .u8 (a6.toNat : Int), .int .u8 (a7.toNat : Int), .slice So no co, .slice Sb nb cb] 40)).heap[w.heap.size]? = some (.cells #[.int .i64 tos, .int .i64 id, .int .i64 fl, .int .i64 pt, .int .i64 ttl, .int .i64 pr, .int .u8 (a0.toNat : Int), .int .u8 (a1.toNat : Int), .int .u8 (a2.toNat : Int), .int .u8 (a3.toNat : Int), .int .u8 (a4.toNat : Int), .int .u8 (a5.toNat : Int), .int .u8 (a6.toNat : Int), .int .u8 (a7.toNat : Int), .slice So no co, .slice Sb nb cb] 40 (0, 0)) := by have := heap_alloc_new w (.cells #[.int .i64 tos, .int .i64 id, .int .i64 fl, .int .i64 pt, .int .i64 ttl, .int .i64 pr, .int .u8 (a0.toNat : Int), .int .u8 (a1.toNat : Int), .int .u8 (a2.toNat : Int), .int .u8 (a3.toNat : Int), .int .u8 (a4.toNat : Int), .int .u8 (a5.toNat : Int), .int .u8 (a6.toNat : Int), .int .u8 (a7.toNat : Int), .slice So no co, .slice Sb nb cb] 40); simpa using this
  have zp : w.heap.size < (w.alloc (.cells #[.int .i64 tos, .int .i64 id, .int .i64 fl, .int .i64 pt, .int .i64 ttl, .int .i64 pr, .int .u8 (a0.toNat : Int), .int .u8 (a1.toNat : Int), .int .u8 (a2.toNat : Int), .int .u8 (a3.toNat : Int), .int .u8 (a4.toNat : Int), .int .u8 (a5.toNat : Int), .int .u8 (a6.toNat : Int), .int .u8 (a7.toNat : Int), .slice So no co, .slice Sb nb cb] 40)).heap.size := by simp
  replace bel := bel.alloc bel.size (.cells #[.int .i64 tos, .int .i64 id, .int .i64 fl, .int .i64 pt, .int .i64 ttl, .int .i64 pr, .int .u8 (a0.toNat : Int), .int .u8 (a1.toNat : Int), .int .u8 (a2.toNat : Int), .int .u8 (a3.toNat : Int), .int .u8 (a4.toNat : Int), .int .u8 (a5.toNat : Int), .int .u8 (a6.toNat : Int), .int .u8 (a7.toNat : Int), .slice So no co, .slice Sb nb cb] 40)
  go_enter Try.func28, Try.ntmps28
  have R3 := cell_lit hp 3 _ rfl
  have R7 := cell_lit hp 2 _ rfl
  go_wp2
  go_ret
  exact ⟨rfl, bel⟩
set_option maxRecDepth 100000 in
set_option maxHeartbeats 16000000 in
theorem rwhole_f (tos id fl pt ttl pr : Int) (a0 a1 a2 a3 a4 a5 a6 a7 : UInt8) (So Sb : Option Addr) (no co nb cb : Nat) (w : World) (hp0 : pt = 0) (hf0 : fl % 2 ≠ 0) : Calls Try.prog 28 #[.agg #[.int .i64 tos, .int .i64 id, .int .i64 fl, .int .i64 pt, .int .i64 ttl, .int .i64 pr, .int .u8 (a0.toNat : Int), .int .u8 (a1.toNat : Int), .int .u8 (a2.toNat : Int), .int .u8 (a3.toNat : Int), .int .u8 (a4.toNat : Int), .int .u8 (a5.toNat : Int), .int .u8 (a6.toNat : Int), .int .u8 (a7.toNat : Int), .slice So no co, .slice Sb nb cb]] w fun e w' => e = .returned (.bool false) ∧ Below w.heap.size w w' := by
  have t0 : (pt == 0) = true := by simpa using hp0
  clear hp0
  have ea := and1_i64 fl
  have t1 : (fl % 2 == 0) = false := by simpa using hf0
  clear hf0
  have bel := Below.refl w.heap.size w
  have hp : (w.alloc (.cells #[.int .i64 tos, .int .i64 id, .int .i64 fl, .int .i64 pt, .int .i64 ttl, .int .i64 pr, .int .u8 (a0.toNat : Int), .int .u8 (a1.toNat : Int), .int .u8 (a2.toNat : Int), .int .u8 (a3.toNat : Int), .int .u8 (a4.toNat : Int), .int .u8 (a5.toNat : Int), .int .u8 (a6.toNat : Int), .int .u8 (a7.toNat : Int), .slice So no co, .slice Sb nb cb] 40)).heap[w.heap.size]? = some (.cells #[.int .i64 tos, .int .i64 id, .int .i64 fl, .int .i64 pt, .int .i64 ttl, .int .i64 pr, .int .u8 (a0.toNat : Int), .int .u8 (a1.toNat : Int), .int .u8 (a2.toNat : Int), .int .u8 (a3.toNat : Int), .int .u8 (a4.toNat : Int), .int .u8 (a5.toNat : Int), .int .u8 (a6.toNat : Int), .int .u8 (a7.toNat : Int), .slice So no co, .slice Sb nb cb] 40 (0, 0)) := by have := heap_alloc_new w (.cells #[.int .i64 tos, .int .i64 id, .int .i64 fl, .int .i64 pt, .int .i64 ttl, .int .i64 pr, .int .u8 (a0.toNat : Int), .int .u8 (a1.toNat : Int), .int .u8 (a2.toNat : Int), .int .u8 (a3.toNat : Int), .int .u8 (a4.toNat : Int), .int .u8 (a5.toNat : Int), .int .u8 (a6.toNat : Int), .int .u8 (a7.toNat : Int), .slice So no co, .slice Sb nb cb] 40); simpa using this
  have zp : w.heap.size < (w.alloc (.cells #[.int .i64 tos, .int .i64 id, .int .i64 fl, .int .i64 pt, .int .i64 ttl, .int .i64 pr, .int .u8 (a0.toNat : Int), .int .u8 (a1.toNat : Int), .int .u8 (a2.toNat : Int), .int .u8 (a3.toNat : Int), .int .u8 (a4.toNat : Int), .int .u8 (a5.toNat : Int), .int .u8 (a6.toNat : Int), .int .u8 (a7.toNat : Int), .slice So no co, .slice Sb nb cb] 40)).heap.size := by simp
  replace bel := bel.alloc bel.size (.cells #[.int .i64 tos, .int .i64 id, .int .i64 fl, .int .i64 pt, .int .i64 ttl, .int .i64 pr, .int .u8 (a0.toNat : Int), .int .u8 (a1.toNat : Int), .int .u8 (a2.toNat : Int), .int .u8 (a3.toNat : Int), .int .u8 (a4.toNat : Int), .int .u8 (a5.toNat : Int), .int .u8 (a6.toNat : Int), .int .u8 (a7.toNat : Int), .slice So no co, .slice Sb nb cb] 40)
  go_enter Try.func28, Try.ntmps28
  have R3 := cell_lit hp 3 _ rfl
  have R7 := cell_lit hp 2 _ rfl
  go_wp2
  go_ret
  exact ⟨rfl, bel⟩
set_option maxRecDepth 100000 in
set_option maxHeartbeats 16000000 in
theorem rwhole_p (tos id fl pt ttl pr : Int) (a0 a1 a2 a3 a4 a5 a6 a7 : UInt8) (So Sb : Option Addr) (no co nb cb : Nat) (w : World) (hp0 : pt ≠ 0) : Calls Try.prog 28 #[.agg #[.int .i64 tos, .int .i64 id, .int .i64 fl, .int .i64 pt, .int .i64 ttl, .int .i64 pr, .int .u8 (a0.toNat : Int), .int .u8 (a1.toNat : Int), .int .u8 (a2.toNat : Int), .int .u8 (a3.toNat : Int), .int .u8 (a4.toNat : Int), .int .u8 (a5.toNat : Int), .int .u8 (a6.toNat : Int), .int .u8 (a7.toNat : Int), .slice So no co, .slice Sb nb cb]] w fun e w' => e = .returned (.bool false) ∧ Below w.heap.size w w' := by
  have t0 : (pt == 0) = false := by simpa using hp0
  clear hp0
  have bel := Below.refl w.heap.size w
  have hp : (w.alloc (.cells #[.int .i64 tos, .int .i64 id, .int .i64 fl, .int .i64 pt, .int .i64 ttl, .int .i64 pr, .int .u8 (a0.toNat : Int), .int .u8 (a1.toNat : Int), .int .u8 (a2.toNat : Int), .int .u8 (a3.toNat : Int), .int .u8 (a4.toNat : Int), .int .u8 (a5.toNat : Int), .int .u8 (a6.toNat : Int), .int .u8 (a7.toNat : Int), .slice So no co, .slice Sb nb cb] 40)).heap[w.heap.size]? = some (.cells #[.int .i64 tos, .int .i64 id, .int .i64 fl, .int .i64 pt, .int .i64 ttl, .int .i64 pr, .int .u8 (a0.toNat : Int), .int .u8 (a1.toNat : Int), .int .u8 (a2.toNat : Int), .int .u8 (a3.toNat : Int), .int .u8 (a4.toNat : Int), .int .u8 (a5.toNat : Int), .int .u8 (a6.toNat : Int), .int .u8 (a7.toNat : Int), .slice So no co, .slice Sb nb cb] 40 (0, 0)) := by have := heap_alloc_new w (.cells #[.int .i64 tos, .int .i64 id, .int .i64 fl, .int .i64 pt, .int .i64 ttl, .int .i64 pr, .int .u8 (a0.toNat : Int), .int .u8 (a1.toNat : Int), .int .u8 (a2.toNat : Int), .int .u8 (a3.toNat : Int), .int .u8 (a4.toNat : Int), .int .u8 (a5.toNat : Int), .int .u8 (a6.toNat : Int), .int .u8 (a7.toNat : Int), .slice So no co, .slice Sb nb cb] 40); simpa using this
  have zp : w.heap.size < (w.alloc (.cells #[.int .i64 tos, .int .i64 id, .int .i64 fl, .int .i64 pt, .int .i64 ttl, .int .i64 pr, .int .u8 (a0.toNat : Int), .int .u8 (a1.toNat : Int), .int .u8 (a2.toNat : Int), .int .u8 (a3.toNat : Int), .int .u8 (a4.toNat : Int), .int .u8 (a5.toNat : Int), .int .u8 (a6.toNat : Int), .int .u8 (a7.toNat : Int), .slice So no co, .slice Sb nb cb] 40)).heap.size := by simp
  replace bel := bel.alloc bel.size (.cells #[.int .i64 tos, .int .i64 id, .int .i64 fl, .int .i64 pt, .int .i64 ttl, .int .i64 pr, .int .u8 (a0.toNat : Int), .int .u8 (a1.toNat : Int), .int .u8 (a2.toNat : Int), .int .u8 (a3.toNat : Int), .int .u8 (a4.toNat : Int), .int .u8 (a5.toNat : Int), .int .u8 (a6.toNat : Int), .int .u8 (a7.toNat : Int), .slice So no co, .slice Sb nb cb] 40)
  go_enter Try.func28, Try.ntmps28
  have R3 := cell_lit hp 3 _ rfl
  have R7 := cell_lit hp 2 _ rfl
  go_wp2
  go_ret
  exact ⟨rfl, bel⟩
theorem rwhole_any (tos id fl pt ttl pr : Int) (a0 a1 a2 a3 a4 a5 a6 a7 : UInt8) (So Sb : Option Addr) (no co nb cb : Nat) (w : World) : Calls Try.prog 28 #[.agg #[.int .i64 tos, .int .i64 id, .int .i64 fl, .int .i64 pt, .int .i64 ttl, .int .i64 pr, .int .u8 (a0.toNat : Int), .int .u8 (a1.toNat : Int), .int .u8 (a2.toNat : Int), .int .u8 (a3.toNat : Int), .int .u8 (a4.toNat : Int), .int .u8 (a5.toNat : Int), .int .u8 (a6.toNat : Int), .int .u8 (a7.toNat : Int), .slice So no co, .slice Sb nb cb]] w fun e w' => e = .returned (.bool (decide (pt = 0) && decide (fl % 2 = 0))) ∧ Below w.heap.size w w' := by
  by_cases h : pt = 0
  · by_cases h2 : fl % 2 = 0
    · rw [decide_eq_true h, decide_eq_true h2]; exact rwhole_y tos id fl pt ttl pr a0 a1 a2 a3 a4 a5 a6 a7 So Sb no co nb cb w h h2
    · rw [decide_eq_true h, decide_eq_false h2]; exact rwhole_f tos id fl pt ttl pr a0 a1 a2 a3 a4 a5 a6 a7 So Sb no co nb cb w h h2
  · rw [decide_eq_false h]; exact rwhole_p tos id fl pt ttl pr a0 a1 a2 a3 a4 a5 a6 a7 So Sb no co nb cb w h
set_option maxRecDepth 100000 in
set_option maxHeartbeats 16000000 in
theorem r16_oto (A : Option Addr) (n m c : Nat) (l : List UInt8) (v0 : Int) (w : World) (hm : n + 2 = m) (hl : Sl w A n c l) (hs : n + 2 ≤ 140737488355328) :
    Calls Try.prog 34 #[.slice A n c, .int .i64 v0] w fun e w' => ∃ v, e = .returned v ∧ w'.ownsRow w.heap.size 5 1 v m ((l ++ two v0).map u8v) ∧ Below w.heap.size w w' := by
  subst hm
  obtain ⟨ii, hii, hz0, hz1, hz2⟩ := info_parts Try.info5
  have bel := Below.refl w.heap.size w
  go_enter Try.func34, Try.ntmps34
  go_wp2_with (first | ((with_reducible show wpList _ _ _ (⟨some 5, _, _, _, _, _⟩ :: _) _ _); refine wpList_lit_n rfl 25 5 0 _ rfl #[] (.int .u8 0) Try.underlying25 (by kernel_rfl) 1 (by kernel_rfl) (by decide) (by kernel_rfl) ?_; intro g5 w1 ge lt hh bb; have hl : w1.heap[g5]? = some (.cells (([] : List UInt8).map u8v).toArray 5 (0, 0)) := (by simpa [u8v, byteOf_val] using hh); have e0w := own_lit (B := w.heap.size) ([]) hl ge 0 rfl (by simp [maxLen]); have e0 := (own_sl e0w).1; have e0lo := bel.size; clear hl; have e0ge := ge; have lz_e0 := bb.size; have bl_hl_e0 := hl.bl_new; replace hl := hl.below bb; replace bel := bel.trans (bb.mono bel.size); clear hh lt ge bb) | ((with_reducible show wpList _ _ _ (⟨some 7, _, _, _, _, _⟩ :: _) _ _); refine wpList_append_bb _ rfl (.tmp 5) (.tmp 6) 25 rfl (w.heap.size) 5 ii (.int .u8 0) Try.underlying25 hii hz0 hz1 hz2 rfl _ (0) ([]) rfl e0w (A) (n) (c) (l) rfl hl (by omega) lz_e0 ?_; intro v7 w2 own_ bb; replace hl := hl.under bl_hl_e0 bb; replace bel := bel.trans (bb.mono e0lo); have lz_b1 := Nat.le_trans lz_e0 bb.size; clear bb; clear e0 e0w lz_e0; replace own_ : w2.ownsRow (w.heap.size) 5 1 v7 (n) ((l : List UInt8).map u8v) := (by simpa using own_); obtain ⟨A7, c7, rfl⟩ := own_val own_; have b1w := own_; have b1 := (own_sl own_).1; have fr_b1 := (own_sl own_).2; clear own_) | ((with_reducible show wpList _ _ _ (⟨some 13, _, _, _, _, _⟩ :: _) _ _); refine wpList_lit_n rfl 25 5 2 _ rfl #[.int .u8 (v0 / 256 % 256), .int .u8 (v0 % 256)] (.int .u8 0) Try.underlying25 (by kernel_rfl) 1 (by kernel_rfl) (by decide) (by kernel_rfl) ?_; intro g13 w3 ge lt hh bb; have hl : w3.heap[g13]? = some (.cells (([byteOf (v0 / 256), byteOf v0] : List UInt8).map u8v).toArray 5 (0, 0)) := (by simpa [u8v, byteOf_val] using hh); have tww := own_lit (B := w2.heap.size) ([byteOf (v0 / 256), byteOf v0]) hl ge 2 rfl (by simp [maxLen]); have tw := (own_sl tww).1; have twlo := bel.size; clear hl; have twge := ge; have lz_tw := bb.size; have bl_hl_tw := hl.bl_new; have bl_b1_tw := b1.bl_new; have av_hl_b13 := hl.av_new ge; have av_b1_b13 := b1.av_new ge; have of_b1_b13 := own_new b1w ge; have ob13 := Nat.le_trans bel.size ge; replace hl := hl.below bb; replace b1 := b1.below bb; replace b1w := own_under b1w bb; replace lz_b1 := Nat.le_trans lz_b1 bb.size; replace bel := bel.trans (bb.mono bel.size); have hb13 := hh; clear hh lt ge bb) | ((with_reducible show wpList _ _ _ (⟨some 14, _, _, _, _, _⟩ :: _) _ _); refine wpList_append_bb _ rfl (.tmp 7) (.tmp 13) 25 rfl (w.heap.size) 5 ii (.int .u8 0) Try.underlying25 hii hz0 hz1 hz2 rfl _ (n) (l) rfl b1w (some ⟨g13, 0, none⟩) (2) (2) ([byteOf (v0 / 256), byteOf v0]) rfl tw (by omega) lz_b1 ?_; intro v14 w4 own_ bb; replace hl := hl.under bl_hl_e0 bb; clear tw tww lz_tw; clear hb13; replace bel := bel.trans (bb.mono e0lo); have lz_b2 := Nat.le_trans lz_b1 bb.size; clear bb; clear b1 b1w lz_b1; replace own_ : w4.ownsRow (w.heap.size) 5 1 v14 (n + 2) ((l ++ [byteOf (v0 / 256), byteOf v0] : List UInt8).map u8v) := own_; obtain ⟨A14, c14, rfl⟩ := own_val own_; have b2w := own_; have b2 := (own_sl own_).1; have fr_b2 := (own_sl own_).2; clear own_))
  go_ret
  exact ⟨_, rfl, ownsRow_mono b2w e0lo, bel⟩
set_option maxRecDepth 100000 in
set_option maxHeartbeats 16000000 in
theorem rpseudo_o (tos id fl pt ttl pr : Int) (a0 a1 a2 a3 a4 a5 a6 a7 : UInt8) (So Sb : Option Addr) (no co nb cb : Nat) (k : Int) (w : World) : Calls Try.prog 46 #[.agg #[.int .i64 tos, .int .i64 id, .int .i64 fl, .int .i64 pt, .int .i64 ttl, .int .i64 pr, .int .u8 (a0.toNat : Int), .int .u8 (a1.toNat : Int), .int .u8 (a2.toNat : Int), .int .u8 (a3.toNat : Int), .int .u8 (a4.toNat : Int), .int .u8 (a5.toNat : Int), .int .u8 (a6.toNat : Int), .int .u8 (a7.toNat : Int), .slice So no co, .slice Sb nb cb], .int .i64 k] w fun e w' => ∃ v, e = .returned v ∧ w'.ownsRow w.heap.size 5 1 v 12 ((l4Ps a0 a1 a2 a3 a4 a5 a6 a7 pr k).map u8v) ∧ Below w.heap.size w w' := by
  obtain ⟨ii, hii, hz0, hz1, hz2⟩ := info_parts Try.info5
  have bel := Below.refl w.heap.size w
  go_enter Try.func46, Try.ntmps46
  go_wp2_with (first | ((with_reducible show wpList _ _ _ (⟨some 2, _, _, _, _, _⟩ :: _) _ _); refine wpList_box_n rfl 40 (.tmp 0) rfl #[.int .i64 tos, .int .i64 id, .int .i64 fl, .int .i64 pt, .int .i64 ttl, .int .i64 pr, .int .u8 (a0.toNat : Int), .int .u8 (a1.toNat : Int), .int .u8 (a2.toNat : Int), .int .u8 (a3.toNat : Int), .int .u8 (a4.toNat : Int), .int .u8 (a5.toNat : Int), .int .u8 (a6.toNat : Int), .int .u8 (a7.toNat : Int), .slice So no co, .slice Sb nb cb] rfl ?_; intro g2 w1 ge lt hh bb; have op := Nat.le_trans bel.size ge; replace bel := bel.trans (bb.mono bel.size); have hp := hh; clear hh lt ge bb))
  have sa := sl_four (o := 6) a0 a1 a2 a3 hp rfl rfl rfl rfl
  have sc := sl_four (o := 10) a4 a5 a6 a7 hp rfl rfl rfl rfl
  go_wp2_with fail
  replace bel := bel.drew
  replace hp : w1.drew.heap[g2]? = _ := hp
  replace sa := sa.drew
  replace sc := sc.drew
  refine wp_region_held_drew (S := fun _ => True) (by kernel_rfl) trivial (fun hH => ?_)
  generalize w1.drew = w2 at bel hp sa sc hH ⊢
  refine wpAnyH_take (i := 0) (v := ?_) rfl (by kernel_rfl) (by kernel_rfl) (by kernel_rfl) (fun _ _ _ h => h) (Or.inl ⟨by rfl, ?_⟩) hH ?_
  rotate_left
  · ((intro W hW; clear hW; go_simp) <;> with_reducible rfl)
  simp only [Act.put, List.getElem_toArray, List.getElem_cons_zero, List.setIfInBounds_toArray, List.set_cons_zero, List.set_cons_succ]
  refine wpAnyH_take (i := 1) (v := ?_) rfl (by kernel_rfl) (by kernel_rfl) (by kernel_rfl) (fun _ _ _ h => h) (Or.inl ⟨by rfl, ?_⟩) hH ?_
  rotate_left
  · ((intro W hW; clear hW; go_simp) <;> with_reducible rfl)
  simp only [Act.put, List.getElem_toArray, List.getElem_cons_zero, List.getElem_cons_succ, List.setIfInBounds_toArray, List.set_cons_zero, List.set_cons_succ]
  refine wpAnyH_take (i := 3) (v := ?_) rfl (by kernel_rfl) (by kernel_rfl) (by kernel_rfl) (fun _ _ _ h => h) (Or.inl ⟨by rfl, ?_⟩) hH ?_
  rotate_left
  · ((intro W hW; clear hW; go_simp) <;> with_reducible rfl)
  simp only [Act.put, List.getElem_toArray, List.getElem_cons_zero, List.getElem_cons_succ, List.setIfInBounds_toArray, List.set_cons_zero, List.set_cons_succ]
  refine wpAnyH_take (i := 4) (v := ?_) rfl (by kernel_rfl) (by kernel_rfl) (by kernel_rfl) (fun _ _ _ h => h) (Or.inl ⟨by rfl, ?_⟩) hH ?_
  rotate_left
  · ((intro W hW; clear hW; go_simp) <;> with_reducible rfl)
  simp only [Act.put, List.getElem_toArray, List.getElem_cons_zero, List.getElem_cons_succ, List.setIfInBounds_toArray, List.set_cons_zero, List.set_cons_succ]
  refine wpAnyH_ready (rs := [2]) (by kernel_rfl) (by simp) ?_
  refine AllReadyH.cons (o := _) rfl (fun K hK => ?_) AllReadyH.nil
  simp only [List.getElem_toArray, List.getElem_cons_zero, List.getElem_cons_succ]
  go_simp
  with_reducible refine (rcopied_o _ _ _ _ _ sa (by omega)).mono ?_
  rintro e w3 ⟨v, rfl, c1w, b3⟩
  dsimp only
  have y_c1_p := Lib.hid (hlt hp)
  have bl_sa_c1 := sa.bl_new
  have bl_sc_c1 := sc.bl_new
  have c1lo := bel.size
  have lz_c1 := b3.size
  replace hp := blk_u hp b3
  replace sa := sa.below b3
  replace sc := sc.below b3
  replace bel := bel.trans (b3.mono bel.size)
  clear b3
  obtain ⟨Ac1, cc1, rfl⟩ := own_val c1w
  have c1 := (own_sl c1w).1
  have fr_c1 := (own_sl c1w).2
  have av_c1_p := fr_c1.av y_c1_p.out
  refine hK.out _ _ trivial (fun hH4 => ?_)
  clear hK K
  refine wpAnyH_ready (rs := [5]) (by kernel_rfl) (by simp) ?_
  refine AllReadyH.cons (o := _) rfl (fun K hK => ?_) AllReadyH.nil
  simp only [List.getElem_toArray, List.getElem_cons_zero, List.getElem_cons_succ]
  rw [if_pos (by rfl)]
  refine wp_append_bb (.tmp 8) (.tmp 10) 25 rfl (w2.heap.size) 5 ii (.int .u8 0) Try.underlying25 hii hz0 hz1 hz2 rfl _ (4) ([a0, a1, a2, a3]) rfl c1w (some ⟨g2, 10, none⟩) (4) (4) ([a4, a5, a6, a7]) rfl sc (by omega) lz_c1 ?_
  intro v11 w5 own_ bb
  replace sa := sa.under bl_sa_c1 bb
  replace sc := sc.under bl_sc_c1 bb
  replace hp := blk_under hp bb y_c1_p.out
  replace bel := bel.trans (bb.mono c1lo)
  have lz_c2 := Nat.le_trans lz_c1 bb.size
  clear bb
  clear c1 c1w lz_c1
  replace own_ : w5.ownsRow (w2.heap.size) 5 1 v11 (8) (([a0, a1, a2, a3] ++ [a4, a5, a6, a7] : List UInt8).map u8v) := own_
  obtain ⟨A11, c11, rfl⟩ := own_val own_
  have c2w := own_
  have c2 := (own_sl own_).1
  have fr_c2 := (own_sl own_).2
  clear own_
  have av_c2_p := fr_c2.av y_c1_p.out
  refine hK.out _ _ trivial (fun hH6 => ?_)
  clear hK K
  simp only [Act.put, List.setIfInBounds_toArray, List.set_cons_zero, List.set_cons_succ]
  refine wpAnyH_take (i := 6) (v := ?_) rfl (by kernel_rfl) (by kernel_rfl) (by kernel_rfl) (fun _ _ _ h => h) (Or.inl ⟨by rfl, ?_⟩) hH6 ?_
  rotate_left
  · ((intro W hW; clear hW; go_simp) <;> with_reducible rfl)
  simp only [Act.put, List.getElem_toArray, List.getElem_cons_zero, List.getElem_cons_succ, List.setIfInBounds_toArray, List.set_cons_zero, List.set_cons_succ]
  refine wpAnyH_done (by kernel_rfl) ?_ _
  have R14 := cell_lit hp 5 _ rfl
  go_wp2_with (first | ((with_reducible show wpList _ _ _ (⟨some 16, _, _, _, _, _⟩ :: _) _ _); refine wpList_lit_n rfl 25 5 2 _ rfl #[.int .u8 0, .int .u8 (pr % 256)] (.int .u8 0) Try.underlying25 (by kernel_rfl) 1 (by kernel_rfl) (by decide) (by kernel_rfl) ?_; intro g16 w7 ge lt hh bb; have hl : w7.heap[g16]? = some (.cells (([0, byteOf pr] : List UInt8).map u8v).toArray 5 (0, 0)) := (by simpa [u8v, byteOf_val] using hh); have tww := own_lit (B := w5.heap.size) ([0, byteOf pr]) hl ge 2 rfl (by simp [maxLen]); have tw := (own_sl tww).1; have twlo := bel.size; clear hl; have twge := ge; have lz_tw := bb.size; have y_tw_p := Lib.hid (hlt hp); have bl_sa_tw := sa.bl_new; have bl_sc_tw := sc.bl_new; have bl_c2_tw := c2.bl_new; have d_p_b16 := ne_new (hlt hp) ge; have av_sa_b16 := sa.av_new ge; have av_sc_b16 := sc.av_new ge; have av_c2_b16 := c2.av_new ge; have of_c2_b16 := own_new c2w ge; have ob16 := Nat.le_trans bel.size ge; replace hp := blk_u hp bb; replace sa := sa.below bb; replace sc := sc.below bb; replace c2 := c2.below bb; replace c2w := own_under c2w bb; replace lz_c2 := Nat.le_trans lz_c2 bb.size; replace bel := bel.trans (bb.mono bel.size); have hb16 := hh; clear hh lt ge bb; have av_tw_p := (own_sl tww).2.av y_tw_p.out) | ((with_reducible show wpList _ _ _ (⟨some 17, _, _, _, _, _⟩ :: _) _ _); refine wpList_append_bb _ rfl (.tmp 12) (.tmp 16) 25 rfl (w2.heap.size) 5 ii (.int .u8 0) Try.underlying25 hii hz0 hz1 hz2 rfl _ (8) ([a0, a1, a2, a3] ++ [a4, a5, a6, a7]) rfl c2w (some ⟨g16, 0, none⟩) (2) (2) ([0, byteOf pr]) rfl tw (by omega) lz_c2 ?_; intro v17 w8 own_ bb; replace sa := sa.under bl_sa_c1 bb; replace sc := sc.under bl_sc_c1 bb; clear tw tww lz_tw; replace hp := blk_under hp bb y_c1_p.out; clear hb16; replace bel := bel.trans (bb.mono c1lo); have lz_c3 := Nat.le_trans lz_c2 bb.size; clear bb; clear c2 c2w lz_c2; replace own_ : w8.ownsRow (w2.heap.size) 5 1 v17 (10) (([a0, a1, a2, a3] ++ [a4, a5, a6, a7] ++ [0, byteOf pr] : List UInt8).map u8v) := own_; obtain ⟨A17, c17, rfl⟩ := own_val own_; have c3w := own_; have c3 := (own_sl own_).1; have fr_c3 := (own_sl own_).2; clear own_; have av_c3_p := fr_c3.av y_c1_p.out))
  try clear R14
  with_reducible refine (r16_oto _ 10 12 _ _ _ _ rfl c3 (by omega)).mono ?_
  rintro e w9 ⟨v, rfl, c4w, b9⟩
  have y_c4_p := Lib.hid (hlt hp)
  have bl_sa_c4 := sa.bl_new
  have bl_sc_c4 := sc.bl_new
  have bl_c3_c4 := c3.bl_new
  have c4lo := bel.size
  have lz_c4 := b9.size
  replace hp := blk_u hp b9
  replace sa := sa.below b9
  replace sc := sc.below b9
  replace c3 := c3.below b9
  replace c3w := own_under c3w b9
  replace lz_c3 := Nat.le_trans lz_c3 b9.size
  replace bel := bel.trans (b9.mono bel.size)
  clear b9
  obtain ⟨Ac4, cc4, rfl⟩ := own_val c4w
  have c4 := (own_sl c4w).1
  have fr_c4 := (own_sl c4w).2
  have av_c4_p := fr_c4.av y_c4_p.out
  go_wp2_with fail
  go_ret
  exact ⟨_, rfl, ownsRow_mono c4w c4lo, bel⟩
set_option maxRecDepth 100000 in
set_option maxHeartbeats 16000000 in
theorem rsum_any (tos id fl pt ttl pr : Int) (a0 a1 a2 a3 a4 a5 a6 a7 : UInt8) (So Sb : Option Addr) (no co nb cb : Nat) (B : Option Addr) (n c : Nat) (l : List UInt8) (w : World) (hl : Sl w B n c l) (hn : n ≤ 90000) : Calls Try.prog 29 #[.agg #[.int .i64 tos, .int .i64 id, .int .i64 fl, .int .i64 pt, .int .i64 ttl, .int .i64 pr, .int .u8 (a0.toNat : Int), .int .u8 (a1.toNat : Int), .int .u8 (a2.toNat : Int), .int .u8 (a3.toNat : Int), .int .u8 (a4.toNat : Int), .int .u8 (a5.toNat : Int), .int .u8 (a6.toNat : Int), .int .u8 (a7.toNat : Int), .slice So no co, .slice Sb nb cb], .slice B n c] w fun e w' => e = .returned (.int .i64 (ck (l4Ps a0 a1 a2 a3 a4 a5 a6 a7 pr (n : Int) ++ l))) ∧ Below w.heap.size w w' := by
  obtain ⟨ii, hii, hz0, hz1, hz2⟩ := info_parts Try.info5
  have HN := Lib.hid hn
  clear hn
  have bel := Below.refl w.heap.size w
  go_enter Try.func29, Try.ntmps29
  go_wp2_with (first | ((with_reducible show wpList _ _ _ (⟨some 2, _, _, _, _, _⟩ :: _) _ _); refine wpList_box_n rfl 40 (.tmp 0) rfl #[.int .i64 tos, .int .i64 id, .int .i64 fl, .int .i64 pt, .int .i64 ttl, .int .i64 pr, .int .u8 (a0.toNat : Int), .int .u8 (a1.toNat : Int), .int .u8 (a2.toNat : Int), .int .u8 (a3.toNat : Int), .int .u8 (a4.toNat : Int), .int .u8 (a5.toNat : Int), .int .u8 (a6.toNat : Int), .int .u8 (a7.toNat : Int), .slice So no co, .slice Sb nb cb] rfl ?_; intro g2 w1 ge lt hh bb; have av_hl_p := hl.av_new ge; have op := Nat.le_trans bel.size ge; replace hl := hl.below bb; replace bel := bel.trans (bb.mono bel.size); have hp := hh; clear hh lt ge bb; have R5 := Lib.hid (range_lit hp 0 16 [.int .i64 tos, .int .i64 id, .int .i64 fl, .int .i64 pt, .int .i64 ttl, .int .i64 pr, .int .u8 (a0.toNat : Int), .int .u8 (a1.toNat : Int), .int .u8 (a2.toNat : Int), .int .u8 (a3.toNat : Int), .int .u8 (a4.toNat : Int), .int .u8 (a5.toNat : Int), .int .u8 (a6.toNat : Int), .int .u8 (a7.toNat : Int), .slice So no co, .slice Sb nb cb] rfl)) | ((with_reducible show wpList _ _ _ (⟨some 5, _, _, _, _, _⟩ :: _) _ _); refine wpList_load_rng 40 (.tmp 2) rfl (by kernel_rfl) _ _ rfl _ R5.out _ Try.underlying40 rfl (by kernel_rfl) ?_))
  try clear R5
  with_reducible refine (rpseudo_o _ _ _ _ _ _ _ _ _ _ _ _ _ _ _ _ _ _ _ _ _ _).mono ?_
  rintro e w2 ⟨v, rfl, psw, b2⟩
  have y_ps_p := Lib.hid (hlt hp)
  have bl_hl_ps := hl.bl_new
  have pslo := bel.size
  have lz_ps := b2.size
  replace hp := blk_u hp b2
  replace hl := hl.below b2
  replace bel := bel.trans (b2.mono bel.size)
  clear b2
  obtain ⟨Aps, cps, rfl⟩ := own_val psw
  have ps := (own_sl psw).1
  have fr_ps := (own_sl psw).2
  have av_ps_p := fr_ps.av y_ps_p.out
  go_wp2_with (first | ((with_reducible show wpList _ _ _ (⟨some 10, _, _, _, _, _⟩ :: _) _ _); refine wpList_append_bb _ rfl (.tmp 8) (.tmp 9) 25 rfl (w1.heap.size) 5 ii (.int .u8 0) Try.underlying25 hii hz0 hz1 hz2 rfl _ (12) (l4Ps a0 a1 a2 a3 a4 a5 a6 a7 pr (n : Int)) rfl psw (B) (n) (c) (l) rfl hl (by have := HN.out; omega) lz_ps ?_; intro v10 w3 own_ bb; replace hl := hl.under bl_hl_ps bb; replace hp := blk_under hp bb y_ps_p.out; replace bel := bel.trans (bb.mono pslo); have lz_al := Nat.le_trans lz_ps bb.size; clear bb; clear ps psw lz_ps; replace own_ : w3.ownsRow (w1.heap.size) 5 1 v10 (12 + n) ((l4Ps a0 a1 a2 a3 a4 a5 a6 a7 pr (n : Int) ++ l : List UInt8).map u8v) := own_; obtain ⟨A10, c10, rfl⟩ := own_val own_; have alw := own_; have al := (own_sl own_).1; have fr_al := (own_sl own_).2; clear own_; have av_al_p := fr_al.av y_ps_p.out))
  with_reducible refine (rof_b _ _ _ _ _ al (by have := HN.out; omega)).mono ?_
  rintro e w4 ⟨rfl, b4⟩
  replace hp := blk_u hp b4
  replace hl := hl.below b4
  replace al := al.below b4
  replace alw := own_under alw b4
  replace lz_al := Nat.le_trans lz_al b4.size
  replace bel := bel.trans (b4.mono bel.size)
  clear b4
  go_wp2_with fail
  go_ret
  exact ⟨rfl, bel⟩
end Go.Proofs.Ytkmihoijnjdbnaa
