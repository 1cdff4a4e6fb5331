/- The reference's Whole, fits, U16, Pseudo, sum. -/
import Derived.Test.YtfmllopeeiecjaaUdl
import Derived.Test.YtfmllopeeiecjaaSumc
import Derived.Test.YtfmllopeeiecjaaEth5
import Derived.Test.YtfmllopeeiecjaaEth4
import Derived.Test.YtfmllopeeiecjaaIpd
import Derived.Deep.RegionHeld3
namespace Go.Proofs.Ytfmllopeeiecjaa
open Go.RowKit

theorem rfits_any (v m : Int) (w : World) : Calls Try.prog 47 #[.int .i64 v, .int .i64 m] w fun e w' => e = .returned (.bool (decide (0 ≤ v) && decide (v ≤ m))) ∧ w = w' := by
  by_cases h0 : 0 ≤ v
  · rw [decide_eq_true h0, Bool.true_and]
    by_cases h1 : v ≤ m
    · rw [decide_eq_true h1]
      go_enter Try.func47, Try.ntmps47
      go_wp2
      go_ret
      exact ⟨rfl, rfl⟩
    · have h2 : decide (v ≤ m) = false := decide_eq_false h1
      rw [h2]
      clear h1
      go_enter Try.func47, Try.ntmps47
      go_wp2
      go_ret
      exact ⟨rfl, rfl⟩
  · have h2 : decide (0 ≤ v) = false := decide_eq_false h0
    rw [h2, Bool.false_and]
    clear h0
    go_enter Try.func47, Try.ntmps47
    go_wp2
    go_ret
    exact ⟨rfl, rfl⟩
theorem rport_any (v : Int) (w : World) : Calls Try.prog 47 #[.int .i64 v, .int .i64 65535] w fun e w' => e = .returned (.bool (portOk v)) ∧ w = w' := rfits_any v 65535 w
set_option maxRecDepth 100000 in
set_option maxHeartbeats 16000000 in
theorem rwhole_y (tos id fl pt ttl pr : Int) (a0 a1 a2 a3 a4 a5 a6 a7 : UInt8) (So Sb : Option Addr) (no co nb cb : Nat) (w : World) (hp0 : pt = 0) (hf0 : fl % 2 = 0) : Calls Try.prog 43 #[.agg #[.int .i64 tos, .int .i64 id, .int .i64 fl, .int .i64 pt, .int .i64 ttl, .int .i64 pr, .int .u8 (a0.toNat : Int), .int .u8 (a1.toNat : Int), .int .u8 (a2.toNat : Int), .int .u8 (a3.toNat : Int), .int .u8 (a4.toNat : Int), .int .u8 (a5.toNat : Int), .int .u8 (a6.toNat : Int), .int .u8 (a7.toNat : Int), .slice So no co, .slice Sb nb cb]] w fun e w' => e = .returned (.bool true) ∧ Below w.heap.size w w' := by
  have t0 : (pt == 0) = true := by simpa using hp0
  have ea := and1_i64 fl
  have t1 : (fl % 2 == 0) = true := by simpa using hf0
  clear hf0 hp0
  have bel := Below.refl w.heap.size w
  have hp : (w.alloc (.cells #[.int .i64 tos, .int .i64 id, .int .i64 fl, .int .i64 pt, .int .i64 ttl, .int .i64 pr, .int .u8 (a0.toNat : Int), .int .u8 (a1.toNat : Int), .int .u8 (a2.toNat : Int), .int .u8 (a3.toNat : Int), .int .u8 (a4.toNat : Int), .int .u8 (a5.toNat : Int), .int .u8 (a6.toNat : Int), .int .u8 (a7.toNat : Int), .slice So no co, .slice Sb nb cb] 45)).heap[w.heap.size]? = some (.cells #[.int .i64 tos, .int .i64 id, .int .i64 fl, .int .i64 pt, .int .i64 ttl, .int .i64 pr, .int .u8 (a0.toNat : Int), .int .u8 (a1.toNat : Int), .int .u8 (a2.toNat : Int), .int .u8 (a3.toNat : Int), .int .u8 (a4.toNat : Int), .int .u8 (a5.toNat : Int), .int .u8 (a6.toNat : Int), .int .u8 (a7.toNat : Int), .slice So no co, .slice Sb nb cb] 45 (0, 0)) := by have := heap_alloc_new w (.cells #[.int .i64 tos, .int .i64 id, .int .i64 fl, .int .i64 pt, .int .i64 ttl, .int .i64 pr, .int .u8 (a0.toNat : Int), .int .u8 (a1.toNat : Int), .int .u8 (a2.toNat : Int), .int .u8 (a3.toNat : Int), .int .u8 (a4.toNat : Int), .int .u8 (a5.toNat : Int), .int .u8 (a6.toNat : Int), .int .u8 (a7.toNat : Int), .slice So no co, .slice Sb nb cb] 45); simpa using this
  have zp : w.heap.size < (w.alloc (.cells #[.int .i64 tos, .int .i64 id, .int .i64 fl, .int .i64 pt, .int .i64 ttl, .int .i64 pr, .int .u8 (a0.toNat : Int), .int .u8 (a1.toNat : Int), .int .u8 (a2.toNat : Int), .int .u8 (a3.toNat : Int), .int .u8 (a4.toNat : Int), .int .u8 (a5.toNat : Int), .int .u8 (a6.toNat : Int), .int .u8 (a7.toNat : Int), .slice So no co, .slice Sb nb cb] 45)).heap.size := by simp
  replace bel := bel.alloc bel.size (.cells #[.int .i64 tos, .int .i64 id, .int .i64 fl, .int .i64 pt, .int .i64 ttl, .int .i64 pr, .int .u8 (a0.toNat : Int), .int .u8 (a1.toNat : Int), .int .u8 (a2.toNat : Int), .int .u8 (a3.toNat : Int), .int .u8 (a4.toNat : Int), .int .u8 (a5.toNat : Int), .int .u8 (a6.toNat : Int), .int .u8 (a7.toNat : Int), .slice So no co, .slice Sb nb cb] 45)
  go_enter Try.func43, Try.ntmps43
  have R3 := cell_lit hp 3 _ rfl
  have R7 := cell_lit hp 2 _ rfl
  go_wp2
  go_ret
  exact ⟨rfl, bel⟩
set_option maxRecDepth 100000 in
set_option maxHeartbeats 16000000 in
theorem rwhole_f (tos id fl pt ttl pr : Int) (a0 a1 a2 a3 a4 a5 a6 a7 : UInt8) (So Sb : Option Addr) (no co nb cb : Nat) (w : World) (hp0 : pt = 0) (hf0 : fl % 2 ≠ 0) : Calls Try.prog 43 #[.agg #[.int .i64 tos, .int .i64 id, .int .i64 fl, .int .i64 pt, .int .i64 ttl, .int .i64 pr, .int .u8 (a0.toNat : Int), .int .u8 (a1.toNat : Int), .int .u8 (a2.toNat : Int), .int .u8 (a3.toNat : Int), .int .u8 (a4.toNat : Int), .int .u8 (a5.toNat : Int), .int .u8 (a6.toNat : Int), .int .u8 (a7.toNat : Int), .slice So no co, .slice Sb nb cb]] w fun e w' => e = .returned (.bool false) ∧ Below w.heap.size w w' := by
  have t0 : (pt == 0) = true := by simpa using hp0
  clear hp0
  have ea := and1_i64 fl
  have t1 : (fl % 2 == 0) = false := by simpa using hf0
  clear hf0
  have bel := Below.refl w.heap.size w
  have hp : (w.alloc (.cells #[.int .i64 tos, .int .i64 id, .int .i64 fl, .int .i64 pt, .int .i64 ttl, .int .i64 pr, .int .u8 (a0.toNat : Int), .int .u8 (a1.toNat : Int), .int .u8 (a2.toNat : Int), .int .u8 (a3.toNat : Int), .int .u8 (a4.toNat : Int), .int .u8 (a5.toNat : Int), .int .u8 (a6.toNat : Int), .int .u8 (a7.toNat : Int), .slice So no co, .slice Sb nb cb] 45)).heap[w.heap.size]? = some (.cells #[.int .i64 tos, .int .i64 id, .int .i64 fl, .int .i64 pt, .int .i64 ttl, .int .i64 pr, .int .u8 (a0.toNat : Int), .int .u8 (a1.toNat : Int), .int .u8 (a2.toNat : Int), .int .u8 (a3.toNat : Int), .int .u8 (a4.toNat : Int), .int .u8 (a5.toNat : Int), .int .u8 (a6.toNat : Int), .int .u8 (a7.toNat : Int), .slice So no co, .slice Sb nb cb] 45 (0, 0)) := by have := heap_alloc_new w (.cells #[.int .i64 tos, .int .i64 id, .int .i64 fl, .int .i64 pt, .int .i64 ttl, .int .i64 pr, .int .u8 (a0.toNat : Int), .int .u8 (a1.toNat : Int), .int .u8 (a2.toNat : Int), .int .u8 (a3.toNat : Int), .int .u8 (a4.toNat : Int), .int .u8 (a5.toNat : Int), .int .u8 (a6.toNat : Int), .int .u8 (a7.toNat : Int), .slice So no co, .slice Sb nb cb] 45); simpa using this
  have zp : w.heap.size < (w.alloc (.cells #[.int .i64 tos, .int .i64 id, .int .i64 fl, .int .i64 pt, .int .i64 ttl, .int .i64 pr, .int .u8 (a0.toNat : Int), .int .u8 (a1.toNat : Int), .int .u8 (a2.toNat : Int), .int .u8 (a3.toNat : Int), .int .u8 (a4.toNat : Int), .int .u8 (a5.toNat : Int), .int .u8 (a6.toNat : Int), .int .u8 (a7.toNat : Int), .slice So no co, .slice Sb nb cb] 45)).heap.size := by simp
  replace bel := bel.alloc bel.size (.cells #[.int .i64 tos, .int .i64 id, .int .i64 fl, .int .i64 pt, .int .i64 ttl, .int .i64 pr, .int .u8 (a0.toNat : Int), .int .u8 (a1.toNat : Int), .int .u8 (a2.toNat : Int), .int .u8 (a3.toNat : Int), .int .u8 (a4.toNat : Int), .int .u8 (a5.toNat : Int), .int .u8 (a6.toNat : Int), .int .u8 (a7.toNat : Int), .slice So no co, .slice Sb nb cb] 45)
  go_enter Try.func43, Try.ntmps43
  have R3 := cell_lit hp 3 _ rfl
  have R7 := cell_lit hp 2 _ rfl
  go_wp2
  go_ret
  exact ⟨rfl, bel⟩
set_option maxRecDepth 100000 in
set_option maxHeartbeats 16000000 in
theorem rwhole_p (tos id fl pt ttl pr : Int) (a0 a1 a2 a3 a4 a5 a6 a7 : UInt8) (So Sb : Option Addr) (no co nb cb : Nat) (w : World) (hp0 : pt ≠ 0) : Calls Try.prog 43 #[.agg #[.int .i64 tos, .int .i64 id, .int .i64 fl, .int .i64 pt, .int .i64 ttl, .int .i64 pr, .int .u8 (a0.toNat : Int), .int .u8 (a1.toNat : Int), .int .u8 (a2.toNat : Int), .int .u8 (a3.toNat : Int), .int .u8 (a4.toNat : Int), .int .u8 (a5.toNat : Int), .int .u8 (a6.toNat : Int), .int .u8 (a7.toNat : Int), .slice So no co, .slice Sb nb cb]] w fun e w' => e = .returned (.bool false) ∧ Below w.heap.size w w' := by
  have t0 : (pt == 0) = false := by simpa using hp0
  clear hp0
  have bel := Below.refl w.heap.size w
  have hp : (w.alloc (.cells #[.int .i64 tos, .int .i64 id, .int .i64 fl, .int .i64 pt, .int .i64 ttl, .int .i64 pr, .int .u8 (a0.toNat : Int), .int .u8 (a1.toNat : Int), .int .u8 (a2.toNat : Int), .int .u8 (a3.toNat : Int), .int .u8 (a4.toNat : Int), .int .u8 (a5.toNat : Int), .int .u8 (a6.toNat : Int), .int .u8 (a7.toNat : Int), .slice So no co, .slice Sb nb cb] 45)).heap[w.heap.size]? = some (.cells #[.int .i64 tos, .int .i64 id, .int .i64 fl, .int .i64 pt, .int .i64 ttl, .int .i64 pr, .int .u8 (a0.toNat : Int), .int .u8 (a1.toNat : Int), .int .u8 (a2.toNat : Int), .int .u8 (a3.toNat : Int), .int .u8 (a4.toNat : Int), .int .u8 (a5.toNat : Int), .int .u8 (a6.toNat : Int), .int .u8 (a7.toNat : Int), .slice So no co, .slice Sb nb cb] 45 (0, 0)) := by have := heap_alloc_new w (.cells #[.int .i64 tos, .int .i64 id, .int .i64 fl, .int .i64 pt, .int .i64 ttl, .int .i64 pr, .int .u8 (a0.toNat : Int), .int .u8 (a1.toNat : Int), .int .u8 (a2.toNat : Int), .int .u8 (a3.toNat : Int), .int .u8 (a4.toNat : Int), .int .u8 (a5.toNat : Int), .int .u8 (a6.toNat : Int), .int .u8 (a7.toNat : Int), .slice So no co, .slice Sb nb cb] 45); simpa using this
  have zp : w.heap.size < (w.alloc (.cells #[.int .i64 tos, .int .i64 id, .int .i64 fl, .int .i64 pt, .int .i64 ttl, .int .i64 pr, .int .u8 (a0.toNat : Int), .int .u8 (a1.toNat : Int), .int .u8 (a2.toNat : Int), .int .u8 (a3.toNat : Int), .int .u8 (a4.toNat : Int), .int .u8 (a5.toNat : Int), .int .u8 (a6.toNat : Int), .int .u8 (a7.toNat : Int), .slice So no co, .slice Sb nb cb] 45)).heap.size := by simp
  replace bel := bel.alloc bel.size (.cells #[.int .i64 tos, .int .i64 id, .int .i64 fl, .int .i64 pt, .int .i64 ttl, .int .i64 pr, .int .u8 (a0.toNat : Int), .int .u8 (a1.toNat : Int), .int .u8 (a2.toNat : Int), .int .u8 (a3.toNat : Int), .int .u8 (a4.toNat : Int), .int .u8 (a5.toNat : Int), .int .u8 (a6.toNat : Int), .int .u8 (a7.toNat : Int), .slice So no co, .slice Sb nb cb] 45)
  go_enter Try.func43, Try.ntmps43
  have R3 := cell_lit hp 3 _ rfl
  have R7 := cell_lit hp 2 _ rfl
  go_wp2
  go_ret
  exact ⟨rfl, bel⟩
theorem rwhole_any (tos id fl pt ttl pr : Int) (a0 a1 a2 a3 a4 a5 a6 a7 : UInt8) (So Sb : Option Addr) (no co nb cb : Nat) (w : World) : Calls Try.prog 43 #[.agg #[.int .i64 tos, .int .i64 id, .int .i64 fl, .int .i64 pt, .int .i64 ttl, .int .i64 pr, .int .u8 (a0.toNat : Int), .int .u8 (a1.toNat : Int), .int .u8 (a2.toNat : Int), .int .u8 (a3.toNat : Int), .int .u8 (a4.toNat : Int), .int .u8 (a5.toNat : Int), .int .u8 (a6.toNat : Int), .int .u8 (a7.toNat : Int), .slice So no co, .slice Sb nb cb]] w fun e w' => e = .returned (.bool (decide (pt = 0) && decide (fl % 2 = 0))) ∧ Below w.heap.size w w' := by
  by_cases h : pt = 0
  · by_cases h2 : fl % 2 = 0
    · rw [decide_eq_true h, decide_eq_true h2]; exact rwhole_y tos id fl pt ttl pr a0 a1 a2 a3 a4 a5 a6 a7 So Sb no co nb cb w h h2
    · rw [decide_eq_true h, decide_eq_false h2]; exact rwhole_f tos id fl pt ttl pr a0 a1 a2 a3 a4 a5 a6 a7 So Sb no co nb cb w h h2
  · rw [decide_eq_false h]; exact rwhole_p tos id fl pt ttl pr a0 a1 a2 a3 a4 a5 a6 a7 So Sb no co nb cb w h
set_option maxRecDepth 100000 in
set_option maxHeartbeats 16000000 in
theorem r16_oto (A : Option Addr) (n m c : Nat) (l : List UInt8) (v0 : Int) (w : World) (hm : n + 2 = m) (hl : Sl w A n c l) (hs : n + 2 ≤ 140737488355328) :
    Calls Try.prog 65 #[.slice A n c, .int .i64 v0] w fun e w' => ∃ v, e = .returned v ∧ w'.ownsRow w.heap.size 5 1 v m ((l ++ two v0).map u8v) ∧ Below w.heap.size w w' := by
  subst hm
  obtain ⟨ii, hii, hz0, hz1, hz2⟩ := info_parts Try.info5
  have bel := Below.refl w.heap.size w
  go_enter Try.func65, Try.ntmps65
  go_wp2_with (first | ((with_reducible show wpList _ _ _ (⟨some 5, _, _, _, _, _⟩ :: _) _ _); refine wpList_lit_n rfl 25 5 0 _ rfl #[] (.int .u8 0) Try.underlying25 (by kernel_rfl) 1 (by kernel_rfl) (by decide) (by kernel_rfl) ?_; intro g5 w1 ge lt hh bb; have hl : w1.heap[g5]? = some (.cells (([] : List UInt8).map u8v).toArray 5 (0, 0)) := (by simpa [u8v, byteOf_val] using hh); have e0w := own_lit (B := w.heap.size) ([]) hl ge 0 rfl (by simp [maxLen]); have e0 := (own_sl e0w).1; have e0lo := bel.size; clear hl; have e0ge := ge; have lz_e0 := bb.size; have bl_hl_e0 := hl.bl_new; replace hl := hl.below bb; replace bel := bel.trans (bb.mono bel.size); clear hh lt ge bb) | ((with_reducible show wpList _ _ _ (⟨some 7, _, _, _, _, _⟩ :: _) _ _); refine wpList_append_bb _ rfl (.tmp 5) (.tmp 6) 25 rfl (w.heap.size) 5 ii (.int .u8 0) Try.underlying25 hii hz0 hz1 hz2 rfl _ (0) ([]) rfl e0w (A) (n) (c) (l) rfl hl (by omega) lz_e0 ?_; intro v7 w2 own_ bb; replace hl := hl.under bl_hl_e0 bb; replace bel := bel.trans (bb.mono e0lo); have lz_b1 := Nat.le_trans lz_e0 bb.size; clear bb; clear e0 e0w lz_e0; replace own_ : w2.ownsRow (w.heap.size) 5 1 v7 (n) ((l : List UInt8).map u8v) := (by simpa using own_); obtain ⟨A7, c7, rfl⟩ := own_val own_; have b1w := own_; have b1 := (own_sl own_).1; have fr_b1 := (own_sl own_).2; clear own_) | ((with_reducible show wpList _ _ _ (⟨some 13, _, _, _, _, _⟩ :: _) _ _); refine wpList_lit_n rfl 25 5 2 _ rfl #[.int .u8 (v0 / 256 % 256), .int .u8 (v0 % 256)] (.int .u8 0) Try.underlying25 (by kernel_rfl) 1 (by kernel_rfl) (by decide) (by kernel_rfl) ?_; intro g13 w3 ge lt hh bb; have hl : w3.heap[g13]? = some (.cells (([byteOf (v0 / 256), byteOf v0] : List UInt8).map u8v).toArray 5 (0, 0)) := (by simpa [u8v, byteOf_val] using hh); have tww := own_lit (B := w2.heap.size) ([byteOf (v0 / 256), byteOf v0]) hl ge 2 rfl (by simp [maxLen]); have tw := (own_sl tww).1; have twlo := bel.size; clear hl; have twge := ge; have lz_tw := bb.size; have bl_hl_tw := hl.bl_new; have bl_b1_tw := b1.bl_new; have av_hl_b13 := hl.av_new ge; have av_b1_b13 := b1.av_new ge; have of_b1_b13 := own_new b1w ge; have ob13 := Nat.le_trans bel.size ge; replace hl := hl.below bb; replace b1 := b1.below bb; replace b1w := own_under b1w bb; replace lz_b1 := Nat.le_trans lz_b1 bb.size; replace bel := bel.trans (bb.mono bel.size); have hb13 := hh; clear hh lt ge bb) | ((with_reducible show wpList _ _ _ (⟨some 14, _, _, _, _, _⟩ :: _) _ _); refine wpList_append_bb _ rfl (.tmp 7) (.tmp 13) 25 rfl (w.heap.size) 5 ii (.int .u8 0) Try.underlying25 hii hz0 hz1 hz2 rfl _ (n) (l) rfl b1w (some ⟨g13, 0, none⟩) (2) (2) ([byteOf (v0 / 256), byteOf v0]) rfl tw (by omega) lz_b1 ?_; intro v14 w4 own_ bb; replace hl := hl.under bl_hl_e0 bb; clear tw tww lz_tw; clear hb13; replace bel := bel.trans (bb.mono e0lo); have lz_b2 := Nat.le_trans lz_b1 bb.size; clear bb; clear b1 b1w lz_b1; replace own_ : w4.ownsRow (w.heap.size) 5 1 v14 (n + 2) ((l ++ [byteOf (v0 / 256), byteOf v0] : List UInt8).map u8v) := own_; obtain ⟨A14, c14, rfl⟩ := own_val own_; have b2w := own_; have b2 := (own_sl own_).1; have fr_b2 := (own_sl own_).2; clear own_))
  go_ret
  exact ⟨_, rfl, ownsRow_mono b2w e0lo, bel⟩
end Go.Proofs.Ytfmllopeeiecjaa
