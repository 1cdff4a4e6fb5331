/- The reference's Put. -/
import Derived.Test.YtmljgpefbbifmaaDh4
namespace Go.Proofs.Ytmljgpefbbifmaa
open Go.RowKit

set_option maxRecDepth 100000 in
set_option maxHeartbeats 16000000 in
theorem r16_oto (A : Option Addr) (n m c : Nat) (l : List UInt8) (v0 : Int) (w : World) (hm : n + 2 = m) (hl : Sl w A n c l) (hs : n + 2 ≤ 140737488355328) :
    Calls Try.prog 31 #[.slice A n c, .int .i64 v0] w fun e w' => ∃ v, e = .returned v ∧ w'.ownsRow w.heap.size 5 1 v m ((l ++ two v0).map u8v) ∧ Below w.heap.size w w' := by
  subst hm
  obtain ⟨ii, hii, hz0, hz1, hz2⟩ := info_parts Try.info5
  have bel := Below.refl w.heap.size w
  go_enter Try.func31, Try.ntmps31
  go_wp2_with (first | ((with_reducible show wpList _ _ _ (⟨some 5, _, _, _, _, _⟩ :: _) _ _); refine wpList_lit_n rfl 34 5 0 _ rfl #[] (.int .u8 0) Try.underlying34 (by kernel_rfl) 1 (by kernel_rfl) (by decide) (by kernel_rfl) ?_; intro g5 w1 ge lt hh bb; have hl : w1.heap[g5]? = some (.cells (([] : List UInt8).map u8v).toArray 5 (0, 0)) := (by simpa [u8v, byteOf_val] using hh); have e0w := own_lit (B := w.heap.size) ([]) hl ge 0 rfl (by simp [maxLen]); have e0 := (own_sl e0w).1; have e0lo := bel.size; clear hl; have e0ge := ge; have lz_e0 := bb.size; have bl_hl_e0 := hl.bl_new; replace hl := hl.below bb; replace bel := bel.trans (bb.mono bel.size); clear hh lt ge bb) | ((with_reducible show wpList _ _ _ (⟨some 7, _, _, _, _, _⟩ :: _) _ _); refine wpList_append_bb _ rfl (.tmp 5) (.tmp 6) 34 rfl (w.heap.size) 5 ii (.int .u8 0) Try.underlying34 hii hz0 hz1 hz2 rfl _ (0) ([]) rfl e0w (A) (n) (c) (l) rfl hl (by omega) lz_e0 ?_; intro v7 w2 own_ bb; replace hl := hl.under bl_hl_e0 bb; replace bel := bel.trans (bb.mono e0lo); have lz_b1 := Nat.le_trans lz_e0 bb.size; clear bb; clear e0 e0w lz_e0; replace own_ : w2.ownsRow (w.heap.size) 5 1 v7 (n) ((l : List UInt8).map u8v) := (by simpa using own_); obtain ⟨A7, c7, rfl⟩ := own_val own_; have b1w := own_; have b1 := (own_sl own_).1; have fr_b1 := (own_sl own_).2; clear own_) | ((with_reducible show wpList _ _ _ (⟨some 13, _, _, _, _, _⟩ :: _) _ _); refine wpList_lit_n rfl 34 5 2 _ rfl #[.int .u8 (v0 / 256 % 256), .int .u8 (v0 % 256)] (.int .u8 0) Try.underlying34 (by kernel_rfl) 1 (by kernel_rfl) (by decide) (by kernel_rfl) ?_; intro g13 w3 ge lt hh bb; have hl : w3.heap[g13]? = some (.cells (([byteOf (v0 / 256), byteOf v0] : List UInt8).map u8v).toArray 5 (0, 0)) := (by simpa [u8v, byteOf_val] using hh); have tww := own_lit (B := w2.heap.size) ([byteOf (v0 / 256), byteOf v0]) hl ge 2 rfl (by simp [maxLen]); have tw := (own_sl tww).1; have twlo := bel.size; clear hl; have twge := ge; have lz_tw := bb.size; have bl_hl_tw := hl.bl_new; have bl_b1_tw := b1.bl_new; have av_hl_b13 := hl.av_new ge; have av_b1_b13 := b1.av_new ge; have of_b1_b13 := own_new b1w ge; have ob13 := Nat.le_trans bel.size ge; replace hl := hl.below bb; replace b1 := b1.below bb; replace b1w := own_under b1w bb; replace lz_b1 := Nat.le_trans lz_b1 bb.size; replace bel := bel.trans (bb.mono bel.size); have hb13 := hh; clear hh lt ge bb) | ((with_reducible show wpList _ _ _ (⟨some 14, _, _, _, _, _⟩ :: _) _ _); refine wpList_append_bb _ rfl (.tmp 7) (.tmp 13) 34 rfl (w.heap.size) 5 ii (.int .u8 0) Try.underlying34 hii hz0 hz1 hz2 rfl _ (n) (l) rfl b1w (some ⟨g13, 0, none⟩) (2) (2) ([byteOf (v0 / 256), byteOf v0]) rfl tw (by omega) lz_b1 ?_; intro v14 w4 own_ bb; replace hl := hl.under bl_hl_e0 bb; clear tw tww lz_tw; clear hb13; replace bel := bel.trans (bb.mono e0lo); have lz_b2 := Nat.le_trans lz_b1 bb.size; clear bb; clear b1 b1w lz_b1; replace own_ : w4.ownsRow (w.heap.size) 5 1 v14 (n + 2) ((l ++ [byteOf (v0 / 256), byteOf v0] : List UInt8).map u8v) := own_; obtain ⟨A14, c14, rfl⟩ := own_val own_; have b2w := own_; have b2 := (own_sl own_).1; have fr_b2 := (own_sl own_).2; clear own_))
  go_ret
  exact ⟨_, rfl, ownsRow_mono b2w e0lo, bel⟩
set_option maxRecDepth 100000 in
set_option maxHeartbeats 16000000 in
theorem r32_oto (A : Option Addr) (n m c : Nat) (l : List UInt8) (v0 : Int) (w : World) (h0 : 0 ≤ v0) (h1 : v0 < 4294967296) (hm : n + 4 = m) (hl : Sl w A n c l) (hs : n + 4 ≤ 140737488355328) :
    Calls Try.prog 30 #[.slice A n c, .int .u32 v0] w fun e w' => ∃ v, e = .returned v ∧ w'.ownsRow w.heap.size 5 1 v m ((l ++ four v0).map u8v) ∧ Below w.heap.size w w' := by
  subst hm
  have ha := and_u32 v0 h0 h1
  have x1 : 0 ≤ v0 % 65536 := by omega
  have x2 : v0 % 65536 < 65536 := by omega
  have bel := Below.refl w.heap.size w
  go_enter Try.func30, Try.ntmps30
  go_wp2_with fail
  with_reducible refine (r16_oto _ _ (n + 2) _ _ _ _ rfl hl (by omega)).mono ?_
  rintro e w1 ⟨v, rfl, e1w, b1⟩
  have bl_hl_e1 := hl.bl_new
  have e1lo := bel.size
  have lz_e1 := b1.size
  replace hl := hl.below b1
  replace bel := bel.trans (b1.mono bel.size)
  clear b1
  obtain ⟨Ae1, ce1, rfl⟩ := own_val e1w
  have e1 := (own_sl e1w).1
  have fr_e1 := (own_sl e1w).2
  go_wp2_with fail
  with_reducible refine (r16_oto _ _ (n + 4) _ _ _ _ rfl e1 (by omega)).mono ?_
  rintro e w2 ⟨v, rfl, e2w, b2⟩
  have bl_hl_e2 := hl.bl_new
  have bl_e1_e2 := e1.bl_new
  have e2lo := bel.size
  have lz_e2 := b2.size
  replace hl := hl.below b2
  replace e1 := e1.below b2
  replace e1w := own_under e1w b2
  replace lz_e1 := Nat.le_trans lz_e1 b2.size
  replace bel := bel.trans (b2.mono bel.size)
  clear b2
  obtain ⟨Ae2, ce2, rfl⟩ := own_val e2w
  have e2 := (own_sl e2w).1
  have fr_e2 := (own_sl e2w).2
  go_wp2_with fail
  go_ret
  exact ⟨_, rfl, by rw [← four_two, ← List.append_assoc]; exact ownsRow_mono e2w e2lo, bel⟩
theorem own_out2 {h : Mh} {w : World} {B : Nat} {v : Value} (o : w.ownsRow B 5 1 v 240 (([byteOf h.op, 1, 6, byteOf h.hops] ++ four h.xid ++ two h.secs ++ two h.flags ++ [h.c0, h.c1, h.c2, h.c3] ++ [h.y0, h.y1, h.y2, h.y3] ++ [h.s0, h.s1, h.s2, h.s3] ++ [h.r0, h.r1, h.r2, h.r3] ++ [h.m0, h.m1, h.m2, h.m3, h.m4, h.m5] ++ List.replicate 202 0 ++ [99, 130, 83, 99] : List UInt8).map u8v)) : w.ownsRow B 5 1 v 240 ((headB h).map u8v) := o
theorem up_lo {m v : Int} (h : v < 0) : upB m v = false := by unfold upB; rw [decide_eq_false (by omega), Bool.false_and]
theorem up_hi {m v : Int} (h : m < v) : upB m v = false := by unfold upB; rw [decide_eq_false (p := v ≤ m) (by omega), Bool.and_false]
theorem up_ok {m v : Int} (h0 : 0 ≤ v) (h1 : v ≤ m) : upB m v = true := by unfold upB; rw [decide_eq_true h0, decide_eq_true h1]; rfl
set_option linter.unusedVariables false in
set_option linter.unusedSimpArgs false in
set_option maxRecDepth 100000 in
set_option maxHeartbeats 16000000 in
theorem rput13_any {h : Mh} {A : Option Addr} {n c : Nat} {hs : List Oh} {L : OptL} (w : World) (en : Sle opE 2 w A n c hs) (hbd : Bd w hs L) (hn : n ≤ 100000) (hb : ∀ x ∈ hs, x.n ≤ 100000) (h0 : 0 ≤ h.xid) (h1 : h.xid < 4294967296) : Calls Try.prog 15 #[.agg #[.int .i64 h.op, .int .i64 h.hops, .int .u32 h.xid, .int .i64 h.secs, .int .i64 h.flags, .int .u8 (h.c0.toNat : Int), .int .u8 (h.c1.toNat : Int), .int .u8 (h.c2.toNat : Int), .int .u8 (h.c3.toNat : Int), .int .u8 (h.y0.toNat : Int), .int .u8 (h.y1.toNat : Int), .int .u8 (h.y2.toNat : Int), .int .u8 (h.y3.toNat : Int), .int .u8 (h.s0.toNat : Int), .int .u8 (h.s1.toNat : Int), .int .u8 (h.s2.toNat : Int), .int .u8 (h.s3.toNat : Int), .int .u8 (h.r0.toNat : Int), .int .u8 (h.r1.toNat : Int), .int .u8 (h.r2.toNat : Int), .int .u8 (h.r3.toNat : Int), .int .u8 (h.m0.toNat : Int), .int .u8 (h.m1.toNat : Int), .int .u8 (h.m2.toNat : Int), .int .u8 (h.m3.toNat : Int), .int .u8 (h.m4.toNat : Int), .int .u8 (h.m5.toNat : Int), .slice A n c]] w fun e w' => ∃ A' n' c', e = .returned (.tuple #[.slice A' n' c', .int .i64 (dPut h L).2]) ∧ Sl w' A' n' c' (dPut h L).1 ∧ Below w.heap.size w w' := by
  have HBD := Lib.hid hbd
  have HB := Lib.hid hb
  clear hbd hb
  obtain ⟨tt, htt⟩ : ∃ x, typeL L = x := ⟨_, rfl⟩
  obtain ⟨er, her⟩ : ∃ x, (putL L).2 = x := ⟨_, rfl⟩
  obtain ⟨nb, hnb⟩ : ∃ b, (!(okM h) || decide (typeL L = 0)) = b := ⟨_, rfl⟩
  have HTT := Lib.hid htt
  have HTY := Lib.hid htt
  have HER := Lib.hid her
  have HER2 := Lib.hid her
  have HNB := Lib.hid hnb
  clear htt her hnb
  obtain ⟨ii, hii, hz0, hz1, hz2⟩ := info_parts Try.info_u8
  have bel := Below.refl w.heap.size w
  go_enter Try.func15, Try.ntmps15
  go_upto_region 1 with (first | ((with_reducible show wpList _ _ _ (⟨some 1, _, _, _, _, _⟩ :: _) _ _); refine wpList_box_n rfl 42 (.tmp 0) rfl #[.int .i64 h.op, .int .i64 h.hops, .int .u32 h.xid, .int .i64 h.secs, .int .i64 h.flags, .int .u8 (h.c0.toNat : Int), .int .u8 (h.c1.toNat : Int), .int .u8 (h.c2.toNat : Int), .int .u8 (h.c3.toNat : Int), .int .u8 (h.y0.toNat : Int), .int .u8 (h.y1.toNat : Int), .int .u8 (h.y2.toNat : Int), .int .u8 (h.y3.toNat : Int), .int .u8 (h.s0.toNat : Int), .int .u8 (h.s1.toNat : Int), .int .u8 (h.s2.toNat : Int), .int .u8 (h.s3.toNat : Int), .int .u8 (h.r0.toNat : Int), .int .u8 (h.r1.toNat : Int), .int .u8 (h.r2.toNat : Int), .int .u8 (h.r3.toNat : Int), .int .u8 (h.m0.toNat : Int), .int .u8 (h.m1.toNat : Int), .int .u8 (h.m2.toNat : Int), .int .u8 (h.m3.toNat : Int), .int .u8 (h.m4.toNat : Int), .int .u8 (h.m5.toNat : Int), .slice A n c] rfl ?_; intro g1 w1 ge lt hh bb; have av_en_p := en.av_new ge; have op := Nat.le_trans bel.size ge; replace en := en.below bb; replace bel := bel.trans (bb.mono bel.size); have hp := hh; clear hh lt ge bb))
  go_cut [49] from 9999 (fun s49 W => s49 = .bool nb ∧ W.heap[g1]? = some (.cells #[.int .i64 h.op, .int .i64 h.hops, .int .u32 h.xid, .int .i64 h.secs, .int .i64 h.flags, .int .u8 (h.c0.toNat : Int), .int .u8 (h.c1.toNat : Int), .int .u8 (h.c2.toNat : Int), .int .u8 (h.c3.toNat : Int), .int .u8 (h.y0.toNat : Int), .int .u8 (h.y1.toNat : Int), .int .u8 (h.y2.toNat : Int), .int .u8 (h.y3.toNat : Int), .int .u8 (h.s0.toNat : Int), .int .u8 (h.s1.toNat : Int), .int .u8 (h.s2.toNat : Int), .int .u8 (h.s3.toNat : Int), .int .u8 (h.r0.toNat : Int), .int .u8 (h.r1.toNat : Int), .int .u8 (h.r2.toNat : Int), .int .u8 (h.r3.toNat : Int), .int .u8 (h.m0.toNat : Int), .int .u8 (h.m1.toNat : Int), .int .u8 (h.m2.toNat : Int), .int .u8 (h.m3.toNat : Int), .int .u8 (h.m4.toNat : Int), .int .u8 (h.m5.toNat : Int), .slice A n c] 42 (0, 0)) ∧ Sle opE 2 W (A) (n) (c) (hs) ∧ Below w.heap.size w W)
  case first =>
    by_cases a1 : h.op = 1
    · have e1 : (h.op == 1) = true := beq_iff_eq.2 a1
      have e1n : (h.op != 1) = false := by rw [bne, e1]; rfl
      have hio : isOp h.op = true := by unfold isOp; rw [decide_eq_true a1]; rfl
      clear a1
      by_cases lo3 : h.hops < 0
      · have HU3 := up_lo (m := 255) lo3
        have HB0 : Hid (okM h = false) := Lib.hid (by unfold okM; rw [HU3]; simp)
        clear HU3
        have R8 := cell_lit hp 0 _ rfl
        have R17 := cell_lit hp 1 _ rfl
        go_wp2_with fail
        clear R8 R17
        go_meet
        case rel => exact ⟨by rw [← HNB.out, HB0.out]; rfl, hp, en, bel⟩
      have nl3 : decide (h.hops < 0) = false := decide_eq_false lo3
      by_cases hi3 : 255 < h.hops
      · have HU3 := up_hi hi3
        have HB0 : Hid (okM h = false) := Lib.hid (by unfold okM; rw [HU3]; simp)
        clear HU3
        have R8 := cell_lit hp 0 _ rfl
        have R17 := cell_lit hp 1 _ rfl
        have R22 := cell_lit hp 1 _ rfl
        go_wp2_with fail
        clear R8 R17 R22
        go_meet
        case rel => exact ⟨by rw [← HNB.out, HB0.out]; rfl, hp, en, bel⟩
      have nh3 : decide (255 < h.hops) = false := decide_eq_false hi3
      have HU3 : upB 255 h.hops = true := up_ok (by omega) (by omega)
      by_cases lo2 : h.secs < 0
      · have HU2 := up_lo (m := 65535) lo2
        have HB0 : Hid (okM h = false) := Lib.hid (by unfold okM; rw [HU2]; simp)
        clear HU2
        have R8 := cell_lit hp 0 _ rfl
        have R17 := cell_lit hp 1 _ rfl
        have R22 := cell_lit hp 1 _ rfl
        have R27 := cell_lit hp 3 _ rfl
        go_wp2_with fail
        clear R8 R17 R22 R27
        go_meet
        case rel => exact ⟨by rw [← HNB.out, HB0.out]; rfl, hp, en, bel⟩
      have nl2 : decide (h.secs < 0) = false := decide_eq_false lo2
      by_cases hi2 : 65535 < h.secs
      · have HU2 := up_hi hi2
        have HB0 : Hid (okM h = false) := Lib.hid (by unfold okM; rw [HU2]; simp)
        clear HU2
        have R8 := cell_lit hp 0 _ rfl
        have R17 := cell_lit hp 1 _ rfl
        have R22 := cell_lit hp 1 _ rfl
        have R27 := cell_lit hp 3 _ rfl
        have R32 := cell_lit hp 3 _ rfl
        go_wp2_with fail
        clear R8 R17 R22 R27 R32
        go_meet
        case rel => exact ⟨by rw [← HNB.out, HB0.out]; rfl, hp, en, bel⟩
      have nh2 : decide (65535 < h.secs) = false := decide_eq_false hi2
      have HU2 : upB 65535 h.secs = true := up_ok (by omega) (by omega)
      by_cases lo1 : h.flags < 0
      · have HU1 := up_lo (m := 65535) lo1
        have HB0 : Hid (okM h = false) := Lib.hid (by unfold okM; rw [HU1]; simp)
        clear HU1
        have R8 := cell_lit hp 0 _ rfl
        have R17 := cell_lit hp 1 _ rfl
        have R22 := cell_lit hp 1 _ rfl
        have R27 := cell_lit hp 3 _ rfl
        have R32 := cell_lit hp 3 _ rfl
        have R37 := cell_lit hp 4 _ rfl
        go_wp2_with fail
        clear R8 R17 R22 R27 R32 R37
        go_meet
        case rel => exact ⟨by rw [← HNB.out, HB0.out]; rfl, hp, en, bel⟩
      have nl1 : decide (h.flags < 0) = false := decide_eq_false lo1
      by_cases hi1 : 65535 < h.flags
      · have HU1 := up_hi hi1
        have HB0 : Hid (okM h = false) := Lib.hid (by unfold okM; rw [HU1]; simp)
        clear HU1
        have R8 := cell_lit hp 0 _ rfl
        have R17 := cell_lit hp 1 _ rfl
        have R22 := cell_lit hp 1 _ rfl
        have R27 := cell_lit hp 3 _ rfl
        have R32 := cell_lit hp 3 _ rfl
        have R37 := cell_lit hp 4 _ rfl
        have R42 := cell_lit hp 4 _ rfl
        go_wp2_with fail
        clear R8 R17 R22 R27 R32 R37 R42
        go_meet
        case rel => exact ⟨by rw [← HNB.out, HB0.out]; rfl, hp, en, bel⟩
      have nh1 : decide (65535 < h.flags) = false := decide_eq_false hi1
      have HU1 : upB 65535 h.flags = true := up_ok (by omega) (by omega)
      have R8 := cell_lit hp 0 _ rfl
      have R17 := cell_lit hp 1 _ rfl
      have R22 := cell_lit hp 1 _ rfl
      have R27 := cell_lit hp 3 _ rfl
      have R32 := cell_lit hp 3 _ rfl
      have R37 := cell_lit hp 4 _ rfl
      have R42 := cell_lit hp 4 _ rfl
      have R46 := Lib.hid (range_lit hp 0 28 [.int .i64 h.op, .int .i64 h.hops, .int .u32 h.xid, .int .i64 h.secs, .int .i64 h.flags, .int .u8 (h.c0.toNat : Int), .int .u8 (h.c1.toNat : Int), .int .u8 (h.c2.toNat : Int), .int .u8 (h.c3.toNat : Int), .int .u8 (h.y0.toNat : Int), .int .u8 (h.y1.toNat : Int), .int .u8 (h.y2.toNat : Int), .int .u8 (h.y3.toNat : Int), .int .u8 (h.s0.toNat : Int), .int .u8 (h.s1.toNat : Int), .int .u8 (h.s2.toNat : Int), .int .u8 (h.s3.toNat : Int), .int .u8 (h.r0.toNat : Int), .int .u8 (h.r1.toNat : Int), .int .u8 (h.r2.toNat : Int), .int .u8 (h.r3.toNat : Int), .int .u8 (h.m0.toNat : Int), .int .u8 (h.m1.toNat : Int), .int .u8 (h.m2.toNat : Int), .int .u8 (h.m3.toNat : Int), .int .u8 (h.m4.toNat : Int), .int .u8 (h.m5.toNat : Int), .slice A n c] rfl)
      go_wp2_with (first | ((with_reducible show wpList _ _ _ (⟨some 46, _, _, _, _, _⟩ :: _) _ _); refine wpList_load_rng 42 (.tmp 1) rfl (by kernel_rfl) _ _ rfl _ R46.out _ Try.underlying42 rfl (by kernel_rfl) ?_))
      try clear R8
      try clear R17
      try clear R22
      try clear R27
      try clear R32
      try clear R37
      try clear R42
      try clear R46
      with_reducible refine (rtype_any (h := h) _ en (HBD.out.below bel) hn).mono ?_
      rintro e w2 ⟨rfl, b2⟩
      replace hp := blk_u hp b2
      replace en := en.below b2
      replace bel := bel.trans (b2.mono bel.size)
      clear b2
      rw [HTT.out]
      by_cases ht : tt = 0
      · have e0 : ((tt : Int) == 0) = true := by rw [ht]; rfl
        have HB0 : Hid ((!(okM h) || decide (typeL L = 0)) = true) := Lib.hid (by rw [HTY.out, decide_eq_true ht, Bool.or_true])
        clear ht
        go_wp2_with fail
        go_meet
        case rel => exact ⟨by rw [← HNB.out, HB0.out], hp, en, bel⟩
      have e0 : ((tt : Int) == 0) = false := beq_eq_false_iff_ne.2 (by omega)
      have HB0 : Hid ((!(okM h) || decide (typeL L = 0)) = false) := Lib.hid (by rw [HTY.out, decide_eq_false ht]; unfold okM; rw [hio, HU3, HU2, HU1]; rfl)
      clear ht
      go_wp2_with fail
      go_meet
      case rel => exact ⟨by rw [← HNB.out, HB0.out], hp, en, bel⟩
    have e1 : (h.op == 1) = false := beq_eq_false_iff_ne.2 a1
    have e1n : (h.op != 1) = true := by rw [bne, e1]; rfl
    by_cases a2 : h.op = 2
    rotate_left
    · have e2 : (h.op == 2) = false := beq_eq_false_iff_ne.2 a2
      have e2n : (h.op != 2) = true := by rw [bne, e2]; rfl
      have hio : isOp h.op = false := by unfold isOp; rw [decide_eq_false a1, decide_eq_false a2]; rfl
      have HB0 : Hid (okM h = false) := Lib.hid (by unfold okM; rw [hio]; simp)
      clear a1 a2 hio
      have R8 := cell_lit hp 0 _ rfl
      have R12 := cell_lit hp 0 _ rfl
      go_wp2_with fail
      clear R8 R12
      go_meet
      case rel => exact ⟨by rw [← HNB.out, HB0.out]; rfl, hp, en, bel⟩
    have e2 : (h.op == 2) = true := beq_iff_eq.2 a2
    have e2n : (h.op != 2) = false := by rw [bne, e2]; rfl
    have hio : isOp h.op = true := by unfold isOp; rw [decide_eq_true a2, Bool.or_true]
    clear a1 a2
    by_cases lo3 : h.hops < 0
    · have HU3 := up_lo (m := 255) lo3
      have HB0 : Hid (okM h = false) := Lib.hid (by unfold okM; rw [HU3]; simp)
      clear HU3
      have R8 := cell_lit hp 0 _ rfl
      have R12 := cell_lit hp 0 _ rfl
      have R17 := cell_lit hp 1 _ rfl
      go_wp2_with fail
      clear R8 R12 R17
      go_meet
      case rel => exact ⟨by rw [← HNB.out, HB0.out]; rfl, hp, en, bel⟩
    have nl3 : decide (h.hops < 0) = false := decide_eq_false lo3
    by_cases hi3 : 255 < h.hops
    · have HU3 := up_hi hi3
      have HB0 : Hid (okM h = false) := Lib.hid (by unfold okM; rw [HU3]; simp)
      clear HU3
      have R8 := cell_lit hp 0 _ rfl
      have R12 := cell_lit hp 0 _ rfl
      have R17 := cell_lit hp 1 _ rfl
      have R22 := cell_lit hp 1 _ rfl
      go_wp2_with fail
      clear R8 R12 R17 R22
      go_meet
      case rel => exact ⟨by rw [← HNB.out, HB0.out]; rfl, hp, en, bel⟩
    have nh3 : decide (255 < h.hops) = false := decide_eq_false hi3
    have HU3 : upB 255 h.hops = true := up_ok (by omega) (by omega)
    by_cases lo2 : h.secs < 0
    · have HU2 := up_lo (m := 65535) lo2
      have HB0 : Hid (okM h = false) := Lib.hid (by unfold okM; rw [HU2]; simp)
      clear HU2
      have R8 := cell_lit hp 0 _ rfl
      have R12 := cell_lit hp 0 _ rfl
      have R17 := cell_lit hp 1 _ rfl
      have R22 := cell_lit hp 1 _ rfl
      have R27 := cell_lit hp 3 _ rfl
      go_wp2_with fail
      clear R8 R12 R17 R22 R27
      go_meet
      case rel => exact ⟨by rw [← HNB.out, HB0.out]; rfl, hp, en, bel⟩
    have nl2 : decide (h.secs < 0) = false := decide_eq_false lo2
    by_cases hi2 : 65535 < h.secs
    · have HU2 := up_hi hi2
      have HB0 : Hid (okM h = false) := Lib.hid (by unfold okM; rw [HU2]; simp)
      clear HU2
      have R8 := cell_lit hp 0 _ rfl
      have R12 := cell_lit hp 0 _ rfl
      have R17 := cell_lit hp 1 _ rfl
      have R22 := cell_lit hp 1 _ rfl
      have R27 := cell_lit hp 3 _ rfl
      have R32 := cell_lit hp 3 _ rfl
      go_wp2_with fail
      clear R8 R12 R17 R22 R27 R32
      go_meet
      case rel => exact ⟨by rw [← HNB.out, HB0.out]; rfl, hp, en, bel⟩
    have nh2 : decide (65535 < h.secs) = false := decide_eq_false hi2
    have HU2 : upB 65535 h.secs = true := up_ok (by omega) (by omega)
    by_cases lo1 : h.flags < 0
    · have HU1 := up_lo (m := 65535) lo1
      have HB0 : Hid (okM h = false) := Lib.hid (by unfold okM; rw [HU1]; simp)
      clear HU1
      have R8 := cell_lit hp 0 _ rfl
      have R12 := cell_lit hp 0 _ rfl
      have R17 := cell_lit hp 1 _ rfl
      have R22 := cell_lit hp 1 _ rfl
      have R27 := cell_lit hp 3 _ rfl
      have R32 := cell_lit hp 3 _ rfl
      have R37 := cell_lit hp 4 _ rfl
      go_wp2_with fail
      clear R8 R12 R17 R22 R27 R32 R37
      go_meet
      case rel => exact ⟨by rw [← HNB.out, HB0.out]; rfl, hp, en, bel⟩
    have nl1 : decide (h.flags < 0) = false := decide_eq_false lo1
    by_cases hi1 : 65535 < h.flags
    · have HU1 := up_hi hi1
      have HB0 : Hid (okM h = false) := Lib.hid (by unfold okM; rw [HU1]; simp)
      clear HU1
      have R8 := cell_lit hp 0 _ rfl
      have R12 := cell_lit hp 0 _ rfl
      have R17 := cell_lit hp 1 _ rfl
      have R22 := cell_lit hp 1 _ rfl
      have R27 := cell_lit hp 3 _ rfl
      have R32 := cell_lit hp 3 _ rfl
      have R37 := cell_lit hp 4 _ rfl
      have R42 := cell_lit hp 4 _ rfl
      go_wp2_with fail
      clear R8 R12 R17 R22 R27 R32 R37 R42
      go_meet
      case rel => exact ⟨by rw [← HNB.out, HB0.out]; rfl, hp, en, bel⟩
    have nh1 : decide (65535 < h.flags) = false := decide_eq_false hi1
    have HU1 : upB 65535 h.flags = true := up_ok (by omega) (by omega)
    have R8 := cell_lit hp 0 _ rfl
    have R12 := cell_lit hp 0 _ rfl
    have R17 := cell_lit hp 1 _ rfl
    have R22 := cell_lit hp 1 _ rfl
    have R27 := cell_lit hp 3 _ rfl
    have R32 := cell_lit hp 3 _ rfl
    have R37 := cell_lit hp 4 _ rfl
    have R42 := cell_lit hp 4 _ rfl
    have R46 := Lib.hid (range_lit hp 0 28 [.int .i64 h.op, .int .i64 h.hops, .int .u32 h.xid, .int .i64 h.secs, .int .i64 h.flags, .int .u8 (h.c0.toNat : Int), .int .u8 (h.c1.toNat : Int), .int .u8 (h.c2.toNat : Int), .int .u8 (h.c3.toNat : Int), .int .u8 (h.y0.toNat : Int), .int .u8 (h.y1.toNat : Int), .int .u8 (h.y2.toNat : Int), .int .u8 (h.y3.toNat : Int), .int .u8 (h.s0.toNat : Int), .int .u8 (h.s1.toNat : Int), .int .u8 (h.s2.toNat : Int), .int .u8 (h.s3.toNat : Int), .int .u8 (h.r0.toNat : Int), .int .u8 (h.r1.toNat : Int), .int .u8 (h.r2.toNat : Int), .int .u8 (h.r3.toNat : Int), .int .u8 (h.m0.toNat : Int), .int .u8 (h.m1.toNat : Int), .int .u8 (h.m2.toNat : Int), .int .u8 (h.m3.toNat : Int), .int .u8 (h.m4.toNat : Int), .int .u8 (h.m5.toNat : Int), .slice A n c] rfl)
    go_wp2_with (first | ((with_reducible show wpList _ _ _ (⟨some 46, _, _, _, _, _⟩ :: _) _ _); refine wpList_load_rng 42 (.tmp 1) rfl (by kernel_rfl) _ _ rfl _ R46.out _ Try.underlying42 rfl (by kernel_rfl) ?_))
    try clear R8
    try clear R12
    try clear R17
    try clear R22
    try clear R27
    try clear R32
    try clear R37
    try clear R42
    try clear R46
    with_reducible refine (rtype_any (h := h) _ en (HBD.out.below bel) hn).mono ?_
    rintro e w2 ⟨rfl, b2⟩
    replace hp := blk_u hp b2
    replace en := en.below b2
    replace bel := bel.trans (b2.mono bel.size)
    clear b2
    rw [HTT.out]
    by_cases ht : tt = 0
    · have e0 : ((tt : Int) == 0) = true := by rw [ht]; rfl
      have HB0 : Hid ((!(okM h) || decide (typeL L = 0)) = true) := Lib.hid (by rw [HTY.out, decide_eq_true ht, Bool.or_true])
      clear ht
      go_wp2_with fail
      go_meet
      case rel => exact ⟨by rw [← HNB.out, HB0.out], hp, en, bel⟩
    have e0 : ((tt : Int) == 0) = false := beq_eq_false_iff_ne.2 (by omega)
    have HB0 : Hid ((!(okM h) || decide (typeL L = 0)) = false) := Lib.hid (by rw [HTY.out, decide_eq_false ht]; unfold okM; rw [hio, HU3, HU2, HU1]; rfl)
    clear ht
    go_wp2_with fail
    go_meet
    case rel => exact ⟨by rw [← HNB.out, HB0.out], hp, en, bel⟩
  clear hp en bel
  obtain ⟨w53, hw_⟩ : ∃ x, x = wc := ⟨_, rfl⟩
  subst hw_
  obtain ⟨rfl, hp, en, bel⟩ := hcut
  rcases nb with _ | _
  rotate_left
  · have HP : Hid (dPut h L = ([], 1)) := Lib.hid (dput_bad (by have h_ := HNB.out; rw [Bool.or_eq_true] at h_; rcases h_ with h_ | h_; exact .inl (by simpa using h_); exact .inr (by simpa using h_)))
    go_wp2_with fail
    exact bodyPost_ret (v := .tuple #[.slice none 0 0, .int .i64 1]) (by simp [results, Try.results15, go_sem]) rfl ⟨none, 0, 0, by rw [HP.out], by rw [HP.out]; exact Sl.nil _, bel⟩
  have hb_ := HNB.out
  rw [Bool.or_eq_false_iff] at hb_
  have HOK : Hid (okM h = true) := Lib.hid (by have h_ := hb_.1; simpa using h_)
  have HTN : Hid (¬ tt = 0) := Lib.hid (by have h_ := hb_.2; rw [HTY.out] at h_; simpa using h_)
  clear hb_
  have R52 := cell_lit hp 27 _ rfl
  go_wp2_with fail
  clear R52
  with_reducible refine (rput12_any _ en (HBD.out.below bel) hn HB.out).mono ?_
  rintro e w54 ⟨A4, np, c4, rfl, pb, b54⟩
  replace hp := blk_u hp b54
  replace en := en.below b54
  replace bel := bel.trans (b54.mono bel.size)
  clear b54
  replace pb : Sl w54 (A4) (np) (c4) ((putL L).1) := pb
  rw [HER.out]
  by_cases he : er = 0
  rotate_left
  · have e1 : (er != 0) = true := by rw [bne, beq_eq_false_iff_ne.2 he]; rfl
    have HP : Hid (dPut h L = ([], er)) := Lib.hid (by rw [dput_no HOK.out (by rw [HTY.out]; exact HTN.out) (by rw [HER2.out]; exact he), HER2.out])
    clear he
    go_wp2_with fail
    exact bodyPost_ret (v := .tuple #[.slice none 0 0, .int .i64 er]) (by simp [results, Try.results15, go_sem]) rfl ⟨none, 0, 0, by rw [HP.out], by rw [HP.out]; exact Sl.nil _, bel⟩
  obtain ⟨m, hm⟩ : ∃ m, 240 + np = m := ⟨_, rfl⟩
  have hpl := pb.1
  have hpl2 := put_len L
  have hm9 : m ≤ 2000 := by omega
  have HMM := Lib.hid hm
  have m0 : (0 : Int) ≤ m := by omega
  have m1 : (m : Int) ≤ 2000 := by omega
  have e1 : (er != 0) = false := by rw [he]; rfl
  have HE0 := Lib.hid he
  clear he
  by_cases hm3 : m < 300
  rotate_left
  · have hk : 60 - (putL L).1.length = 0 := by omega
    have hm3i : decide ((m : Int) < 300) = false := decide_eq_false (by omega)
    have HP : Hid (dPut h L = (headB h ++ (putL L).1, 0)) := Lib.hid (by rw [dput_ok HOK.out (by rw [HTY.out]; exact HTN.out) (by rw [HER2.out]; exact HE0.out), hk]; exact congrArg (fun x => (x, (0 : Int))) (List.append_nil _))
    clear hm3 hk hm hpl hpl2 hm9
    have R60 := cell_lit hp 0 _ rfl
    have R63 := cell_lit hp 1 _ rfl
    go_wp2_with (first | ((with_reducible show wpList _ _ _ (⟨some 65, _, _, _, _, _⟩ :: _) _ _); refine wpList_lit_n rfl 34 5 4 _ rfl #[.int .u8 (h.op % 256), .int .u8 1, .int .u8 6, .int .u8 (h.hops % 256)] (.int .u8 0) Try.underlying34 (by kernel_rfl) 1 (by kernel_rfl) (by decide) (by kernel_rfl) ?_; intro g65 w55 ge lt hh bb; have hl : w55.heap[g65]? = some (.cells (([byteOf h.op, 1, 6, byteOf h.hops] : List UInt8).map u8v).toArray 5 (0, 0)) := (by simpa [u8v, byteOf_val] using hh); have s0w := own_lit (B := w54.heap.size) ([byteOf h.op, 1, 6, byteOf h.hops]) hl ge 4 rfl (by simp [maxLen]); have s0 := (own_sl s0w).1; have s0lo := bel.size; clear hl; have s0ge := ge; have lz_s0 := bb.size; have y_s0_p := Lib.hid (hlt hp); have bl_en_s0 := en.bl_new; have bl_pb_s0 := pb.bl_new; have d_p_b65 := ne_new (hlt hp) ge; have av_en_b65 := en.av_new ge; have av_pb_b65 := pb.av_new ge; have ob65 := Nat.le_trans bel.size ge; replace hp := blk_u hp bb; replace en := en.below bb; replace pb := pb.below bb; replace bel := bel.trans (bb.mono bel.size); have hb65 := hh; clear hh lt ge bb; have av_s0_p := (own_sl s0w).2.av y_s0_p.out; have R67 := cell_lit hp 2 _ rfl))
    try clear R60
    try clear R63
    try clear R67
    with_reducible refine (r32_oto _ 4 8 _ _ _ _ h0 h1 rfl s0 (by omega)).mono ?_
    rintro e w56 ⟨vsa, rfl, saw, b56⟩
    have y_sa_p := Lib.hid (hlt hp)
    have y_sa_b65 := Lib.hid (hlt hb65)
    have bl_en_sa := en.bl_new
    have bl_pb_sa := pb.bl_new
    have bl_s0_sa := s0.bl_new
    have salo := bel.size
    have lz_sa := b56.size
    replace hp := blk_u hp b56
    replace hb65 := blk_u hb65 b56
    replace en := en.below b56
    replace pb := pb.below b56
    replace s0 := s0.below b56
    replace s0w := own_under s0w b56
    replace lz_s0 := Nat.le_trans lz_s0 b56.size
    replace bel := bel.trans (b56.mono bel.size)
    clear b56
    obtain ⟨Asa, csa, rfl⟩ := own_val saw
    have sa := (own_sl saw).1
    have fr_sa := (own_sl saw).2
    have av_sa_p := fr_sa.av y_sa_p.out
    have av_sa_b65 := fr_sa.av y_sa_b65.out
    go_wp2_with fail
    replace bel := bel.drew
    replace hp : w56.drew.heap[g1]? = _ := hp
    replace hb65 : w56.drew.heap[g65]? = _ := hb65
    replace en := en.drew
    replace pb := pb.drew
    replace s0 := s0.drew
    replace s0w : w56.drew.ownsRow _ _ _ _ _ _ := s0w
    replace lz_s0 : _ ≤ w56.drew.heap.size := lz_s0
    replace sa := sa.drew
    replace saw : w56.drew.ownsRow _ _ _ _ _ _ := saw
    replace lz_sa : _ ≤ w56.drew.heap.size := lz_sa
    refine wp_region_held_drew (S := fun W => W.heap[g1]? = some (.cells #[.int .i64 h.op, .int .i64 h.hops, .int .u32 h.xid, .int .i64 h.secs, .int .i64 h.flags, .int .u8 (h.c0.toNat : Int), .int .u8 (h.c1.toNat : Int), .int .u8 (h.c2.toNat : Int), .int .u8 (h.c3.toNat : Int), .int .u8 (h.y0.toNat : Int), .int .u8 (h.y1.toNat : Int), .int .u8 (h.y2.toNat : Int), .int .u8 (h.y3.toNat : Int), .int .u8 (h.s0.toNat : Int), .int .u8 (h.s1.toNat : Int), .int .u8 (h.s2.toNat : Int), .int .u8 (h.s3.toNat : Int), .int .u8 (h.r0.toNat : Int), .int .u8 (h.r1.toNat : Int), .int .u8 (h.r2.toNat : Int), .int .u8 (h.r3.toNat : Int), .int .u8 (h.m0.toNat : Int), .int .u8 (h.m1.toNat : Int), .int .u8 (h.m2.toNat : Int), .int .u8 (h.m3.toNat : Int), .int .u8 (h.m4.toNat : Int), .int .u8 (h.m5.toNat : Int), .slice A n c] 42 (0, 0))) (by kernel_rfl) hp (fun hH => ?_)
    generalize w56.drew = w57 at bel hp hb65 en pb s0 sa s0w saw lz_s0 lz_sa hH ⊢
    refine wpAnyH_take (i := 0) (v := ?_) rfl (by kernel_rfl) (by kernel_rfl) (by kernel_rfl) (fun _ _ _ h => h) (Or.inl ⟨by rfl, ?_⟩) hH ?_
    rotate_left
    · ((intro W hW; clear hW; go_simp) <;> with_reducible rfl)
    simp only [Act.put, List.getElem_toArray, List.getElem_cons_zero, List.setIfInBounds_toArray, List.set_cons_zero, List.set_cons_succ]
    refine wpAnyH_take (i := 1) (v := ?_) rfl (by kernel_rfl) (by kernel_rfl) (by kernel_rfl) (fun _ _ _ h => h) (Or.inl ⟨by rfl, ?_⟩) hH ?_
    rotate_left
    · ((intro W hW; clear hW; go_simp) <;> with_reducible rfl)
    simp only [Act.put, List.getElem_toArray, List.getElem_cons_zero, List.getElem_cons_succ, List.setIfInBounds_toArray, List.set_cons_zero, List.set_cons_succ]
    refine wpAnyH_take (i := 2) (v := ?_) rfl (by kernel_rfl) (by kernel_rfl) (by kernel_rfl) (fun _ _ _ h => h) (Or.inl ⟨by rfl, ?_⟩) hH ?_
    rotate_left
    · ((intro W hW; have hk := cell_lit (hW) 3 _ rfl; clear hW; go_simp) <;> with_reducible rfl)
    simp only [Act.put, List.getElem_toArray, List.getElem_cons_zero, List.getElem_cons_succ, List.setIfInBounds_toArray, List.set_cons_zero, List.set_cons_succ]
    refine wpAnyH_take (i := 4) (v := ?_) rfl (by kernel_rfl) (by kernel_rfl) (by kernel_rfl) (fun _ _ _ h => h) (Or.inl ⟨by rfl, ?_⟩) hH ?_
    rotate_left
    · ((intro W hW; clear hW; go_simp) <;> with_reducible rfl)
    simp only [Act.put, List.getElem_toArray, List.getElem_cons_zero, List.getElem_cons_succ, List.setIfInBounds_toArray, List.set_cons_zero, List.set_cons_succ]
    refine wpAnyH_take (i := 5) (v := ?_) rfl (by kernel_rfl) (by kernel_rfl) (by kernel_rfl) (fun _ _ _ h => h) (Or.inl ⟨by rfl, ?_⟩) hH ?_
    rotate_left
    · ((intro W hW; have hk := cell_lit (hW) 4 _ rfl; clear hW; go_simp) <;> with_reducible rfl)
    simp only [Act.put, List.getElem_toArray, List.getElem_cons_zero, List.getElem_cons_succ, List.setIfInBounds_toArray, List.set_cons_zero, List.set_cons_succ]
    refine wpAnyH_ready (rs := [3]) (by kernel_rfl) (by simp) ?_
    refine AllReadyH.cons (o := _) rfl (fun K hK => ?_) AllReadyH.nil
    simp only [List.getElem_toArray, List.getElem_cons_zero, List.getElem_cons_succ]
    go_simp
    with_reducible refine (r16_oto _ 8 10 _ _ _ _ rfl sa (by omega)).mono ?_
    rintro e w58 ⟨vsb, rfl, sbw, b58⟩
    dsimp only
    have y_sb_p := Lib.hid (hlt hp)
    have y_sb_b65 := Lib.hid (hlt hb65)
    have bl_en_sb := en.bl_new
    have bl_pb_sb := pb.bl_new
    have bl_s0_sb := s0.bl_new
    have bl_sa_sb := sa.bl_new
    have sblo := bel.size
    have lz_sb := b58.size
    replace hp := blk_u hp b58
    replace hb65 := blk_u hb65 b58
    replace en := en.below b58
    replace pb := pb.below b58
    replace s0 := s0.below b58
    replace s0w := own_under s0w b58
    replace sa := sa.below b58
    replace saw := own_under saw b58
    replace lz_s0 := Nat.le_trans lz_s0 b58.size
    replace lz_sa := Nat.le_trans lz_sa b58.size
    replace bel := bel.trans (b58.mono bel.size)
    clear b58
    obtain ⟨Asb, csb, rfl⟩ := own_val sbw
    have sb := (own_sl sbw).1
    have fr_sb := (own_sl sbw).2
    have av_sb_p := fr_sb.av y_sb_p.out
    have av_sb_b65 := fr_sb.av y_sb_b65.out
    refine hK.out _ _ hp (fun hH59 => ?_)
    clear hK K
    refine wpAnyH_ready (rs := [6]) (by kernel_rfl) (by simp) ?_
    refine AllReadyH.cons (o := _) rfl (fun K hK => ?_) AllReadyH.nil
    simp only [List.getElem_toArray, List.getElem_cons_zero, List.getElem_cons_succ]
    go_simp
    with_reducible refine (r16_oto _ 10 12 _ _ _ _ rfl sb (by omega)).mono ?_
    rintro e w60 ⟨vsc, rfl, scw, b60⟩
    dsimp only
    have y_sc_p := Lib.hid (hlt hp)
    have y_sc_b65 := Lib.hid (hlt hb65)
    have bl_en_sc := en.bl_new
    have bl_pb_sc := pb.bl_new
    have bl_s0_sc := s0.bl_new
    have bl_sa_sc := sa.bl_new
    have bl_sb_sc := sb.bl_new
    have sclo := bel.size
    have lz_sc := b60.size
    replace hp := blk_u hp b60
    replace hb65 := blk_u hb65 b60
    replace en := en.below b60
    replace pb := pb.below b60
    replace s0 := s0.below b60
    replace s0w := own_under s0w b60
    replace sa := sa.below b60
    replace saw := own_under saw b60
    replace sb := sb.below b60
    replace sbw := own_under sbw b60
    replace lz_s0 := Nat.le_trans lz_s0 b60.size
    replace lz_sa := Nat.le_trans lz_sa b60.size
    replace lz_sb := Nat.le_trans lz_sb b60.size
    replace bel := bel.trans (b60.mono bel.size)
    clear b60
    obtain ⟨Asc, csc, rfl⟩ := own_val scw
    have sc := (own_sl scw).1
    have fr_sc := (own_sl scw).2
    have av_sc_p := fr_sc.av y_sc_p.out
    have av_sc_b65 := fr_sc.av y_sc_b65.out
    refine hK.out _ _ hp (fun hH61 => ?_)
    clear hK K
    refine wpAnyH_take (i := 7) (v := ?_) rfl (by kernel_rfl) (by kernel_rfl) (by kernel_rfl) (fun _ _ _ h => h) (Or.inl ⟨by rfl, ?_⟩) hH61 ?_
    rotate_left
    · ((intro W hW; clear hW; go_simp) <;> with_reducible rfl)
    simp only [Act.put, List.getElem_toArray, List.getElem_cons_zero, List.getElem_cons_succ, List.setIfInBounds_toArray, List.set_cons_zero, List.set_cons_succ]
    refine wpAnyH_done (by kernel_rfl) ?_ _
    have fc := sl_four (o := 5) h.c0 h.c1 h.c2 h.c3 hp rfl rfl rfl rfl
    go_wp2_with (first | ((with_reducible show wpList _ _ _ (⟨some 79, _, _, _, _, _⟩ :: _) _ _); refine wpList_append_bb _ rfl (.tmp 76) (.tmp 78) 34 rfl (w58.heap.size) 5 ii (.int .u8 0) Try.underlying34 hii hz0 hz1 hz2 rfl _ (12) ([byteOf h.op, 1, 6, byteOf h.hops] ++ four h.xid ++ two h.secs ++ two h.flags) rfl scw (some ⟨g1, 5, none⟩) (4) (4) ([h.c0, h.c1, h.c2, h.c3]) rfl fc (by omega) lz_sc ?_; intro v79 w62 own_ bb; replace en := en.under bl_en_sc bb; replace pb := pb.under bl_pb_sc bb; replace s0 := s0.under bl_s0_sc bb; clear s0w lz_s0; replace sa := sa.under bl_sa_sc bb; clear saw lz_sa; replace sb := sb.under bl_sb_sc bb; clear sbw lz_sb; clear fc; replace hp := blk_under hp bb y_sc_p.out; replace hb65 := blk_under hb65 bb y_sc_b65.out; replace bel := bel.trans (bb.mono sclo); have lz_q1 := Nat.le_trans lz_sc bb.size; clear bb; clear sc scw lz_sc; replace own_ : w62.ownsRow (w58.heap.size) 5 1 v79 (16) (([byteOf h.op, 1, 6, byteOf h.hops] ++ four h.xid ++ two h.secs ++ two h.flags ++ [h.c0, h.c1, h.c2, h.c3] : List UInt8).map u8v) := own_; obtain ⟨A79, c79, rfl⟩ := own_val own_; have q1w := own_; have q1 := (own_sl own_).1; have fr_q1 := (own_sl own_).2; clear own_; have av_q1_p := fr_q1.av y_sc_p.out; have av_q1_b65 := fr_q1.av y_sc_b65.out; have fy := sl_four (o := 9) h.y0 h.y1 h.y2 h.y3 hp rfl rfl rfl rfl) | ((with_reducible show wpList _ _ _ (⟨some 83, _, _, _, _, _⟩ :: _) _ _); refine wpList_append_bb _ rfl (.tmp 80) (.tmp 82) 34 rfl (w58.heap.size) 5 ii (.int .u8 0) Try.underlying34 hii hz0 hz1 hz2 rfl _ (16) ([byteOf h.op, 1, 6, byteOf h.hops] ++ four h.xid ++ two h.secs ++ two h.flags ++ [h.c0, h.c1, h.c2, h.c3]) rfl q1w (some ⟨g1, 9, none⟩) (4) (4) ([h.y0, h.y1, h.y2, h.y3]) rfl fy (by omega) lz_q1 ?_; intro v83 w63 own_ bb; replace en := en.under bl_en_sc bb; replace pb := pb.under bl_pb_sc bb; replace s0 := s0.under bl_s0_sc bb; replace sa := sa.under bl_sa_sc bb; replace sb := sb.under bl_sb_sc bb; clear fy; replace hp := blk_under hp bb y_sc_p.out; replace hb65 := blk_under hb65 bb y_sc_b65.out; replace bel := bel.trans (bb.mono sclo); have lz_q2 := Nat.le_trans lz_q1 bb.size; clear bb; clear q1 q1w lz_q1; replace own_ : w63.ownsRow (w58.heap.size) 5 1 v83 (20) (([byteOf h.op, 1, 6, byteOf h.hops] ++ four h.xid ++ two h.secs ++ two h.flags ++ [h.c0, h.c1, h.c2, h.c3] ++ [h.y0, h.y1, h.y2, h.y3] : List UInt8).map u8v) := own_; obtain ⟨A83, c83, rfl⟩ := own_val own_; have q2w := own_; have q2 := (own_sl own_).1; have fr_q2 := (own_sl own_).2; clear own_; have av_q2_p := fr_q2.av y_sc_p.out; have av_q2_b65 := fr_q2.av y_sc_b65.out; have fs := sl_four (o := 13) h.s0 h.s1 h.s2 h.s3 hp rfl rfl rfl rfl) | ((with_reducible show wpList _ _ _ (⟨some 87, _, _, _, _, _⟩ :: _) _ _); refine wpList_append_bb _ rfl (.tmp 84) (.tmp 86) 34 rfl (w58.heap.size) 5 ii (.int .u8 0) Try.underlying34 hii hz0 hz1 hz2 rfl _ (20) ([byteOf h.op, 1, 6, byteOf h.hops] ++ four h.xid ++ two h.secs ++ two h.flags ++ [h.c0, h.c1, h.c2, h.c3] ++ [h.y0, h.y1, h.y2, h.y3]) rfl q2w (some ⟨g1, 13, none⟩) (4) (4) ([h.s0, h.s1, h.s2, h.s3]) rfl fs (by omega) lz_q2 ?_; intro v87 w64 own_ bb; replace en := en.under bl_en_sc bb; replace pb := pb.under bl_pb_sc bb; replace s0 := s0.under bl_s0_sc bb; replace sa := sa.under bl_sa_sc bb; replace sb := sb.under bl_sb_sc bb; clear fs; replace hp := blk_under hp bb y_sc_p.out; replace hb65 := blk_under hb65 bb y_sc_b65.out; replace bel := bel.trans (bb.mono sclo); have lz_q3 := Nat.le_trans lz_q2 bb.size; clear bb; clear q2 q2w lz_q2; replace own_ : w64.ownsRow (w58.heap.size) 5 1 v87 (24) (([byteOf h.op, 1, 6, byteOf h.hops] ++ four h.xid ++ two h.secs ++ two h.flags ++ [h.c0, h.c1, h.c2, h.c3] ++ [h.y0, h.y1, h.y2, h.y3] ++ [h.s0, h.s1, h.s2, h.s3] : List UInt8).map u8v) := own_; obtain ⟨A87, c87, rfl⟩ := own_val own_; have q3w := own_; have q3 := (own_sl own_).1; have fr_q3 := (own_sl own_).2; clear own_; have av_q3_p := fr_q3.av y_sc_p.out; have av_q3_b65 := fr_q3.av y_sc_b65.out; have fr := sl_four (o := 17) h.r0 h.r1 h.r2 h.r3 hp rfl rfl rfl rfl) | ((with_reducible show wpList _ _ _ (⟨some 91, _, _, _, _, _⟩ :: _) _ _); refine wpList_append_bb _ rfl (.tmp 88) (.tmp 90) 34 rfl (w58.heap.size) 5 ii (.int .u8 0) Try.underlying34 hii hz0 hz1 hz2 rfl _ (24) ([byteOf h.op, 1, 6, byteOf h.hops] ++ four h.xid ++ two h.secs ++ two h.flags ++ [h.c0, h.c1, h.c2, h.c3] ++ [h.y0, h.y1, h.y2, h.y3] ++ [h.s0, h.s1, h.s2, h.s3]) rfl q3w (some ⟨g1, 17, none⟩) (4) (4) ([h.r0, h.r1, h.r2, h.r3]) rfl fr (by omega) lz_q3 ?_; intro v91 w65 own_ bb; replace en := en.under bl_en_sc bb; replace pb := pb.under bl_pb_sc bb; replace s0 := s0.under bl_s0_sc bb; replace sa := sa.under bl_sa_sc bb; replace sb := sb.under bl_sb_sc bb; clear fr; replace hp := blk_under hp bb y_sc_p.out; replace hb65 := blk_under hb65 bb y_sc_b65.out; replace bel := bel.trans (bb.mono sclo); have lz_q4 := Nat.le_trans lz_q3 bb.size; clear bb; clear q3 q3w lz_q3; replace own_ : w65.ownsRow (w58.heap.size) 5 1 v91 (28) (([byteOf h.op, 1, 6, byteOf h.hops] ++ four h.xid ++ two h.secs ++ two h.flags ++ [h.c0, h.c1, h.c2, h.c3] ++ [h.y0, h.y1, h.y2, h.y3] ++ [h.s0, h.s1, h.s2, h.s3] ++ [h.r0, h.r1, h.r2, h.r3] : List UInt8).map u8v) := own_; obtain ⟨A91, c91, rfl⟩ := own_val own_; have q4w := own_; have q4 := (own_sl own_).1; have fr_q4 := (own_sl own_).2; clear own_; have av_q4_p := fr_q4.av y_sc_p.out; have av_q4_b65 := fr_q4.av y_sc_b65.out; have fm := sl_six (o := 21) h.m0 h.m1 h.m2 h.m3 h.m4 h.m5 hp rfl rfl rfl rfl rfl rfl) | ((with_reducible show wpList _ _ _ (⟨some 95, _, _, _, _, _⟩ :: _) _ _); refine wpList_append_bb _ rfl (.tmp 92) (.tmp 94) 34 rfl (w58.heap.size) 5 ii (.int .u8 0) Try.underlying34 hii hz0 hz1 hz2 rfl _ (28) ([byteOf h.op, 1, 6, byteOf h.hops] ++ four h.xid ++ two h.secs ++ two h.flags ++ [h.c0, h.c1, h.c2, h.c3] ++ [h.y0, h.y1, h.y2, h.y3] ++ [h.s0, h.s1, h.s2, h.s3] ++ [h.r0, h.r1, h.r2, h.r3]) rfl q4w (some ⟨g1, 21, none⟩) (6) (6) ([h.m0, h.m1, h.m2, h.m3, h.m4, h.m5]) rfl fm (by omega) lz_q4 ?_; intro v95 w66 own_ bb; replace en := en.under bl_en_sc bb; replace pb := pb.under bl_pb_sc bb; replace s0 := s0.under bl_s0_sc bb; replace sa := sa.under bl_sa_sc bb; replace sb := sb.under bl_sb_sc bb; clear fm; replace hp := blk_under hp bb y_sc_p.out; replace hb65 := blk_under hb65 bb y_sc_b65.out; replace bel := bel.trans (bb.mono sclo); have lz_q5 := Nat.le_trans lz_q4 bb.size; clear bb; clear q4 q4w lz_q4; replace own_ : w66.ownsRow (w58.heap.size) 5 1 v95 (34) (([byteOf h.op, 1, 6, byteOf h.hops] ++ four h.xid ++ two h.secs ++ two h.flags ++ [h.c0, h.c1, h.c2, h.c3] ++ [h.y0, h.y1, h.y2, h.y3] ++ [h.s0, h.s1, h.s2, h.s3] ++ [h.r0, h.r1, h.r2, h.r3] ++ [h.m0, h.m1, h.m2, h.m3, h.m4, h.m5] : List UInt8).map u8v) := own_; obtain ⟨A95, c95, rfl⟩ := own_val own_; have q5w := own_; have q5 := (own_sl own_).1; have fr_q5 := (own_sl own_).2; clear own_; have av_q5_p := fr_q5.av y_sc_p.out; have av_q5_b65 := fr_q5.av y_sc_b65.out) | ((with_reducible show wpList _ _ _ (⟨some 97, _, _, _, _, _⟩ :: _) _ _); refine wpList_append_zb rfl (.tmp 96) (.const (.int .i64 202)) 34 3 rfl (w58.heap.size) 5 ii .i64 Try.underlying34 Try.underlying3 hii hz0 hz1 hz2 _ (34) ([byteOf h.op, 1, 6, byteOf h.hops] ++ four h.xid ++ two h.secs ++ two h.flags ++ [h.c0, h.c1, h.c2, h.c3] ++ [h.y0, h.y1, h.y2, h.y3] ++ [h.s0, h.s1, h.s2, h.s3] ++ [h.r0, h.r1, h.r2, h.r3] ++ [h.m0, h.m1, h.m2, h.m3, h.m4, h.m5]) rfl q5w (202) rfl (by omega) lz_q5 ?_; intro v97 w67 own_ bb; replace en := en.under bl_en_sc bb; replace pb := pb.under bl_pb_sc bb; replace s0 := s0.under bl_s0_sc bb; replace sa := sa.under bl_sa_sc bb; replace sb := sb.under bl_sb_sc bb; replace hp := blk_under hp bb y_sc_p.out; replace hb65 := blk_under hb65 bb y_sc_b65.out; replace bel := bel.trans (bb.mono sclo); have lz_q6 := Nat.le_trans lz_q5 bb.size; clear bb; clear q5 q5w lz_q5; replace own_ : w67.ownsRow (w58.heap.size) 5 1 v97 (236) (([byteOf h.op, 1, 6, byteOf h.hops] ++ four h.xid ++ two h.secs ++ two h.flags ++ [h.c0, h.c1, h.c2, h.c3] ++ [h.y0, h.y1, h.y2, h.y3] ++ [h.s0, h.s1, h.s2, h.s3] ++ [h.r0, h.r1, h.r2, h.r3] ++ [h.m0, h.m1, h.m2, h.m3, h.m4, h.m5] ++ (List.replicate 202 0) : List UInt8).map u8v) := own_; obtain ⟨A97, c97, rfl⟩ := own_val own_; have q6w := own_; have q6 := (own_sl own_).1; have fr_q6 := (own_sl own_).2; clear own_; have av_q6_p := fr_q6.av y_sc_p.out; have av_q6_b65 := fr_q6.av y_sc_b65.out) | ((with_reducible show wpList _ _ _ (⟨some 99, _, _, _, _, _⟩ :: _) _ _); refine wpList_lit_n rfl 34 5 4 _ rfl #[.int .u8 99, .int .u8 130, .int .u8 83, .int .u8 99] (.int .u8 0) Try.underlying34 (by kernel_rfl) 1 (by kernel_rfl) (by decide) (by kernel_rfl) ?_; intro g99 w68 ge lt hh bb; have hl : w68.heap[g99]? = some (.cells (([99, 130, 83, 99] : List UInt8).map u8v).toArray 5 (0, 0)) := (by simpa [u8v, byteOf_val] using hh); have ckw := own_lit (B := w67.heap.size) ([99, 130, 83, 99]) hl ge 4 rfl (by simp [maxLen]); have ck := (own_sl ckw).1; have cklo := bel.size; clear hl; have ckge := ge; have lz_ck := bb.size; have y_ck_p := Lib.hid (hlt hp); have y_ck_b65 := Lib.hid (hlt hb65); have bl_en_ck := en.bl_new; have bl_pb_ck := pb.bl_new; have bl_s0_ck := s0.bl_new; have bl_sa_ck := sa.bl_new; have bl_sb_ck := sb.bl_new; have bl_q6_ck := q6.bl_new; have d_p_b99 := ne_new (hlt hp) ge; have d_b65_b99 := ne_new (hlt hb65) ge; have av_en_b99 := en.av_new ge; have av_pb_b99 := pb.av_new ge; have av_s0_b99 := s0.av_new ge; have av_sa_b99 := sa.av_new ge; have av_sb_b99 := sb.av_new ge; have av_q6_b99 := q6.av_new ge; have of_q6_b99 := own_new q6w ge; have ob99 := Nat.le_trans bel.size ge; replace hp := blk_u hp bb; replace hb65 := blk_u hb65 bb; replace en := en.below bb; replace pb := pb.below bb; replace s0 := s0.below bb; replace sa := sa.below bb; replace sb := sb.below bb; replace q6 := q6.below bb; replace q6w := own_under q6w bb; replace lz_q6 := Nat.le_trans lz_q6 bb.size; replace bel := bel.trans (bb.mono bel.size); have hb99 := hh; clear hh lt ge bb; have av_ck_p := (own_sl ckw).2.av y_ck_p.out; have av_ck_b65 := (own_sl ckw).2.av y_ck_b65.out) | ((with_reducible show wpList _ _ _ (⟨some 100, _, _, _, _, _⟩ :: _) _ _); refine wpList_append_bg _ rfl (.tmp 98) (.tmp 99) 34 rfl (w58.heap.size) 5 ii (.int .u8 0) Try.underlying34 hii hz0 hz1 hz2 rfl _ (236) ([byteOf h.op, 1, 6, byteOf h.hops] ++ four h.xid ++ two h.secs ++ two h.flags ++ [h.c0, h.c1, h.c2, h.c3] ++ [h.y0, h.y1, h.y2, h.y3] ++ [h.s0, h.s1, h.s2, h.s3] ++ [h.r0, h.r1, h.r2, h.r3] ++ [h.m0, h.m1, h.m2, h.m3, h.m4, h.m5] ++ (List.replicate 202 0)) rfl q6w (some ⟨g99, 0, none⟩) (4) (4) ([99, 130, 83, 99]) rfl ck (by omega) lz_q6 ?_; intro v100 w69 own_ bb gw ofw; have of100_b99 := ofw _ (hlt hb99) of_q6_b99; clear ofw; replace en := en.under bl_en_sc bb; replace pb := pb.under bl_pb_sc bb; replace s0 := s0.under bl_s0_sc bb; replace sa := sa.under bl_sa_sc bb; replace sb := sb.under bl_sb_sc bb; clear ck ckw lz_ck; replace hp := blk_under hp bb y_sc_p.out; replace hb65 := blk_under hb65 bb y_sc_b65.out; replace hb99 := blk_own hb99 gw of_q6_b99; clear gw; replace bel := bel.trans (bb.mono sclo); have lz_hd := Nat.le_trans lz_q6 bb.size; clear bb; clear q6 q6w lz_q6; replace own_ : w69.ownsRow (w58.heap.size) 5 1 v100 (240) (([byteOf h.op, 1, 6, byteOf h.hops] ++ four h.xid ++ two h.secs ++ two h.flags ++ [h.c0, h.c1, h.c2, h.c3] ++ [h.y0, h.y1, h.y2, h.y3] ++ [h.s0, h.s1, h.s2, h.s3] ++ [h.r0, h.r1, h.r2, h.r3] ++ [h.m0, h.m1, h.m2, h.m3, h.m4, h.m5] ++ (List.replicate 202 0) ++ [99, 130, 83, 99] : List UInt8).map u8v) := own_; obtain ⟨A100, c100, rfl⟩ := own_val own_; have hdw := own_; have hd := (own_sl own_).1; have fr_hd := (own_sl own_).2; clear own_; have av_hd_p := fr_hd.av y_sc_p.out; have av_hd_b65 := fr_hd.av y_sc_b65.out; have av_hd_b99 := own_av hdw of100_b99; replace hdw := own_out2 hdw; replace hd := (own_sl hdw).1) | ((with_reducible show wpList _ _ _ (⟨some 102, _, _, _, _, _⟩ :: _) _ _); refine wpList_append_bg _ rfl (.tmp 100) (.tmp 101) 34 rfl (w58.heap.size) 5 ii (.int .u8 0) Try.underlying34 hii hz0 hz1 hz2 rfl _ (240) (headB h) rfl hdw (A4) (np) (c4) ((putL L).1) rfl pb (by have := HMM.out; omega) lz_hd ?_; intro v102 w70 own_ bb gw ofw; have of102_b99 := ofw _ (hlt hb99) of100_b99; clear ofw; replace en := en.under bl_en_sc bb; replace pb := pb.under bl_pb_sc bb; replace s0 := s0.under bl_s0_sc bb; replace sa := sa.under bl_sa_sc bb; replace sb := sb.under bl_sb_sc bb; replace hp := blk_under hp bb y_sc_p.out; replace hb65 := blk_under hb65 bb y_sc_b65.out; replace hb99 := blk_own hb99 gw of100_b99; clear gw; replace bel := bel.trans (bb.mono sclo); have lz_ab := Nat.le_trans lz_hd bb.size; clear bb; clear hd hdw lz_hd; replace own_ : w70.ownsRow (w58.heap.size) 5 1 v102 (m) ((headB h ++ ((putL L).1) : List UInt8).map u8v) := (by have q_ := own_; rw [HMM.out] at q_; exact q_); obtain ⟨A102, c102, rfl⟩ := own_val own_; have abw := own_; have ab := (own_sl own_).1; have fr_ab := (own_sl own_).2; clear own_; have av_ab_p := fr_ab.av y_sc_p.out; have av_ab_b65 := fr_ab.av y_sc_b65.out; have av_ab_b99 := own_av abw of102_b99))
    exact bodyPost_ret (v := .tuple #[.slice A102 m c102, .int .i64 0]) (by simp [results, Try.results15, go_sem]) rfl ⟨_, _, _, by rw [HP.out], by rw [HP.out]; exact ab, bel⟩
  obtain ⟨k, hk⟩ : ∃ k, 60 - (putL L).1.length = k := ⟨_, rfl⟩
  have hmk : m + k = 300 := by omega
  have hw_ : IntKind.i64.wrap (300 - (m : Int)) = (k : Int) := by rw [show (300 : Int) - (m : Int) = (k : Int) by omega]; exact IntWalk.i64_in _ (by omega)
  have k0 : (0 : Int) ≤ k := by omega
  have HMK := Lib.hid hmk
  have hm3i : (m : Int) < 300 := by omega
  have HP : Hid (dPut h L = (headB h ++ (putL L).1 ++ List.replicate k 0, 0)) := Lib.hid (by rw [dput_ok HOK.out (by rw [HTY.out]; exact HTN.out) (by rw [HER2.out]; exact HE0.out), hk])
  clear hm3 hk hmk hm hpl hpl2 hm9
  have R60 := cell_lit hp 0 _ rfl
  have R63 := cell_lit hp 1 _ rfl
  go_wp2_with (first | ((with_reducible show wpList _ _ _ (⟨some 65, _, _, _, _, _⟩ :: _) _ _); refine wpList_lit_n rfl 34 5 4 _ rfl #[.int .u8 (h.op % 256), .int .u8 1, .int .u8 6, .int .u8 (h.hops % 256)] (.int .u8 0) Try.underlying34 (by kernel_rfl) 1 (by kernel_rfl) (by decide) (by kernel_rfl) ?_; intro g65 w55 ge lt hh bb; have hl : w55.heap[g65]? = some (.cells (([byteOf h.op, 1, 6, byteOf h.hops] : List UInt8).map u8v).toArray 5 (0, 0)) := (by simpa [u8v, byteOf_val] using hh); have s0w := own_lit (B := w54.heap.size) ([byteOf h.op, 1, 6, byteOf h.hops]) hl ge 4 rfl (by simp [maxLen]); have s0 := (own_sl s0w).1; have s0lo := bel.size; clear hl; have s0ge := ge; have lz_s0 := bb.size; have y_s0_p := Lib.hid (hlt hp); have bl_en_s0 := en.bl_new; have bl_pb_s0 := pb.bl_new; have d_p_b65 := ne_new (hlt hp) ge; have av_en_b65 := en.av_new ge; have av_pb_b65 := pb.av_new ge; have ob65 := Nat.le_trans bel.size ge; replace hp := blk_u hp bb; replace en := en.below bb; replace pb := pb.below bb; replace bel := bel.trans (bb.mono bel.size); have hb65 := hh; clear hh lt ge bb; have av_s0_p := (own_sl s0w).2.av y_s0_p.out; have R67 := cell_lit hp 2 _ rfl))
  try clear R60
  try clear R63
  try clear R67
  with_reducible refine (r32_oto _ 4 8 _ _ _ _ h0 h1 rfl s0 (by omega)).mono ?_
  rintro e w56 ⟨vsa, rfl, saw, b56⟩
  have y_sa_p := Lib.hid (hlt hp)
  have y_sa_b65 := Lib.hid (hlt hb65)
  have bl_en_sa := en.bl_new
  have bl_pb_sa := pb.bl_new
  have bl_s0_sa := s0.bl_new
  have salo := bel.size
  have lz_sa := b56.size
  replace hp := blk_u hp b56
  replace hb65 := blk_u hb65 b56
  replace en := en.below b56
  replace pb := pb.below b56
  replace s0 := s0.below b56
  replace s0w := own_under s0w b56
  replace lz_s0 := Nat.le_trans lz_s0 b56.size
  replace bel := bel.trans (b56.mono bel.size)
  clear b56
  obtain ⟨Asa, csa, rfl⟩ := own_val saw
  have sa := (own_sl saw).1
  have fr_sa := (own_sl saw).2
  have av_sa_p := fr_sa.av y_sa_p.out
  have av_sa_b65 := fr_sa.av y_sa_b65.out
  go_wp2_with fail
  replace bel := bel.drew
  replace hp : w56.drew.heap[g1]? = _ := hp
  replace hb65 : w56.drew.heap[g65]? = _ := hb65
  replace en := en.drew
  replace pb := pb.drew
  replace s0 := s0.drew
  replace s0w : w56.drew.ownsRow _ _ _ _ _ _ := s0w
  replace lz_s0 : _ ≤ w56.drew.heap.size := lz_s0
  replace sa := sa.drew
  replace saw : w56.drew.ownsRow _ _ _ _ _ _ := saw
  replace lz_sa : _ ≤ w56.drew.heap.size := lz_sa
  refine wp_region_held_drew (S := fun W => W.heap[g1]? = some (.cells #[.int .i64 h.op, .int .i64 h.hops, .int .u32 h.xid, .int .i64 h.secs, .int .i64 h.flags, .int .u8 (h.c0.toNat : Int), .int .u8 (h.c1.toNat : Int), .int .u8 (h.c2.toNat : Int), .int .u8 (h.c3.toNat : Int), .int .u8 (h.y0.toNat : Int), .int .u8 (h.y1.toNat : Int), .int .u8 (h.y2.toNat : Int), .int .u8 (h.y3.toNat : Int), .int .u8 (h.s0.toNat : Int), .int .u8 (h.s1.toNat : Int), .int .u8 (h.s2.toNat : Int), .int .u8 (h.s3.toNat : Int), .int .u8 (h.r0.toNat : Int), .int .u8 (h.r1.toNat : Int), .int .u8 (h.r2.toNat : Int), .int .u8 (h.r3.toNat : Int), .int .u8 (h.m0.toNat : Int), .int .u8 (h.m1.toNat : Int), .int .u8 (h.m2.toNat : Int), .int .u8 (h.m3.toNat : Int), .int .u8 (h.m4.toNat : Int), .int .u8 (h.m5.toNat : Int), .slice A n c] 42 (0, 0))) (by kernel_rfl) hp (fun hH => ?_)
  generalize w56.drew = w57 at bel hp hb65 en pb s0 sa s0w saw lz_s0 lz_sa hH ⊢
  refine wpAnyH_take (i := 0) (v := ?_) rfl (by kernel_rfl) (by kernel_rfl) (by kernel_rfl) (fun _ _ _ h => h) (Or.inl ⟨by rfl, ?_⟩) hH ?_
  rotate_left
  · ((intro W hW; clear hW; go_simp) <;> with_reducible rfl)
  simp only [Act.put, List.getElem_toArray, List.getElem_cons_zero, List.setIfInBounds_toArray, List.set_cons_zero, List.set_cons_succ]
  refine wpAnyH_take (i := 1) (v := ?_) rfl (by kernel_rfl) (by kernel_rfl) (by kernel_rfl) (fun _ _ _ h => h) (Or.inl ⟨by rfl, ?_⟩) hH ?_
  rotate_left
  · ((intro W hW; clear hW; go_simp) <;> with_reducible rfl)
  simp only [Act.put, List.getElem_toArray, List.getElem_cons_zero, List.getElem_cons_succ, List.setIfInBounds_toArray, List.set_cons_zero, List.set_cons_succ]
  refine wpAnyH_take (i := 2) (v := ?_) rfl (by kernel_rfl) (by kernel_rfl) (by kernel_rfl) (fun _ _ _ h => h) (Or.inl ⟨by rfl, ?_⟩) hH ?_
  rotate_left
  · ((intro W hW; have hk := cell_lit (hW) 3 _ rfl; clear hW; go_simp) <;> with_reducible rfl)
  simp only [Act.put, List.getElem_toArray, List.getElem_cons_zero, List.getElem_cons_succ, List.setIfInBounds_toArray, List.set_cons_zero, List.set_cons_succ]
  refine wpAnyH_take (i := 4) (v := ?_) rfl (by kernel_rfl) (by kernel_rfl) (by kernel_rfl) (fun _ _ _ h => h) (Or.inl ⟨by rfl, ?_⟩) hH ?_
  rotate_left
  · ((intro W hW; clear hW; go_simp) <;> with_reducible rfl)
  simp only [Act.put, List.getElem_toArray, List.getElem_cons_zero, List.getElem_cons_succ, List.setIfInBounds_toArray, List.set_cons_zero, List.set_cons_succ]
  refine wpAnyH_take (i := 5) (v := ?_) rfl (by kernel_rfl) (by kernel_rfl) (by kernel_rfl) (fun _ _ _ h => h) (Or.inl ⟨by rfl, ?_⟩) hH ?_
  rotate_left
  · ((intro W hW; have hk := cell_lit (hW) 4 _ rfl; clear hW; go_simp) <;> with_reducible rfl)
  simp only [Act.put, List.getElem_toArray, List.getElem_cons_zero, List.getElem_cons_succ, List.setIfInBounds_toArray, List.set_cons_zero, List.set_cons_succ]
  refine wpAnyH_ready (rs := [3]) (by kernel_rfl) (by simp) ?_
  refine AllReadyH.cons (o := _) rfl (fun K hK => ?_) AllReadyH.nil
  simp only [List.getElem_toArray, List.getElem_cons_zero, List.getElem_cons_succ]
  go_simp
  with_reducible refine (r16_oto _ 8 10 _ _ _ _ rfl sa (by omega)).mono ?_
  rintro e w58 ⟨vsb, rfl, sbw, b58⟩
  dsimp only
  have y_sb_p := Lib.hid (hlt hp)
  have y_sb_b65 := Lib.hid (hlt hb65)
  have bl_en_sb := en.bl_new
  have bl_pb_sb := pb.bl_new
  have bl_s0_sb := s0.bl_new
  have bl_sa_sb := sa.bl_new
  have sblo := bel.size
  have lz_sb := b58.size
  replace hp := blk_u hp b58
  replace hb65 := blk_u hb65 b58
  replace en := en.below b58
  replace pb := pb.below b58
  replace s0 := s0.below b58
  replace s0w := own_under s0w b58
  replace sa := sa.below b58
  replace saw := own_under saw b58
  replace lz_s0 := Nat.le_trans lz_s0 b58.size
  replace lz_sa := Nat.le_trans lz_sa b58.size
  replace bel := bel.trans (b58.mono bel.size)
  clear b58
  obtain ⟨Asb, csb, rfl⟩ := own_val sbw
  have sb := (own_sl sbw).1
  have fr_sb := (own_sl sbw).2
  have av_sb_p := fr_sb.av y_sb_p.out
  have av_sb_b65 := fr_sb.av y_sb_b65.out
  refine hK.out _ _ hp (fun hH59 => ?_)
  clear hK K
  refine wpAnyH_ready (rs := [6]) (by kernel_rfl) (by simp) ?_
  refine AllReadyH.cons (o := _) rfl (fun K hK => ?_) AllReadyH.nil
  simp only [List.getElem_toArray, List.getElem_cons_zero, List.getElem_cons_succ]
  go_simp
  with_reducible refine (r16_oto _ 10 12 _ _ _ _ rfl sb (by omega)).mono ?_
  rintro e w60 ⟨vsc, rfl, scw, b60⟩
  dsimp only
  have y_sc_p := Lib.hid (hlt hp)
  have y_sc_b65 := Lib.hid (hlt hb65)
  have bl_en_sc := en.bl_new
  have bl_pb_sc := pb.bl_new
  have bl_s0_sc := s0.bl_new
  have bl_sa_sc := sa.bl_new
  have bl_sb_sc := sb.bl_new
  have sclo := bel.size
  have lz_sc := b60.size
  replace hp := blk_u hp b60
  replace hb65 := blk_u hb65 b60
  replace en := en.below b60
  replace pb := pb.below b60
  replace s0 := s0.below b60
  replace s0w := own_under s0w b60
  replace sa := sa.below b60
  replace saw := own_under saw b60
  replace sb := sb.below b60
  replace sbw := own_under sbw b60
  replace lz_s0 := Nat.le_trans lz_s0 b60.size
  replace lz_sa := Nat.le_trans lz_sa b60.size
  replace lz_sb := Nat.le_trans lz_sb b60.size
  replace bel := bel.trans (b60.mono bel.size)
  clear b60
  obtain ⟨Asc, csc, rfl⟩ := own_val scw
  have sc := (own_sl scw).1
  have fr_sc := (own_sl scw).2
  have av_sc_p := fr_sc.av y_sc_p.out
  have av_sc_b65 := fr_sc.av y_sc_b65.out
  refine hK.out _ _ hp (fun hH61 => ?_)
  clear hK K
  refine wpAnyH_take (i := 7) (v := ?_) rfl (by kernel_rfl) (by kernel_rfl) (by kernel_rfl) (fun _ _ _ h => h) (Or.inl ⟨by rfl, ?_⟩) hH61 ?_
  rotate_left
  · ((intro W hW; clear hW; go_simp) <;> with_reducible rfl)
  simp only [Act.put, List.getElem_toArray, List.getElem_cons_zero, List.getElem_cons_succ, List.setIfInBounds_toArray, List.set_cons_zero, List.set_cons_succ]
  refine wpAnyH_done (by kernel_rfl) ?_ _
  have fc := sl_four (o := 5) h.c0 h.c1 h.c2 h.c3 hp rfl rfl rfl rfl
  go_wp2_with (first | ((with_reducible show wpList _ _ _ (⟨some 79, _, _, _, _, _⟩ :: _) _ _); refine wpList_append_bb _ rfl (.tmp 76) (.tmp 78) 34 rfl (w58.heap.size) 5 ii (.int .u8 0) Try.underlying34 hii hz0 hz1 hz2 rfl _ (12) ([byteOf h.op, 1, 6, byteOf h.hops] ++ four h.xid ++ two h.secs ++ two h.flags) rfl scw (some ⟨g1, 5, none⟩) (4) (4) ([h.c0, h.c1, h.c2, h.c3]) rfl fc (by omega) lz_sc ?_; intro v79 w62 own_ bb; replace en := en.under bl_en_sc bb; replace pb := pb.under bl_pb_sc bb; replace s0 := s0.under bl_s0_sc bb; clear s0w lz_s0; replace sa := sa.under bl_sa_sc bb; clear saw lz_sa; replace sb := sb.under bl_sb_sc bb; clear sbw lz_sb; clear fc; replace hp := blk_under hp bb y_sc_p.out; replace hb65 := blk_under hb65 bb y_sc_b65.out; replace bel := bel.trans (bb.mono sclo); have lz_q1 := Nat.le_trans lz_sc bb.size; clear bb; clear sc scw lz_sc; replace own_ : w62.ownsRow (w58.heap.size) 5 1 v79 (16) (([byteOf h.op, 1, 6, byteOf h.hops] ++ four h.xid ++ two h.secs ++ two h.flags ++ [h.c0, h.c1, h.c2, h.c3] : List UInt8).map u8v) := own_; obtain ⟨A79, c79, rfl⟩ := own_val own_; have q1w := own_; have q1 := (own_sl own_).1; have fr_q1 := (own_sl own_).2; clear own_; have av_q1_p := fr_q1.av y_sc_p.out; have av_q1_b65 := fr_q1.av y_sc_b65.out; have fy := sl_four (o := 9) h.y0 h.y1 h.y2 h.y3 hp rfl rfl rfl rfl) | ((with_reducible show wpList _ _ _ (⟨some 83, _, _, _, _, _⟩ :: _) _ _); refine wpList_append_bb _ rfl (.tmp 80) (.tmp 82) 34 rfl (w58.heap.size) 5 ii (.int .u8 0) Try.underlying34 hii hz0 hz1 hz2 rfl _ (16) ([byteOf h.op, 1, 6, byteOf h.hops] ++ four h.xid ++ two h.secs ++ two h.flags ++ [h.c0, h.c1, h.c2, h.c3]) rfl q1w (some ⟨g1, 9, none⟩) (4) (4) ([h.y0, h.y1, h.y2, h.y3]) rfl fy (by omega) lz_q1 ?_; intro v83 w63 own_ bb; replace en := en.under bl_en_sc bb; replace pb := pb.under bl_pb_sc bb; replace s0 := s0.under bl_s0_sc bb; replace sa := sa.under bl_sa_sc bb; replace sb := sb.under bl_sb_sc bb; clear fy; replace hp := blk_under hp bb y_sc_p.out; replace hb65 := blk_under hb65 bb y_sc_b65.out; replace bel := bel.trans (bb.mono sclo); have lz_q2 := Nat.le_trans lz_q1 bb.size; clear bb; clear q1 q1w lz_q1; replace own_ : w63.ownsRow (w58.heap.size) 5 1 v83 (20) (([byteOf h.op, 1, 6, byteOf h.hops] ++ four h.xid ++ two h.secs ++ two h.flags ++ [h.c0, h.c1, h.c2, h.c3] ++ [h.y0, h.y1, h.y2, h.y3] : List UInt8).map u8v) := own_; obtain ⟨A83, c83, rfl⟩ := own_val own_; have q2w := own_; have q2 := (own_sl own_).1; have fr_q2 := (own_sl own_).2; clear own_; have av_q2_p := fr_q2.av y_sc_p.out; have av_q2_b65 := fr_q2.av y_sc_b65.out; have fs := sl_four (o := 13) h.s0 h.s1 h.s2 h.s3 hp rfl rfl rfl rfl) | ((with_reducible show wpList _ _ _ (⟨some 87, _, _, _, _, _⟩ :: _) _ _); refine wpList_append_bb _ rfl (.tmp 84) (.tmp 86) 34 rfl (w58.heap.size) 5 ii (.int .u8 0) Try.underlying34 hii hz0 hz1 hz2 rfl _ (20) ([byteOf h.op, 1, 6, byteOf h.hops] ++ four h.xid ++ two h.secs ++ two h.flags ++ [h.c0, h.c1, h.c2, h.c3] ++ [h.y0, h.y1, h.y2, h.y3]) rfl q2w (some ⟨g1, 13, none⟩) (4) (4) ([h.s0, h.s1, h.s2, h.s3]) rfl fs (by omega) lz_q2 ?_; intro v87 w64 own_ bb; replace en := en.under bl_en_sc bb; replace pb := pb.under bl_pb_sc bb; replace s0 := s0.under bl_s0_sc bb; replace sa := sa.under bl_sa_sc bb; replace sb := sb.under bl_sb_sc bb; clear fs; replace hp := blk_under hp bb y_sc_p.out; replace hb65 := blk_under hb65 bb y_sc_b65.out; replace bel := bel.trans (bb.mono sclo); have lz_q3 := Nat.le_trans lz_q2 bb.size; clear bb; clear q2 q2w lz_q2; replace own_ : w64.ownsRow (w58.heap.size) 5 1 v87 (24) (([byteOf h.op, 1, 6, byteOf h.hops] ++ four h.xid ++ two h.secs ++ two h.flags ++ [h.c0, h.c1, h.c2, h.c3] ++ [h.y0, h.y1, h.y2, h.y3] ++ [h.s0, h.s1, h.s2, h.s3] : List UInt8).map u8v) := own_; obtain ⟨A87, c87, rfl⟩ := own_val own_; have q3w := own_; have q3 := (own_sl own_).1; have fr_q3 := (own_sl own_).2; clear own_; have av_q3_p := fr_q3.av y_sc_p.out; have av_q3_b65 := fr_q3.av y_sc_b65.out; have fr := sl_four (o := 17) h.r0 h.r1 h.r2 h.r3 hp rfl rfl rfl rfl) | ((with_reducible show wpList _ _ _ (⟨some 91, _, _, _, _, _⟩ :: _) _ _); refine wpList_append_bb _ rfl (.tmp 88) (.tmp 90) 34 rfl (w58.heap.size) 5 ii (.int .u8 0) Try.underlying34 hii hz0 hz1 hz2 rfl _ (24) ([byteOf h.op, 1, 6, byteOf h.hops] ++ four h.xid ++ two h.secs ++ two h.flags ++ [h.c0, h.c1, h.c2, h.c3] ++ [h.y0, h.y1, h.y2, h.y3] ++ [h.s0, h.s1, h.s2, h.s3]) rfl q3w (some ⟨g1, 17, none⟩) (4) (4) ([h.r0, h.r1, h.r2, h.r3]) rfl fr (by omega) lz_q3 ?_; intro v91 w65 own_ bb; replace en := en.under bl_en_sc bb; replace pb := pb.under bl_pb_sc bb; replace s0 := s0.under bl_s0_sc bb; replace sa := sa.under bl_sa_sc bb; replace sb := sb.under bl_sb_sc bb; clear fr; replace hp := blk_under hp bb y_sc_p.out; replace hb65 := blk_under hb65 bb y_sc_b65.out; replace bel := bel.trans (bb.mono sclo); have lz_q4 := Nat.le_trans lz_q3 bb.size; clear bb; clear q3 q3w lz_q3; replace own_ : w65.ownsRow (w58.heap.size) 5 1 v91 (28) (([byteOf h.op, 1, 6, byteOf h.hops] ++ four h.xid ++ two h.secs ++ two h.flags ++ [h.c0, h.c1, h.c2, h.c3] ++ [h.y0, h.y1, h.y2, h.y3] ++ [h.s0, h.s1, h.s2, h.s3] ++ [h.r0, h.r1, h.r2, h.r3] : List UInt8).map u8v) := own_; obtain ⟨A91, c91, rfl⟩ := own_val own_; have q4w := own_; have q4 := (own_sl own_).1; have fr_q4 := (own_sl own_).2; clear own_; have av_q4_p := fr_q4.av y_sc_p.out; have av_q4_b65 := fr_q4.av y_sc_b65.out; have fm := sl_six (o := 21) h.m0 h.m1 h.m2 h.m3 h.m4 h.m5 hp rfl rfl rfl rfl rfl rfl) | ((with_reducible show wpList _ _ _ (⟨some 95, _, _, _, _, _⟩ :: _) _ _); refine wpList_append_bb _ rfl (.tmp 92) (.tmp 94) 34 rfl (w58.heap.size) 5 ii (.int .u8 0) Try.underlying34 hii hz0 hz1 hz2 rfl _ (28) ([byteOf h.op, 1, 6, byteOf h.hops] ++ four h.xid ++ two h.secs ++ two h.flags ++ [h.c0, h.c1, h.c2, h.c3] ++ [h.y0, h.y1, h.y2, h.y3] ++ [h.s0, h.s1, h.s2, h.s3] ++ [h.r0, h.r1, h.r2, h.r3]) rfl q4w (some ⟨g1, 21, none⟩) (6) (6) ([h.m0, h.m1, h.m2, h.m3, h.m4, h.m5]) rfl fm (by omega) lz_q4 ?_; intro v95 w66 own_ bb; replace en := en.under bl_en_sc bb; replace pb := pb.under bl_pb_sc bb; replace s0 := s0.under bl_s0_sc bb; replace sa := sa.under bl_sa_sc bb; replace sb := sb.under bl_sb_sc bb; clear fm; replace hp := blk_under hp bb y_sc_p.out; replace hb65 := blk_under hb65 bb y_sc_b65.out; replace bel := bel.trans (bb.mono sclo); have lz_q5 := Nat.le_trans lz_q4 bb.size; clear bb; clear q4 q4w lz_q4; replace own_ : w66.ownsRow (w58.heap.size) 5 1 v95 (34) (([byteOf h.op, 1, 6, byteOf h.hops] ++ four h.xid ++ two h.secs ++ two h.flags ++ [h.c0, h.c1, h.c2, h.c3] ++ [h.y0, h.y1, h.y2, h.y3] ++ [h.s0, h.s1, h.s2, h.s3] ++ [h.r0, h.r1, h.r2, h.r3] ++ [h.m0, h.m1, h.m2, h.m3, h.m4, h.m5] : List UInt8).map u8v) := own_; obtain ⟨A95, c95, rfl⟩ := own_val own_; have q5w := own_; have q5 := (own_sl own_).1; have fr_q5 := (own_sl own_).2; clear own_; have av_q5_p := fr_q5.av y_sc_p.out; have av_q5_b65 := fr_q5.av y_sc_b65.out) | ((with_reducible show wpList _ _ _ (⟨some 97, _, _, _, _, _⟩ :: _) _ _); refine wpList_append_zb rfl (.tmp 96) (.const (.int .i64 202)) 34 3 rfl (w58.heap.size) 5 ii .i64 Try.underlying34 Try.underlying3 hii hz0 hz1 hz2 _ (34) ([byteOf h.op, 1, 6, byteOf h.hops] ++ four h.xid ++ two h.secs ++ two h.flags ++ [h.c0, h.c1, h.c2, h.c3] ++ [h.y0, h.y1, h.y2, h.y3] ++ [h.s0, h.s1, h.s2, h.s3] ++ [h.r0, h.r1, h.r2, h.r3] ++ [h.m0, h.m1, h.m2, h.m3, h.m4, h.m5]) rfl q5w (202) rfl (by omega) lz_q5 ?_; intro v97 w67 own_ bb; replace en := en.under bl_en_sc bb; replace pb := pb.under bl_pb_sc bb; replace s0 := s0.under bl_s0_sc bb; replace sa := sa.under bl_sa_sc bb; replace sb := sb.under bl_sb_sc bb; replace hp := blk_under hp bb y_sc_p.out; replace hb65 := blk_under hb65 bb y_sc_b65.out; replace bel := bel.trans (bb.mono sclo); have lz_q6 := Nat.le_trans lz_q5 bb.size; clear bb; clear q5 q5w lz_q5; replace own_ : w67.ownsRow (w58.heap.size) 5 1 v97 (236) (([byteOf h.op, 1, 6, byteOf h.hops] ++ four h.xid ++ two h.secs ++ two h.flags ++ [h.c0, h.c1, h.c2, h.c3] ++ [h.y0, h.y1, h.y2, h.y3] ++ [h.s0, h.s1, h.s2, h.s3] ++ [h.r0, h.r1, h.r2, h.r3] ++ [h.m0, h.m1, h.m2, h.m3, h.m4, h.m5] ++ (List.replicate 202 0) : List UInt8).map u8v) := own_; obtain ⟨A97, c97, rfl⟩ := own_val own_; have q6w := own_; have q6 := (own_sl own_).1; have fr_q6 := (own_sl own_).2; clear own_; have av_q6_p := fr_q6.av y_sc_p.out; have av_q6_b65 := fr_q6.av y_sc_b65.out) | ((with_reducible show wpList _ _ _ (⟨some 99, _, _, _, _, _⟩ :: _) _ _); refine wpList_lit_n rfl 34 5 4 _ rfl #[.int .u8 99, .int .u8 130, .int .u8 83, .int .u8 99] (.int .u8 0) Try.underlying34 (by kernel_rfl) 1 (by kernel_rfl) (by decide) (by kernel_rfl) ?_; intro g99 w68 ge lt hh bb; have hl : w68.heap[g99]? = some (.cells (([99, 130, 83, 99] : List UInt8).map u8v).toArray 5 (0, 0)) := (by simpa [u8v, byteOf_val] using hh); have ckw := own_lit (B := w67.heap.size) ([99, 130, 83, 99]) hl ge 4 rfl (by simp [maxLen]); have ck := (own_sl ckw).1; have cklo := bel.size; clear hl; have ckge := ge; have lz_ck := bb.size; have y_ck_p := Lib.hid (hlt hp); have y_ck_b65 := Lib.hid (hlt hb65); have bl_en_ck := en.bl_new; have bl_pb_ck := pb.bl_new; have bl_s0_ck := s0.bl_new; have bl_sa_ck := sa.bl_new; have bl_sb_ck := sb.bl_new; have bl_q6_ck := q6.bl_new; have d_p_b99 := ne_new (hlt hp) ge; have d_b65_b99 := ne_new (hlt hb65) ge; have av_en_b99 := en.av_new ge; have av_pb_b99 := pb.av_new ge; have av_s0_b99 := s0.av_new ge; have av_sa_b99 := sa.av_new ge; have av_sb_b99 := sb.av_new ge; have av_q6_b99 := q6.av_new ge; have of_q6_b99 := own_new q6w ge; have ob99 := Nat.le_trans bel.size ge; replace hp := blk_u hp bb; replace hb65 := blk_u hb65 bb; replace en := en.below bb; replace pb := pb.below bb; replace s0 := s0.below bb; replace sa := sa.below bb; replace sb := sb.below bb; replace q6 := q6.below bb; replace q6w := own_under q6w bb; replace lz_q6 := Nat.le_trans lz_q6 bb.size; replace bel := bel.trans (bb.mono bel.size); have hb99 := hh; clear hh lt ge bb; have av_ck_p := (own_sl ckw).2.av y_ck_p.out; have av_ck_b65 := (own_sl ckw).2.av y_ck_b65.out) | ((with_reducible show wpList _ _ _ (⟨some 100, _, _, _, _, _⟩ :: _) _ _); refine wpList_append_bg _ rfl (.tmp 98) (.tmp 99) 34 rfl (w58.heap.size) 5 ii (.int .u8 0) Try.underlying34 hii hz0 hz1 hz2 rfl _ (236) ([byteOf h.op, 1, 6, byteOf h.hops] ++ four h.xid ++ two h.secs ++ two h.flags ++ [h.c0, h.c1, h.c2, h.c3] ++ [h.y0, h.y1, h.y2, h.y3] ++ [h.s0, h.s1, h.s2, h.s3] ++ [h.r0, h.r1, h.r2, h.r3] ++ [h.m0, h.m1, h.m2, h.m3, h.m4, h.m5] ++ (List.replicate 202 0)) rfl q6w (some ⟨g99, 0, none⟩) (4) (4) ([99, 130, 83, 99]) rfl ck (by omega) lz_q6 ?_; intro v100 w69 own_ bb gw ofw; have of100_b99 := ofw _ (hlt hb99) of_q6_b99; clear ofw; replace en := en.under bl_en_sc bb; replace pb := pb.under bl_pb_sc bb; replace s0 := s0.under bl_s0_sc bb; replace sa := sa.under bl_sa_sc bb; replace sb := sb.under bl_sb_sc bb; clear ck ckw lz_ck; replace hp := blk_under hp bb y_sc_p.out; replace hb65 := blk_under hb65 bb y_sc_b65.out; replace hb99 := blk_own hb99 gw of_q6_b99; clear gw; replace bel := bel.trans (bb.mono sclo); have lz_hd := Nat.le_trans lz_q6 bb.size; clear bb; clear q6 q6w lz_q6; replace own_ : w69.ownsRow (w58.heap.size) 5 1 v100 (240) (([byteOf h.op, 1, 6, byteOf h.hops] ++ four h.xid ++ two h.secs ++ two h.flags ++ [h.c0, h.c1, h.c2, h.c3] ++ [h.y0, h.y1, h.y2, h.y3] ++ [h.s0, h.s1, h.s2, h.s3] ++ [h.r0, h.r1, h.r2, h.r3] ++ [h.m0, h.m1, h.m2, h.m3, h.m4, h.m5] ++ (List.replicate 202 0) ++ [99, 130, 83, 99] : List UInt8).map u8v) := own_; obtain ⟨A100, c100, rfl⟩ := own_val own_; have hdw := own_; have hd := (own_sl own_).1; have fr_hd := (own_sl own_).2; clear own_; have av_hd_p := fr_hd.av y_sc_p.out; have av_hd_b65 := fr_hd.av y_sc_b65.out; have av_hd_b99 := own_av hdw of100_b99; replace hdw := own_out2 hdw; replace hd := (own_sl hdw).1) | ((with_reducible show wpList _ _ _ (⟨some 102, _, _, _, _, _⟩ :: _) _ _); refine wpList_append_bg _ rfl (.tmp 100) (.tmp 101) 34 rfl (w58.heap.size) 5 ii (.int .u8 0) Try.underlying34 hii hz0 hz1 hz2 rfl _ (240) (headB h) rfl hdw (A4) (np) (c4) ((putL L).1) rfl pb (by have := HMM.out; omega) lz_hd ?_; intro v102 w70 own_ bb gw ofw; have of102_b99 := ofw _ (hlt hb99) of100_b99; clear ofw; replace en := en.under bl_en_sc bb; replace pb := pb.under bl_pb_sc bb; replace s0 := s0.under bl_s0_sc bb; replace sa := sa.under bl_sa_sc bb; replace sb := sb.under bl_sb_sc bb; replace hp := blk_under hp bb y_sc_p.out; replace hb65 := blk_under hb65 bb y_sc_b65.out; replace hb99 := blk_own hb99 gw of100_b99; clear gw; replace bel := bel.trans (bb.mono sclo); have lz_ab := Nat.le_trans lz_hd bb.size; clear bb; clear hd hdw lz_hd; replace own_ : w70.ownsRow (w58.heap.size) 5 1 v102 (m) ((headB h ++ ((putL L).1) : List UInt8).map u8v) := (by have q_ := own_; rw [HMM.out] at q_; exact q_); obtain ⟨A102, c102, rfl⟩ := own_val own_; have abw := own_; have ab := (own_sl own_).1; have fr_ab := (own_sl own_).2; clear own_; have av_ab_p := fr_ab.av y_sc_p.out; have av_ab_b65 := fr_ab.av y_sc_b65.out; have av_ab_b99 := own_av abw of102_b99) | ((with_reducible show wpList _ _ _ (⟨some 110, _, _, _, _, _⟩ :: _) _ _); refine wpList_append_zb rfl (.tmp 106) (.tmp 109) 34 3 rfl (w58.heap.size) 5 ii .i64 Try.underlying34 Try.underlying3 hii hz0 hz1 hz2 _ (m) (headB h ++ ((putL L).1)) rfl abw (k) rfl (by have := HMK.out; omega) lz_ab ?_; intro v110 w71 own_ bb; replace en := en.under bl_en_sc bb; replace pb := pb.under bl_pb_sc bb; replace s0 := s0.under bl_s0_sc bb; replace sa := sa.under bl_sa_sc bb; replace sb := sb.under bl_sb_sc bb; replace hp := blk_under hp bb y_sc_p.out; replace hb65 := blk_under hb65 bb y_sc_b65.out; clear hb99; replace bel := bel.trans (bb.mono sclo); have lz_zr := Nat.le_trans lz_ab bb.size; clear bb; clear ab abw lz_ab; replace own_ : w71.ownsRow (w58.heap.size) 5 1 v110 (300) ((headB h ++ ((putL L).1) ++ (List.replicate (k) 0) : List UInt8).map u8v) := (by have q_ := own_; rw [HMK.out] at q_; exact q_); obtain ⟨A110, c110, rfl⟩ := own_val own_; have zrw := own_; have zr := (own_sl own_).1; have fr_zr := (own_sl own_).2; clear own_; have av_zr_p := fr_zr.av y_sc_p.out; have av_zr_b65 := fr_zr.av y_sc_b65.out))
  exact bodyPost_ret (v := .tuple #[.slice A110 300 c110, .int .i64 0]) (by simp [results, Try.results15, go_sem]) rfl ⟨_, _, _, by rw [HP.out], by rw [HP.out]; exact zr, bel⟩
end Go.Proofs.Ytmljgpefbbifmaa
