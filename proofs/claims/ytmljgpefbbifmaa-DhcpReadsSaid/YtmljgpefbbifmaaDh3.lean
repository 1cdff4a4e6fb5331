/- dhcp's Get. -/
import Derived.Test.YtmljgpefbbifmaaDh2
import Derived.Test.YtmljgpefbbifmaaDhg
namespace Go.Proofs.Ytmljgpefbbifmaa
open Go.RowKit

theorem take_at (x0 x1 x2 x3 x4 x5 x6 x7 x8 x9 x10 x11 x12 x13 x14 x15 x16 x17 x18 x19 x20 x21 x22 x23 x24 x25 x26 x27 x28 x29 x30 x31 x32 x33 k0 k1 k2 k3 : UInt8) (u r : List UInt8) (hu : u.length = 202) : List.take 240 (x0 :: x1 :: x2 :: x3 :: x4 :: x5 :: x6 :: x7 :: x8 :: x9 :: x10 :: x11 :: x12 :: x13 :: x14 :: x15 :: x16 :: x17 :: x18 :: x19 :: x20 :: x21 :: x22 :: x23 :: x24 :: x25 :: x26 :: x27 :: x28 :: x29 :: x30 :: x31 :: x32 :: x33 :: (u ++ k0 :: k1 :: k2 :: k3 :: r)) = x0 :: x1 :: x2 :: x3 :: x4 :: x5 :: x6 :: x7 :: x8 :: x9 :: x10 :: x11 :: x12 :: x13 :: x14 :: x15 :: x16 :: x17 :: x18 :: x19 :: x20 :: x21 :: x22 :: x23 :: x24 :: x25 :: x26 :: x27 :: x28 :: x29 :: x30 :: x31 :: x32 :: x33 :: (u ++ k0 :: k1 :: k2 :: k3 :: []) := by
  have e : ∀ t : List UInt8, List.take (34 + 206) (x0 :: x1 :: x2 :: x3 :: x4 :: x5 :: x6 :: x7 :: x8 :: x9 :: x10 :: x11 :: x12 :: x13 :: x14 :: x15 :: x16 :: x17 :: x18 :: x19 :: x20 :: x21 :: x22 :: x23 :: x24 :: x25 :: x26 :: x27 :: x28 :: x29 :: x30 :: x31 :: x32 :: x33 :: t) = x0 :: x1 :: x2 :: x3 :: x4 :: x5 :: x6 :: x7 :: x8 :: x9 :: x10 :: x11 :: x12 :: x13 :: x14 :: x15 :: x16 :: x17 :: x18 :: x19 :: x20 :: x21 :: x22 :: x23 :: x24 :: x25 :: x26 :: x27 :: x28 :: x29 :: x30 :: x31 :: x32 :: x33 :: List.take 206 t := fun t => rfl
  rw [show 240 = 34 + 206 from rfl, e, show u ++ k0 :: k1 :: k2 :: k3 :: r = (u ++ [k0, k1, k2, k3]) ++ r by simp, List.take_left' (by simp; omega)]
set_option linter.unusedVariables false in
set_option linter.unusedSimpArgs false in
set_option maxRecDepth 100000 in
set_option maxHeartbeats 16000000 in
theorem dget_any {A : Option Addr} {n c : Nat} {l : List UInt8} (w : World) (bs : Sl w A n c l) (hn : n ≤ 100000) : Calls Try.prog 8 #[.slice A n c] w fun e w' => ∃ h A' n' c' hs, e = .returned (.tuple #[.agg #[.int .i64 h.op, .int .i64 h.hops, .int .u32 h.xid, .int .i64 h.secs, .int .i64 h.flags, .int .u8 (h.c0.toNat : Int), .int .u8 (h.c1.toNat : Int), .int .u8 (h.c2.toNat : Int), .int .u8 (h.c3.toNat : Int), .int .u8 (h.y0.toNat : Int), .int .u8 (h.y1.toNat : Int), .int .u8 (h.y2.toNat : Int), .int .u8 (h.y3.toNat : Int), .int .u8 (h.s0.toNat : Int), .int .u8 (h.s1.toNat : Int), .int .u8 (h.s2.toNat : Int), .int .u8 (h.s3.toNat : Int), .int .u8 (h.r0.toNat : Int), .int .u8 (h.r1.toNat : Int), .int .u8 (h.r2.toNat : Int), .int .u8 (h.r3.toNat : Int), .int .u8 (h.m0.toNat : Int), .int .u8 (h.m1.toNat : Int), .int .u8 (h.m2.toNat : Int), .int .u8 (h.m3.toNat : Int), .int .u8 (h.m4.toNat : Int), .int .u8 (h.m5.toNat : Int), .slice A' n' c'], .int .i64 (dGet l).2]) ∧ h = (dGet l).1.1 ∧ (Sle opE 2 w' A' n' c' hs ∧ Bd w' hs (dGet l).1.2) ∧ n' ≤ 100000 ∧ (∀ x ∈ hs, x.n ≤ 100000) ∧ Below w.heap.size w w' := by
  have hn0 : (n : Int) ≤ 100000 := by omega
  have bel := Below.refl w.heap.size w
  go_enter Try.func8, Try.ntmps8
  by_cases hs : n < 240
  · have h240 : (n : Int) < 240 := by omega
    have HP : Hid (dGet l = ((Mh.zero, []), 3)) := Lib.hid (dget_short (by rw [bs.1]; exact hs))
    clear hs
    go_wp2_with (first | ((with_reducible show wpList _ _ _ (⟨some 2, _, _, _, _, _⟩ :: _) _ _); refine wpList_new_a rfl 30 rfl #[.int .i64 0, .int .i64 0, .int .u32 0, .int .i64 0, .int .i64 0, .int .u8 0, .int .u8 0, .int .u8 0, .int .u8 0, .int .u8 0, .int .u8 0, .int .u8 0, .int .u8 0, .int .u8 0, .int .u8 0, .int .u8 0, .int .u8 0, .int .u8 0, .int .u8 0, .int .u8 0, .int .u8 0, .int .u8 0, .int .u8 0, .int .u8 0, .int .u8 0, .int .u8 0, .int .u8 0, .slice none 0 0] (by kernel_rfl) ?_; intro g2 w1 ge hh bb; have av_bs_z := bs.av_new ge; have oz := Nat.le_trans bel.size ge; replace bs := bs.below bb; replace bel := bel.trans (bb.mono bel.size); have hz := hh; clear hh ge bb) | ((with_reducible show wpList _ _ _ (⟨none, Op.store _ (.tmp 2) _, _, _, _, _⟩ :: _) _ _); refine wpList_store_blk rfl 30 (.tmp 2) (.tmp 11) rfl g2 rfl _ rfl _ 30 hz (by rfl) (by kernel_rfl) (by kernel_rfl) ?_; intro w2 hq gr; replace bs := bs.away av_bs_z gr; replace bel := below_grown bel gr oz bel.size; clear hz; have hz := hq; clear hq gr))
    exact bodyPost_ret (results_cell_tmp_row rfl _ _ _ _ _ _ _ rfl hz Try.underlying30 rfl (by kernel_rfl) (.int .i64 3) rfl) rfl ⟨Mh.zero, none, 0, 0, [], by rw [HP.out]; rfl, by rw [HP.out], by rw [HP.out]; exact ⟨Sle.nil (by decide) opE_len _, Bd.nil _⟩, Nat.zero_le _, (fun x h => by cases h), bel⟩
  obtain ⟨x0, x1, x2, x3, x4, x5, x6, x7, x8, x9, x10, x11, x12, x13, x14, x15, x16, x17, x18, x19, x20, x21, x22, x23, x24, x25, x26, x27, x28, x29, x30, x31, x32, x33, k0, k1, k2, k3, u, r, hu, hl⟩ := list_head (l := l) (by have := bs.1; omega)
  have HU := Lib.hid hu
  have HTK : Hid (l.take 240 = x0 :: x1 :: x2 :: x3 :: x4 :: x5 :: x6 :: x7 :: x8 :: x9 :: x10 :: x11 :: x12 :: x13 :: x14 :: x15 :: x16 :: x17 :: x18 :: x19 :: x20 :: x21 :: x22 :: x23 :: x24 :: x25 :: x26 :: x27 :: x28 :: x29 :: x30 :: x31 :: x32 :: x33 :: (u ++ k0 :: k1 :: k2 :: k3 :: [])) := Lib.hid (by rw [hl]; exact take_at x0 x1 x2 x3 x4 x5 x6 x7 x8 x9 x10 x11 x12 x13 x14 x15 x16 x17 x18 x19 x20 x21 x22 x23 x24 x25 x26 x27 x28 x29 x30 x31 x32 x33 k0 k1 k2 k3 u r hu)
  have HDR : Hid (l.drop 240 = r) := Lib.hid (by rw [hl]; exact rest_at x0 x1 x2 x3 x4 x5 x6 x7 x8 x9 x10 x11 x12 x13 x14 x15 x16 x17 x18 x19 x20 x21 x22 x23 x24 x25 x26 x27 x28 x29 x30 x31 x32 x33 k0 k1 k2 k3 u r hu)
  have HL : Hid (hdL l = ⟨(x0.toNat : Int), (x3.toNat : Int), ((be [x4, x5, x6, x7] : Nat) : Int), ((be [x8, x9] : Nat) : Int), ((be [x10, x11] : Nat) : Int), x12, x13, x14, x15, x16, x17, x18, x19, x20, x21, x22, x23, x24, x25, x26, x27, x28, x29, x30, x31, x32, x33⟩) := Lib.hid (by rw [hl]; exact hd_at x0 x1 x2 x3 x4 x5 x6 x7 x8 x9 x10 x11 x12 x13 x14 x15 x16 x17 x18 x19 x20 x21 x22 x23 x24 x25 x26 x27 x28 x29 x30 x31 x32 x33 _)
  have HOKE : Hid ((isOp (x0.toNat : Int) && ((x1.toNat : Int) == 1) && ((x2.toNat : Int) == 6) && (((be [k0, k1, k2, k3] : Nat) : Int) == 1669485411)) = okH l) := Lib.hid (by rw [hl]; exact (ok_at x0 x1 x2 x3 x4 x5 x6 x7 x8 x9 x10 x11 x12 x13 x14 x15 x16 x17 x18 x19 x20 x21 x22 x23 x24 x25 x26 x27 x28 x29 x30 x31 x32 x33 k0 k1 k2 k3 u r hu).symm)
  have hlen : ¬ l.length < 240 := by have := bs.1; omega
  have h240 : decide ((n : Int) < 240) = false := decide_eq_false (by omega)
  obtain ⟨nr, hnr⟩ : ∃ k, n - 240 = k := ⟨_, rfl⟩
  have HNR := Lib.hid hnr
  have HNN := Lib.hid hn
  have h240n : (240 : Int) ≤ n := by omega
  clear hu hl hnr hs
  go_wp2_with (first | ((with_reducible show wpList _ _ _ (⟨some 2, _, _, _, _, _⟩ :: _) _ _); refine wpList_new_a rfl 30 rfl #[.int .i64 0, .int .i64 0, .int .u32 0, .int .i64 0, .int .i64 0, .int .u8 0, .int .u8 0, .int .u8 0, .int .u8 0, .int .u8 0, .int .u8 0, .int .u8 0, .int .u8 0, .int .u8 0, .int .u8 0, .int .u8 0, .int .u8 0, .int .u8 0, .int .u8 0, .int .u8 0, .int .u8 0, .int .u8 0, .int .u8 0, .int .u8 0, .int .u8 0, .int .u8 0, .int .u8 0, .slice none 0 0] (by kernel_rfl) ?_; intro g2 w1 ge hh bb; have av_bs_z := bs.av_new ge; have oz := Nat.le_trans bel.size ge; replace bs := bs.below bb; replace bel := bel.trans (bb.mono bel.size); have hz := hh; clear hh ge bb; obtain ⟨Afb, cfb, r14, f14, u14⟩ := piece_front bs (k := 240) (by omega); replace r14 : ∀ W, (Instr.slice 34 (.slice A n c) none (some (.int .i64 240)) none).run Try.prog W = .ok (.slice Afb 240 cfb) W := r14; have fb : Sl w1 Afb 240 cfb (x0 :: x1 :: x2 :: x3 :: x4 :: x5 :: x6 :: x7 :: x8 :: x9 :: x10 :: x11 :: x12 :: x13 :: x14 :: x15 :: x16 :: x17 :: x18 :: x19 :: x20 :: x21 :: x22 :: x23 :: x24 :: x25 :: x26 :: x27 :: x28 :: x29 :: x30 :: x31 :: x32 :: x33 :: (u ++ k0 :: k1 :: k2 :: k3 :: [])) := (by (rw [← HTK.out]; exact f14 _ bs)); have av_fb_z := av_bs_z.sub u14; clear f14 u14))
  obtain ⟨lo, hlo_⟩ : ∃ lo, w1.heap.size = lo := ⟨_, rfl⟩
  have lo_le : w.heap.size ≤ lo := hlo_ ▸ bel.size
  have y_lob_z := Lib.hid (hlt hz)
  have bl_bs_lob := bs.bl_new
  have bl_fb_lob := fb.bl_new
  rw [hlo_] at y_lob_z bl_bs_lob bl_fb_lob
  go_wp2_with fail
  with_reducible refine (rs_read _ _ _ _ _ fb (by omega)).mono ?_
  rintro e w2 ⟨gr, rfl, org, hr, b2⟩
  replace hz := blk_u hz b2
  replace bs := bs.below b2
  replace fb := fb.below b2
  replace bel := bel.trans (b2.mono bel.size)
  clear b2
  rw [hlo_] at org
  have hrl := Nat.le_trans org (Nat.le_of_lt hr.2)
  rcases (by decide : ∀ b : Bool, b = true ∨ b = false) (okH l) with hok | hok
  rotate_left
  · have HOK := Lib.hid hok
    have HP : Hid (dGet l = ((Mh.zero, []), 4)) := Lib.hid (dget_bad hlen hok)
    clear hok hlen
    go_wp2_with fail
    with_reducible refine (dhead_any _ hrl org hr HU.out).mono ?_
    rintro e w3 ⟨rfl, b3⟩
    replace bel := bel.trans (b3.mono lo_le)
    replace hz := blk_under hz b3 y_lob_z.out
    replace bs := bs.under bl_bs_lob b3
    replace fb := fb.under bl_fb_lob b3
    clear b3
    rw [HOKE.out, HOK.out]
    clear hr org hrl
    go_wp2_with (first | ((with_reducible show wpList _ _ _ (⟨some 4, _, _, _, _, _⟩ :: _) _ _); refine wpList_new_a rfl 30 rfl #[.int .i64 0, .int .i64 0, .int .u32 0, .int .i64 0, .int .i64 0, .int .u8 0, .int .u8 0, .int .u8 0, .int .u8 0, .int .u8 0, .int .u8 0, .int .u8 0, .int .u8 0, .int .u8 0, .int .u8 0, .int .u8 0, .int .u8 0, .int .u8 0, .int .u8 0, .int .u8 0, .int .u8 0, .int .u8 0, .int .u8 0, .int .u8 0, .int .u8 0, .int .u8 0, .int .u8 0, .slice none 0 0] (by kernel_rfl) ?_; intro g4 w4 ge hh bb; have d_z_m := ne_new (hlt hz) ge; have av_bs_m := bs.av_new ge; have av_fb_m := fb.av_new ge; have om := Nat.le_trans bel.size ge; replace hz := blk_u hz bb; replace bs := bs.below bb; replace fb := fb.below bb; replace bel := bel.trans (bb.mono bel.size); have hm := hh; clear hh ge bb) | ((with_reducible show wpList _ _ _ (⟨none, Op.store _ (.tmp 4) _, _, _, _, _⟩ :: _) _ _); refine wpList_store_blk rfl 30 (.tmp 4) (.tmp 17) rfl g4 rfl _ rfl _ 30 hm (by rfl) (by kernel_rfl) (by kernel_rfl) ?_; intro w5 hq gr; replace bs := bs.away av_bs_m gr; replace fb := fb.away av_fb_m gr; replace hz := blk_a hz gr d_z_m; replace bel := below_grown bel gr om bel.size; clear hm; have hm := hq; clear hq gr) | ((with_reducible show wpList _ _ _ (⟨none, Op.store _ (.tmp 2) _, _, _, _, _⟩ :: _) _ _); refine wpList_store_blk rfl 30 (.tmp 2) (.tmp 21) rfl g2 rfl _ rfl _ 30 hz (by rfl) (by kernel_rfl) (by kernel_rfl) ?_; intro w6 hq gr; replace bs := bs.away av_bs_z gr; replace fb := fb.away av_fb_z gr; replace hm := blk_a hm gr (ne_symm d_z_m); replace bel := below_grown bel gr oz bel.size; clear hz; have hz := hq; clear hq gr))
    exact bodyPost_ret (results_cell_tmp_row rfl _ _ _ _ _ _ _ rfl hz Try.underlying30 rfl (by kernel_rfl) (.int .i64 4) rfl) rfl ⟨Mh.zero, none, 0, 0, [], by rw [HP.out]; rfl, by rw [HP.out], by rw [HP.out]; exact ⟨Sle.nil (by decide) opE_len _, Bd.nil _⟩, Nat.zero_le _, (fun x h => by cases h), bel⟩
  have HOK := Lib.hid hok
  go_wp2_with fail
  with_reducible refine (dhead_any _ hrl org hr HU.out).mono ?_
  rintro e w3 ⟨rfl, b3⟩
  replace bel := bel.trans (b3.mono lo_le)
  replace hz := blk_under hz b3 y_lob_z.out
  replace bs := bs.under bl_bs_lob b3
  replace fb := fb.under bl_fb_lob b3
  clear b3
  rw [HOKE.out, HOK.out]
  clear hr org hrl
  rcases hq : getL r [] with _ | L0
  · have HG1 : Hid ((getS r).1 = []) := Lib.hid (by rw [gets_no hq])
    have HG2 : Hid ((getS r).2 = 3) := Lib.hid (by rw [gets_no hq])
    have HP : Hid (dGet l = ((Mh.zero, []), 3)) := Lib.hid (dget_cut hlen hok (by rw [HDR.out]; exact hq))
    clear hq hok hlen
    go_wp2_with (first | ((with_reducible show wpList _ _ _ (⟨some 4, _, _, _, _, _⟩ :: _) _ _); refine wpList_new_a rfl 30 rfl #[.int .i64 0, .int .i64 0, .int .u32 0, .int .i64 0, .int .i64 0, .int .u8 0, .int .u8 0, .int .u8 0, .int .u8 0, .int .u8 0, .int .u8 0, .int .u8 0, .int .u8 0, .int .u8 0, .int .u8 0, .int .u8 0, .int .u8 0, .int .u8 0, .int .u8 0, .int .u8 0, .int .u8 0, .int .u8 0, .int .u8 0, .int .u8 0, .int .u8 0, .int .u8 0, .int .u8 0, .slice none 0 0] (by kernel_rfl) ?_; intro g4 w4 ge hh bb; have d_z_m := ne_new (hlt hz) ge; have av_bs_m := bs.av_new ge; have av_fb_m := fb.av_new ge; have om := Nat.le_trans bel.size ge; replace hz := blk_u hz bb; replace bs := bs.below bb; replace fb := fb.below bb; replace bel := bel.trans (bb.mono bel.size); have hm := hh; clear hh ge bb) | ((with_reducible show wpList _ _ _ (⟨none, Op.store _ (.tmp 4) _, _, _, _, _⟩ :: _) _ _); refine wpList_store_blk rfl 30 (.tmp 4) (.tmp 17) rfl g4 rfl _ rfl _ 30 hm (by rfl) (by kernel_rfl) (by kernel_rfl) ?_; intro w5 hq gr; replace bs := bs.away av_bs_m gr; replace fb := fb.away av_fb_m gr; replace hz := blk_a hz gr d_z_m; replace bel := below_grown bel gr om bel.size; clear hm; have hm := hq; clear hq gr; obtain ⟨Arb, crb, r24, f24, u24⟩ := piece_back bs (k := 240) (by omega); rw [show n - 240 = nr from HNR.out] at r24 f24 u24; replace r24 : ∀ W, (Instr.slice 34 (.slice A n c) (some (.int .i64 240)) none none).run Try.prog W = .ok (.slice Arb nr crb) W := r24; have rb : Sl w5 Arb nr crb (r) := (by (rw [← HDR.out]; have q_ := f24 _ bs; exact q_)); have av_rb_z := av_bs_z.sub u24; have av_rb_m := av_bs_m.sub u24; have bl_rb_lob := bl_bs_lob.sub u24; clear f24 u24))
    with_reducible refine (oget_bo _ rb (by have := HNR.out; omega)).mono ?_
    rintro e w6 ⟨A9, n9, c9, hs9, B, rfl, hB_, own, bo, hn9, hb9, b6⟩
    replace hz := blk_u hz b6
    replace hm := blk_u hm b6
    replace bs := bs.below b6
    replace fb := fb.below b6
    replace rb := rb.below b6
    replace bel := bel.trans (b6.mono bel.size)
    clear b6
    rw [HG1.out] at bo
    rw [HG2.out]
    have HN9 := Lib.hid hn9
    have HB9 := Lib.hid hb9
    clear hn9 hb9 hB_
    go_wp2_with (first | ((with_reducible show wpList _ _ _ (⟨none, Op.store _ (.tmp 2) _, _, _, _, _⟩ :: _) _ _); refine wpList_store_blk rfl 30 (.tmp 2) (.tmp 30) rfl g2 rfl _ rfl _ 30 hz (by rfl) (by kernel_rfl) (by kernel_rfl) ?_; intro w7 hq gr; replace bs := bs.away av_bs_z gr; replace fb := fb.away av_fb_z gr; replace rb := rb.away av_rb_z gr; replace hm := blk_a hm gr (ne_symm d_z_m); replace own := (kt_grown gr hz (by simp) : Kt [30] _ _).own own (by decide); replace bo := bo.kt (kt_grown gr hz (by simp) : Kt [30] _ _) (by decide); replace bel := below_grown bel gr oz bel.size; clear hz; have hz := hq; clear hq gr))
    exact bodyPost_ret (results_cell_tmp_row rfl _ _ _ _ _ _ _ rfl hz Try.underlying30 rfl (by kernel_rfl) (.int .i64 3) rfl) rfl ⟨Mh.zero, none, 0, 0, [], by rw [HP.out]; rfl, by rw [HP.out], by rw [HP.out]; exact ⟨Sle.nil (by decide) opE_len _, Bd.nil _⟩, Nat.zero_le _, (fun x h => by cases h), bel⟩
  have HG1 : Hid ((getS r).1 = L0) := Lib.hid (by rw [gets_ok hq])
  have HG2 : Hid ((getS r).2 = 0) := Lib.hid (by rw [gets_ok hq])
  have hq2 : getL (l.drop 240) [] = some L0 := by rw [HDR.out]; exact hq
  clear hq
  obtain ⟨tt, htt⟩ : ∃ x, typeL L0 = x := ⟨_, rfl⟩
  have HTT := Lib.hid htt
  go_wp2_with (first | ((with_reducible show wpList _ _ _ (⟨some 4, _, _, _, _, _⟩ :: _) _ _); refine wpList_new_a rfl 30 rfl #[.int .i64 0, .int .i64 0, .int .u32 0, .int .i64 0, .int .i64 0, .int .u8 0, .int .u8 0, .int .u8 0, .int .u8 0, .int .u8 0, .int .u8 0, .int .u8 0, .int .u8 0, .int .u8 0, .int .u8 0, .int .u8 0, .int .u8 0, .int .u8 0, .int .u8 0, .int .u8 0, .int .u8 0, .int .u8 0, .int .u8 0, .int .u8 0, .int .u8 0, .int .u8 0, .int .u8 0, .slice none 0 0] (by kernel_rfl) ?_; intro g4 w4 ge hh bb; have d_z_m := ne_new (hlt hz) ge; have av_bs_m := bs.av_new ge; have av_fb_m := fb.av_new ge; have om := Nat.le_trans bel.size ge; replace hz := blk_u hz bb; replace bs := bs.below bb; replace fb := fb.below bb; replace bel := bel.trans (bb.mono bel.size); have hm := hh; clear hh ge bb) | ((with_reducible show wpList _ _ _ (⟨none, Op.store _ (.tmp 4) _, _, _, _, _⟩ :: _) _ _); refine wpList_store_blk rfl 30 (.tmp 4) (.tmp 17) rfl g4 rfl _ rfl _ 30 hm (by rfl) (by kernel_rfl) (by kernel_rfl) ?_; intro w5 hq gr; replace bs := bs.away av_bs_m gr; replace fb := fb.away av_fb_m gr; replace hz := blk_a hz gr d_z_m; replace bel := below_grown bel gr om bel.size; clear hm; have hm := hq; clear hq gr; obtain ⟨Arb, crb, r24, f24, u24⟩ := piece_back bs (k := 240) (by omega); rw [show n - 240 = nr from HNR.out] at r24 f24 u24; replace r24 : ∀ W, (Instr.slice 34 (.slice A n c) (some (.int .i64 240)) none none).run Try.prog W = .ok (.slice Arb nr crb) W := r24; have rb : Sl w5 Arb nr crb (r) := (by (rw [← HDR.out]; have q_ := f24 _ bs; exact q_)); have av_rb_z := av_bs_z.sub u24; have av_rb_m := av_bs_m.sub u24; have bl_rb_lob := bl_bs_lob.sub u24; clear f24 u24))
  with_reducible refine (oget_bo _ rb (by have := HNR.out; omega)).mono ?_
  rintro e w6 ⟨A9, n9, c9, hs9, B, rfl, hB_, own, bo, hn9, hb9, b6⟩
  replace hz := blk_u hz b6
  replace hm := blk_u hm b6
  replace bs := bs.below b6
  replace fb := fb.below b6
  replace rb := rb.below b6
  replace bel := bel.trans (b6.mono bel.size)
  clear b6
  rw [HG1.out] at bo
  rw [HG2.out]
  have HN9 := Lib.hid hn9
  have HB9 := Lib.hid hb9
  clear hn9 hb9 hB_
  go_wp2_with (first | ((with_reducible show wpList _ _ _ (⟨none, Op.store _ (.tmp 33) _, _, _, _, _⟩ :: _) _ _); refine wpList_store_part rfl 28 (.tmp 33) (.tmp 32) rfl g4 27 rfl [.slice A9 n9 c9] rfl [.int .i64 (x0.toNat : Int), .int .i64 (x3.toNat : Int), .int .u32 ((be [x4, x5, x6, x7] : Nat) : Int), .int .i64 ((be [x8, x9] : Nat) : Int), .int .i64 ((be [x10, x11] : Nat) : Int), .int .u8 (x12.toNat : Int), .int .u8 (x13.toNat : Int), .int .u8 (x14.toNat : Int), .int .u8 (x15.toNat : Int), .int .u8 (x16.toNat : Int), .int .u8 (x17.toNat : Int), .int .u8 (x18.toNat : Int), .int .u8 (x19.toNat : Int), .int .u8 (x20.toNat : Int), .int .u8 (x21.toNat : Int), .int .u8 (x22.toNat : Int), .int .u8 (x23.toNat : Int), .int .u8 (x24.toNat : Int), .int .u8 (x25.toNat : Int), .int .u8 (x26.toNat : Int), .int .u8 (x27.toNat : Int), .int .u8 (x28.toNat : Int), .int .u8 (x29.toNat : Int), .int .u8 (x30.toNat : Int), .int .u8 (x31.toNat : Int), .int .u8 (x32.toNat : Int), .int .u8 (x33.toNat : Int), .slice none 0 0] 30 hm (by simp) [.int .i64 (x0.toNat : Int), .int .i64 (x3.toNat : Int), .int .u32 ((be [x4, x5, x6, x7] : Nat) : Int), .int .i64 ((be [x8, x9] : Nat) : Int), .int .i64 ((be [x10, x11] : Nat) : Int), .int .u8 (x12.toNat : Int), .int .u8 (x13.toNat : Int), .int .u8 (x14.toNat : Int), .int .u8 (x15.toNat : Int), .int .u8 (x16.toNat : Int), .int .u8 (x17.toNat : Int), .int .u8 (x18.toNat : Int), .int .u8 (x19.toNat : Int), .int .u8 (x20.toNat : Int), .int .u8 (x21.toNat : Int), .int .u8 (x22.toNat : Int), .int .u8 (x23.toNat : Int), .int .u8 (x24.toNat : Int), .int .u8 (x25.toNat : Int), .int .u8 (x26.toNat : Int), .int .u8 (x27.toNat : Int), .int .u8 (x28.toNat : Int), .int .u8 (x29.toNat : Int), .int .u8 (x30.toNat : Int), .int .u8 (x31.toNat : Int), .int .u8 (x32.toNat : Int), .int .u8 (x33.toNat : Int), .slice A9 n9 c9] rfl (by kernel_rfl) (by rfl) ?_; intro w7 hq gr; replace bs := bs.away av_bs_m gr; replace fb := fb.away av_fb_m gr; replace rb := rb.away av_rb_m gr; replace hz := blk_a hz gr d_z_m; replace own := (kt_grown gr hm (by simp) : Kt [30] _ _).own own (by decide); replace bo := bo.kt (kt_grown gr hm (by simp) : Kt [30] _ _) (by decide); replace bel := below_grown bel gr om bel.size; clear hm; have hm := hq; clear hq gr; have R34 := Lib.hid (range_lit hm 0 28 [.int .i64 (x0.toNat : Int), .int .i64 (x3.toNat : Int), .int .u32 ((be [x4, x5, x6, x7] : Nat) : Int), .int .i64 ((be [x8, x9] : Nat) : Int), .int .i64 ((be [x10, x11] : Nat) : Int), .int .u8 (x12.toNat : Int), .int .u8 (x13.toNat : Int), .int .u8 (x14.toNat : Int), .int .u8 (x15.toNat : Int), .int .u8 (x16.toNat : Int), .int .u8 (x17.toNat : Int), .int .u8 (x18.toNat : Int), .int .u8 (x19.toNat : Int), .int .u8 (x20.toNat : Int), .int .u8 (x21.toNat : Int), .int .u8 (x22.toNat : Int), .int .u8 (x23.toNat : Int), .int .u8 (x24.toNat : Int), .int .u8 (x25.toNat : Int), .int .u8 (x26.toNat : Int), .int .u8 (x27.toNat : Int), .int .u8 (x28.toNat : Int), .int .u8 (x29.toNat : Int), .int .u8 (x30.toNat : Int), .int .u8 (x31.toNat : Int), .int .u8 (x32.toNat : Int), .int .u8 (x33.toNat : Int), .slice A9 n9 c9] rfl)) | ((with_reducible show wpList _ _ _ (⟨some 34, _, _, _, _, _⟩ :: _) _ _); refine wpList_load_rng 30 (.tmp 4) rfl (by kernel_rfl) _ _ rfl _ R34.out _ Try.underlying30 rfl (by kernel_rfl) ?_))
  try clear R34
  with_reducible refine (dtype_any (h := ⟨(x0.toNat : Int), (x3.toNat : Int), ((be [x4, x5, x6, x7] : Nat) : Int), ((be [x8, x9] : Nat) : Int), ((be [x10, x11] : Nat) : Int), x12, x13, x14, x15, x16, x17, x18, x19, x20, x21, x22, x23, x24, x25, x26, x27, x28, x29, x30, x31, x32, x33⟩) _ (owk_sle (by decide) opE_len own).1 bo.bd HN9.out HB9.out).mono ?_
  rintro e w8 ⟨rfl, b8⟩
  replace hz := blk_u hz b8
  replace hm := blk_u hm b8
  replace bs := bs.below b8
  replace fb := fb.below b8
  replace rb := rb.below b8
  replace own := owk_under own b8
  replace bo := bo.below b8
  replace bel := bel.trans (b8.mono bel.size)
  clear b8
  rw [HTT.out]
  by_cases ht : tt = 0
  · have e0 : ((tt : Int) == 0) = true := by rw [ht]; rfl
    have HP : Hid (dGet l = ((Mh.zero, []), 4)) := Lib.hid (dget_type hlen hok hq2 (by rw [htt]; exact ht))
    clear htt hok hlen ht hq2
    go_wp2_with (first | ((with_reducible show wpList _ _ _ (⟨none, Op.store _ (.tmp 2) _, _, _, _, _⟩ :: _) _ _); refine wpList_store_blk rfl 30 (.tmp 2) (.tmp 37) rfl g2 rfl _ rfl _ 30 hz (by rfl) (by kernel_rfl) (by kernel_rfl) ?_; intro w9 hq gr; replace bs := bs.away av_bs_z gr; replace fb := fb.away av_fb_z gr; replace rb := rb.away av_rb_z gr; replace hm := blk_a hm gr (ne_symm d_z_m); replace own := (kt_grown gr hz (by simp) : Kt [30] _ _).own own (by decide); replace bo := bo.kt (kt_grown gr hz (by simp) : Kt [30] _ _) (by decide); replace bel := below_grown bel gr oz bel.size; clear hz; have hz := hq; clear hq gr))
    exact bodyPost_ret (results_cell_tmp_row rfl _ _ _ _ _ _ _ rfl hz Try.underlying30 rfl (by kernel_rfl) (.int .i64 4) rfl) rfl ⟨Mh.zero, none, 0, 0, [], by rw [HP.out]; rfl, by rw [HP.out], by rw [HP.out]; exact ⟨Sle.nil (by decide) opE_len _, Bd.nil _⟩, Nat.zero_le _, (fun x h => by cases h), bel⟩
  have e0 : ((tt : Int) == 0) = false := beq_eq_false_iff_ne.2 (by omega)
  have HP : Hid (dGet l = ((hdL l, L0), 0)) := Lib.hid (dget_ok hlen hok hq2 (by rw [htt]; exact ht))
  clear htt hok hlen ht hq2
  have R38 := Lib.hid (range_lit hm 0 28 [.int .i64 (x0.toNat : Int), .int .i64 (x3.toNat : Int), .int .u32 ((be [x4, x5, x6, x7] : Nat) : Int), .int .i64 ((be [x8, x9] : Nat) : Int), .int .i64 ((be [x10, x11] : Nat) : Int), .int .u8 (x12.toNat : Int), .int .u8 (x13.toNat : Int), .int .u8 (x14.toNat : Int), .int .u8 (x15.toNat : Int), .int .u8 (x16.toNat : Int), .int .u8 (x17.toNat : Int), .int .u8 (x18.toNat : Int), .int .u8 (x19.toNat : Int), .int .u8 (x20.toNat : Int), .int .u8 (x21.toNat : Int), .int .u8 (x22.toNat : Int), .int .u8 (x23.toNat : Int), .int .u8 (x24.toNat : Int), .int .u8 (x25.toNat : Int), .int .u8 (x26.toNat : Int), .int .u8 (x27.toNat : Int), .int .u8 (x28.toNat : Int), .int .u8 (x29.toNat : Int), .int .u8 (x30.toNat : Int), .int .u8 (x31.toNat : Int), .int .u8 (x32.toNat : Int), .int .u8 (x33.toNat : Int), .slice A9 n9 c9] rfl)
  go_wp2_with (first | ((with_reducible show wpList _ _ _ (⟨some 38, _, _, _, _, _⟩ :: _) _ _); refine wpList_load_rng 30 (.tmp 4) rfl (by kernel_rfl) _ _ rfl _ R38.out _ Try.underlying30 rfl (by kernel_rfl) ?_) | ((with_reducible show wpList _ _ _ (⟨none, Op.store _ (.tmp 2) _, _, _, _, _⟩ :: _) _ _); refine wpList_store_blk rfl 30 (.tmp 2) (.tmp 38) rfl g2 rfl _ rfl _ 30 hz (by rfl) (by kernel_rfl) (by kernel_rfl) ?_; intro w9 hq gr; replace bs := bs.away av_bs_z gr; replace fb := fb.away av_fb_z gr; replace rb := rb.away av_rb_z gr; replace hm := blk_a hm gr (ne_symm d_z_m); replace own := (kt_grown gr hz (by simp) : Kt [30] _ _).own own (by decide); replace bo := bo.kt (kt_grown gr hz (by simp) : Kt [30] _ _) (by decide); replace bel := below_grown bel gr oz bel.size; clear hz; have hz := hq; clear hq gr))
  try clear R38
  exact bodyPost_ret (results_cell_tmp_row rfl _ _ _ _ _ _ _ rfl hz Try.underlying30 rfl (by kernel_rfl) (.int .i64 0) rfl) rfl ⟨⟨(x0.toNat : Int), (x3.toNat : Int), ((be [x4, x5, x6, x7] : Nat) : Int), ((be [x8, x9] : Nat) : Int), ((be [x10, x11] : Nat) : Int), x12, x13, x14, x15, x16, x17, x18, x19, x20, x21, x22, x23, x24, x25, x26, x27, x28, x29, x30, x31, x32, x33⟩, A9, n9, c9, hs9, by rw [HP.out], by rw [HP.out, HL.out], by rw [HP.out]; exact ⟨(owk_sle (by decide) opE_len own).1, bo.bd⟩, HN9.out, HB9.out, bel⟩
end Go.Proofs.Ytmljgpefbbifmaa
