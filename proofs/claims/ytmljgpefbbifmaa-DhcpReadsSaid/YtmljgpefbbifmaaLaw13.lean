/- DhcpReads. -/
import Derived.Test.YtmljgpefbbifmaaDh8
namespace Go.Proofs.Ytmljgpefbbifmaa
open Go.RowKit

set_option linter.unusedVariables false in
set_option linter.unusedSimpArgs false in
set_option maxRecDepth 100000 in
set_option maxHeartbeats 16000000 in
theorem dhcpReads_walk (A : Option Addr) (n c : Nat) (l : List UInt8) (w : World) (bs : Sl w A n c l) : Calls Try.prog 4 #[.slice A n c] w fun e w' => e = .returned (.bool true) ∧ Below w.heap.size w w' := by
  obtain ⟨ii, hii, hz0, hz1, hz2⟩ := info_parts Try.info_u8
  have bel := Below.refl w.heap.size w
  go_enter Try.func4, Try.ntmps4
  go_wp2_with fail
  with_reducible refine (awake13_any _).mono ?_
  rintro e w1 ⟨rfl, b1⟩
  replace bs := bs.below b1
  replace bel := bel.trans (b1.mono bel.size)
  clear b1
  by_cases h16 : 1600 < n
  · have h16i : (1600 : Int) < n := by omega
    go_wp2_with fail
    go_ret
    exact ⟨rfl, bel⟩
  have h16i : decide ((1600 : Int) < n) = false := decide_eq_false (by omega)
  obtain ⟨er, her⟩ : ∃ x, (dGet l).2 = x := ⟨_, rfl⟩
  have HER := Lib.hid her
  have eer : (er == er) = true := beq_self_eq_true er
  clear her
  go_wp2_with (first | ((with_reducible show wpList _ _ _ (⟨some 13, _, _, _, _, _⟩ :: _) _ _); refine wpList_lit_n rfl 34 5 0 _ rfl #[] (.int .u8 0) Try.underlying34 (by kernel_rfl) 1 (by kernel_rfl) (by decide) (by kernel_rfl) ?_; intro g13 w2 ge lt hh bb; have hl : w2.heap[g13]? = some (.cells (([] : List UInt8).map u8v).toArray 5 (0, 0)) := (by simpa [u8v, byteOf_val] using hh); have ebw := own_lit (B := w1.heap.size) ([]) hl ge 0 rfl (by simp [maxLen]); have eb := (own_sl ebw).1; have eblo := bel.size; clear hl; have ebge := ge; have lz_eb := bb.size; have bl_bs_eb := bs.bl_new; replace bs := bs.below bb; replace bel := bel.trans (bb.mono bel.size); clear hh lt ge bb) | ((with_reducible show wpList _ _ _ (⟨some 15, _, _, _, _, _⟩ :: _) _ _); refine wpList_append_bb _ rfl (.tmp 13) (.tmp 14) 34 rfl (w1.heap.size) 5 ii (.int .u8 0) Try.underlying34 hii hz0 hz1 hz2 rfl _ (0) ([]) rfl ebw (A) (n) (c) (l) rfl bs (by omega) lz_eb ?_; intro v15 w3 own_ bb; replace bs := bs.under bl_bs_eb bb; replace bel := bel.trans (bb.mono eblo); have lz_rb := Nat.le_trans lz_eb bb.size; clear bb; clear eb ebw lz_eb; replace own_ : w3.ownsRow (w1.heap.size) 5 1 v15 (n) ((l : List UInt8).map u8v) := (by simpa using own_); obtain ⟨A15, c15, rfl⟩ := own_val own_; have rbw := own_; have rb := (own_sl own_).1; have fr_rb := (own_sl own_).2; clear own_))
  with_reducible refine (dget_any _ rb (by omega)).mono ?_
  rintro e w4 ⟨h2, A1, n1, c1, hs, rfl, hh, ⟨en, hbd⟩, hn1, hb1, b4⟩
  replace bs := bs.below b4
  replace rb := rb.below b4
  replace rbw := own_under rbw b4
  replace lz_rb := Nat.le_trans lz_rb b4.size
  replace bel := bel.trans (b4.mono bel.size)
  clear b4
  replace en : Sle opE 2 w4 (A1) (n1) (c1) (hs) := en
  rw [HER.out]
  have HBD := Lib.hid hbd
  have HN1 := Lib.hid hn1
  have HH := Lib.hid hh
  clear hbd hn1 hb1 hh
  have bd1 := Below.refl w4.heap.size w4
  go_wp2_with (first | ((with_reducible show wpList _ _ _ (⟨some 3, _, _, _, _, _⟩ :: _) _ _); refine wpList_new_a rfl 30 rfl #[.int .i64 0, .int .i64 0, .int .u32 0, .int .i64 0, .int .i64 0, .int .u8 0, .int .u8 0, .int .u8 0, .int .u8 0, .int .u8 0, .int .u8 0, .int .u8 0, .int .u8 0, .int .u8 0, .int .u8 0, .int .u8 0, .int .u8 0, .int .u8 0, .int .u8 0, .int .u8 0, .int .u8 0, .int .u8 0, .int .u8 0, .int .u8 0, .int .u8 0, .int .u8 0, .int .u8 0, .slice none 0 0] (by kernel_rfl) ?_; intro g3 w5 ge hh bb; have av_bs_m := bs.av_new ge; have av_rb_m := rb.av_new ge; have of_rb_m := own_new rbw ge; have av_en_m := en.av_new ge; have om := Nat.le_trans bel.size ge; have o1_m := Nat.le_trans bd1.size ge; replace bs := bs.below bb; replace rb := rb.below bb; replace rbw := own_under rbw bb; replace en := en.below bb; replace lz_rb := Nat.le_trans lz_rb bb.size; replace bd1 := bd1.trans (bb.mono bd1.size); replace bel := bel.trans (bb.mono bel.size); have hm := hh; clear hh ge bb) | ((with_reducible show wpList _ _ _ (⟨none, Op.store _ (.tmp 3) _, _, _, _, _⟩ :: _) _ _); refine wpList_store_blk rfl 30 (.tmp 3) (.tmp 17) rfl g3 rfl _ rfl _ 30 hm (by rfl) (by kernel_rfl) (by kernel_rfl) ?_; intro w6 hq gr; replace bs := bs.away av_bs_m gr; replace rb := rb.away av_rb_m gr; replace rbw := own_off rbw of_rb_m gr; replace en := en.away av_en_m gr; replace lz_rb := Nat.le_trans lz_rb gr.size; replace bd1 := below_grown bd1 gr o1_m bd1.size; replace bel := below_grown bel gr om bel.size; clear hm; have hm := hq; clear hq gr))
  with_reducible refine (rget13_any _ bs (by omega)).mono ?_
  rintro e w7 ⟨h3, A2, n2, c2, hs2, rfl, hh2, ⟨em, hbe⟩, hn2, hb2, b7⟩
  replace hm := blk_u hm b7
  replace bs := bs.below b7
  replace rb := rb.below b7
  replace rbw := own_under rbw b7
  replace en := en.below b7
  replace lz_rb := Nat.le_trans lz_rb b7.size
  replace bd1 := bd1.trans (b7.mono bd1.size)
  replace bel := bel.trans (b7.mono bel.size)
  clear b7
  replace em : Sle opE 2 w7 (A2) (n2) (c2) (hs2) := em
  rw [HER.out]
  obtain rfl : h2 = h3 := HH.out.trans hh2.symm
  have HBE := Lib.hid hbe
  clear hbe hn2 hb2 hh2
  have bd2 := Below.refl w7.heap.size w7
  go_wp2_with (first | ((with_reducible show wpList _ _ _ (⟨some 5, _, _, _, _, _⟩ :: _) _ _); refine wpList_new_a rfl 42 rfl #[.int .i64 0, .int .i64 0, .int .u32 0, .int .i64 0, .int .i64 0, .int .u8 0, .int .u8 0, .int .u8 0, .int .u8 0, .int .u8 0, .int .u8 0, .int .u8 0, .int .u8 0, .int .u8 0, .int .u8 0, .int .u8 0, .int .u8 0, .int .u8 0, .int .u8 0, .int .u8 0, .int .u8 0, .int .u8 0, .int .u8 0, .int .u8 0, .int .u8 0, .int .u8 0, .int .u8 0, .slice none 0 0] (by kernel_rfl) ?_; intro g5 w8 ge hh bb; have d_m_q5 := ne_new (hlt hm) ge; have av_bs_q5 := bs.av_new ge; have av_rb_q5 := rb.av_new ge; have of_rb_q5 := own_new rbw ge; have av_en_q5 := en.av_new ge; have av_em_q5 := em.av_new ge; have oq5 := Nat.le_trans bel.size ge; have o1_q5 := Nat.le_trans bd1.size ge; have o2_q5 := Nat.le_trans bd2.size ge; replace hm := blk_u hm bb; replace bs := bs.below bb; replace rb := rb.below bb; replace rbw := own_under rbw bb; replace en := en.below bb; replace em := em.below bb; replace lz_rb := Nat.le_trans lz_rb bb.size; replace bd1 := bd1.trans (bb.mono bd1.size); replace bd2 := bd2.trans (bb.mono bd2.size); replace bel := bel.trans (bb.mono bel.size); have hq5 := hh; clear hh ge bb) | ((with_reducible show wpList _ _ _ (⟨none, Op.store _ (.tmp 5) _, _, _, _, _⟩ :: _) _ _); refine wpList_store_blk rfl 42 (.tmp 5) (.tmp 22) rfl g5 rfl _ rfl _ 42 hq5 (by rfl) (by kernel_rfl) (by kernel_rfl) ?_; intro w9 hq gr; replace bs := bs.away av_bs_q5 gr; replace rb := rb.away av_rb_q5 gr; replace rbw := own_off rbw of_rb_q5 gr; replace en := en.away av_en_q5 gr; replace em := em.away av_em_q5 gr; replace lz_rb := Nat.le_trans lz_rb gr.size; replace hm := blk_a hm gr d_m_q5; replace bd1 := below_grown bd1 gr o1_q5 bd1.size; replace bd2 := below_grown bd2 gr o2_q5 bd2.size; replace bel := below_grown bel gr oq5 bel.size; clear hq5; have hq5 := hq; clear hq gr))
  replace bel := bel.drew
  replace hm : w9.drew.heap[g3]? = _ := hm
  replace hq5 : w9.drew.heap[g5]? = _ := hq5
  replace bs := bs.drew
  replace rb := rb.drew
  replace rbw : w9.drew.ownsRow _ _ _ _ _ _ := rbw
  replace lz_rb : _ ≤ w9.drew.heap.size := lz_rb
  replace en := en.drew
  replace em := em.drew
  replace bd1 := bd1.drew
  replace bd2 := bd2.drew
  refine wp_region_held_drew (S := fun W => W.heap[g3]? = some (.cells #[.int .i64 h2.op, .int .i64 h2.hops, .int .u32 h2.xid, .int .i64 h2.secs, .int .i64 h2.flags, .int .u8 (h2.c0.toNat : Int), .int .u8 (h2.c1.toNat : Int), .int .u8 (h2.c2.toNat : Int), .int .u8 (h2.c3.toNat : Int), .int .u8 (h2.y0.toNat : Int), .int .u8 (h2.y1.toNat : Int), .int .u8 (h2.y2.toNat : Int), .int .u8 (h2.y3.toNat : Int), .int .u8 (h2.s0.toNat : Int), .int .u8 (h2.s1.toNat : Int), .int .u8 (h2.s2.toNat : Int), .int .u8 (h2.s3.toNat : Int), .int .u8 (h2.r0.toNat : Int), .int .u8 (h2.r1.toNat : Int), .int .u8 (h2.r2.toNat : Int), .int .u8 (h2.r3.toNat : Int), .int .u8 (h2.m0.toNat : Int), .int .u8 (h2.m1.toNat : Int), .int .u8 (h2.m2.toNat : Int), .int .u8 (h2.m3.toNat : Int), .int .u8 (h2.m4.toNat : Int), .int .u8 (h2.m5.toNat : Int), .slice A1 n1 c1] 30 (0, 0)) ∧ W.heap[g5]? = some (.cells #[.int .i64 h2.op, .int .i64 h2.hops, .int .u32 h2.xid, .int .i64 h2.secs, .int .i64 h2.flags, .int .u8 (h2.c0.toNat : Int), .int .u8 (h2.c1.toNat : Int), .int .u8 (h2.c2.toNat : Int), .int .u8 (h2.c3.toNat : Int), .int .u8 (h2.y0.toNat : Int), .int .u8 (h2.y1.toNat : Int), .int .u8 (h2.y2.toNat : Int), .int .u8 (h2.y3.toNat : Int), .int .u8 (h2.s0.toNat : Int), .int .u8 (h2.s1.toNat : Int), .int .u8 (h2.s2.toNat : Int), .int .u8 (h2.s3.toNat : Int), .int .u8 (h2.r0.toNat : Int), .int .u8 (h2.r1.toNat : Int), .int .u8 (h2.r2.toNat : Int), .int .u8 (h2.r3.toNat : Int), .int .u8 (h2.m0.toNat : Int), .int .u8 (h2.m1.toNat : Int), .int .u8 (h2.m2.toNat : Int), .int .u8 (h2.m3.toNat : Int), .int .u8 (h2.m4.toNat : Int), .int .u8 (h2.m5.toNat : Int), .slice A2 n2 c2] 42 (0, 0))) (by kernel_rfl) ⟨hm, hq5⟩ (fun hH => ?_)
  generalize w9.drew = w10 at bel hm hq5 bs rb en em rbw bd1 bd2 lz_rb hH ⊢
  refine wpAnyH_take (i := 0) (v := ?_) rfl (by kernel_rfl) (by kernel_rfl) (by kernel_rfl) (fun _ _ _ h => h) (Or.inl ⟨by rfl, ?_⟩) hH ?_
  rotate_left
  · ((intro W hW; clear hW; go_simp) <;> with_reducible rfl)
  simp only [Act.put, List.getElem_toArray, List.getElem_cons_zero, List.setIfInBounds_toArray, List.set_cons_zero, List.set_cons_succ]
  refine wpAnyH_take (i := 1) (v := ?_) rfl (by kernel_rfl) (by kernel_rfl) (by kernel_rfl) (fun _ _ _ h => h) (Or.inl ⟨by rfl, ?_⟩) hH ?_
  rotate_left
  · ((intro W hW; clear hW; go_simp) <;> with_reducible rfl)
  simp only [Act.put, List.getElem_toArray, List.getElem_cons_zero, List.getElem_cons_succ, List.setIfInBounds_toArray, List.set_cons_zero, List.set_cons_succ]
  refine wpAnyH_take (i := 2) (v := ?_) rfl (by kernel_rfl) (by kernel_rfl) (by kernel_rfl) (fun _ _ _ h => h) (Or.inl ⟨by rfl, ?_⟩) hH ?_
  rotate_left
  · ((intro W hW; clear hW; go_simp) <;> with_reducible rfl)
  simp only [Act.put, List.getElem_toArray, List.getElem_cons_zero, List.getElem_cons_succ, List.setIfInBounds_toArray, List.set_cons_zero, List.set_cons_succ]
  refine wpAnyH_take (i := 3) (v := ?_) rfl (by kernel_rfl) (by kernel_rfl) (by kernel_rfl) (fun _ _ _ h => h) (Or.inl ⟨by rfl, ?_⟩) hH ?_
  rotate_left
  · ((intro W hW; clear hW; go_simp) <;> with_reducible rfl)
  simp only [Act.put, List.getElem_toArray, List.getElem_cons_zero, List.getElem_cons_succ, List.setIfInBounds_toArray, List.set_cons_zero, List.set_cons_succ]
  refine wpAnyH_take (i := 4) (v := .agg #[.int .i64 h2.op, .int .i64 h2.hops, .int .u32 h2.xid, .int .i64 h2.secs, .int .i64 h2.flags, .int .u8 (h2.c0.toNat : Int), .int .u8 (h2.c1.toNat : Int), .int .u8 (h2.c2.toNat : Int), .int .u8 (h2.c3.toNat : Int), .int .u8 (h2.y0.toNat : Int), .int .u8 (h2.y1.toNat : Int), .int .u8 (h2.y2.toNat : Int), .int .u8 (h2.y3.toNat : Int), .int .u8 (h2.s0.toNat : Int), .int .u8 (h2.s1.toNat : Int), .int .u8 (h2.s2.toNat : Int), .int .u8 (h2.s3.toNat : Int), .int .u8 (h2.r0.toNat : Int), .int .u8 (h2.r1.toNat : Int), .int .u8 (h2.r2.toNat : Int), .int .u8 (h2.r3.toNat : Int), .int .u8 (h2.m0.toNat : Int), .int .u8 (h2.m1.toNat : Int), .int .u8 (h2.m2.toNat : Int), .int .u8 (h2.m3.toNat : Int), .int .u8 (h2.m4.toNat : Int), .int .u8 (h2.m5.toNat : Int), .slice A1 n1 c1]) rfl (by kernel_rfl) (by kernel_rfl) (by kernel_rfl) (fun _ _ _ h => h) (yieldsIf_load_part (by kernel_rfl) 30 _ rfl g3 0 28 rfl _ 30 (0, 0) (fun W hW => hW.1) _ rfl _ Try.underlying30 rfl (by kernel_rfl)) hH ?_
  simp only [Act.put, List.getElem_toArray, List.getElem_cons_zero, List.getElem_cons_succ, List.setIfInBounds_toArray, List.set_cons_zero, List.set_cons_succ]
  refine wpAnyH_take (i := 6) (v := .agg #[.int .i64 h2.op, .int .i64 h2.hops, .int .u32 h2.xid, .int .i64 h2.secs, .int .i64 h2.flags, .int .u8 (h2.c0.toNat : Int), .int .u8 (h2.c1.toNat : Int), .int .u8 (h2.c2.toNat : Int), .int .u8 (h2.c3.toNat : Int), .int .u8 (h2.y0.toNat : Int), .int .u8 (h2.y1.toNat : Int), .int .u8 (h2.y2.toNat : Int), .int .u8 (h2.y3.toNat : Int), .int .u8 (h2.s0.toNat : Int), .int .u8 (h2.s1.toNat : Int), .int .u8 (h2.s2.toNat : Int), .int .u8 (h2.s3.toNat : Int), .int .u8 (h2.r0.toNat : Int), .int .u8 (h2.r1.toNat : Int), .int .u8 (h2.r2.toNat : Int), .int .u8 (h2.r3.toNat : Int), .int .u8 (h2.m0.toNat : Int), .int .u8 (h2.m1.toNat : Int), .int .u8 (h2.m2.toNat : Int), .int .u8 (h2.m3.toNat : Int), .int .u8 (h2.m4.toNat : Int), .int .u8 (h2.m5.toNat : Int), .slice A2 n2 c2]) rfl (by kernel_rfl) (by kernel_rfl) (by kernel_rfl) (fun _ _ _ h => h) (yieldsIf_load_part (by kernel_rfl) 42 _ rfl g5 0 28 rfl _ 42 (0, 0) (fun W hW => hW.2) _ rfl _ Try.underlying42 rfl (by kernel_rfl)) hH ?_
  simp only [Act.put, List.getElem_toArray, List.getElem_cons_zero, List.getElem_cons_succ, List.setIfInBounds_toArray, List.set_cons_zero, List.set_cons_succ]
  refine wpAnyH_ready (rs := [5]) (by kernel_rfl) (by simp) ?_
  refine AllReadyH.cons (o := _) rfl (fun K hK => ?_) AllReadyH.nil
  simp only [List.getElem_toArray, List.getElem_cons_zero, List.getElem_cons_succ]
  go_simp
  with_reducible refine (own13_any (h := h2) _ en HN1.out).mono ?_
  rintro e w11 ⟨A5, c5, rfl, eo5, b11⟩
  dsimp only
  replace hm := blk_u hm b11
  replace hq5 := blk_u hq5 b11
  replace bs := bs.below b11
  replace rb := rb.below b11
  replace rbw := own_under rbw b11
  replace en := en.below b11
  replace em := em.below b11
  replace lz_rb := Nat.le_trans lz_rb b11.size
  replace bd1 := bd1.trans (b11.mono bd1.size)
  replace bd2 := bd2.trans (b11.mono bd2.size)
  replace bel := bel.trans (b11.mono bel.size)
  clear b11
  replace eo5 : Sle opE 2 w11 (A5) (n1) (c5) (hs) := eo5
  refine hK.out _ _ ⟨hm, hq5⟩ (fun hH12 => ?_)
  clear hK K
  refine wpAnyH_ready (rs := [7]) (by kernel_rfl) (by simp) ?_
  refine AllReadyH.cons (o := _) rfl (fun K hK => ?_) AllReadyH.nil
  simp only [List.getElem_toArray, List.getElem_cons_zero, List.getElem_cons_succ]
  go_simp
  with_reducible refine (same13_any (h := h2) _ eo5 (HBD.out.below bd1) em (HBE.out.below bd2) HN1.out).mono ?_
  rintro e w13 ⟨rfl, b13⟩
  dsimp only
  replace hm := blk_u hm b13
  replace hq5 := blk_u hq5 b13
  replace bs := bs.below b13
  replace rb := rb.below b13
  replace rbw := own_under rbw b13
  replace en := en.below b13
  replace em := em.below b13
  replace eo5 := eo5.below b13
  replace lz_rb := Nat.le_trans lz_rb b13.size
  replace bd1 := bd1.trans (b13.mono bd1.size)
  replace bd2 := bd2.trans (b13.mono bd2.size)
  replace bel := bel.trans (b13.mono bel.size)
  clear b13
  refine hK.out _ _ ⟨hm, hq5⟩ (fun hH14 => ?_)
  clear hK K
  refine wpAnyH_take (i := 8) (v := ?_) rfl (by kernel_rfl) (by kernel_rfl) (by kernel_rfl) (fun _ _ _ h => h) (Or.inl ⟨by rfl, ?_⟩) hH14 ?_
  rotate_left
  · ((intro W hW; clear hW; go_simp) <;> with_reducible rfl)
  simp only [Act.put, List.getElem_toArray, List.getElem_cons_zero, List.getElem_cons_succ, List.setIfInBounds_toArray, List.set_cons_zero, List.set_cons_succ]
  refine wpAnyH_take (i := 9) (v := ?_) rfl (by kernel_rfl) (by kernel_rfl) (by kernel_rfl) (fun _ _ _ h => h) (Or.inl ⟨by rfl, ?_⟩) hH14 ?_
  rotate_left
  · ((intro W hW; clear hW; go_simp) <;> with_reducible rfl)
  simp only [Act.put, List.getElem_toArray, List.getElem_cons_zero, List.getElem_cons_succ, List.setIfInBounds_toArray, List.set_cons_zero, List.set_cons_succ]
  refine wpAnyH_done (by kernel_rfl) ?_ _
  go_wp2_with fail
  go_ret
  exact ⟨rfl, bel⟩
end Go.Proofs.Ytmljgpefbbifmaa
