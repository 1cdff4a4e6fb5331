/- Layer 9: IcmpAbouts. -/
import Derived.Test.YtfmllopeeiecjaaLaw9
import Derived.Test.YtfmllopeeiecjaaIc4
import Derived.Test.YtfmllopeeiecjaaIc5
import Derived.Test.YtfmllopeeiecjaaVap
namespace Go.Proofs.Ytfmllopeeiecjaa
open Go.RowKit

/-- An answer with its error named. -/
theorem PkPost.er {R : PkL} {er : Int} (h : R.2.2 = er) {w : World} {e : Ending} {w' : World} (hp : PkPost R w e w') : ∃ (f0 f1 f2 f3 f4 f5 : Int) (a0 a1 a2 a3 a4 a5 a6 a7 : UInt8) (lo lb : List UInt8) (Ao Ab : Option Addr) (co cb : Nat), e = .returned (.tuple #[.agg #[.int .i64 f0, .int .i64 f1, .int .i64 f2, .int .i64 f3, .int .i64 f4, .int .i64 f5, .int .u8 (a0.toNat : Int), .int .u8 (a1.toNat : Int), .int .u8 (a2.toNat : Int), .int .u8 (a3.toNat : Int), .int .u8 (a4.toNat : Int), .int .u8 (a5.toNat : Int), .int .u8 (a6.toNat : Int), .int .u8 (a7.toNat : Int), .slice Ao lo.length co, .slice Ab lb.length cb], .int .i64 er]) ∧ Sl w' Ao lo.length co lo ∧ Sl w' Ab lb.length cb lb ∧ Fr w.heap.size Ao lo.length ∧ Fr w.heap.size Ab lb.length ∧ Below w.heap.size w w' ∧ (([f0, f1, f2, f3, f4, f5], [a0, a1, a2, a3, a4, a5, a6, a7]), (lo, lb), er) = R := by
  obtain ⟨f0, f1, f2, f3, f4, f5, g0, g1, g2, g3, g4, g5, g6, g7, lo, lb, Ao, Ab, co, cb, er', rfl, ho, hb, fo, fb, bel, hq⟩ := hp
  rw [← hq] at h
  subst h
  exact ⟨_, _, _, _, _, _, _, _, _, _, _, _, _, _, lo, lb, Ao, Ab, co, cb, rfl, ho, hb, fo, fb, bel, hq⟩
set_option linter.unusedVariables false in
set_option maxRecDepth 100000 in
set_option maxHeartbeats 16000000 in
theorem icmpAbouts_1 (o0 o1 o2 o3 : UInt8) (B : Option Addr) (nB cB : Nat) (l : List UInt8) (ty cd : Int) (w : World) (h1 : 1600 < nB) : Calls Try.prog 6 #[.agg #[.int .u8 (o0.toNat : Int), .int .u8 (o1.toNat : Int), .int .u8 (o2.toNat : Int), .int .u8 (o3.toNat : Int)], .slice B nB cB, .int .i64 ty, .int .i64 cd] w fun e w' => e = .returned (.bool true) ∧ Below w.heap.size w w' := by
  have t1 : (1600 : Int) < nB := by omega
  clear h1
  have bel := Below.refl w.heap.size w
  go_enter Try.func6, Try.ntmps6
  go_wp2_with (first | ((with_reducible show wpList _ _ _ (⟨some 4, _, _, _, _, _⟩ :: _) _ _); refine wpList_box_n rfl 24 (.tmp 0) rfl #[.int .u8 (o0.toNat : Int), .int .u8 (o1.toNat : Int), .int .u8 (o2.toNat : Int), .int .u8 (o3.toNat : Int)] rfl ?_; intro g4 w1 ge lt hh bb; have oow := Nat.le_trans bel.size ge; replace bel := bel.trans (bb.mono bel.size); have how := hh; clear hh lt ge bb))
  with_reducible refine (awake9 _).mono ?_
  rintro e w2 ⟨rfl, b2⟩
  replace how := blk_u how b2
  replace bel := bel.trans (b2.mono bel.size)
  clear b2
  go_wp2_with fail
  go_ret
  exact ⟨rfl, bel⟩
set_option linter.unusedVariables false in
set_option maxRecDepth 100000 in
set_option maxHeartbeats 16000000 in
theorem icmpAbouts_2 (o0 o1 o2 o3 : UInt8) (B : Option Addr) (nB cB : Nat) (l : List UInt8) (ty cd : Int) (w : World) (hB : Sl w B nB cB l) (h1 : nB ≤ 1600) (er : Int) (he : (icAbout o0 o1 o2 o3 l ty cd).2.2 = er) (hz : er ≠ 0) : Calls Try.prog 6 #[.agg #[.int .u8 (o0.toNat : Int), .int .u8 (o1.toNat : Int), .int .u8 (o2.toNat : Int), .int .u8 (o3.toNat : Int)], .slice B nB cB, .int .i64 ty, .int .i64 cd] w fun e w' => e = .returned (.bool true) ∧ Below w.heap.size w w' := by
  obtain ⟨ii, hii, hz0, hz1, hz2⟩ := info_parts Try.info5
  have t1 : decide ((1600 : Int) < nB) = false := decide_eq_false (by omega)
  have H1 := Lib.hid h1
  have HE := Lib.hid he
  clear h1 he
  have t5 : (er == 0) = false := by simpa using hz
  have t6 : (er != 0) = true := by simpa using hz
  clear hz
  have bel := Below.refl w.heap.size w
  go_enter Try.func6, Try.ntmps6
  go_wp2_with (first | ((with_reducible show wpList _ _ _ (⟨some 4, _, _, _, _, _⟩ :: _) _ _); refine wpList_box_n rfl 24 (.tmp 0) rfl #[.int .u8 (o0.toNat : Int), .int .u8 (o1.toNat : Int), .int .u8 (o2.toNat : Int), .int .u8 (o3.toNat : Int)] rfl ?_; intro g4 w1 ge lt hh bb; have av_hB_ow := hB.av_new ge; have oow := Nat.le_trans bel.size ge; replace hB := hB.below bb; replace bel := bel.trans (bb.mono bel.size); have how := hh; clear hh lt ge bb))
  with_reducible refine (awake9 _).mono ?_
  rintro e w2 ⟨rfl, b2⟩
  replace how := blk_u how b2
  replace hB := hB.below b2
  replace bel := bel.trans (b2.mono bel.size)
  clear b2
  go_wp2_with fail
  go_cut [9, 10] from 9999 (fun s9 s10 W => ∃ g9 : Nat, ∃ Ao1 : Option Addr, ∃ co1 : Nat, ∃ Ab1 : Option Addr, ∃ cb1 : Nat, ∃ f01 : Int, ∃ f11 : Int, ∃ f21 : Int, ∃ f31 : Int, ∃ f41 : Int, ∃ f51 : Int, ∃ ad01 : UInt8, ∃ ad11 : UInt8, ∃ ad21 : UInt8, ∃ ad31 : UInt8, ∃ ad41 : UInt8, ∃ ad51 : UInt8, ∃ ad61 : UInt8, ∃ ad71 : UInt8, ∃ lo1 : List UInt8, ∃ lb1 : List UInt8, s9 = .pointer (some ⟨g9, 0, none⟩) ∧ s10 = .int .i64 er ∧ W.heap[g4]? = some (.cells #[.int .u8 (o0.toNat : Int), .int .u8 (o1.toNat : Int), .int .u8 (o2.toNat : Int), .int .u8 (o3.toNat : Int)] 24 (0, 0)) ∧ W.heap[g9]? = some (.cells #[.int .i64 f01, .int .i64 f11, .int .i64 f21, .int .i64 f31, .int .i64 f41, .int .i64 f51, .int .u8 (ad01.toNat : Int), .int .u8 (ad11.toNat : Int), .int .u8 (ad21.toNat : Int), .int .u8 (ad31.toNat : Int), .int .u8 (ad41.toNat : Int), .int .u8 (ad51.toNat : Int), .int .u8 (ad61.toNat : Int), .int .u8 (ad71.toNat : Int), .slice Ao1 lo1.length co1, .slice Ab1 lb1.length cb1] 27 (0, 0)) ∧ w.heap.size ≤ g9 ∧ Hid (g4 ≠ g9) ∧ Sl W (B) (nB) (cB) (l) ∧ Av (B) (nB) g4 ∧ Av (B) (nB) g9 ∧ Sl W (Ao1) (lo1.length) (co1) (lo1) ∧ Av (Ao1) (lo1.length) g4 ∧ Av (Ao1) (lo1.length) g9 ∧ Sl W (Ab1) (lb1.length) (cb1) (lb1) ∧ Av (Ab1) (lb1.length) g4 ∧ Av (Ab1) (lb1.length) g9 ∧ (([f01, f11, f21, f31, f41, f51], [ad01, ad11, ad21, ad31, ad41, ad51, ad61, ad71]), (lo1, lb1), er) = icAbout o0 o1 o2 o3 l ty cd ∧ Below w.heap.size w W)
  case first =>
    replace bel := bel.drew
    replace how : w2.drew.heap[g4]? = _ := how
    replace hB := hB.drew
    refine wp_region_held_drew (S := fun W => W.heap[g4]? = some (.cells #[.int .u8 (o0.toNat : Int), .int .u8 (o1.toNat : Int), .int .u8 (o2.toNat : Int), .int .u8 (o3.toNat : Int)] 24 (0, 0))) (by kernel_rfl) how (fun hH => ?_)
    generalize w2.drew = w3 at bel how hB hH ⊢
    refine wpAnyH_take (i := 0) (v := .agg #[.int .u8 (o0.toNat : Int), .int .u8 (o1.toNat : Int), .int .u8 (o2.toNat : Int), .int .u8 (o3.toNat : Int)]) rfl (by kernel_rfl) (by kernel_rfl) (by kernel_rfl) (fun _ _ _ h => h) (yieldsIf_load_part (by kernel_rfl) 24 _ rfl g4 0 4 rfl _ 24 (0, 0) (fun W hW => hW) _ rfl _ Try.underlying24 rfl (by kernel_rfl)) hH ?_
    simp only [Act.put, List.getElem_toArray, List.getElem_cons_zero, List.setIfInBounds_toArray, List.set_cons_zero, List.set_cons_succ]
    refine wpAnyH_take (i := 2) (v := ?_) rfl (by kernel_rfl) (by kernel_rfl) (by kernel_rfl) (fun _ _ _ h => h) (Or.inl ⟨by rfl, ?_⟩) hH ?_
    rotate_left
    · ((intro W hW; clear hW; go_simp) <;> with_reducible rfl)
    simp only [Act.put, List.getElem_toArray, List.getElem_cons_zero, List.getElem_cons_succ, List.setIfInBounds_toArray, List.set_cons_zero, List.set_cons_succ]
    refine wpAnyH_take (i := 4) (v := ?_) rfl (by kernel_rfl) (by kernel_rfl) (by kernel_rfl) (fun _ _ _ h => h) (Or.inl ⟨by rfl, ?_⟩) hH ?_
    rotate_left
    · ((intro W hW; clear hW; go_simp) <;> with_reducible rfl)
    simp only [Act.put, List.getElem_toArray, List.getElem_cons_zero, List.getElem_cons_succ, List.setIfInBounds_toArray, List.set_cons_zero, List.set_cons_succ]
    refine wpAnyH_take (i := 5) (v := ?_) rfl (by kernel_rfl) (by kernel_rfl) (by kernel_rfl) (fun _ _ _ h => h) (Or.inl ⟨by rfl, ?_⟩) hH ?_
    rotate_left
    · ((intro W hW; clear hW; go_simp) <;> with_reducible rfl)
    simp only [Act.put, List.getElem_toArray, List.getElem_cons_zero, List.getElem_cons_succ, List.setIfInBounds_toArray, List.set_cons_zero, List.set_cons_succ]
    refine wpAnyH_ready (rs := [1, 10]) (by kernel_rfl) (by simp) ?_
    refine AllReadyH.cons (o := _) rfl (fun K hK => ?_) (AllReadyH.cons (o := _) rfl (fun K hK => ?_) AllReadyH.nil)
    · simp only [List.getElem_toArray, List.getElem_cons_zero, List.getElem_cons_succ]
      rw [if_pos (by rfl)]
      refine wp_lit_n 25 5 0 _ rfl #[] (.int .u8 0) Try.underlying25 (by kernel_rfl) 1 (by kernel_rfl) (by decide) (by kernel_rfl) ?_
      intro g20 w4 ge lt hh bb
      have hl : w4.heap[g20]? = some (.cells (([] : List UInt8).map u8v).toArray 5 (0, 0)) := (by simpa [u8v, byteOf_val] using hh)
      have e0w := own_lit (B := w3.heap.size) ([]) hl ge 0 rfl (by simp [maxLen])
      have e0 := (own_sl e0w).1
      have e0lo := bel.size
      clear hl
      have e0ge := ge
      have lz_e0 := bb.size
      have y_e0_ow := Lib.hid (hlt how)
      have bl_hB_e0 := hB.bl_new
      replace how := blk_u how bb
      replace hB := hB.below bb
      replace bel := bel.trans (bb.mono bel.size)
      clear hh lt ge bb
      have av_e0_ow := (own_sl e0w).2.av y_e0_ow.out
      refine hK.out _ _ how (fun hH5 => ?_)
      clear hK K
      simp only [Act.put, List.setIfInBounds_toArray, List.set_cons_zero, List.set_cons_succ]
      refine wpAnyH_ready (rs := [3, 10]) (by kernel_rfl) (by simp) ?_
      refine AllReadyH.cons (o := _) rfl (fun K hK => ?_) (AllReadyH.cons (o := _) rfl (fun K hK => ?_) AllReadyH.nil)
      · simp only [List.getElem_toArray, List.getElem_cons_zero, List.getElem_cons_succ]
        rw [if_pos (by rfl)]
        refine wp_append_bb (.tmp 20) (.tmp 21) 25 rfl (w3.heap.size) 5 ii (.int .u8 0) Try.underlying25 hii hz0 hz1 hz2 rfl _ (0) ([]) rfl e0w (B) (nB) (cB) (l) rfl hB (by have := H1.out; omega) lz_e0 ?_
        intro v22 w6 own_ bb
        replace hB := hB.under bl_hB_e0 bb
        replace how := blk_under how bb y_e0_ow.out
        replace bel := bel.trans (bb.mono e0lo)
        have lz_ap := Nat.le_trans lz_e0 bb.size
        clear bb
        clear e0 e0w lz_e0
        replace own_ : w6.ownsRow (w3.heap.size) 5 1 v22 (nB) ((l : List UInt8).map u8v) := (by simpa using own_)
        obtain ⟨A22, c22, rfl⟩ := own_val own_
        have apw := own_
        have ap := (own_sl own_).1
        have fr_ap := (own_sl own_).2
        clear own_
        have av_ap_ow := fr_ap.av y_e0_ow.out
        refine hK.out _ _ how (fun hH7 => ?_)
        clear hK K
        simp only [Act.put, List.setIfInBounds_toArray, List.set_cons_zero, List.set_cons_succ]
        refine wpAnyH_ready (rs := [6, 10]) (by kernel_rfl) (by simp) ?_
        refine AllReadyH.cons (o := _) rfl (fun K hK => ?_) (AllReadyH.cons (o := _) rfl (fun K hK => ?_) AllReadyH.nil)
        · simp only [List.getElem_toArray, List.getElem_cons_zero, List.getElem_cons_succ]
          go_simp
          with_reducible refine (((icabout_any _ _ _ _ _ _ _ l _ _ _ ap (by have := H1.out; omega)).mono fun _ _ h => h.er HE.out)).mono ?_
          rintro e w8 ⟨f01, f11, f21, f31, f41, f51, ad01, ad11, ad21, ad31, ad41, ad51, ad61, ad71, lo1, lb1, Ao1, Ab1, co1, cb1, rfl, so1, sb1, fo1, fb1, b8, q1⟩
          dsimp only
          have av_so1_ow := fo1.av (hlt how)
          have av_sb1_ow := fb1.av (hlt how)
          replace how := blk_u how b8
          replace hB := hB.below b8
          replace ap := ap.below b8
          replace apw := own_under apw b8
          replace lz_ap := Nat.le_trans lz_ap b8.size
          replace bel := bel.trans (b8.mono bel.size)
          clear b8
          replace so1 : Sl w8 (Ao1) (lo1.length) (co1) (lo1) := so1
          replace sb1 : Sl w8 (Ab1) (lb1.length) (cb1) (lb1) := sb1
          clear ap apw lz_ap
          refine hK.out _ _ how (fun hH9 => ?_)
          clear hK K
          refine wpAnyH_take (i := 7) (v := ?_) rfl (by kernel_rfl) (by kernel_rfl) (by kernel_rfl) (fun _ _ _ h => h) (Or.inl ⟨by rfl, ?_⟩) hH9 ?_
          rotate_left
          · ((intro W hW; clear hW; go_simp) <;> with_reducible rfl)
          simp only [Act.put, List.getElem_toArray, List.getElem_cons_zero, List.getElem_cons_succ, List.setIfInBounds_toArray, List.set_cons_zero, List.set_cons_succ]
          refine wpAnyH_take (i := 8) (v := ?_) rfl (by kernel_rfl) (by kernel_rfl) (by kernel_rfl) (fun _ _ _ h => h) (Or.inl ⟨by rfl, ?_⟩) hH9 ?_
          rotate_left
          · ((intro W hW; clear hW; go_simp) <;> with_reducible rfl)
          simp only [Act.put, List.getElem_toArray, List.getElem_cons_zero, List.getElem_cons_succ, List.setIfInBounds_toArray, List.set_cons_zero, List.set_cons_succ]
          refine wpAnyH_take (i := 9) (v := ?_) rfl (by kernel_rfl) (by kernel_rfl) (by kernel_rfl) (fun _ _ _ h => h) (Or.inl ⟨by rfl, ?_⟩) hH9 ?_
          rotate_left
          · ((intro W hW; clear hW; go_simp) <;> with_reducible rfl)
          simp only [Act.put, List.getElem_toArray, List.getElem_cons_zero, List.getElem_cons_succ, List.setIfInBounds_toArray, List.set_cons_zero, List.set_cons_succ]
          refine wpAnyH_ready (rs := [10]) (by kernel_rfl) (by simp) ?_
          refine AllReadyH.cons (o := _) rfl (fun K hK => ?_) AllReadyH.nil
          simp only [List.getElem_toArray, List.getElem_cons_zero, List.getElem_cons_succ]
          rw [if_pos (by rfl)]
          refine wp_new_a 27 rfl #[.int .i64 0, .int .i64 0, .int .i64 0, .int .i64 0, .int .i64 0, .int .i64 0, .int .u8 0, .int .u8 0, .int .u8 0, .int .u8 0, .int .u8 0, .int .u8 0, .int .u8 0, .int .u8 0, .slice none 0 0, .slice none 0 0] (by kernel_rfl) ?_
          intro g9 w10 ge hh bb
          have d_ow_p := ne_new (hlt how) ge
          have av_hB_p := hB.av_new ge
          have av_so1_p := so1.av_new ge
          have av_sb1_p := sb1.av_new ge
          have op := Nat.le_trans bel.size ge
          replace how := blk_u how bb
          replace hB := hB.below bb
          replace so1 := so1.below bb
          replace sb1 := sb1.below bb
          replace bel := bel.trans (bb.mono bel.size)
          have hp := hh
          clear hh ge bb
          refine hK.out _ _ how (fun hH11 => ?_)
          clear hK K
          simp only [Act.put, List.setIfInBounds_toArray, List.set_cons_zero, List.set_cons_succ]
          refine wpAnyH_ready (rs := [11]) (by kernel_rfl) (by simp) ?_
          refine AllReadyH.cons (o := _) rfl (fun K hK => ?_) AllReadyH.nil
          simp only [List.getElem_toArray, List.getElem_cons_zero, List.getElem_cons_succ]
          rw [if_pos (by rfl)]
          refine wp_store_blk 27 (.tmp 9) (.tmp 26) rfl g9 rfl _ rfl _ 27 hp (by rfl) (by kernel_rfl) (by kernel_rfl) ?_
          intro w12 hq gr
          replace hB := hB.away av_hB_p gr
          replace so1 := so1.away av_so1_p gr
          replace sb1 := sb1.away av_sb1_p gr
          replace how := blk_a how gr d_ow_p
          replace bel := below_grown bel gr op bel.size
          clear hp
          have hp := hq
          clear hq gr
          refine hK.out _ _ how (fun hH13 => ?_)
          clear hK K
          simp only [Act.put]
          refine wpAnyH_take (i := 12) (v := ?_) rfl (by kernel_rfl) (by kernel_rfl) (by kernel_rfl) (fun _ _ _ h => h) (Or.inl ⟨by rfl, ?_⟩) hH13 ?_
          rotate_left
          · ((intro W hW; clear hW; go_simp) <;> with_reducible rfl)
          simp only [Act.put, List.getElem_toArray, List.getElem_cons_zero, List.getElem_cons_succ, List.setIfInBounds_toArray, List.set_cons_zero, List.set_cons_succ]
          refine wpAnyH_done (by kernel_rfl) ?_ _
          go_wp2_with fail
          go_meet
          case rel => exact ⟨g9, Ao1, co1, Ab1, cb1, f01, f11, f21, f31, f41, f51, ad01, ad11, ad21, ad31, ad41, ad51, ad61, ad71, lo1, lb1, rfl, rfl, how, hp, op, d_ow_p, hB, av_hB_ow, av_hB_p, so1, av_so1_ow, av_so1_p, sb1, av_sb1_ow, av_sb1_p, q1, bel⟩
        · simp only [List.getElem_toArray, List.getElem_cons_zero, List.getElem_cons_succ]
          rw [if_pos (by rfl)]
          refine wp_new_a 27 rfl #[.int .i64 0, .int .i64 0, .int .i64 0, .int .i64 0, .int .i64 0, .int .i64 0, .int .u8 0, .int .u8 0, .int .u8 0, .int .u8 0, .int .u8 0, .int .u8 0, .int .u8 0, .int .u8 0, .slice none 0 0, .slice none 0 0] (by kernel_rfl) ?_
          intro g9 w8 ge hh bb
          have d_ow_p := ne_new (hlt how) ge
          have av_hB_p := hB.av_new ge
          have av_ap_p := ap.av_new ge
          have of_ap_p := own_new apw ge
          have op := Nat.le_trans bel.size ge
          replace how := blk_u how bb
          replace hB := hB.below bb
          replace ap := ap.below bb
          replace apw := own_under apw bb
          replace lz_ap := Nat.le_trans lz_ap bb.size
          replace bel := bel.trans (bb.mono bel.size)
          have hp := hh
          clear hh ge bb
          refine hK.out _ _ how (fun hH9 => ?_)
          clear hK K
          simp only [Act.put, List.setIfInBounds_toArray, List.set_cons_zero, List.set_cons_succ]
          refine wpAnyH_ready (rs := [6]) (by kernel_rfl) (by simp) ?_
          refine AllReadyH.cons (o := _) rfl (fun K hK => ?_) AllReadyH.nil
          simp only [List.getElem_toArray, List.getElem_cons_zero, List.getElem_cons_succ]
          go_simp
          with_reducible refine (((icabout_any _ _ _ _ _ _ _ l _ _ _ ap (by have := H1.out; omega)).mono fun _ _ h => h.er HE.out)).mono ?_
          rintro e w10 ⟨f01, f11, f21, f31, f41, f51, ad01, ad11, ad21, ad31, ad41, ad51, ad61, ad71, lo1, lb1, Ao1, Ab1, co1, cb1, rfl, so1, sb1, fo1, fb1, b10, q1⟩
          dsimp only
          have av_so1_ow := fo1.av (hlt how)
          have av_so1_p := fo1.av (hlt hp)
          have av_sb1_ow := fb1.av (hlt how)
          have av_sb1_p := fb1.av (hlt hp)
          replace how := blk_u how b10
          replace hp := blk_u hp b10
          replace hB := hB.below b10
          replace ap := ap.below b10
          replace apw := own_under apw b10
          replace lz_ap := Nat.le_trans lz_ap b10.size
          replace bel := bel.trans (b10.mono bel.size)
          clear b10
          replace so1 : Sl w10 (Ao1) (lo1.length) (co1) (lo1) := so1
          replace sb1 : Sl w10 (Ab1) (lb1.length) (cb1) (lb1) := sb1
          clear ap apw lz_ap
          refine hK.out _ _ how (fun hH11 => ?_)
          clear hK K
          refine wpAnyH_take (i := 7) (v := ?_) rfl (by kernel_rfl) (by kernel_rfl) (by kernel_rfl) (fun _ _ _ h => h) (Or.inl ⟨by rfl, ?_⟩) hH11 ?_
          rotate_left
          · ((intro W hW; clear hW; go_simp) <;> with_reducible rfl)
          simp only [Act.put, List.getElem_toArray, List.getElem_cons_zero, List.getElem_cons_succ, List.setIfInBounds_toArray, List.set_cons_zero, List.set_cons_succ]
          refine wpAnyH_take (i := 8) (v := ?_) rfl (by kernel_rfl) (by kernel_rfl) (by kernel_rfl) (fun _ _ _ h => h) (Or.inl ⟨by rfl, ?_⟩) hH11 ?_
          rotate_left
          · ((intro W hW; clear hW; go_simp) <;> with_reducible rfl)
          simp only [Act.put, List.getElem_toArray, List.getElem_cons_zero, List.getElem_cons_succ, List.setIfInBounds_toArray, List.set_cons_zero, List.set_cons_succ]
          refine wpAnyH_take (i := 9) (v := ?_) rfl (by kernel_rfl) (by kernel_rfl) (by kernel_rfl) (fun _ _ _ h => h) (Or.inl ⟨by rfl, ?_⟩) hH11 ?_
          rotate_left
          · ((intro W hW; clear hW; go_simp) <;> with_reducible rfl)
          simp only [Act.put, List.getElem_toArray, List.getElem_cons_zero, List.getElem_cons_succ, List.setIfInBounds_toArray, List.set_cons_zero, List.set_cons_succ]
          refine wpAnyH_ready (rs := [11]) (by kernel_rfl) (by simp) ?_
          refine AllReadyH.cons (o := _) rfl (fun K hK => ?_) AllReadyH.nil
          simp only [List.getElem_toArray, List.getElem_cons_zero, List.getElem_cons_succ]
          rw [if_pos (by rfl)]
          refine wp_store_blk 27 (.tmp 9) (.tmp 26) rfl g9 rfl _ rfl _ 27 hp (by rfl) (by kernel_rfl) (by kernel_rfl) ?_
          intro w12 hq gr
          replace hB := hB.away av_hB_p gr
          replace so1 := so1.away av_so1_p gr
          replace sb1 := sb1.away av_sb1_p gr
          replace how := blk_a how gr d_ow_p
          replace bel := below_grown bel gr op bel.size
          clear hp
          have hp := hq
          clear hq gr
          refine hK.out _ _ how (fun hH13 => ?_)
          clear hK K
          simp only [Act.put]
          refine wpAnyH_take (i := 12) (v := ?_) rfl (by kernel_rfl) (by kernel_rfl) (by kernel_rfl) (fun _ _ _ h => h) (Or.inl ⟨by rfl, ?_⟩) hH13 ?_
          rotate_left
          · ((intro W hW; clear hW; go_simp) <;> with_reducible rfl)
          simp only [Act.put, List.getElem_toArray, List.getElem_cons_zero, List.getElem_cons_succ, List.setIfInBounds_toArray, List.set_cons_zero, List.set_cons_succ]
          refine wpAnyH_done (by kernel_rfl) ?_ _
          go_wp2_with fail
          go_meet
          case rel => exact ⟨g9, Ao1, co1, Ab1, cb1, f01, f11, f21, f31, f41, f51, ad01, ad11, ad21, ad31, ad41, ad51, ad61, ad71, lo1, lb1, rfl, rfl, how, hp, op, d_ow_p, hB, av_hB_ow, av_hB_p, so1, av_so1_ow, av_so1_p, sb1, av_sb1_ow, av_sb1_p, q1, bel⟩
      · simp only [List.getElem_toArray, List.getElem_cons_zero, List.getElem_cons_succ]
        rw [if_pos (by rfl)]
        refine wp_new_a 27 rfl #[.int .i64 0, .int .i64 0, .int .i64 0, .int .i64 0, .int .i64 0, .int .i64 0, .int .u8 0, .int .u8 0, .int .u8 0, .int .u8 0, .int .u8 0, .int .u8 0, .int .u8 0, .int .u8 0, .slice none 0 0, .slice none 0 0] (by kernel_rfl) ?_
        intro g9 w6 ge hh bb
        have d_ow_p := ne_new (hlt how) ge
        have av_hB_p := hB.av_new ge
        have av_e0_p := e0.av_new ge
        have of_e0_p := own_new e0w ge
        have op := Nat.le_trans bel.size ge
        replace how := blk_u how bb
        replace hB := hB.below bb
        replace e0 := e0.below bb
        replace e0w := own_under e0w bb
        replace lz_e0 := Nat.le_trans lz_e0 bb.size
        replace bel := bel.trans (bb.mono bel.size)
        have hp := hh
        clear hh ge bb
        refine hK.out _ _ how (fun hH7 => ?_)
        clear hK K
        simp only [Act.put, List.setIfInBounds_toArray, List.set_cons_zero, List.set_cons_succ]
        refine wpAnyH_ready (rs := [3]) (by kernel_rfl) (by simp) ?_
        refine AllReadyH.cons (o := _) rfl (fun K hK => ?_) AllReadyH.nil
        simp only [List.getElem_toArray, List.getElem_cons_zero, List.getElem_cons_succ]
        rw [if_pos (by rfl)]
        refine wp_append_bg (.tmp 20) (.tmp 21) 25 rfl (w3.heap.size) 5 ii (.int .u8 0) Try.underlying25 hii hz0 hz1 hz2 rfl _ (0) ([]) rfl e0w (B) (nB) (cB) (l) rfl hB (by have := H1.out; omega) lz_e0 ?_
        intro v22 w8 own_ bb gw ofw
        have of22_p := ofw _ (hlt hp) of_e0_p
        clear ofw
        replace hB := hB.under bl_hB_e0 bb
        replace how := blk_under how bb y_e0_ow.out
        replace hp := blk_own hp gw of_e0_p
        clear gw
        replace bel := bel.trans (bb.mono e0lo)
        have lz_ap := Nat.le_trans lz_e0 bb.size
        clear bb
        clear e0 e0w lz_e0
        replace own_ : w8.ownsRow (w3.heap.size) 5 1 v22 (nB) ((l : List UInt8).map u8v) := (by simpa using own_)
        obtain ⟨A22, c22, rfl⟩ := own_val own_
        have apw := own_
        have ap := (own_sl own_).1
        have fr_ap := (own_sl own_).2
        clear own_
        have av_ap_ow := fr_ap.av y_e0_ow.out
        have av_ap_p := own_av apw of22_p
        refine hK.out _ _ how (fun hH9 => ?_)
        clear hK K
        simp only [Act.put, List.setIfInBounds_toArray, List.set_cons_zero, List.set_cons_succ]
        refine wpAnyH_ready (rs := [6]) (by kernel_rfl) (by simp) ?_
        refine AllReadyH.cons (o := _) rfl (fun K hK => ?_) AllReadyH.nil
        simp only [List.getElem_toArray, List.getElem_cons_zero, List.getElem_cons_succ]
        go_simp
        with_reducible refine (((icabout_any _ _ _ _ _ _ _ l _ _ _ ap (by have := H1.out; omega)).mono fun _ _ h => h.er HE.out)).mono ?_
        rintro e w10 ⟨f01, f11, f21, f31, f41, f51, ad01, ad11, ad21, ad31, ad41, ad51, ad61, ad71, lo1, lb1, Ao1, Ab1, co1, cb1, rfl, so1, sb1, fo1, fb1, b10, q1⟩
        dsimp only
        have av_so1_ow := fo1.av (hlt how)
        have av_so1_p := fo1.av (hlt hp)
        have av_sb1_ow := fb1.av (hlt how)
        have av_sb1_p := fb1.av (hlt hp)
        replace how := blk_u how b10
        replace hp := blk_u hp b10
        replace hB := hB.below b10
        replace ap := ap.below b10
        replace apw := own_under apw b10
        replace lz_ap := Nat.le_trans lz_ap b10.size
        replace bel := bel.trans (b10.mono bel.size)
        clear b10
        replace so1 : Sl w10 (Ao1) (lo1.length) (co1) (lo1) := so1
        replace sb1 : Sl w10 (Ab1) (lb1.length) (cb1) (lb1) := sb1
        clear ap apw lz_ap
        refine hK.out _ _ how (fun hH11 => ?_)
        clear hK K
        refine wpAnyH_take (i := 7) (v := ?_) rfl (by kernel_rfl) (by kernel_rfl) (by kernel_rfl) (fun _ _ _ h => h) (Or.inl ⟨by rfl, ?_⟩) hH11 ?_
        rotate_left
        · ((intro W hW; clear hW; go_simp) <;> with_reducible rfl)
        simp only [Act.put, List.getElem_toArray, List.getElem_cons_zero, List.getElem_cons_succ, List.setIfInBounds_toArray, List.set_cons_zero, List.set_cons_succ]
        refine wpAnyH_take (i := 8) (v := ?_) rfl (by kernel_rfl) (by kernel_rfl) (by kernel_rfl) (fun _ _ _ h => h) (Or.inl ⟨by rfl, ?_⟩) hH11 ?_
        rotate_left
        · ((intro W hW; clear hW; go_simp) <;> with_reducible rfl)
        simp only [Act.put, List.getElem_toArray, List.getElem_cons_zero, List.getElem_cons_succ, List.setIfInBounds_toArray, List.set_cons_zero, List.set_cons_succ]
        refine wpAnyH_take (i := 9) (v := ?_) rfl (by kernel_rfl) (by kernel_rfl) (by kernel_rfl) (fun _ _ _ h => h) (Or.inl ⟨by rfl, ?_⟩) hH11 ?_
        rotate_left
        · ((intro W hW; clear hW; go_simp) <;> with_reducible rfl)
        simp only [Act.put, List.getElem_toArray, List.getElem_cons_zero, List.getElem_cons_succ, List.setIfInBounds_toArray, List.set_cons_zero, List.set_cons_succ]
        refine wpAnyH_ready (rs := [11]) (by kernel_rfl) (by simp) ?_
        refine AllReadyH.cons (o := _) rfl (fun K hK => ?_) AllReadyH.nil
        simp only [List.getElem_toArray, List.getElem_cons_zero, List.getElem_cons_succ]
        rw [if_pos (by rfl)]
        refine wp_store_blk 27 (.tmp 9) (.tmp 26) rfl g9 rfl _ rfl _ 27 hp (by rfl) (by kernel_rfl) (by kernel_rfl) ?_
        intro w12 hq gr
        replace hB := hB.away av_hB_p gr
        replace so1 := so1.away av_so1_p gr
        replace sb1 := sb1.away av_sb1_p gr
        replace how := blk_a how gr d_ow_p
        replace bel := below_grown bel gr op bel.size
        clear hp
        have hp := hq
        clear hq gr
        refine hK.out _ _ how (fun hH13 => ?_)
        clear hK K
        simp only [Act.put]
        refine wpAnyH_take (i := 12) (v := ?_) rfl (by kernel_rfl) (by kernel_rfl) (by kernel_rfl) (fun _ _ _ h => h) (Or.inl ⟨by rfl, ?_⟩) hH13 ?_
        rotate_left
        · ((intro W hW; clear hW; go_simp) <;> with_reducible rfl)
        simp only [Act.put, List.getElem_toArray, List.getElem_cons_zero, List.getElem_cons_succ, List.setIfInBounds_toArray, List.set_cons_zero, List.set_cons_succ]
        refine wpAnyH_done (by kernel_rfl) ?_ _
        go_wp2_with fail
        go_meet
        case rel => exact ⟨g9, Ao1, co1, Ab1, cb1, f01, f11, f21, f31, f41, f51, ad01, ad11, ad21, ad31, ad41, ad51, ad61, ad71, lo1, lb1, rfl, rfl, how, hp, op, d_ow_p, hB, av_hB_ow, av_hB_p, so1, av_so1_ow, av_so1_p, sb1, av_sb1_ow, av_sb1_p, q1, bel⟩
    · simp only [List.getElem_toArray, List.getElem_cons_zero, List.getElem_cons_succ]
      rw [if_pos (by rfl)]
      refine wp_new_a 27 rfl #[.int .i64 0, .int .i64 0, .int .i64 0, .int .i64 0, .int .i64 0, .int .i64 0, .int .u8 0, .int .u8 0, .int .u8 0, .int .u8 0, .int .u8 0, .int .u8 0, .int .u8 0, .int .u8 0, .slice none 0 0, .slice none 0 0] (by kernel_rfl) ?_
      intro g9 w4 ge hh bb
      have d_ow_p := ne_new (hlt how) ge
      have av_hB_p := hB.av_new ge
      have op := Nat.le_trans bel.size ge
      replace how := blk_u how bb
      replace hB := hB.below bb
      replace bel := bel.trans (bb.mono bel.size)
      have hp := hh
      clear hh ge bb
      refine hK.out _ _ how (fun hH5 => ?_)
      clear hK K
      simp only [Act.put, List.setIfInBounds_toArray, List.set_cons_zero, List.set_cons_succ]
      refine wpAnyH_ready (rs := [1]) (by kernel_rfl) (by simp) ?_
      refine AllReadyH.cons (o := _) rfl (fun K hK => ?_) AllReadyH.nil
      simp only [List.getElem_toArray, List.getElem_cons_zero, List.getElem_cons_succ]
      rw [if_pos (by rfl)]
      refine wp_lit_n 25 5 0 _ rfl #[] (.int .u8 0) Try.underlying25 (by kernel_rfl) 1 (by kernel_rfl) (by decide) (by kernel_rfl) ?_
      intro g20 w6 ge lt hh bb
      have hl : w6.heap[g20]? = some (.cells (([] : List UInt8).map u8v).toArray 5 (0, 0)) := (by simpa [u8v, byteOf_val] using hh)
      have e0w := own_lit (B := w4.heap.size) ([]) hl ge 0 rfl (by simp [maxLen])
      have e0 := (own_sl e0w).1
      have e0lo := bel.size
      clear hl
      have e0ge := ge
      have lz_e0 := bb.size
      have y_e0_ow := Lib.hid (hlt how)
      have y_e0_p := Lib.hid (hlt hp)
      have bl_hB_e0 := hB.bl_new
      replace how := blk_u how bb
      replace hp := blk_u hp bb
      replace hB := hB.below bb
      replace bel := bel.trans (bb.mono bel.size)
      clear hh lt ge bb
      have av_e0_ow := (own_sl e0w).2.av y_e0_ow.out
      have av_e0_p := (own_sl e0w).2.av y_e0_p.out
      refine hK.out _ _ how (fun hH7 => ?_)
      clear hK K
      simp only [Act.put, List.setIfInBounds_toArray, List.set_cons_zero, List.set_cons_succ]
      refine wpAnyH_ready (rs := [3]) (by kernel_rfl) (by simp) ?_
      refine AllReadyH.cons (o := _) rfl (fun K hK => ?_) AllReadyH.nil
      simp only [List.getElem_toArray, List.getElem_cons_zero, List.getElem_cons_succ]
      rw [if_pos (by rfl)]
      refine wp_append_bb (.tmp 20) (.tmp 21) 25 rfl (w4.heap.size) 5 ii (.int .u8 0) Try.underlying25 hii hz0 hz1 hz2 rfl _ (0) ([]) rfl e0w (B) (nB) (cB) (l) rfl hB (by have := H1.out; omega) lz_e0 ?_
      intro v22 w8 own_ bb
      replace hB := hB.under bl_hB_e0 bb
      replace how := blk_under how bb y_e0_ow.out
      replace hp := blk_under hp bb y_e0_p.out
      replace bel := bel.trans (bb.mono e0lo)
      have lz_ap := Nat.le_trans lz_e0 bb.size
      clear bb
      clear e0 e0w lz_e0
      replace own_ : w8.ownsRow (w4.heap.size) 5 1 v22 (nB) ((l : List UInt8).map u8v) := (by simpa using own_)
      obtain ⟨A22, c22, rfl⟩ := own_val own_
      have apw := own_
      have ap := (own_sl own_).1
      have fr_ap := (own_sl own_).2
      clear own_
      have av_ap_ow := fr_ap.av y_e0_ow.out
      have av_ap_p := fr_ap.av y_e0_p.out
      refine hK.out _ _ how (fun hH9 => ?_)
      clear hK K
      simp only [Act.put, List.setIfInBounds_toArray, List.set_cons_zero, List.set_cons_succ]
      refine wpAnyH_ready (rs := [6]) (by kernel_rfl) (by simp) ?_
      refine AllReadyH.cons (o := _) rfl (fun K hK => ?_) AllReadyH.nil
      simp only [List.getElem_toArray, List.getElem_cons_zero, List.getElem_cons_succ]
      go_simp
      with_reducible refine (((icabout_any _ _ _ _ _ _ _ l _ _ _ ap (by have := H1.out; omega)).mono fun _ _ h => h.er HE.out)).mono ?_
      rintro e w10 ⟨f01, f11, f21, f31, f41, f51, ad01, ad11, ad21, ad31, ad41, ad51, ad61, ad71, lo1, lb1, Ao1, Ab1, co1, cb1, rfl, so1, sb1, fo1, fb1, b10, q1⟩
      dsimp only
      have av_so1_ow := fo1.av (hlt how)
      have av_so1_p := fo1.av (hlt hp)
      have av_sb1_ow := fb1.av (hlt how)
      have av_sb1_p := fb1.av (hlt hp)
      replace how := blk_u how b10
      replace hp := blk_u hp b10
      replace hB := hB.below b10
      replace ap := ap.below b10
      replace apw := own_under apw b10
      replace lz_ap := Nat.le_trans lz_ap b10.size
      replace bel := bel.trans (b10.mono bel.size)
      clear b10
      replace so1 : Sl w10 (Ao1) (lo1.length) (co1) (lo1) := so1
      replace sb1 : Sl w10 (Ab1) (lb1.length) (cb1) (lb1) := sb1
      clear ap apw lz_ap
      refine hK.out _ _ how (fun hH11 => ?_)
      clear hK K
      refine wpAnyH_take (i := 7) (v := ?_) rfl (by kernel_rfl) (by kernel_rfl) (by kernel_rfl) (fun _ _ _ h => h) (Or.inl ⟨by rfl, ?_⟩) hH11 ?_
      rotate_left
      · ((intro W hW; clear hW; go_simp) <;> with_reducible rfl)
      simp only [Act.put, List.getElem_toArray, List.getElem_cons_zero, List.getElem_cons_succ, List.setIfInBounds_toArray, List.set_cons_zero, List.set_cons_succ]
      refine wpAnyH_take (i := 8) (v := ?_) rfl (by kernel_rfl) (by kernel_rfl) (by kernel_rfl) (fun _ _ _ h => h) (Or.inl ⟨by rfl, ?_⟩) hH11 ?_
      rotate_left
      · ((intro W hW; clear hW; go_simp) <;> with_reducible rfl)
      simp only [Act.put, List.getElem_toArray, List.getElem_cons_zero, List.getElem_cons_succ, List.setIfInBounds_toArray, List.set_cons_zero, List.set_cons_succ]
      refine wpAnyH_take (i := 9) (v := ?_) rfl (by kernel_rfl) (by kernel_rfl) (by kernel_rfl) (fun _ _ _ h => h) (Or.inl ⟨by rfl, ?_⟩) hH11 ?_
      rotate_left
      · ((intro W hW; clear hW; go_simp) <;> with_reducible rfl)
      simp only [Act.put, List.getElem_toArray, List.getElem_cons_zero, List.getElem_cons_succ, List.setIfInBounds_toArray, List.set_cons_zero, List.set_cons_succ]
      refine wpAnyH_ready (rs := [11]) (by kernel_rfl) (by simp) ?_
      refine AllReadyH.cons (o := _) rfl (fun K hK => ?_) AllReadyH.nil
      simp only [List.getElem_toArray, List.getElem_cons_zero, List.getElem_cons_succ]
      rw [if_pos (by rfl)]
      refine wp_store_blk 27 (.tmp 9) (.tmp 26) rfl g9 rfl _ rfl _ 27 hp (by rfl) (by kernel_rfl) (by kernel_rfl) ?_
      intro w12 hq gr
      replace hB := hB.away av_hB_p gr
      replace so1 := so1.away av_so1_p gr
      replace sb1 := sb1.away av_sb1_p gr
      replace how := blk_a how gr d_ow_p
      replace bel := below_grown bel gr op bel.size
      clear hp
      have hp := hq
      clear hq gr
      refine hK.out _ _ how (fun hH13 => ?_)
      clear hK K
      simp only [Act.put]
      refine wpAnyH_take (i := 12) (v := ?_) rfl (by kernel_rfl) (by kernel_rfl) (by kernel_rfl) (fun _ _ _ h => h) (Or.inl ⟨by rfl, ?_⟩) hH13 ?_
      rotate_left
      · ((intro W hW; clear hW; go_simp) <;> with_reducible rfl)
      simp only [Act.put, List.getElem_toArray, List.getElem_cons_zero, List.getElem_cons_succ, List.setIfInBounds_toArray, List.set_cons_zero, List.set_cons_succ]
      refine wpAnyH_done (by kernel_rfl) ?_ _
      go_wp2_with fail
      go_meet
      case rel => exact ⟨g9, Ao1, co1, Ab1, cb1, f01, f11, f21, f31, f41, f51, ad01, ad11, ad21, ad31, ad41, ad51, ad61, ad71, lo1, lb1, rfl, rfl, how, hp, op, d_ow_p, hB, av_hB_ow, av_hB_p, so1, av_so1_ow, av_so1_p, sb1, av_sb1_ow, av_sb1_p, q1, bel⟩
  obtain ⟨w14, hw_⟩ : ∃ x, x = wc := ⟨_, rfl⟩
  subst hw_
  obtain ⟨g9, Ao1, co1, Ab1, cb1, f01, f11, f21, f31, f41, f51, ad01, ad11, ad21, ad31, ad41, ad51, ad61, ad71, lo1, lb1, rfl, rfl, how, hp, op, d_ow_p, hB, av_hB_ow, av_hB_p, so1, av_so1_ow, av_so1_p, sb1, av_sb1_ow, av_sb1_p, q1, bel⟩ := hcut
  have R29 := Lib.hid (range_lit how 0 4 [.int .u8 (o0.toNat : Int), .int .u8 (o1.toNat : Int), .int .u8 (o2.toNat : Int), .int .u8 (o3.toNat : Int)] rfl)
  go_wp2_with (first | ((with_reducible show wpList _ _ _ (⟨some 29, _, _, _, _, _⟩ :: _) _ _); refine wpList_load_rng 24 (.tmp 4) rfl (by kernel_rfl) _ _ rfl _ R29.out _ Try.underlying24 rfl (by kernel_rfl) ?_))
  try clear R29
  with_reducible refine (((ricabout_any _ _ _ _ _ _ _ l _ _ _ hB (by have := H1.out; omega)).mono fun _ _ h => h.er HE.out)).mono ?_
  rintro e w15 ⟨f02, f12, f22, f32, f42, f52, ad02, ad12, ad22, ad32, ad42, ad52, ad62, ad72, lo2, lb2, Ao2, Ab2, co2, cb2, rfl, so2, sb2, fo2, fb2, b15, q2⟩
  have av_so2_ow := fo2.av (hlt how)
  have av_so2_p := fo2.av (hlt hp)
  have av_sb2_ow := fb2.av (hlt how)
  have av_sb2_p := fb2.av (hlt hp)
  replace how := blk_u how b15
  replace hp := blk_u hp b15
  replace hB := hB.below b15
  replace so1 := so1.below b15
  replace sb1 := sb1.below b15
  replace bel := bel.trans (b15.mono bel.size)
  clear b15
  have hh := q1.trans q2.symm
  simp only [Prod.mk.injEq, List.cons.injEq, and_true] at hh
  obtain ⟨⟨⟨rfl, rfl, rfl, rfl, rfl, rfl⟩, rfl, rfl, rfl, rfl, rfl, rfl, rfl, rfl⟩, rfl, rfl⟩ := hh
  clear q1 q2
  go_wp2_with (first | ((with_reducible show wpList _ _ _ (⟨some 11, _, _, _, _, _⟩ :: _) _ _); refine wpList_new_a rfl 45 rfl #[.int .i64 0, .int .i64 0, .int .i64 0, .int .i64 0, .int .i64 0, .int .i64 0, .int .u8 0, .int .u8 0, .int .u8 0, .int .u8 0, .int .u8 0, .int .u8 0, .int .u8 0, .int .u8 0, .slice none 0 0, .slice none 0 0] (by kernel_rfl) ?_; intro g11 w16 ge hh bb; have d_ow_pq := ne_new (hlt how) ge; have d_p_pq := ne_new (hlt hp) ge; have av_hB_pq := hB.av_new ge; have av_so1_pq := so1.av_new ge; have av_sb1_pq := sb1.av_new ge; have av_so2_pq := so2.av_new ge; have av_sb2_pq := sb2.av_new ge; have opq := Nat.le_trans bel.size ge; replace how := blk_u how bb; replace hp := blk_u hp bb; replace hB := hB.below bb; replace so1 := so1.below bb; replace sb1 := sb1.below bb; replace so2 := so2.below bb; replace sb2 := sb2.below bb; replace bel := bel.trans (bb.mono bel.size); have hpq := hh; clear hh ge bb) | ((with_reducible show wpList _ _ _ (⟨none, Op.store _ (.tmp 11) _, _, _, _, _⟩ :: _) _ _); refine wpList_store_blk rfl 45 (.tmp 11) (.tmp 34) rfl g11 rfl _ rfl _ 45 hpq (by rfl) (by kernel_rfl) (by kernel_rfl) ?_; intro w17 hq gr; replace hB := hB.away av_hB_pq gr; replace so1 := so1.away av_so1_pq gr; replace sb1 := sb1.away av_sb1_pq gr; replace so2 := so2.away av_so2_pq gr; replace sb2 := sb2.away av_sb2_pq gr; replace how := blk_a how gr d_ow_pq; replace hp := blk_a hp gr d_p_pq; replace bel := below_grown bel gr opq bel.size; clear hpq; have hpq := hq; clear hq gr))
  replace bel := bel.drew
  replace how : w17.drew.heap[g4]? = _ := how
  replace hp : w17.drew.heap[g9]? = _ := hp
  replace hpq : w17.drew.heap[g11]? = _ := hpq
  replace hB := hB.drew
  replace so1 := so1.drew
  replace sb1 := sb1.drew
  replace so2 := so2.drew
  replace sb2 := sb2.drew
  refine wp_region_held_drew (S := fun W => W.heap[g9]? = some (.cells #[.int .i64 f01, .int .i64 f11, .int .i64 f21, .int .i64 f31, .int .i64 f41, .int .i64 f51, .int .u8 (ad01.toNat : Int), .int .u8 (ad11.toNat : Int), .int .u8 (ad21.toNat : Int), .int .u8 (ad31.toNat : Int), .int .u8 (ad41.toNat : Int), .int .u8 (ad51.toNat : Int), .int .u8 (ad61.toNat : Int), .int .u8 (ad71.toNat : Int), .slice Ao1 lo1.length co1, .slice Ab1 lb1.length cb1] 27 (0, 0)) ∧ W.heap[g11]? = some (.cells #[.int .i64 f01, .int .i64 f11, .int .i64 f21, .int .i64 f31, .int .i64 f41, .int .i64 f51, .int .u8 (ad01.toNat : Int), .int .u8 (ad11.toNat : Int), .int .u8 (ad21.toNat : Int), .int .u8 (ad31.toNat : Int), .int .u8 (ad41.toNat : Int), .int .u8 (ad51.toNat : Int), .int .u8 (ad61.toNat : Int), .int .u8 (ad71.toNat : Int), .slice Ao2 lo1.length co2, .slice Ab2 lb1.length cb2] 45 (0, 0))) (by kernel_rfl) ⟨hp, hpq⟩ (fun hH => ?_)
  generalize w17.drew = w18 at bel how hp hpq hB so1 sb1 so2 sb2 hH ⊢
  refine wpAnyH_take (i := 0) (v := ?_) rfl (by kernel_rfl) (by kernel_rfl) (by kernel_rfl) (fun _ _ _ h => h) (Or.inl ⟨by rfl, ?_⟩) hH ?_
  rotate_left
  · ((intro W hW; clear hW; go_simp) <;> with_reducible rfl)
  simp only [Act.put, List.getElem_toArray, List.getElem_cons_zero, List.setIfInBounds_toArray, List.set_cons_zero, List.set_cons_succ]
  refine wpAnyH_take (i := 1) (v := ?_) rfl (by kernel_rfl) (by kernel_rfl) (by kernel_rfl) (fun _ _ _ h => h) (Or.inl ⟨by rfl, ?_⟩) hH ?_
  rotate_left
  · ((intro W hW; clear hW; go_simp) <;> with_reducible rfl)
  simp only [Act.put, List.getElem_toArray, List.getElem_cons_zero, List.getElem_cons_succ, List.setIfInBounds_toArray, List.set_cons_zero, List.set_cons_succ]
  refine wpAnyH_take (i := 2) (v := ?_) rfl (by kernel_rfl) (by kernel_rfl) (by kernel_rfl) (fun _ _ _ h => h) (Or.inl ⟨by rfl, ?_⟩) hH ?_
  rotate_left
  · ((intro W hW; clear hW; go_simp) <;> with_reducible rfl)
  simp only [Act.put, List.getElem_toArray, List.getElem_cons_zero, List.getElem_cons_succ, List.setIfInBounds_toArray, List.set_cons_zero, List.set_cons_succ]
  refine wpAnyH_take (i := 3) (v := ?_) rfl (by kernel_rfl) (by kernel_rfl) (by kernel_rfl) (fun _ _ _ h => h) (Or.inl ⟨by rfl, ?_⟩) hH ?_
  rotate_left
  · ((intro W hW; clear hW; go_simp) <;> with_reducible rfl)
  simp only [Act.put, List.getElem_toArray, List.getElem_cons_zero, List.getElem_cons_succ, List.setIfInBounds_toArray, List.set_cons_zero, List.set_cons_succ]
  refine wpAnyH_take (i := 4) (v := ?_) rfl (by kernel_rfl) (by kernel_rfl) (by kernel_rfl) (fun _ _ _ h => h) (Or.inl ⟨by rfl, ?_⟩) hH ?_
  rotate_left
  · ((intro W hW; clear hW; go_simp) <;> with_reducible rfl)
  simp only [Act.put, List.getElem_toArray, List.getElem_cons_zero, List.getElem_cons_succ, List.setIfInBounds_toArray, List.set_cons_zero, List.set_cons_succ]
  refine wpAnyH_take (i := 5) (v := ?_) rfl (by kernel_rfl) (by kernel_rfl) (by kernel_rfl) (fun _ _ _ h => h) (Or.inl ⟨by rfl, ?_⟩) hH ?_
  rotate_left
  · ((intro W hW; clear hW; go_simp) <;> with_reducible rfl)
  simp only [Act.put, List.getElem_toArray, List.getElem_cons_zero, List.getElem_cons_succ, List.setIfInBounds_toArray, List.set_cons_zero, List.set_cons_succ]
  refine wpAnyH_take (i := 6) (v := ?_) rfl (by kernel_rfl) (by kernel_rfl) (by kernel_rfl) (fun _ _ _ h => h) (Or.inl ⟨by rfl, ?_⟩) hH ?_
  rotate_left
  · ((intro W hW; clear hW; go_simp) <;> with_reducible rfl)
  simp only [Act.put, List.getElem_toArray, List.getElem_cons_zero, List.getElem_cons_succ, List.setIfInBounds_toArray, List.set_cons_zero, List.set_cons_succ]
  refine wpAnyH_take (i := 7) (v := undef) rfl (by kernel_rfl) (by kernel_rfl) (by kernel_rfl) (fun _ _ _ h => h) (Or.inr ⟨by rfl, rfl⟩) hH ?_
  simp only [Act.put, List.getElem_toArray, List.getElem_cons_zero, List.getElem_cons_succ, List.setIfInBounds_toArray, List.set_cons_zero, List.set_cons_succ]
  refine wpAnyH_take (i := 8) (v := undef) rfl (by kernel_rfl) (by kernel_rfl) (by kernel_rfl) (fun _ _ _ h => h) (Or.inr ⟨by rfl, rfl⟩) hH ?_
  simp only [Act.put, List.getElem_toArray, List.getElem_cons_zero, List.getElem_cons_succ, List.setIfInBounds_toArray, List.set_cons_zero, List.set_cons_succ]
  refine wpAnyH_take (i := 9) (v := undef) rfl (by kernel_rfl) (by kernel_rfl) (by kernel_rfl) (fun _ _ _ h => h) (Or.inr ⟨by rfl, rfl⟩) hH ?_
  simp only [Act.put, List.getElem_toArray, List.getElem_cons_zero, List.getElem_cons_succ, List.setIfInBounds_toArray, List.set_cons_zero, List.set_cons_succ]
  refine wpAnyH_take (i := 10) (v := undef) rfl (by kernel_rfl) (by kernel_rfl) (by kernel_rfl) (fun _ _ _ h => h) (Or.inr ⟨by rfl, rfl⟩) hH ?_
  simp only [Act.put, List.getElem_toArray, List.getElem_cons_zero, List.getElem_cons_succ, List.setIfInBounds_toArray, List.set_cons_zero, List.set_cons_succ]
  refine wpAnyH_take (i := 11) (v := ?_) rfl (by kernel_rfl) (by kernel_rfl) (by kernel_rfl) (fun _ _ _ h => h) (Or.inl ⟨by rfl, ?_⟩) hH ?_
  rotate_left
  · ((intro W hW; clear hW; go_simp) <;> with_reducible rfl)
  simp only [Act.put, List.getElem_toArray, List.getElem_cons_zero, List.getElem_cons_succ, List.setIfInBounds_toArray, List.set_cons_zero, List.set_cons_succ]
  refine wpAnyH_take (i := 12) (v := ?_) rfl (by kernel_rfl) (by kernel_rfl) (by kernel_rfl) (fun _ _ _ h => h) (Or.inl ⟨by rfl, ?_⟩) hH ?_
  rotate_left
  · ((intro W hW; clear hW; go_simp) <;> with_reducible rfl)
  simp only [Act.put, List.getElem_toArray, List.getElem_cons_zero, List.getElem_cons_succ, List.setIfInBounds_toArray, List.set_cons_zero, List.set_cons_succ]
  refine wpAnyH_take (i := 13) (v := ?_) rfl (by kernel_rfl) (by kernel_rfl) (by kernel_rfl) (fun _ _ _ h => h) (Or.inl ⟨by rfl, ?_⟩) hH ?_
  rotate_left
  · ((intro W hW; clear hW; go_simp) <;> with_reducible rfl)
  simp only [Act.put, List.getElem_toArray, List.getElem_cons_zero, List.getElem_cons_succ, List.setIfInBounds_toArray, List.set_cons_zero, List.set_cons_succ]
  refine wpAnyH_done (by kernel_rfl) ?_ _
  go_wp2_with fail
  go_ret
  exact ⟨rfl, bel⟩
set_option linter.unusedVariables false in
set_option maxRecDepth 100000 in
set_option maxHeartbeats 16000000 in
theorem icmpAbouts_3 (o0 o1 o2 o3 : UInt8) (B : Option Addr) (nB cB : Nat) (l : List UInt8) (ty cd : Int) (w : World) (hB : Sl w B nB cB l) (h1 : nB ≤ 1600) (he : (icAbout o0 o1 o2 o3 l ty cd).2.2 = 0) : Calls Try.prog 6 #[.agg #[.int .u8 (o0.toNat : Int), .int .u8 (o1.toNat : Int), .int .u8 (o2.toNat : Int), .int .u8 (o3.toNat : Int)], .slice B nB cB, .int .i64 ty, .int .i64 cd] w fun e w' => e = .returned (.bool true) ∧ Below w.heap.size w w' := by
  obtain ⟨ii, hii, hz0, hz1, hz2⟩ := info_parts Try.info5
  have t1 : decide ((1600 : Int) < nB) = false := decide_eq_false (by omega)
  have H1 := Lib.hid h1
  have HE := Lib.hid he
  clear h1 he
  have bel := Below.refl w.heap.size w
  go_enter Try.func6, Try.ntmps6
  go_wp2_with (first | ((with_reducible show wpList _ _ _ (⟨some 4, _, _, _, _, _⟩ :: _) _ _); refine wpList_box_n rfl 24 (.tmp 0) rfl #[.int .u8 (o0.toNat : Int), .int .u8 (o1.toNat : Int), .int .u8 (o2.toNat : Int), .int .u8 (o3.toNat : Int)] rfl ?_; intro g4 w1 ge lt hh bb; have av_hB_ow := hB.av_new ge; have oow := Nat.le_trans bel.size ge; replace hB := hB.below bb; replace bel := bel.trans (bb.mono bel.size); have how := hh; clear hh lt ge bb))
  with_reducible refine (awake9 _).mono ?_
  rintro e w2 ⟨rfl, b2⟩
  replace how := blk_u how b2
  replace hB := hB.below b2
  replace bel := bel.trans (b2.mono bel.size)
  clear b2
  go_wp2_with fail
  go_cut [9, 10] from 9999 (fun s9 s10 W => ∃ g9 : Nat, ∃ Ao1 : Option Addr, ∃ co1 : Nat, ∃ Ab1 : Option Addr, ∃ cb1 : Nat, ∃ f01 : Int, ∃ f11 : Int, ∃ f21 : Int, ∃ f31 : Int, ∃ f41 : Int, ∃ f51 : Int, ∃ ad01 : UInt8, ∃ ad11 : UInt8, ∃ ad21 : UInt8, ∃ ad31 : UInt8, ∃ ad41 : UInt8, ∃ ad51 : UInt8, ∃ ad61 : UInt8, ∃ ad71 : UInt8, ∃ lo1 : List UInt8, ∃ lb1 : List UInt8, s9 = .pointer (some ⟨g9, 0, none⟩) ∧ s10 = .int .i64 0 ∧ W.heap[g4]? = some (.cells #[.int .u8 (o0.toNat : Int), .int .u8 (o1.toNat : Int), .int .u8 (o2.toNat : Int), .int .u8 (o3.toNat : Int)] 24 (0, 0)) ∧ W.heap[g9]? = some (.cells #[.int .i64 f01, .int .i64 f11, .int .i64 f21, .int .i64 f31, .int .i64 f41, .int .i64 f51, .int .u8 (ad01.toNat : Int), .int .u8 (ad11.toNat : Int), .int .u8 (ad21.toNat : Int), .int .u8 (ad31.toNat : Int), .int .u8 (ad41.toNat : Int), .int .u8 (ad51.toNat : Int), .int .u8 (ad61.toNat : Int), .int .u8 (ad71.toNat : Int), .slice Ao1 lo1.length co1, .slice Ab1 lb1.length cb1] 27 (0, 0)) ∧ w.heap.size ≤ g9 ∧ Hid (g4 ≠ g9) ∧ Sl W (B) (nB) (cB) (l) ∧ Av (B) (nB) g4 ∧ Av (B) (nB) g9 ∧ Sl W (Ao1) (lo1.length) (co1) (lo1) ∧ Av (Ao1) (lo1.length) g4 ∧ Av (Ao1) (lo1.length) g9 ∧ Sl W (Ab1) (lb1.length) (cb1) (lb1) ∧ Av (Ab1) (lb1.length) g4 ∧ Av (Ab1) (lb1.length) g9 ∧ (([f01, f11, f21, f31, f41, f51], [ad01, ad11, ad21, ad31, ad41, ad51, ad61, ad71]), (lo1, lb1), 0) = icAbout o0 o1 o2 o3 l ty cd ∧ Below w.heap.size w W)
  case first =>
    replace bel := bel.drew
    replace how : w2.drew.heap[g4]? = _ := how
    replace hB := hB.drew
    refine wp_region_held_drew (S := fun W => W.heap[g4]? = some (.cells #[.int .u8 (o0.toNat : Int), .int .u8 (o1.toNat : Int), .int .u8 (o2.toNat : Int), .int .u8 (o3.toNat : Int)] 24 (0, 0))) (by kernel_rfl) how (fun hH => ?_)
    generalize w2.drew = w3 at bel how hB hH ⊢
    refine wpAnyH_take (i := 0) (v := .agg #[.int .u8 (o0.toNat : Int), .int .u8 (o1.toNat : Int), .int .u8 (o2.toNat : Int), .int .u8 (o3.toNat : Int)]) rfl (by kernel_rfl) (by kernel_rfl) (by kernel_rfl) (fun _ _ _ h => h) (yieldsIf_load_part (by kernel_rfl) 24 _ rfl g4 0 4 rfl _ 24 (0, 0) (fun W hW => hW) _ rfl _ Try.underlying24 rfl (by kernel_rfl)) hH ?_
    simp only [Act.put, List.getElem_toArray, List.getElem_cons_zero, List.setIfInBounds_toArray, List.set_cons_zero, List.set_cons_succ]
    refine wpAnyH_take (i := 2) (v := ?_) rfl (by kernel_rfl) (by kernel_rfl) (by kernel_rfl) (fun _ _ _ h => h) (Or.inl ⟨by rfl, ?_⟩) hH ?_
    rotate_left
    · ((intro W hW; clear hW; go_simp) <;> with_reducible rfl)
    simp only [Act.put, List.getElem_toArray, List.getElem_cons_zero, List.getElem_cons_succ, List.setIfInBounds_toArray, List.set_cons_zero, List.set_cons_succ]
    refine wpAnyH_take (i := 4) (v := ?_) rfl (by kernel_rfl) (by kernel_rfl) (by kernel_rfl) (fun _ _ _ h => h) (Or.inl ⟨by rfl, ?_⟩) hH ?_
    rotate_left
    · ((intro W hW; clear hW; go_simp) <;> with_reducible rfl)
    simp only [Act.put, List.getElem_toArray, List.getElem_cons_zero, List.getElem_cons_succ, List.setIfInBounds_toArray, List.set_cons_zero, List.set_cons_succ]
    refine wpAnyH_take (i := 5) (v := ?_) rfl (by kernel_rfl) (by kernel_rfl) (by kernel_rfl) (fun _ _ _ h => h) (Or.inl ⟨by rfl, ?_⟩) hH ?_
    rotate_left
    · ((intro W hW; clear hW; go_simp) <;> with_reducible rfl)
    simp only [Act.put, List.getElem_toArray, List.getElem_cons_zero, List.getElem_cons_succ, List.setIfInBounds_toArray, List.set_cons_zero, List.set_cons_succ]
    refine wpAnyH_ready (rs := [1, 10]) (by kernel_rfl) (by simp) ?_
    refine AllReadyH.cons (o := _) rfl (fun K hK => ?_) (AllReadyH.cons (o := _) rfl (fun K hK => ?_) AllReadyH.nil)
    · simp only [List.getElem_toArray, List.getElem_cons_zero, List.getElem_cons_succ]
      rw [if_pos (by rfl)]
      refine wp_lit_n 25 5 0 _ rfl #[] (.int .u8 0) Try.underlying25 (by kernel_rfl) 1 (by kernel_rfl) (by decide) (by kernel_rfl) ?_
      intro g20 w4 ge lt hh bb
      have hl : w4.heap[g20]? = some (.cells (([] : List UInt8).map u8v).toArray 5 (0, 0)) := (by simpa [u8v, byteOf_val] using hh)
      have e0w := own_lit (B := w3.heap.size) ([]) hl ge 0 rfl (by simp [maxLen])
      have e0 := (own_sl e0w).1
      have e0lo := bel.size
      clear hl
      have e0ge := ge
      have lz_e0 := bb.size
      have y_e0_ow := Lib.hid (hlt how)
      have bl_hB_e0 := hB.bl_new
      replace how := blk_u how bb
      replace hB := hB.below bb
      replace bel := bel.trans (bb.mono bel.size)
      clear hh lt ge bb
      have av_e0_ow := (own_sl e0w).2.av y_e0_ow.out
      refine hK.out _ _ how (fun hH5 => ?_)
      clear hK K
      simp only [Act.put, List.setIfInBounds_toArray, List.set_cons_zero, List.set_cons_succ]
      refine wpAnyH_ready (rs := [3, 10]) (by kernel_rfl) (by simp) ?_
      refine AllReadyH.cons (o := _) rfl (fun K hK => ?_) (AllReadyH.cons (o := _) rfl (fun K hK => ?_) AllReadyH.nil)
      · simp only [List.getElem_toArray, List.getElem_cons_zero, List.getElem_cons_succ]
        rw [if_pos (by rfl)]
        refine wp_append_bb (.tmp 20) (.tmp 21) 25 rfl (w3.heap.size) 5 ii (.int .u8 0) Try.underlying25 hii hz0 hz1 hz2 rfl _ (0) ([]) rfl e0w (B) (nB) (cB) (l) rfl hB (by have := H1.out; omega) lz_e0 ?_
        intro v22 w6 own_ bb
        replace hB := hB.under bl_hB_e0 bb
        replace how := blk_under how bb y_e0_ow.out
        replace bel := bel.trans (bb.mono e0lo)
        have lz_ap := Nat.le_trans lz_e0 bb.size
        clear bb
        clear e0 e0w lz_e0
        replace own_ : w6.ownsRow (w3.heap.size) 5 1 v22 (nB) ((l : List UInt8).map u8v) := (by simpa using own_)
        obtain ⟨A22, c22, rfl⟩ := own_val own_
        have apw := own_
        have ap := (own_sl own_).1
        have fr_ap := (own_sl own_).2
        clear own_
        have av_ap_ow := fr_ap.av y_e0_ow.out
        refine hK.out _ _ how (fun hH7 => ?_)
        clear hK K
        simp only [Act.put, List.setIfInBounds_toArray, List.set_cons_zero, List.set_cons_succ]
        refine wpAnyH_ready (rs := [6, 10]) (by kernel_rfl) (by simp) ?_
        refine AllReadyH.cons (o := _) rfl (fun K hK => ?_) (AllReadyH.cons (o := _) rfl (fun K hK => ?_) AllReadyH.nil)
        · simp only [List.getElem_toArray, List.getElem_cons_zero, List.getElem_cons_succ]
          go_simp
          with_reducible refine (((icabout_any _ _ _ _ _ _ _ l _ _ _ ap (by have := H1.out; omega)).mono fun _ _ h => h.er HE.out)).mono ?_
          rintro e w8 ⟨f01, f11, f21, f31, f41, f51, ad01, ad11, ad21, ad31, ad41, ad51, ad61, ad71, lo1, lb1, Ao1, Ab1, co1, cb1, rfl, so1, sb1, fo1, fb1, b8, q1⟩
          dsimp only
          have av_so1_ow := fo1.av (hlt how)
          have av_sb1_ow := fb1.av (hlt how)
          replace how := blk_u how b8
          replace hB := hB.below b8
          replace ap := ap.below b8
          replace apw := own_under apw b8
          replace lz_ap := Nat.le_trans lz_ap b8.size
          replace bel := bel.trans (b8.mono bel.size)
          clear b8
          replace so1 : Sl w8 (Ao1) (lo1.length) (co1) (lo1) := so1
          replace sb1 : Sl w8 (Ab1) (lb1.length) (cb1) (lb1) := sb1
          clear ap apw lz_ap
          refine hK.out _ _ how (fun hH9 => ?_)
          clear hK K
          refine wpAnyH_take (i := 7) (v := ?_) rfl (by kernel_rfl) (by kernel_rfl) (by kernel_rfl) (fun _ _ _ h => h) (Or.inl ⟨by rfl, ?_⟩) hH9 ?_
          rotate_left
          · ((intro W hW; clear hW; go_simp) <;> with_reducible rfl)
          simp only [Act.put, List.getElem_toArray, List.getElem_cons_zero, List.getElem_cons_succ, List.setIfInBounds_toArray, List.set_cons_zero, List.set_cons_succ]
          refine wpAnyH_take (i := 8) (v := ?_) rfl (by kernel_rfl) (by kernel_rfl) (by kernel_rfl) (fun _ _ _ h => h) (Or.inl ⟨by rfl, ?_⟩) hH9 ?_
          rotate_left
          · ((intro W hW; clear hW; go_simp) <;> with_reducible rfl)
          simp only [Act.put, List.getElem_toArray, List.getElem_cons_zero, List.getElem_cons_succ, List.setIfInBounds_toArray, List.set_cons_zero, List.set_cons_succ]
          refine wpAnyH_take (i := 9) (v := ?_) rfl (by kernel_rfl) (by kernel_rfl) (by kernel_rfl) (fun _ _ _ h => h) (Or.inl ⟨by rfl, ?_⟩) hH9 ?_
          rotate_left
          · ((intro W hW; clear hW; go_simp) <;> with_reducible rfl)
          simp only [Act.put, List.getElem_toArray, List.getElem_cons_zero, List.getElem_cons_succ, List.setIfInBounds_toArray, List.set_cons_zero, List.set_cons_succ]
          refine wpAnyH_ready (rs := [10]) (by kernel_rfl) (by simp) ?_
          refine AllReadyH.cons (o := _) rfl (fun K hK => ?_) AllReadyH.nil
          simp only [List.getElem_toArray, List.getElem_cons_zero, List.getElem_cons_succ]
          rw [if_pos (by rfl)]
          refine wp_new_a 27 rfl #[.int .i64 0, .int .i64 0, .int .i64 0, .int .i64 0, .int .i64 0, .int .i64 0, .int .u8 0, .int .u8 0, .int .u8 0, .int .u8 0, .int .u8 0, .int .u8 0, .int .u8 0, .int .u8 0, .slice none 0 0, .slice none 0 0] (by kernel_rfl) ?_
          intro g9 w10 ge hh bb
          have d_ow_p := ne_new (hlt how) ge
          have av_hB_p := hB.av_new ge
          have av_so1_p := so1.av_new ge
          have av_sb1_p := sb1.av_new ge
          have op := Nat.le_trans bel.size ge
          replace how := blk_u how bb
          replace hB := hB.below bb
          replace so1 := so1.below bb
          replace sb1 := sb1.below bb
          replace bel := bel.trans (bb.mono bel.size)
          have hp := hh
          clear hh ge bb
          refine hK.out _ _ how (fun hH11 => ?_)
          clear hK K
          simp only [Act.put, List.setIfInBounds_toArray, List.set_cons_zero, List.set_cons_succ]
          refine wpAnyH_ready (rs := [11]) (by kernel_rfl) (by simp) ?_
          refine AllReadyH.cons (o := _) rfl (fun K hK => ?_) AllReadyH.nil
          simp only [List.getElem_toArray, List.getElem_cons_zero, List.getElem_cons_succ]
          rw [if_pos (by rfl)]
          refine wp_store_blk 27 (.tmp 9) (.tmp 26) rfl g9 rfl _ rfl _ 27 hp (by rfl) (by kernel_rfl) (by kernel_rfl) ?_
          intro w12 hq gr
          replace hB := hB.away av_hB_p gr
          replace so1 := so1.away av_so1_p gr
          replace sb1 := sb1.away av_sb1_p gr
          replace how := blk_a how gr d_ow_p
          replace bel := below_grown bel gr op bel.size
          clear hp
          have hp := hq
          clear hq gr
          refine hK.out _ _ how (fun hH13 => ?_)
          clear hK K
          simp only [Act.put]
          refine wpAnyH_take (i := 12) (v := ?_) rfl (by kernel_rfl) (by kernel_rfl) (by kernel_rfl) (fun _ _ _ h => h) (Or.inl ⟨by rfl, ?_⟩) hH13 ?_
          rotate_left
          · ((intro W hW; clear hW; go_simp) <;> with_reducible rfl)
          simp only [Act.put, List.getElem_toArray, List.getElem_cons_zero, List.getElem_cons_succ, List.setIfInBounds_toArray, List.set_cons_zero, List.set_cons_succ]
          refine wpAnyH_done (by kernel_rfl) ?_ _
          go_wp2_with fail
          go_meet
          case rel => exact ⟨g9, Ao1, co1, Ab1, cb1, f01, f11, f21, f31, f41, f51, ad01, ad11, ad21, ad31, ad41, ad51, ad61, ad71, lo1, lb1, rfl, rfl, how, hp, op, d_ow_p, hB, av_hB_ow, av_hB_p, so1, av_so1_ow, av_so1_p, sb1, av_sb1_ow, av_sb1_p, q1, bel⟩
        · simp only [List.getElem_toArray, List.getElem_cons_zero, List.getElem_cons_succ]
          rw [if_pos (by rfl)]
          refine wp_new_a 27 rfl #[.int .i64 0, .int .i64 0, .int .i64 0, .int .i64 0, .int .i64 0, .int .i64 0, .int .u8 0, .int .u8 0, .int .u8 0, .int .u8 0, .int .u8 0, .int .u8 0, .int .u8 0, .int .u8 0, .slice none 0 0, .slice none 0 0] (by kernel_rfl) ?_
          intro g9 w8 ge hh bb
          have d_ow_p := ne_new (hlt how) ge
          have av_hB_p := hB.av_new ge
          have av_ap_p := ap.av_new ge
          have of_ap_p := own_new apw ge
          have op := Nat.le_trans bel.size ge
          replace how := blk_u how bb
          replace hB := hB.below bb
          replace ap := ap.below bb
          replace apw := own_under apw bb
          replace lz_ap := Nat.le_trans lz_ap bb.size
          replace bel := bel.trans (bb.mono bel.size)
          have hp := hh
          clear hh ge bb
          refine hK.out _ _ how (fun hH9 => ?_)
          clear hK K
          simp only [Act.put, List.setIfInBounds_toArray, List.set_cons_zero, List.set_cons_succ]
          refine wpAnyH_ready (rs := [6]) (by kernel_rfl) (by simp) ?_
          refine AllReadyH.cons (o := _) rfl (fun K hK => ?_) AllReadyH.nil
          simp only [List.getElem_toArray, List.getElem_cons_zero, List.getElem_cons_succ]
          go_simp
          with_reducible refine (((icabout_any _ _ _ _ _ _ _ l _ _ _ ap (by have := H1.out; omega)).mono fun _ _ h => h.er HE.out)).mono ?_
          rintro e w10 ⟨f01, f11, f21, f31, f41, f51, ad01, ad11, ad21, ad31, ad41, ad51, ad61, ad71, lo1, lb1, Ao1, Ab1, co1, cb1, rfl, so1, sb1, fo1, fb1, b10, q1⟩
          dsimp only
          have av_so1_ow := fo1.av (hlt how)
          have av_so1_p := fo1.av (hlt hp)
          have av_sb1_ow := fb1.av (hlt how)
          have av_sb1_p := fb1.av (hlt hp)
          replace how := blk_u how b10
          replace hp := blk_u hp b10
          replace hB := hB.below b10
          replace ap := ap.below b10
          replace apw := own_under apw b10
          replace lz_ap := Nat.le_trans lz_ap b10.size
          replace bel := bel.trans (b10.mono bel.size)
          clear b10
          replace so1 : Sl w10 (Ao1) (lo1.length) (co1) (lo1) := so1
          replace sb1 : Sl w10 (Ab1) (lb1.length) (cb1) (lb1) := sb1
          clear ap apw lz_ap
          refine hK.out _ _ how (fun hH11 => ?_)
          clear hK K
          refine wpAnyH_take (i := 7) (v := ?_) rfl (by kernel_rfl) (by kernel_rfl) (by kernel_rfl) (fun _ _ _ h => h) (Or.inl ⟨by rfl, ?_⟩) hH11 ?_
          rotate_left
          · ((intro W hW; clear hW; go_simp) <;> with_reducible rfl)
          simp only [Act.put, List.getElem_toArray, List.getElem_cons_zero, List.getElem_cons_succ, List.setIfInBounds_toArray, List.set_cons_zero, List.set_cons_succ]
          refine wpAnyH_take (i := 8) (v := ?_) rfl (by kernel_rfl) (by kernel_rfl) (by kernel_rfl) (fun _ _ _ h => h) (Or.inl ⟨by rfl, ?_⟩) hH11 ?_
          rotate_left
          · ((intro W hW; clear hW; go_simp) <;> with_reducible rfl)
          simp only [Act.put, List.getElem_toArray, List.getElem_cons_zero, List.getElem_cons_succ, List.setIfInBounds_toArray, List.set_cons_zero, List.set_cons_succ]
          refine wpAnyH_take (i := 9) (v := ?_) rfl (by kernel_rfl) (by kernel_rfl) (by kernel_rfl) (fun _ _ _ h => h) (Or.inl ⟨by rfl, ?_⟩) hH11 ?_
          rotate_left
          · ((intro W hW; clear hW; go_simp) <;> with_reducible rfl)
          simp only [Act.put, List.getElem_toArray, List.getElem_cons_zero, List.getElem_cons_succ, List.setIfInBounds_toArray, List.set_cons_zero, List.set_cons_succ]
          refine wpAnyH_ready (rs := [11]) (by kernel_rfl) (by simp) ?_
          refine AllReadyH.cons (o := _) rfl (fun K hK => ?_) AllReadyH.nil
          simp only [List.getElem_toArray, List.getElem_cons_zero, List.getElem_cons_succ]
          rw [if_pos (by rfl)]
          refine wp_store_blk 27 (.tmp 9) (.tmp 26) rfl g9 rfl _ rfl _ 27 hp (by rfl) (by kernel_rfl) (by kernel_rfl) ?_
          intro w12 hq gr
          replace hB := hB.away av_hB_p gr
          replace so1 := so1.away av_so1_p gr
          replace sb1 := sb1.away av_sb1_p gr
          replace how := blk_a how gr d_ow_p
          replace bel := below_grown bel gr op bel.size
          clear hp
          have hp := hq
          clear hq gr
          refine hK.out _ _ how (fun hH13 => ?_)
          clear hK K
          simp only [Act.put]
          refine wpAnyH_take (i := 12) (v := ?_) rfl (by kernel_rfl) (by kernel_rfl) (by kernel_rfl) (fun _ _ _ h => h) (Or.inl ⟨by rfl, ?_⟩) hH13 ?_
          rotate_left
          · ((intro W hW; clear hW; go_simp) <;> with_reducible rfl)
          simp only [Act.put, List.getElem_toArray, List.getElem_cons_zero, List.getElem_cons_succ, List.setIfInBounds_toArray, List.set_cons_zero, List.set_cons_succ]
          refine wpAnyH_done (by kernel_rfl) ?_ _
          go_wp2_with fail
          go_meet
          case rel => exact ⟨g9, Ao1, co1, Ab1, cb1, f01, f11, f21, f31, f41, f51, ad01, ad11, ad21, ad31, ad41, ad51, ad61, ad71, lo1, lb1, rfl, rfl, how, hp, op, d_ow_p, hB, av_hB_ow, av_hB_p, so1, av_so1_ow, av_so1_p, sb1, av_sb1_ow, av_sb1_p, q1, bel⟩
      · simp only [List.getElem_toArray, List.getElem_cons_zero, List.getElem_cons_succ]
        rw [if_pos (by rfl)]
        refine wp_new_a 27 rfl #[.int .i64 0, .int .i64 0, .int .i64 0, .int .i64 0, .int .i64 0, .int .i64 0, .int .u8 0, .int .u8 0, .int .u8 0, .int .u8 0, .int .u8 0, .int .u8 0, .int .u8 0, .int .u8 0, .slice none 0 0, .slice none 0 0] (by kernel_rfl) ?_
        intro g9 w6 ge hh bb
        have d_ow_p := ne_new (hlt how) ge
        have av_hB_p := hB.av_new ge
        have av_e0_p := e0.av_new ge
        have of_e0_p := own_new e0w ge
        have op := Nat.le_trans bel.size ge
        replace how := blk_u how bb
        replace hB := hB.below bb
        replace e0 := e0.below bb
        replace e0w := own_under e0w bb
        replace lz_e0 := Nat.le_trans lz_e0 bb.size
        replace bel := bel.trans (bb.mono bel.size)
        have hp := hh
        clear hh ge bb
        refine hK.out _ _ how (fun hH7 => ?_)
        clear hK K
        simp only [Act.put, List.setIfInBounds_toArray, List.set_cons_zero, List.set_cons_succ]
        refine wpAnyH_ready (rs := [3]) (by kernel_rfl) (by simp) ?_
        refine AllReadyH.cons (o := _) rfl (fun K hK => ?_) AllReadyH.nil
        simp only [List.getElem_toArray, List.getElem_cons_zero, List.getElem_cons_succ]
        rw [if_pos (by rfl)]
        refine wp_append_bg (.tmp 20) (.tmp 21) 25 rfl (w3.heap.size) 5 ii (.int .u8 0) Try.underlying25 hii hz0 hz1 hz2 rfl _ (0) ([]) rfl e0w (B) (nB) (cB) (l) rfl hB (by have := H1.out; omega) lz_e0 ?_
        intro v22 w8 own_ bb gw ofw
        have of22_p := ofw _ (hlt hp) of_e0_p
        clear ofw
        replace hB := hB.under bl_hB_e0 bb
        replace how := blk_under how bb y_e0_ow.out
        replace hp := blk_own hp gw of_e0_p
        clear gw
        replace bel := bel.trans (bb.mono e0lo)
        have lz_ap := Nat.le_trans lz_e0 bb.size
        clear bb
        clear e0 e0w lz_e0
        replace own_ : w8.ownsRow (w3.heap.size) 5 1 v22 (nB) ((l : List UInt8).map u8v) := (by simpa using own_)
        obtain ⟨A22, c22, rfl⟩ := own_val own_
        have apw := own_
        have ap := (own_sl own_).1
        have fr_ap := (own_sl own_).2
        clear own_
        have av_ap_ow := fr_ap.av y_e0_ow.out
        have av_ap_p := own_av apw of22_p
        refine hK.out _ _ how (fun hH9 => ?_)
        clear hK K
        simp only [Act.put, List.setIfInBounds_toArray, List.set_cons_zero, List.set_cons_succ]
        refine wpAnyH_ready (rs := [6]) (by kernel_rfl) (by simp) ?_
        refine AllReadyH.cons (o := _) rfl (fun K hK => ?_) AllReadyH.nil
        simp only [List.getElem_toArray, List.getElem_cons_zero, List.getElem_cons_succ]
        go_simp
        with_reducible refine (((icabout_any _ _ _ _ _ _ _ l _ _ _ ap (by have := H1.out; omega)).mono fun _ _ h => h.er HE.out)).mono ?_
        rintro e w10 ⟨f01, f11, f21, f31, f41, f51, ad01, ad11, ad21, ad31, ad41, ad51, ad61, ad71, lo1, lb1, Ao1, Ab1, co1, cb1, rfl, so1, sb1, fo1, fb1, b10, q1⟩
        dsimp only
        have av_so1_ow := fo1.av (hlt how)
        have av_so1_p := fo1.av (hlt hp)
        have av_sb1_ow := fb1.av (hlt how)
        have av_sb1_p := fb1.av (hlt hp)
        replace how := blk_u how b10
        replace hp := blk_u hp b10
        replace hB := hB.below b10
        replace ap := ap.below b10
        replace apw := own_under apw b10
        replace lz_ap := Nat.le_trans lz_ap b10.size
        replace bel := bel.trans (b10.mono bel.size)
        clear b10
        replace so1 : Sl w10 (Ao1) (lo1.length) (co1) (lo1) := so1
        replace sb1 : Sl w10 (Ab1) (lb1.length) (cb1) (lb1) := sb1
        clear ap apw lz_ap
        refine hK.out _ _ how (fun hH11 => ?_)
        clear hK K
        refine wpAnyH_take (i := 7) (v := ?_) rfl (by kernel_rfl) (by kernel_rfl) (by kernel_rfl) (fun _ _ _ h => h) (Or.inl ⟨by rfl, ?_⟩) hH11 ?_
        rotate_left
        · ((intro W hW; clear hW; go_simp) <;> with_reducible rfl)
        simp only [Act.put, List.getElem_toArray, List.getElem_cons_zero, List.getElem_cons_succ, List.setIfInBounds_toArray, List.set_cons_zero, List.set_cons_succ]
        refine wpAnyH_take (i := 8) (v := ?_) rfl (by kernel_rfl) (by kernel_rfl) (by kernel_rfl) (fun _ _ _ h => h) (Or.inl ⟨by rfl, ?_⟩) hH11 ?_
        rotate_left
        · ((intro W hW; clear hW; go_simp) <;> with_reducible rfl)
        simp only [Act.put, List.getElem_toArray, List.getElem_cons_zero, List.getElem_cons_succ, List.setIfInBounds_toArray, List.set_cons_zero, List.set_cons_succ]
        refine wpAnyH_take (i := 9) (v := ?_) rfl (by kernel_rfl) (by kernel_rfl) (by kernel_rfl) (fun _ _ _ h => h) (Or.inl ⟨by rfl, ?_⟩) hH11 ?_
        rotate_left
        · ((intro W hW; clear hW; go_simp) <;> with_reducible rfl)
        simp only [Act.put, List.getElem_toArray, List.getElem_cons_zero, List.getElem_cons_succ, List.setIfInBounds_toArray, List.set_cons_zero, List.set_cons_succ]
        refine wpAnyH_ready (rs := [11]) (by kernel_rfl) (by simp) ?_
        refine AllReadyH.cons (o := _) rfl (fun K hK => ?_) AllReadyH.nil
        simp only [List.getElem_toArray, List.getElem_cons_zero, List.getElem_cons_succ]
        rw [if_pos (by rfl)]
        refine wp_store_blk 27 (.tmp 9) (.tmp 26) rfl g9 rfl _ rfl _ 27 hp (by rfl) (by kernel_rfl) (by kernel_rfl) ?_
        intro w12 hq gr
        replace hB := hB.away av_hB_p gr
        replace so1 := so1.away av_so1_p gr
        replace sb1 := sb1.away av_sb1_p gr
        replace how := blk_a how gr d_ow_p
        replace bel := below_grown bel gr op bel.size
        clear hp
        have hp := hq
        clear hq gr
        refine hK.out _ _ how (fun hH13 => ?_)
        clear hK K
        simp only [Act.put]
        refine wpAnyH_take (i := 12) (v := ?_) rfl (by kernel_rfl) (by kernel_rfl) (by kernel_rfl) (fun _ _ _ h => h) (Or.inl ⟨by rfl, ?_⟩) hH13 ?_
        rotate_left
        · ((intro W hW; clear hW; go_simp) <;> with_reducible rfl)
        simp only [Act.put, List.getElem_toArray, List.getElem_cons_zero, List.getElem_cons_succ, List.setIfInBounds_toArray, List.set_cons_zero, List.set_cons_succ]
        refine wpAnyH_done (by kernel_rfl) ?_ _
        go_wp2_with fail
        go_meet
        case rel => exact ⟨g9, Ao1, co1, Ab1, cb1, f01, f11, f21, f31, f41, f51, ad01, ad11, ad21, ad31, ad41, ad51, ad61, ad71, lo1, lb1, rfl, rfl, how, hp, op, d_ow_p, hB, av_hB_ow, av_hB_p, so1, av_so1_ow, av_so1_p, sb1, av_sb1_ow, av_sb1_p, q1, bel⟩
    · simp only [List.getElem_toArray, List.getElem_cons_zero, List.getElem_cons_succ]
      rw [if_pos (by rfl)]
      refine wp_new_a 27 rfl #[.int .i64 0, .int .i64 0, .int .i64 0, .int .i64 0, .int .i64 0, .int .i64 0, .int .u8 0, .int .u8 0, .int .u8 0, .int .u8 0, .int .u8 0, .int .u8 0, .int .u8 0, .int .u8 0, .slice none 0 0, .slice none 0 0] (by kernel_rfl) ?_
      intro g9 w4 ge hh bb
      have d_ow_p := ne_new (hlt how) ge
      have av_hB_p := hB.av_new ge
      have op := Nat.le_trans bel.size ge
      replace how := blk_u how bb
      replace hB := hB.below bb
      replace bel := bel.trans (bb.mono bel.size)
      have hp := hh
      clear hh ge bb
      refine hK.out _ _ how (fun hH5 => ?_)
      clear hK K
      simp only [Act.put, List.setIfInBounds_toArray, List.set_cons_zero, List.set_cons_succ]
      refine wpAnyH_ready (rs := [1]) (by kernel_rfl) (by simp) ?_
      refine AllReadyH.cons (o := _) rfl (fun K hK => ?_) AllReadyH.nil
      simp only [List.getElem_toArray, List.getElem_cons_zero, List.getElem_cons_succ]
      rw [if_pos (by rfl)]
      refine wp_lit_n 25 5 0 _ rfl #[] (.int .u8 0) Try.underlying25 (by kernel_rfl) 1 (by kernel_rfl) (by decide) (by kernel_rfl) ?_
      intro g20 w6 ge lt hh bb
      have hl : w6.heap[g20]? = some (.cells (([] : List UInt8).map u8v).toArray 5 (0, 0)) := (by simpa [u8v, byteOf_val] using hh)
      have e0w := own_lit (B := w4.heap.size) ([]) hl ge 0 rfl (by simp [maxLen])
      have e0 := (own_sl e0w).1
      have e0lo := bel.size
      clear hl
      have e0ge := ge
      have lz_e0 := bb.size
      have y_e0_ow := Lib.hid (hlt how)
      have y_e0_p := Lib.hid (hlt hp)
      have bl_hB_e0 := hB.bl_new
      replace how := blk_u how bb
      replace hp := blk_u hp bb
      replace hB := hB.below bb
      replace bel := bel.trans (bb.mono bel.size)
      clear hh lt ge bb
      have av_e0_ow := (own_sl e0w).2.av y_e0_ow.out
      have av_e0_p := (own_sl e0w).2.av y_e0_p.out
      refine hK.out _ _ how (fun hH7 => ?_)
      clear hK K
      simp only [Act.put, List.setIfInBounds_toArray, List.set_cons_zero, List.set_cons_succ]
      refine wpAnyH_ready (rs := [3]) (by kernel_rfl) (by simp) ?_
      refine AllReadyH.cons (o := _) rfl (fun K hK => ?_) AllReadyH.nil
      simp only [List.getElem_toArray, List.getElem_cons_zero, List.getElem_cons_succ]
      rw [if_pos (by rfl)]
      refine wp_append_bb (.tmp 20) (.tmp 21) 25 rfl (w4.heap.size) 5 ii (.int .u8 0) Try.underlying25 hii hz0 hz1 hz2 rfl _ (0) ([]) rfl e0w (B) (nB) (cB) (l) rfl hB (by have := H1.out; omega) lz_e0 ?_
      intro v22 w8 own_ bb
      replace hB := hB.under bl_hB_e0 bb
      replace how := blk_under how bb y_e0_ow.out
      replace hp := blk_under hp bb y_e0_p.out
      replace bel := bel.trans (bb.mono e0lo)
      have lz_ap := Nat.le_trans lz_e0 bb.size
      clear bb
      clear e0 e0w lz_e0
      replace own_ : w8.ownsRow (w4.heap.size) 5 1 v22 (nB) ((l : List UInt8).map u8v) := (by simpa using own_)
      obtain ⟨A22, c22, rfl⟩ := own_val own_
      have apw := own_
      have ap := (own_sl own_).1
      have fr_ap := (own_sl own_).2
      clear own_
      have av_ap_ow := fr_ap.av y_e0_ow.out
      have av_ap_p := fr_ap.av y_e0_p.out
      refine hK.out _ _ how (fun hH9 => ?_)
      clear hK K
      simp only [Act.put, List.setIfInBounds_toArray, List.set_cons_zero, List.set_cons_succ]
      refine wpAnyH_ready (rs := [6]) (by kernel_rfl) (by simp) ?_
      refine AllReadyH.cons (o := _) rfl (fun K hK => ?_) AllReadyH.nil
      simp only [List.getElem_toArray, List.getElem_cons_zero, List.getElem_cons_succ]
      go_simp
      with_reducible refine (((icabout_any _ _ _ _ _ _ _ l _ _ _ ap (by have := H1.out; omega)).mono fun _ _ h => h.er HE.out)).mono ?_
      rintro e w10 ⟨f01, f11, f21, f31, f41, f51, ad01, ad11, ad21, ad31, ad41, ad51, ad61, ad71, lo1, lb1, Ao1, Ab1, co1, cb1, rfl, so1, sb1, fo1, fb1, b10, q1⟩
      dsimp only
      have av_so1_ow := fo1.av (hlt how)
      have av_so1_p := fo1.av (hlt hp)
      have av_sb1_ow := fb1.av (hlt how)
      have av_sb1_p := fb1.av (hlt hp)
      replace how := blk_u how b10
      replace hp := blk_u hp b10
      replace hB := hB.below b10
      replace ap := ap.below b10
      replace apw := own_under apw b10
      replace lz_ap := Nat.le_trans lz_ap b10.size
      replace bel := bel.trans (b10.mono bel.size)
      clear b10
      replace so1 : Sl w10 (Ao1) (lo1.length) (co1) (lo1) := so1
      replace sb1 : Sl w10 (Ab1) (lb1.length) (cb1) (lb1) := sb1
      clear ap apw lz_ap
      refine hK.out _ _ how (fun hH11 => ?_)
      clear hK K
      refine wpAnyH_take (i := 7) (v := ?_) rfl (by kernel_rfl) (by kernel_rfl) (by kernel_rfl) (fun _ _ _ h => h) (Or.inl ⟨by rfl, ?_⟩) hH11 ?_
      rotate_left
      · ((intro W hW; clear hW; go_simp) <;> with_reducible rfl)
      simp only [Act.put, List.getElem_toArray, List.getElem_cons_zero, List.getElem_cons_succ, List.setIfInBounds_toArray, List.set_cons_zero, List.set_cons_succ]
      refine wpAnyH_take (i := 8) (v := ?_) rfl (by kernel_rfl) (by kernel_rfl) (by kernel_rfl) (fun _ _ _ h => h) (Or.inl ⟨by rfl, ?_⟩) hH11 ?_
      rotate_left
      · ((intro W hW; clear hW; go_simp) <;> with_reducible rfl)
      simp only [Act.put, List.getElem_toArray, List.getElem_cons_zero, List.getElem_cons_succ, List.setIfInBounds_toArray, List.set_cons_zero, List.set_cons_succ]
      refine wpAnyH_take (i := 9) (v := ?_) rfl (by kernel_rfl) (by kernel_rfl) (by kernel_rfl) (fun _ _ _ h => h) (Or.inl ⟨by rfl, ?_⟩) hH11 ?_
      rotate_left
      · ((intro W hW; clear hW; go_simp) <;> with_reducible rfl)
      simp only [Act.put, List.getElem_toArray, List.getElem_cons_zero, List.getElem_cons_succ, List.setIfInBounds_toArray, List.set_cons_zero, List.set_cons_succ]
      refine wpAnyH_ready (rs := [11]) (by kernel_rfl) (by simp) ?_
      refine AllReadyH.cons (o := _) rfl (fun K hK => ?_) AllReadyH.nil
      simp only [List.getElem_toArray, List.getElem_cons_zero, List.getElem_cons_succ]
      rw [if_pos (by rfl)]
      refine wp_store_blk 27 (.tmp 9) (.tmp 26) rfl g9 rfl _ rfl _ 27 hp (by rfl) (by kernel_rfl) (by kernel_rfl) ?_
      intro w12 hq gr
      replace hB := hB.away av_hB_p gr
      replace so1 := so1.away av_so1_p gr
      replace sb1 := sb1.away av_sb1_p gr
      replace how := blk_a how gr d_ow_p
      replace bel := below_grown bel gr op bel.size
      clear hp
      have hp := hq
      clear hq gr
      refine hK.out _ _ how (fun hH13 => ?_)
      clear hK K
      simp only [Act.put]
      refine wpAnyH_take (i := 12) (v := ?_) rfl (by kernel_rfl) (by kernel_rfl) (by kernel_rfl) (fun _ _ _ h => h) (Or.inl ⟨by rfl, ?_⟩) hH13 ?_
      rotate_left
      · ((intro W hW; clear hW; go_simp) <;> with_reducible rfl)
      simp only [Act.put, List.getElem_toArray, List.getElem_cons_zero, List.getElem_cons_succ, List.setIfInBounds_toArray, List.set_cons_zero, List.set_cons_succ]
      refine wpAnyH_done (by kernel_rfl) ?_ _
      go_wp2_with fail
      go_meet
      case rel => exact ⟨g9, Ao1, co1, Ab1, cb1, f01, f11, f21, f31, f41, f51, ad01, ad11, ad21, ad31, ad41, ad51, ad61, ad71, lo1, lb1, rfl, rfl, how, hp, op, d_ow_p, hB, av_hB_ow, av_hB_p, so1, av_so1_ow, av_so1_p, sb1, av_sb1_ow, av_sb1_p, q1, bel⟩
  obtain ⟨w14, hw_⟩ : ∃ x, x = wc := ⟨_, rfl⟩
  subst hw_
  obtain ⟨g9, Ao1, co1, Ab1, cb1, f01, f11, f21, f31, f41, f51, ad01, ad11, ad21, ad31, ad41, ad51, ad61, ad71, lo1, lb1, rfl, rfl, how, hp, op, d_ow_p, hB, av_hB_ow, av_hB_p, so1, av_so1_ow, av_so1_p, sb1, av_sb1_ow, av_sb1_p, q1, bel⟩ := hcut
  have R29 := Lib.hid (range_lit how 0 4 [.int .u8 (o0.toNat : Int), .int .u8 (o1.toNat : Int), .int .u8 (o2.toNat : Int), .int .u8 (o3.toNat : Int)] rfl)
  go_wp2_with (first | ((with_reducible show wpList _ _ _ (⟨some 29, _, _, _, _, _⟩ :: _) _ _); refine wpList_load_rng 24 (.tmp 4) rfl (by kernel_rfl) _ _ rfl _ R29.out _ Try.underlying24 rfl (by kernel_rfl) ?_))
  try clear R29
  with_reducible refine (((ricabout_any _ _ _ _ _ _ _ l _ _ _ hB (by have := H1.out; omega)).mono fun _ _ h => h.er HE.out)).mono ?_
  rintro e w15 ⟨f02, f12, f22, f32, f42, f52, ad02, ad12, ad22, ad32, ad42, ad52, ad62, ad72, lo2, lb2, Ao2, Ab2, co2, cb2, rfl, so2, sb2, fo2, fb2, b15, q2⟩
  have av_so2_ow := fo2.av (hlt how)
  have av_so2_p := fo2.av (hlt hp)
  have av_sb2_ow := fb2.av (hlt how)
  have av_sb2_p := fb2.av (hlt hp)
  replace how := blk_u how b15
  replace hp := blk_u hp b15
  replace hB := hB.below b15
  replace so1 := so1.below b15
  replace sb1 := sb1.below b15
  replace bel := bel.trans (b15.mono bel.size)
  clear b15
  have hh := q1.trans q2.symm
  simp only [Prod.mk.injEq, List.cons.injEq, and_true] at hh
  obtain ⟨⟨⟨rfl, rfl, rfl, rfl, rfl, rfl⟩, rfl, rfl, rfl, rfl, rfl, rfl, rfl, rfl⟩, rfl, rfl⟩ := hh
  clear q1 q2
  go_wp2_with (first | ((with_reducible show wpList _ _ _ (⟨some 11, _, _, _, _, _⟩ :: _) _ _); refine wpList_new_a rfl 45 rfl #[.int .i64 0, .int .i64 0, .int .i64 0, .int .i64 0, .int .i64 0, .int .i64 0, .int .u8 0, .int .u8 0, .int .u8 0, .int .u8 0, .int .u8 0, .int .u8 0, .int .u8 0, .int .u8 0, .slice none 0 0, .slice none 0 0] (by kernel_rfl) ?_; intro g11 w16 ge hh bb; have d_ow_pq := ne_new (hlt how) ge; have d_p_pq := ne_new (hlt hp) ge; have av_hB_pq := hB.av_new ge; have av_so1_pq := so1.av_new ge; have av_sb1_pq := sb1.av_new ge; have av_so2_pq := so2.av_new ge; have av_sb2_pq := sb2.av_new ge; have opq := Nat.le_trans bel.size ge; replace how := blk_u how bb; replace hp := blk_u hp bb; replace hB := hB.below bb; replace so1 := so1.below bb; replace sb1 := sb1.below bb; replace so2 := so2.below bb; replace sb2 := sb2.below bb; replace bel := bel.trans (bb.mono bel.size); have hpq := hh; clear hh ge bb) | ((with_reducible show wpList _ _ _ (⟨none, Op.store _ (.tmp 11) _, _, _, _, _⟩ :: _) _ _); refine wpList_store_blk rfl 45 (.tmp 11) (.tmp 34) rfl g11 rfl _ rfl _ 45 hpq (by rfl) (by kernel_rfl) (by kernel_rfl) ?_; intro w17 hq gr; replace hB := hB.away av_hB_pq gr; replace so1 := so1.away av_so1_pq gr; replace sb1 := sb1.away av_sb1_pq gr; replace so2 := so2.away av_so2_pq gr; replace sb2 := sb2.away av_sb2_pq gr; replace how := blk_a how gr d_ow_pq; replace hp := blk_a hp gr d_p_pq; replace bel := below_grown bel gr opq bel.size; clear hpq; have hpq := hq; clear hq gr))
  replace bel := bel.drew
  replace how : w17.drew.heap[g4]? = _ := how
  replace hp : w17.drew.heap[g9]? = _ := hp
  replace hpq : w17.drew.heap[g11]? = _ := hpq
  replace hB := hB.drew
  replace so1 := so1.drew
  replace sb1 := sb1.drew
  replace so2 := so2.drew
  replace sb2 := sb2.drew
  refine wp_region_held_drew (S := fun W => W.heap[g9]? = some (.cells #[.int .i64 f01, .int .i64 f11, .int .i64 f21, .int .i64 f31, .int .i64 f41, .int .i64 f51, .int .u8 (ad01.toNat : Int), .int .u8 (ad11.toNat : Int), .int .u8 (ad21.toNat : Int), .int .u8 (ad31.toNat : Int), .int .u8 (ad41.toNat : Int), .int .u8 (ad51.toNat : Int), .int .u8 (ad61.toNat : Int), .int .u8 (ad71.toNat : Int), .slice Ao1 lo1.length co1, .slice Ab1 lb1.length cb1] 27 (0, 0)) ∧ W.heap[g11]? = some (.cells #[.int .i64 f01, .int .i64 f11, .int .i64 f21, .int .i64 f31, .int .i64 f41, .int .i64 f51, .int .u8 (ad01.toNat : Int), .int .u8 (ad11.toNat : Int), .int .u8 (ad21.toNat : Int), .int .u8 (ad31.toNat : Int), .int .u8 (ad41.toNat : Int), .int .u8 (ad51.toNat : Int), .int .u8 (ad61.toNat : Int), .int .u8 (ad71.toNat : Int), .slice Ao2 lo1.length co2, .slice Ab2 lb1.length cb2] 45 (0, 0))) (by kernel_rfl) ⟨hp, hpq⟩ (fun hH => ?_)
  generalize w17.drew = w18 at bel how hp hpq hB so1 sb1 so2 sb2 hH ⊢
  refine wpAnyH_take (i := 0) (v := ?_) rfl (by kernel_rfl) (by kernel_rfl) (by kernel_rfl) (fun _ _ _ h => h) (Or.inl ⟨by rfl, ?_⟩) hH ?_
  rotate_left
  · ((intro W hW; clear hW; go_simp) <;> with_reducible rfl)
  simp only [Act.put, List.getElem_toArray, List.getElem_cons_zero, List.setIfInBounds_toArray, List.set_cons_zero, List.set_cons_succ]
  refine wpAnyH_take (i := 1) (v := ?_) rfl (by kernel_rfl) (by kernel_rfl) (by kernel_rfl) (fun _ _ _ h => h) (Or.inl ⟨by rfl, ?_⟩) hH ?_
  rotate_left
  · ((intro W hW; clear hW; go_simp) <;> with_reducible rfl)
  simp only [Act.put, List.getElem_toArray, List.getElem_cons_zero, List.getElem_cons_succ, List.setIfInBounds_toArray, List.set_cons_zero, List.set_cons_succ]
  refine wpAnyH_take (i := 2) (v := ?_) rfl (by kernel_rfl) (by kernel_rfl) (by kernel_rfl) (fun _ _ _ h => h) (Or.inl ⟨by rfl, ?_⟩) hH ?_
  rotate_left
  · ((intro W hW; clear hW; go_simp) <;> with_reducible rfl)
  simp only [Act.put, List.getElem_toArray, List.getElem_cons_zero, List.getElem_cons_succ, List.setIfInBounds_toArray, List.set_cons_zero, List.set_cons_succ]
  refine wpAnyH_take (i := 3) (v := ?_) rfl (by kernel_rfl) (by kernel_rfl) (by kernel_rfl) (fun _ _ _ h => h) (Or.inl ⟨by rfl, ?_⟩) hH ?_
  rotate_left
  · ((intro W hW; clear hW; go_simp) <;> with_reducible rfl)
  simp only [Act.put, List.getElem_toArray, List.getElem_cons_zero, List.getElem_cons_succ, List.setIfInBounds_toArray, List.set_cons_zero, List.set_cons_succ]
  refine wpAnyH_take (i := 4) (v := ?_) rfl (by kernel_rfl) (by kernel_rfl) (by kernel_rfl) (fun _ _ _ h => h) (Or.inl ⟨by rfl, ?_⟩) hH ?_
  rotate_left
  · ((intro W hW; clear hW; go_simp) <;> with_reducible rfl)
  simp only [Act.put, List.getElem_toArray, List.getElem_cons_zero, List.getElem_cons_succ, List.setIfInBounds_toArray, List.set_cons_zero, List.set_cons_succ]
  refine wpAnyH_take (i := 5) (v := ?_) rfl (by kernel_rfl) (by kernel_rfl) (by kernel_rfl) (fun _ _ _ h => h) (Or.inl ⟨by rfl, ?_⟩) hH ?_
  rotate_left
  · ((intro W hW; clear hW; go_simp) <;> with_reducible rfl)
  simp only [Act.put, List.getElem_toArray, List.getElem_cons_zero, List.getElem_cons_succ, List.setIfInBounds_toArray, List.set_cons_zero, List.set_cons_succ]
  refine wpAnyH_take (i := 6) (v := ?_) rfl (by kernel_rfl) (by kernel_rfl) (by kernel_rfl) (fun _ _ _ h => h) (Or.inl ⟨by rfl, ?_⟩) hH ?_
  rotate_left
  · ((intro W hW; clear hW; go_simp) <;> with_reducible rfl)
  simp only [Act.put, List.getElem_toArray, List.getElem_cons_zero, List.getElem_cons_succ, List.setIfInBounds_toArray, List.set_cons_zero, List.set_cons_succ]
  refine wpAnyH_take (i := 7) (v := .agg #[.int .i64 f01, .int .i64 f11, .int .i64 f21, .int .i64 f31, .int .i64 f41, .int .i64 f51, .int .u8 (ad01.toNat : Int), .int .u8 (ad11.toNat : Int), .int .u8 (ad21.toNat : Int), .int .u8 (ad31.toNat : Int), .int .u8 (ad41.toNat : Int), .int .u8 (ad51.toNat : Int), .int .u8 (ad61.toNat : Int), .int .u8 (ad71.toNat : Int), .slice Ao1 lo1.length co1, .slice Ab1 lb1.length cb1]) rfl (by kernel_rfl) (by kernel_rfl) (by kernel_rfl) (fun _ _ _ h => h) (yieldsIf_load_part (by kernel_rfl) 27 _ rfl g9 0 16 rfl _ 27 (0, 0) (fun W hW => hW.1) _ rfl _ Try.underlying27 rfl (by kernel_rfl)) hH ?_
  simp only [Act.put, List.getElem_toArray, List.getElem_cons_zero, List.getElem_cons_succ, List.setIfInBounds_toArray, List.set_cons_zero, List.set_cons_succ]
  refine wpAnyH_take (i := 9) (v := .agg #[.int .i64 f01, .int .i64 f11, .int .i64 f21, .int .i64 f31, .int .i64 f41, .int .i64 f51, .int .u8 (ad01.toNat : Int), .int .u8 (ad11.toNat : Int), .int .u8 (ad21.toNat : Int), .int .u8 (ad31.toNat : Int), .int .u8 (ad41.toNat : Int), .int .u8 (ad51.toNat : Int), .int .u8 (ad61.toNat : Int), .int .u8 (ad71.toNat : Int), .slice Ao2 lo1.length co2, .slice Ab2 lb1.length cb2]) rfl (by kernel_rfl) (by kernel_rfl) (by kernel_rfl) (fun _ _ _ h => h) (yieldsIf_load_part (by kernel_rfl) 45 _ rfl g11 0 16 rfl _ 45 (0, 0) (fun W hW => hW.2) _ rfl _ Try.underlying45 rfl (by kernel_rfl)) hH ?_
  simp only [Act.put, List.getElem_toArray, List.getElem_cons_zero, List.getElem_cons_succ, List.setIfInBounds_toArray, List.set_cons_zero, List.set_cons_succ]
  refine wpAnyH_ready (rs := [8]) (by kernel_rfl) (by simp) ?_
  refine AllReadyH.cons (o := _) rfl (fun K hK => ?_) AllReadyH.nil
  simp only [List.getElem_toArray, List.getElem_cons_zero, List.getElem_cons_succ]
  go_simp
  with_reducible refine (own9_any _ _ _ _ _ _ _ _ _ _ _ _ _ _ _ _ _ _ _ _ _).mono ?_
  rintro e w19 ⟨rfl, b19⟩
  dsimp only
  replace how := blk_u how b19
  replace hp := blk_u hp b19
  replace hpq := blk_u hpq b19
  replace hB := hB.below b19
  replace so1 := so1.below b19
  replace sb1 := sb1.below b19
  replace so2 := so2.below b19
  replace sb2 := sb2.below b19
  replace bel := bel.trans (b19.mono bel.size)
  clear b19
  refine hK.out _ _ ⟨hp, hpq⟩ (fun hH20 => ?_)
  clear hK K
  refine wpAnyH_ready (rs := [10]) (by kernel_rfl) (by simp) ?_
  refine AllReadyH.cons (o := _) rfl (fun K hK => ?_) AllReadyH.nil
  simp only [List.getElem_toArray, List.getElem_cons_zero, List.getElem_cons_succ]
  go_simp
  with_reducible refine (same6_true _ _ _ _ _ _ _ _ _ _ _ _ _ _ _ _ _ _ _ _ _ _ _ _ _ _ _  so1 sb1 so2 sb2).mono ?_
  rintro e w21 ⟨rfl, b21⟩
  dsimp only
  replace how := blk_u how b21
  replace hp := blk_u hp b21
  replace hpq := blk_u hpq b21
  replace hB := hB.below b21
  replace so1 := so1.below b21
  replace sb1 := sb1.below b21
  replace so2 := so2.below b21
  replace sb2 := sb2.below b21
  replace bel := bel.trans (b21.mono bel.size)
  clear b21
  refine hK.out _ _ ⟨hp, hpq⟩ (fun hH22 => ?_)
  clear hK K
  refine wpAnyH_take (i := 11) (v := ?_) rfl (by kernel_rfl) (by kernel_rfl) (by kernel_rfl) (fun _ _ _ h => h) (Or.inl ⟨by rfl, ?_⟩) hH22 ?_
  rotate_left
  · ((intro W hW; clear hW; go_simp) <;> with_reducible rfl)
  simp only [Act.put, List.getElem_toArray, List.getElem_cons_zero, List.getElem_cons_succ, List.setIfInBounds_toArray, List.set_cons_zero, List.set_cons_succ]
  refine wpAnyH_take (i := 12) (v := ?_) rfl (by kernel_rfl) (by kernel_rfl) (by kernel_rfl) (fun _ _ _ h => h) (Or.inl ⟨by rfl, ?_⟩) hH22 ?_
  rotate_left
  · ((intro W hW; clear hW; go_simp) <;> with_reducible rfl)
  simp only [Act.put, List.getElem_toArray, List.getElem_cons_zero, List.getElem_cons_succ, List.setIfInBounds_toArray, List.set_cons_zero, List.set_cons_succ]
  refine wpAnyH_take (i := 13) (v := ?_) rfl (by kernel_rfl) (by kernel_rfl) (by kernel_rfl) (fun _ _ _ h => h) (Or.inl ⟨by rfl, ?_⟩) hH22 ?_
  rotate_left
  · ((intro W hW; clear hW; go_simp) <;> with_reducible rfl)
  simp only [Act.put, List.getElem_toArray, List.getElem_cons_zero, List.getElem_cons_succ, List.setIfInBounds_toArray, List.set_cons_zero, List.set_cons_succ]
  refine wpAnyH_done (by kernel_rfl) ?_ _
  go_wp2_with fail
  go_ret
  exact ⟨rfl, bel⟩
theorem icmpAbouts_walk (o0 o1 o2 o3 : UInt8) (B : Option Addr) (nB cB : Nat) (l : List UInt8) (ty cd : Int) (w : World) (hB : Sl w B nB cB l) : Calls Try.prog 6 #[.agg #[.int .u8 (o0.toNat : Int), .int .u8 (o1.toNat : Int), .int .u8 (o2.toNat : Int), .int .u8 (o3.toNat : Int)], .slice B nB cB, .int .i64 ty, .int .i64 cd] w fun e w' => e = .returned (.bool true) ∧ Below w.heap.size w w' := by
  by_cases h1 : nB ≤ 1600
  · by_cases he : (icAbout o0 o1 o2 o3 l ty cd).2.2 = 0
    · exact icmpAbouts_3 o0 o1 o2 o3 B nB cB l ty cd w hB h1 he
    · exact icmpAbouts_2 o0 o1 o2 o3 B nB cB l ty cd w hB h1 _ rfl he
  · exact icmpAbouts_1 o0 o1 o2 o3 B nB cB l ty cd w (by omega)
end Go.Proofs.Ytfmllopeeiecjaa
