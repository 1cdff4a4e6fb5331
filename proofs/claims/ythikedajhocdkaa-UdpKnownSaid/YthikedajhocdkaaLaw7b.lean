/- Layer 7: UdpSpoilt, UdpNone. -/
import Derived.Test.YthikedajhocdkaaLaw7
import Derived.Deep.CutRange
namespace Go.Proofs.Ythikedajhocdkaa
open Go.RowKit

theorem i64_and7 (n : Int) : bits .and .i64 n 7 = n % 8 := by
  have hm : (BitVec.ofInt 64 7).toNat = 2 ^ 3 - 1 := by decide
  have key : (BitVec.ofInt 64 n &&& BitVec.ofInt 64 7).toNat = (n % ((2 ^ 64 : Nat) : Int)).toNat % 2 ^ 3 := by
    rw [BitVec.toNat_and, BitVec.toNat_ofInt, hm, Nat.and_two_pow_sub_one_eq_mod]
  show IntKind.i64.wrap ((BitVec.ofInt 64 n &&& BitVec.ofInt 64 7).toNat : Nat) = n % 8
  rw [key, IntKind.wrap_i64]
  omega

theorem xor_u8 (x y : Nat) (hx : x < 256) (hy : y < 256) : bits .xor .u8 (x : Int) (y : Int) = ((x ^^^ y : Nat) : Int) := by
  show IntKind.u8.wrap ((BitVec.ofInt 8 (x : Int) ^^^ BitVec.ofInt 8 (y : Int)).toNat : Int) = _
  rw [BitVec.toNat_xor, BitVec.ofInt_natCast, BitVec.ofInt_natCast, BitVec.toNat_ofNat, BitVec.toNat_ofNat, Nat.mod_eq_of_lt (by omega), Nat.mod_eq_of_lt (by omega)]
  have h : x ^^^ y < 2 ^ 8 := Nat.xor_lt_two_pow (by omega) (by omega)
  generalize x ^^^ y = z at *
  simp [IntKind.wrap, IntKind.signed, IntKind.bits]
  omega
theorem xor_bit (x : UInt8) (r : Nat) (hr : r < 8) : ∃ y : UInt8, y.toNat = x.toNat ^^^ 2 ^ r ∧ bits .xor .u8 (x.toNat : Int) ((2 : Int) ^ r % 256) = (y.toNat : Int) := by
  have hq : (2 : Nat) ^ r < 256 := by
    have : (2 : Nat) ^ r ≤ 2 ^ 7 := Nat.pow_le_pow_right (by omega) (by omega)
    omega
  have h : x.toNat ^^^ 2 ^ r < 2 ^ 8 := Nat.xor_lt_two_pow x.toNat_lt (by omega)
  have e : ((2 : Int) ^ r % 256) = ((2 ^ r : Nat) : Int) := by
    rw [show (2 : Int) ^ r = ((2 ^ r : Nat) : Int) by simp]
    generalize (2 : Nat) ^ r = q at *
    omega
  refine ⟨UInt8.ofNat (x.toNat ^^^ 2 ^ r), by rw [UInt8.toNat_ofNat']; omega, ?_⟩
  rw [e, xor_u8 _ _ x.toNat_lt hq, UInt8.toNat_ofNat', Nat.mod_eq_of_lt h]
theorem udGet_er (fl pt pr : Int) (a0 a1 a2 a3 a4 a5 a6 a7 : UInt8) (b : List UInt8) : (udGet fl pt pr a0 a1 a2 a3 a4 a5 a6 a7 b).2.2 = udErr fl pt pr a0 a1 a2 a3 a4 a5 a6 a7 b := by
  unfold udGet
  split
  · rfl
  · rename_i h
    simp only [ne_eq, Decidable.not_not] at h
    exact h.symm
theorem kget_er (Ao Ab : Option Addr) (no co cb n : Nat) (pt pr : Int) (l : List UInt8) (er : Int) (w : World) (h : Sl w Ab n cb l) (hn : n ≤ 100000) (hg : udErr 0 pt pr 10 0 0 1 10 0 0 2 l = er) : Calls Try.prog 11 #[.agg #[.int .i64 0, .int .i64 0, .int .i64 0, .int .i64 pt, .int .i64 64, .int .i64 pr, .int .u8 10, .int .u8 0, .int .u8 0, .int .u8 1, .int .u8 10, .int .u8 0, .int .u8 0, .int .u8 2, .slice Ao no co, .slice Ab n cb]] w fun e w' => ∃ x y A m c, e = .returned (.tuple #[.agg #[.int .i64 x, .int .i64 y, .slice A m c], .int .i64 er]) ∧ Below w.heap.size w w' := by
  refine (udget_any 0 0 0 pt 64 pr 10 0 0 1 10 0 0 2 Ao Ab no co n cb l w h hn).mono ?_
  rintro e w' ⟨x, y, q, A, c, er', rfl, hs, hf, bel, hq⟩
  have e1 := congrArg (fun z => z.2.2) hq
  simp only [udGet_er] at e1
  rw [hg] at e1
  subst e1
  exact ⟨x, y, A, _, c, rfl, bel⟩
set_option linter.unusedVariables false in
set_option maxRecDepth 100000 in
set_option maxHeartbeats 16000000 in
theorem udpSpoilt_1 (df dt : Int) (D : Option Addr) (nd cd : Nat) (ld : List UInt8) (bit : Int) (w : World) (h3 : 600 < nd) : Calls Try.prog 6 #[.agg #[.int .i64 df, .int .i64 dt, .slice D nd cd], .int .i64 bit] w fun e w' => e = .returned (.bool true) ∧ Below w.heap.size w w' := by
  obtain ⟨ii, hii, hz0, hz1, hz2⟩ := info_parts Try.info5
  have t1 : (600 : Int) < nd := by omega
  clear h3
  have bel := Below.refl w.heap.size w
  go_enter Try.func6, Try.ntmps6
  go_wp2_with (first | ((with_reducible show wpList _ _ _ (⟨some 2, _, _, _, _, _⟩ :: _) _ _); refine wpList_box_n rfl 33 (.tmp 0) rfl #[.int .i64 df, .int .i64 dt, .slice D nd cd] rfl ?_; intro g2 w1 ge lt hh bb; have od := Nat.le_trans bel.size ge; replace bel := bel.trans (bb.mono bel.size); have hd := hh; have zd := lt; clear hh lt ge bb))
  with_reducible refine (awake7 _).mono ?_
  rintro e w2 ⟨rfl, b2⟩
  replace hd := blk_under hd b2 zd
  replace zd := Nat.lt_of_lt_of_le zd b2.size
  replace bel := bel.trans (b2.mono bel.size)
  clear b2
  have R13 := cell_lit hd 2 _ rfl
  go_wp2_with fail
  clear R13
  go_ret
  exact ⟨rfl, bel⟩
set_option linter.unusedVariables false in
set_option maxRecDepth 100000 in
set_option maxHeartbeats 16000000 in
theorem udpSpoilt_2 (df dt : Int) (D : Option Addr) (nd cd : Nat) (ld : List UInt8) (bit : Int) (w : World) (hD : Sl w D nd cd ld) (h3 : nd ≤ 600) (he : (udPut 0 0 0 0 64 10 0 0 1 10 0 0 2 [] df dt ld).2.2 ≠ 0) : Calls Try.prog 6 #[.agg #[.int .i64 df, .int .i64 dt, .slice D nd cd], .int .i64 bit] w fun e w' => e = .returned (.bool true) ∧ Below w.heap.size w w' := by
  obtain ⟨ii, hii, hz0, hz1, hz2⟩ := info_parts Try.info5
  have t1 : decide ((600 : Int) < nd) = false := decide_eq_false (by omega)
  have H3 := Lib.hid h3
  clear h3
  have HE := Lib.hid he
  clear he
  have bel := Below.refl w.heap.size w
  go_enter Try.func6, Try.ntmps6
  go_wp2_with (first | ((with_reducible show wpList _ _ _ (⟨some 2, _, _, _, _, _⟩ :: _) _ _); refine wpList_box_n rfl 33 (.tmp 0) rfl #[.int .i64 df, .int .i64 dt, .slice D nd cd] rfl ?_; intro g2 w1 ge lt hh bb; have av_hD_d := hD.av_new ge; have od := Nat.le_trans bel.size ge; replace hD := hD.below bb; replace bel := bel.trans (bb.mono bel.size); have hd := hh; have zd := lt; clear hh lt ge bb))
  with_reducible refine (awake7 _).mono ?_
  rintro e w2 ⟨rfl, b2⟩
  replace hd := blk_under hd b2 zd
  replace zd := Nat.lt_of_lt_of_le zd b2.size
  replace hD := hD.below b2
  replace bel := bel.trans (b2.mono bel.size)
  clear b2
  have R13 := cell_lit hd 2 _ rfl
  go_wp2_with fail
  clear R13
  go_cut [5, 6] from 9999 (fun s5 s6 W => ∃ g5 : Nat, ∃ f0 : Int, ∃ f1 : Int, ∃ f2 : Int, ∃ f3 : Int, ∃ f4 : Int, ∃ f5 : Int, ∃ j0 : UInt8, ∃ j1 : UInt8, ∃ j2 : UInt8, ∃ j3 : UInt8, ∃ j4 : UInt8, ∃ j5 : UInt8, ∃ j6 : UInt8, ∃ j7 : UInt8, ∃ Ao : Option Addr, ∃ no : Nat, ∃ co : Nat, ∃ Ab : Option Addr, ∃ nb : Nat, ∃ cb : Nat, ∃ er : Int, s5 = .pointer (some ⟨g5, 0, none⟩) ∧ s6 = .int .i64 er ∧ W.heap[g2]? = some (.cells #[.int .i64 df, .int .i64 dt, .slice D nd cd] 33 (0, 0)) ∧ g2 < W.heap.size ∧ W.heap[g5]? = some (.cells #[.int .i64 f0, .int .i64 f1, .int .i64 f2, .int .i64 f3, .int .i64 f4, .int .i64 f5, .int .u8 (j0.toNat : Int), .int .u8 (j1.toNat : Int), .int .u8 (j2.toNat : Int), .int .u8 (j3.toNat : Int), .int .u8 (j4.toNat : Int), .int .u8 (j5.toNat : Int), .int .u8 (j6.toNat : Int), .int .u8 (j7.toNat : Int), .slice Ao no co, .slice Ab nb cb] 27 (0, 0)) ∧ g5 < W.heap.size ∧ w.heap.size ≤ g5 ∧ Hid (g2 ≠ g5) ∧ Sl W (D) (nd) (cd) (ld) ∧ Av (D) (nd) g2 ∧ Av (D) (nd) g5 ∧ Hid (er ≠ 0) ∧ Below w.heap.size w W)
  case first =>
    replace bel := bel.drew
    replace hd : w2.drew.heap[g2]? = _ := hd
    replace zd : _ < w2.drew.heap.size := zd
    replace hD := hD.drew
    refine wp_region_held_drew (S := fun W => W.heap[g2]? = some (.cells #[.int .i64 df, .int .i64 dt, .slice D nd cd] 33 (0, 0))) (by kernel_rfl) hd (fun hH => ?_)
    generalize w2.drew = w3 at bel hd zd hD hH ⊢
    refine wpAnyH_take (i := 1) (v := .agg #[.int .i64 df, .int .i64 dt, .slice D nd cd]) rfl (by kernel_rfl) (by kernel_rfl) (by kernel_rfl) (fun _ _ _ h => h) (yieldsIf_load_part (by kernel_rfl) 33 _ rfl g2 0 3 rfl [.int .i64 df, .int .i64 dt, .slice D nd cd] 33 (0, 0) (fun W hW => hW) [.int .i64 df, .int .i64 dt, .slice D nd cd] rfl _ Try.underlying33 rfl (by kernel_rfl)) hH ?_
    simp only [Act.put, List.getElem_toArray, List.getElem_cons_zero, List.getElem_cons_succ, List.setIfInBounds_toArray, List.set_cons_zero, List.set_cons_succ]
    refine wpAnyH_ready (rs := [0, 6]) (by kernel_rfl) (by simp) ?_
    refine AllReadyH.cons (o := _) rfl (fun K hK => ?_) (AllReadyH.cons (o := _) rfl (fun K hK => ?_) AllReadyH.nil)
    · simp only [List.getElem_toArray, List.getElem_cons_zero]
      go_simp
      with_reducible refine (base7 _).mono ?_
      rintro e w4 ⟨rfl, b4⟩
      dsimp only
      replace hd := blk_under hd b4 zd
      replace zd := Nat.lt_of_lt_of_le zd b4.size
      replace hD := hD.below b4
      replace bel := bel.trans (b4.mono bel.size)
      clear b4
      refine hK.out _ _ hd (fun hH5 => ?_)
      clear hK K
      refine wpAnyH_ready (rs := [2, 6]) (by kernel_rfl) (by simp) ?_
      refine AllReadyH.cons (o := _) rfl (fun K hK => ?_) (AllReadyH.cons (o := _) rfl (fun K hK => ?_) AllReadyH.nil)
      · simp only [List.getElem_toArray, List.getElem_cons_zero, List.getElem_cons_succ]
        go_simp
        with_reducible refine (kput_bad _ _ _ _ _ _ _ hD (by have := H3.out; omega) HE.out).mono ?_
        rintro e w6 ⟨f0, f1, f2, f3, f4, f5, j0, j1, j2, j3, j4, j5, j6, j7, Ao, no, co, Ab, nb, cb, er, rfl, hne, b6⟩
        dsimp only
        replace hd := blk_under hd b6 zd
        replace zd := Nat.lt_of_lt_of_le zd b6.size
        replace hD := hD.below b6
        replace bel := bel.trans (b6.mono bel.size)
        clear b6
        refine hK.out _ _ hd (fun hH7 => ?_)
        clear hK K
        refine wpAnyH_take (i := 3) (v := ?_) rfl (by kernel_rfl) (by kernel_rfl) (by kernel_rfl) (fun _ _ _ h => h) (Or.inl ⟨by rfl, ?_⟩) hH7 ?_
        rotate_left
        · ((intro W hW; clear hW; go_simp) <;> with_reducible rfl)
        simp only [Act.put, List.getElem_toArray, List.getElem_cons_zero, List.getElem_cons_succ, List.setIfInBounds_toArray, List.set_cons_zero, List.set_cons_succ]
        refine wpAnyH_take (i := 4) (v := ?_) rfl (by kernel_rfl) (by kernel_rfl) (by kernel_rfl) (fun _ _ _ h => h) (Or.inl ⟨by rfl, ?_⟩) hH7 ?_
        rotate_left
        · ((intro W hW; clear hW; go_simp) <;> with_reducible rfl)
        simp only [Act.put, List.getElem_toArray, List.getElem_cons_zero, List.getElem_cons_succ, List.setIfInBounds_toArray, List.set_cons_zero, List.set_cons_succ]
        refine wpAnyH_take (i := 5) (v := ?_) rfl (by kernel_rfl) (by kernel_rfl) (by kernel_rfl) (fun _ _ _ h => h) (Or.inl ⟨by rfl, ?_⟩) hH7 ?_
        rotate_left
        · ((intro W hW; clear hW; go_simp) <;> with_reducible rfl)
        simp only [Act.put, List.getElem_toArray, List.getElem_cons_zero, List.getElem_cons_succ, List.setIfInBounds_toArray, List.set_cons_zero, List.set_cons_succ]
        refine wpAnyH_ready (rs := [6]) (by kernel_rfl) (by simp) ?_
        refine AllReadyH.cons (o := _) rfl (fun K hK => ?_) AllReadyH.nil
        simp only [List.getElem_toArray, List.getElem_cons_zero, List.getElem_cons_succ]
        rw [if_pos (by rfl)]
        refine wp_new_n 27 rfl (.agg #[.int .i64 0, .int .i64 0, .int .i64 0, .int .i64 0, .int .i64 0, .int .i64 0, .int .u8 0, .int .u8 0, .int .u8 0, .int .u8 0, .int .u8 0, .int .u8 0, .int .u8 0, .int .u8 0, .slice none 0 0, .slice none 0 0]) (by kernel_rfl) #[.int .i64 0, .int .i64 0, .int .i64 0, .int .i64 0, .int .i64 0, .int .i64 0, .int .u8 0, .int .u8 0, .int .u8 0, .int .u8 0, .int .u8 0, .int .u8 0, .int .u8 0, .int .u8 0, .slice none 0 0, .slice none 0 0] rfl ?_
        intro g5 w8 ge lt hh bb
        have d_d_p := ne_new zd ge
        have av_hD_p := hD.av_new ge
        have op := Nat.le_trans bel.size ge
        replace hd := blk_under hd bb zd
        replace zd := Nat.lt_of_lt_of_le zd bb.size
        replace hD := hD.below bb
        replace bel := bel.trans (bb.mono bel.size)
        have hp := hh
        have zp := lt
        clear hh lt ge bb
        refine hK.out _ _ hd (fun hH9 => ?_)
        clear hK K
        refine wpAnyH_ready (rs := [7]) (by kernel_rfl) (by simp) ?_
        refine AllReadyH.cons (o := _) rfl (fun K hK => ?_) AllReadyH.nil
        simp only [List.getElem_toArray, List.getElem_cons_zero, List.getElem_cons_succ]
        rw [if_pos (by rfl)]
        refine wp_store_blk 27 (.tmp 5) (.tmp 20) rfl g5 rfl #[.int .i64 f0, .int .i64 f1, .int .i64 f2, .int .i64 f3, .int .i64 f4, .int .i64 f5, .int .u8 (j0.toNat : Int), .int .u8 (j1.toNat : Int), .int .u8 (j2.toNat : Int), .int .u8 (j3.toNat : Int), .int .u8 (j4.toNat : Int), .int .u8 (j5.toNat : Int), .int .u8 (j6.toNat : Int), .int .u8 (j7.toNat : Int), .slice Ao no co, .slice Ab nb cb] rfl _ 27 hp (by rfl) (by kernel_rfl) (by kernel_rfl) ?_
        intro w10 hq gr
        replace hD := hD.away av_hD_p gr
        replace hd := blk_away hd gr zd d_d_p
        replace zd := Nat.lt_of_lt_of_le zd gr.size
        replace zp := Nat.lt_of_lt_of_le zp gr.size
        replace bel := below_grown bel gr op bel.size
        clear hp
        have hp := hq
        clear hq gr
        refine hK.out _ _ hd (fun hH11 => ?_)
        clear hK K
        refine wpAnyH_take (i := 8) (v := ?_) rfl (by kernel_rfl) (by kernel_rfl) (by kernel_rfl) (fun _ _ _ h => h) (Or.inl ⟨by rfl, ?_⟩) hH11 ?_
        rotate_left
        · ((intro W hW; clear hW; go_simp) <;> with_reducible rfl)
        simp only [Act.put, List.getElem_toArray, List.getElem_cons_zero, List.getElem_cons_succ, List.setIfInBounds_toArray, List.set_cons_zero, List.set_cons_succ]
        refine wpAnyH_done (by kernel_rfl) ?_ _
        go_wp2_with fail
        go_meet
        case rel => exact ⟨g5, f0, f1, f2, f3, f4, f5, j0, j1, j2, j3, j4, j5, j6, j7, Ao, no, co, Ab, nb, cb, er, rfl, rfl, hd, zd, hp, zp, op, d_d_p, hD, av_hD_d, av_hD_p, hne, bel⟩
      · simp only [List.getElem_toArray, List.getElem_cons_zero, List.getElem_cons_succ]
        rw [if_pos (by rfl)]
        refine wp_new_n 27 rfl (.agg #[.int .i64 0, .int .i64 0, .int .i64 0, .int .i64 0, .int .i64 0, .int .i64 0, .int .u8 0, .int .u8 0, .int .u8 0, .int .u8 0, .int .u8 0, .int .u8 0, .int .u8 0, .int .u8 0, .slice none 0 0, .slice none 0 0]) (by kernel_rfl) #[.int .i64 0, .int .i64 0, .int .i64 0, .int .i64 0, .int .i64 0, .int .i64 0, .int .u8 0, .int .u8 0, .int .u8 0, .int .u8 0, .int .u8 0, .int .u8 0, .int .u8 0, .int .u8 0, .slice none 0 0, .slice none 0 0] rfl ?_
        intro g5 w6 ge lt hh bb
        have d_d_p := ne_new zd ge
        have av_hD_p := hD.av_new ge
        have op := Nat.le_trans bel.size ge
        replace hd := blk_under hd bb zd
        replace zd := Nat.lt_of_lt_of_le zd bb.size
        replace hD := hD.below bb
        replace bel := bel.trans (bb.mono bel.size)
        have hp := hh
        have zp := lt
        clear hh lt ge bb
        refine hK.out _ _ hd (fun hH7 => ?_)
        clear hK K
        refine wpAnyH_ready (rs := [2]) (by kernel_rfl) (by simp) ?_
        refine AllReadyH.cons (o := _) rfl (fun K hK => ?_) AllReadyH.nil
        simp only [List.getElem_toArray, List.getElem_cons_zero, List.getElem_cons_succ]
        go_simp
        with_reducible refine (kput_bad _ _ _ _ _ _ _ hD (by have := H3.out; omega) HE.out).mono ?_
        rintro e w8 ⟨f0, f1, f2, f3, f4, f5, j0, j1, j2, j3, j4, j5, j6, j7, Ao, no, co, Ab, nb, cb, er, rfl, hne, b8⟩
        dsimp only
        replace hd := blk_under hd b8 zd
        replace zd := Nat.lt_of_lt_of_le zd b8.size
        replace hp := blk_under hp b8 zp
        replace zp := Nat.lt_of_lt_of_le zp b8.size
        replace hD := hD.below b8
        replace bel := bel.trans (b8.mono bel.size)
        clear b8
        refine hK.out _ _ hd (fun hH9 => ?_)
        clear hK K
        refine wpAnyH_take (i := 3) (v := ?_) rfl (by kernel_rfl) (by kernel_rfl) (by kernel_rfl) (fun _ _ _ h => h) (Or.inl ⟨by rfl, ?_⟩) hH9 ?_
        rotate_left
        · ((intro W hW; clear hW; go_simp) <;> with_reducible rfl)
        simp only [Act.put, List.getElem_toArray, List.getElem_cons_zero, List.getElem_cons_succ, List.setIfInBounds_toArray, List.set_cons_zero, List.set_cons_succ]
        refine wpAnyH_take (i := 4) (v := ?_) rfl (by kernel_rfl) (by kernel_rfl) (by kernel_rfl) (fun _ _ _ h => h) (Or.inl ⟨by rfl, ?_⟩) hH9 ?_
        rotate_left
        · ((intro W hW; clear hW; go_simp) <;> with_reducible rfl)
        simp only [Act.put, List.getElem_toArray, List.getElem_cons_zero, List.getElem_cons_succ, List.setIfInBounds_toArray, List.set_cons_zero, List.set_cons_succ]
        refine wpAnyH_take (i := 5) (v := ?_) rfl (by kernel_rfl) (by kernel_rfl) (by kernel_rfl) (fun _ _ _ h => h) (Or.inl ⟨by rfl, ?_⟩) hH9 ?_
        rotate_left
        · ((intro W hW; clear hW; go_simp) <;> with_reducible rfl)
        simp only [Act.put, List.getElem_toArray, List.getElem_cons_zero, List.getElem_cons_succ, List.setIfInBounds_toArray, List.set_cons_zero, List.set_cons_succ]
        refine wpAnyH_ready (rs := [7]) (by kernel_rfl) (by simp) ?_
        refine AllReadyH.cons (o := _) rfl (fun K hK => ?_) AllReadyH.nil
        simp only [List.getElem_toArray, List.getElem_cons_zero, List.getElem_cons_succ]
        rw [if_pos (by rfl)]
        refine wp_store_blk 27 (.tmp 5) (.tmp 20) rfl g5 rfl #[.int .i64 f0, .int .i64 f1, .int .i64 f2, .int .i64 f3, .int .i64 f4, .int .i64 f5, .int .u8 (j0.toNat : Int), .int .u8 (j1.toNat : Int), .int .u8 (j2.toNat : Int), .int .u8 (j3.toNat : Int), .int .u8 (j4.toNat : Int), .int .u8 (j5.toNat : Int), .int .u8 (j6.toNat : Int), .int .u8 (j7.toNat : Int), .slice Ao no co, .slice Ab nb cb] rfl _ 27 hp (by rfl) (by kernel_rfl) (by kernel_rfl) ?_
        intro w10 hq gr
        replace hD := hD.away av_hD_p gr
        replace hd := blk_away hd gr zd d_d_p
        replace zd := Nat.lt_of_lt_of_le zd gr.size
        replace zp := Nat.lt_of_lt_of_le zp gr.size
        replace bel := below_grown bel gr op bel.size
        clear hp
        have hp := hq
        clear hq gr
        refine hK.out _ _ hd (fun hH11 => ?_)
        clear hK K
        refine wpAnyH_take (i := 8) (v := ?_) rfl (by kernel_rfl) (by kernel_rfl) (by kernel_rfl) (fun _ _ _ h => h) (Or.inl ⟨by rfl, ?_⟩) hH11 ?_
        rotate_left
        · ((intro W hW; clear hW; go_simp) <;> with_reducible rfl)
        simp only [Act.put, List.getElem_toArray, List.getElem_cons_zero, List.getElem_cons_succ, List.setIfInBounds_toArray, List.set_cons_zero, List.set_cons_succ]
        refine wpAnyH_done (by kernel_rfl) ?_ _
        go_wp2_with fail
        go_meet
        case rel => exact ⟨g5, f0, f1, f2, f3, f4, f5, j0, j1, j2, j3, j4, j5, j6, j7, Ao, no, co, Ab, nb, cb, er, rfl, rfl, hd, zd, hp, zp, op, d_d_p, hD, av_hD_d, av_hD_p, hne, bel⟩
    · simp only [List.getElem_toArray, List.getElem_cons_zero, List.getElem_cons_succ]
      rw [if_pos (by rfl)]
      refine wp_new_n 27 rfl (.agg #[.int .i64 0, .int .i64 0, .int .i64 0, .int .i64 0, .int .i64 0, .int .i64 0, .int .u8 0, .int .u8 0, .int .u8 0, .int .u8 0, .int .u8 0, .int .u8 0, .int .u8 0, .int .u8 0, .slice none 0 0, .slice none 0 0]) (by kernel_rfl) #[.int .i64 0, .int .i64 0, .int .i64 0, .int .i64 0, .int .i64 0, .int .i64 0, .int .u8 0, .int .u8 0, .int .u8 0, .int .u8 0, .int .u8 0, .int .u8 0, .int .u8 0, .int .u8 0, .slice none 0 0, .slice none 0 0] rfl ?_
      intro g5 w4 ge lt hh bb
      have d_d_p := ne_new zd ge
      have av_hD_p := hD.av_new ge
      have op := Nat.le_trans bel.size ge
      replace hd := blk_under hd bb zd
      replace zd := Nat.lt_of_lt_of_le zd bb.size
      replace hD := hD.below bb
      replace bel := bel.trans (bb.mono bel.size)
      have hp := hh
      have zp := lt
      clear hh lt ge bb
      refine hK.out _ _ hd (fun hH5 => ?_)
      clear hK K
      refine wpAnyH_ready (rs := [0]) (by kernel_rfl) (by simp) ?_
      refine AllReadyH.cons (o := _) rfl (fun K hK => ?_) AllReadyH.nil
      simp only [List.getElem_toArray, List.getElem_cons_zero]
      go_simp
      with_reducible refine (base7 _).mono ?_
      rintro e w6 ⟨rfl, b6⟩
      dsimp only
      replace hd := blk_under hd b6 zd
      replace zd := Nat.lt_of_lt_of_le zd b6.size
      replace hp := blk_under hp b6 zp
      replace zp := Nat.lt_of_lt_of_le zp b6.size
      replace hD := hD.below b6
      replace bel := bel.trans (b6.mono bel.size)
      clear b6
      refine hK.out _ _ hd (fun hH7 => ?_)
      clear hK K
      refine wpAnyH_ready (rs := [2]) (by kernel_rfl) (by simp) ?_
      refine AllReadyH.cons (o := _) rfl (fun K hK => ?_) AllReadyH.nil
      simp only [List.getElem_toArray, List.getElem_cons_zero, List.getElem_cons_succ]
      go_simp
      with_reducible refine (kput_bad _ _ _ _ _ _ _ hD (by have := H3.out; omega) HE.out).mono ?_
      rintro e w8 ⟨f0, f1, f2, f3, f4, f5, j0, j1, j2, j3, j4, j5, j6, j7, Ao, no, co, Ab, nb, cb, er, rfl, hne, b8⟩
      dsimp only
      replace hd := blk_under hd b8 zd
      replace zd := Nat.lt_of_lt_of_le zd b8.size
      replace hp := blk_under hp b8 zp
      replace zp := Nat.lt_of_lt_of_le zp b8.size
      replace hD := hD.below b8
      replace bel := bel.trans (b8.mono bel.size)
      clear b8
      refine hK.out _ _ hd (fun hH9 => ?_)
      clear hK K
      refine wpAnyH_take (i := 3) (v := ?_) rfl (by kernel_rfl) (by kernel_rfl) (by kernel_rfl) (fun _ _ _ h => h) (Or.inl ⟨by rfl, ?_⟩) hH9 ?_
      rotate_left
      · ((intro W hW; clear hW; go_simp) <;> with_reducible rfl)
      simp only [Act.put, List.getElem_toArray, List.getElem_cons_zero, List.getElem_cons_succ, List.setIfInBounds_toArray, List.set_cons_zero, List.set_cons_succ]
      refine wpAnyH_take (i := 4) (v := ?_) rfl (by kernel_rfl) (by kernel_rfl) (by kernel_rfl) (fun _ _ _ h => h) (Or.inl ⟨by rfl, ?_⟩) hH9 ?_
      rotate_left
      · ((intro W hW; clear hW; go_simp) <;> with_reducible rfl)
      simp only [Act.put, List.getElem_toArray, List.getElem_cons_zero, List.getElem_cons_succ, List.setIfInBounds_toArray, List.set_cons_zero, List.set_cons_succ]
      refine wpAnyH_take (i := 5) (v := ?_) rfl (by kernel_rfl) (by kernel_rfl) (by kernel_rfl) (fun _ _ _ h => h) (Or.inl ⟨by rfl, ?_⟩) hH9 ?_
      rotate_left
      · ((intro W hW; clear hW; go_simp) <;> with_reducible rfl)
      simp only [Act.put, List.getElem_toArray, List.getElem_cons_zero, List.getElem_cons_succ, List.setIfInBounds_toArray, List.set_cons_zero, List.set_cons_succ]
      refine wpAnyH_ready (rs := [7]) (by kernel_rfl) (by simp) ?_
      refine AllReadyH.cons (o := _) rfl (fun K hK => ?_) AllReadyH.nil
      simp only [List.getElem_toArray, List.getElem_cons_zero, List.getElem_cons_succ]
      rw [if_pos (by rfl)]
      refine wp_store_blk 27 (.tmp 5) (.tmp 20) rfl g5 rfl #[.int .i64 f0, .int .i64 f1, .int .i64 f2, .int .i64 f3, .int .i64 f4, .int .i64 f5, .int .u8 (j0.toNat : Int), .int .u8 (j1.toNat : Int), .int .u8 (j2.toNat : Int), .int .u8 (j3.toNat : Int), .int .u8 (j4.toNat : Int), .int .u8 (j5.toNat : Int), .int .u8 (j6.toNat : Int), .int .u8 (j7.toNat : Int), .slice Ao no co, .slice Ab nb cb] rfl _ 27 hp (by rfl) (by kernel_rfl) (by kernel_rfl) ?_
      intro w10 hq gr
      replace hD := hD.away av_hD_p gr
      replace hd := blk_away hd gr zd d_d_p
      replace zd := Nat.lt_of_lt_of_le zd gr.size
      replace zp := Nat.lt_of_lt_of_le zp gr.size
      replace bel := below_grown bel gr op bel.size
      clear hp
      have hp := hq
      clear hq gr
      refine hK.out _ _ hd (fun hH11 => ?_)
      clear hK K
      refine wpAnyH_take (i := 8) (v := ?_) rfl (by kernel_rfl) (by kernel_rfl) (by kernel_rfl) (fun _ _ _ h => h) (Or.inl ⟨by rfl, ?_⟩) hH11 ?_
      rotate_left
      · ((intro W hW; clear hW; go_simp) <;> with_reducible rfl)
      simp only [Act.put, List.getElem_toArray, List.getElem_cons_zero, List.getElem_cons_succ, List.setIfInBounds_toArray, List.set_cons_zero, List.set_cons_succ]
      refine wpAnyH_done (by kernel_rfl) ?_ _
      go_wp2_with fail
      go_meet
      case rel => exact ⟨g5, f0, f1, f2, f3, f4, f5, j0, j1, j2, j3, j4, j5, j6, j7, Ao, no, co, Ab, nb, cb, er, rfl, rfl, hd, zd, hp, zp, op, d_d_p, hD, av_hD_d, av_hD_p, hne, bel⟩
  obtain ⟨w12, hw_⟩ : ∃ x, x = wc := ⟨_, rfl⟩
  subst hw_
  obtain ⟨g5, f0, f1, f2, f3, f4, f5, j0, j1, j2, j3, j4, j5, j6, j7, Ao, no, co, Ab, nb, cb, er, rfl, rfl, hd, zd, hp, zp, op, d_d_p, hD, av_hD_d, av_hD_p, hne, bel⟩ := hcut
  have t8 : (er == 0) = false := by simpa using hne.out
  have t9 : (er != 0) = true := by simpa using hne.out
  go_wp2_with fail
  go_ret
  exact ⟨rfl, bel⟩
set_option linter.unusedVariables false in
set_option maxRecDepth 100000 in
set_option maxHeartbeats 16000000 in
theorem udpSpoilt_3 (df dt : Int) (D : Option Addr) (nd cd : Nat) (ld : List UInt8) (bit : Int) (w : World) (hD : Sl w D nd cd ld) (h3 : nd ≤ 600) (g1 : portOk df = true) (g2 : portOk dt = true) (g3 : nd ≤ 1472) (hb : bit < 0) : Calls Try.prog 6 #[.agg #[.int .i64 df, .int .i64 dt, .slice D nd cd], .int .i64 bit] w fun e w' => e = .returned (.bool true) ∧ Below w.heap.size w w' := by
  obtain ⟨ii, hii, hz0, hz1, hz2⟩ := info_parts Try.info5
  have t1 : decide ((600 : Int) < nd) = false := decide_eq_false (by omega)
  have H3 := Lib.hid h3
  clear h3
  have G1 := Lib.hid g1
  have G2 := Lib.hid g2
  have G3 := Lib.hid g3
  clear g1 g2 g3
  have bel := Below.refl w.heap.size w
  go_enter Try.func6, Try.ntmps6
  go_wp2_with (first | ((with_reducible show wpList _ _ _ (⟨some 2, _, _, _, _, _⟩ :: _) _ _); refine wpList_box_n rfl 33 (.tmp 0) rfl #[.int .i64 df, .int .i64 dt, .slice D nd cd] rfl ?_; intro g2 w1 ge lt hh bb; have av_hD_d := hD.av_new ge; have od := Nat.le_trans bel.size ge; replace hD := hD.below bb; replace bel := bel.trans (bb.mono bel.size); have hd := hh; have zd := lt; clear hh lt ge bb))
  with_reducible refine (awake7 _).mono ?_
  rintro e w2 ⟨rfl, b2⟩
  replace hd := blk_under hd b2 zd
  replace zd := Nat.lt_of_lt_of_le zd b2.size
  replace hD := hD.below b2
  replace bel := bel.trans (b2.mono bel.size)
  clear b2
  have R13 := cell_lit hd 2 _ rfl
  go_wp2_with fail
  clear R13
  go_cut [5, 6] from 9999 (fun s5 s6 W => ∃ g5 : Nat, ∃ Ab : Option Addr, ∃ cb : Nat, ∃ Ao : Option Addr, ∃ co : Nat, s5 = .pointer (some ⟨g5, 0, none⟩) ∧ s6 = .int .i64 0 ∧ W.heap[g2]? = some (.cells #[.int .i64 df, .int .i64 dt, .slice D nd cd] 33 (0, 0)) ∧ g2 < W.heap.size ∧ W.heap[g5]? = some (.cells #[.int .i64 0, .int .i64 0, .int .i64 0, .int .i64 0, .int .i64 64, .int .i64 17, .int .u8 10, .int .u8 0, .int .u8 0, .int .u8 1, .int .u8 10, .int .u8 0, .int .u8 0, .int .u8 2, .slice Ao 0 co, .slice Ab (8 + nd) cb] 27 (0, 0)) ∧ g5 < W.heap.size ∧ w.heap.size ≤ g5 ∧ Hid (g2 ≠ g5) ∧ Sl W (D) (nd) (cd) (ld) ∧ Av (D) (nd) g2 ∧ Av (D) (nd) g5 ∧ Sl W (Ab) (8 + nd) (cb) (udBytes 10 0 0 1 10 0 0 2 df dt ld) ∧ Av (Ab) (8 + nd) g2 ∧ Av (Ab) (8 + nd) g5 ∧ Below w.heap.size w W)
  case first =>
    replace bel := bel.drew
    replace hd : w2.drew.heap[g2]? = _ := hd
    replace zd : _ < w2.drew.heap.size := zd
    replace hD := hD.drew
    refine wp_region_held_drew (S := fun W => W.heap[g2]? = some (.cells #[.int .i64 df, .int .i64 dt, .slice D nd cd] 33 (0, 0))) (by kernel_rfl) hd (fun hH => ?_)
    generalize w2.drew = w3 at bel hd zd hD hH ⊢
    refine wpAnyH_take (i := 1) (v := .agg #[.int .i64 df, .int .i64 dt, .slice D nd cd]) rfl (by kernel_rfl) (by kernel_rfl) (by kernel_rfl) (fun _ _ _ h => h) (yieldsIf_load_part (by kernel_rfl) 33 _ rfl g2 0 3 rfl [.int .i64 df, .int .i64 dt, .slice D nd cd] 33 (0, 0) (fun W hW => hW) [.int .i64 df, .int .i64 dt, .slice D nd cd] rfl _ Try.underlying33 rfl (by kernel_rfl)) hH ?_
    simp only [Act.put, List.getElem_toArray, List.getElem_cons_zero, List.getElem_cons_succ, List.setIfInBounds_toArray, List.set_cons_zero, List.set_cons_succ]
    refine wpAnyH_ready (rs := [0, 6]) (by kernel_rfl) (by simp) ?_
    refine AllReadyH.cons (o := _) rfl (fun K hK => ?_) (AllReadyH.cons (o := _) rfl (fun K hK => ?_) AllReadyH.nil)
    · simp only [List.getElem_toArray, List.getElem_cons_zero]
      go_simp
      with_reducible refine (base7 _).mono ?_
      rintro e w4 ⟨rfl, b4⟩
      dsimp only
      replace hd := blk_under hd b4 zd
      replace zd := Nat.lt_of_lt_of_le zd b4.size
      replace hD := hD.below b4
      replace bel := bel.trans (b4.mono bel.size)
      clear b4
      refine hK.out _ _ hd (fun hH5 => ?_)
      clear hK K
      refine wpAnyH_ready (rs := [2, 6]) (by kernel_rfl) (by simp) ?_
      refine AllReadyH.cons (o := _) rfl (fun K hK => ?_) (AllReadyH.cons (o := _) rfl (fun K hK => ?_) AllReadyH.nil)
      · simp only [List.getElem_toArray, List.getElem_cons_zero, List.getElem_cons_succ]
        go_simp
        with_reducible refine (kput_ok _ _ _ _ _ _ _ hD G1.out G2.out G3.out).mono ?_
        rintro e w6 ⟨Ao, co, Ab, cb, rfl, _, pb, fb, b6⟩
        dsimp only
        have av_pb_d := fb.av zd
        replace hd := blk_under hd b6 zd
        replace zd := Nat.lt_of_lt_of_le zd b6.size
        replace hD := hD.below b6
        replace bel := bel.trans (b6.mono bel.size)
        clear b6
        replace pb : Sl w6 (Ab) (8 + nd) (cb) (udBytes 10 0 0 1 10 0 0 2 df dt ld) := pb
        refine hK.out _ _ hd (fun hH7 => ?_)
        clear hK K
        refine wpAnyH_take (i := 3) (v := ?_) rfl (by kernel_rfl) (by kernel_rfl) (by kernel_rfl) (fun _ _ _ h => h) (Or.inl ⟨by rfl, ?_⟩) hH7 ?_
        rotate_left
        · ((intro W hW; clear hW; go_simp) <;> with_reducible rfl)
        simp only [Act.put, List.getElem_toArray, List.getElem_cons_zero, List.getElem_cons_succ, List.setIfInBounds_toArray, List.set_cons_zero, List.set_cons_succ]
        refine wpAnyH_take (i := 4) (v := ?_) rfl (by kernel_rfl) (by kernel_rfl) (by kernel_rfl) (fun _ _ _ h => h) (Or.inl ⟨by rfl, ?_⟩) hH7 ?_
        rotate_left
        · ((intro W hW; clear hW; go_simp) <;> with_reducible rfl)
        simp only [Act.put, List.getElem_toArray, List.getElem_cons_zero, List.getElem_cons_succ, List.setIfInBounds_toArray, List.set_cons_zero, List.set_cons_succ]
        refine wpAnyH_take (i := 5) (v := ?_) rfl (by kernel_rfl) (by kernel_rfl) (by kernel_rfl) (fun _ _ _ h => h) (Or.inl ⟨by rfl, ?_⟩) hH7 ?_
        rotate_left
        · ((intro W hW; clear hW; go_simp) <;> with_reducible rfl)
        simp only [Act.put, List.getElem_toArray, List.getElem_cons_zero, List.getElem_cons_succ, List.setIfInBounds_toArray, List.set_cons_zero, List.set_cons_succ]
        refine wpAnyH_ready (rs := [6]) (by kernel_rfl) (by simp) ?_
        refine AllReadyH.cons (o := _) rfl (fun K hK => ?_) AllReadyH.nil
        simp only [List.getElem_toArray, List.getElem_cons_zero, List.getElem_cons_succ]
        rw [if_pos (by rfl)]
        refine wp_new_n 27 rfl (.agg #[.int .i64 0, .int .i64 0, .int .i64 0, .int .i64 0, .int .i64 0, .int .i64 0, .int .u8 0, .int .u8 0, .int .u8 0, .int .u8 0, .int .u8 0, .int .u8 0, .int .u8 0, .int .u8 0, .slice none 0 0, .slice none 0 0]) (by kernel_rfl) #[.int .i64 0, .int .i64 0, .int .i64 0, .int .i64 0, .int .i64 0, .int .i64 0, .int .u8 0, .int .u8 0, .int .u8 0, .int .u8 0, .int .u8 0, .int .u8 0, .int .u8 0, .int .u8 0, .slice none 0 0, .slice none 0 0] rfl ?_
        intro g5 w8 ge lt hh bb
        have d_d_p := ne_new zd ge
        have av_hD_p := hD.av_new ge
        have av_pb_p := pb.av_new ge
        have op := Nat.le_trans bel.size ge
        replace hd := blk_under hd bb zd
        replace zd := Nat.lt_of_lt_of_le zd bb.size
        replace hD := hD.below bb
        replace pb := pb.below bb
        replace bel := bel.trans (bb.mono bel.size)
        have hp := hh
        have zp := lt
        clear hh lt ge bb
        refine hK.out _ _ hd (fun hH9 => ?_)
        clear hK K
        refine wpAnyH_ready (rs := [7]) (by kernel_rfl) (by simp) ?_
        refine AllReadyH.cons (o := _) rfl (fun K hK => ?_) AllReadyH.nil
        simp only [List.getElem_toArray, List.getElem_cons_zero, List.getElem_cons_succ]
        rw [if_pos (by rfl)]
        refine wp_store_blk 27 (.tmp 5) (.tmp 20) rfl g5 rfl #[.int .i64 0, .int .i64 0, .int .i64 0, .int .i64 0, .int .i64 64, .int .i64 17, .int .u8 10, .int .u8 0, .int .u8 0, .int .u8 1, .int .u8 10, .int .u8 0, .int .u8 0, .int .u8 2, .slice Ao 0 co, .slice Ab (8 + nd) cb] rfl _ 27 hp (by rfl) (by kernel_rfl) (by kernel_rfl) ?_
        intro w10 hq gr
        replace hD := hD.away av_hD_p gr
        replace pb := pb.away av_pb_p gr
        replace hd := blk_away hd gr zd d_d_p
        replace zd := Nat.lt_of_lt_of_le zd gr.size
        replace zp := Nat.lt_of_lt_of_le zp gr.size
        replace bel := below_grown bel gr op bel.size
        clear hp
        have hp := hq
        clear hq gr
        refine hK.out _ _ hd (fun hH11 => ?_)
        clear hK K
        refine wpAnyH_take (i := 8) (v := ?_) rfl (by kernel_rfl) (by kernel_rfl) (by kernel_rfl) (fun _ _ _ h => h) (Or.inl ⟨by rfl, ?_⟩) hH11 ?_
        rotate_left
        · ((intro W hW; clear hW; go_simp) <;> with_reducible rfl)
        simp only [Act.put, List.getElem_toArray, List.getElem_cons_zero, List.getElem_cons_succ, List.setIfInBounds_toArray, List.set_cons_zero, List.set_cons_succ]
        refine wpAnyH_done (by kernel_rfl) ?_ _
        go_wp2_with fail
        go_meet
        case rel => exact ⟨g5, Ab, cb, Ao, co, rfl, rfl, hd, zd, hp, zp, op, d_d_p, hD, av_hD_d, av_hD_p, pb, av_pb_d, av_pb_p, bel⟩
      · simp only [List.getElem_toArray, List.getElem_cons_zero, List.getElem_cons_succ]
        rw [if_pos (by rfl)]
        refine wp_new_n 27 rfl (.agg #[.int .i64 0, .int .i64 0, .int .i64 0, .int .i64 0, .int .i64 0, .int .i64 0, .int .u8 0, .int .u8 0, .int .u8 0, .int .u8 0, .int .u8 0, .int .u8 0, .int .u8 0, .int .u8 0, .slice none 0 0, .slice none 0 0]) (by kernel_rfl) #[.int .i64 0, .int .i64 0, .int .i64 0, .int .i64 0, .int .i64 0, .int .i64 0, .int .u8 0, .int .u8 0, .int .u8 0, .int .u8 0, .int .u8 0, .int .u8 0, .int .u8 0, .int .u8 0, .slice none 0 0, .slice none 0 0] rfl ?_
        intro g5 w6 ge lt hh bb
        have d_d_p := ne_new zd ge
        have av_hD_p := hD.av_new ge
        have op := Nat.le_trans bel.size ge
        replace hd := blk_under hd bb zd
        replace zd := Nat.lt_of_lt_of_le zd bb.size
        replace hD := hD.below bb
        replace bel := bel.trans (bb.mono bel.size)
        have hp := hh
        have zp := lt
        clear hh lt ge bb
        refine hK.out _ _ hd (fun hH7 => ?_)
        clear hK K
        refine wpAnyH_ready (rs := [2]) (by kernel_rfl) (by simp) ?_
        refine AllReadyH.cons (o := _) rfl (fun K hK => ?_) AllReadyH.nil
        simp only [List.getElem_toArray, List.getElem_cons_zero, List.getElem_cons_succ]
        go_simp
        with_reducible refine (kput_ok _ _ _ _ _ _ _ hD G1.out G2.out G3.out).mono ?_
        rintro e w8 ⟨Ao, co, Ab, cb, rfl, _, pb, fb, b8⟩
        dsimp only
        have av_pb_d := fb.av zd
        have av_pb_p := fb.av zp
        replace hd := blk_under hd b8 zd
        replace zd := Nat.lt_of_lt_of_le zd b8.size
        replace hp := blk_under hp b8 zp
        replace zp := Nat.lt_of_lt_of_le zp b8.size
        replace hD := hD.below b8
        replace bel := bel.trans (b8.mono bel.size)
        clear b8
        replace pb : Sl w8 (Ab) (8 + nd) (cb) (udBytes 10 0 0 1 10 0 0 2 df dt ld) := pb
        refine hK.out _ _ hd (fun hH9 => ?_)
        clear hK K
        refine wpAnyH_take (i := 3) (v := ?_) rfl (by kernel_rfl) (by kernel_rfl) (by kernel_rfl) (fun _ _ _ h => h) (Or.inl ⟨by rfl, ?_⟩) hH9 ?_
        rotate_left
        · ((intro W hW; clear hW; go_simp) <;> with_reducible rfl)
        simp only [Act.put, List.getElem_toArray, List.getElem_cons_zero, List.getElem_cons_succ, List.setIfInBounds_toArray, List.set_cons_zero, List.set_cons_succ]
        refine wpAnyH_take (i := 4) (v := ?_) rfl (by kernel_rfl) (by kernel_rfl) (by kernel_rfl) (fun _ _ _ h => h) (Or.inl ⟨by rfl, ?_⟩) hH9 ?_
        rotate_left
        · ((intro W hW; clear hW; go_simp) <;> with_reducible rfl)
        simp only [Act.put, List.getElem_toArray, List.getElem_cons_zero, List.getElem_cons_succ, List.setIfInBounds_toArray, List.set_cons_zero, List.set_cons_succ]
        refine wpAnyH_take (i := 5) (v := ?_) rfl (by kernel_rfl) (by kernel_rfl) (by kernel_rfl) (fun _ _ _ h => h) (Or.inl ⟨by rfl, ?_⟩) hH9 ?_
        rotate_left
        · ((intro W hW; clear hW; go_simp) <;> with_reducible rfl)
        simp only [Act.put, List.getElem_toArray, List.getElem_cons_zero, List.getElem_cons_succ, List.setIfInBounds_toArray, List.set_cons_zero, List.set_cons_succ]
        refine wpAnyH_ready (rs := [7]) (by kernel_rfl) (by simp) ?_
        refine AllReadyH.cons (o := _) rfl (fun K hK => ?_) AllReadyH.nil
        simp only [List.getElem_toArray, List.getElem_cons_zero, List.getElem_cons_succ]
        rw [if_pos (by rfl)]
        refine wp_store_blk 27 (.tmp 5) (.tmp 20) rfl g5 rfl #[.int .i64 0, .int .i64 0, .int .i64 0, .int .i64 0, .int .i64 64, .int .i64 17, .int .u8 10, .int .u8 0, .int .u8 0, .int .u8 1, .int .u8 10, .int .u8 0, .int .u8 0, .int .u8 2, .slice Ao 0 co, .slice Ab (8 + nd) cb] rfl _ 27 hp (by rfl) (by kernel_rfl) (by kernel_rfl) ?_
        intro w10 hq gr
        replace hD := hD.away av_hD_p gr
        replace pb := pb.away av_pb_p gr
        replace hd := blk_away hd gr zd d_d_p
        replace zd := Nat.lt_of_lt_of_le zd gr.size
        replace zp := Nat.lt_of_lt_of_le zp gr.size
        replace bel := below_grown bel gr op bel.size
        clear hp
        have hp := hq
        clear hq gr
        refine hK.out _ _ hd (fun hH11 => ?_)
        clear hK K
        refine wpAnyH_take (i := 8) (v := ?_) rfl (by kernel_rfl) (by kernel_rfl) (by kernel_rfl) (fun _ _ _ h => h) (Or.inl ⟨by rfl, ?_⟩) hH11 ?_
        rotate_left
        · ((intro W hW; clear hW; go_simp) <;> with_reducible rfl)
        simp only [Act.put, List.getElem_toArray, List.getElem_cons_zero, List.getElem_cons_succ, List.setIfInBounds_toArray, List.set_cons_zero, List.set_cons_succ]
        refine wpAnyH_done (by kernel_rfl) ?_ _
        go_wp2_with fail
        go_meet
        case rel => exact ⟨g5, Ab, cb, Ao, co, rfl, rfl, hd, zd, hp, zp, op, d_d_p, hD, av_hD_d, av_hD_p, pb, av_pb_d, av_pb_p, bel⟩
    · simp only [List.getElem_toArray, List.getElem_cons_zero, List.getElem_cons_succ]
      rw [if_pos (by rfl)]
      refine wp_new_n 27 rfl (.agg #[.int .i64 0, .int .i64 0, .int .i64 0, .int .i64 0, .int .i64 0, .int .i64 0, .int .u8 0, .int .u8 0, .int .u8 0, .int .u8 0, .int .u8 0, .int .u8 0, .int .u8 0, .int .u8 0, .slice none 0 0, .slice none 0 0]) (by kernel_rfl) #[.int .i64 0, .int .i64 0, .int .i64 0, .int .i64 0, .int .i64 0, .int .i64 0, .int .u8 0, .int .u8 0, .int .u8 0, .int .u8 0, .int .u8 0, .int .u8 0, .int .u8 0, .int .u8 0, .slice none 0 0, .slice none 0 0] rfl ?_
      intro g5 w4 ge lt hh bb
      have d_d_p := ne_new zd ge
      have av_hD_p := hD.av_new ge
      have op := Nat.le_trans bel.size ge
      replace hd := blk_under hd bb zd
      replace zd := Nat.lt_of_lt_of_le zd bb.size
      replace hD := hD.below bb
      replace bel := bel.trans (bb.mono bel.size)
      have hp := hh
      have zp := lt
      clear hh lt ge bb
      refine hK.out _ _ hd (fun hH5 => ?_)
      clear hK K
      refine wpAnyH_ready (rs := [0]) (by kernel_rfl) (by simp) ?_
      refine AllReadyH.cons (o := _) rfl (fun K hK => ?_) AllReadyH.nil
      simp only [List.getElem_toArray, List.getElem_cons_zero]
      go_simp
      with_reducible refine (base7 _).mono ?_
      rintro e w6 ⟨rfl, b6⟩
      dsimp only
      replace hd := blk_under hd b6 zd
      replace zd := Nat.lt_of_lt_of_le zd b6.size
      replace hp := blk_under hp b6 zp
      replace zp := Nat.lt_of_lt_of_le zp b6.size
      replace hD := hD.below b6
      replace bel := bel.trans (b6.mono bel.size)
      clear b6
      refine hK.out _ _ hd (fun hH7 => ?_)
      clear hK K
      refine wpAnyH_ready (rs := [2]) (by kernel_rfl) (by simp) ?_
      refine AllReadyH.cons (o := _) rfl (fun K hK => ?_) AllReadyH.nil
      simp only [List.getElem_toArray, List.getElem_cons_zero, List.getElem_cons_succ]
      go_simp
      with_reducible refine (kput_ok _ _ _ _ _ _ _ hD G1.out G2.out G3.out).mono ?_
      rintro e w8 ⟨Ao, co, Ab, cb, rfl, _, pb, fb, b8⟩
      dsimp only
      have av_pb_d := fb.av zd
      have av_pb_p := fb.av zp
      replace hd := blk_under hd b8 zd
      replace zd := Nat.lt_of_lt_of_le zd b8.size
      replace hp := blk_under hp b8 zp
      replace zp := Nat.lt_of_lt_of_le zp b8.size
      replace hD := hD.below b8
      replace bel := bel.trans (b8.mono bel.size)
      clear b8
      replace pb : Sl w8 (Ab) (8 + nd) (cb) (udBytes 10 0 0 1 10 0 0 2 df dt ld) := pb
      refine hK.out _ _ hd (fun hH9 => ?_)
      clear hK K
      refine wpAnyH_take (i := 3) (v := ?_) rfl (by kernel_rfl) (by kernel_rfl) (by kernel_rfl) (fun _ _ _ h => h) (Or.inl ⟨by rfl, ?_⟩) hH9 ?_
      rotate_left
      · ((intro W hW; clear hW; go_simp) <;> with_reducible rfl)
      simp only [Act.put, List.getElem_toArray, List.getElem_cons_zero, List.getElem_cons_succ, List.setIfInBounds_toArray, List.set_cons_zero, List.set_cons_succ]
      refine wpAnyH_take (i := 4) (v := ?_) rfl (by kernel_rfl) (by kernel_rfl) (by kernel_rfl) (fun _ _ _ h => h) (Or.inl ⟨by rfl, ?_⟩) hH9 ?_
      rotate_left
      · ((intro W hW; clear hW; go_simp) <;> with_reducible rfl)
      simp only [Act.put, List.getElem_toArray, List.getElem_cons_zero, List.getElem_cons_succ, List.setIfInBounds_toArray, List.set_cons_zero, List.set_cons_succ]
      refine wpAnyH_take (i := 5) (v := ?_) rfl (by kernel_rfl) (by kernel_rfl) (by kernel_rfl) (fun _ _ _ h => h) (Or.inl ⟨by rfl, ?_⟩) hH9 ?_
      rotate_left
      · ((intro W hW; clear hW; go_simp) <;> with_reducible rfl)
      simp only [Act.put, List.getElem_toArray, List.getElem_cons_zero, List.getElem_cons_succ, List.setIfInBounds_toArray, List.set_cons_zero, List.set_cons_succ]
      refine wpAnyH_ready (rs := [7]) (by kernel_rfl) (by simp) ?_
      refine AllReadyH.cons (o := _) rfl (fun K hK => ?_) AllReadyH.nil
      simp only [List.getElem_toArray, List.getElem_cons_zero, List.getElem_cons_succ]
      rw [if_pos (by rfl)]
      refine wp_store_blk 27 (.tmp 5) (.tmp 20) rfl g5 rfl #[.int .i64 0, .int .i64 0, .int .i64 0, .int .i64 0, .int .i64 64, .int .i64 17, .int .u8 10, .int .u8 0, .int .u8 0, .int .u8 1, .int .u8 10, .int .u8 0, .int .u8 0, .int .u8 2, .slice Ao 0 co, .slice Ab (8 + nd) cb] rfl _ 27 hp (by rfl) (by kernel_rfl) (by kernel_rfl) ?_
      intro w10 hq gr
      replace hD := hD.away av_hD_p gr
      replace pb := pb.away av_pb_p gr
      replace hd := blk_away hd gr zd d_d_p
      replace zd := Nat.lt_of_lt_of_le zd gr.size
      replace zp := Nat.lt_of_lt_of_le zp gr.size
      replace bel := below_grown bel gr op bel.size
      clear hp
      have hp := hq
      clear hq gr
      refine hK.out _ _ hd (fun hH11 => ?_)
      clear hK K
      refine wpAnyH_take (i := 8) (v := ?_) rfl (by kernel_rfl) (by kernel_rfl) (by kernel_rfl) (fun _ _ _ h => h) (Or.inl ⟨by rfl, ?_⟩) hH11 ?_
      rotate_left
      · ((intro W hW; clear hW; go_simp) <;> with_reducible rfl)
      simp only [Act.put, List.getElem_toArray, List.getElem_cons_zero, List.getElem_cons_succ, List.setIfInBounds_toArray, List.set_cons_zero, List.set_cons_succ]
      refine wpAnyH_done (by kernel_rfl) ?_ _
      go_wp2_with fail
      go_meet
      case rel => exact ⟨g5, Ab, cb, Ao, co, rfl, rfl, hd, zd, hp, zp, op, d_d_p, hD, av_hD_d, av_hD_p, pb, av_pb_d, av_pb_p, bel⟩
  obtain ⟨w12, hw_⟩ : ∃ x, x = wc := ⟨_, rfl⟩
  subst hw_
  obtain ⟨g5, Ab, cb, Ao, co, rfl, rfl, hd, zd, hp, zp, op, d_d_p, hD, av_hD_d, av_hD_p, pb, av_pb_d, av_pb_p, bel⟩ := hcut
  go_wp2_with fail
  go_ret
  exact ⟨rfl, bel⟩
set_option linter.unusedVariables false in
set_option maxRecDepth 100000 in
set_option maxHeartbeats 16000000 in
theorem udpSpoilt_4 (df dt : Int) (D : Option Addr) (nd cd : Nat) (ld : List UInt8) (bit : Int) (w : World) (hD : Sl w D nd cd ld) (h3 : nd ≤ 600) (g1 : portOk df = true) (g2 : portOk dt = true) (g3 : nd ≤ 1472) (hb : 8 * (8 + (nd : Int)) ≤ bit) : Calls Try.prog 6 #[.agg #[.int .i64 df, .int .i64 dt, .slice D nd cd], .int .i64 bit] w fun e w' => e = .returned (.bool true) ∧ Below w.heap.size w w' := by
  obtain ⟨ii, hii, hz0, hz1, hz2⟩ := info_parts Try.info5
  have t1 : decide ((600 : Int) < nd) = false := decide_eq_false (by omega)
  have H3 := Lib.hid h3
  clear h3
  have G1 := Lib.hid g1
  have G2 := Lib.hid g2
  have G3 := Lib.hid g3
  clear g1 g2 g3
  have ew : IntKind.i64.wrap (8 * (8 + (nd : Int))) = 8 * (8 + (nd : Int)) := by rw [IntKind.wrap_i64]; have := H3.out; omega
  have t2 : decide (bit < 0) = false := decide_eq_false (by omega)
  have bel := Below.refl w.heap.size w
  go_enter Try.func6, Try.ntmps6
  go_wp2_with (first | ((with_reducible show wpList _ _ _ (⟨some 2, _, _, _, _, _⟩ :: _) _ _); refine wpList_box_n rfl 33 (.tmp 0) rfl #[.int .i64 df, .int .i64 dt, .slice D nd cd] rfl ?_; intro g2 w1 ge lt hh bb; have av_hD_d := hD.av_new ge; have od := Nat.le_trans bel.size ge; replace hD := hD.below bb; replace bel := bel.trans (bb.mono bel.size); have hd := hh; have zd := lt; clear hh lt ge bb))
  with_reducible refine (awake7 _).mono ?_
  rintro e w2 ⟨rfl, b2⟩
  replace hd := blk_under hd b2 zd
  replace zd := Nat.lt_of_lt_of_le zd b2.size
  replace hD := hD.below b2
  replace bel := bel.trans (b2.mono bel.size)
  clear b2
  have R13 := cell_lit hd 2 _ rfl
  go_wp2_with fail
  clear R13
  go_cut [5, 6] from 9999 (fun s5 s6 W => ∃ g5 : Nat, ∃ Ab : Option Addr, ∃ cb : Nat, ∃ Ao : Option Addr, ∃ co : Nat, s5 = .pointer (some ⟨g5, 0, none⟩) ∧ s6 = .int .i64 0 ∧ W.heap[g2]? = some (.cells #[.int .i64 df, .int .i64 dt, .slice D nd cd] 33 (0, 0)) ∧ g2 < W.heap.size ∧ W.heap[g5]? = some (.cells #[.int .i64 0, .int .i64 0, .int .i64 0, .int .i64 0, .int .i64 64, .int .i64 17, .int .u8 10, .int .u8 0, .int .u8 0, .int .u8 1, .int .u8 10, .int .u8 0, .int .u8 0, .int .u8 2, .slice Ao 0 co, .slice Ab (8 + nd) cb] 27 (0, 0)) ∧ g5 < W.heap.size ∧ w.heap.size ≤ g5 ∧ Hid (g2 ≠ g5) ∧ Sl W (D) (nd) (cd) (ld) ∧ Av (D) (nd) g2 ∧ Av (D) (nd) g5 ∧ Sl W (Ab) (8 + nd) (cb) (udBytes 10 0 0 1 10 0 0 2 df dt ld) ∧ Av (Ab) (8 + nd) g2 ∧ Av (Ab) (8 + nd) g5 ∧ Below w.heap.size w W)
  case first =>
    replace bel := bel.drew
    replace hd : w2.drew.heap[g2]? = _ := hd
    replace zd : _ < w2.drew.heap.size := zd
    replace hD := hD.drew
    refine wp_region_held_drew (S := fun W => W.heap[g2]? = some (.cells #[.int .i64 df, .int .i64 dt, .slice D nd cd] 33 (0, 0))) (by kernel_rfl) hd (fun hH => ?_)
    generalize w2.drew = w3 at bel hd zd hD hH ⊢
    refine wpAnyH_take (i := 1) (v := .agg #[.int .i64 df, .int .i64 dt, .slice D nd cd]) rfl (by kernel_rfl) (by kernel_rfl) (by kernel_rfl) (fun _ _ _ h => h) (yieldsIf_load_part (by kernel_rfl) 33 _ rfl g2 0 3 rfl [.int .i64 df, .int .i64 dt, .slice D nd cd] 33 (0, 0) (fun W hW => hW) [.int .i64 df, .int .i64 dt, .slice D nd cd] rfl _ Try.underlying33 rfl (by kernel_rfl)) hH ?_
    simp only [Act.put, List.getElem_toArray, List.getElem_cons_zero, List.getElem_cons_succ, List.setIfInBounds_toArray, List.set_cons_zero, List.set_cons_succ]
    refine wpAnyH_ready (rs := [0, 6]) (by kernel_rfl) (by simp) ?_
    refine AllReadyH.cons (o := _) rfl (fun K hK => ?_) (AllReadyH.cons (o := _) rfl (fun K hK => ?_) AllReadyH.nil)
    · simp only [List.getElem_toArray, List.getElem_cons_zero]
      go_simp
      with_reducible refine (base7 _).mono ?_
      rintro e w4 ⟨rfl, b4⟩
      dsimp only
      replace hd := blk_under hd b4 zd
      replace zd := Nat.lt_of_lt_of_le zd b4.size
      replace hD := hD.below b4
      replace bel := bel.trans (b4.mono bel.size)
      clear b4
      refine hK.out _ _ hd (fun hH5 => ?_)
      clear hK K
      refine wpAnyH_ready (rs := [2, 6]) (by kernel_rfl) (by simp) ?_
      refine AllReadyH.cons (o := _) rfl (fun K hK => ?_) (AllReadyH.cons (o := _) rfl (fun K hK => ?_) AllReadyH.nil)
      · simp only [List.getElem_toArray, List.getElem_cons_zero, List.getElem_cons_succ]
        go_simp
        with_reducible refine (kput_ok _ _ _ _ _ _ _ hD G1.out G2.out G3.out).mono ?_
        rintro e w6 ⟨Ao, co, Ab, cb, rfl, _, pb, fb, b6⟩
        dsimp only
        have av_pb_d := fb.av zd
        replace hd := blk_under hd b6 zd
        replace zd := Nat.lt_of_lt_of_le zd b6.size
        replace hD := hD.below b6
        replace bel := bel.trans (b6.mono bel.size)
        clear b6
        replace pb : Sl w6 (Ab) (8 + nd) (cb) (udBytes 10 0 0 1 10 0 0 2 df dt ld) := pb
        refine hK.out _ _ hd (fun hH7 => ?_)
        clear hK K
        refine wpAnyH_take (i := 3) (v := ?_) rfl (by kernel_rfl) (by kernel_rfl) (by kernel_rfl) (fun _ _ _ h => h) (Or.inl ⟨by rfl, ?_⟩) hH7 ?_
        rotate_left
        · ((intro W hW; clear hW; go_simp) <;> with_reducible rfl)
        simp only [Act.put, List.getElem_toArray, List.getElem_cons_zero, List.getElem_cons_succ, List.setIfInBounds_toArray, List.set_cons_zero, List.set_cons_succ]
        refine wpAnyH_take (i := 4) (v := ?_) rfl (by kernel_rfl) (by kernel_rfl) (by kernel_rfl) (fun _ _ _ h => h) (Or.inl ⟨by rfl, ?_⟩) hH7 ?_
        rotate_left
        · ((intro W hW; clear hW; go_simp) <;> with_reducible rfl)
        simp only [Act.put, List.getElem_toArray, List.getElem_cons_zero, List.getElem_cons_succ, List.setIfInBounds_toArray, List.set_cons_zero, List.set_cons_succ]
        refine wpAnyH_take (i := 5) (v := ?_) rfl (by kernel_rfl) (by kernel_rfl) (by kernel_rfl) (fun _ _ _ h => h) (Or.inl ⟨by rfl, ?_⟩) hH7 ?_
        rotate_left
        · ((intro W hW; clear hW; go_simp) <;> with_reducible rfl)
        simp only [Act.put, List.getElem_toArray, List.getElem_cons_zero, List.getElem_cons_succ, List.setIfInBounds_toArray, List.set_cons_zero, List.set_cons_succ]
        refine wpAnyH_ready (rs := [6]) (by kernel_rfl) (by simp) ?_
        refine AllReadyH.cons (o := _) rfl (fun K hK => ?_) AllReadyH.nil
        simp only [List.getElem_toArray, List.getElem_cons_zero, List.getElem_cons_succ]
        rw [if_pos (by rfl)]
        refine wp_new_n 27 rfl (.agg #[.int .i64 0, .int .i64 0, .int .i64 0, .int .i64 0, .int .i64 0, .int .i64 0, .int .u8 0, .int .u8 0, .int .u8 0, .int .u8 0, .int .u8 0, .int .u8 0, .int .u8 0, .int .u8 0, .slice none 0 0, .slice none 0 0]) (by kernel_rfl) #[.int .i64 0, .int .i64 0, .int .i64 0, .int .i64 0, .int .i64 0, .int .i64 0, .int .u8 0, .int .u8 0, .int .u8 0, .int .u8 0, .int .u8 0, .int .u8 0, .int .u8 0, .int .u8 0, .slice none 0 0, .slice none 0 0] rfl ?_
        intro g5 w8 ge lt hh bb
        have d_d_p := ne_new zd ge
        have av_hD_p := hD.av_new ge
        have av_pb_p := pb.av_new ge
        have op := Nat.le_trans bel.size ge
        replace hd := blk_under hd bb zd
        replace zd := Nat.lt_of_lt_of_le zd bb.size
        replace hD := hD.below bb
        replace pb := pb.below bb
        replace bel := bel.trans (bb.mono bel.size)
        have hp := hh
        have zp := lt
        clear hh lt ge bb
        refine hK.out _ _ hd (fun hH9 => ?_)
        clear hK K
        refine wpAnyH_ready (rs := [7]) (by kernel_rfl) (by simp) ?_
        refine AllReadyH.cons (o := _) rfl (fun K hK => ?_) AllReadyH.nil
        simp only [List.getElem_toArray, List.getElem_cons_zero, List.getElem_cons_succ]
        rw [if_pos (by rfl)]
        refine wp_store_blk 27 (.tmp 5) (.tmp 20) rfl g5 rfl #[.int .i64 0, .int .i64 0, .int .i64 0, .int .i64 0, .int .i64 64, .int .i64 17, .int .u8 10, .int .u8 0, .int .u8 0, .int .u8 1, .int .u8 10, .int .u8 0, .int .u8 0, .int .u8 2, .slice Ao 0 co, .slice Ab (8 + nd) cb] rfl _ 27 hp (by rfl) (by kernel_rfl) (by kernel_rfl) ?_
        intro w10 hq gr
        replace hD := hD.away av_hD_p gr
        replace pb := pb.away av_pb_p gr
        replace hd := blk_away hd gr zd d_d_p
        replace zd := Nat.lt_of_lt_of_le zd gr.size
        replace zp := Nat.lt_of_lt_of_le zp gr.size
        replace bel := below_grown bel gr op bel.size
        clear hp
        have hp := hq
        clear hq gr
        refine hK.out _ _ hd (fun hH11 => ?_)
        clear hK K
        refine wpAnyH_take (i := 8) (v := ?_) rfl (by kernel_rfl) (by kernel_rfl) (by kernel_rfl) (fun _ _ _ h => h) (Or.inl ⟨by rfl, ?_⟩) hH11 ?_
        rotate_left
        · ((intro W hW; clear hW; go_simp) <;> with_reducible rfl)
        simp only [Act.put, List.getElem_toArray, List.getElem_cons_zero, List.getElem_cons_succ, List.setIfInBounds_toArray, List.set_cons_zero, List.set_cons_succ]
        refine wpAnyH_done (by kernel_rfl) ?_ _
        go_wp2_with fail
        go_meet
        case rel => exact ⟨g5, Ab, cb, Ao, co, rfl, rfl, hd, zd, hp, zp, op, d_d_p, hD, av_hD_d, av_hD_p, pb, av_pb_d, av_pb_p, bel⟩
      · simp only [List.getElem_toArray, List.getElem_cons_zero, List.getElem_cons_succ]
        rw [if_pos (by rfl)]
        refine wp_new_n 27 rfl (.agg #[.int .i64 0, .int .i64 0, .int .i64 0, .int .i64 0, .int .i64 0, .int .i64 0, .int .u8 0, .int .u8 0, .int .u8 0, .int .u8 0, .int .u8 0, .int .u8 0, .int .u8 0, .int .u8 0, .slice none 0 0, .slice none 0 0]) (by kernel_rfl) #[.int .i64 0, .int .i64 0, .int .i64 0, .int .i64 0, .int .i64 0, .int .i64 0, .int .u8 0, .int .u8 0, .int .u8 0, .int .u8 0, .int .u8 0, .int .u8 0, .int .u8 0, .int .u8 0, .slice none 0 0, .slice none 0 0] rfl ?_
        intro g5 w6 ge lt hh bb
        have d_d_p := ne_new zd ge
        have av_hD_p := hD.av_new ge
        have op := Nat.le_trans bel.size ge
        replace hd := blk_under hd bb zd
        replace zd := Nat.lt_of_lt_of_le zd bb.size
        replace hD := hD.below bb
        replace bel := bel.trans (bb.mono bel.size)
        have hp := hh
        have zp := lt
        clear hh lt ge bb
        refine hK.out _ _ hd (fun hH7 => ?_)
        clear hK K
        refine wpAnyH_ready (rs := [2]) (by kernel_rfl) (by simp) ?_
        refine AllReadyH.cons (o := _) rfl (fun K hK => ?_) AllReadyH.nil
        simp only [List.getElem_toArray, List.getElem_cons_zero, List.getElem_cons_succ]
        go_simp
        with_reducible refine (kput_ok _ _ _ _ _ _ _ hD G1.out G2.out G3.out).mono ?_
        rintro e w8 ⟨Ao, co, Ab, cb, rfl, _, pb, fb, b8⟩
        dsimp only
        have av_pb_d := fb.av zd
        have av_pb_p := fb.av zp
        replace hd := blk_under hd b8 zd
        replace zd := Nat.lt_of_lt_of_le zd b8.size
        replace hp := blk_under hp b8 zp
        replace zp := Nat.lt_of_lt_of_le zp b8.size
        replace hD := hD.below b8
        replace bel := bel.trans (b8.mono bel.size)
        clear b8
        replace pb : Sl w8 (Ab) (8 + nd) (cb) (udBytes 10 0 0 1 10 0 0 2 df dt ld) := pb
        refine hK.out _ _ hd (fun hH9 => ?_)
        clear hK K
        refine wpAnyH_take (i := 3) (v := ?_) rfl (by kernel_rfl) (by kernel_rfl) (by kernel_rfl) (fun _ _ _ h => h) (Or.inl ⟨by rfl, ?_⟩) hH9 ?_
        rotate_left
        · ((intro W hW; clear hW; go_simp) <;> with_reducible rfl)
        simp only [Act.put, List.getElem_toArray, List.getElem_cons_zero, List.getElem_cons_succ, List.setIfInBounds_toArray, List.set_cons_zero, List.set_cons_succ]
        refine wpAnyH_take (i := 4) (v := ?_) rfl (by kernel_rfl) (by kernel_rfl) (by kernel_rfl) (fun _ _ _ h => h) (Or.inl ⟨by rfl, ?_⟩) hH9 ?_
        rotate_left
        · ((intro W hW; clear hW; go_simp) <;> with_reducible rfl)
        simp only [Act.put, List.getElem_toArray, List.getElem_cons_zero, List.getElem_cons_succ, List.setIfInBounds_toArray, List.set_cons_zero, List.set_cons_succ]
        refine wpAnyH_take (i := 5) (v := ?_) rfl (by kernel_rfl) (by kernel_rfl) (by kernel_rfl) (fun _ _ _ h => h) (Or.inl ⟨by rfl, ?_⟩) hH9 ?_
        rotate_left
        · ((intro W hW; clear hW; go_simp) <;> with_reducible rfl)
        simp only [Act.put, List.getElem_toArray, List.getElem_cons_zero, List.getElem_cons_succ, List.setIfInBounds_toArray, List.set_cons_zero, List.set_cons_succ]
        refine wpAnyH_ready (rs := [7]) (by kernel_rfl) (by simp) ?_
        refine AllReadyH.cons (o := _) rfl (fun K hK => ?_) AllReadyH.nil
        simp only [List.getElem_toArray, List.getElem_cons_zero, List.getElem_cons_succ]
        rw [if_pos (by rfl)]
        refine wp_store_blk 27 (.tmp 5) (.tmp 20) rfl g5 rfl #[.int .i64 0, .int .i64 0, .int .i64 0, .int .i64 0, .int .i64 64, .int .i64 17, .int .u8 10, .int .u8 0, .int .u8 0, .int .u8 1, .int .u8 10, .int .u8 0, .int .u8 0, .int .u8 2, .slice Ao 0 co, .slice Ab (8 + nd) cb] rfl _ 27 hp (by rfl) (by kernel_rfl) (by kernel_rfl) ?_
        intro w10 hq gr
        replace hD := hD.away av_hD_p gr
        replace pb := pb.away av_pb_p gr
        replace hd := blk_away hd gr zd d_d_p
        replace zd := Nat.lt_of_lt_of_le zd gr.size
        replace zp := Nat.lt_of_lt_of_le zp gr.size
        replace bel := below_grown bel gr op bel.size
        clear hp
        have hp := hq
        clear hq gr
        refine hK.out _ _ hd (fun hH11 => ?_)
        clear hK K
        refine wpAnyH_take (i := 8) (v := ?_) rfl (by kernel_rfl) (by kernel_rfl) (by kernel_rfl) (fun _ _ _ h => h) (Or.inl ⟨by rfl, ?_⟩) hH11 ?_
        rotate_left
        · ((intro W hW; clear hW; go_simp) <;> with_reducible rfl)
        simp only [Act.put, List.getElem_toArray, List.getElem_cons_zero, List.getElem_cons_succ, List.setIfInBounds_toArray, List.set_cons_zero, List.set_cons_succ]
        refine wpAnyH_done (by kernel_rfl) ?_ _
        go_wp2_with fail
        go_meet
        case rel => exact ⟨g5, Ab, cb, Ao, co, rfl, rfl, hd, zd, hp, zp, op, d_d_p, hD, av_hD_d, av_hD_p, pb, av_pb_d, av_pb_p, bel⟩
    · simp only [List.getElem_toArray, List.getElem_cons_zero, List.getElem_cons_succ]
      rw [if_pos (by rfl)]
      refine wp_new_n 27 rfl (.agg #[.int .i64 0, .int .i64 0, .int .i64 0, .int .i64 0, .int .i64 0, .int .i64 0, .int .u8 0, .int .u8 0, .int .u8 0, .int .u8 0, .int .u8 0, .int .u8 0, .int .u8 0, .int .u8 0, .slice none 0 0, .slice none 0 0]) (by kernel_rfl) #[.int .i64 0, .int .i64 0, .int .i64 0, .int .i64 0, .int .i64 0, .int .i64 0, .int .u8 0, .int .u8 0, .int .u8 0, .int .u8 0, .int .u8 0, .int .u8 0, .int .u8 0, .int .u8 0, .slice none 0 0, .slice none 0 0] rfl ?_
      intro g5 w4 ge lt hh bb
      have d_d_p := ne_new zd ge
      have av_hD_p := hD.av_new ge
      have op := Nat.le_trans bel.size ge
      replace hd := blk_under hd bb zd
      replace zd := Nat.lt_of_lt_of_le zd bb.size
      replace hD := hD.below bb
      replace bel := bel.trans (bb.mono bel.size)
      have hp := hh
      have zp := lt
      clear hh lt ge bb
      refine hK.out _ _ hd (fun hH5 => ?_)
      clear hK K
      refine wpAnyH_ready (rs := [0]) (by kernel_rfl) (by simp) ?_
      refine AllReadyH.cons (o := _) rfl (fun K hK => ?_) AllReadyH.nil
      simp only [List.getElem_toArray, List.getElem_cons_zero]
      go_simp
      with_reducible refine (base7 _).mono ?_
      rintro e w6 ⟨rfl, b6⟩
      dsimp only
      replace hd := blk_under hd b6 zd
      replace zd := Nat.lt_of_lt_of_le zd b6.size
      replace hp := blk_under hp b6 zp
      replace zp := Nat.lt_of_lt_of_le zp b6.size
      replace hD := hD.below b6
      replace bel := bel.trans (b6.mono bel.size)
      clear b6
      refine hK.out _ _ hd (fun hH7 => ?_)
      clear hK K
      refine wpAnyH_ready (rs := [2]) (by kernel_rfl) (by simp) ?_
      refine AllReadyH.cons (o := _) rfl (fun K hK => ?_) AllReadyH.nil
      simp only [List.getElem_toArray, List.getElem_cons_zero, List.getElem_cons_succ]
      go_simp
      with_reducible refine (kput_ok _ _ _ _ _ _ _ hD G1.out G2.out G3.out).mono ?_
      rintro e w8 ⟨Ao, co, Ab, cb, rfl, _, pb, fb, b8⟩
      dsimp only
      have av_pb_d := fb.av zd
      have av_pb_p := fb.av zp
      replace hd := blk_under hd b8 zd
      replace zd := Nat.lt_of_lt_of_le zd b8.size
      replace hp := blk_under hp b8 zp
      replace zp := Nat.lt_of_lt_of_le zp b8.size
      replace hD := hD.below b8
      replace bel := bel.trans (b8.mono bel.size)
      clear b8
      replace pb : Sl w8 (Ab) (8 + nd) (cb) (udBytes 10 0 0 1 10 0 0 2 df dt ld) := pb
      refine hK.out _ _ hd (fun hH9 => ?_)
      clear hK K
      refine wpAnyH_take (i := 3) (v := ?_) rfl (by kernel_rfl) (by kernel_rfl) (by kernel_rfl) (fun _ _ _ h => h) (Or.inl ⟨by rfl, ?_⟩) hH9 ?_
      rotate_left
      · ((intro W hW; clear hW; go_simp) <;> with_reducible rfl)
      simp only [Act.put, List.getElem_toArray, List.getElem_cons_zero, List.getElem_cons_succ, List.setIfInBounds_toArray, List.set_cons_zero, List.set_cons_succ]
      refine wpAnyH_take (i := 4) (v := ?_) rfl (by kernel_rfl) (by kernel_rfl) (by kernel_rfl) (fun _ _ _ h => h) (Or.inl ⟨by rfl, ?_⟩) hH9 ?_
      rotate_left
      · ((intro W hW; clear hW; go_simp) <;> with_reducible rfl)
      simp only [Act.put, List.getElem_toArray, List.getElem_cons_zero, List.getElem_cons_succ, List.setIfInBounds_toArray, List.set_cons_zero, List.set_cons_succ]
      refine wpAnyH_take (i := 5) (v := ?_) rfl (by kernel_rfl) (by kernel_rfl) (by kernel_rfl) (fun _ _ _ h => h) (Or.inl ⟨by rfl, ?_⟩) hH9 ?_
      rotate_left
      · ((intro W hW; clear hW; go_simp) <;> with_reducible rfl)
      simp only [Act.put, List.getElem_toArray, List.getElem_cons_zero, List.getElem_cons_succ, List.setIfInBounds_toArray, List.set_cons_zero, List.set_cons_succ]
      refine wpAnyH_ready (rs := [7]) (by kernel_rfl) (by simp) ?_
      refine AllReadyH.cons (o := _) rfl (fun K hK => ?_) AllReadyH.nil
      simp only [List.getElem_toArray, List.getElem_cons_zero, List.getElem_cons_succ]
      rw [if_pos (by rfl)]
      refine wp_store_blk 27 (.tmp 5) (.tmp 20) rfl g5 rfl #[.int .i64 0, .int .i64 0, .int .i64 0, .int .i64 0, .int .i64 64, .int .i64 17, .int .u8 10, .int .u8 0, .int .u8 0, .int .u8 1, .int .u8 10, .int .u8 0, .int .u8 0, .int .u8 2, .slice Ao 0 co, .slice Ab (8 + nd) cb] rfl _ 27 hp (by rfl) (by kernel_rfl) (by kernel_rfl) ?_
      intro w10 hq gr
      replace hD := hD.away av_hD_p gr
      replace pb := pb.away av_pb_p gr
      replace hd := blk_away hd gr zd d_d_p
      replace zd := Nat.lt_of_lt_of_le zd gr.size
      replace zp := Nat.lt_of_lt_of_le zp gr.size
      replace bel := below_grown bel gr op bel.size
      clear hp
      have hp := hq
      clear hq gr
      refine hK.out _ _ hd (fun hH11 => ?_)
      clear hK K
      refine wpAnyH_take (i := 8) (v := ?_) rfl (by kernel_rfl) (by kernel_rfl) (by kernel_rfl) (fun _ _ _ h => h) (Or.inl ⟨by rfl, ?_⟩) hH11 ?_
      rotate_left
      · ((intro W hW; clear hW; go_simp) <;> with_reducible rfl)
      simp only [Act.put, List.getElem_toArray, List.getElem_cons_zero, List.getElem_cons_succ, List.setIfInBounds_toArray, List.set_cons_zero, List.set_cons_succ]
      refine wpAnyH_done (by kernel_rfl) ?_ _
      go_wp2_with fail
      go_meet
      case rel => exact ⟨g5, Ab, cb, Ao, co, rfl, rfl, hd, zd, hp, zp, op, d_d_p, hD, av_hD_d, av_hD_p, pb, av_pb_d, av_pb_p, bel⟩
  obtain ⟨w12, hw_⟩ : ∃ x, x = wc := ⟨_, rfl⟩
  subst hw_
  obtain ⟨g5, Ab, cb, Ao, co, rfl, rfl, hd, zd, hp, zp, op, d_d_p, hD, av_hD_d, av_hD_p, pb, av_pb_d, av_pb_p, bel⟩ := hcut
  have R31 := cell_lit hp 15 _ rfl
  go_wp2_with fail
  clear R31
  go_ret
  exact ⟨rfl, bel⟩
set_option linter.unusedVariables false in
set_option maxRecDepth 100000 in
set_option maxHeartbeats 16000000 in
theorem udpSpoilt_5 (df dt : Int) (D : Option Addr) (nd cd : Nat) (ld : List UInt8) (bit : Nat) (w : World) (hD : Sl w D nd cd ld) (h3 : nd ≤ 600) (g1 : portOk df = true) (g2 : portOk dt = true) (g3 : nd ≤ 1472) (hb : bit < 8 * (8 + nd)) (h4 : bit / 8 = 4) : Calls Try.prog 6 #[.agg #[.int .i64 df, .int .i64 dt, .slice D nd cd], .int .i64 (bit : Int)] w fun e w' => e = .returned (.bool true) ∧ Below w.heap.size w w' := by
  obtain ⟨ii, hii, hz0, hz1, hz2⟩ := info_parts Try.info5
  have t1 : decide ((600 : Int) < nd) = false := decide_eq_false (by omega)
  have H3 := Lib.hid h3
  clear h3
  have G1 := Lib.hid g1
  have G2 := Lib.hid g2
  have G3 := Lib.hid g3
  clear g1 g2 g3
  have ew : IntKind.i64.wrap (8 * (8 + (nd : Int))) = 8 * (8 + (nd : Int)) := by rw [IntKind.wrap_i64]; have := H3.out; omega
  have t2 : decide ((bit : Int) < 0) = false := decide_eq_false (by omega)
  have t3 : decide (8 * (8 + (nd : Int)) ≤ bit) = false := decide_eq_false (by omega)
  have c0 : (0 : Int) ≤ bit := by omega
  have c1 : (bit : Int) < 100000 := by have := H3.out; omega
  have HK := Lib.hid hb
  clear hb
  have t4 : ((bit : Int) / 8 == 4) = true := by simp; omega
  clear h4
  have bel := Below.refl w.heap.size w
  go_enter Try.func6, Try.ntmps6
  go_wp2_with (first | ((with_reducible show wpList _ _ _ (⟨some 2, _, _, _, _, _⟩ :: _) _ _); refine wpList_box_n rfl 33 (.tmp 0) rfl #[.int .i64 df, .int .i64 dt, .slice D nd cd] rfl ?_; intro g2 w1 ge lt hh bb; have av_hD_d := hD.av_new ge; have od := Nat.le_trans bel.size ge; replace hD := hD.below bb; replace bel := bel.trans (bb.mono bel.size); have hd := hh; have zd := lt; clear hh lt ge bb))
  with_reducible refine (awake7 _).mono ?_
  rintro e w2 ⟨rfl, b2⟩
  replace hd := blk_under hd b2 zd
  replace zd := Nat.lt_of_lt_of_le zd b2.size
  replace hD := hD.below b2
  replace bel := bel.trans (b2.mono bel.size)
  clear b2
  have R13 := cell_lit hd 2 _ rfl
  go_wp2_with fail
  clear R13
  go_cut [5, 6] from 9999 (fun s5 s6 W => ∃ g5 : Nat, ∃ Ab : Option Addr, ∃ cb : Nat, ∃ Ao : Option Addr, ∃ co : Nat, s5 = .pointer (some ⟨g5, 0, none⟩) ∧ s6 = .int .i64 0 ∧ W.heap[g2]? = some (.cells #[.int .i64 df, .int .i64 dt, .slice D nd cd] 33 (0, 0)) ∧ g2 < W.heap.size ∧ W.heap[g5]? = some (.cells #[.int .i64 0, .int .i64 0, .int .i64 0, .int .i64 0, .int .i64 64, .int .i64 17, .int .u8 10, .int .u8 0, .int .u8 0, .int .u8 1, .int .u8 10, .int .u8 0, .int .u8 0, .int .u8 2, .slice Ao 0 co, .slice Ab (8 + nd) cb] 27 (0, 0)) ∧ g5 < W.heap.size ∧ w.heap.size ≤ g5 ∧ Hid (g2 ≠ g5) ∧ Sl W (D) (nd) (cd) (ld) ∧ Av (D) (nd) g2 ∧ Av (D) (nd) g5 ∧ Sl W (Ab) (8 + nd) (cb) (udBytes 10 0 0 1 10 0 0 2 df dt ld) ∧ Av (Ab) (8 + nd) g2 ∧ Av (Ab) (8 + nd) g5 ∧ Below w.heap.size w W)
  case first =>
    replace bel := bel.drew
    replace hd : w2.drew.heap[g2]? = _ := hd
    replace zd : _ < w2.drew.heap.size := zd
    replace hD := hD.drew
    refine wp_region_held_drew (S := fun W => W.heap[g2]? = some (.cells #[.int .i64 df, .int .i64 dt, .slice D nd cd] 33 (0, 0))) (by kernel_rfl) hd (fun hH => ?_)
    generalize w2.drew = w3 at bel hd zd hD hH ⊢
    refine wpAnyH_take (i := 1) (v := .agg #[.int .i64 df, .int .i64 dt, .slice D nd cd]) rfl (by kernel_rfl) (by kernel_rfl) (by kernel_rfl) (fun _ _ _ h => h) (yieldsIf_load_part (by kernel_rfl) 33 _ rfl g2 0 3 rfl [.int .i64 df, .int .i64 dt, .slice D nd cd] 33 (0, 0) (fun W hW => hW) [.int .i64 df, .int .i64 dt, .slice D nd cd] rfl _ Try.underlying33 rfl (by kernel_rfl)) hH ?_
    simp only [Act.put, List.getElem_toArray, List.getElem_cons_zero, List.getElem_cons_succ, List.setIfInBounds_toArray, List.set_cons_zero, List.set_cons_succ]
    refine wpAnyH_ready (rs := [0, 6]) (by kernel_rfl) (by simp) ?_
    refine AllReadyH.cons (o := _) rfl (fun K hK => ?_) (AllReadyH.cons (o := _) rfl (fun K hK => ?_) AllReadyH.nil)
    · simp only [List.getElem_toArray, List.getElem_cons_zero]
      go_simp
      with_reducible refine (base7 _).mono ?_
      rintro e w4 ⟨rfl, b4⟩
      dsimp only
      replace hd := blk_under hd b4 zd
      replace zd := Nat.lt_of_lt_of_le zd b4.size
      replace hD := hD.below b4
      replace bel := bel.trans (b4.mono bel.size)
      clear b4
      refine hK.out _ _ hd (fun hH5 => ?_)
      clear hK K
      refine wpAnyH_ready (rs := [2, 6]) (by kernel_rfl) (by simp) ?_
      refine AllReadyH.cons (o := _) rfl (fun K hK => ?_) (AllReadyH.cons (o := _) rfl (fun K hK => ?_) AllReadyH.nil)
      · simp only [List.getElem_toArray, List.getElem_cons_zero, List.getElem_cons_succ]
        go_simp
        with_reducible refine (kput_ok _ _ _ _ _ _ _ hD G1.out G2.out G3.out).mono ?_
        rintro e w6 ⟨Ao, co, Ab, cb, rfl, _, pb, fb, b6⟩
        dsimp only
        have av_pb_d := fb.av zd
        replace hd := blk_under hd b6 zd
        replace zd := Nat.lt_of_lt_of_le zd b6.size
        replace hD := hD.below b6
        replace bel := bel.trans (b6.mono bel.size)
        clear b6
        replace pb : Sl w6 (Ab) (8 + nd) (cb) (udBytes 10 0 0 1 10 0 0 2 df dt ld) := pb
        refine hK.out _ _ hd (fun hH7 => ?_)
        clear hK K
        refine wpAnyH_take (i := 3) (v := ?_) rfl (by kernel_rfl) (by kernel_rfl) (by kernel_rfl) (fun _ _ _ h => h) (Or.inl ⟨by rfl, ?_⟩) hH7 ?_
        rotate_left
        · ((intro W hW; clear hW; go_simp) <;> with_reducible rfl)
        simp only [Act.put, List.getElem_toArray, List.getElem_cons_zero, List.getElem_cons_succ, List.setIfInBounds_toArray, List.set_cons_zero, List.set_cons_succ]
        refine wpAnyH_take (i := 4) (v := ?_) rfl (by kernel_rfl) (by kernel_rfl) (by kernel_rfl) (fun _ _ _ h => h) (Or.inl ⟨by rfl, ?_⟩) hH7 ?_
        rotate_left
        · ((intro W hW; clear hW; go_simp) <;> with_reducible rfl)
        simp only [Act.put, List.getElem_toArray, List.getElem_cons_zero, List.getElem_cons_succ, List.setIfInBounds_toArray, List.set_cons_zero, List.set_cons_succ]
        refine wpAnyH_take (i := 5) (v := ?_) rfl (by kernel_rfl) (by kernel_rfl) (by kernel_rfl) (fun _ _ _ h => h) (Or.inl ⟨by rfl, ?_⟩) hH7 ?_
        rotate_left
        · ((intro W hW; clear hW; go_simp) <;> with_reducible rfl)
        simp only [Act.put, List.getElem_toArray, List.getElem_cons_zero, List.getElem_cons_succ, List.setIfInBounds_toArray, List.set_cons_zero, List.set_cons_succ]
        refine wpAnyH_ready (rs := [6]) (by kernel_rfl) (by simp) ?_
        refine AllReadyH.cons (o := _) rfl (fun K hK => ?_) AllReadyH.nil
        simp only [List.getElem_toArray, List.getElem_cons_zero, List.getElem_cons_succ]
        rw [if_pos (by rfl)]
        refine wp_new_n 27 rfl (.agg #[.int .i64 0, .int .i64 0, .int .i64 0, .int .i64 0, .int .i64 0, .int .i64 0, .int .u8 0, .int .u8 0, .int .u8 0, .int .u8 0, .int .u8 0, .int .u8 0, .int .u8 0, .int .u8 0, .slice none 0 0, .slice none 0 0]) (by kernel_rfl) #[.int .i64 0, .int .i64 0, .int .i64 0, .int .i64 0, .int .i64 0, .int .i64 0, .int .u8 0, .int .u8 0, .int .u8 0, .int .u8 0, .int .u8 0, .int .u8 0, .int .u8 0, .int .u8 0, .slice none 0 0, .slice none 0 0] rfl ?_
        intro g5 w8 ge lt hh bb
        have d_d_p := ne_new zd ge
        have av_hD_p := hD.av_new ge
        have av_pb_p := pb.av_new ge
        have op := Nat.le_trans bel.size ge
        replace hd := blk_under hd bb zd
        replace zd := Nat.lt_of_lt_of_le zd bb.size
        replace hD := hD.below bb
        replace pb := pb.below bb
        replace bel := bel.trans (bb.mono bel.size)
        have hp := hh
        have zp := lt
        clear hh lt ge bb
        refine hK.out _ _ hd (fun hH9 => ?_)
        clear hK K
        refine wpAnyH_ready (rs := [7]) (by kernel_rfl) (by simp) ?_
        refine AllReadyH.cons (o := _) rfl (fun K hK => ?_) AllReadyH.nil
        simp only [List.getElem_toArray, List.getElem_cons_zero, List.getElem_cons_succ]
        rw [if_pos (by rfl)]
        refine wp_store_blk 27 (.tmp 5) (.tmp 20) rfl g5 rfl #[.int .i64 0, .int .i64 0, .int .i64 0, .int .i64 0, .int .i64 64, .int .i64 17, .int .u8 10, .int .u8 0, .int .u8 0, .int .u8 1, .int .u8 10, .int .u8 0, .int .u8 0, .int .u8 2, .slice Ao 0 co, .slice Ab (8 + nd) cb] rfl _ 27 hp (by rfl) (by kernel_rfl) (by kernel_rfl) ?_
        intro w10 hq gr
        replace hD := hD.away av_hD_p gr
        replace pb := pb.away av_pb_p gr
        replace hd := blk_away hd gr zd d_d_p
        replace zd := Nat.lt_of_lt_of_le zd gr.size
        replace zp := Nat.lt_of_lt_of_le zp gr.size
        replace bel := below_grown bel gr op bel.size
        clear hp
        have hp := hq
        clear hq gr
        refine hK.out _ _ hd (fun hH11 => ?_)
        clear hK K
        refine wpAnyH_take (i := 8) (v := ?_) rfl (by kernel_rfl) (by kernel_rfl) (by kernel_rfl) (fun _ _ _ h => h) (Or.inl ⟨by rfl, ?_⟩) hH11 ?_
        rotate_left
        · ((intro W hW; clear hW; go_simp) <;> with_reducible rfl)
        simp only [Act.put, List.getElem_toArray, List.getElem_cons_zero, List.getElem_cons_succ, List.setIfInBounds_toArray, List.set_cons_zero, List.set_cons_succ]
        refine wpAnyH_done (by kernel_rfl) ?_ _
        go_wp2_with fail
        go_meet
        case rel => exact ⟨g5, Ab, cb, Ao, co, rfl, rfl, hd, zd, hp, zp, op, d_d_p, hD, av_hD_d, av_hD_p, pb, av_pb_d, av_pb_p, bel⟩
      · simp only [List.getElem_toArray, List.getElem_cons_zero, List.getElem_cons_succ]
        rw [if_pos (by rfl)]
        refine wp_new_n 27 rfl (.agg #[.int .i64 0, .int .i64 0, .int .i64 0, .int .i64 0, .int .i64 0, .int .i64 0, .int .u8 0, .int .u8 0, .int .u8 0, .int .u8 0, .int .u8 0, .int .u8 0, .int .u8 0, .int .u8 0, .slice none 0 0, .slice none 0 0]) (by kernel_rfl) #[.int .i64 0, .int .i64 0, .int .i64 0, .int .i64 0, .int .i64 0, .int .i64 0, .int .u8 0, .int .u8 0, .int .u8 0, .int .u8 0, .int .u8 0, .int .u8 0, .int .u8 0, .int .u8 0, .slice none 0 0, .slice none 0 0] rfl ?_
        intro g5 w6 ge lt hh bb
        have d_d_p := ne_new zd ge
        have av_hD_p := hD.av_new ge
        have op := Nat.le_trans bel.size ge
        replace hd := blk_under hd bb zd
        replace zd := Nat.lt_of_lt_of_le zd bb.size
        replace hD := hD.below bb
        replace bel := bel.trans (bb.mono bel.size)
        have hp := hh
        have zp := lt
        clear hh lt ge bb
        refine hK.out _ _ hd (fun hH7 => ?_)
        clear hK K
        refine wpAnyH_ready (rs := [2]) (by kernel_rfl) (by simp) ?_
        refine AllReadyH.cons (o := _) rfl (fun K hK => ?_) AllReadyH.nil
        simp only [List.getElem_toArray, List.getElem_cons_zero, List.getElem_cons_succ]
        go_simp
        with_reducible refine (kput_ok _ _ _ _ _ _ _ hD G1.out G2.out G3.out).mono ?_
        rintro e w8 ⟨Ao, co, Ab, cb, rfl, _, pb, fb, b8⟩
        dsimp only
        have av_pb_d := fb.av zd
        have av_pb_p := fb.av zp
        replace hd := blk_under hd b8 zd
        replace zd := Nat.lt_of_lt_of_le zd b8.size
        replace hp := blk_under hp b8 zp
        replace zp := Nat.lt_of_lt_of_le zp b8.size
        replace hD := hD.below b8
        replace bel := bel.trans (b8.mono bel.size)
        clear b8
        replace pb : Sl w8 (Ab) (8 + nd) (cb) (udBytes 10 0 0 1 10 0 0 2 df dt ld) := pb
        refine hK.out _ _ hd (fun hH9 => ?_)
        clear hK K
        refine wpAnyH_take (i := 3) (v := ?_) rfl (by kernel_rfl) (by kernel_rfl) (by kernel_rfl) (fun _ _ _ h => h) (Or.inl ⟨by rfl, ?_⟩) hH9 ?_
        rotate_left
        · ((intro W hW; clear hW; go_simp) <;> with_reducible rfl)
        simp only [Act.put, List.getElem_toArray, List.getElem_cons_zero, List.getElem_cons_succ, List.setIfInBounds_toArray, List.set_cons_zero, List.set_cons_succ]
        refine wpAnyH_take (i := 4) (v := ?_) rfl (by kernel_rfl) (by kernel_rfl) (by kernel_rfl) (fun _ _ _ h => h) (Or.inl ⟨by rfl, ?_⟩) hH9 ?_
        rotate_left
        · ((intro W hW; clear hW; go_simp) <;> with_reducible rfl)
        simp only [Act.put, List.getElem_toArray, List.getElem_cons_zero, List.getElem_cons_succ, List.setIfInBounds_toArray, List.set_cons_zero, List.set_cons_succ]
        refine wpAnyH_take (i := 5) (v := ?_) rfl (by kernel_rfl) (by kernel_rfl) (by kernel_rfl) (fun _ _ _ h => h) (Or.inl ⟨by rfl, ?_⟩) hH9 ?_
        rotate_left
        · ((intro W hW; clear hW; go_simp) <;> with_reducible rfl)
        simp only [Act.put, List.getElem_toArray, List.getElem_cons_zero, List.getElem_cons_succ, List.setIfInBounds_toArray, List.set_cons_zero, List.set_cons_succ]
        refine wpAnyH_ready (rs := [7]) (by kernel_rfl) (by simp) ?_
        refine AllReadyH.cons (o := _) rfl (fun K hK => ?_) AllReadyH.nil
        simp only [List.getElem_toArray, List.getElem_cons_zero, List.getElem_cons_succ]
        rw [if_pos (by rfl)]
        refine wp_store_blk 27 (.tmp 5) (.tmp 20) rfl g5 rfl #[.int .i64 0, .int .i64 0, .int .i64 0, .int .i64 0, .int .i64 64, .int .i64 17, .int .u8 10, .int .u8 0, .int .u8 0, .int .u8 1, .int .u8 10, .int .u8 0, .int .u8 0, .int .u8 2, .slice Ao 0 co, .slice Ab (8 + nd) cb] rfl _ 27 hp (by rfl) (by kernel_rfl) (by kernel_rfl) ?_
        intro w10 hq gr
        replace hD := hD.away av_hD_p gr
        replace pb := pb.away av_pb_p gr
        replace hd := blk_away hd gr zd d_d_p
        replace zd := Nat.lt_of_lt_of_le zd gr.size
        replace zp := Nat.lt_of_lt_of_le zp gr.size
        replace bel := below_grown bel gr op bel.size
        clear hp
        have hp := hq
        clear hq gr
        refine hK.out _ _ hd (fun hH11 => ?_)
        clear hK K
        refine wpAnyH_take (i := 8) (v := ?_) rfl (by kernel_rfl) (by kernel_rfl) (by kernel_rfl) (fun _ _ _ h => h) (Or.inl ⟨by rfl, ?_⟩) hH11 ?_
        rotate_left
        · ((intro W hW; clear hW; go_simp) <;> with_reducible rfl)
        simp only [Act.put, List.getElem_toArray, List.getElem_cons_zero, List.getElem_cons_succ, List.setIfInBounds_toArray, List.set_cons_zero, List.set_cons_succ]
        refine wpAnyH_done (by kernel_rfl) ?_ _
        go_wp2_with fail
        go_meet
        case rel => exact ⟨g5, Ab, cb, Ao, co, rfl, rfl, hd, zd, hp, zp, op, d_d_p, hD, av_hD_d, av_hD_p, pb, av_pb_d, av_pb_p, bel⟩
    · simp only [List.getElem_toArray, List.getElem_cons_zero, List.getElem_cons_succ]
      rw [if_pos (by rfl)]
      refine wp_new_n 27 rfl (.agg #[.int .i64 0, .int .i64 0, .int .i64 0, .int .i64 0, .int .i64 0, .int .i64 0, .int .u8 0, .int .u8 0, .int .u8 0, .int .u8 0, .int .u8 0, .int .u8 0, .int .u8 0, .int .u8 0, .slice none 0 0, .slice none 0 0]) (by kernel_rfl) #[.int .i64 0, .int .i64 0, .int .i64 0, .int .i64 0, .int .i64 0, .int .i64 0, .int .u8 0, .int .u8 0, .int .u8 0, .int .u8 0, .int .u8 0, .int .u8 0, .int .u8 0, .int .u8 0, .slice none 0 0, .slice none 0 0] rfl ?_
      intro g5 w4 ge lt hh bb
      have d_d_p := ne_new zd ge
      have av_hD_p := hD.av_new ge
      have op := Nat.le_trans bel.size ge
      replace hd := blk_under hd bb zd
      replace zd := Nat.lt_of_lt_of_le zd bb.size
      replace hD := hD.below bb
      replace bel := bel.trans (bb.mono bel.size)
      have hp := hh
      have zp := lt
      clear hh lt ge bb
      refine hK.out _ _ hd (fun hH5 => ?_)
      clear hK K
      refine wpAnyH_ready (rs := [0]) (by kernel_rfl) (by simp) ?_
      refine AllReadyH.cons (o := _) rfl (fun K hK => ?_) AllReadyH.nil
      simp only [List.getElem_toArray, List.getElem_cons_zero]
      go_simp
      with_reducible refine (base7 _).mono ?_
      rintro e w6 ⟨rfl, b6⟩
      dsimp only
      replace hd := blk_under hd b6 zd
      replace zd := Nat.lt_of_lt_of_le zd b6.size
      replace hp := blk_under hp b6 zp
      replace zp := Nat.lt_of_lt_of_le zp b6.size
      replace hD := hD.below b6
      replace bel := bel.trans (b6.mono bel.size)
      clear b6
      refine hK.out _ _ hd (fun hH7 => ?_)
      clear hK K
      refine wpAnyH_ready (rs := [2]) (by kernel_rfl) (by simp) ?_
      refine AllReadyH.cons (o := _) rfl (fun K hK => ?_) AllReadyH.nil
      simp only [List.getElem_toArray, List.getElem_cons_zero, List.getElem_cons_succ]
      go_simp
      with_reducible refine (kput_ok _ _ _ _ _ _ _ hD G1.out G2.out G3.out).mono ?_
      rintro e w8 ⟨Ao, co, Ab, cb, rfl, _, pb, fb, b8⟩
      dsimp only
      have av_pb_d := fb.av zd
      have av_pb_p := fb.av zp
      replace hd := blk_under hd b8 zd
      replace zd := Nat.lt_of_lt_of_le zd b8.size
      replace hp := blk_under hp b8 zp
      replace zp := Nat.lt_of_lt_of_le zp b8.size
      replace hD := hD.below b8
      replace bel := bel.trans (b8.mono bel.size)
      clear b8
      replace pb : Sl w8 (Ab) (8 + nd) (cb) (udBytes 10 0 0 1 10 0 0 2 df dt ld) := pb
      refine hK.out _ _ hd (fun hH9 => ?_)
      clear hK K
      refine wpAnyH_take (i := 3) (v := ?_) rfl (by kernel_rfl) (by kernel_rfl) (by kernel_rfl) (fun _ _ _ h => h) (Or.inl ⟨by rfl, ?_⟩) hH9 ?_
      rotate_left
      · ((intro W hW; clear hW; go_simp) <;> with_reducible rfl)
      simp only [Act.put, List.getElem_toArray, List.getElem_cons_zero, List.getElem_cons_succ, List.setIfInBounds_toArray, List.set_cons_zero, List.set_cons_succ]
      refine wpAnyH_take (i := 4) (v := ?_) rfl (by kernel_rfl) (by kernel_rfl) (by kernel_rfl) (fun _ _ _ h => h) (Or.inl ⟨by rfl, ?_⟩) hH9 ?_
      rotate_left
      · ((intro W hW; clear hW; go_simp) <;> with_reducible rfl)
      simp only [Act.put, List.getElem_toArray, List.getElem_cons_zero, List.getElem_cons_succ, List.setIfInBounds_toArray, List.set_cons_zero, List.set_cons_succ]
      refine wpAnyH_take (i := 5) (v := ?_) rfl (by kernel_rfl) (by kernel_rfl) (by kernel_rfl) (fun _ _ _ h => h) (Or.inl ⟨by rfl, ?_⟩) hH9 ?_
      rotate_left
      · ((intro W hW; clear hW; go_simp) <;> with_reducible rfl)
      simp only [Act.put, List.getElem_toArray, List.getElem_cons_zero, List.getElem_cons_succ, List.setIfInBounds_toArray, List.set_cons_zero, List.set_cons_succ]
      refine wpAnyH_ready (rs := [7]) (by kernel_rfl) (by simp) ?_
      refine AllReadyH.cons (o := _) rfl (fun K hK => ?_) AllReadyH.nil
      simp only [List.getElem_toArray, List.getElem_cons_zero, List.getElem_cons_succ]
      rw [if_pos (by rfl)]
      refine wp_store_blk 27 (.tmp 5) (.tmp 20) rfl g5 rfl #[.int .i64 0, .int .i64 0, .int .i64 0, .int .i64 0, .int .i64 64, .int .i64 17, .int .u8 10, .int .u8 0, .int .u8 0, .int .u8 1, .int .u8 10, .int .u8 0, .int .u8 0, .int .u8 2, .slice Ao 0 co, .slice Ab (8 + nd) cb] rfl _ 27 hp (by rfl) (by kernel_rfl) (by kernel_rfl) ?_
      intro w10 hq gr
      replace hD := hD.away av_hD_p gr
      replace pb := pb.away av_pb_p gr
      replace hd := blk_away hd gr zd d_d_p
      replace zd := Nat.lt_of_lt_of_le zd gr.size
      replace zp := Nat.lt_of_lt_of_le zp gr.size
      replace bel := below_grown bel gr op bel.size
      clear hp
      have hp := hq
      clear hq gr
      refine hK.out _ _ hd (fun hH11 => ?_)
      clear hK K
      refine wpAnyH_take (i := 8) (v := ?_) rfl (by kernel_rfl) (by kernel_rfl) (by kernel_rfl) (fun _ _ _ h => h) (Or.inl ⟨by rfl, ?_⟩) hH11 ?_
      rotate_left
      · ((intro W hW; clear hW; go_simp) <;> with_reducible rfl)
      simp only [Act.put, List.getElem_toArray, List.getElem_cons_zero, List.getElem_cons_succ, List.setIfInBounds_toArray, List.set_cons_zero, List.set_cons_succ]
      refine wpAnyH_done (by kernel_rfl) ?_ _
      go_wp2_with fail
      go_meet
      case rel => exact ⟨g5, Ab, cb, Ao, co, rfl, rfl, hd, zd, hp, zp, op, d_d_p, hD, av_hD_d, av_hD_p, pb, av_pb_d, av_pb_p, bel⟩
  obtain ⟨w12, hw_⟩ : ∃ x, x = wc := ⟨_, rfl⟩
  subst hw_
  obtain ⟨g5, Ab, cb, Ao, co, rfl, rfl, hd, zd, hp, zp, op, d_d_p, hD, av_hD_d, av_hD_p, pb, av_pb_d, av_pb_p, bel⟩ := hcut
  have R31 := cell_lit hp 15 _ rfl
  go_wp2_with fail
  clear R31
  go_ret
  exact ⟨rfl, bel⟩
set_option linter.unusedVariables false in
set_option maxRecDepth 100000 in
set_option maxHeartbeats 16000000 in
theorem udpSpoilt_6 (df dt : Int) (D : Option Addr) (nd cd : Nat) (ld : List UInt8) (bit : Nat) (w : World) (hD : Sl w D nd cd ld) (h3 : nd ≤ 600) (g1 : portOk df = true) (g2 : portOk dt = true) (g3 : nd ≤ 1472) (hb : bit < 8 * (8 + nd)) (h4 : bit / 8 = 5) : Calls Try.prog 6 #[.agg #[.int .i64 df, .int .i64 dt, .slice D nd cd], .int .i64 (bit : Int)] w fun e w' => e = .returned (.bool true) ∧ Below w.heap.size w w' := by
  obtain ⟨ii, hii, hz0, hz1, hz2⟩ := info_parts Try.info5
  have t1 : decide ((600 : Int) < nd) = false := decide_eq_false (by omega)
  have H3 := Lib.hid h3
  clear h3
  have G1 := Lib.hid g1
  have G2 := Lib.hid g2
  have G3 := Lib.hid g3
  clear g1 g2 g3
  have ew : IntKind.i64.wrap (8 * (8 + (nd : Int))) = 8 * (8 + (nd : Int)) := by rw [IntKind.wrap_i64]; have := H3.out; omega
  have t2 : decide ((bit : Int) < 0) = false := decide_eq_false (by omega)
  have t3 : decide (8 * (8 + (nd : Int)) ≤ bit) = false := decide_eq_false (by omega)
  have c0 : (0 : Int) ≤ bit := by omega
  have c1 : (bit : Int) < 100000 := by have := H3.out; omega
  have HK := Lib.hid hb
  clear hb
  have t4 : ((bit : Int) / 8 == 4) = false := by simp; omega
  have t5 : ((bit : Int) / 8 == 5) = true := by simp; omega
  clear h4
  have bel := Below.refl w.heap.size w
  go_enter Try.func6, Try.ntmps6
  go_wp2_with (first | ((with_reducible show wpList _ _ _ (⟨some 2, _, _, _, _, _⟩ :: _) _ _); refine wpList_box_n rfl 33 (.tmp 0) rfl #[.int .i64 df, .int .i64 dt, .slice D nd cd] rfl ?_; intro g2 w1 ge lt hh bb; have av_hD_d := hD.av_new ge; have od := Nat.le_trans bel.size ge; replace hD := hD.below bb; replace bel := bel.trans (bb.mono bel.size); have hd := hh; have zd := lt; clear hh lt ge bb))
  with_reducible refine (awake7 _).mono ?_
  rintro e w2 ⟨rfl, b2⟩
  replace hd := blk_under hd b2 zd
  replace zd := Nat.lt_of_lt_of_le zd b2.size
  replace hD := hD.below b2
  replace bel := bel.trans (b2.mono bel.size)
  clear b2
  have R13 := cell_lit hd 2 _ rfl
  go_wp2_with fail
  clear R13
  go_cut [5, 6] from 9999 (fun s5 s6 W => ∃ g5 : Nat, ∃ Ab : Option Addr, ∃ cb : Nat, ∃ Ao : Option Addr, ∃ co : Nat, s5 = .pointer (some ⟨g5, 0, none⟩) ∧ s6 = .int .i64 0 ∧ W.heap[g2]? = some (.cells #[.int .i64 df, .int .i64 dt, .slice D nd cd] 33 (0, 0)) ∧ g2 < W.heap.size ∧ W.heap[g5]? = some (.cells #[.int .i64 0, .int .i64 0, .int .i64 0, .int .i64 0, .int .i64 64, .int .i64 17, .int .u8 10, .int .u8 0, .int .u8 0, .int .u8 1, .int .u8 10, .int .u8 0, .int .u8 0, .int .u8 2, .slice Ao 0 co, .slice Ab (8 + nd) cb] 27 (0, 0)) ∧ g5 < W.heap.size ∧ w.heap.size ≤ g5 ∧ Hid (g2 ≠ g5) ∧ Sl W (D) (nd) (cd) (ld) ∧ Av (D) (nd) g2 ∧ Av (D) (nd) g5 ∧ Sl W (Ab) (8 + nd) (cb) (udBytes 10 0 0 1 10 0 0 2 df dt ld) ∧ Av (Ab) (8 + nd) g2 ∧ Av (Ab) (8 + nd) g5 ∧ Below w.heap.size w W)
  case first =>
    replace bel := bel.drew
    replace hd : w2.drew.heap[g2]? = _ := hd
    replace zd : _ < w2.drew.heap.size := zd
    replace hD := hD.drew
    refine wp_region_held_drew (S := fun W => W.heap[g2]? = some (.cells #[.int .i64 df, .int .i64 dt, .slice D nd cd] 33 (0, 0))) (by kernel_rfl) hd (fun hH => ?_)
    generalize w2.drew = w3 at bel hd zd hD hH ⊢
    refine wpAnyH_take (i := 1) (v := .agg #[.int .i64 df, .int .i64 dt, .slice D nd cd]) rfl (by kernel_rfl) (by kernel_rfl) (by kernel_rfl) (fun _ _ _ h => h) (yieldsIf_load_part (by kernel_rfl) 33 _ rfl g2 0 3 rfl [.int .i64 df, .int .i64 dt, .slice D nd cd] 33 (0, 0) (fun W hW => hW) [.int .i64 df, .int .i64 dt, .slice D nd cd] rfl _ Try.underlying33 rfl (by kernel_rfl)) hH ?_
    simp only [Act.put, List.getElem_toArray, List.getElem_cons_zero, List.getElem_cons_succ, List.setIfInBounds_toArray, List.set_cons_zero, List.set_cons_succ]
    refine wpAnyH_ready (rs := [0, 6]) (by kernel_rfl) (by simp) ?_
    refine AllReadyH.cons (o := _) rfl (fun K hK => ?_) (AllReadyH.cons (o := _) rfl (fun K hK => ?_) AllReadyH.nil)
    · simp only [List.getElem_toArray, List.getElem_cons_zero]
      go_simp
      with_reducible refine (base7 _).mono ?_
      rintro e w4 ⟨rfl, b4⟩
      dsimp only
      replace hd := blk_under hd b4 zd
      replace zd := Nat.lt_of_lt_of_le zd b4.size
      replace hD := hD.below b4
      replace bel := bel.trans (b4.mono bel.size)
      clear b4
      refine hK.out _ _ hd (fun hH5 => ?_)
      clear hK K
      refine wpAnyH_ready (rs := [2, 6]) (by kernel_rfl) (by simp) ?_
      refine AllReadyH.cons (o := _) rfl (fun K hK => ?_) (AllReadyH.cons (o := _) rfl (fun K hK => ?_) AllReadyH.nil)
      · simp only [List.getElem_toArray, List.getElem_cons_zero, List.getElem_cons_succ]
        go_simp
        with_reducible refine (kput_ok _ _ _ _ _ _ _ hD G1.out G2.out G3.out).mono ?_
        rintro e w6 ⟨Ao, co, Ab, cb, rfl, _, pb, fb, b6⟩
        dsimp only
        have av_pb_d := fb.av zd
        replace hd := blk_under hd b6 zd
        replace zd := Nat.lt_of_lt_of_le zd b6.size
        replace hD := hD.below b6
        replace bel := bel.trans (b6.mono bel.size)
        clear b6
        replace pb : Sl w6 (Ab) (8 + nd) (cb) (udBytes 10 0 0 1 10 0 0 2 df dt ld) := pb
        refine hK.out _ _ hd (fun hH7 => ?_)
        clear hK K
        refine wpAnyH_take (i := 3) (v := ?_) rfl (by kernel_rfl) (by kernel_rfl) (by kernel_rfl) (fun _ _ _ h => h) (Or.inl ⟨by rfl, ?_⟩) hH7 ?_
        rotate_left
        · ((intro W hW; clear hW; go_simp) <;> with_reducible rfl)
        simp only [Act.put, List.getElem_toArray, List.getElem_cons_zero, List.getElem_cons_succ, List.setIfInBounds_toArray, List.set_cons_zero, List.set_cons_succ]
        refine wpAnyH_take (i := 4) (v := ?_) rfl (by kernel_rfl) (by kernel_rfl) (by kernel_rfl) (fun _ _ _ h => h) (Or.inl ⟨by rfl, ?_⟩) hH7 ?_
        rotate_left
        · ((intro W hW; clear hW; go_simp) <;> with_reducible rfl)
        simp only [Act.put, List.getElem_toArray, List.getElem_cons_zero, List.getElem_cons_succ, List.setIfInBounds_toArray, List.set_cons_zero, List.set_cons_succ]
        refine wpAnyH_take (i := 5) (v := ?_) rfl (by kernel_rfl) (by kernel_rfl) (by kernel_rfl) (fun _ _ _ h => h) (Or.inl ⟨by rfl, ?_⟩) hH7 ?_
        rotate_left
        · ((intro W hW; clear hW; go_simp) <;> with_reducible rfl)
        simp only [Act.put, List.getElem_toArray, List.getElem_cons_zero, List.getElem_cons_succ, List.setIfInBounds_toArray, List.set_cons_zero, List.set_cons_succ]
        refine wpAnyH_ready (rs := [6]) (by kernel_rfl) (by simp) ?_
        refine AllReadyH.cons (o := _) rfl (fun K hK => ?_) AllReadyH.nil
        simp only [List.getElem_toArray, List.getElem_cons_zero, List.getElem_cons_succ]
        rw [if_pos (by rfl)]
        refine wp_new_n 27 rfl (.agg #[.int .i64 0, .int .i64 0, .int .i64 0, .int .i64 0, .int .i64 0, .int .i64 0, .int .u8 0, .int .u8 0, .int .u8 0, .int .u8 0, .int .u8 0, .int .u8 0, .int .u8 0, .int .u8 0, .slice none 0 0, .slice none 0 0]) (by kernel_rfl) #[.int .i64 0, .int .i64 0, .int .i64 0, .int .i64 0, .int .i64 0, .int .i64 0, .int .u8 0, .int .u8 0, .int .u8 0, .int .u8 0, .int .u8 0, .int .u8 0, .int .u8 0, .int .u8 0, .slice none 0 0, .slice none 0 0] rfl ?_
        intro g5 w8 ge lt hh bb
        have d_d_p := ne_new zd ge
        have av_hD_p := hD.av_new ge
        have av_pb_p := pb.av_new ge
        have op := Nat.le_trans bel.size ge
        replace hd := blk_under hd bb zd
        replace zd := Nat.lt_of_lt_of_le zd bb.size
        replace hD := hD.below bb
        replace pb := pb.below bb
        replace bel := bel.trans (bb.mono bel.size)
        have hp := hh
        have zp := lt
        clear hh lt ge bb
        refine hK.out _ _ hd (fun hH9 => ?_)
        clear hK K
        refine wpAnyH_ready (rs := [7]) (by kernel_rfl) (by simp) ?_
        refine AllReadyH.cons (o := _) rfl (fun K hK => ?_) AllReadyH.nil
        simp only [List.getElem_toArray, List.getElem_cons_zero, List.getElem_cons_succ]
        rw [if_pos (by rfl)]
        refine wp_store_blk 27 (.tmp 5) (.tmp 20) rfl g5 rfl #[.int .i64 0, .int .i64 0, .int .i64 0, .int .i64 0, .int .i64 64, .int .i64 17, .int .u8 10, .int .u8 0, .int .u8 0, .int .u8 1, .int .u8 10, .int .u8 0, .int .u8 0, .int .u8 2, .slice Ao 0 co, .slice Ab (8 + nd) cb] rfl _ 27 hp (by rfl) (by kernel_rfl) (by kernel_rfl) ?_
        intro w10 hq gr
        replace hD := hD.away av_hD_p gr
        replace pb := pb.away av_pb_p gr
        replace hd := blk_away hd gr zd d_d_p
        replace zd := Nat.lt_of_lt_of_le zd gr.size
        replace zp := Nat.lt_of_lt_of_le zp gr.size
        replace bel := below_grown bel gr op bel.size
        clear hp
        have hp := hq
        clear hq gr
        refine hK.out _ _ hd (fun hH11 => ?_)
        clear hK K
        refine wpAnyH_take (i := 8) (v := ?_) rfl (by kernel_rfl) (by kernel_rfl) (by kernel_rfl) (fun _ _ _ h => h) (Or.inl ⟨by rfl, ?_⟩) hH11 ?_
        rotate_left
        · ((intro W hW; clear hW; go_simp) <;> with_reducible rfl)
        simp only [Act.put, List.getElem_toArray, List.getElem_cons_zero, List.getElem_cons_succ, List.setIfInBounds_toArray, List.set_cons_zero, List.set_cons_succ]
        refine wpAnyH_done (by kernel_rfl) ?_ _
        go_wp2_with fail
        go_meet
        case rel => exact ⟨g5, Ab, cb, Ao, co, rfl, rfl, hd, zd, hp, zp, op, d_d_p, hD, av_hD_d, av_hD_p, pb, av_pb_d, av_pb_p, bel⟩
      · simp only [List.getElem_toArray, List.getElem_cons_zero, List.getElem_cons_succ]
        rw [if_pos (by rfl)]
        refine wp_new_n 27 rfl (.agg #[.int .i64 0, .int .i64 0, .int .i64 0, .int .i64 0, .int .i64 0, .int .i64 0, .int .u8 0, .int .u8 0, .int .u8 0, .int .u8 0, .int .u8 0, .int .u8 0, .int .u8 0, .int .u8 0, .slice none 0 0, .slice none 0 0]) (by kernel_rfl) #[.int .i64 0, .int .i64 0, .int .i64 0, .int .i64 0, .int .i64 0, .int .i64 0, .int .u8 0, .int .u8 0, .int .u8 0, .int .u8 0, .int .u8 0, .int .u8 0, .int .u8 0, .int .u8 0, .slice none 0 0, .slice none 0 0] rfl ?_
        intro g5 w6 ge lt hh bb
        have d_d_p := ne_new zd ge
        have av_hD_p := hD.av_new ge
        have op := Nat.le_trans bel.size ge
        replace hd := blk_under hd bb zd
        replace zd := Nat.lt_of_lt_of_le zd bb.size
        replace hD := hD.below bb
        replace bel := bel.trans (bb.mono bel.size)
        have hp := hh
        have zp := lt
        clear hh lt ge bb
        refine hK.out _ _ hd (fun hH7 => ?_)
        clear hK K
        refine wpAnyH_ready (rs := [2]) (by kernel_rfl) (by simp) ?_
        refine AllReadyH.cons (o := _) rfl (fun K hK => ?_) AllReadyH.nil
        simp only [List.getElem_toArray, List.getElem_cons_zero, List.getElem_cons_succ]
        go_simp
        with_reducible refine (kput_ok _ _ _ _ _ _ _ hD G1.out G2.out G3.out).mono ?_
        rintro e w8 ⟨Ao, co, Ab, cb, rfl, _, pb, fb, b8⟩
        dsimp only
        have av_pb_d := fb.av zd
        have av_pb_p := fb.av zp
        replace hd := blk_under hd b8 zd
        replace zd := Nat.lt_of_lt_of_le zd b8.size
        replace hp := blk_under hp b8 zp
        replace zp := Nat.lt_of_lt_of_le zp b8.size
        replace hD := hD.below b8
        replace bel := bel.trans (b8.mono bel.size)
        clear b8
        replace pb : Sl w8 (Ab) (8 + nd) (cb) (udBytes 10 0 0 1 10 0 0 2 df dt ld) := pb
        refine hK.out _ _ hd (fun hH9 => ?_)
        clear hK K
        refine wpAnyH_take (i := 3) (v := ?_) rfl (by kernel_rfl) (by kernel_rfl) (by kernel_rfl) (fun _ _ _ h => h) (Or.inl ⟨by rfl, ?_⟩) hH9 ?_
        rotate_left
        · ((intro W hW; clear hW; go_simp) <;> with_reducible rfl)
        simp only [Act.put, List.getElem_toArray, List.getElem_cons_zero, List.getElem_cons_succ, List.setIfInBounds_toArray, List.set_cons_zero, List.set_cons_succ]
        refine wpAnyH_take (i := 4) (v := ?_) rfl (by kernel_rfl) (by kernel_rfl) (by kernel_rfl) (fun _ _ _ h => h) (Or.inl ⟨by rfl, ?_⟩) hH9 ?_
        rotate_left
        · ((intro W hW; clear hW; go_simp) <;> with_reducible rfl)
        simp only [Act.put, List.getElem_toArray, List.getElem_cons_zero, List.getElem_cons_succ, List.setIfInBounds_toArray, List.set_cons_zero, List.set_cons_succ]
        refine wpAnyH_take (i := 5) (v := ?_) rfl (by kernel_rfl) (by kernel_rfl) (by kernel_rfl) (fun _ _ _ h => h) (Or.inl ⟨by rfl, ?_⟩) hH9 ?_
        rotate_left
        · ((intro W hW; clear hW; go_simp) <;> with_reducible rfl)
        simp only [Act.put, List.getElem_toArray, List.getElem_cons_zero, List.getElem_cons_succ, List.setIfInBounds_toArray, List.set_cons_zero, List.set_cons_succ]
        refine wpAnyH_ready (rs := [7]) (by kernel_rfl) (by simp) ?_
        refine AllReadyH.cons (o := _) rfl (fun K hK => ?_) AllReadyH.nil
        simp only [List.getElem_toArray, List.getElem_cons_zero, List.getElem_cons_succ]
        rw [if_pos (by rfl)]
        refine wp_store_blk 27 (.tmp 5) (.tmp 20) rfl g5 rfl #[.int .i64 0, .int .i64 0, .int .i64 0, .int .i64 0, .int .i64 64, .int .i64 17, .int .u8 10, .int .u8 0, .int .u8 0, .int .u8 1, .int .u8 10, .int .u8 0, .int .u8 0, .int .u8 2, .slice Ao 0 co, .slice Ab (8 + nd) cb] rfl _ 27 hp (by rfl) (by kernel_rfl) (by kernel_rfl) ?_
        intro w10 hq gr
        replace hD := hD.away av_hD_p gr
        replace pb := pb.away av_pb_p gr
        replace hd := blk_away hd gr zd d_d_p
        replace zd := Nat.lt_of_lt_of_le zd gr.size
        replace zp := Nat.lt_of_lt_of_le zp gr.size
        replace bel := below_grown bel gr op bel.size
        clear hp
        have hp := hq
        clear hq gr
        refine hK.out _ _ hd (fun hH11 => ?_)
        clear hK K
        refine wpAnyH_take (i := 8) (v := ?_) rfl (by kernel_rfl) (by kernel_rfl) (by kernel_rfl) (fun _ _ _ h => h) (Or.inl ⟨by rfl, ?_⟩) hH11 ?_
        rotate_left
        · ((intro W hW; clear hW; go_simp) <;> with_reducible rfl)
        simp only [Act.put, List.getElem_toArray, List.getElem_cons_zero, List.getElem_cons_succ, List.setIfInBounds_toArray, List.set_cons_zero, List.set_cons_succ]
        refine wpAnyH_done (by kernel_rfl) ?_ _
        go_wp2_with fail
        go_meet
        case rel => exact ⟨g5, Ab, cb, Ao, co, rfl, rfl, hd, zd, hp, zp, op, d_d_p, hD, av_hD_d, av_hD_p, pb, av_pb_d, av_pb_p, bel⟩
    · simp only [List.getElem_toArray, List.getElem_cons_zero, List.getElem_cons_succ]
      rw [if_pos (by rfl)]
      refine wp_new_n 27 rfl (.agg #[.int .i64 0, .int .i64 0, .int .i64 0, .int .i64 0, .int .i64 0, .int .i64 0, .int .u8 0, .int .u8 0, .int .u8 0, .int .u8 0, .int .u8 0, .int .u8 0, .int .u8 0, .int .u8 0, .slice none 0 0, .slice none 0 0]) (by kernel_rfl) #[.int .i64 0, .int .i64 0, .int .i64 0, .int .i64 0, .int .i64 0, .int .i64 0, .int .u8 0, .int .u8 0, .int .u8 0, .int .u8 0, .int .u8 0, .int .u8 0, .int .u8 0, .int .u8 0, .slice none 0 0, .slice none 0 0] rfl ?_
      intro g5 w4 ge lt hh bb
      have d_d_p := ne_new zd ge
      have av_hD_p := hD.av_new ge
      have op := Nat.le_trans bel.size ge
      replace hd := blk_under hd bb zd
      replace zd := Nat.lt_of_lt_of_le zd bb.size
      replace hD := hD.below bb
      replace bel := bel.trans (bb.mono bel.size)
      have hp := hh
      have zp := lt
      clear hh lt ge bb
      refine hK.out _ _ hd (fun hH5 => ?_)
      clear hK K
      refine wpAnyH_ready (rs := [0]) (by kernel_rfl) (by simp) ?_
      refine AllReadyH.cons (o := _) rfl (fun K hK => ?_) AllReadyH.nil
      simp only [List.getElem_toArray, List.getElem_cons_zero]
      go_simp
      with_reducible refine (base7 _).mono ?_
      rintro e w6 ⟨rfl, b6⟩
      dsimp only
      replace hd := blk_under hd b6 zd
      replace zd := Nat.lt_of_lt_of_le zd b6.size
      replace hp := blk_under hp b6 zp
      replace zp := Nat.lt_of_lt_of_le zp b6.size
      replace hD := hD.below b6
      replace bel := bel.trans (b6.mono bel.size)
      clear b6
      refine hK.out _ _ hd (fun hH7 => ?_)
      clear hK K
      refine wpAnyH_ready (rs := [2]) (by kernel_rfl) (by simp) ?_
      refine AllReadyH.cons (o := _) rfl (fun K hK => ?_) AllReadyH.nil
      simp only [List.getElem_toArray, List.getElem_cons_zero, List.getElem_cons_succ]
      go_simp
      with_reducible refine (kput_ok _ _ _ _ _ _ _ hD G1.out G2.out G3.out).mono ?_
      rintro e w8 ⟨Ao, co, Ab, cb, rfl, _, pb, fb, b8⟩
      dsimp only
      have av_pb_d := fb.av zd
      have av_pb_p := fb.av zp
      replace hd := blk_under hd b8 zd
      replace zd := Nat.lt_of_lt_of_le zd b8.size
      replace hp := blk_under hp b8 zp
      replace zp := Nat.lt_of_lt_of_le zp b8.size
      replace hD := hD.below b8
      replace bel := bel.trans (b8.mono bel.size)
      clear b8
      replace pb : Sl w8 (Ab) (8 + nd) (cb) (udBytes 10 0 0 1 10 0 0 2 df dt ld) := pb
      refine hK.out _ _ hd (fun hH9 => ?_)
      clear hK K
      refine wpAnyH_take (i := 3) (v := ?_) rfl (by kernel_rfl) (by kernel_rfl) (by kernel_rfl) (fun _ _ _ h => h) (Or.inl ⟨by rfl, ?_⟩) hH9 ?_
      rotate_left
      · ((intro W hW; clear hW; go_simp) <;> with_reducible rfl)
      simp only [Act.put, List.getElem_toArray, List.getElem_cons_zero, List.getElem_cons_succ, List.setIfInBounds_toArray, List.set_cons_zero, List.set_cons_succ]
      refine wpAnyH_take (i := 4) (v := ?_) rfl (by kernel_rfl) (by kernel_rfl) (by kernel_rfl) (fun _ _ _ h => h) (Or.inl ⟨by rfl, ?_⟩) hH9 ?_
      rotate_left
      · ((intro W hW; clear hW; go_simp) <;> with_reducible rfl)
      simp only [Act.put, List.getElem_toArray, List.getElem_cons_zero, List.getElem_cons_succ, List.setIfInBounds_toArray, List.set_cons_zero, List.set_cons_succ]
      refine wpAnyH_take (i := 5) (v := ?_) rfl (by kernel_rfl) (by kernel_rfl) (by kernel_rfl) (fun _ _ _ h => h) (Or.inl ⟨by rfl, ?_⟩) hH9 ?_
      rotate_left
      · ((intro W hW; clear hW; go_simp) <;> with_reducible rfl)
      simp only [Act.put, List.getElem_toArray, List.getElem_cons_zero, List.getElem_cons_succ, List.setIfInBounds_toArray, List.set_cons_zero, List.set_cons_succ]
      refine wpAnyH_ready (rs := [7]) (by kernel_rfl) (by simp) ?_
      refine AllReadyH.cons (o := _) rfl (fun K hK => ?_) AllReadyH.nil
      simp only [List.getElem_toArray, List.getElem_cons_zero, List.getElem_cons_succ]
      rw [if_pos (by rfl)]
      refine wp_store_blk 27 (.tmp 5) (.tmp 20) rfl g5 rfl #[.int .i64 0, .int .i64 0, .int .i64 0, .int .i64 0, .int .i64 64, .int .i64 17, .int .u8 10, .int .u8 0, .int .u8 0, .int .u8 1, .int .u8 10, .int .u8 0, .int .u8 0, .int .u8 2, .slice Ao 0 co, .slice Ab (8 + nd) cb] rfl _ 27 hp (by rfl) (by kernel_rfl) (by kernel_rfl) ?_
      intro w10 hq gr
      replace hD := hD.away av_hD_p gr
      replace pb := pb.away av_pb_p gr
      replace hd := blk_away hd gr zd d_d_p
      replace zd := Nat.lt_of_lt_of_le zd gr.size
      replace zp := Nat.lt_of_lt_of_le zp gr.size
      replace bel := below_grown bel gr op bel.size
      clear hp
      have hp := hq
      clear hq gr
      refine hK.out _ _ hd (fun hH11 => ?_)
      clear hK K
      refine wpAnyH_take (i := 8) (v := ?_) rfl (by kernel_rfl) (by kernel_rfl) (by kernel_rfl) (fun _ _ _ h => h) (Or.inl ⟨by rfl, ?_⟩) hH11 ?_
      rotate_left
      · ((intro W hW; clear hW; go_simp) <;> with_reducible rfl)
      simp only [Act.put, List.getElem_toArray, List.getElem_cons_zero, List.getElem_cons_succ, List.setIfInBounds_toArray, List.set_cons_zero, List.set_cons_succ]
      refine wpAnyH_done (by kernel_rfl) ?_ _
      go_wp2_with fail
      go_meet
      case rel => exact ⟨g5, Ab, cb, Ao, co, rfl, rfl, hd, zd, hp, zp, op, d_d_p, hD, av_hD_d, av_hD_p, pb, av_pb_d, av_pb_p, bel⟩
  obtain ⟨w12, hw_⟩ : ∃ x, x = wc := ⟨_, rfl⟩
  subst hw_
  obtain ⟨g5, Ab, cb, Ao, co, rfl, rfl, hd, zd, hp, zp, op, d_d_p, hD, av_hD_d, av_hD_p, pb, av_pb_d, av_pb_p, bel⟩ := hcut
  have R31 := cell_lit hp 15 _ rfl
  go_wp2_with fail
  clear R31
  go_ret
  exact ⟨rfl, bel⟩
set_option linter.unusedVariables false in
set_option maxRecDepth 100000 in
set_option maxHeartbeats 16000000 in
theorem udpSpoilt_7 (df dt : Int) (D : Option Addr) (nd cd : Nat) (ld : List UInt8) (bit : Nat) (w : World) (hD : Sl w D nd cd ld) (h3 : nd ≤ 600) (g1 : portOk df = true) (g2 : portOk dt = true) (g3 : nd ≤ 1472) (hb : bit < 8 * (8 + nd)) (h4 : bit / 8 ≠ 4) (h5 : bit / 8 ≠ 5) (x y : UInt8) (hx : (udBytes 10 0 0 1 10 0 0 2 df dt ld)[bit / 8]? = some x) (hxor : bits .xor .u8 (x.toNat : Int) ((2 : Int) ^ (bit % 8) % 256) = (y.toNat : Int)) (hp : udErr 0 0 17 10 0 0 1 10 0 0 2 ((udBytes 10 0 0 1 10 0 0 2 df dt ld).set (bit / 8) y) = 5) : Calls Try.prog 6 #[.agg #[.int .i64 df, .int .i64 dt, .slice D nd cd], .int .i64 (bit : Int)] w fun e w' => e = .returned (.bool true) ∧ Below w.heap.size w w' := by
  obtain ⟨ii, hii, hz0, hz1, hz2⟩ := info_parts Try.info5
  have t1 : decide ((600 : Int) < nd) = false := decide_eq_false (by omega)
  have H3 := Lib.hid h3
  clear h3
  have G1 := Lib.hid g1
  have G2 := Lib.hid g2
  have G3 := Lib.hid g3
  clear g1 g2 g3
  have ew : IntKind.i64.wrap (8 * (8 + (nd : Int))) = 8 * (8 + (nd : Int)) := by rw [IntKind.wrap_i64]; have := H3.out; omega
  have t2 : decide ((bit : Int) < 0) = false := decide_eq_false (by omega)
  have t3 : decide (8 * (8 + (nd : Int)) ≤ bit) = false := decide_eq_false (by omega)
  have c0 : (0 : Int) ≤ bit := by omega
  have c1 : (bit : Int) < 100000 := by have := H3.out; omega
  have HK := Lib.hid hb
  clear hb
  have t4 : ((bit : Int) / 8 == 4) = false := by simp; omega
  have t5 : ((bit : Int) / 8 == 5) = false := by simp; omega
  have b8 : (bit : Int) / 8 < 8 + (nd : Int) := by have := HK.out; omega
  have b9 : 0 ≤ (bit : Int) / 8 := by omega
  have m6 : (6 : Int) < 8 + (nd : Int) := by omega
  have m7 : (7 : Int) < 8 + (nd : Int) := by omega
  have n1 : (nd : Int) ≤ 600 := by have := H3.out; omega
  have h7 := i64_and7 bit
  have r0 : 0 ≤ (bit : Int) % 8 := by omega
  have r1 : (bit : Int) % 8 < 8 := by omega
  have hx0 : (0 : Int) ≤ x.toNat := by omega
  have hx1 : (x.toNat : Int) < 256 := by have := x.toNat_lt; omega
  have HX := Lib.hid hx
  have HP := Lib.hid hp
  clear hx hp h4 h5
  have bel := Below.refl w.heap.size w
  go_enter Try.func6, Try.ntmps6
  go_wp2_with (first | ((with_reducible show wpList _ _ _ (⟨some 2, _, _, _, _, _⟩ :: _) _ _); refine wpList_box_n rfl 33 (.tmp 0) rfl #[.int .i64 df, .int .i64 dt, .slice D nd cd] rfl ?_; intro g2 w1 ge lt hh bb; have av_hD_d := hD.av_new ge; have od := Nat.le_trans bel.size ge; replace hD := hD.below bb; replace bel := bel.trans (bb.mono bel.size); have hd := hh; have zd := lt; clear hh lt ge bb))
  with_reducible refine (awake7 _).mono ?_
  rintro e w2 ⟨rfl, b2⟩
  replace hd := blk_under hd b2 zd
  replace zd := Nat.lt_of_lt_of_le zd b2.size
  replace hD := hD.below b2
  replace bel := bel.trans (b2.mono bel.size)
  clear b2
  have R13 := cell_lit hd 2 _ rfl
  go_wp2_with fail
  clear R13
  go_cut [5, 6] from 9999 (fun s5 s6 W => ∃ g5 : Nat, ∃ Ab : Option Addr, ∃ cb : Nat, ∃ Ao : Option Addr, ∃ co : Nat, s5 = .pointer (some ⟨g5, 0, none⟩) ∧ s6 = .int .i64 0 ∧ W.heap[g2]? = some (.cells #[.int .i64 df, .int .i64 dt, .slice D nd cd] 33 (0, 0)) ∧ g2 < W.heap.size ∧ W.heap[g5]? = some (.cells #[.int .i64 0, .int .i64 0, .int .i64 0, .int .i64 0, .int .i64 64, .int .i64 17, .int .u8 10, .int .u8 0, .int .u8 0, .int .u8 1, .int .u8 10, .int .u8 0, .int .u8 0, .int .u8 2, .slice Ao 0 co, .slice Ab (8 + nd) cb] 27 (0, 0)) ∧ g5 < W.heap.size ∧ w.heap.size ≤ g5 ∧ Hid (g2 ≠ g5) ∧ Sl W (D) (nd) (cd) (ld) ∧ Av (D) (nd) g2 ∧ Av (D) (nd) g5 ∧ Sl W (Ab) (8 + nd) (cb) (udBytes 10 0 0 1 10 0 0 2 df dt ld) ∧ Av (Ab) (8 + nd) g2 ∧ Av (Ab) (8 + nd) g5 ∧ Below w.heap.size w W)
  case first =>
    replace bel := bel.drew
    replace hd : w2.drew.heap[g2]? = _ := hd
    replace zd : _ < w2.drew.heap.size := zd
    replace hD := hD.drew
    refine wp_region_held_drew (S := fun W => W.heap[g2]? = some (.cells #[.int .i64 df, .int .i64 dt, .slice D nd cd] 33 (0, 0))) (by kernel_rfl) hd (fun hH => ?_)
    generalize w2.drew = w3 at bel hd zd hD hH ⊢
    refine wpAnyH_take (i := 1) (v := .agg #[.int .i64 df, .int .i64 dt, .slice D nd cd]) rfl (by kernel_rfl) (by kernel_rfl) (by kernel_rfl) (fun _ _ _ h => h) (yieldsIf_load_part (by kernel_rfl) 33 _ rfl g2 0 3 rfl [.int .i64 df, .int .i64 dt, .slice D nd cd] 33 (0, 0) (fun W hW => hW) [.int .i64 df, .int .i64 dt, .slice D nd cd] rfl _ Try.underlying33 rfl (by kernel_rfl)) hH ?_
    simp only [Act.put, List.getElem_toArray, List.getElem_cons_zero, List.getElem_cons_succ, List.setIfInBounds_toArray, List.set_cons_zero, List.set_cons_succ]
    refine wpAnyH_ready (rs := [0, 6]) (by kernel_rfl) (by simp) ?_
    refine AllReadyH.cons (o := _) rfl (fun K hK => ?_) (AllReadyH.cons (o := _) rfl (fun K hK => ?_) AllReadyH.nil)
    · simp only [List.getElem_toArray, List.getElem_cons_zero]
      go_simp
      with_reducible refine (base7 _).mono ?_
      rintro e w4 ⟨rfl, b4⟩
      dsimp only
      replace hd := blk_under hd b4 zd
      replace zd := Nat.lt_of_lt_of_le zd b4.size
      replace hD := hD.below b4
      replace bel := bel.trans (b4.mono bel.size)
      clear b4
      refine hK.out _ _ hd (fun hH5 => ?_)
      clear hK K
      refine wpAnyH_ready (rs := [2, 6]) (by kernel_rfl) (by simp) ?_
      refine AllReadyH.cons (o := _) rfl (fun K hK => ?_) (AllReadyH.cons (o := _) rfl (fun K hK => ?_) AllReadyH.nil)
      · simp only [List.getElem_toArray, List.getElem_cons_zero, List.getElem_cons_succ]
        go_simp
        with_reducible refine (kput_ok _ _ _ _ _ _ _ hD G1.out G2.out G3.out).mono ?_
        rintro e w6 ⟨Ao, co, Ab, cb, rfl, _, pb, fb, b6⟩
        dsimp only
        have av_pb_d := fb.av zd
        replace hd := blk_under hd b6 zd
        replace zd := Nat.lt_of_lt_of_le zd b6.size
        replace hD := hD.below b6
        replace bel := bel.trans (b6.mono bel.size)
        clear b6
        replace pb : Sl w6 (Ab) (8 + nd) (cb) (udBytes 10 0 0 1 10 0 0 2 df dt ld) := pb
        refine hK.out _ _ hd (fun hH7 => ?_)
        clear hK K
        refine wpAnyH_take (i := 3) (v := ?_) rfl (by kernel_rfl) (by kernel_rfl) (by kernel_rfl) (fun _ _ _ h => h) (Or.inl ⟨by rfl, ?_⟩) hH7 ?_
        rotate_left
        · ((intro W hW; clear hW; go_simp) <;> with_reducible rfl)
        simp only [Act.put, List.getElem_toArray, List.getElem_cons_zero, List.getElem_cons_succ, List.setIfInBounds_toArray, List.set_cons_zero, List.set_cons_succ]
        refine wpAnyH_take (i := 4) (v := ?_) rfl (by kernel_rfl) (by kernel_rfl) (by kernel_rfl) (fun _ _ _ h => h) (Or.inl ⟨by rfl, ?_⟩) hH7 ?_
        rotate_left
        · ((intro W hW; clear hW; go_simp) <;> with_reducible rfl)
        simp only [Act.put, List.getElem_toArray, List.getElem_cons_zero, List.getElem_cons_succ, List.setIfInBounds_toArray, List.set_cons_zero, List.set_cons_succ]
        refine wpAnyH_take (i := 5) (v := ?_) rfl (by kernel_rfl) (by kernel_rfl) (by kernel_rfl) (fun _ _ _ h => h) (Or.inl ⟨by rfl, ?_⟩) hH7 ?_
        rotate_left
        · ((intro W hW; clear hW; go_simp) <;> with_reducible rfl)
        simp only [Act.put, List.getElem_toArray, List.getElem_cons_zero, List.getElem_cons_succ, List.setIfInBounds_toArray, List.set_cons_zero, List.set_cons_succ]
        refine wpAnyH_ready (rs := [6]) (by kernel_rfl) (by simp) ?_
        refine AllReadyH.cons (o := _) rfl (fun K hK => ?_) AllReadyH.nil
        simp only [List.getElem_toArray, List.getElem_cons_zero, List.getElem_cons_succ]
        rw [if_pos (by rfl)]
        refine wp_new_n 27 rfl (.agg #[.int .i64 0, .int .i64 0, .int .i64 0, .int .i64 0, .int .i64 0, .int .i64 0, .int .u8 0, .int .u8 0, .int .u8 0, .int .u8 0, .int .u8 0, .int .u8 0, .int .u8 0, .int .u8 0, .slice none 0 0, .slice none 0 0]) (by kernel_rfl) #[.int .i64 0, .int .i64 0, .int .i64 0, .int .i64 0, .int .i64 0, .int .i64 0, .int .u8 0, .int .u8 0, .int .u8 0, .int .u8 0, .int .u8 0, .int .u8 0, .int .u8 0, .int .u8 0, .slice none 0 0, .slice none 0 0] rfl ?_
        intro g5 w8 ge lt hh bb
        have d_d_p := ne_new zd ge
        have av_hD_p := hD.av_new ge
        have av_pb_p := pb.av_new ge
        have op := Nat.le_trans bel.size ge
        replace hd := blk_under hd bb zd
        replace zd := Nat.lt_of_lt_of_le zd bb.size
        replace hD := hD.below bb
        replace pb := pb.below bb
        replace bel := bel.trans (bb.mono bel.size)
        have hp := hh
        have zp := lt
        clear hh lt ge bb
        refine hK.out _ _ hd (fun hH9 => ?_)
        clear hK K
        refine wpAnyH_ready (rs := [7]) (by kernel_rfl) (by simp) ?_
        refine AllReadyH.cons (o := _) rfl (fun K hK => ?_) AllReadyH.nil
        simp only [List.getElem_toArray, List.getElem_cons_zero, List.getElem_cons_succ]
        rw [if_pos (by rfl)]
        refine wp_store_blk 27 (.tmp 5) (.tmp 20) rfl g5 rfl #[.int .i64 0, .int .i64 0, .int .i64 0, .int .i64 0, .int .i64 64, .int .i64 17, .int .u8 10, .int .u8 0, .int .u8 0, .int .u8 1, .int .u8 10, .int .u8 0, .int .u8 0, .int .u8 2, .slice Ao 0 co, .slice Ab (8 + nd) cb] rfl _ 27 hp (by rfl) (by kernel_rfl) (by kernel_rfl) ?_
        intro w10 hq gr
        replace hD := hD.away av_hD_p gr
        replace pb := pb.away av_pb_p gr
        replace hd := blk_away hd gr zd d_d_p
        replace zd := Nat.lt_of_lt_of_le zd gr.size
        replace zp := Nat.lt_of_lt_of_le zp gr.size
        replace bel := below_grown bel gr op bel.size
        clear hp
        have hp := hq
        clear hq gr
        refine hK.out _ _ hd (fun hH11 => ?_)
        clear hK K
        refine wpAnyH_take (i := 8) (v := ?_) rfl (by kernel_rfl) (by kernel_rfl) (by kernel_rfl) (fun _ _ _ h => h) (Or.inl ⟨by rfl, ?_⟩) hH11 ?_
        rotate_left
        · ((intro W hW; clear hW; go_simp) <;> with_reducible rfl)
        simp only [Act.put, List.getElem_toArray, List.getElem_cons_zero, List.getElem_cons_succ, List.setIfInBounds_toArray, List.set_cons_zero, List.set_cons_succ]
        refine wpAnyH_done (by kernel_rfl) ?_ _
        go_wp2_with fail
        go_meet
        case rel => exact ⟨g5, Ab, cb, Ao, co, rfl, rfl, hd, zd, hp, zp, op, d_d_p, hD, av_hD_d, av_hD_p, pb, av_pb_d, av_pb_p, bel⟩
      · simp only [List.getElem_toArray, List.getElem_cons_zero, List.getElem_cons_succ]
        rw [if_pos (by rfl)]
        refine wp_new_n 27 rfl (.agg #[.int .i64 0, .int .i64 0, .int .i64 0, .int .i64 0, .int .i64 0, .int .i64 0, .int .u8 0, .int .u8 0, .int .u8 0, .int .u8 0, .int .u8 0, .int .u8 0, .int .u8 0, .int .u8 0, .slice none 0 0, .slice none 0 0]) (by kernel_rfl) #[.int .i64 0, .int .i64 0, .int .i64 0, .int .i64 0, .int .i64 0, .int .i64 0, .int .u8 0, .int .u8 0, .int .u8 0, .int .u8 0, .int .u8 0, .int .u8 0, .int .u8 0, .int .u8 0, .slice none 0 0, .slice none 0 0] rfl ?_
        intro g5 w6 ge lt hh bb
        have d_d_p := ne_new zd ge
        have av_hD_p := hD.av_new ge
        have op := Nat.le_trans bel.size ge
        replace hd := blk_under hd bb zd
        replace zd := Nat.lt_of_lt_of_le zd bb.size
        replace hD := hD.below bb
        replace bel := bel.trans (bb.mono bel.size)
        have hp := hh
        have zp := lt
        clear hh lt ge bb
        refine hK.out _ _ hd (fun hH7 => ?_)
        clear hK K
        refine wpAnyH_ready (rs := [2]) (by kernel_rfl) (by simp) ?_
        refine AllReadyH.cons (o := _) rfl (fun K hK => ?_) AllReadyH.nil
        simp only [List.getElem_toArray, List.getElem_cons_zero, List.getElem_cons_succ]
        go_simp
        with_reducible refine (kput_ok _ _ _ _ _ _ _ hD G1.out G2.out G3.out).mono ?_
        rintro e w8 ⟨Ao, co, Ab, cb, rfl, _, pb, fb, b8⟩
        dsimp only
        have av_pb_d := fb.av zd
        have av_pb_p := fb.av zp
        replace hd := blk_under hd b8 zd
        replace zd := Nat.lt_of_lt_of_le zd b8.size
        replace hp := blk_under hp b8 zp
        replace zp := Nat.lt_of_lt_of_le zp b8.size
        replace hD := hD.below b8
        replace bel := bel.trans (b8.mono bel.size)
        clear b8
        replace pb : Sl w8 (Ab) (8 + nd) (cb) (udBytes 10 0 0 1 10 0 0 2 df dt ld) := pb
        refine hK.out _ _ hd (fun hH9 => ?_)
        clear hK K
        refine wpAnyH_take (i := 3) (v := ?_) rfl (by kernel_rfl) (by kernel_rfl) (by kernel_rfl) (fun _ _ _ h => h) (Or.inl ⟨by rfl, ?_⟩) hH9 ?_
        rotate_left
        · ((intro W hW; clear hW; go_simp) <;> with_reducible rfl)
        simp only [Act.put, List.getElem_toArray, List.getElem_cons_zero, List.getElem_cons_succ, List.setIfInBounds_toArray, List.set_cons_zero, List.set_cons_succ]
        refine wpAnyH_take (i := 4) (v := ?_) rfl (by kernel_rfl) (by kernel_rfl) (by kernel_rfl) (fun _ _ _ h => h) (Or.inl ⟨by rfl, ?_⟩) hH9 ?_
        rotate_left
        · ((intro W hW; clear hW; go_simp) <;> with_reducible rfl)
        simp only [Act.put, List.getElem_toArray, List.getElem_cons_zero, List.getElem_cons_succ, List.setIfInBounds_toArray, List.set_cons_zero, List.set_cons_succ]
        refine wpAnyH_take (i := 5) (v := ?_) rfl (by kernel_rfl) (by kernel_rfl) (by kernel_rfl) (fun _ _ _ h => h) (Or.inl ⟨by rfl, ?_⟩) hH9 ?_
        rotate_left
        · ((intro W hW; clear hW; go_simp) <;> with_reducible rfl)
        simp only [Act.put, List.getElem_toArray, List.getElem_cons_zero, List.getElem_cons_succ, List.setIfInBounds_toArray, List.set_cons_zero, List.set_cons_succ]
        refine wpAnyH_ready (rs := [7]) (by kernel_rfl) (by simp) ?_
        refine AllReadyH.cons (o := _) rfl (fun K hK => ?_) AllReadyH.nil
        simp only [List.getElem_toArray, List.getElem_cons_zero, List.getElem_cons_succ]
        rw [if_pos (by rfl)]
        refine wp_store_blk 27 (.tmp 5) (.tmp 20) rfl g5 rfl #[.int .i64 0, .int .i64 0, .int .i64 0, .int .i64 0, .int .i64 64, .int .i64 17, .int .u8 10, .int .u8 0, .int .u8 0, .int .u8 1, .int .u8 10, .int .u8 0, .int .u8 0, .int .u8 2, .slice Ao 0 co, .slice Ab (8 + nd) cb] rfl _ 27 hp (by rfl) (by kernel_rfl) (by kernel_rfl) ?_
        intro w10 hq gr
        replace hD := hD.away av_hD_p gr
        replace pb := pb.away av_pb_p gr
        replace hd := blk_away hd gr zd d_d_p
        replace zd := Nat.lt_of_lt_of_le zd gr.size
        replace zp := Nat.lt_of_lt_of_le zp gr.size
        replace bel := below_grown bel gr op bel.size
        clear hp
        have hp := hq
        clear hq gr
        refine hK.out _ _ hd (fun hH11 => ?_)
        clear hK K
        refine wpAnyH_take (i := 8) (v := ?_) rfl (by kernel_rfl) (by kernel_rfl) (by kernel_rfl) (fun _ _ _ h => h) (Or.inl ⟨by rfl, ?_⟩) hH11 ?_
        rotate_left
        · ((intro W hW; clear hW; go_simp) <;> with_reducible rfl)
        simp only [Act.put, List.getElem_toArray, List.getElem_cons_zero, List.getElem_cons_succ, List.setIfInBounds_toArray, List.set_cons_zero, List.set_cons_succ]
        refine wpAnyH_done (by kernel_rfl) ?_ _
        go_wp2_with fail
        go_meet
        case rel => exact ⟨g5, Ab, cb, Ao, co, rfl, rfl, hd, zd, hp, zp, op, d_d_p, hD, av_hD_d, av_hD_p, pb, av_pb_d, av_pb_p, bel⟩
    · simp only [List.getElem_toArray, List.getElem_cons_zero, List.getElem_cons_succ]
      rw [if_pos (by rfl)]
      refine wp_new_n 27 rfl (.agg #[.int .i64 0, .int .i64 0, .int .i64 0, .int .i64 0, .int .i64 0, .int .i64 0, .int .u8 0, .int .u8 0, .int .u8 0, .int .u8 0, .int .u8 0, .int .u8 0, .int .u8 0, .int .u8 0, .slice none 0 0, .slice none 0 0]) (by kernel_rfl) #[.int .i64 0, .int .i64 0, .int .i64 0, .int .i64 0, .int .i64 0, .int .i64 0, .int .u8 0, .int .u8 0, .int .u8 0, .int .u8 0, .int .u8 0, .int .u8 0, .int .u8 0, .int .u8 0, .slice none 0 0, .slice none 0 0] rfl ?_
      intro g5 w4 ge lt hh bb
      have d_d_p := ne_new zd ge
      have av_hD_p := hD.av_new ge
      have op := Nat.le_trans bel.size ge
      replace hd := blk_under hd bb zd
      replace zd := Nat.lt_of_lt_of_le zd bb.size
      replace hD := hD.below bb
      replace bel := bel.trans (bb.mono bel.size)
      have hp := hh
      have zp := lt
      clear hh lt ge bb
      refine hK.out _ _ hd (fun hH5 => ?_)
      clear hK K
      refine wpAnyH_ready (rs := [0]) (by kernel_rfl) (by simp) ?_
      refine AllReadyH.cons (o := _) rfl (fun K hK => ?_) AllReadyH.nil
      simp only [List.getElem_toArray, List.getElem_cons_zero]
      go_simp
      with_reducible refine (base7 _).mono ?_
      rintro e w6 ⟨rfl, b6⟩
      dsimp only
      replace hd := blk_under hd b6 zd
      replace zd := Nat.lt_of_lt_of_le zd b6.size
      replace hp := blk_under hp b6 zp
      replace zp := Nat.lt_of_lt_of_le zp b6.size
      replace hD := hD.below b6
      replace bel := bel.trans (b6.mono bel.size)
      clear b6
      refine hK.out _ _ hd (fun hH7 => ?_)
      clear hK K
      refine wpAnyH_ready (rs := [2]) (by kernel_rfl) (by simp) ?_
      refine AllReadyH.cons (o := _) rfl (fun K hK => ?_) AllReadyH.nil
      simp only [List.getElem_toArray, List.getElem_cons_zero, List.getElem_cons_succ]
      go_simp
      with_reducible refine (kput_ok _ _ _ _ _ _ _ hD G1.out G2.out G3.out).mono ?_
      rintro e w8 ⟨Ao, co, Ab, cb, rfl, _, pb, fb, b8⟩
      dsimp only
      have av_pb_d := fb.av zd
      have av_pb_p := fb.av zp
      replace hd := blk_under hd b8 zd
      replace zd := Nat.lt_of_lt_of_le zd b8.size
      replace hp := blk_under hp b8 zp
      replace zp := Nat.lt_of_lt_of_le zp b8.size
      replace hD := hD.below b8
      replace bel := bel.trans (b8.mono bel.size)
      clear b8
      replace pb : Sl w8 (Ab) (8 + nd) (cb) (udBytes 10 0 0 1 10 0 0 2 df dt ld) := pb
      refine hK.out _ _ hd (fun hH9 => ?_)
      clear hK K
      refine wpAnyH_take (i := 3) (v := ?_) rfl (by kernel_rfl) (by kernel_rfl) (by kernel_rfl) (fun _ _ _ h => h) (Or.inl ⟨by rfl, ?_⟩) hH9 ?_
      rotate_left
      · ((intro W hW; clear hW; go_simp) <;> with_reducible rfl)
      simp only [Act.put, List.getElem_toArray, List.getElem_cons_zero, List.getElem_cons_succ, List.setIfInBounds_toArray, List.set_cons_zero, List.set_cons_succ]
      refine wpAnyH_take (i := 4) (v := ?_) rfl (by kernel_rfl) (by kernel_rfl) (by kernel_rfl) (fun _ _ _ h => h) (Or.inl ⟨by rfl, ?_⟩) hH9 ?_
      rotate_left
      · ((intro W hW; clear hW; go_simp) <;> with_reducible rfl)
      simp only [Act.put, List.getElem_toArray, List.getElem_cons_zero, List.getElem_cons_succ, List.setIfInBounds_toArray, List.set_cons_zero, List.set_cons_succ]
      refine wpAnyH_take (i := 5) (v := ?_) rfl (by kernel_rfl) (by kernel_rfl) (by kernel_rfl) (fun _ _ _ h => h) (Or.inl ⟨by rfl, ?_⟩) hH9 ?_
      rotate_left
      · ((intro W hW; clear hW; go_simp) <;> with_reducible rfl)
      simp only [Act.put, List.getElem_toArray, List.getElem_cons_zero, List.getElem_cons_succ, List.setIfInBounds_toArray, List.set_cons_zero, List.set_cons_succ]
      refine wpAnyH_ready (rs := [7]) (by kernel_rfl) (by simp) ?_
      refine AllReadyH.cons (o := _) rfl (fun K hK => ?_) AllReadyH.nil
      simp only [List.getElem_toArray, List.getElem_cons_zero, List.getElem_cons_succ]
      rw [if_pos (by rfl)]
      refine wp_store_blk 27 (.tmp 5) (.tmp 20) rfl g5 rfl #[.int .i64 0, .int .i64 0, .int .i64 0, .int .i64 0, .int .i64 64, .int .i64 17, .int .u8 10, .int .u8 0, .int .u8 0, .int .u8 1, .int .u8 10, .int .u8 0, .int .u8 0, .int .u8 2, .slice Ao 0 co, .slice Ab (8 + nd) cb] rfl _ 27 hp (by rfl) (by kernel_rfl) (by kernel_rfl) ?_
      intro w10 hq gr
      replace hD := hD.away av_hD_p gr
      replace pb := pb.away av_pb_p gr
      replace hd := blk_away hd gr zd d_d_p
      replace zd := Nat.lt_of_lt_of_le zd gr.size
      replace zp := Nat.lt_of_lt_of_le zp gr.size
      replace bel := below_grown bel gr op bel.size
      clear hp
      have hp := hq
      clear hq gr
      refine hK.out _ _ hd (fun hH11 => ?_)
      clear hK K
      refine wpAnyH_take (i := 8) (v := ?_) rfl (by kernel_rfl) (by kernel_rfl) (by kernel_rfl) (fun _ _ _ h => h) (Or.inl ⟨by rfl, ?_⟩) hH11 ?_
      rotate_left
      · ((intro W hW; clear hW; go_simp) <;> with_reducible rfl)
      simp only [Act.put, List.getElem_toArray, List.getElem_cons_zero, List.getElem_cons_succ, List.setIfInBounds_toArray, List.set_cons_zero, List.set_cons_succ]
      refine wpAnyH_done (by kernel_rfl) ?_ _
      go_wp2_with fail
      go_meet
      case rel => exact ⟨g5, Ab, cb, Ao, co, rfl, rfl, hd, zd, hp, zp, op, d_d_p, hD, av_hD_d, av_hD_p, pb, av_pb_d, av_pb_p, bel⟩
  obtain ⟨w12, hw_⟩ : ∃ x, x = wc := ⟨_, rfl⟩
  subst hw_
  obtain ⟨g5, Ab, cb, Ao, co, rfl, rfl, hd, zd, hp, zp, op, d_d_p, hD, av_hD_d, av_hD_p, pb, av_pb_d, av_pb_p, bel⟩ := hcut
  have R31 := cell_lit hp 15 _ rfl
  go_wp2_with (first | ((with_reducible show wpList _ _ _ (⟨some 46, _, _, _, _, _⟩ :: _) _ _); refine wpList_lit_n rfl 25 5 0 _ rfl #[] (.int .u8 0) Try.underlying25 (by kernel_rfl) 1 (by kernel_rfl) (by decide) (by kernel_rfl) ?_; intro g46 w13 ge lt hh bb; have hl : w13.heap[g46]? = some (.cells (([] : List UInt8).map u8v).toArray 5 (0, 0)) := (by simpa [u8v, byteOf_val] using hh); have e0w := own_lit (B := w12.heap.size) ([]) hl ge 0 rfl (by simp [maxLen]); have e0 := (own_sl e0w).1; have e0lo := bel.size; clear hl; have e0ge := ge; have lz_e0 := bb.size; have y_e0_d := Lib.hid zd; have y_e0_p := Lib.hid zp; have bl_hD_e0 := hD.bl_new; have bl_pb_e0 := pb.bl_new; replace hd := blk_under hd bb zd; replace zd := Nat.lt_of_lt_of_le zd bb.size; replace hp := blk_under hp bb zp; replace zp := Nat.lt_of_lt_of_le zp bb.size; replace hD := hD.below bb; replace pb := pb.below bb; replace bel := bel.trans (bb.mono bel.size); clear hh lt ge bb; have av_e0_d := (own_sl e0w).2.av y_e0_d.out; have av_e0_p := (own_sl e0w).2.av y_e0_p.out; have R48 := cell_lit hp 15 _ rfl) | ((with_reducible show wpList _ _ _ (⟨some 49, _, _, _, _, _⟩ :: _) _ _); refine wpList_append_bb _ rfl (.tmp 46) (.tmp 48) 25 rfl (w12.heap.size) 5 ii (.int .u8 0) Try.underlying25 hii hz0 hz1 hz2 rfl _ (0) ([]) rfl e0w (Ab) (8 + nd) (cb) (udBytes 10 0 0 1 10 0 0 2 df dt ld) rfl pb (by have := H3.out; omega) lz_e0 ?_; intro v49 w14 own_ bb; replace hD := hD.under bl_hD_e0 bb; replace pb := pb.under bl_pb_e0 bb; replace hd := blk_under hd bb y_e0_d.out; replace zd := Nat.lt_of_lt_of_le zd bb.size; replace hp := blk_under hp bb y_e0_p.out; replace zp := Nat.lt_of_lt_of_le zp bb.size; replace bel := bel.trans (bb.mono e0lo); have lz_al := Nat.le_trans lz_e0 bb.size; clear bb; clear e0 e0w lz_e0; replace own_ : w14.ownsRow (w12.heap.size) 5 1 v49 (8 + nd) ((udBytes 10 0 0 1 10 0 0 2 df dt ld : List UInt8).map u8v) := (by simpa using own_); obtain ⟨A49, c49, rfl⟩ := own_val own_; have alw := own_; have al := (own_sl own_).1; have fr_al := (own_sl own_).2; clear own_; have av_al_d := fr_al.av y_e0_d.out; have av_al_p := fr_al.av y_e0_p.out; obtain ⟨gb, cg, eg, alge, allt, alnc, alcm⟩ := own_at alw (by omega); injection eg with eg1 _ eg3; subst eg1; subst eg3; have R57 := own_byte alw HX.out) | ((with_reducible show wpList _ _ _ (⟨none, Op.store _ (.tmp 63) _, _, _, _, _⟩ :: _) _ _); refine wpList_store_byte rfl 5 (.tmp 63) (.tmp 62) rfl (w12.heap.size) 5 gb (bit / 8) (8 + nd) (c49) (udBytes 10 0 0 1 10 0 0 2 df dt ld) (y) rfl rfl alw (by have := HK.out; omega) (by kernel_rfl) ?_; intro w15 own_ gr; replace hD := hD.away (bl_hD_e0.av alge) gr; replace pb := pb.away (bl_pb_e0.av alge) gr; replace hd := blk_away hd gr zd (ne_new y_e0_d.out alge); replace zd := Nat.lt_of_lt_of_le zd gr.size; replace hp := blk_away hp gr zp (ne_new y_e0_p.out alge); replace zp := Nat.lt_of_lt_of_le zp gr.size; replace bel := below_grown bel gr (Nat.le_trans e0lo alge) bel.size; replace lz_al := Nat.le_trans lz_al gr.size; clear gr al alw; have alw := own_; have al := (own_sl own_).1; clear own_) | ((with_reducible show wpList _ _ _ (⟨none, Op.store _ (.tmp 65) _, _, _, _, _⟩ :: _) _ _); refine wpList_store_part rfl 25 (.tmp 65) (.tmp 64) rfl g5 15 rfl [.slice (some ⟨gb, 0, none⟩) (8 + nd) c49] rfl [.int .i64 0, .int .i64 0, .int .i64 0, .int .i64 0, .int .i64 64, .int .i64 17, .int .u8 10, .int .u8 0, .int .u8 0, .int .u8 1, .int .u8 10, .int .u8 0, .int .u8 0, .int .u8 2, .slice Ao 0 co, .slice Ab (8 + nd) cb] 27 hp (by simp) [.int .i64 0, .int .i64 0, .int .i64 0, .int .i64 0, .int .i64 64, .int .i64 17, .int .u8 10, .int .u8 0, .int .u8 0, .int .u8 1, .int .u8 10, .int .u8 0, .int .u8 0, .int .u8 2, .slice Ao 0 co, .slice (some ⟨gb, 0, none⟩) (8 + nd) c49] rfl (by kernel_rfl) (by rfl) ?_; intro w16 hq gr; replace hD := hD.away av_hD_p gr; replace pb := pb.away av_pb_p gr; replace al := al.away av_al_p gr; replace alw := own_away alw y_e0_p.out gr; replace lz_al := Nat.le_trans lz_al gr.size; replace hd := blk_away hd gr zd d_d_p; replace zd := Nat.lt_of_lt_of_le zd gr.size; replace zp := Nat.lt_of_lt_of_le zp gr.size; replace bel := below_grown bel gr op bel.size; clear hp; have hp := hq; clear hq gr; have R67 := Lib.hid (range_lit hp 0 16 [.int .i64 0, .int .i64 0, .int .i64 0, .int .i64 0, .int .i64 64, .int .i64 17, .int .u8 10, .int .u8 0, .int .u8 0, .int .u8 1, .int .u8 10, .int .u8 0, .int .u8 0, .int .u8 2, .slice Ao 0 co, .slice (some ⟨gb, 0, none⟩) (8 + nd) c49] rfl)) | ((with_reducible show wpList _ _ _ (⟨some 67, _, _, _, _, _⟩ :: _) _ _); refine wpList_load_rng 27 (.tmp 5) rfl (by kernel_rfl) _ _ rfl _ R67.out _ Try.underlying27 rfl (by kernel_rfl) ?_))
  try clear R31
  try clear R48
  try clear R57
  try clear R67
  with_reducible refine (kget_er _ _ _ _ _ _ _ _ _ 5 _ al (by have := H3.out; omega) HP.out).mono ?_
  rintro e w17 ⟨x1, y1, A1, k1, cz, rfl, b17⟩
  replace hd := blk_under hd b17 zd
  replace zd := Nat.lt_of_lt_of_le zd b17.size
  replace hp := blk_under hp b17 zp
  replace zp := Nat.lt_of_lt_of_le zp b17.size
  replace hD := hD.below b17
  replace pb := pb.below b17
  replace al := al.below b17
  replace alw := own_under alw b17
  replace lz_al := Nat.le_trans lz_al b17.size
  replace bel := bel.trans (b17.mono bel.size)
  clear b17
  clear b8 b9 c0 c1 h7 r0 r1 hx0 hx1 t2 t3 t4 t5 ew n1
  go_wp2_with (first | ((with_reducible show wpList _ _ _ (⟨some 8, _, _, _, _, _⟩ :: _) _ _); refine wpList_new_n rfl 33 rfl (.agg #[.int .i64 0, .int .i64 0, .slice none 0 0]) (by kernel_rfl) #[.int .i64 0, .int .i64 0, .slice none 0 0] rfl ?_; intro g8 w18 ge lt hh bb; have d_d_x := ne_new zd ge; have d_p_x := ne_new zp ge; have av_hD_x := hD.av_new ge; have av_pb_x := pb.av_new ge; have av_al_x := al.av_new ge; have of_al_x := own_new alw ge; have ox := Nat.le_trans bel.size ge; replace hd := blk_under hd bb zd; replace zd := Nat.lt_of_lt_of_le zd bb.size; replace hp := blk_under hp bb zp; replace zp := Nat.lt_of_lt_of_le zp bb.size; replace hD := hD.below bb; replace pb := pb.below bb; replace al := al.below bb; replace alw := own_under alw bb; replace lz_al := Nat.le_trans lz_al bb.size; replace bel := bel.trans (bb.mono bel.size); have hx := hh; have zx := lt; clear hh lt ge bb) | ((with_reducible show wpList _ _ _ (⟨none, Op.store _ (.tmp 8) _, _, _, _, _⟩ :: _) _ _); refine wpList_store_blk rfl 33 (.tmp 8) (.tmp 69) rfl g8 rfl #[.int .i64 x1, .int .i64 y1, .slice A1 k1 cz] rfl _ 33 hx (by rfl) (by kernel_rfl) (by kernel_rfl) ?_; intro w19 hq gr; replace hD := hD.away av_hD_x gr; replace pb := pb.away av_pb_x gr; replace al := al.away av_al_x gr; replace alw := own_off alw of_al_x gr; replace lz_al := Nat.le_trans lz_al gr.size; replace hd := blk_away hd gr zd d_d_x; replace hp := blk_away hp gr zp d_p_x; replace zd := Nat.lt_of_lt_of_le zd gr.size; replace zp := Nat.lt_of_lt_of_le zp gr.size; replace zx := Nat.lt_of_lt_of_le zx gr.size; replace bel := below_grown bel gr ox bel.size; clear hx; have hx := hq; clear hq gr))
  go_ret
  exact ⟨rfl, bel⟩
set_option linter.unusedVariables false in
set_option maxRecDepth 100000 in
set_option maxHeartbeats 16000000 in
theorem udpSpoilt_8 (df dt : Int) (D : Option Addr) (nd cd : Nat) (ld : List UInt8) (bit : Nat) (w : World) (hD : Sl w D nd cd ld) (h3 : nd ≤ 600) (g1 : portOk df = true) (g2 : portOk dt = true) (g3 : nd ≤ 1472) (hb : bit < 8 * (8 + nd)) (h4 : bit / 8 ≠ 4) (h5 : bit / 8 ≠ 5) (x y : UInt8) (hx : (udBytes 10 0 0 1 10 0 0 2 df dt ld)[bit / 8]? = some x) (hxor : bits .xor .u8 (x.toNat : Int) ((2 : Int) ^ (bit % 8) % 256) = (y.toNat : Int)) (hp : udErr 0 0 17 10 0 0 1 10 0 0 2 ((udBytes 10 0 0 1 10 0 0 2 df dt ld).set (bit / 8) y) = 0) (h6 : ((udBytes 10 0 0 1 10 0 0 2 df dt ld).set (bit / 8) y)[6]? = some 0) (h8 : ((udBytes 10 0 0 1 10 0 0 2 df dt ld).set (bit / 8) y)[7]? = some 0) : Calls Try.prog 6 #[.agg #[.int .i64 df, .int .i64 dt, .slice D nd cd], .int .i64 (bit : Int)] w fun e w' => e = .returned (.bool true) ∧ Below w.heap.size w w' := by
  obtain ⟨ii, hii, hz0, hz1, hz2⟩ := info_parts Try.info5
  have t1 : decide ((600 : Int) < nd) = false := decide_eq_false (by omega)
  have H3 := Lib.hid h3
  clear h3
  have G1 := Lib.hid g1
  have G2 := Lib.hid g2
  have G3 := Lib.hid g3
  clear g1 g2 g3
  have ew : IntKind.i64.wrap (8 * (8 + (nd : Int))) = 8 * (8 + (nd : Int)) := by rw [IntKind.wrap_i64]; have := H3.out; omega
  have t2 : decide ((bit : Int) < 0) = false := decide_eq_false (by omega)
  have t3 : decide (8 * (8 + (nd : Int)) ≤ bit) = false := decide_eq_false (by omega)
  have c0 : (0 : Int) ≤ bit := by omega
  have c1 : (bit : Int) < 100000 := by have := H3.out; omega
  have HK := Lib.hid hb
  clear hb
  have t4 : ((bit : Int) / 8 == 4) = false := by simp; omega
  have t5 : ((bit : Int) / 8 == 5) = false := by simp; omega
  have b8 : (bit : Int) / 8 < 8 + (nd : Int) := by have := HK.out; omega
  have b9 : 0 ≤ (bit : Int) / 8 := by omega
  have m6 : (6 : Int) < 8 + (nd : Int) := by omega
  have m7 : (7 : Int) < 8 + (nd : Int) := by omega
  have n1 : (nd : Int) ≤ 600 := by have := H3.out; omega
  have h7 := i64_and7 bit
  have r0 : 0 ≤ (bit : Int) % 8 := by omega
  have r1 : (bit : Int) % 8 < 8 := by omega
  have hx0 : (0 : Int) ≤ x.toNat := by omega
  have hx1 : (x.toNat : Int) < 256 := by have := x.toNat_lt; omega
  have HX := Lib.hid hx
  have HP := Lib.hid hp
  clear hx hp h4 h5
  have H6 := Lib.hid h6
  have H7 := Lib.hid h8
  clear h6 h8
  have bel := Below.refl w.heap.size w
  go_enter Try.func6, Try.ntmps6
  go_wp2_with (first | ((with_reducible show wpList _ _ _ (⟨some 2, _, _, _, _, _⟩ :: _) _ _); refine wpList_box_n rfl 33 (.tmp 0) rfl #[.int .i64 df, .int .i64 dt, .slice D nd cd] rfl ?_; intro g2 w1 ge lt hh bb; have av_hD_d := hD.av_new ge; have od := Nat.le_trans bel.size ge; replace hD := hD.below bb; replace bel := bel.trans (bb.mono bel.size); have hd := hh; have zd := lt; clear hh lt ge bb))
  with_reducible refine (awake7 _).mono ?_
  rintro e w2 ⟨rfl, b2⟩
  replace hd := blk_under hd b2 zd
  replace zd := Nat.lt_of_lt_of_le zd b2.size
  replace hD := hD.below b2
  replace bel := bel.trans (b2.mono bel.size)
  clear b2
  have R13 := cell_lit hd 2 _ rfl
  go_wp2_with fail
  clear R13
  go_cut [5, 6] from 9999 (fun s5 s6 W => ∃ g5 : Nat, ∃ Ab : Option Addr, ∃ cb : Nat, ∃ Ao : Option Addr, ∃ co : Nat, s5 = .pointer (some ⟨g5, 0, none⟩) ∧ s6 = .int .i64 0 ∧ W.heap[g2]? = some (.cells #[.int .i64 df, .int .i64 dt, .slice D nd cd] 33 (0, 0)) ∧ g2 < W.heap.size ∧ W.heap[g5]? = some (.cells #[.int .i64 0, .int .i64 0, .int .i64 0, .int .i64 0, .int .i64 64, .int .i64 17, .int .u8 10, .int .u8 0, .int .u8 0, .int .u8 1, .int .u8 10, .int .u8 0, .int .u8 0, .int .u8 2, .slice Ao 0 co, .slice Ab (8 + nd) cb] 27 (0, 0)) ∧ g5 < W.heap.size ∧ w.heap.size ≤ g5 ∧ Hid (g2 ≠ g5) ∧ Sl W (D) (nd) (cd) (ld) ∧ Av (D) (nd) g2 ∧ Av (D) (nd) g5 ∧ Sl W (Ab) (8 + nd) (cb) (udBytes 10 0 0 1 10 0 0 2 df dt ld) ∧ Av (Ab) (8 + nd) g2 ∧ Av (Ab) (8 + nd) g5 ∧ Below w.heap.size w W)
  case first =>
    replace bel := bel.drew
    replace hd : w2.drew.heap[g2]? = _ := hd
    replace zd : _ < w2.drew.heap.size := zd
    replace hD := hD.drew
    refine wp_region_held_drew (S := fun W => W.heap[g2]? = some (.cells #[.int .i64 df, .int .i64 dt, .slice D nd cd] 33 (0, 0))) (by kernel_rfl) hd (fun hH => ?_)
    generalize w2.drew = w3 at bel hd zd hD hH ⊢
    refine wpAnyH_take (i := 1) (v := .agg #[.int .i64 df, .int .i64 dt, .slice D nd cd]) rfl (by kernel_rfl) (by kernel_rfl) (by kernel_rfl) (fun _ _ _ h => h) (yieldsIf_load_part (by kernel_rfl) 33 _ rfl g2 0 3 rfl [.int .i64 df, .int .i64 dt, .slice D nd cd] 33 (0, 0) (fun W hW => hW) [.int .i64 df, .int .i64 dt, .slice D nd cd] rfl _ Try.underlying33 rfl (by kernel_rfl)) hH ?_
    simp only [Act.put, List.getElem_toArray, List.getElem_cons_zero, List.getElem_cons_succ, List.setIfInBounds_toArray, List.set_cons_zero, List.set_cons_succ]
    refine wpAnyH_ready (rs := [0, 6]) (by kernel_rfl) (by simp) ?_
    refine AllReadyH.cons (o := _) rfl (fun K hK => ?_) (AllReadyH.cons (o := _) rfl (fun K hK => ?_) AllReadyH.nil)
    · simp only [List.getElem_toArray, List.getElem_cons_zero]
      go_simp
      with_reducible refine (base7 _).mono ?_
      rintro e w4 ⟨rfl, b4⟩
      dsimp only
      replace hd := blk_under hd b4 zd
      replace zd := Nat.lt_of_lt_of_le zd b4.size
      replace hD := hD.below b4
      replace bel := bel.trans (b4.mono bel.size)
      clear b4
      refine hK.out _ _ hd (fun hH5 => ?_)
      clear hK K
      refine wpAnyH_ready (rs := [2, 6]) (by kernel_rfl) (by simp) ?_
      refine AllReadyH.cons (o := _) rfl (fun K hK => ?_) (AllReadyH.cons (o := _) rfl (fun K hK => ?_) AllReadyH.nil)
      · simp only [List.getElem_toArray, List.getElem_cons_zero, List.getElem_cons_succ]
        go_simp
        with_reducible refine (kput_ok _ _ _ _ _ _ _ hD G1.out G2.out G3.out).mono ?_
        rintro e w6 ⟨Ao, co, Ab, cb, rfl, _, pb, fb, b6⟩
        dsimp only
        have av_pb_d := fb.av zd
        replace hd := blk_under hd b6 zd
        replace zd := Nat.lt_of_lt_of_le zd b6.size
        replace hD := hD.below b6
        replace bel := bel.trans (b6.mono bel.size)
        clear b6
        replace pb : Sl w6 (Ab) (8 + nd) (cb) (udBytes 10 0 0 1 10 0 0 2 df dt ld) := pb
        refine hK.out _ _ hd (fun hH7 => ?_)
        clear hK K
        refine wpAnyH_take (i := 3) (v := ?_) rfl (by kernel_rfl) (by kernel_rfl) (by kernel_rfl) (fun _ _ _ h => h) (Or.inl ⟨by rfl, ?_⟩) hH7 ?_
        rotate_left
        · ((intro W hW; clear hW; go_simp) <;> with_reducible rfl)
        simp only [Act.put, List.getElem_toArray, List.getElem_cons_zero, List.getElem_cons_succ, List.setIfInBounds_toArray, List.set_cons_zero, List.set_cons_succ]
        refine wpAnyH_take (i := 4) (v := ?_) rfl (by kernel_rfl) (by kernel_rfl) (by kernel_rfl) (fun _ _ _ h => h) (Or.inl ⟨by rfl, ?_⟩) hH7 ?_
        rotate_left
        · ((intro W hW; clear hW; go_simp) <;> with_reducible rfl)
        simp only [Act.put, List.getElem_toArray, List.getElem_cons_zero, List.getElem_cons_succ, List.setIfInBounds_toArray, List.set_cons_zero, List.set_cons_succ]
        refine wpAnyH_take (i := 5) (v := ?_) rfl (by kernel_rfl) (by kernel_rfl) (by kernel_rfl) (fun _ _ _ h => h) (Or.inl ⟨by rfl, ?_⟩) hH7 ?_
        rotate_left
        · ((intro W hW; clear hW; go_simp) <;> with_reducible rfl)
        simp only [Act.put, List.getElem_toArray, List.getElem_cons_zero, List.getElem_cons_succ, List.setIfInBounds_toArray, List.set_cons_zero, List.set_cons_succ]
        refine wpAnyH_ready (rs := [6]) (by kernel_rfl) (by simp) ?_
        refine AllReadyH.cons (o := _) rfl (fun K hK => ?_) AllReadyH.nil
        simp only [List.getElem_toArray, List.getElem_cons_zero, List.getElem_cons_succ]
        rw [if_pos (by rfl)]
        refine wp_new_n 27 rfl (.agg #[.int .i64 0, .int .i64 0, .int .i64 0, .int .i64 0, .int .i64 0, .int .i64 0, .int .u8 0, .int .u8 0, .int .u8 0, .int .u8 0, .int .u8 0, .int .u8 0, .int .u8 0, .int .u8 0, .slice none 0 0, .slice none 0 0]) (by kernel_rfl) #[.int .i64 0, .int .i64 0, .int .i64 0, .int .i64 0, .int .i64 0, .int .i64 0, .int .u8 0, .int .u8 0, .int .u8 0, .int .u8 0, .int .u8 0, .int .u8 0, .int .u8 0, .int .u8 0, .slice none 0 0, .slice none 0 0] rfl ?_
        intro g5 w8 ge lt hh bb
        have d_d_p := ne_new zd ge
        have av_hD_p := hD.av_new ge
        have av_pb_p := pb.av_new ge
        have op := Nat.le_trans bel.size ge
        replace hd := blk_under hd bb zd
        replace zd := Nat.lt_of_lt_of_le zd bb.size
        replace hD := hD.below bb
        replace pb := pb.below bb
        replace bel := bel.trans (bb.mono bel.size)
        have hp := hh
        have zp := lt
        clear hh lt ge bb
        refine hK.out _ _ hd (fun hH9 => ?_)
        clear hK K
        refine wpAnyH_ready (rs := [7]) (by kernel_rfl) (by simp) ?_
        refine AllReadyH.cons (o := _) rfl (fun K hK => ?_) AllReadyH.nil
        simp only [List.getElem_toArray, List.getElem_cons_zero, List.getElem_cons_succ]
        rw [if_pos (by rfl)]
        refine wp_store_blk 27 (.tmp 5) (.tmp 20) rfl g5 rfl #[.int .i64 0, .int .i64 0, .int .i64 0, .int .i64 0, .int .i64 64, .int .i64 17, .int .u8 10, .int .u8 0, .int .u8 0, .int .u8 1, .int .u8 10, .int .u8 0, .int .u8 0, .int .u8 2, .slice Ao 0 co, .slice Ab (8 + nd) cb] rfl _ 27 hp (by rfl) (by kernel_rfl) (by kernel_rfl) ?_
        intro w10 hq gr
        replace hD := hD.away av_hD_p gr
        replace pb := pb.away av_pb_p gr
        replace hd := blk_away hd gr zd d_d_p
        replace zd := Nat.lt_of_lt_of_le zd gr.size
        replace zp := Nat.lt_of_lt_of_le zp gr.size
        replace bel := below_grown bel gr op bel.size
        clear hp
        have hp := hq
        clear hq gr
        refine hK.out _ _ hd (fun hH11 => ?_)
        clear hK K
        refine wpAnyH_take (i := 8) (v := ?_) rfl (by kernel_rfl) (by kernel_rfl) (by kernel_rfl) (fun _ _ _ h => h) (Or.inl ⟨by rfl, ?_⟩) hH11 ?_
        rotate_left
        · ((intro W hW; clear hW; go_simp) <;> with_reducible rfl)
        simp only [Act.put, List.getElem_toArray, List.getElem_cons_zero, List.getElem_cons_succ, List.setIfInBounds_toArray, List.set_cons_zero, List.set_cons_succ]
        refine wpAnyH_done (by kernel_rfl) ?_ _
        go_wp2_with fail
        go_meet
        case rel => exact ⟨g5, Ab, cb, Ao, co, rfl, rfl, hd, zd, hp, zp, op, d_d_p, hD, av_hD_d, av_hD_p, pb, av_pb_d, av_pb_p, bel⟩
      · simp only [List.getElem_toArray, List.getElem_cons_zero, List.getElem_cons_succ]
        rw [if_pos (by rfl)]
        refine wp_new_n 27 rfl (.agg #[.int .i64 0, .int .i64 0, .int .i64 0, .int .i64 0, .int .i64 0, .int .i64 0, .int .u8 0, .int .u8 0, .int .u8 0, .int .u8 0, .int .u8 0, .int .u8 0, .int .u8 0, .int .u8 0, .slice none 0 0, .slice none 0 0]) (by kernel_rfl) #[.int .i64 0, .int .i64 0, .int .i64 0, .int .i64 0, .int .i64 0, .int .i64 0, .int .u8 0, .int .u8 0, .int .u8 0, .int .u8 0, .int .u8 0, .int .u8 0, .int .u8 0, .int .u8 0, .slice none 0 0, .slice none 0 0] rfl ?_
        intro g5 w6 ge lt hh bb
        have d_d_p := ne_new zd ge
        have av_hD_p := hD.av_new ge
        have op := Nat.le_trans bel.size ge
        replace hd := blk_under hd bb zd
        replace zd := Nat.lt_of_lt_of_le zd bb.size
        replace hD := hD.below bb
        replace bel := bel.trans (bb.mono bel.size)
        have hp := hh
        have zp := lt
        clear hh lt ge bb
        refine hK.out _ _ hd (fun hH7 => ?_)
        clear hK K
        refine wpAnyH_ready (rs := [2]) (by kernel_rfl) (by simp) ?_
        refine AllReadyH.cons (o := _) rfl (fun K hK => ?_) AllReadyH.nil
        simp only [List.getElem_toArray, List.getElem_cons_zero, List.getElem_cons_succ]
        go_simp
        with_reducible refine (kput_ok _ _ _ _ _ _ _ hD G1.out G2.out G3.out).mono ?_
        rintro e w8 ⟨Ao, co, Ab, cb, rfl, _, pb, fb, b8⟩
        dsimp only
        have av_pb_d := fb.av zd
        have av_pb_p := fb.av zp
        replace hd := blk_under hd b8 zd
        replace zd := Nat.lt_of_lt_of_le zd b8.size
        replace hp := blk_under hp b8 zp
        replace zp := Nat.lt_of_lt_of_le zp b8.size
        replace hD := hD.below b8
        replace bel := bel.trans (b8.mono bel.size)
        clear b8
        replace pb : Sl w8 (Ab) (8 + nd) (cb) (udBytes 10 0 0 1 10 0 0 2 df dt ld) := pb
        refine hK.out _ _ hd (fun hH9 => ?_)
        clear hK K
        refine wpAnyH_take (i := 3) (v := ?_) rfl (by kernel_rfl) (by kernel_rfl) (by kernel_rfl) (fun _ _ _ h => h) (Or.inl ⟨by rfl, ?_⟩) hH9 ?_
        rotate_left
        · ((intro W hW; clear hW; go_simp) <;> with_reducible rfl)
        simp only [Act.put, List.getElem_toArray, List.getElem_cons_zero, List.getElem_cons_succ, List.setIfInBounds_toArray, List.set_cons_zero, List.set_cons_succ]
        refine wpAnyH_take (i := 4) (v := ?_) rfl (by kernel_rfl) (by kernel_rfl) (by kernel_rfl) (fun _ _ _ h => h) (Or.inl ⟨by rfl, ?_⟩) hH9 ?_
        rotate_left
        · ((intro W hW; clear hW; go_simp) <;> with_reducible rfl)
        simp only [Act.put, List.getElem_toArray, List.getElem_cons_zero, List.getElem_cons_succ, List.setIfInBounds_toArray, List.set_cons_zero, List.set_cons_succ]
        refine wpAnyH_take (i := 5) (v := ?_) rfl (by kernel_rfl) (by kernel_rfl) (by kernel_rfl) (fun _ _ _ h => h) (Or.inl ⟨by rfl, ?_⟩) hH9 ?_
        rotate_left
        · ((intro W hW; clear hW; go_simp) <;> with_reducible rfl)
        simp only [Act.put, List.getElem_toArray, List.getElem_cons_zero, List.getElem_cons_succ, List.setIfInBounds_toArray, List.set_cons_zero, List.set_cons_succ]
        refine wpAnyH_ready (rs := [7]) (by kernel_rfl) (by simp) ?_
        refine AllReadyH.cons (o := _) rfl (fun K hK => ?_) AllReadyH.nil
        simp only [List.getElem_toArray, List.getElem_cons_zero, List.getElem_cons_succ]
        rw [if_pos (by rfl)]
        refine wp_store_blk 27 (.tmp 5) (.tmp 20) rfl g5 rfl #[.int .i64 0, .int .i64 0, .int .i64 0, .int .i64 0, .int .i64 64, .int .i64 17, .int .u8 10, .int .u8 0, .int .u8 0, .int .u8 1, .int .u8 10, .int .u8 0, .int .u8 0, .int .u8 2, .slice Ao 0 co, .slice Ab (8 + nd) cb] rfl _ 27 hp (by rfl) (by kernel_rfl) (by kernel_rfl) ?_
        intro w10 hq gr
        replace hD := hD.away av_hD_p gr
        replace pb := pb.away av_pb_p gr
        replace hd := blk_away hd gr zd d_d_p
        replace zd := Nat.lt_of_lt_of_le zd gr.size
        replace zp := Nat.lt_of_lt_of_le zp gr.size
        replace bel := below_grown bel gr op bel.size
        clear hp
        have hp := hq
        clear hq gr
        refine hK.out _ _ hd (fun hH11 => ?_)
        clear hK K
        refine wpAnyH_take (i := 8) (v := ?_) rfl (by kernel_rfl) (by kernel_rfl) (by kernel_rfl) (fun _ _ _ h => h) (Or.inl ⟨by rfl, ?_⟩) hH11 ?_
        rotate_left
        · ((intro W hW; clear hW; go_simp) <;> with_reducible rfl)
        simp only [Act.put, List.getElem_toArray, List.getElem_cons_zero, List.getElem_cons_succ, List.setIfInBounds_toArray, List.set_cons_zero, List.set_cons_succ]
        refine wpAnyH_done (by kernel_rfl) ?_ _
        go_wp2_with fail
        go_meet
        case rel => exact ⟨g5, Ab, cb, Ao, co, rfl, rfl, hd, zd, hp, zp, op, d_d_p, hD, av_hD_d, av_hD_p, pb, av_pb_d, av_pb_p, bel⟩
    · simp only [List.getElem_toArray, List.getElem_cons_zero, List.getElem_cons_succ]
      rw [if_pos (by rfl)]
      refine wp_new_n 27 rfl (.agg #[.int .i64 0, .int .i64 0, .int .i64 0, .int .i64 0, .int .i64 0, .int .i64 0, .int .u8 0, .int .u8 0, .int .u8 0, .int .u8 0, .int .u8 0, .int .u8 0, .int .u8 0, .int .u8 0, .slice none 0 0, .slice none 0 0]) (by kernel_rfl) #[.int .i64 0, .int .i64 0, .int .i64 0, .int .i64 0, .int .i64 0, .int .i64 0, .int .u8 0, .int .u8 0, .int .u8 0, .int .u8 0, .int .u8 0, .int .u8 0, .int .u8 0, .int .u8 0, .slice none 0 0, .slice none 0 0] rfl ?_
      intro g5 w4 ge lt hh bb
      have d_d_p := ne_new zd ge
      have av_hD_p := hD.av_new ge
      have op := Nat.le_trans bel.size ge
      replace hd := blk_under hd bb zd
      replace zd := Nat.lt_of_lt_of_le zd bb.size
      replace hD := hD.below bb
      replace bel := bel.trans (bb.mono bel.size)
      have hp := hh
      have zp := lt
      clear hh lt ge bb
      refine hK.out _ _ hd (fun hH5 => ?_)
      clear hK K
      refine wpAnyH_ready (rs := [0]) (by kernel_rfl) (by simp) ?_
      refine AllReadyH.cons (o := _) rfl (fun K hK => ?_) AllReadyH.nil
      simp only [List.getElem_toArray, List.getElem_cons_zero]
      go_simp
      with_reducible refine (base7 _).mono ?_
      rintro e w6 ⟨rfl, b6⟩
      dsimp only
      replace hd := blk_under hd b6 zd
      replace zd := Nat.lt_of_lt_of_le zd b6.size
      replace hp := blk_under hp b6 zp
      replace zp := Nat.lt_of_lt_of_le zp b6.size
      replace hD := hD.below b6
      replace bel := bel.trans (b6.mono bel.size)
      clear b6
      refine hK.out _ _ hd (fun hH7 => ?_)
      clear hK K
      refine wpAnyH_ready (rs := [2]) (by kernel_rfl) (by simp) ?_
      refine AllReadyH.cons (o := _) rfl (fun K hK => ?_) AllReadyH.nil
      simp only [List.getElem_toArray, List.getElem_cons_zero, List.getElem_cons_succ]
      go_simp
      with_reducible refine (kput_ok _ _ _ _ _ _ _ hD G1.out G2.out G3.out).mono ?_
      rintro e w8 ⟨Ao, co, Ab, cb, rfl, _, pb, fb, b8⟩
      dsimp only
      have av_pb_d := fb.av zd
      have av_pb_p := fb.av zp
      replace hd := blk_under hd b8 zd
      replace zd := Nat.lt_of_lt_of_le zd b8.size
      replace hp := blk_under hp b8 zp
      replace zp := Nat.lt_of_lt_of_le zp b8.size
      replace hD := hD.below b8
      replace bel := bel.trans (b8.mono bel.size)
      clear b8
      replace pb : Sl w8 (Ab) (8 + nd) (cb) (udBytes 10 0 0 1 10 0 0 2 df dt ld) := pb
      refine hK.out _ _ hd (fun hH9 => ?_)
      clear hK K
      refine wpAnyH_take (i := 3) (v := ?_) rfl (by kernel_rfl) (by kernel_rfl) (by kernel_rfl) (fun _ _ _ h => h) (Or.inl ⟨by rfl, ?_⟩) hH9 ?_
      rotate_left
      · ((intro W hW; clear hW; go_simp) <;> with_reducible rfl)
      simp only [Act.put, List.getElem_toArray, List.getElem_cons_zero, List.getElem_cons_succ, List.setIfInBounds_toArray, List.set_cons_zero, List.set_cons_succ]
      refine wpAnyH_take (i := 4) (v := ?_) rfl (by kernel_rfl) (by kernel_rfl) (by kernel_rfl) (fun _ _ _ h => h) (Or.inl ⟨by rfl, ?_⟩) hH9 ?_
      rotate_left
      · ((intro W hW; clear hW; go_simp) <;> with_reducible rfl)
      simp only [Act.put, List.getElem_toArray, List.getElem_cons_zero, List.getElem_cons_succ, List.setIfInBounds_toArray, List.set_cons_zero, List.set_cons_succ]
      refine wpAnyH_take (i := 5) (v := ?_) rfl (by kernel_rfl) (by kernel_rfl) (by kernel_rfl) (fun _ _ _ h => h) (Or.inl ⟨by rfl, ?_⟩) hH9 ?_
      rotate_left
      · ((intro W hW; clear hW; go_simp) <;> with_reducible rfl)
      simp only [Act.put, List.getElem_toArray, List.getElem_cons_zero, List.getElem_cons_succ, List.setIfInBounds_toArray, List.set_cons_zero, List.set_cons_succ]
      refine wpAnyH_ready (rs := [7]) (by kernel_rfl) (by simp) ?_
      refine AllReadyH.cons (o := _) rfl (fun K hK => ?_) AllReadyH.nil
      simp only [List.getElem_toArray, List.getElem_cons_zero, List.getElem_cons_succ]
      rw [if_pos (by rfl)]
      refine wp_store_blk 27 (.tmp 5) (.tmp 20) rfl g5 rfl #[.int .i64 0, .int .i64 0, .int .i64 0, .int .i64 0, .int .i64 64, .int .i64 17, .int .u8 10, .int .u8 0, .int .u8 0, .int .u8 1, .int .u8 10, .int .u8 0, .int .u8 0, .int .u8 2, .slice Ao 0 co, .slice Ab (8 + nd) cb] rfl _ 27 hp (by rfl) (by kernel_rfl) (by kernel_rfl) ?_
      intro w10 hq gr
      replace hD := hD.away av_hD_p gr
      replace pb := pb.away av_pb_p gr
      replace hd := blk_away hd gr zd d_d_p
      replace zd := Nat.lt_of_lt_of_le zd gr.size
      replace zp := Nat.lt_of_lt_of_le zp gr.size
      replace bel := below_grown bel gr op bel.size
      clear hp
      have hp := hq
      clear hq gr
      refine hK.out _ _ hd (fun hH11 => ?_)
      clear hK K
      refine wpAnyH_take (i := 8) (v := ?_) rfl (by kernel_rfl) (by kernel_rfl) (by kernel_rfl) (fun _ _ _ h => h) (Or.inl ⟨by rfl, ?_⟩) hH11 ?_
      rotate_left
      · ((intro W hW; clear hW; go_simp) <;> with_reducible rfl)
      simp only [Act.put, List.getElem_toArray, List.getElem_cons_zero, List.getElem_cons_succ, List.setIfInBounds_toArray, List.set_cons_zero, List.set_cons_succ]
      refine wpAnyH_done (by kernel_rfl) ?_ _
      go_wp2_with fail
      go_meet
      case rel => exact ⟨g5, Ab, cb, Ao, co, rfl, rfl, hd, zd, hp, zp, op, d_d_p, hD, av_hD_d, av_hD_p, pb, av_pb_d, av_pb_p, bel⟩
  obtain ⟨w12, hw_⟩ : ∃ x, x = wc := ⟨_, rfl⟩
  subst hw_
  obtain ⟨g5, Ab, cb, Ao, co, rfl, rfl, hd, zd, hp, zp, op, d_d_p, hD, av_hD_d, av_hD_p, pb, av_pb_d, av_pb_p, bel⟩ := hcut
  have R31 := cell_lit hp 15 _ rfl
  go_wp2_with (first | ((with_reducible show wpList _ _ _ (⟨some 46, _, _, _, _, _⟩ :: _) _ _); refine wpList_lit_n rfl 25 5 0 _ rfl #[] (.int .u8 0) Try.underlying25 (by kernel_rfl) 1 (by kernel_rfl) (by decide) (by kernel_rfl) ?_; intro g46 w13 ge lt hh bb; have hl : w13.heap[g46]? = some (.cells (([] : List UInt8).map u8v).toArray 5 (0, 0)) := (by simpa [u8v, byteOf_val] using hh); have e0w := own_lit (B := w12.heap.size) ([]) hl ge 0 rfl (by simp [maxLen]); have e0 := (own_sl e0w).1; have e0lo := bel.size; clear hl; have e0ge := ge; have lz_e0 := bb.size; have y_e0_d := Lib.hid zd; have y_e0_p := Lib.hid zp; have bl_hD_e0 := hD.bl_new; have bl_pb_e0 := pb.bl_new; replace hd := blk_under hd bb zd; replace zd := Nat.lt_of_lt_of_le zd bb.size; replace hp := blk_under hp bb zp; replace zp := Nat.lt_of_lt_of_le zp bb.size; replace hD := hD.below bb; replace pb := pb.below bb; replace bel := bel.trans (bb.mono bel.size); clear hh lt ge bb; have av_e0_d := (own_sl e0w).2.av y_e0_d.out; have av_e0_p := (own_sl e0w).2.av y_e0_p.out; have R48 := cell_lit hp 15 _ rfl) | ((with_reducible show wpList _ _ _ (⟨some 49, _, _, _, _, _⟩ :: _) _ _); refine wpList_append_bb _ rfl (.tmp 46) (.tmp 48) 25 rfl (w12.heap.size) 5 ii (.int .u8 0) Try.underlying25 hii hz0 hz1 hz2 rfl _ (0) ([]) rfl e0w (Ab) (8 + nd) (cb) (udBytes 10 0 0 1 10 0 0 2 df dt ld) rfl pb (by have := H3.out; omega) lz_e0 ?_; intro v49 w14 own_ bb; replace hD := hD.under bl_hD_e0 bb; replace pb := pb.under bl_pb_e0 bb; replace hd := blk_under hd bb y_e0_d.out; replace zd := Nat.lt_of_lt_of_le zd bb.size; replace hp := blk_under hp bb y_e0_p.out; replace zp := Nat.lt_of_lt_of_le zp bb.size; replace bel := bel.trans (bb.mono e0lo); have lz_al := Nat.le_trans lz_e0 bb.size; clear bb; clear e0 e0w lz_e0; replace own_ : w14.ownsRow (w12.heap.size) 5 1 v49 (8 + nd) ((udBytes 10 0 0 1 10 0 0 2 df dt ld : List UInt8).map u8v) := (by simpa using own_); obtain ⟨A49, c49, rfl⟩ := own_val own_; have alw := own_; have al := (own_sl own_).1; have fr_al := (own_sl own_).2; clear own_; have av_al_d := fr_al.av y_e0_d.out; have av_al_p := fr_al.av y_e0_p.out; obtain ⟨gb, cg, eg, alge, allt, alnc, alcm⟩ := own_at alw (by omega); injection eg with eg1 _ eg3; subst eg1; subst eg3; have R57 := own_byte alw HX.out) | ((with_reducible show wpList _ _ _ (⟨none, Op.store _ (.tmp 63) _, _, _, _, _⟩ :: _) _ _); refine wpList_store_byte rfl 5 (.tmp 63) (.tmp 62) rfl (w12.heap.size) 5 gb (bit / 8) (8 + nd) (c49) (udBytes 10 0 0 1 10 0 0 2 df dt ld) (y) rfl rfl alw (by have := HK.out; omega) (by kernel_rfl) ?_; intro w15 own_ gr; replace hD := hD.away (bl_hD_e0.av alge) gr; replace pb := pb.away (bl_pb_e0.av alge) gr; replace hd := blk_away hd gr zd (ne_new y_e0_d.out alge); replace zd := Nat.lt_of_lt_of_le zd gr.size; replace hp := blk_away hp gr zp (ne_new y_e0_p.out alge); replace zp := Nat.lt_of_lt_of_le zp gr.size; replace bel := below_grown bel gr (Nat.le_trans e0lo alge) bel.size; replace lz_al := Nat.le_trans lz_al gr.size; clear gr al alw; have alw := own_; have al := (own_sl own_).1; clear own_) | ((with_reducible show wpList _ _ _ (⟨none, Op.store _ (.tmp 65) _, _, _, _, _⟩ :: _) _ _); refine wpList_store_part rfl 25 (.tmp 65) (.tmp 64) rfl g5 15 rfl [.slice (some ⟨gb, 0, none⟩) (8 + nd) c49] rfl [.int .i64 0, .int .i64 0, .int .i64 0, .int .i64 0, .int .i64 64, .int .i64 17, .int .u8 10, .int .u8 0, .int .u8 0, .int .u8 1, .int .u8 10, .int .u8 0, .int .u8 0, .int .u8 2, .slice Ao 0 co, .slice Ab (8 + nd) cb] 27 hp (by simp) [.int .i64 0, .int .i64 0, .int .i64 0, .int .i64 0, .int .i64 64, .int .i64 17, .int .u8 10, .int .u8 0, .int .u8 0, .int .u8 1, .int .u8 10, .int .u8 0, .int .u8 0, .int .u8 2, .slice Ao 0 co, .slice (some ⟨gb, 0, none⟩) (8 + nd) c49] rfl (by kernel_rfl) (by rfl) ?_; intro w16 hq gr; replace hD := hD.away av_hD_p gr; replace pb := pb.away av_pb_p gr; replace al := al.away av_al_p gr; replace alw := own_away alw y_e0_p.out gr; replace lz_al := Nat.le_trans lz_al gr.size; replace hd := blk_away hd gr zd d_d_p; replace zd := Nat.lt_of_lt_of_le zd gr.size; replace zp := Nat.lt_of_lt_of_le zp gr.size; replace bel := below_grown bel gr op bel.size; clear hp; have hp := hq; clear hq gr; have R67 := Lib.hid (range_lit hp 0 16 [.int .i64 0, .int .i64 0, .int .i64 0, .int .i64 0, .int .i64 64, .int .i64 17, .int .u8 10, .int .u8 0, .int .u8 0, .int .u8 1, .int .u8 10, .int .u8 0, .int .u8 0, .int .u8 2, .slice Ao 0 co, .slice (some ⟨gb, 0, none⟩) (8 + nd) c49] rfl)) | ((with_reducible show wpList _ _ _ (⟨some 67, _, _, _, _, _⟩ :: _) _ _); refine wpList_load_rng 27 (.tmp 5) rfl (by kernel_rfl) _ _ rfl _ R67.out _ Try.underlying27 rfl (by kernel_rfl) ?_))
  try clear R31
  try clear R48
  try clear R57
  try clear R67
  with_reducible refine (kget_er _ _ _ _ _ _ _ _ _ 0 _ al (by have := H3.out; omega) HP.out).mono ?_
  rintro e w17 ⟨x1, y1, A1, k1, cz, rfl, b17⟩
  replace hd := blk_under hd b17 zd
  replace zd := Nat.lt_of_lt_of_le zd b17.size
  replace hp := blk_under hp b17 zp
  replace zp := Nat.lt_of_lt_of_le zp b17.size
  replace hD := hD.below b17
  replace pb := pb.below b17
  replace al := al.below b17
  replace alw := own_under alw b17
  replace lz_al := Nat.le_trans lz_al b17.size
  replace bel := bel.trans (b17.mono bel.size)
  clear b17
  clear b8 b9 c0 c1 h7 r0 r1 hx0 hx1 t2 t3 t4 t5 ew n1
  go_wp2_with (first | ((with_reducible show wpList _ _ _ (⟨some 8, _, _, _, _, _⟩ :: _) _ _); refine wpList_new_n rfl 33 rfl (.agg #[.int .i64 0, .int .i64 0, .slice none 0 0]) (by kernel_rfl) #[.int .i64 0, .int .i64 0, .slice none 0 0] rfl ?_; intro g8 w18 ge lt hh bb; have d_d_x := ne_new zd ge; have d_p_x := ne_new zp ge; have av_hD_x := hD.av_new ge; have av_pb_x := pb.av_new ge; have av_al_x := al.av_new ge; have of_al_x := own_new alw ge; have ox := Nat.le_trans bel.size ge; replace hd := blk_under hd bb zd; replace zd := Nat.lt_of_lt_of_le zd bb.size; replace hp := blk_under hp bb zp; replace zp := Nat.lt_of_lt_of_le zp bb.size; replace hD := hD.below bb; replace pb := pb.below bb; replace al := al.below bb; replace alw := own_under alw bb; replace lz_al := Nat.le_trans lz_al bb.size; replace bel := bel.trans (bb.mono bel.size); have hx := hh; have zx := lt; clear hh lt ge bb) | ((with_reducible show wpList _ _ _ (⟨none, Op.store _ (.tmp 8) _, _, _, _, _⟩ :: _) _ _); refine wpList_store_blk rfl 33 (.tmp 8) (.tmp 69) rfl g8 rfl #[.int .i64 x1, .int .i64 y1, .slice A1 k1 cz] rfl _ 33 hx (by rfl) (by kernel_rfl) (by kernel_rfl) ?_; intro w19 hq gr; replace hD := hD.away av_hD_x gr; replace pb := pb.away av_pb_x gr; replace al := al.away av_al_x gr; replace alw := own_off alw of_al_x gr; replace lz_al := Nat.le_trans lz_al gr.size; replace hd := blk_away hd gr zd d_d_x; replace hp := blk_away hp gr zp d_p_x; replace zd := Nat.lt_of_lt_of_le zd gr.size; replace zp := Nat.lt_of_lt_of_le zp gr.size; replace zx := Nat.lt_of_lt_of_le zx gr.size; replace bel := below_grown bel gr ox bel.size; clear hx; have hx := hq; clear hq gr; have R76 := own_byte alw H6.out; have R81 := own_byte alw H7.out))
  try clear R76
  try clear R81
  go_ret
  exact ⟨rfl, bel⟩
theorem udpSpoilt_walk (df dt : Int) (D : Option Addr) (nd cd : Nat) (ld : List UInt8) (bit : Int) (w : World) (hD : Sl w D nd cd ld) : Calls Try.prog 6 #[.agg #[.int .i64 df, .int .i64 dt, .slice D nd cd], .int .i64 bit] w fun e w' => e = .returned (.bool true) ∧ Below w.heap.size w w' := by
  by_cases h3 : nd ≤ 600
  · by_cases he : (udPut 0 0 0 0 64 10 0 0 1 10 0 0 2 [] df dt ld).2.2 = 0
    · obtain ⟨g1, g2, g3, _⟩ := udput_pos he
      have g3 : nd ≤ 1472 := by omega
      by_cases hb : bit < 0
      · exact udpSpoilt_3 df dt D nd cd ld bit w hD h3 g1 g2 g3 hb
      obtain ⟨k, rfl⟩ : ∃ k : Nat, bit = k := ⟨bit.toNat, by omega⟩
      by_cases hb2 : k < 8 * (8 + nd)
      · by_cases h4 : k / 8 = 4
        · exact udpSpoilt_5 df dt D nd cd ld k w hD h3 g1 g2 g3 hb2 h4
        by_cases h5 : k / 8 = 5
        · exact udpSpoilt_6 df dt D nd cd ld k w hD h3 g1 g2 g3 hb2 h5
        have hl : (udBytes 10 0 0 1 10 0 0 2 df dt ld).length = 8 + nd := by rw [udBytes_len, hD.1]
        have hk : k / 8 < (udBytes 10 0 0 1 10 0 0 2 df dt ld).length := by omega
        obtain ⟨y, hy, hxor⟩ := xor_bit (udBytes 10 0 0 1 10 0 0 2 df dt ld)[k / 8] (k % 8) (by omega)
        rcases udp_spoilt (fl := 0) (pt := 0) (by decide) 10 0 0 1 10 0 0 2 df dt ld (by rw [hD.1]; omega) (k / 8) (k % 8) _ y (List.getElem?_eq_getElem hk) (by omega) hy h4 h5 with h | ⟨h, h6, h7⟩
        · exact udpSpoilt_7 df dt D nd cd ld k w hD h3 g1 g2 g3 hb2 h4 h5 _ y (List.getElem?_eq_getElem hk) hxor h
        · exact udpSpoilt_8 df dt D nd cd ld k w hD h3 g1 g2 g3 hb2 h4 h5 _ y (List.getElem?_eq_getElem hk) hxor h h6 h7
      · exact udpSpoilt_4 df dt D nd cd ld k w hD h3 g1 g2 g3 (by omega)
    · exact udpSpoilt_2 df dt D nd cd ld bit w hD h3 he
  · exact udpSpoilt_1 df dt D nd cd ld bit w (by omega)
set_option linter.unusedVariables false in
set_option maxRecDepth 100000 in
set_option maxHeartbeats 16000000 in
theorem udpNone_1 (df dt : Int) (D : Option Addr) (nd cd : Nat) (ld : List UInt8) (Q : Option Addr) (mb qb : Nat) (lq : List UInt8) (M : Option Addr) (mm qm : Nat) (lm : List UInt8) (w : World) (h3 : 500 < nd) : Calls Try.prog 7 #[.agg #[.int .i64 df, .int .i64 dt, .slice D nd cd], .slice Q mb qb, .slice M mm qm] w fun e w' => e = .returned (.bool true) ∧ Below w.heap.size w w' := by
  obtain ⟨ii, hii, hz0, hz1, hz2⟩ := info_parts Try.info5
  have t1 : (500 : Int) < nd := by omega
  clear h3
  have bel := Below.refl w.heap.size w
  go_enter Try.func7, Try.ntmps7
  go_wp2_with (first | ((with_reducible show wpList _ _ _ (⟨some 3, _, _, _, _, _⟩ :: _) _ _); refine wpList_box_n rfl 33 (.tmp 0) rfl #[.int .i64 df, .int .i64 dt, .slice D nd cd] rfl ?_; intro g3 w1 ge lt hh bb; have od := Nat.le_trans bel.size ge; replace bel := bel.trans (bb.mono bel.size); have hd := hh; have zd := lt; clear hh lt ge bb))
  with_reducible refine (awake7 _).mono ?_
  rintro e w2 ⟨rfl, b2⟩
  replace hd := blk_under hd b2 zd
  replace zd := Nat.lt_of_lt_of_le zd b2.size
  replace bel := bel.trans (b2.mono bel.size)
  clear b2
  have R15 := cell_lit hd 2 _ rfl
  go_wp2_with fail
  clear R15
  go_ret
  exact ⟨rfl, bel⟩
set_option linter.unusedVariables false in
set_option maxRecDepth 100000 in
set_option maxHeartbeats 16000000 in
theorem udpNone_2 (df dt : Int) (D : Option Addr) (nd cd : Nat) (ld : List UInt8) (Q : Option Addr) (mb qb : Nat) (lq : List UInt8) (M : Option Addr) (mm qm : Nat) (lm : List UInt8) (w : World) (h3 : nd ≤ 500) (hm : mb ≠ nd) : Calls Try.prog 7 #[.agg #[.int .i64 df, .int .i64 dt, .slice D nd cd], .slice Q mb qb, .slice M mm qm] w fun e w' => e = .returned (.bool true) ∧ Below w.heap.size w w' := by
  obtain ⟨ii, hii, hz0, hz1, hz2⟩ := info_parts Try.info5
  have t1 : decide ((500 : Int) < nd) = false := decide_eq_false (by omega)
  have H3 := Lib.hid h3
  clear h3
  have t2 : (mb == nd) = false := by simpa using hm
  have t3 : (mb != nd) = true := by simpa using hm
  have t4 : ((mb : Int) == nd) = false := by simp; omega
  have t5 : ((mb : Int) != nd) = true := by simp; omega
  clear hm
  have bel := Below.refl w.heap.size w
  go_enter Try.func7, Try.ntmps7
  go_wp2_with (first | ((with_reducible show wpList _ _ _ (⟨some 3, _, _, _, _, _⟩ :: _) _ _); refine wpList_box_n rfl 33 (.tmp 0) rfl #[.int .i64 df, .int .i64 dt, .slice D nd cd] rfl ?_; intro g3 w1 ge lt hh bb; have od := Nat.le_trans bel.size ge; replace bel := bel.trans (bb.mono bel.size); have hd := hh; have zd := lt; clear hh lt ge bb))
  with_reducible refine (awake7 _).mono ?_
  rintro e w2 ⟨rfl, b2⟩
  replace hd := blk_under hd b2 zd
  replace zd := Nat.lt_of_lt_of_le zd b2.size
  replace bel := bel.trans (b2.mono bel.size)
  clear b2
  have R15 := cell_lit hd 2 _ rfl
  have R22 := cell_lit hd 2 _ rfl
  go_wp2_with fail
  clear R15 R22
  go_ret
  exact ⟨rfl, bel⟩
set_option linter.unusedVariables false in
set_option maxRecDepth 100000 in
set_option maxHeartbeats 16000000 in
theorem udpNone_3 (df dt : Int) (D : Option Addr) (nd cd : Nat) (ld : List UInt8) (Q : Option Addr) (qb : Nat) (lq : List UInt8) (M : Option Addr) (mm qm : Nat) (lm : List UInt8) (w : World) (h3 : nd ≤ 500) (h4 : 50 < mm) : Calls Try.prog 7 #[.agg #[.int .i64 df, .int .i64 dt, .slice D nd cd], .slice Q nd qb, .slice M mm qm] w fun e w' => e = .returned (.bool true) ∧ Below w.heap.size w w' := by
  obtain ⟨ii, hii, hz0, hz1, hz2⟩ := info_parts Try.info5
  have t1 : decide ((500 : Int) < nd) = false := decide_eq_false (by omega)
  have H3 := Lib.hid h3
  clear h3
  have t6 : (50 : Int) < mm := by omega
  clear h4
  have bel := Below.refl w.heap.size w
  go_enter Try.func7, Try.ntmps7
  go_wp2_with (first | ((with_reducible show wpList _ _ _ (⟨some 3, _, _, _, _, _⟩ :: _) _ _); refine wpList_box_n rfl 33 (.tmp 0) rfl #[.int .i64 df, .int .i64 dt, .slice D nd cd] rfl ?_; intro g3 w1 ge lt hh bb; have od := Nat.le_trans bel.size ge; replace bel := bel.trans (bb.mono bel.size); have hd := hh; have zd := lt; clear hh lt ge bb))
  with_reducible refine (awake7 _).mono ?_
  rintro e w2 ⟨rfl, b2⟩
  replace hd := blk_under hd b2 zd
  replace zd := Nat.lt_of_lt_of_le zd b2.size
  replace bel := bel.trans (b2.mono bel.size)
  clear b2
  have R15 := cell_lit hd 2 _ rfl
  have R22 := cell_lit hd 2 _ rfl
  go_wp2_with fail
  clear R15 R22
  go_ret
  exact ⟨rfl, bel⟩
set_option linter.unusedVariables false in
set_option maxRecDepth 100000 in
set_option maxHeartbeats 16000000 in
theorem udpNone_4 (df dt : Int) (D : Option Addr) (nd cd : Nat) (ld : List UInt8) (Q : Option Addr) (qb : Nat) (lq : List UInt8) (M : Option Addr) (mm qm : Nat) (lm : List UInt8) (w : World) (hD : Sl w D nd cd ld) (hB : Sl w Q nd qb lq) (hM : Sl w M mm qm lm) (h3 : nd ≤ 500) (h4 : mm ≤ 50) (he : (udPut 0 0 0 0 64 10 0 0 1 10 0 0 2 [] df dt ld).2.2 ≠ 0) : Calls Try.prog 7 #[.agg #[.int .i64 df, .int .i64 dt, .slice D nd cd], .slice Q nd qb, .slice M mm qm] w fun e w' => e = .returned (.bool true) ∧ Below w.heap.size w w' := by
  obtain ⟨ii, hii, hz0, hz1, hz2⟩ := info_parts Try.info5
  have t1 : decide ((500 : Int) < nd) = false := decide_eq_false (by omega)
  have H3 := Lib.hid h3
  clear h3
  have t6 : decide ((50 : Int) < mm) = false := decide_eq_false (by omega)
  have H4 := Lib.hid h4
  clear h4
  have HE := Lib.hid he
  clear he
  have bel := Below.refl w.heap.size w
  go_enter Try.func7, Try.ntmps7
  go_wp2_with (first | ((with_reducible show wpList _ _ _ (⟨some 3, _, _, _, _, _⟩ :: _) _ _); refine wpList_box_n rfl 33 (.tmp 0) rfl #[.int .i64 df, .int .i64 dt, .slice D nd cd] rfl ?_; intro g3 w1 ge lt hh bb; have av_hD_d := hD.av_new ge; have av_hB_d := hB.av_new ge; have av_hM_d := hM.av_new ge; have od := Nat.le_trans bel.size ge; replace hD := hD.below bb; replace hB := hB.below bb; replace hM := hM.below bb; replace bel := bel.trans (bb.mono bel.size); have hd := hh; have zd := lt; clear hh lt ge bb))
  with_reducible refine (awake7 _).mono ?_
  rintro e w2 ⟨rfl, b2⟩
  replace hd := blk_under hd b2 zd
  replace zd := Nat.lt_of_lt_of_le zd b2.size
  replace hD := hD.below b2
  replace hB := hB.below b2
  replace hM := hM.below b2
  replace bel := bel.trans (b2.mono bel.size)
  clear b2
  have R15 := cell_lit hd 2 _ rfl
  have R22 := cell_lit hd 2 _ rfl
  go_wp2_with fail
  clear R15 R22
  go_cut [7, 8] from 9999 (fun s7 s8 W => ∃ g7 : Nat, ∃ f0 : Int, ∃ f1 : Int, ∃ f2 : Int, ∃ f3 : Int, ∃ f4 : Int, ∃ f5 : Int, ∃ j0 : UInt8, ∃ j1 : UInt8, ∃ j2 : UInt8, ∃ j3 : UInt8, ∃ j4 : UInt8, ∃ j5 : UInt8, ∃ j6 : UInt8, ∃ j7 : UInt8, ∃ Ao : Option Addr, ∃ no : Nat, ∃ co : Nat, ∃ Ab : Option Addr, ∃ nb : Nat, ∃ cb : Nat, ∃ er : Int, s7 = .pointer (some ⟨g7, 0, none⟩) ∧ s8 = .int .i64 er ∧ W.heap[g3]? = some (.cells #[.int .i64 df, .int .i64 dt, .slice D nd cd] 33 (0, 0)) ∧ g3 < W.heap.size ∧ W.heap[g7]? = some (.cells #[.int .i64 f0, .int .i64 f1, .int .i64 f2, .int .i64 f3, .int .i64 f4, .int .i64 f5, .int .u8 (j0.toNat : Int), .int .u8 (j1.toNat : Int), .int .u8 (j2.toNat : Int), .int .u8 (j3.toNat : Int), .int .u8 (j4.toNat : Int), .int .u8 (j5.toNat : Int), .int .u8 (j6.toNat : Int), .int .u8 (j7.toNat : Int), .slice Ao no co, .slice Ab nb cb] 27 (0, 0)) ∧ g7 < W.heap.size ∧ w.heap.size ≤ g7 ∧ Hid (g3 ≠ g7) ∧ Sl W (D) (nd) (cd) (ld) ∧ Av (D) (nd) g3 ∧ Av (D) (nd) g7 ∧ Sl W (Q) (nd) (qb) (lq) ∧ Av (Q) (nd) g3 ∧ Av (Q) (nd) g7 ∧ Sl W (M) (mm) (qm) (lm) ∧ Av (M) (mm) g3 ∧ Av (M) (mm) g7 ∧ Hid (er ≠ 0) ∧ Below w.heap.size w W)
  case first =>
    replace bel := bel.drew
    replace hd : w2.drew.heap[g3]? = _ := hd
    replace zd : _ < w2.drew.heap.size := zd
    replace hD := hD.drew
    replace hB := hB.drew
    replace hM := hM.drew
    refine wp_region_held_drew (S := fun W => W.heap[g3]? = some (.cells #[.int .i64 df, .int .i64 dt, .slice D nd cd] 33 (0, 0))) (by kernel_rfl) hd (fun hH => ?_)
    generalize w2.drew = w3 at bel hd zd hD hB hM hH ⊢
    refine wpAnyH_take (i := 1) (v := .agg #[.int .i64 df, .int .i64 dt, .slice D nd cd]) rfl (by kernel_rfl) (by kernel_rfl) (by kernel_rfl) (fun _ _ _ h => h) (yieldsIf_load_part (by kernel_rfl) 33 _ rfl g3 0 3 rfl [.int .i64 df, .int .i64 dt, .slice D nd cd] 33 (0, 0) (fun W hW => hW) [.int .i64 df, .int .i64 dt, .slice D nd cd] rfl _ Try.underlying33 rfl (by kernel_rfl)) hH ?_
    simp only [Act.put, List.getElem_toArray, List.getElem_cons_zero, List.getElem_cons_succ, List.setIfInBounds_toArray, List.set_cons_zero, List.set_cons_succ]
    refine wpAnyH_ready (rs := [0, 6]) (by kernel_rfl) (by simp) ?_
    refine AllReadyH.cons (o := _) rfl (fun K hK => ?_) (AllReadyH.cons (o := _) rfl (fun K hK => ?_) AllReadyH.nil)
    · simp only [List.getElem_toArray, List.getElem_cons_zero]
      go_simp
      with_reducible refine (base7 _).mono ?_
      rintro e w4 ⟨rfl, b4⟩
      dsimp only
      replace hd := blk_under hd b4 zd
      replace zd := Nat.lt_of_lt_of_le zd b4.size
      replace hD := hD.below b4
      replace hB := hB.below b4
      replace hM := hM.below b4
      replace bel := bel.trans (b4.mono bel.size)
      clear b4
      refine hK.out _ _ hd (fun hH5 => ?_)
      clear hK K
      refine wpAnyH_ready (rs := [2, 6]) (by kernel_rfl) (by simp) ?_
      refine AllReadyH.cons (o := _) rfl (fun K hK => ?_) (AllReadyH.cons (o := _) rfl (fun K hK => ?_) AllReadyH.nil)
      · simp only [List.getElem_toArray, List.getElem_cons_zero, List.getElem_cons_succ]
        go_simp
        with_reducible refine (kput_bad _ _ _ _ _ _ _ hD (by have := H3.out; omega) HE.out).mono ?_
        rintro e w6 ⟨f0, f1, f2, f3, f4, f5, j0, j1, j2, j3, j4, j5, j6, j7, Ao, no, co, Ab, nb, cb, er, rfl, hne, b6⟩
        dsimp only
        replace hd := blk_under hd b6 zd
        replace zd := Nat.lt_of_lt_of_le zd b6.size
        replace hD := hD.below b6
        replace hB := hB.below b6
        replace hM := hM.below b6
        replace bel := bel.trans (b6.mono bel.size)
        clear b6
        refine hK.out _ _ hd (fun hH7 => ?_)
        clear hK K
        refine wpAnyH_take (i := 3) (v := ?_) rfl (by kernel_rfl) (by kernel_rfl) (by kernel_rfl) (fun _ _ _ h => h) (Or.inl ⟨by rfl, ?_⟩) hH7 ?_
        rotate_left
        · ((intro W hW; clear hW; go_simp) <;> with_reducible rfl)
        simp only [Act.put, List.getElem_toArray, List.getElem_cons_zero, List.getElem_cons_succ, List.setIfInBounds_toArray, List.set_cons_zero, List.set_cons_succ]
        refine wpAnyH_take (i := 4) (v := ?_) rfl (by kernel_rfl) (by kernel_rfl) (by kernel_rfl) (fun _ _ _ h => h) (Or.inl ⟨by rfl, ?_⟩) hH7 ?_
        rotate_left
        · ((intro W hW; clear hW; go_simp) <;> with_reducible rfl)
        simp only [Act.put, List.getElem_toArray, List.getElem_cons_zero, List.getElem_cons_succ, List.setIfInBounds_toArray, List.set_cons_zero, List.set_cons_succ]
        refine wpAnyH_take (i := 5) (v := ?_) rfl (by kernel_rfl) (by kernel_rfl) (by kernel_rfl) (fun _ _ _ h => h) (Or.inl ⟨by rfl, ?_⟩) hH7 ?_
        rotate_left
        · ((intro W hW; clear hW; go_simp) <;> with_reducible rfl)
        simp only [Act.put, List.getElem_toArray, List.getElem_cons_zero, List.getElem_cons_succ, List.setIfInBounds_toArray, List.set_cons_zero, List.set_cons_succ]
        refine wpAnyH_ready (rs := [6]) (by kernel_rfl) (by simp) ?_
        refine AllReadyH.cons (o := _) rfl (fun K hK => ?_) AllReadyH.nil
        simp only [List.getElem_toArray, List.getElem_cons_zero, List.getElem_cons_succ]
        rw [if_pos (by rfl)]
        refine wp_new_n 27 rfl (.agg #[.int .i64 0, .int .i64 0, .int .i64 0, .int .i64 0, .int .i64 0, .int .i64 0, .int .u8 0, .int .u8 0, .int .u8 0, .int .u8 0, .int .u8 0, .int .u8 0, .int .u8 0, .int .u8 0, .slice none 0 0, .slice none 0 0]) (by kernel_rfl) #[.int .i64 0, .int .i64 0, .int .i64 0, .int .i64 0, .int .i64 0, .int .i64 0, .int .u8 0, .int .u8 0, .int .u8 0, .int .u8 0, .int .u8 0, .int .u8 0, .int .u8 0, .int .u8 0, .slice none 0 0, .slice none 0 0] rfl ?_
        intro g7 w8 ge lt hh bb
        have d_d_p := ne_new zd ge
        have av_hD_p := hD.av_new ge
        have av_hB_p := hB.av_new ge
        have av_hM_p := hM.av_new ge
        have op := Nat.le_trans bel.size ge
        replace hd := blk_under hd bb zd
        replace zd := Nat.lt_of_lt_of_le zd bb.size
        replace hD := hD.below bb
        replace hB := hB.below bb
        replace hM := hM.below bb
        replace bel := bel.trans (bb.mono bel.size)
        have hp := hh
        have zp := lt
        clear hh lt ge bb
        refine hK.out _ _ hd (fun hH9 => ?_)
        clear hK K
        refine wpAnyH_ready (rs := [7]) (by kernel_rfl) (by simp) ?_
        refine AllReadyH.cons (o := _) rfl (fun K hK => ?_) AllReadyH.nil
        simp only [List.getElem_toArray, List.getElem_cons_zero, List.getElem_cons_succ]
        rw [if_pos (by rfl)]
        refine wp_store_blk 27 (.tmp 7) (.tmp 35) rfl g7 rfl #[.int .i64 f0, .int .i64 f1, .int .i64 f2, .int .i64 f3, .int .i64 f4, .int .i64 f5, .int .u8 (j0.toNat : Int), .int .u8 (j1.toNat : Int), .int .u8 (j2.toNat : Int), .int .u8 (j3.toNat : Int), .int .u8 (j4.toNat : Int), .int .u8 (j5.toNat : Int), .int .u8 (j6.toNat : Int), .int .u8 (j7.toNat : Int), .slice Ao no co, .slice Ab nb cb] rfl _ 27 hp (by rfl) (by kernel_rfl) (by kernel_rfl) ?_
        intro w10 hq gr
        replace hD := hD.away av_hD_p gr
        replace hB := hB.away av_hB_p gr
        replace hM := hM.away av_hM_p gr
        replace hd := blk_away hd gr zd d_d_p
        replace zd := Nat.lt_of_lt_of_le zd gr.size
        replace zp := Nat.lt_of_lt_of_le zp gr.size
        replace bel := below_grown bel gr op bel.size
        clear hp
        have hp := hq
        clear hq gr
        refine hK.out _ _ hd (fun hH11 => ?_)
        clear hK K
        refine wpAnyH_take (i := 8) (v := ?_) rfl (by kernel_rfl) (by kernel_rfl) (by kernel_rfl) (fun _ _ _ h => h) (Or.inl ⟨by rfl, ?_⟩) hH11 ?_
        rotate_left
        · ((intro W hW; clear hW; go_simp) <;> with_reducible rfl)
        simp only [Act.put, List.getElem_toArray, List.getElem_cons_zero, List.getElem_cons_succ, List.setIfInBounds_toArray, List.set_cons_zero, List.set_cons_succ]
        refine wpAnyH_done (by kernel_rfl) ?_ _
        go_wp2_with fail
        go_meet
        case rel => exact ⟨g7, f0, f1, f2, f3, f4, f5, j0, j1, j2, j3, j4, j5, j6, j7, Ao, no, co, Ab, nb, cb, er, rfl, rfl, hd, zd, hp, zp, op, d_d_p, hD, av_hD_d, av_hD_p, hB, av_hB_d, av_hB_p, hM, av_hM_d, av_hM_p, hne, bel⟩
      · simp only [List.getElem_toArray, List.getElem_cons_zero, List.getElem_cons_succ]
        rw [if_pos (by rfl)]
        refine wp_new_n 27 rfl (.agg #[.int .i64 0, .int .i64 0, .int .i64 0, .int .i64 0, .int .i64 0, .int .i64 0, .int .u8 0, .int .u8 0, .int .u8 0, .int .u8 0, .int .u8 0, .int .u8 0, .int .u8 0, .int .u8 0, .slice none 0 0, .slice none 0 0]) (by kernel_rfl) #[.int .i64 0, .int .i64 0, .int .i64 0, .int .i64 0, .int .i64 0, .int .i64 0, .int .u8 0, .int .u8 0, .int .u8 0, .int .u8 0, .int .u8 0, .int .u8 0, .int .u8 0, .int .u8 0, .slice none 0 0, .slice none 0 0] rfl ?_
        intro g7 w6 ge lt hh bb
        have d_d_p := ne_new zd ge
        have av_hD_p := hD.av_new ge
        have av_hB_p := hB.av_new ge
        have av_hM_p := hM.av_new ge
        have op := Nat.le_trans bel.size ge
        replace hd := blk_under hd bb zd
        replace zd := Nat.lt_of_lt_of_le zd bb.size
        replace hD := hD.below bb
        replace hB := hB.below bb
        replace hM := hM.below bb
        replace bel := bel.trans (bb.mono bel.size)
        have hp := hh
        have zp := lt
        clear hh lt ge bb
        refine hK.out _ _ hd (fun hH7 => ?_)
        clear hK K
        refine wpAnyH_ready (rs := [2]) (by kernel_rfl) (by simp) ?_
        refine AllReadyH.cons (o := _) rfl (fun K hK => ?_) AllReadyH.nil
        simp only [List.getElem_toArray, List.getElem_cons_zero, List.getElem_cons_succ]
        go_simp
        with_reducible refine (kput_bad _ _ _ _ _ _ _ hD (by have := H3.out; omega) HE.out).mono ?_
        rintro e w8 ⟨f0, f1, f2, f3, f4, f5, j0, j1, j2, j3, j4, j5, j6, j7, Ao, no, co, Ab, nb, cb, er, rfl, hne, b8⟩
        dsimp only
        replace hd := blk_under hd b8 zd
        replace zd := Nat.lt_of_lt_of_le zd b8.size
        replace hp := blk_under hp b8 zp
        replace zp := Nat.lt_of_lt_of_le zp b8.size
        replace hD := hD.below b8
        replace hB := hB.below b8
        replace hM := hM.below b8
        replace bel := bel.trans (b8.mono bel.size)
        clear b8
        refine hK.out _ _ hd (fun hH9 => ?_)
        clear hK K
        refine wpAnyH_take (i := 3) (v := ?_) rfl (by kernel_rfl) (by kernel_rfl) (by kernel_rfl) (fun _ _ _ h => h) (Or.inl ⟨by rfl, ?_⟩) hH9 ?_
        rotate_left
        · ((intro W hW; clear hW; go_simp) <;> with_reducible rfl)
        simp only [Act.put, List.getElem_toArray, List.getElem_cons_zero, List.getElem_cons_succ, List.setIfInBounds_toArray, List.set_cons_zero, List.set_cons_succ]
        refine wpAnyH_take (i := 4) (v := ?_) rfl (by kernel_rfl) (by kernel_rfl) (by kernel_rfl) (fun _ _ _ h => h) (Or.inl ⟨by rfl, ?_⟩) hH9 ?_
        rotate_left
        · ((intro W hW; clear hW; go_simp) <;> with_reducible rfl)
        simp only [Act.put, List.getElem_toArray, List.getElem_cons_zero, List.getElem_cons_succ, List.setIfInBounds_toArray, List.set_cons_zero, List.set_cons_succ]
        refine wpAnyH_take (i := 5) (v := ?_) rfl (by kernel_rfl) (by kernel_rfl) (by kernel_rfl) (fun _ _ _ h => h) (Or.inl ⟨by rfl, ?_⟩) hH9 ?_
        rotate_left
        · ((intro W hW; clear hW; go_simp) <;> with_reducible rfl)
        simp only [Act.put, List.getElem_toArray, List.getElem_cons_zero, List.getElem_cons_succ, List.setIfInBounds_toArray, List.set_cons_zero, List.set_cons_succ]
        refine wpAnyH_ready (rs := [7]) (by kernel_rfl) (by simp) ?_
        refine AllReadyH.cons (o := _) rfl (fun K hK => ?_) AllReadyH.nil
        simp only [List.getElem_toArray, List.getElem_cons_zero, List.getElem_cons_succ]
        rw [if_pos (by rfl)]
        refine wp_store_blk 27 (.tmp 7) (.tmp 35) rfl g7 rfl #[.int .i64 f0, .int .i64 f1, .int .i64 f2, .int .i64 f3, .int .i64 f4, .int .i64 f5, .int .u8 (j0.toNat : Int), .int .u8 (j1.toNat : Int), .int .u8 (j2.toNat : Int), .int .u8 (j3.toNat : Int), .int .u8 (j4.toNat : Int), .int .u8 (j5.toNat : Int), .int .u8 (j6.toNat : Int), .int .u8 (j7.toNat : Int), .slice Ao no co, .slice Ab nb cb] rfl _ 27 hp (by rfl) (by kernel_rfl) (by kernel_rfl) ?_
        intro w10 hq gr
        replace hD := hD.away av_hD_p gr
        replace hB := hB.away av_hB_p gr
        replace hM := hM.away av_hM_p gr
        replace hd := blk_away hd gr zd d_d_p
        replace zd := Nat.lt_of_lt_of_le zd gr.size
        replace zp := Nat.lt_of_lt_of_le zp gr.size
        replace bel := below_grown bel gr op bel.size
        clear hp
        have hp := hq
        clear hq gr
        refine hK.out _ _ hd (fun hH11 => ?_)
        clear hK K
        refine wpAnyH_take (i := 8) (v := ?_) rfl (by kernel_rfl) (by kernel_rfl) (by kernel_rfl) (fun _ _ _ h => h) (Or.inl ⟨by rfl, ?_⟩) hH11 ?_
        rotate_left
        · ((intro W hW; clear hW; go_simp) <;> with_reducible rfl)
        simp only [Act.put, List.getElem_toArray, List.getElem_cons_zero, List.getElem_cons_succ, List.setIfInBounds_toArray, List.set_cons_zero, List.set_cons_succ]
        refine wpAnyH_done (by kernel_rfl) ?_ _
        go_wp2_with fail
        go_meet
        case rel => exact ⟨g7, f0, f1, f2, f3, f4, f5, j0, j1, j2, j3, j4, j5, j6, j7, Ao, no, co, Ab, nb, cb, er, rfl, rfl, hd, zd, hp, zp, op, d_d_p, hD, av_hD_d, av_hD_p, hB, av_hB_d, av_hB_p, hM, av_hM_d, av_hM_p, hne, bel⟩
    · simp only [List.getElem_toArray, List.getElem_cons_zero, List.getElem_cons_succ]
      rw [if_pos (by rfl)]
      refine wp_new_n 27 rfl (.agg #[.int .i64 0, .int .i64 0, .int .i64 0, .int .i64 0, .int .i64 0, .int .i64 0, .int .u8 0, .int .u8 0, .int .u8 0, .int .u8 0, .int .u8 0, .int .u8 0, .int .u8 0, .int .u8 0, .slice none 0 0, .slice none 0 0]) (by kernel_rfl) #[.int .i64 0, .int .i64 0, .int .i64 0, .int .i64 0, .int .i64 0, .int .i64 0, .int .u8 0, .int .u8 0, .int .u8 0, .int .u8 0, .int .u8 0, .int .u8 0, .int .u8 0, .int .u8 0, .slice none 0 0, .slice none 0 0] rfl ?_
      intro g7 w4 ge lt hh bb
      have d_d_p := ne_new zd ge
      have av_hD_p := hD.av_new ge
      have av_hB_p := hB.av_new ge
      have av_hM_p := hM.av_new ge
      have op := Nat.le_trans bel.size ge
      replace hd := blk_under hd bb zd
      replace zd := Nat.lt_of_lt_of_le zd bb.size
      replace hD := hD.below bb
      replace hB := hB.below bb
      replace hM := hM.below bb
      replace bel := bel.trans (bb.mono bel.size)
      have hp := hh
      have zp := lt
      clear hh lt ge bb
      refine hK.out _ _ hd (fun hH5 => ?_)
      clear hK K
      refine wpAnyH_ready (rs := [0]) (by kernel_rfl) (by simp) ?_
      refine AllReadyH.cons (o := _) rfl (fun K hK => ?_) AllReadyH.nil
      simp only [List.getElem_toArray, List.getElem_cons_zero]
      go_simp
      with_reducible refine (base7 _).mono ?_
      rintro e w6 ⟨rfl, b6⟩
      dsimp only
      replace hd := blk_under hd b6 zd
      replace zd := Nat.lt_of_lt_of_le zd b6.size
      replace hp := blk_under hp b6 zp
      replace zp := Nat.lt_of_lt_of_le zp b6.size
      replace hD := hD.below b6
      replace hB := hB.below b6
      replace hM := hM.below b6
      replace bel := bel.trans (b6.mono bel.size)
      clear b6
      refine hK.out _ _ hd (fun hH7 => ?_)
      clear hK K
      refine wpAnyH_ready (rs := [2]) (by kernel_rfl) (by simp) ?_
      refine AllReadyH.cons (o := _) rfl (fun K hK => ?_) AllReadyH.nil
      simp only [List.getElem_toArray, List.getElem_cons_zero, List.getElem_cons_succ]
      go_simp
      with_reducible refine (kput_bad _ _ _ _ _ _ _ hD (by have := H3.out; omega) HE.out).mono ?_
      rintro e w8 ⟨f0, f1, f2, f3, f4, f5, j0, j1, j2, j3, j4, j5, j6, j7, Ao, no, co, Ab, nb, cb, er, rfl, hne, b8⟩
      dsimp only
      replace hd := blk_under hd b8 zd
      replace zd := Nat.lt_of_lt_of_le zd b8.size
      replace hp := blk_under hp b8 zp
      replace zp := Nat.lt_of_lt_of_le zp b8.size
      replace hD := hD.below b8
      replace hB := hB.below b8
      replace hM := hM.below b8
      replace bel := bel.trans (b8.mono bel.size)
      clear b8
      refine hK.out _ _ hd (fun hH9 => ?_)
      clear hK K
      refine wpAnyH_take (i := 3) (v := ?_) rfl (by kernel_rfl) (by kernel_rfl) (by kernel_rfl) (fun _ _ _ h => h) (Or.inl ⟨by rfl, ?_⟩) hH9 ?_
      rotate_left
      · ((intro W hW; clear hW; go_simp) <;> with_reducible rfl)
      simp only [Act.put, List.getElem_toArray, List.getElem_cons_zero, List.getElem_cons_succ, List.setIfInBounds_toArray, List.set_cons_zero, List.set_cons_succ]
      refine wpAnyH_take (i := 4) (v := ?_) rfl (by kernel_rfl) (by kernel_rfl) (by kernel_rfl) (fun _ _ _ h => h) (Or.inl ⟨by rfl, ?_⟩) hH9 ?_
      rotate_left
      · ((intro W hW; clear hW; go_simp) <;> with_reducible rfl)
      simp only [Act.put, List.getElem_toArray, List.getElem_cons_zero, List.getElem_cons_succ, List.setIfInBounds_toArray, List.set_cons_zero, List.set_cons_succ]
      refine wpAnyH_take (i := 5) (v := ?_) rfl (by kernel_rfl) (by kernel_rfl) (by kernel_rfl) (fun _ _ _ h => h) (Or.inl ⟨by rfl, ?_⟩) hH9 ?_
      rotate_left
      · ((intro W hW; clear hW; go_simp) <;> with_reducible rfl)
      simp only [Act.put, List.getElem_toArray, List.getElem_cons_zero, List.getElem_cons_succ, List.setIfInBounds_toArray, List.set_cons_zero, List.set_cons_succ]
      refine wpAnyH_ready (rs := [7]) (by kernel_rfl) (by simp) ?_
      refine AllReadyH.cons (o := _) rfl (fun K hK => ?_) AllReadyH.nil
      simp only [List.getElem_toArray, List.getElem_cons_zero, List.getElem_cons_succ]
      rw [if_pos (by rfl)]
      refine wp_store_blk 27 (.tmp 7) (.tmp 35) rfl g7 rfl #[.int .i64 f0, .int .i64 f1, .int .i64 f2, .int .i64 f3, .int .i64 f4, .int .i64 f5, .int .u8 (j0.toNat : Int), .int .u8 (j1.toNat : Int), .int .u8 (j2.toNat : Int), .int .u8 (j3.toNat : Int), .int .u8 (j4.toNat : Int), .int .u8 (j5.toNat : Int), .int .u8 (j6.toNat : Int), .int .u8 (j7.toNat : Int), .slice Ao no co, .slice Ab nb cb] rfl _ 27 hp (by rfl) (by kernel_rfl) (by kernel_rfl) ?_
      intro w10 hq gr
      replace hD := hD.away av_hD_p gr
      replace hB := hB.away av_hB_p gr
      replace hM := hM.away av_hM_p gr
      replace hd := blk_away hd gr zd d_d_p
      replace zd := Nat.lt_of_lt_of_le zd gr.size
      replace zp := Nat.lt_of_lt_of_le zp gr.size
      replace bel := below_grown bel gr op bel.size
      clear hp
      have hp := hq
      clear hq gr
      refine hK.out _ _ hd (fun hH11 => ?_)
      clear hK K
      refine wpAnyH_take (i := 8) (v := ?_) rfl (by kernel_rfl) (by kernel_rfl) (by kernel_rfl) (fun _ _ _ h => h) (Or.inl ⟨by rfl, ?_⟩) hH11 ?_
      rotate_left
      · ((intro W hW; clear hW; go_simp) <;> with_reducible rfl)
      simp only [Act.put, List.getElem_toArray, List.getElem_cons_zero, List.getElem_cons_succ, List.setIfInBounds_toArray, List.set_cons_zero, List.set_cons_succ]
      refine wpAnyH_done (by kernel_rfl) ?_ _
      go_wp2_with fail
      go_meet
      case rel => exact ⟨g7, f0, f1, f2, f3, f4, f5, j0, j1, j2, j3, j4, j5, j6, j7, Ao, no, co, Ab, nb, cb, er, rfl, rfl, hd, zd, hp, zp, op, d_d_p, hD, av_hD_d, av_hD_p, hB, av_hB_d, av_hB_p, hM, av_hM_d, av_hM_p, hne, bel⟩
  obtain ⟨w12, hw_⟩ : ∃ x, x = wc := ⟨_, rfl⟩
  subst hw_
  obtain ⟨g7, f0, f1, f2, f3, f4, f5, j0, j1, j2, j3, j4, j5, j6, j7, Ao, no, co, Ab, nb, cb, er, rfl, rfl, hd, zd, hp, zp, op, d_d_p, hD, av_hD_d, av_hD_p, hB, av_hB_d, av_hB_p, hM, av_hM_d, av_hM_p, hne, bel⟩ := hcut
  have t8 : (er == 0) = false := by simpa using hne.out
  have t9 : (er != 0) = true := by simpa using hne.out
  go_wp2_with fail
  go_ret
  exact ⟨rfl, bel⟩
set_option linter.unusedVariables false in
set_option maxRecDepth 100000 in
set_option maxHeartbeats 16000000 in
theorem udpNone_5 (df dt : Int) (D : Option Addr) (nd cd : Nat) (ld : List UInt8) (Q : Option Addr) (qb : Nat) (lq : List UInt8) (M : Option Addr) (mm qm : Nat) (lm : List UInt8) (w : World) (hD : Sl w D nd cd ld) (hB : Sl w Q nd qb lq) (hM : Sl w M mm qm lm) (h3 : nd ≤ 500) (h4 : mm ≤ 50) (g1 : portOk df = true) (g2 : portOk dt = true) (g3 : nd ≤ 1472) : Calls Try.prog 7 #[.agg #[.int .i64 df, .int .i64 dt, .slice D nd cd], .slice Q nd qb, .slice M mm qm] w fun e w' => e = .returned (.bool true) ∧ Below w.heap.size w w' := by
  obtain ⟨ii, hii, hz0, hz1, hz2⟩ := info_parts Try.info5
  have t1 : decide ((500 : Int) < nd) = false := decide_eq_false (by omega)
  have H3 := Lib.hid h3
  clear h3
  have t6 : decide ((50 : Int) < mm) = false := decide_eq_false (by omega)
  have H4 := Lib.hid h4
  clear h4
  have HG : Hid (udGet 0 0 17 10 0 0 1 10 0 0 2 (((((udBytes 10 0 0 1 10 0 0 2 df dt ld).take 8 ++ lq).set 6 0).set 7 0) ++ lm) = ((df, dt), lq, 0)) := Lib.hid (udp_none (fl := 0) (pt := 0) (by decide) 10 0 0 1 10 0 0 2 10 0 0 1 10 0 0 2 g1 g2 ld lq lm (by rw [hD.1]; exact g3) (by rw [hB.1, hD.1]))
  have m6 : (6 : Int) < 8 + (nd : Int) := by omega
  have m7 : (7 : Int) < 8 + (nd : Int) := by omega
  have G1 := Lib.hid g1
  have G2 := Lib.hid g2
  have G3 := Lib.hid g3
  clear g1 g2 g3
  have bel := Below.refl w.heap.size w
  go_enter Try.func7, Try.ntmps7
  go_wp2_with (first | ((with_reducible show wpList _ _ _ (⟨some 3, _, _, _, _, _⟩ :: _) _ _); refine wpList_box_n rfl 33 (.tmp 0) rfl #[.int .i64 df, .int .i64 dt, .slice D nd cd] rfl ?_; intro g3 w1 ge lt hh bb; have av_hD_d := hD.av_new ge; have av_hB_d := hB.av_new ge; have av_hM_d := hM.av_new ge; have od := Nat.le_trans bel.size ge; replace hD := hD.below bb; replace hB := hB.below bb; replace hM := hM.below bb; replace bel := bel.trans (bb.mono bel.size); have hd := hh; have zd := lt; clear hh lt ge bb))
  with_reducible refine (awake7 _).mono ?_
  rintro e w2 ⟨rfl, b2⟩
  replace hd := blk_under hd b2 zd
  replace zd := Nat.lt_of_lt_of_le zd b2.size
  replace hD := hD.below b2
  replace hB := hB.below b2
  replace hM := hM.below b2
  replace bel := bel.trans (b2.mono bel.size)
  clear b2
  have R15 := cell_lit hd 2 _ rfl
  have R22 := cell_lit hd 2 _ rfl
  go_wp2_with fail
  clear R15 R22
  go_cut [7, 8] from 9999 (fun s7 s8 W => ∃ g7 : Nat, ∃ Ab : Option Addr, ∃ cb : Nat, ∃ Ao : Option Addr, ∃ co : Nat, s7 = .pointer (some ⟨g7, 0, none⟩) ∧ s8 = .int .i64 0 ∧ W.heap[g3]? = some (.cells #[.int .i64 df, .int .i64 dt, .slice D nd cd] 33 (0, 0)) ∧ g3 < W.heap.size ∧ W.heap[g7]? = some (.cells #[.int .i64 0, .int .i64 0, .int .i64 0, .int .i64 0, .int .i64 64, .int .i64 17, .int .u8 10, .int .u8 0, .int .u8 0, .int .u8 1, .int .u8 10, .int .u8 0, .int .u8 0, .int .u8 2, .slice Ao 0 co, .slice Ab (8 + nd) cb] 27 (0, 0)) ∧ g7 < W.heap.size ∧ w.heap.size ≤ g7 ∧ Hid (g3 ≠ g7) ∧ Sl W (D) (nd) (cd) (ld) ∧ Av (D) (nd) g3 ∧ Av (D) (nd) g7 ∧ Sl W (Q) (nd) (qb) (lq) ∧ Av (Q) (nd) g3 ∧ Av (Q) (nd) g7 ∧ Sl W (M) (mm) (qm) (lm) ∧ Av (M) (mm) g3 ∧ Av (M) (mm) g7 ∧ Sl W (Ab) (8 + nd) (cb) (udBytes 10 0 0 1 10 0 0 2 df dt ld) ∧ Av (Ab) (8 + nd) g3 ∧ Av (Ab) (8 + nd) g7 ∧ Below w.heap.size w W)
  case first =>
    replace bel := bel.drew
    replace hd : w2.drew.heap[g3]? = _ := hd
    replace zd : _ < w2.drew.heap.size := zd
    replace hD := hD.drew
    replace hB := hB.drew
    replace hM := hM.drew
    refine wp_region_held_drew (S := fun W => W.heap[g3]? = some (.cells #[.int .i64 df, .int .i64 dt, .slice D nd cd] 33 (0, 0))) (by kernel_rfl) hd (fun hH => ?_)
    generalize w2.drew = w3 at bel hd zd hD hB hM hH ⊢
    refine wpAnyH_take (i := 1) (v := .agg #[.int .i64 df, .int .i64 dt, .slice D nd cd]) rfl (by kernel_rfl) (by kernel_rfl) (by kernel_rfl) (fun _ _ _ h => h) (yieldsIf_load_part (by kernel_rfl) 33 _ rfl g3 0 3 rfl [.int .i64 df, .int .i64 dt, .slice D nd cd] 33 (0, 0) (fun W hW => hW) [.int .i64 df, .int .i64 dt, .slice D nd cd] rfl _ Try.underlying33 rfl (by kernel_rfl)) hH ?_
    simp only [Act.put, List.getElem_toArray, List.getElem_cons_zero, List.getElem_cons_succ, List.setIfInBounds_toArray, List.set_cons_zero, List.set_cons_succ]
    refine wpAnyH_ready (rs := [0, 6]) (by kernel_rfl) (by simp) ?_
    refine AllReadyH.cons (o := _) rfl (fun K hK => ?_) (AllReadyH.cons (o := _) rfl (fun K hK => ?_) AllReadyH.nil)
    · simp only [List.getElem_toArray, List.getElem_cons_zero]
      go_simp
      with_reducible refine (base7 _).mono ?_
      rintro e w4 ⟨rfl, b4⟩
      dsimp only
      replace hd := blk_under hd b4 zd
      replace zd := Nat.lt_of_lt_of_le zd b4.size
      replace hD := hD.below b4
      replace hB := hB.below b4
      replace hM := hM.below b4
      replace bel := bel.trans (b4.mono bel.size)
      clear b4
      refine hK.out _ _ hd (fun hH5 => ?_)
      clear hK K
      refine wpAnyH_ready (rs := [2, 6]) (by kernel_rfl) (by simp) ?_
      refine AllReadyH.cons (o := _) rfl (fun K hK => ?_) (AllReadyH.cons (o := _) rfl (fun K hK => ?_) AllReadyH.nil)
      · simp only [List.getElem_toArray, List.getElem_cons_zero, List.getElem_cons_succ]
        go_simp
        with_reducible refine (kput_ok _ _ _ _ _ _ _ hD G1.out G2.out G3.out).mono ?_
        rintro e w6 ⟨Ao, co, Ab, cb, rfl, _, pb, fb, b6⟩
        dsimp only
        have av_pb_d := fb.av zd
        replace hd := blk_under hd b6 zd
        replace zd := Nat.lt_of_lt_of_le zd b6.size
        replace hD := hD.below b6
        replace hB := hB.below b6
        replace hM := hM.below b6
        replace bel := bel.trans (b6.mono bel.size)
        clear b6
        replace pb : Sl w6 (Ab) (8 + nd) (cb) (udBytes 10 0 0 1 10 0 0 2 df dt ld) := pb
        refine hK.out _ _ hd (fun hH7 => ?_)
        clear hK K
        refine wpAnyH_take (i := 3) (v := ?_) rfl (by kernel_rfl) (by kernel_rfl) (by kernel_rfl) (fun _ _ _ h => h) (Or.inl ⟨by rfl, ?_⟩) hH7 ?_
        rotate_left
        · ((intro W hW; clear hW; go_simp) <;> with_reducible rfl)
        simp only [Act.put, List.getElem_toArray, List.getElem_cons_zero, List.getElem_cons_succ, List.setIfInBounds_toArray, List.set_cons_zero, List.set_cons_succ]
        refine wpAnyH_take (i := 4) (v := ?_) rfl (by kernel_rfl) (by kernel_rfl) (by kernel_rfl) (fun _ _ _ h => h) (Or.inl ⟨by rfl, ?_⟩) hH7 ?_
        rotate_left
        · ((intro W hW; clear hW; go_simp) <;> with_reducible rfl)
        simp only [Act.put, List.getElem_toArray, List.getElem_cons_zero, List.getElem_cons_succ, List.setIfInBounds_toArray, List.set_cons_zero, List.set_cons_succ]
        refine wpAnyH_take (i := 5) (v := ?_) rfl (by kernel_rfl) (by kernel_rfl) (by kernel_rfl) (fun _ _ _ h => h) (Or.inl ⟨by rfl, ?_⟩) hH7 ?_
        rotate_left
        · ((intro W hW; clear hW; go_simp) <;> with_reducible rfl)
        simp only [Act.put, List.getElem_toArray, List.getElem_cons_zero, List.getElem_cons_succ, List.setIfInBounds_toArray, List.set_cons_zero, List.set_cons_succ]
        refine wpAnyH_ready (rs := [6]) (by kernel_rfl) (by simp) ?_
        refine AllReadyH.cons (o := _) rfl (fun K hK => ?_) AllReadyH.nil
        simp only [List.getElem_toArray, List.getElem_cons_zero, List.getElem_cons_succ]
        rw [if_pos (by rfl)]
        refine wp_new_n 27 rfl (.agg #[.int .i64 0, .int .i64 0, .int .i64 0, .int .i64 0, .int .i64 0, .int .i64 0, .int .u8 0, .int .u8 0, .int .u8 0, .int .u8 0, .int .u8 0, .int .u8 0, .int .u8 0, .int .u8 0, .slice none 0 0, .slice none 0 0]) (by kernel_rfl) #[.int .i64 0, .int .i64 0, .int .i64 0, .int .i64 0, .int .i64 0, .int .i64 0, .int .u8 0, .int .u8 0, .int .u8 0, .int .u8 0, .int .u8 0, .int .u8 0, .int .u8 0, .int .u8 0, .slice none 0 0, .slice none 0 0] rfl ?_
        intro g7 w8 ge lt hh bb
        have d_d_p := ne_new zd ge
        have av_hD_p := hD.av_new ge
        have av_hB_p := hB.av_new ge
        have av_hM_p := hM.av_new ge
        have av_pb_p := pb.av_new ge
        have op := Nat.le_trans bel.size ge
        replace hd := blk_under hd bb zd
        replace zd := Nat.lt_of_lt_of_le zd bb.size
        replace hD := hD.below bb
        replace hB := hB.below bb
        replace hM := hM.below bb
        replace pb := pb.below bb
        replace bel := bel.trans (bb.mono bel.size)
        have hp := hh
        have zp := lt
        clear hh lt ge bb
        refine hK.out _ _ hd (fun hH9 => ?_)
        clear hK K
        refine wpAnyH_ready (rs := [7]) (by kernel_rfl) (by simp) ?_
        refine AllReadyH.cons (o := _) rfl (fun K hK => ?_) AllReadyH.nil
        simp only [List.getElem_toArray, List.getElem_cons_zero, List.getElem_cons_succ]
        rw [if_pos (by rfl)]
        refine wp_store_blk 27 (.tmp 7) (.tmp 35) rfl g7 rfl #[.int .i64 0, .int .i64 0, .int .i64 0, .int .i64 0, .int .i64 64, .int .i64 17, .int .u8 10, .int .u8 0, .int .u8 0, .int .u8 1, .int .u8 10, .int .u8 0, .int .u8 0, .int .u8 2, .slice Ao 0 co, .slice Ab (8 + nd) cb] rfl _ 27 hp (by rfl) (by kernel_rfl) (by kernel_rfl) ?_
        intro w10 hq gr
        replace hD := hD.away av_hD_p gr
        replace hB := hB.away av_hB_p gr
        replace hM := hM.away av_hM_p gr
        replace pb := pb.away av_pb_p gr
        replace hd := blk_away hd gr zd d_d_p
        replace zd := Nat.lt_of_lt_of_le zd gr.size
        replace zp := Nat.lt_of_lt_of_le zp gr.size
        replace bel := below_grown bel gr op bel.size
        clear hp
        have hp := hq
        clear hq gr
        refine hK.out _ _ hd (fun hH11 => ?_)
        clear hK K
        refine wpAnyH_take (i := 8) (v := ?_) rfl (by kernel_rfl) (by kernel_rfl) (by kernel_rfl) (fun _ _ _ h => h) (Or.inl ⟨by rfl, ?_⟩) hH11 ?_
        rotate_left
        · ((intro W hW; clear hW; go_simp) <;> with_reducible rfl)
        simp only [Act.put, List.getElem_toArray, List.getElem_cons_zero, List.getElem_cons_succ, List.setIfInBounds_toArray, List.set_cons_zero, List.set_cons_succ]
        refine wpAnyH_done (by kernel_rfl) ?_ _
        go_wp2_with fail
        go_meet
        case rel => exact ⟨g7, Ab, cb, Ao, co, rfl, rfl, hd, zd, hp, zp, op, d_d_p, hD, av_hD_d, av_hD_p, hB, av_hB_d, av_hB_p, hM, av_hM_d, av_hM_p, pb, av_pb_d, av_pb_p, bel⟩
      · simp only [List.getElem_toArray, List.getElem_cons_zero, List.getElem_cons_succ]
        rw [if_pos (by rfl)]
        refine wp_new_n 27 rfl (.agg #[.int .i64 0, .int .i64 0, .int .i64 0, .int .i64 0, .int .i64 0, .int .i64 0, .int .u8 0, .int .u8 0, .int .u8 0, .int .u8 0, .int .u8 0, .int .u8 0, .int .u8 0, .int .u8 0, .slice none 0 0, .slice none 0 0]) (by kernel_rfl) #[.int .i64 0, .int .i64 0, .int .i64 0, .int .i64 0, .int .i64 0, .int .i64 0, .int .u8 0, .int .u8 0, .int .u8 0, .int .u8 0, .int .u8 0, .int .u8 0, .int .u8 0, .int .u8 0, .slice none 0 0, .slice none 0 0] rfl ?_
        intro g7 w6 ge lt hh bb
        have d_d_p := ne_new zd ge
        have av_hD_p := hD.av_new ge
        have av_hB_p := hB.av_new ge
        have av_hM_p := hM.av_new ge
        have op := Nat.le_trans bel.size ge
        replace hd := blk_under hd bb zd
        replace zd := Nat.lt_of_lt_of_le zd bb.size
        replace hD := hD.below bb
        replace hB := hB.below bb
        replace hM := hM.below bb
        replace bel := bel.trans (bb.mono bel.size)
        have hp := hh
        have zp := lt
        clear hh lt ge bb
        refine hK.out _ _ hd (fun hH7 => ?_)
        clear hK K
        refine wpAnyH_ready (rs := [2]) (by kernel_rfl) (by simp) ?_
        refine AllReadyH.cons (o := _) rfl (fun K hK => ?_) AllReadyH.nil
        simp only [List.getElem_toArray, List.getElem_cons_zero, List.getElem_cons_succ]
        go_simp
        with_reducible refine (kput_ok _ _ _ _ _ _ _ hD G1.out G2.out G3.out).mono ?_
        rintro e w8 ⟨Ao, co, Ab, cb, rfl, _, pb, fb, b8⟩
        dsimp only
        have av_pb_d := fb.av zd
        have av_pb_p := fb.av zp
        replace hd := blk_under hd b8 zd
        replace zd := Nat.lt_of_lt_of_le zd b8.size
        replace hp := blk_under hp b8 zp
        replace zp := Nat.lt_of_lt_of_le zp b8.size
        replace hD := hD.below b8
        replace hB := hB.below b8
        replace hM := hM.below b8
        replace bel := bel.trans (b8.mono bel.size)
        clear b8
        replace pb : Sl w8 (Ab) (8 + nd) (cb) (udBytes 10 0 0 1 10 0 0 2 df dt ld) := pb
        refine hK.out _ _ hd (fun hH9 => ?_)
        clear hK K
        refine wpAnyH_take (i := 3) (v := ?_) rfl (by kernel_rfl) (by kernel_rfl) (by kernel_rfl) (fun _ _ _ h => h) (Or.inl ⟨by rfl, ?_⟩) hH9 ?_
        rotate_left
        · ((intro W hW; clear hW; go_simp) <;> with_reducible rfl)
        simp only [Act.put, List.getElem_toArray, List.getElem_cons_zero, List.getElem_cons_succ, List.setIfInBounds_toArray, List.set_cons_zero, List.set_cons_succ]
        refine wpAnyH_take (i := 4) (v := ?_) rfl (by kernel_rfl) (by kernel_rfl) (by kernel_rfl) (fun _ _ _ h => h) (Or.inl ⟨by rfl, ?_⟩) hH9 ?_
        rotate_left
        · ((intro W hW; clear hW; go_simp) <;> with_reducible rfl)
        simp only [Act.put, List.getElem_toArray, List.getElem_cons_zero, List.getElem_cons_succ, List.setIfInBounds_toArray, List.set_cons_zero, List.set_cons_succ]
        refine wpAnyH_take (i := 5) (v := ?_) rfl (by kernel_rfl) (by kernel_rfl) (by kernel_rfl) (fun _ _ _ h => h) (Or.inl ⟨by rfl, ?_⟩) hH9 ?_
        rotate_left
        · ((intro W hW; clear hW; go_simp) <;> with_reducible rfl)
        simp only [Act.put, List.getElem_toArray, List.getElem_cons_zero, List.getElem_cons_succ, List.setIfInBounds_toArray, List.set_cons_zero, List.set_cons_succ]
        refine wpAnyH_ready (rs := [7]) (by kernel_rfl) (by simp) ?_
        refine AllReadyH.cons (o := _) rfl (fun K hK => ?_) AllReadyH.nil
        simp only [List.getElem_toArray, List.getElem_cons_zero, List.getElem_cons_succ]
        rw [if_pos (by rfl)]
        refine wp_store_blk 27 (.tmp 7) (.tmp 35) rfl g7 rfl #[.int .i64 0, .int .i64 0, .int .i64 0, .int .i64 0, .int .i64 64, .int .i64 17, .int .u8 10, .int .u8 0, .int .u8 0, .int .u8 1, .int .u8 10, .int .u8 0, .int .u8 0, .int .u8 2, .slice Ao 0 co, .slice Ab (8 + nd) cb] rfl _ 27 hp (by rfl) (by kernel_rfl) (by kernel_rfl) ?_
        intro w10 hq gr
        replace hD := hD.away av_hD_p gr
        replace hB := hB.away av_hB_p gr
        replace hM := hM.away av_hM_p gr
        replace pb := pb.away av_pb_p gr
        replace hd := blk_away hd gr zd d_d_p
        replace zd := Nat.lt_of_lt_of_le zd gr.size
        replace zp := Nat.lt_of_lt_of_le zp gr.size
        replace bel := below_grown bel gr op bel.size
        clear hp
        have hp := hq
        clear hq gr
        refine hK.out _ _ hd (fun hH11 => ?_)
        clear hK K
        refine wpAnyH_take (i := 8) (v := ?_) rfl (by kernel_rfl) (by kernel_rfl) (by kernel_rfl) (fun _ _ _ h => h) (Or.inl ⟨by rfl, ?_⟩) hH11 ?_
        rotate_left
        · ((intro W hW; clear hW; go_simp) <;> with_reducible rfl)
        simp only [Act.put, List.getElem_toArray, List.getElem_cons_zero, List.getElem_cons_succ, List.setIfInBounds_toArray, List.set_cons_zero, List.set_cons_succ]
        refine wpAnyH_done (by kernel_rfl) ?_ _
        go_wp2_with fail
        go_meet
        case rel => exact ⟨g7, Ab, cb, Ao, co, rfl, rfl, hd, zd, hp, zp, op, d_d_p, hD, av_hD_d, av_hD_p, hB, av_hB_d, av_hB_p, hM, av_hM_d, av_hM_p, pb, av_pb_d, av_pb_p, bel⟩
    · simp only [List.getElem_toArray, List.getElem_cons_zero, List.getElem_cons_succ]
      rw [if_pos (by rfl)]
      refine wp_new_n 27 rfl (.agg #[.int .i64 0, .int .i64 0, .int .i64 0, .int .i64 0, .int .i64 0, .int .i64 0, .int .u8 0, .int .u8 0, .int .u8 0, .int .u8 0, .int .u8 0, .int .u8 0, .int .u8 0, .int .u8 0, .slice none 0 0, .slice none 0 0]) (by kernel_rfl) #[.int .i64 0, .int .i64 0, .int .i64 0, .int .i64 0, .int .i64 0, .int .i64 0, .int .u8 0, .int .u8 0, .int .u8 0, .int .u8 0, .int .u8 0, .int .u8 0, .int .u8 0, .int .u8 0, .slice none 0 0, .slice none 0 0] rfl ?_
      intro g7 w4 ge lt hh bb
      have d_d_p := ne_new zd ge
      have av_hD_p := hD.av_new ge
      have av_hB_p := hB.av_new ge
      have av_hM_p := hM.av_new ge
      have op := Nat.le_trans bel.size ge
      replace hd := blk_under hd bb zd
      replace zd := Nat.lt_of_lt_of_le zd bb.size
      replace hD := hD.below bb
      replace hB := hB.below bb
      replace hM := hM.below bb
      replace bel := bel.trans (bb.mono bel.size)
      have hp := hh
      have zp := lt
      clear hh lt ge bb
      refine hK.out _ _ hd (fun hH5 => ?_)
      clear hK K
      refine wpAnyH_ready (rs := [0]) (by kernel_rfl) (by simp) ?_
      refine AllReadyH.cons (o := _) rfl (fun K hK => ?_) AllReadyH.nil
      simp only [List.getElem_toArray, List.getElem_cons_zero]
      go_simp
      with_reducible refine (base7 _).mono ?_
      rintro e w6 ⟨rfl, b6⟩
      dsimp only
      replace hd := blk_under hd b6 zd
      replace zd := Nat.lt_of_lt_of_le zd b6.size
      replace hp := blk_under hp b6 zp
      replace zp := Nat.lt_of_lt_of_le zp b6.size
      replace hD := hD.below b6
      replace hB := hB.below b6
      replace hM := hM.below b6
      replace bel := bel.trans (b6.mono bel.size)
      clear b6
      refine hK.out _ _ hd (fun hH7 => ?_)
      clear hK K
      refine wpAnyH_ready (rs := [2]) (by kernel_rfl) (by simp) ?_
      refine AllReadyH.cons (o := _) rfl (fun K hK => ?_) AllReadyH.nil
      simp only [List.getElem_toArray, List.getElem_cons_zero, List.getElem_cons_succ]
      go_simp
      with_reducible refine (kput_ok _ _ _ _ _ _ _ hD G1.out G2.out G3.out).mono ?_
      rintro e w8 ⟨Ao, co, Ab, cb, rfl, _, pb, fb, b8⟩
      dsimp only
      have av_pb_d := fb.av zd
      have av_pb_p := fb.av zp
      replace hd := blk_under hd b8 zd
      replace zd := Nat.lt_of_lt_of_le zd b8.size
      replace hp := blk_under hp b8 zp
      replace zp := Nat.lt_of_lt_of_le zp b8.size
      replace hD := hD.below b8
      replace hB := hB.below b8
      replace hM := hM.below b8
      replace bel := bel.trans (b8.mono bel.size)
      clear b8
      replace pb : Sl w8 (Ab) (8 + nd) (cb) (udBytes 10 0 0 1 10 0 0 2 df dt ld) := pb
      refine hK.out _ _ hd (fun hH9 => ?_)
      clear hK K
      refine wpAnyH_take (i := 3) (v := ?_) rfl (by kernel_rfl) (by kernel_rfl) (by kernel_rfl) (fun _ _ _ h => h) (Or.inl ⟨by rfl, ?_⟩) hH9 ?_
      rotate_left
      · ((intro W hW; clear hW; go_simp) <;> with_reducible rfl)
      simp only [Act.put, List.getElem_toArray, List.getElem_cons_zero, List.getElem_cons_succ, List.setIfInBounds_toArray, List.set_cons_zero, List.set_cons_succ]
      refine wpAnyH_take (i := 4) (v := ?_) rfl (by kernel_rfl) (by kernel_rfl) (by kernel_rfl) (fun _ _ _ h => h) (Or.inl ⟨by rfl, ?_⟩) hH9 ?_
      rotate_left
      · ((intro W hW; clear hW; go_simp) <;> with_reducible rfl)
      simp only [Act.put, List.getElem_toArray, List.getElem_cons_zero, List.getElem_cons_succ, List.setIfInBounds_toArray, List.set_cons_zero, List.set_cons_succ]
      refine wpAnyH_take (i := 5) (v := ?_) rfl (by kernel_rfl) (by kernel_rfl) (by kernel_rfl) (fun _ _ _ h => h) (Or.inl ⟨by rfl, ?_⟩) hH9 ?_
      rotate_left
      · ((intro W hW; clear hW; go_simp) <;> with_reducible rfl)
      simp only [Act.put, List.getElem_toArray, List.getElem_cons_zero, List.getElem_cons_succ, List.setIfInBounds_toArray, List.set_cons_zero, List.set_cons_succ]
      refine wpAnyH_ready (rs := [7]) (by kernel_rfl) (by simp) ?_
      refine AllReadyH.cons (o := _) rfl (fun K hK => ?_) AllReadyH.nil
      simp only [List.getElem_toArray, List.getElem_cons_zero, List.getElem_cons_succ]
      rw [if_pos (by rfl)]
      refine wp_store_blk 27 (.tmp 7) (.tmp 35) rfl g7 rfl #[.int .i64 0, .int .i64 0, .int .i64 0, .int .i64 0, .int .i64 64, .int .i64 17, .int .u8 10, .int .u8 0, .int .u8 0, .int .u8 1, .int .u8 10, .int .u8 0, .int .u8 0, .int .u8 2, .slice Ao 0 co, .slice Ab (8 + nd) cb] rfl _ 27 hp (by rfl) (by kernel_rfl) (by kernel_rfl) ?_
      intro w10 hq gr
      replace hD := hD.away av_hD_p gr
      replace hB := hB.away av_hB_p gr
      replace hM := hM.away av_hM_p gr
      replace pb := pb.away av_pb_p gr
      replace hd := blk_away hd gr zd d_d_p
      replace zd := Nat.lt_of_lt_of_le zd gr.size
      replace zp := Nat.lt_of_lt_of_le zp gr.size
      replace bel := below_grown bel gr op bel.size
      clear hp
      have hp := hq
      clear hq gr
      refine hK.out _ _ hd (fun hH11 => ?_)
      clear hK K
      refine wpAnyH_take (i := 8) (v := ?_) rfl (by kernel_rfl) (by kernel_rfl) (by kernel_rfl) (fun _ _ _ h => h) (Or.inl ⟨by rfl, ?_⟩) hH11 ?_
      rotate_left
      · ((intro W hW; clear hW; go_simp) <;> with_reducible rfl)
      simp only [Act.put, List.getElem_toArray, List.getElem_cons_zero, List.getElem_cons_succ, List.setIfInBounds_toArray, List.set_cons_zero, List.set_cons_succ]
      refine wpAnyH_done (by kernel_rfl) ?_ _
      go_wp2_with fail
      go_meet
      case rel => exact ⟨g7, Ab, cb, Ao, co, rfl, rfl, hd, zd, hp, zp, op, d_d_p, hD, av_hD_d, av_hD_p, hB, av_hB_d, av_hB_p, hM, av_hM_d, av_hM_p, pb, av_pb_d, av_pb_p, bel⟩
  obtain ⟨w12, hw_⟩ : ∃ x, x = wc := ⟨_, rfl⟩
  subst hw_
  obtain ⟨g7, Ab, cb, Ao, co, rfl, rfl, hd, zd, hp, zp, op, d_d_p, hD, av_hD_d, av_hD_p, hB, av_hB_d, av_hB_p, hM, av_hM_d, av_hM_p, pb, av_pb_d, av_pb_p, bel⟩ := hcut
  go_wp2_with (first | ((with_reducible show wpList _ _ _ (⟨some 39, _, _, _, _, _⟩ :: _) _ _); refine wpList_lit_n rfl 25 5 0 _ rfl #[] (.int .u8 0) Try.underlying25 (by kernel_rfl) 1 (by kernel_rfl) (by decide) (by kernel_rfl) ?_; intro g39 w13 ge lt hh bb; have hl : w13.heap[g39]? = some (.cells (([] : List UInt8).map u8v).toArray 5 (0, 0)) := (by simpa [u8v, byteOf_val] using hh); have e0w := own_lit (B := w12.heap.size) ([]) hl ge 0 rfl (by simp [maxLen]); have e0 := (own_sl e0w).1; have e0lo := bel.size; clear hl; have e0ge := ge; have lz_e0 := bb.size; have y_e0_d := Lib.hid zd; have y_e0_p := Lib.hid zp; have bl_hD_e0 := hD.bl_new; have bl_hB_e0 := hB.bl_new; have bl_hM_e0 := hM.bl_new; have bl_pb_e0 := pb.bl_new; replace hd := blk_under hd bb zd; replace zd := Nat.lt_of_lt_of_le zd bb.size; replace hp := blk_under hp bb zp; replace zp := Nat.lt_of_lt_of_le zp bb.size; replace hD := hD.below bb; replace hB := hB.below bb; replace hM := hM.below bb; replace pb := pb.below bb; replace bel := bel.trans (bb.mono bel.size); clear hh lt ge bb; have av_e0_d := (own_sl e0w).2.av y_e0_d.out; have av_e0_p := (own_sl e0w).2.av y_e0_p.out; have R41 := cell_lit hp 15 _ rfl; obtain ⟨A42, c42, r42, f42, u42⟩ := piece_front pb (k := 8) (by omega); replace r42 : ∀ W, (Instr.slice 25 (.slice Ab (8 + nd) cb) none (some (.int .i64 8)) none).run Try.prog W = .ok (.slice A42 8 c42) W := r42; have fr8 := f42 _ pb; have av_fr8_d := av_pb_d.sub u42; have av_fr8_p := av_pb_p.sub u42; have bl_fr8_e0 := bl_pb_e0.sub u42; clear f42 u42) | ((with_reducible show wpList _ _ _ (⟨some 43, _, _, _, _, _⟩ :: _) _ _); refine wpList_append_bb _ rfl (.tmp 39) (.tmp 42) 25 rfl (w12.heap.size) 5 ii (.int .u8 0) Try.underlying25 hii hz0 hz1 hz2 rfl _ (0) ([]) rfl e0w (A42) (8) (c42) ((udBytes 10 0 0 1 10 0 0 2 df dt ld).take (8)) rfl fr8 (by have := H3.out; omega) lz_e0 ?_; intro v43 w14 own_ bb; replace hD := hD.under bl_hD_e0 bb; replace hB := hB.under bl_hB_e0 bb; replace hM := hM.under bl_hM_e0 bb; replace pb := pb.under bl_pb_e0 bb; replace fr8 := fr8.under bl_fr8_e0 bb; replace hd := blk_under hd bb y_e0_d.out; replace zd := Nat.lt_of_lt_of_le zd bb.size; replace hp := blk_under hp bb y_e0_p.out; replace zp := Nat.lt_of_lt_of_le zp bb.size; replace bel := bel.trans (bb.mono e0lo); have lz_b8 := Nat.le_trans lz_e0 bb.size; clear bb; clear e0 e0w lz_e0; replace own_ : w14.ownsRow (w12.heap.size) 5 1 v43 (8) (((udBytes 10 0 0 1 10 0 0 2 df dt ld).take (8) : List UInt8).map u8v) := (by simpa using own_); obtain ⟨A43, c43, rfl⟩ := own_val own_; have b8w := own_; have b8 := (own_sl own_).1; have fr_b8 := (own_sl own_).2; clear own_; have av_b8_d := fr_b8.av y_e0_d.out; have av_b8_p := fr_b8.av y_e0_p.out) | ((with_reducible show wpList _ _ _ (⟨some 45, _, _, _, _, _⟩ :: _) _ _); refine wpList_append_bb _ rfl (.tmp 43) (.tmp 44) 25 rfl (w12.heap.size) 5 ii (.int .u8 0) Try.underlying25 hii hz0 hz1 hz2 rfl _ (8) ((udBytes 10 0 0 1 10 0 0 2 df dt ld).take (8)) rfl b8w (Q) (nd) (qb) (lq) rfl hB (by have := H3.out; omega) lz_b8 ?_; intro v45 w15 own_ bb; replace hD := hD.under bl_hD_e0 bb; replace hB := hB.under bl_hB_e0 bb; replace hM := hM.under bl_hM_e0 bb; replace pb := pb.under bl_pb_e0 bb; replace fr8 := fr8.under bl_fr8_e0 bb; replace hd := blk_under hd bb y_e0_d.out; replace zd := Nat.lt_of_lt_of_le zd bb.size; replace hp := blk_under hp bb y_e0_p.out; replace zp := Nat.lt_of_lt_of_le zp bb.size; replace bel := bel.trans (bb.mono e0lo); have lz_al := Nat.le_trans lz_b8 bb.size; clear bb; clear b8 b8w lz_b8; replace own_ : w15.ownsRow (w12.heap.size) 5 1 v45 (8 + nd) (((udBytes 10 0 0 1 10 0 0 2 df dt ld).take (8) ++ lq : List UInt8).map u8v) := own_; obtain ⟨A45, c45, rfl⟩ := own_val own_; have alw := own_; have al := (own_sl own_).1; have fr_al := (own_sl own_).2; clear own_; have av_al_d := fr_al.av y_e0_d.out; have av_al_p := fr_al.av y_e0_p.out; obtain ⟨gb, cg, eg, alge, allt, alnc, alcm⟩ := own_at alw (by omega); injection eg with eg1 _ eg3; subst eg1; subst eg3) | ((with_reducible show wpList _ _ _ (⟨none, Op.store _ (.tmp 48) _, _, _, _, _⟩ :: _) _ _); refine wpList_store_byte rfl 5 (.tmp 48) (.const (.int .u8 0)) rfl (w12.heap.size) 5 gb 6 (8 + nd) (c45) ((udBytes 10 0 0 1 10 0 0 2 df dt ld).take (8) ++ lq) (0) rfl rfl alw (by omega) (by kernel_rfl) ?_; intro w16 own_ gr; replace hD := hD.away (bl_hD_e0.av alge) gr; replace hB := hB.away (bl_hB_e0.av alge) gr; replace hM := hM.away (bl_hM_e0.av alge) gr; replace pb := pb.away (bl_pb_e0.av alge) gr; replace fr8 := fr8.away (bl_fr8_e0.av alge) gr; replace hd := blk_away hd gr zd (ne_new y_e0_d.out alge); replace zd := Nat.lt_of_lt_of_le zd gr.size; replace hp := blk_away hp gr zp (ne_new y_e0_p.out alge); replace zp := Nat.lt_of_lt_of_le zp gr.size; replace bel := below_grown bel gr (Nat.le_trans e0lo alge) bel.size; replace lz_al := Nat.le_trans lz_al gr.size; clear gr al alw; have alw := own_; have al := (own_sl own_).1; clear own_) | ((with_reducible show wpList _ _ _ (⟨none, Op.store _ (.tmp 49) _, _, _, _, _⟩ :: _) _ _); refine wpList_store_byte rfl 5 (.tmp 49) (.const (.int .u8 0)) rfl (w12.heap.size) 5 gb 7 (8 + nd) (c45) (((udBytes 10 0 0 1 10 0 0 2 df dt ld).take (8) ++ lq).set 6 0) (0) rfl rfl alw (by omega) (by kernel_rfl) ?_; intro w17 own_ gr; replace hD := hD.away (bl_hD_e0.av alge) gr; replace hB := hB.away (bl_hB_e0.av alge) gr; replace hM := hM.away (bl_hM_e0.av alge) gr; replace pb := pb.away (bl_pb_e0.av alge) gr; replace fr8 := fr8.away (bl_fr8_e0.av alge) gr; replace hd := blk_away hd gr zd (ne_new y_e0_d.out alge); replace zd := Nat.lt_of_lt_of_le zd gr.size; replace hp := blk_away hp gr zp (ne_new y_e0_p.out alge); replace zp := Nat.lt_of_lt_of_le zp gr.size; replace bel := below_grown bel gr (Nat.le_trans e0lo alge) bel.size; replace lz_al := Nat.le_trans lz_al gr.size; clear gr al alw; have alw := own_; have al := (own_sl own_).1; clear own_) | ((with_reducible show wpList _ _ _ (⟨some 52, _, _, _, _, _⟩ :: _) _ _); refine wpList_append_bb _ rfl (.tmp 50) (.tmp 51) 25 rfl (w12.heap.size) 5 ii (.int .u8 0) Try.underlying25 hii hz0 hz1 hz2 rfl _ (8 + nd) ((((udBytes 10 0 0 1 10 0 0 2 df dt ld).take (8) ++ lq).set 6 0).set 7 0) rfl alw (M) (mm) (qm) (lm) rfl hM (by have := H3.out; have := H4.out; omega) lz_al ?_; intro v52 w18 own_ bb; replace hD := hD.under bl_hD_e0 bb; replace hB := hB.under bl_hB_e0 bb; replace hM := hM.under bl_hM_e0 bb; replace pb := pb.under bl_pb_e0 bb; replace fr8 := fr8.under bl_fr8_e0 bb; replace hd := blk_under hd bb y_e0_d.out; replace zd := Nat.lt_of_lt_of_le zd bb.size; replace hp := blk_under hp bb y_e0_p.out; replace zp := Nat.lt_of_lt_of_le zp bb.size; replace bel := bel.trans (bb.mono e0lo); have lz_fin := Nat.le_trans lz_al bb.size; clear bb; clear al alw lz_al; replace own_ : w18.ownsRow (w12.heap.size) 5 1 v52 (8 + nd + mm) (((((udBytes 10 0 0 1 10 0 0 2 df dt ld).take (8) ++ lq).set 6 0).set 7 0 ++ lm : List UInt8).map u8v) := own_; obtain ⟨A52, c52, rfl⟩ := own_val own_; have finw := own_; have fin := (own_sl own_).1; have fr_fin := (own_sl own_).2; clear own_; have av_fin_d := fr_fin.av y_e0_d.out; have av_fin_p := fr_fin.av y_e0_p.out) | ((with_reducible show wpList _ _ _ (⟨none, Op.store _ (.tmp 53) _, _, _, _, _⟩ :: _) _ _); refine wpList_store_part rfl 25 (.tmp 53) (.tmp 52) rfl g7 15 rfl [.slice A52 (8 + nd + mm) c52] rfl [.int .i64 0, .int .i64 0, .int .i64 0, .int .i64 0, .int .i64 64, .int .i64 17, .int .u8 10, .int .u8 0, .int .u8 0, .int .u8 1, .int .u8 10, .int .u8 0, .int .u8 0, .int .u8 2, .slice Ao 0 co, .slice Ab (8 + nd) cb] 27 hp (by simp) [.int .i64 0, .int .i64 0, .int .i64 0, .int .i64 0, .int .i64 64, .int .i64 17, .int .u8 10, .int .u8 0, .int .u8 0, .int .u8 1, .int .u8 10, .int .u8 0, .int .u8 0, .int .u8 2, .slice Ao 0 co, .slice A52 (8 + nd + mm) c52] rfl (by kernel_rfl) (by rfl) ?_; intro w19 hq gr; replace hD := hD.away av_hD_p gr; replace hB := hB.away av_hB_p gr; replace hM := hM.away av_hM_p gr; replace pb := pb.away av_pb_p gr; replace fr8 := fr8.away av_fr8_p gr; replace fin := fin.away av_fin_p gr; replace finw := own_away finw y_e0_p.out gr; replace lz_fin := Nat.le_trans lz_fin gr.size; replace hd := blk_away hd gr zd d_d_p; replace zd := Nat.lt_of_lt_of_le zd gr.size; replace zp := Nat.lt_of_lt_of_le zp gr.size; replace bel := below_grown bel gr op bel.size; clear hp; have hp := hq; clear hq gr; have R55 := Lib.hid (range_lit hp 0 16 [.int .i64 0, .int .i64 0, .int .i64 0, .int .i64 0, .int .i64 64, .int .i64 17, .int .u8 10, .int .u8 0, .int .u8 0, .int .u8 1, .int .u8 10, .int .u8 0, .int .u8 0, .int .u8 2, .slice Ao 0 co, .slice A52 (8 + nd + mm) c52] rfl)) | ((with_reducible show wpList _ _ _ (⟨some 55, _, _, _, _, _⟩ :: _) _ _); refine wpList_load_rng 27 (.tmp 7) rfl (by kernel_rfl) _ _ rfl _ R55.out _ Try.underlying27 rfl (by kernel_rfl) ?_))
  try clear R41
  try clear R55
  with_reducible refine (kget _ _ _ _ _ _ df dt lq _ fin (by have := H3.out; have := H4.out; omega) HG.out).mono ?_
  rintro e w20 ⟨A1, cz, rfl, s1, f1, b20⟩
  have av_s1_d := f1.av zd
  have av_s1_p := f1.av zp
  replace hd := blk_under hd b20 zd
  replace zd := Nat.lt_of_lt_of_le zd b20.size
  replace hp := blk_under hp b20 zp
  replace zp := Nat.lt_of_lt_of_le zp b20.size
  replace hD := hD.below b20
  replace hB := hB.below b20
  replace hM := hM.below b20
  replace pb := pb.below b20
  replace fr8 := fr8.below b20
  replace fin := fin.below b20
  replace finw := own_under finw b20
  replace lz_fin := Nat.le_trans lz_fin b20.size
  replace bel := bel.trans (b20.mono bel.size)
  clear b20
  replace s1 : Sl w20 (A1) (lq.length) (cz) (lq) := s1
  go_wp2_with (first | ((with_reducible show wpList _ _ _ (⟨some 10, _, _, _, _, _⟩ :: _) _ _); refine wpList_new_n rfl 33 rfl (.agg #[.int .i64 0, .int .i64 0, .slice none 0 0]) (by kernel_rfl) #[.int .i64 0, .int .i64 0, .slice none 0 0] rfl ?_; intro g10 w21 ge lt hh bb; have d_d_x := ne_new zd ge; have d_p_x := ne_new zp ge; have av_hD_x := hD.av_new ge; have av_hB_x := hB.av_new ge; have av_hM_x := hM.av_new ge; have av_pb_x := pb.av_new ge; have av_fr8_x := fr8.av_new ge; have av_fin_x := fin.av_new ge; have of_fin_x := own_new finw ge; have av_s1_x := s1.av_new ge; have ox := Nat.le_trans bel.size ge; replace hd := blk_under hd bb zd; replace zd := Nat.lt_of_lt_of_le zd bb.size; replace hp := blk_under hp bb zp; replace zp := Nat.lt_of_lt_of_le zp bb.size; replace hD := hD.below bb; replace hB := hB.below bb; replace hM := hM.below bb; replace pb := pb.below bb; replace fr8 := fr8.below bb; replace fin := fin.below bb; replace finw := own_under finw bb; replace s1 := s1.below bb; replace lz_fin := Nat.le_trans lz_fin bb.size; replace bel := bel.trans (bb.mono bel.size); have hx := hh; have zx := lt; clear hh lt ge bb) | ((with_reducible show wpList _ _ _ (⟨none, Op.store _ (.tmp 10) _, _, _, _, _⟩ :: _) _ _); refine wpList_store_blk rfl 33 (.tmp 10) (.tmp 57) rfl g10 rfl #[.int .i64 df, .int .i64 dt, .slice A1 lq.length cz] rfl _ 33 hx (by rfl) (by kernel_rfl) (by kernel_rfl) ?_; intro w22 hq gr; replace hD := hD.away av_hD_x gr; replace hB := hB.away av_hB_x gr; replace hM := hM.away av_hM_x gr; replace pb := pb.away av_pb_x gr; replace fr8 := fr8.away av_fr8_x gr; replace fin := fin.away av_fin_x gr; replace finw := own_off finw of_fin_x gr; replace s1 := s1.away av_s1_x gr; replace lz_fin := Nat.le_trans lz_fin gr.size; replace hd := blk_away hd gr zd d_d_x; replace hp := blk_away hp gr zp d_p_x; replace zd := Nat.lt_of_lt_of_le zd gr.size; replace zp := Nat.lt_of_lt_of_le zp gr.size; replace zx := Nat.lt_of_lt_of_le zx gr.size; replace bel := below_grown bel gr ox bel.size; clear hx; have hx := hq; clear hq gr; have R63 := cell_lit hx 0 _ rfl; have R65 := cell_lit hd 0 _ rfl; have R70 := cell_lit hx 1 _ rfl; have R72 := cell_lit hd 1 _ rfl; have R77 := cell_lit hx 2 _ rfl; have st78 := s1.str (P := Try.prog) 25 5 9 Try.underlying25 Try.underlying5 Try.underlying9; have st80 := hB.str (P := Try.prog) 25 5 9 Try.underlying25 Try.underlying5 Try.underlying9))
  try clear R63
  try clear R65
  try clear R70
  try clear R72
  try clear R77
  try clear st78
  try clear st80
  go_ret
  exact ⟨rfl, bel⟩
theorem udpNone_walk (df dt : Int) (D : Option Addr) (nd cd : Nat) (ld : List UInt8) (Q : Option Addr) (mb qb : Nat) (lq : List UInt8) (M : Option Addr) (mm qm : Nat) (lm : List UInt8) (w : World) (hD : Sl w D nd cd ld) (hB : Sl w Q mb qb lq) (hM : Sl w M mm qm lm) : Calls Try.prog 7 #[.agg #[.int .i64 df, .int .i64 dt, .slice D nd cd], .slice Q mb qb, .slice M mm qm] w fun e w' => e = .returned (.bool true) ∧ Below w.heap.size w w' := by
  by_cases h3 : nd ≤ 500
  · by_cases hm : mb = nd
    · subst hm
      by_cases h4 : mm ≤ 50
      · by_cases he : (udPut 0 0 0 0 64 10 0 0 1 10 0 0 2 [] df dt ld).2.2 = 0
        · obtain ⟨g1, g2, g3, _⟩ := udput_pos he
          exact udpNone_5 df dt D mb cd ld Q qb lq M mm qm lm w hD hB hM h3 h4 g1 g2 (by omega)
        · exact udpNone_4 df dt D mb cd ld Q qb lq M mm qm lm w hD hB hM h3 h4 he
      · exact udpNone_3 df dt D mb cd ld Q qb lq M mm qm lm w h3 (by omega)
    · exact udpNone_2 df dt D nd cd ld Q mb qb lq M mm qm lm w h3 hm
  · exact udpNone_1 df dt D nd cd ld Q mb qb lq M mm qm lm w (by omega)
end Go.Proofs.Ythikedajhocdkaa
