/- Layer 9: IcmpBits. -/
import Derived.Test.YtfmllopeeiecjaaLaw9
import Derived.Test.YtfmllopeeiecjaaVap
import Derived.Deep.CutRange
namespace Go.Proofs.Ytfmllopeeiecjaa
open Go.RowKit

theorem i64_and7 (n : Int) : bits .and .i64 n 7 = n % 8 := by
  have hm : (BitVec.ofInt 64 7).toNat = 2 ^ 3 - 1 := by decide
  have key : (BitVec.ofInt 64 n &&& BitVec.ofInt 64 7).toNat = (n % ((2 ^ 64 : Nat) : Int)).toNat % 2 ^ 3 := by
    rw [BitVec.toNat_and, BitVec.toNat_ofInt, hm, Nat.and_two_pow_sub_one_eq_mod]
  show IntKind.i64.wrap ((BitVec.ofInt 64 n &&& BitVec.ofInt 64 7).toNat : Nat) = n % 8
  rw [key, IntKind.wrap_i64]
  omega

theorem xor_u8 (x y : Nat) (hx : x < 256) (hy : y < 256) : bits .xor .u8 (x : Int) (y : Int) = ((x ^^^ y : Nat) : Int) := by
  show IntKind.u8.wrap ((BitVec.ofInt 8 (x : Int) ^^^ BitVec.ofInt 8 (y : Int)).toNat : Int) = _
  rw [BitVec.toNat_xor, BitVec.ofInt_natCast, BitVec.ofInt_natCast, BitVec.toNat_ofNat, BitVec.toNat_ofNat, Nat.mod_eq_of_lt (by omega), Nat.mod_eq_of_lt (by omega)]
  have h : x ^^^ y < 2 ^ 8 := Nat.xor_lt_two_pow (by omega) (by omega)
  generalize x ^^^ y = z at *
  simp [IntKind.wrap, IntKind.signed, IntKind.bits]
  omega
theorem xor_bit (x : UInt8) (r : Nat) (hr : r < 8) : ∃ y : UInt8, y.toNat = x.toNat ^^^ 2 ^ r ∧ bits .xor .u8 (x.toNat : Int) ((2 : Int) ^ r % 256) = (y.toNat : Int) := by
  have hq : (2 : Nat) ^ r < 256 := by
    have : (2 : Nat) ^ r ≤ 2 ^ 7 := Nat.pow_le_pow_right (by omega) (by omega)
    omega
  have h : x.toNat ^^^ 2 ^ r < 2 ^ 8 := Nat.xor_lt_two_pow x.toNat_lt (by omega)
  have e : ((2 : Int) ^ r % 256) = ((2 ^ r : Nat) : Int) := by
    rw [show (2 : Int) ^ r = ((2 ^ r : Nat) : Int) by simp]
    generalize (2 : Nat) ^ r = q at *
    omega
  refine ⟨UInt8.ofNat (x.toNat ^^^ 2 ^ r), by rw [UInt8.toNat_ofNat']; omega, ?_⟩
  rw [e, xor_u8 _ _ x.toNat_lt hq, UInt8.toNat_ofNat', Nat.mod_eq_of_lt h]
set_option linter.unusedVariables false in
set_option maxRecDepth 100000 in
set_option maxHeartbeats 16000000 in
theorem icmpBits_1 (ty cd re : Int) (D : Option Addr) (nd qd : Nat) (ld : List UInt8) (bit : Int) (w : World) (h3 : 500 < nd) : Calls Try.prog 8 #[.agg #[.int .i64 ty, .int .i64 cd, .int .u32 re, .slice D nd qd], .int .i64 bit] w fun e w' => e = .returned (.bool true) ∧ Below w.heap.size w w' := by
  obtain ⟨ii, hii, hz0, hz1, hz2⟩ := info_parts Try.info5
  have t1 : (500 : Int) < nd := by omega
  clear h3
  have bel := Below.refl w.heap.size w
  go_enter Try.func8, Try.ntmps8
  go_wp2_with (first | ((with_reducible show wpList _ _ _ (⟨some 2, _, _, _, _, _⟩ :: _) _ _); refine wpList_box_n rfl 34 (.tmp 0) rfl #[.int .i64 ty, .int .i64 cd, .int .u32 re, .slice D nd qd] rfl ?_; intro g2 w1 ge lt hh bb; have od := Nat.le_trans bel.size ge; replace bel := bel.trans (bb.mono bel.size); have hd := hh; clear hh lt ge bb))
  with_reducible refine (awake9 _).mono ?_
  rintro e w2 ⟨rfl, b2⟩
  replace hd := blk_u hd b2
  replace bel := bel.trans (b2.mono bel.size)
  clear b2
  have R13 := cell_lit hd 3 _ rfl
  go_wp2_with fail
  clear R13
  go_ret
  exact ⟨rfl, bel⟩
set_option linter.unusedVariables false in
set_option maxRecDepth 100000 in
set_option maxHeartbeats 16000000 in
theorem icmpBits_2 (ty cd re : Int) (D : Option Addr) (nd qd : Nat) (ld : List UInt8) (bit : Int) (w : World) (hD : Sl w D nd qd ld) (h3 : nd ≤ 500) (er : Int) (he : (icPut 0 0 0 0 64 10 0 0 1 10 0 0 2 [] ty cd re ld).2.2 = er) (hz : er ≠ 0) (e0 : 0 ≤ re) (e1 : re < 4294967296) : Calls Try.prog 8 #[.agg #[.int .i64 ty, .int .i64 cd, .int .u32 re, .slice D nd qd], .int .i64 bit] w fun e w' => e = .returned (.bool true) ∧ Below w.heap.size w w' := by
  obtain ⟨ii, hii, hz0, hz1, hz2⟩ := info_parts Try.info5
  have t1 : decide ((500 : Int) < nd) = false := decide_eq_false (by omega)
  have H3 := Lib.hid h3
  clear h3
  have E0 := Lib.hid e0
  have E1 := Lib.hid e1
  clear e0 e1
  have HE := Lib.hid he
  have t8 : (er == 0) = false := by simpa using hz
  have t9 : (er != 0) = true := by simpa using hz
  clear he hz
  have bel := Below.refl w.heap.size w
  go_enter Try.func8, Try.ntmps8
  go_wp2_with (first | ((with_reducible show wpList _ _ _ (⟨some 2, _, _, _, _, _⟩ :: _) _ _); refine wpList_box_n rfl 34 (.tmp 0) rfl #[.int .i64 ty, .int .i64 cd, .int .u32 re, .slice D nd qd] rfl ?_; intro g2 w1 ge lt hh bb; have av_hD_d := hD.av_new ge; have od := Nat.le_trans bel.size ge; replace hD := hD.below bb; replace bel := bel.trans (bb.mono bel.size); have hd := hh; clear hh lt ge bb))
  with_reducible refine (awake9 _).mono ?_
  rintro e w2 ⟨rfl, b2⟩
  replace hd := blk_u hd b2
  replace hD := hD.below b2
  replace bel := bel.trans (b2.mono bel.size)
  clear b2
  have R13 := cell_lit hd 3 _ rfl
  go_wp2_with fail
  clear R13
  go_cut [5, 6] from 9999 (fun s5 s6 W => ∃ g5 : Nat, ∃ f0 : Int, ∃ f1 : Int, ∃ f2 : Int, ∃ f3 : Int, ∃ f4 : Int, ∃ f5 : Int, ∃ j0 : UInt8, ∃ j1 : UInt8, ∃ j2 : UInt8, ∃ j3 : UInt8, ∃ j4 : UInt8, ∃ j5 : UInt8, ∃ j6 : UInt8, ∃ j7 : UInt8, ∃ Ao : Option Addr, ∃ no : Nat, ∃ co : Nat, ∃ Ab : Option Addr, ∃ nb : Nat, ∃ cb : Nat, s5 = .pointer (some ⟨g5, 0, none⟩) ∧ s6 = .int .i64 er ∧ W.heap[g2]? = some (.cells #[.int .i64 ty, .int .i64 cd, .int .u32 re, .slice D nd qd] 34 (0, 0)) ∧ W.heap[g5]? = some (.cells #[.int .i64 f0, .int .i64 f1, .int .i64 f2, .int .i64 f3, .int .i64 f4, .int .i64 f5, .int .u8 (j0.toNat : Int), .int .u8 (j1.toNat : Int), .int .u8 (j2.toNat : Int), .int .u8 (j3.toNat : Int), .int .u8 (j4.toNat : Int), .int .u8 (j5.toNat : Int), .int .u8 (j6.toNat : Int), .int .u8 (j7.toNat : Int), .slice Ao no co, .slice Ab nb cb] 27 (0, 0)) ∧ w.heap.size ≤ g5 ∧ Hid (g2 ≠ g5) ∧ Sl W (D) (nd) (qd) (ld) ∧ Av (D) (nd) g2 ∧ Av (D) (nd) g5 ∧ Below w.heap.size w W)
  case first =>
    replace bel := bel.drew
    replace hd : w2.drew.heap[g2]? = _ := hd
    replace hD := hD.drew
    refine wp_region_held_drew (S := fun W => W.heap[g2]? = some (.cells #[.int .i64 ty, .int .i64 cd, .int .u32 re, .slice D nd qd] 34 (0, 0))) (by kernel_rfl) hd (fun hH => ?_)
    generalize w2.drew = w3 at bel hd hD hH ⊢
    refine wpAnyH_take (i := 1) (v := .agg #[.int .i64 ty, .int .i64 cd, .int .u32 re, .slice D nd qd]) rfl (by kernel_rfl) (by kernel_rfl) (by kernel_rfl) (fun _ _ _ h => h) (yieldsIf_load_part (by kernel_rfl) 34 _ rfl g2 0 4 rfl _ 34 (0, 0) (fun W hW => hW) _ rfl _ Try.underlying34 rfl (by kernel_rfl)) hH ?_
    simp only [Act.put, List.getElem_toArray, List.getElem_cons_zero, List.getElem_cons_succ, List.setIfInBounds_toArray, List.set_cons_zero, List.set_cons_succ]
    refine wpAnyH_ready (rs := [0, 6]) (by kernel_rfl) (by simp) ?_
    refine AllReadyH.cons (o := _) rfl (fun K hK => ?_) (AllReadyH.cons (o := _) rfl (fun K hK => ?_) AllReadyH.nil)
    · simp only [List.getElem_toArray, List.getElem_cons_zero]
      go_simp
      with_reducible refine (base9 _).mono ?_
      rintro e w4 ⟨rfl, b4⟩
      dsimp only
      replace hd := blk_u hd b4
      replace hD := hD.below b4
      replace bel := bel.trans (b4.mono bel.size)
      clear b4
      refine hK.out _ _ hd (fun hH5 => ?_)
      clear hK K
      refine wpAnyH_ready (rs := [2, 6]) (by kernel_rfl) (by simp) ?_
      refine AllReadyH.cons (o := _) rfl (fun K hK => ?_) (AllReadyH.cons (o := _) rfl (fun K hK => ?_) AllReadyH.nil)
      · simp only [List.getElem_toArray, List.getElem_cons_zero, List.getElem_cons_succ]
        go_simp
        with_reducible refine (kput_er _ _ _ _ _ _ _ _ _ hD E0.out E1.out HE.out).mono ?_
        rintro e w6 ⟨f0, f1, f2, f3, f4, f5, j0, j1, j2, j3, j4, j5, j6, j7, Ao, no, co, Ab, nb, cb, rfl, b6⟩
        dsimp only
        replace hd := blk_u hd b6
        replace hD := hD.below b6
        replace bel := bel.trans (b6.mono bel.size)
        clear b6
        refine hK.out _ _ hd (fun hH7 => ?_)
        clear hK K
        refine wpAnyH_take (i := 3) (v := ?_) rfl (by kernel_rfl) (by kernel_rfl) (by kernel_rfl) (fun _ _ _ h => h) (Or.inl ⟨by rfl, ?_⟩) hH7 ?_
        rotate_left
        · ((intro W hW; clear hW; go_simp) <;> with_reducible rfl)
        simp only [Act.put, List.getElem_toArray, List.getElem_cons_zero, List.getElem_cons_succ, List.setIfInBounds_toArray, List.set_cons_zero, List.set_cons_succ]
        refine wpAnyH_take (i := 4) (v := ?_) rfl (by kernel_rfl) (by kernel_rfl) (by kernel_rfl) (fun _ _ _ h => h) (Or.inl ⟨by rfl, ?_⟩) hH7 ?_
        rotate_left
        · ((intro W hW; clear hW; go_simp) <;> with_reducible rfl)
        simp only [Act.put, List.getElem_toArray, List.getElem_cons_zero, List.getElem_cons_succ, List.setIfInBounds_toArray, List.set_cons_zero, List.set_cons_succ]
        refine wpAnyH_take (i := 5) (v := ?_) rfl (by kernel_rfl) (by kernel_rfl) (by kernel_rfl) (fun _ _ _ h => h) (Or.inl ⟨by rfl, ?_⟩) hH7 ?_
        rotate_left
        · ((intro W hW; clear hW; go_simp) <;> with_reducible rfl)
        simp only [Act.put, List.getElem_toArray, List.getElem_cons_zero, List.getElem_cons_succ, List.setIfInBounds_toArray, List.set_cons_zero, List.set_cons_succ]
        refine wpAnyH_ready (rs := [6]) (by kernel_rfl) (by simp) ?_
        refine AllReadyH.cons (o := _) rfl (fun K hK => ?_) AllReadyH.nil
        simp only [List.getElem_toArray, List.getElem_cons_zero, List.getElem_cons_succ]
        rw [if_pos (by rfl)]
        refine wp_new_a 27 rfl #[.int .i64 0, .int .i64 0, .int .i64 0, .int .i64 0, .int .i64 0, .int .i64 0, .int .u8 0, .int .u8 0, .int .u8 0, .int .u8 0, .int .u8 0, .int .u8 0, .int .u8 0, .int .u8 0, .slice none 0 0, .slice none 0 0] (by kernel_rfl) ?_
        intro g5 w8 ge hh bb
        have d_d_p := ne_new (hlt hd) ge
        have av_hD_p := hD.av_new ge
        have op := Nat.le_trans bel.size ge
        replace hd := blk_u hd bb
        replace hD := hD.below bb
        replace bel := bel.trans (bb.mono bel.size)
        have hp := hh
        clear hh ge bb
        refine hK.out _ _ hd (fun hH9 => ?_)
        clear hK K
        simp only [Act.put, List.setIfInBounds_toArray, List.set_cons_zero, List.set_cons_succ]
        refine wpAnyH_ready (rs := [7]) (by kernel_rfl) (by simp) ?_
        refine AllReadyH.cons (o := _) rfl (fun K hK => ?_) AllReadyH.nil
        simp only [List.getElem_toArray, List.getElem_cons_zero, List.getElem_cons_succ]
        rw [if_pos (by rfl)]
        refine wp_store_blk 27 (.tmp 5) (.tmp 20) rfl g5 rfl _ rfl _ 27 hp (by rfl) (by kernel_rfl) (by kernel_rfl) ?_
        intro w10 hq gr
        replace hD := hD.away av_hD_p gr
        replace hd := blk_a hd gr d_d_p
        replace bel := below_grown bel gr op bel.size
        clear hp
        have hp := hq
        clear hq gr
        refine hK.out _ _ hd (fun hH11 => ?_)
        clear hK K
        simp only [Act.put]
        refine wpAnyH_take (i := 8) (v := ?_) rfl (by kernel_rfl) (by kernel_rfl) (by kernel_rfl) (fun _ _ _ h => h) (Or.inl ⟨by rfl, ?_⟩) hH11 ?_
        rotate_left
        · ((intro W hW; clear hW; go_simp) <;> with_reducible rfl)
        simp only [Act.put, List.getElem_toArray, List.getElem_cons_zero, List.getElem_cons_succ, List.setIfInBounds_toArray, List.set_cons_zero, List.set_cons_succ]
        refine wpAnyH_done (by kernel_rfl) ?_ _
        go_wp2_with fail
        go_meet
        case rel => exact ⟨g5, f0, f1, f2, f3, f4, f5, j0, j1, j2, j3, j4, j5, j6, j7, Ao, no, co, Ab, nb, cb, rfl, rfl, hd, hp, op, d_d_p, hD, av_hD_d, av_hD_p, bel⟩
      · simp only [List.getElem_toArray, List.getElem_cons_zero, List.getElem_cons_succ]
        rw [if_pos (by rfl)]
        refine wp_new_a 27 rfl #[.int .i64 0, .int .i64 0, .int .i64 0, .int .i64 0, .int .i64 0, .int .i64 0, .int .u8 0, .int .u8 0, .int .u8 0, .int .u8 0, .int .u8 0, .int .u8 0, .int .u8 0, .int .u8 0, .slice none 0 0, .slice none 0 0] (by kernel_rfl) ?_
        intro g5 w6 ge hh bb
        have d_d_p := ne_new (hlt hd) ge
        have av_hD_p := hD.av_new ge
        have op := Nat.le_trans bel.size ge
        replace hd := blk_u hd bb
        replace hD := hD.below bb
        replace bel := bel.trans (bb.mono bel.size)
        have hp := hh
        clear hh ge bb
        refine hK.out _ _ hd (fun hH7 => ?_)
        clear hK K
        simp only [Act.put, List.setIfInBounds_toArray, List.set_cons_zero, List.set_cons_succ]
        refine wpAnyH_ready (rs := [2]) (by kernel_rfl) (by simp) ?_
        refine AllReadyH.cons (o := _) rfl (fun K hK => ?_) AllReadyH.nil
        simp only [List.getElem_toArray, List.getElem_cons_zero, List.getElem_cons_succ]
        go_simp
        with_reducible refine (kput_er _ _ _ _ _ _ _ _ _ hD E0.out E1.out HE.out).mono ?_
        rintro e w8 ⟨f0, f1, f2, f3, f4, f5, j0, j1, j2, j3, j4, j5, j6, j7, Ao, no, co, Ab, nb, cb, rfl, b8⟩
        dsimp only
        replace hd := blk_u hd b8
        replace hp := blk_u hp b8
        replace hD := hD.below b8
        replace bel := bel.trans (b8.mono bel.size)
        clear b8
        refine hK.out _ _ hd (fun hH9 => ?_)
        clear hK K
        refine wpAnyH_take (i := 3) (v := ?_) rfl (by kernel_rfl) (by kernel_rfl) (by kernel_rfl) (fun _ _ _ h => h) (Or.inl ⟨by rfl, ?_⟩) hH9 ?_
        rotate_left
        · ((intro W hW; clear hW; go_simp) <;> with_reducible rfl)
        simp only [Act.put, List.getElem_toArray, List.getElem_cons_zero, List.getElem_cons_succ, List.setIfInBounds_toArray, List.set_cons_zero, List.set_cons_succ]
        refine wpAnyH_take (i := 4) (v := ?_) rfl (by kernel_rfl) (by kernel_rfl) (by kernel_rfl) (fun _ _ _ h => h) (Or.inl ⟨by rfl, ?_⟩) hH9 ?_
        rotate_left
        · ((intro W hW; clear hW; go_simp) <;> with_reducible rfl)
        simp only [Act.put, List.getElem_toArray, List.getElem_cons_zero, List.getElem_cons_succ, List.setIfInBounds_toArray, List.set_cons_zero, List.set_cons_succ]
        refine wpAnyH_take (i := 5) (v := ?_) rfl (by kernel_rfl) (by kernel_rfl) (by kernel_rfl) (fun _ _ _ h => h) (Or.inl ⟨by rfl, ?_⟩) hH9 ?_
        rotate_left
        · ((intro W hW; clear hW; go_simp) <;> with_reducible rfl)
        simp only [Act.put, List.getElem_toArray, List.getElem_cons_zero, List.getElem_cons_succ, List.setIfInBounds_toArray, List.set_cons_zero, List.set_cons_succ]
        refine wpAnyH_ready (rs := [7]) (by kernel_rfl) (by simp) ?_
        refine AllReadyH.cons (o := _) rfl (fun K hK => ?_) AllReadyH.nil
        simp only [List.getElem_toArray, List.getElem_cons_zero, List.getElem_cons_succ]
        rw [if_pos (by rfl)]
        refine wp_store_blk 27 (.tmp 5) (.tmp 20) rfl g5 rfl _ rfl _ 27 hp (by rfl) (by kernel_rfl) (by kernel_rfl) ?_
        intro w10 hq gr
        replace hD := hD.away av_hD_p gr
        replace hd := blk_a hd gr d_d_p
        replace bel := below_grown bel gr op bel.size
        clear hp
        have hp := hq
        clear hq gr
        refine hK.out _ _ hd (fun hH11 => ?_)
        clear hK K
        simp only [Act.put]
        refine wpAnyH_take (i := 8) (v := ?_) rfl (by kernel_rfl) (by kernel_rfl) (by kernel_rfl) (fun _ _ _ h => h) (Or.inl ⟨by rfl, ?_⟩) hH11 ?_
        rotate_left
        · ((intro W hW; clear hW; go_simp) <;> with_reducible rfl)
        simp only [Act.put, List.getElem_toArray, List.getElem_cons_zero, List.getElem_cons_succ, List.setIfInBounds_toArray, List.set_cons_zero, List.set_cons_succ]
        refine wpAnyH_done (by kernel_rfl) ?_ _
        go_wp2_with fail
        go_meet
        case rel => exact ⟨g5, f0, f1, f2, f3, f4, f5, j0, j1, j2, j3, j4, j5, j6, j7, Ao, no, co, Ab, nb, cb, rfl, rfl, hd, hp, op, d_d_p, hD, av_hD_d, av_hD_p, bel⟩
    · simp only [List.getElem_toArray, List.getElem_cons_zero, List.getElem_cons_succ]
      rw [if_pos (by rfl)]
      refine wp_new_a 27 rfl #[.int .i64 0, .int .i64 0, .int .i64 0, .int .i64 0, .int .i64 0, .int .i64 0, .int .u8 0, .int .u8 0, .int .u8 0, .int .u8 0, .int .u8 0, .int .u8 0, .int .u8 0, .int .u8 0, .slice none 0 0, .slice none 0 0] (by kernel_rfl) ?_
      intro g5 w4 ge hh bb
      have d_d_p := ne_new (hlt hd) ge
      have av_hD_p := hD.av_new ge
      have op := Nat.le_trans bel.size ge
      replace hd := blk_u hd bb
      replace hD := hD.below bb
      replace bel := bel.trans (bb.mono bel.size)
      have hp := hh
      clear hh ge bb
      refine hK.out _ _ hd (fun hH5 => ?_)
      clear hK K
      simp only [Act.put, List.setIfInBounds_toArray, List.set_cons_zero, List.set_cons_succ]
      refine wpAnyH_ready (rs := [0]) (by kernel_rfl) (by simp) ?_
      refine AllReadyH.cons (o := _) rfl (fun K hK => ?_) AllReadyH.nil
      simp only [List.getElem_toArray, List.getElem_cons_zero]
      go_simp
      with_reducible refine (base9 _).mono ?_
      rintro e w6 ⟨rfl, b6⟩
      dsimp only
      replace hd := blk_u hd b6
      replace hp := blk_u hp b6
      replace hD := hD.below b6
      replace bel := bel.trans (b6.mono bel.size)
      clear b6
      refine hK.out _ _ hd (fun hH7 => ?_)
      clear hK K
      refine wpAnyH_ready (rs := [2]) (by kernel_rfl) (by simp) ?_
      refine AllReadyH.cons (o := _) rfl (fun K hK => ?_) AllReadyH.nil
      simp only [List.getElem_toArray, List.getElem_cons_zero, List.getElem_cons_succ]
      go_simp
      with_reducible refine (kput_er _ _ _ _ _ _ _ _ _ hD E0.out E1.out HE.out).mono ?_
      rintro e w8 ⟨f0, f1, f2, f3, f4, f5, j0, j1, j2, j3, j4, j5, j6, j7, Ao, no, co, Ab, nb, cb, rfl, b8⟩
      dsimp only
      replace hd := blk_u hd b8
      replace hp := blk_u hp b8
      replace hD := hD.below b8
      replace bel := bel.trans (b8.mono bel.size)
      clear b8
      refine hK.out _ _ hd (fun hH9 => ?_)
      clear hK K
      refine wpAnyH_take (i := 3) (v := ?_) rfl (by kernel_rfl) (by kernel_rfl) (by kernel_rfl) (fun _ _ _ h => h) (Or.inl ⟨by rfl, ?_⟩) hH9 ?_
      rotate_left
      · ((intro W hW; clear hW; go_simp) <;> with_reducible rfl)
      simp only [Act.put, List.getElem_toArray, List.getElem_cons_zero, List.getElem_cons_succ, List.setIfInBounds_toArray, List.set_cons_zero, List.set_cons_succ]
      refine wpAnyH_take (i := 4) (v := ?_) rfl (by kernel_rfl) (by kernel_rfl) (by kernel_rfl) (fun _ _ _ h => h) (Or.inl ⟨by rfl, ?_⟩) hH9 ?_
      rotate_left
      · ((intro W hW; clear hW; go_simp) <;> with_reducible rfl)
      simp only [Act.put, List.getElem_toArray, List.getElem_cons_zero, List.getElem_cons_succ, List.setIfInBounds_toArray, List.set_cons_zero, List.set_cons_succ]
      refine wpAnyH_take (i := 5) (v := ?_) rfl (by kernel_rfl) (by kernel_rfl) (by kernel_rfl) (fun _ _ _ h => h) (Or.inl ⟨by rfl, ?_⟩) hH9 ?_
      rotate_left
      · ((intro W hW; clear hW; go_simp) <;> with_reducible rfl)
      simp only [Act.put, List.getElem_toArray, List.getElem_cons_zero, List.getElem_cons_succ, List.setIfInBounds_toArray, List.set_cons_zero, List.set_cons_succ]
      refine wpAnyH_ready (rs := [7]) (by kernel_rfl) (by simp) ?_
      refine AllReadyH.cons (o := _) rfl (fun K hK => ?_) AllReadyH.nil
      simp only [List.getElem_toArray, List.getElem_cons_zero, List.getElem_cons_succ]
      rw [if_pos (by rfl)]
      refine wp_store_blk 27 (.tmp 5) (.tmp 20) rfl g5 rfl _ rfl _ 27 hp (by rfl) (by kernel_rfl) (by kernel_rfl) ?_
      intro w10 hq gr
      replace hD := hD.away av_hD_p gr
      replace hd := blk_a hd gr d_d_p
      replace bel := below_grown bel gr op bel.size
      clear hp
      have hp := hq
      clear hq gr
      refine hK.out _ _ hd (fun hH11 => ?_)
      clear hK K
      simp only [Act.put]
      refine wpAnyH_take (i := 8) (v := ?_) rfl (by kernel_rfl) (by kernel_rfl) (by kernel_rfl) (fun _ _ _ h => h) (Or.inl ⟨by rfl, ?_⟩) hH11 ?_
      rotate_left
      · ((intro W hW; clear hW; go_simp) <;> with_reducible rfl)
      simp only [Act.put, List.getElem_toArray, List.getElem_cons_zero, List.getElem_cons_succ, List.setIfInBounds_toArray, List.set_cons_zero, List.set_cons_succ]
      refine wpAnyH_done (by kernel_rfl) ?_ _
      go_wp2_with fail
      go_meet
      case rel => exact ⟨g5, f0, f1, f2, f3, f4, f5, j0, j1, j2, j3, j4, j5, j6, j7, Ao, no, co, Ab, nb, cb, rfl, rfl, hd, hp, op, d_d_p, hD, av_hD_d, av_hD_p, bel⟩
  obtain ⟨w12, hw_⟩ : ∃ x, x = wc := ⟨_, rfl⟩
  subst hw_
  obtain ⟨g5, f0, f1, f2, f3, f4, f5, j0, j1, j2, j3, j4, j5, j6, j7, Ao, no, co, Ab, nb, cb, rfl, rfl, hd, hp, op, d_d_p, hD, av_hD_d, av_hD_p, bel⟩ := hcut
  go_wp2_with fail
  go_ret
  exact ⟨rfl, bel⟩
set_option linter.unusedVariables false in
set_option maxRecDepth 100000 in
set_option maxHeartbeats 16000000 in
theorem icmpBits_3 (ty cd re : Int) (D : Option Addr) (nd qd : Nat) (ld : List UInt8) (bit : Int) (w : World) (hD : Sl w D nd qd ld) (h3 : nd ≤ 500) (g1 : byteOk ty = true) (g2 : byteOk cd = true) (g3 : nd ≤ 1472) (e0 : 0 ≤ re) (e1 : re < 4294967296) (hb : bit < 0) : Calls Try.prog 8 #[.agg #[.int .i64 ty, .int .i64 cd, .int .u32 re, .slice D nd qd], .int .i64 bit] w fun e w' => e = .returned (.bool true) ∧ Below w.heap.size w w' := by
  obtain ⟨ii, hii, hz0, hz1, hz2⟩ := info_parts Try.info5
  have t1 : decide ((500 : Int) < nd) = false := decide_eq_false (by omega)
  have H3 := Lib.hid h3
  clear h3
  have G1 := Lib.hid g1
  have G2 := Lib.hid g2
  have G3 := Lib.hid g3
  clear g1 g2 g3
  have E0 := Lib.hid e0
  have E1 := Lib.hid e1
  clear e0 e1
  have bel := Below.refl w.heap.size w
  go_enter Try.func8, Try.ntmps8
  go_wp2_with (first | ((with_reducible show wpList _ _ _ (⟨some 2, _, _, _, _, _⟩ :: _) _ _); refine wpList_box_n rfl 34 (.tmp 0) rfl #[.int .i64 ty, .int .i64 cd, .int .u32 re, .slice D nd qd] rfl ?_; intro g2 w1 ge lt hh bb; have av_hD_d := hD.av_new ge; have od := Nat.le_trans bel.size ge; replace hD := hD.below bb; replace bel := bel.trans (bb.mono bel.size); have hd := hh; clear hh lt ge bb))
  with_reducible refine (awake9 _).mono ?_
  rintro e w2 ⟨rfl, b2⟩
  replace hd := blk_u hd b2
  replace hD := hD.below b2
  replace bel := bel.trans (b2.mono bel.size)
  clear b2
  have R13 := cell_lit hd 3 _ rfl
  go_wp2_with fail
  clear R13
  go_cut [5, 6] from 9999 (fun s5 s6 W => ∃ g5 : Nat, ∃ Ab : Option Addr, ∃ cb : Nat, ∃ Ao : Option Addr, ∃ co : Nat, s5 = .pointer (some ⟨g5, 0, none⟩) ∧ s6 = .int .i64 0 ∧ W.heap[g2]? = some (.cells #[.int .i64 ty, .int .i64 cd, .int .u32 re, .slice D nd qd] 34 (0, 0)) ∧ W.heap[g5]? = some (.cells #[.int .i64 0, .int .i64 0, .int .i64 0, .int .i64 0, .int .i64 64, .int .i64 1, .int .u8 10, .int .u8 0, .int .u8 0, .int .u8 1, .int .u8 10, .int .u8 0, .int .u8 0, .int .u8 2, .slice Ao 0 co, .slice Ab (8 + nd) cb] 27 (0, 0)) ∧ w.heap.size ≤ g5 ∧ Hid (g2 ≠ g5) ∧ Sl W (D) (nd) (qd) (ld) ∧ Av (D) (nd) g2 ∧ Av (D) (nd) g5 ∧ Sl W (Ab) (8 + nd) (cb) (icBytes ty cd re ld) ∧ Av (Ab) (8 + nd) g2 ∧ Av (Ab) (8 + nd) g5 ∧ Below w.heap.size w W)
  case first =>
    replace bel := bel.drew
    replace hd : w2.drew.heap[g2]? = _ := hd
    replace hD := hD.drew
    refine wp_region_held_drew (S := fun W => W.heap[g2]? = some (.cells #[.int .i64 ty, .int .i64 cd, .int .u32 re, .slice D nd qd] 34 (0, 0))) (by kernel_rfl) hd (fun hH => ?_)
    generalize w2.drew = w3 at bel hd hD hH ⊢
    refine wpAnyH_take (i := 1) (v := .agg #[.int .i64 ty, .int .i64 cd, .int .u32 re, .slice D nd qd]) rfl (by kernel_rfl) (by kernel_rfl) (by kernel_rfl) (fun _ _ _ h => h) (yieldsIf_load_part (by kernel_rfl) 34 _ rfl g2 0 4 rfl _ 34 (0, 0) (fun W hW => hW) _ rfl _ Try.underlying34 rfl (by kernel_rfl)) hH ?_
    simp only [Act.put, List.getElem_toArray, List.getElem_cons_zero, List.getElem_cons_succ, List.setIfInBounds_toArray, List.set_cons_zero, List.set_cons_succ]
    refine wpAnyH_ready (rs := [0, 6]) (by kernel_rfl) (by simp) ?_
    refine AllReadyH.cons (o := _) rfl (fun K hK => ?_) (AllReadyH.cons (o := _) rfl (fun K hK => ?_) AllReadyH.nil)
    · simp only [List.getElem_toArray, List.getElem_cons_zero]
      go_simp
      with_reducible refine (base9 _).mono ?_
      rintro e w4 ⟨rfl, b4⟩
      dsimp only
      replace hd := blk_u hd b4
      replace hD := hD.below b4
      replace bel := bel.trans (b4.mono bel.size)
      clear b4
      refine hK.out _ _ hd (fun hH5 => ?_)
      clear hK K
      refine wpAnyH_ready (rs := [2, 6]) (by kernel_rfl) (by simp) ?_
      refine AllReadyH.cons (o := _) rfl (fun K hK => ?_) (AllReadyH.cons (o := _) rfl (fun K hK => ?_) AllReadyH.nil)
      · simp only [List.getElem_toArray, List.getElem_cons_zero, List.getElem_cons_succ]
        go_simp
        with_reducible refine (kput_ok _ _ _ _ _ _ _ _ hD G1.out G2.out G3.out E0.out E1.out).mono ?_
        rintro e w6 ⟨Ao, co, Ab, cb, rfl, _, pb, fb, b6⟩
        dsimp only
        have av_pb_d := fb.av (hlt hd)
        replace hd := blk_u hd b6
        replace hD := hD.below b6
        replace bel := bel.trans (b6.mono bel.size)
        clear b6
        replace pb : Sl w6 (Ab) (8 + nd) (cb) (icBytes ty cd re ld) := pb
        refine hK.out _ _ hd (fun hH7 => ?_)
        clear hK K
        refine wpAnyH_take (i := 3) (v := ?_) rfl (by kernel_rfl) (by kernel_rfl) (by kernel_rfl) (fun _ _ _ h => h) (Or.inl ⟨by rfl, ?_⟩) hH7 ?_
        rotate_left
        · ((intro W hW; clear hW; go_simp) <;> with_reducible rfl)
        simp only [Act.put, List.getElem_toArray, List.getElem_cons_zero, List.getElem_cons_succ, List.setIfInBounds_toArray, List.set_cons_zero, List.set_cons_succ]
        refine wpAnyH_take (i := 4) (v := ?_) rfl (by kernel_rfl) (by kernel_rfl) (by kernel_rfl) (fun _ _ _ h => h) (Or.inl ⟨by rfl, ?_⟩) hH7 ?_
        rotate_left
        · ((intro W hW; clear hW; go_simp) <;> with_reducible rfl)
        simp only [Act.put, List.getElem_toArray, List.getElem_cons_zero, List.getElem_cons_succ, List.setIfInBounds_toArray, List.set_cons_zero, List.set_cons_succ]
        refine wpAnyH_take (i := 5) (v := ?_) rfl (by kernel_rfl) (by kernel_rfl) (by kernel_rfl) (fun _ _ _ h => h) (Or.inl ⟨by rfl, ?_⟩) hH7 ?_
        rotate_left
        · ((intro W hW; clear hW; go_simp) <;> with_reducible rfl)
        simp only [Act.put, List.getElem_toArray, List.getElem_cons_zero, List.getElem_cons_succ, List.setIfInBounds_toArray, List.set_cons_zero, List.set_cons_succ]
        refine wpAnyH_ready (rs := [6]) (by kernel_rfl) (by simp) ?_
        refine AllReadyH.cons (o := _) rfl (fun K hK => ?_) AllReadyH.nil
        simp only [List.getElem_toArray, List.getElem_cons_zero, List.getElem_cons_succ]
        rw [if_pos (by rfl)]
        refine wp_new_a 27 rfl #[.int .i64 0, .int .i64 0, .int .i64 0, .int .i64 0, .int .i64 0, .int .i64 0, .int .u8 0, .int .u8 0, .int .u8 0, .int .u8 0, .int .u8 0, .int .u8 0, .int .u8 0, .int .u8 0, .slice none 0 0, .slice none 0 0] (by kernel_rfl) ?_
        intro g5 w8 ge hh bb
        have d_d_p := ne_new (hlt hd) ge
        have av_hD_p := hD.av_new ge
        have av_pb_p := pb.av_new ge
        have op := Nat.le_trans bel.size ge
        replace hd := blk_u hd bb
        replace hD := hD.below bb
        replace pb := pb.below bb
        replace bel := bel.trans (bb.mono bel.size)
        have hp := hh
        clear hh ge bb
        refine hK.out _ _ hd (fun hH9 => ?_)
        clear hK K
        simp only [Act.put, List.setIfInBounds_toArray, List.set_cons_zero, List.set_cons_succ]
        refine wpAnyH_ready (rs := [7]) (by kernel_rfl) (by simp) ?_
        refine AllReadyH.cons (o := _) rfl (fun K hK => ?_) AllReadyH.nil
        simp only [List.getElem_toArray, List.getElem_cons_zero, List.getElem_cons_succ]
        rw [if_pos (by rfl)]
        refine wp_store_blk 27 (.tmp 5) (.tmp 20) rfl g5 rfl _ rfl _ 27 hp (by rfl) (by kernel_rfl) (by kernel_rfl) ?_
        intro w10 hq gr
        replace hD := hD.away av_hD_p gr
        replace pb := pb.away av_pb_p gr
        replace hd := blk_a hd gr d_d_p
        replace bel := below_grown bel gr op bel.size
        clear hp
        have hp := hq
        clear hq gr
        refine hK.out _ _ hd (fun hH11 => ?_)
        clear hK K
        simp only [Act.put]
        refine wpAnyH_take (i := 8) (v := ?_) rfl (by kernel_rfl) (by kernel_rfl) (by kernel_rfl) (fun _ _ _ h => h) (Or.inl ⟨by rfl, ?_⟩) hH11 ?_
        rotate_left
        · ((intro W hW; clear hW; go_simp) <;> with_reducible rfl)
        simp only [Act.put, List.getElem_toArray, List.getElem_cons_zero, List.getElem_cons_succ, List.setIfInBounds_toArray, List.set_cons_zero, List.set_cons_succ]
        refine wpAnyH_done (by kernel_rfl) ?_ _
        go_wp2_with fail
        go_meet
        case rel => exact ⟨g5, Ab, cb, Ao, co, rfl, rfl, hd, hp, op, d_d_p, hD, av_hD_d, av_hD_p, pb, av_pb_d, av_pb_p, bel⟩
      · simp only [List.getElem_toArray, List.getElem_cons_zero, List.getElem_cons_succ]
        rw [if_pos (by rfl)]
        refine wp_new_a 27 rfl #[.int .i64 0, .int .i64 0, .int .i64 0, .int .i64 0, .int .i64 0, .int .i64 0, .int .u8 0, .int .u8 0, .int .u8 0, .int .u8 0, .int .u8 0, .int .u8 0, .int .u8 0, .int .u8 0, .slice none 0 0, .slice none 0 0] (by kernel_rfl) ?_
        intro g5 w6 ge hh bb
        have d_d_p := ne_new (hlt hd) ge
        have av_hD_p := hD.av_new ge
        have op := Nat.le_trans bel.size ge
        replace hd := blk_u hd bb
        replace hD := hD.below bb
        replace bel := bel.trans (bb.mono bel.size)
        have hp := hh
        clear hh ge bb
        refine hK.out _ _ hd (fun hH7 => ?_)
        clear hK K
        simp only [Act.put, List.setIfInBounds_toArray, List.set_cons_zero, List.set_cons_succ]
        refine wpAnyH_ready (rs := [2]) (by kernel_rfl) (by simp) ?_
        refine AllReadyH.cons (o := _) rfl (fun K hK => ?_) AllReadyH.nil
        simp only [List.getElem_toArray, List.getElem_cons_zero, List.getElem_cons_succ]
        go_simp
        with_reducible refine (kput_ok _ _ _ _ _ _ _ _ hD G1.out G2.out G3.out E0.out E1.out).mono ?_
        rintro e w8 ⟨Ao, co, Ab, cb, rfl, _, pb, fb, b8⟩
        dsimp only
        have av_pb_d := fb.av (hlt hd)
        have av_pb_p := fb.av (hlt hp)
        replace hd := blk_u hd b8
        replace hp := blk_u hp b8
        replace hD := hD.below b8
        replace bel := bel.trans (b8.mono bel.size)
        clear b8
        replace pb : Sl w8 (Ab) (8 + nd) (cb) (icBytes ty cd re ld) := pb
        refine hK.out _ _ hd (fun hH9 => ?_)
        clear hK K
        refine wpAnyH_take (i := 3) (v := ?_) rfl (by kernel_rfl) (by kernel_rfl) (by kernel_rfl) (fun _ _ _ h => h) (Or.inl ⟨by rfl, ?_⟩) hH9 ?_
        rotate_left
        · ((intro W hW; clear hW; go_simp) <;> with_reducible rfl)
        simp only [Act.put, List.getElem_toArray, List.getElem_cons_zero, List.getElem_cons_succ, List.setIfInBounds_toArray, List.set_cons_zero, List.set_cons_succ]
        refine wpAnyH_take (i := 4) (v := ?_) rfl (by kernel_rfl) (by kernel_rfl) (by kernel_rfl) (fun _ _ _ h => h) (Or.inl ⟨by rfl, ?_⟩) hH9 ?_
        rotate_left
        · ((intro W hW; clear hW; go_simp) <;> with_reducible rfl)
        simp only [Act.put, List.getElem_toArray, List.getElem_cons_zero, List.getElem_cons_succ, List.setIfInBounds_toArray, List.set_cons_zero, List.set_cons_succ]
        refine wpAnyH_take (i := 5) (v := ?_) rfl (by kernel_rfl) (by kernel_rfl) (by kernel_rfl) (fun _ _ _ h => h) (Or.inl ⟨by rfl, ?_⟩) hH9 ?_
        rotate_left
        · ((intro W hW; clear hW; go_simp) <;> with_reducible rfl)
        simp only [Act.put, List.getElem_toArray, List.getElem_cons_zero, List.getElem_cons_succ, List.setIfInBounds_toArray, List.set_cons_zero, List.set_cons_succ]
        refine wpAnyH_ready (rs := [7]) (by kernel_rfl) (by simp) ?_
        refine AllReadyH.cons (o := _) rfl (fun K hK => ?_) AllReadyH.nil
        simp only [List.getElem_toArray, List.getElem_cons_zero, List.getElem_cons_succ]
        rw [if_pos (by rfl)]
        refine wp_store_blk 27 (.tmp 5) (.tmp 20) rfl g5 rfl _ rfl _ 27 hp (by rfl) (by kernel_rfl) (by kernel_rfl) ?_
        intro w10 hq gr
        replace hD := hD.away av_hD_p gr
        replace pb := pb.away av_pb_p gr
        replace hd := blk_a hd gr d_d_p
        replace bel := below_grown bel gr op bel.size
        clear hp
        have hp := hq
        clear hq gr
        refine hK.out _ _ hd (fun hH11 => ?_)
        clear hK K
        simp only [Act.put]
        refine wpAnyH_take (i := 8) (v := ?_) rfl (by kernel_rfl) (by kernel_rfl) (by kernel_rfl) (fun _ _ _ h => h) (Or.inl ⟨by rfl, ?_⟩) hH11 ?_
        rotate_left
        · ((intro W hW; clear hW; go_simp) <;> with_reducible rfl)
        simp only [Act.put, List.getElem_toArray, List.getElem_cons_zero, List.getElem_cons_succ, List.setIfInBounds_toArray, List.set_cons_zero, List.set_cons_succ]
        refine wpAnyH_done (by kernel_rfl) ?_ _
        go_wp2_with fail
        go_meet
        case rel => exact ⟨g5, Ab, cb, Ao, co, rfl, rfl, hd, hp, op, d_d_p, hD, av_hD_d, av_hD_p, pb, av_pb_d, av_pb_p, bel⟩
    · simp only [List.getElem_toArray, List.getElem_cons_zero, List.getElem_cons_succ]
      rw [if_pos (by rfl)]
      refine wp_new_a 27 rfl #[.int .i64 0, .int .i64 0, .int .i64 0, .int .i64 0, .int .i64 0, .int .i64 0, .int .u8 0, .int .u8 0, .int .u8 0, .int .u8 0, .int .u8 0, .int .u8 0, .int .u8 0, .int .u8 0, .slice none 0 0, .slice none 0 0] (by kernel_rfl) ?_
      intro g5 w4 ge hh bb
      have d_d_p := ne_new (hlt hd) ge
      have av_hD_p := hD.av_new ge
      have op := Nat.le_trans bel.size ge
      replace hd := blk_u hd bb
      replace hD := hD.below bb
      replace bel := bel.trans (bb.mono bel.size)
      have hp := hh
      clear hh ge bb
      refine hK.out _ _ hd (fun hH5 => ?_)
      clear hK K
      simp only [Act.put, List.setIfInBounds_toArray, List.set_cons_zero, List.set_cons_succ]
      refine wpAnyH_ready (rs := [0]) (by kernel_rfl) (by simp) ?_
      refine AllReadyH.cons (o := _) rfl (fun K hK => ?_) AllReadyH.nil
      simp only [List.getElem_toArray, List.getElem_cons_zero]
      go_simp
      with_reducible refine (base9 _).mono ?_
      rintro e w6 ⟨rfl, b6⟩
      dsimp only
      replace hd := blk_u hd b6
      replace hp := blk_u hp b6
      replace hD := hD.below b6
      replace bel := bel.trans (b6.mono bel.size)
      clear b6
      refine hK.out _ _ hd (fun hH7 => ?_)
      clear hK K
      refine wpAnyH_ready (rs := [2]) (by kernel_rfl) (by simp) ?_
      refine AllReadyH.cons (o := _) rfl (fun K hK => ?_) AllReadyH.nil
      simp only [List.getElem_toArray, List.getElem_cons_zero, List.getElem_cons_succ]
      go_simp
      with_reducible refine (kput_ok _ _ _ _ _ _ _ _ hD G1.out G2.out G3.out E0.out E1.out).mono ?_
      rintro e w8 ⟨Ao, co, Ab, cb, rfl, _, pb, fb, b8⟩
      dsimp only
      have av_pb_d := fb.av (hlt hd)
      have av_pb_p := fb.av (hlt hp)
      replace hd := blk_u hd b8
      replace hp := blk_u hp b8
      replace hD := hD.below b8
      replace bel := bel.trans (b8.mono bel.size)
      clear b8
      replace pb : Sl w8 (Ab) (8 + nd) (cb) (icBytes ty cd re ld) := pb
      refine hK.out _ _ hd (fun hH9 => ?_)
      clear hK K
      refine wpAnyH_take (i := 3) (v := ?_) rfl (by kernel_rfl) (by kernel_rfl) (by kernel_rfl) (fun _ _ _ h => h) (Or.inl ⟨by rfl, ?_⟩) hH9 ?_
      rotate_left
      · ((intro W hW; clear hW; go_simp) <;> with_reducible rfl)
      simp only [Act.put, List.getElem_toArray, List.getElem_cons_zero, List.getElem_cons_succ, List.setIfInBounds_toArray, List.set_cons_zero, List.set_cons_succ]
      refine wpAnyH_take (i := 4) (v := ?_) rfl (by kernel_rfl) (by kernel_rfl) (by kernel_rfl) (fun _ _ _ h => h) (Or.inl ⟨by rfl, ?_⟩) hH9 ?_
      rotate_left
      · ((intro W hW; clear hW; go_simp) <;> with_reducible rfl)
      simp only [Act.put, List.getElem_toArray, List.getElem_cons_zero, List.getElem_cons_succ, List.setIfInBounds_toArray, List.set_cons_zero, List.set_cons_succ]
      refine wpAnyH_take (i := 5) (v := ?_) rfl (by kernel_rfl) (by kernel_rfl) (by kernel_rfl) (fun _ _ _ h => h) (Or.inl ⟨by rfl, ?_⟩) hH9 ?_
      rotate_left
      · ((intro W hW; clear hW; go_simp) <;> with_reducible rfl)
      simp only [Act.put, List.getElem_toArray, List.getElem_cons_zero, List.getElem_cons_succ, List.setIfInBounds_toArray, List.set_cons_zero, List.set_cons_succ]
      refine wpAnyH_ready (rs := [7]) (by kernel_rfl) (by simp) ?_
      refine AllReadyH.cons (o := _) rfl (fun K hK => ?_) AllReadyH.nil
      simp only [List.getElem_toArray, List.getElem_cons_zero, List.getElem_cons_succ]
      rw [if_pos (by rfl)]
      refine wp_store_blk 27 (.tmp 5) (.tmp 20) rfl g5 rfl _ rfl _ 27 hp (by rfl) (by kernel_rfl) (by kernel_rfl) ?_
      intro w10 hq gr
      replace hD := hD.away av_hD_p gr
      replace pb := pb.away av_pb_p gr
      replace hd := blk_a hd gr d_d_p
      replace bel := below_grown bel gr op bel.size
      clear hp
      have hp := hq
      clear hq gr
      refine hK.out _ _ hd (fun hH11 => ?_)
      clear hK K
      simp only [Act.put]
      refine wpAnyH_take (i := 8) (v := ?_) rfl (by kernel_rfl) (by kernel_rfl) (by kernel_rfl) (fun _ _ _ h => h) (Or.inl ⟨by rfl, ?_⟩) hH11 ?_
      rotate_left
      · ((intro W hW; clear hW; go_simp) <;> with_reducible rfl)
      simp only [Act.put, List.getElem_toArray, List.getElem_cons_zero, List.getElem_cons_succ, List.setIfInBounds_toArray, List.set_cons_zero, List.set_cons_succ]
      refine wpAnyH_done (by kernel_rfl) ?_ _
      go_wp2_with fail
      go_meet
      case rel => exact ⟨g5, Ab, cb, Ao, co, rfl, rfl, hd, hp, op, d_d_p, hD, av_hD_d, av_hD_p, pb, av_pb_d, av_pb_p, bel⟩
  obtain ⟨w12, hw_⟩ : ∃ x, x = wc := ⟨_, rfl⟩
  subst hw_
  obtain ⟨g5, Ab, cb, Ao, co, rfl, rfl, hd, hp, op, d_d_p, hD, av_hD_d, av_hD_p, pb, av_pb_d, av_pb_p, bel⟩ := hcut
  go_wp2_with fail
  go_ret
  exact ⟨rfl, bel⟩
set_option linter.unusedVariables false in
set_option maxRecDepth 100000 in
set_option maxHeartbeats 16000000 in
theorem icmpBits_4 (ty cd re : Int) (D : Option Addr) (nd qd : Nat) (ld : List UInt8) (bit : Int) (w : World) (hD : Sl w D nd qd ld) (h3 : nd ≤ 500) (g1 : byteOk ty = true) (g2 : byteOk cd = true) (g3 : nd ≤ 1472) (e0 : 0 ≤ re) (e1 : re < 4294967296) (hb : 8 * (8 + (nd : Int)) ≤ bit) : Calls Try.prog 8 #[.agg #[.int .i64 ty, .int .i64 cd, .int .u32 re, .slice D nd qd], .int .i64 bit] w fun e w' => e = .returned (.bool true) ∧ Below w.heap.size w w' := by
  obtain ⟨ii, hii, hz0, hz1, hz2⟩ := info_parts Try.info5
  have t1 : decide ((500 : Int) < nd) = false := decide_eq_false (by omega)
  have H3 := Lib.hid h3
  clear h3
  have G1 := Lib.hid g1
  have G2 := Lib.hid g2
  have G3 := Lib.hid g3
  clear g1 g2 g3
  have E0 := Lib.hid e0
  have E1 := Lib.hid e1
  clear e0 e1
  have ew : IntKind.i64.wrap (8 * (8 + (nd : Int))) = 8 * (8 + (nd : Int)) := by rw [IntKind.wrap_i64]; have := H3.out; omega
  have t2 : decide (bit < 0) = false := decide_eq_false (by omega)
  have bel := Below.refl w.heap.size w
  go_enter Try.func8, Try.ntmps8
  go_wp2_with (first | ((with_reducible show wpList _ _ _ (⟨some 2, _, _, _, _, _⟩ :: _) _ _); refine wpList_box_n rfl 34 (.tmp 0) rfl #[.int .i64 ty, .int .i64 cd, .int .u32 re, .slice D nd qd] rfl ?_; intro g2 w1 ge lt hh bb; have av_hD_d := hD.av_new ge; have od := Nat.le_trans bel.size ge; replace hD := hD.below bb; replace bel := bel.trans (bb.mono bel.size); have hd := hh; clear hh lt ge bb))
  with_reducible refine (awake9 _).mono ?_
  rintro e w2 ⟨rfl, b2⟩
  replace hd := blk_u hd b2
  replace hD := hD.below b2
  replace bel := bel.trans (b2.mono bel.size)
  clear b2
  have R13 := cell_lit hd 3 _ rfl
  go_wp2_with fail
  clear R13
  go_cut [5, 6] from 9999 (fun s5 s6 W => ∃ g5 : Nat, ∃ Ab : Option Addr, ∃ cb : Nat, ∃ Ao : Option Addr, ∃ co : Nat, s5 = .pointer (some ⟨g5, 0, none⟩) ∧ s6 = .int .i64 0 ∧ W.heap[g2]? = some (.cells #[.int .i64 ty, .int .i64 cd, .int .u32 re, .slice D nd qd] 34 (0, 0)) ∧ W.heap[g5]? = some (.cells #[.int .i64 0, .int .i64 0, .int .i64 0, .int .i64 0, .int .i64 64, .int .i64 1, .int .u8 10, .int .u8 0, .int .u8 0, .int .u8 1, .int .u8 10, .int .u8 0, .int .u8 0, .int .u8 2, .slice Ao 0 co, .slice Ab (8 + nd) cb] 27 (0, 0)) ∧ w.heap.size ≤ g5 ∧ Hid (g2 ≠ g5) ∧ Sl W (D) (nd) (qd) (ld) ∧ Av (D) (nd) g2 ∧ Av (D) (nd) g5 ∧ Sl W (Ab) (8 + nd) (cb) (icBytes ty cd re ld) ∧ Av (Ab) (8 + nd) g2 ∧ Av (Ab) (8 + nd) g5 ∧ Below w.heap.size w W)
  case first =>
    replace bel := bel.drew
    replace hd : w2.drew.heap[g2]? = _ := hd
    replace hD := hD.drew
    refine wp_region_held_drew (S := fun W => W.heap[g2]? = some (.cells #[.int .i64 ty, .int .i64 cd, .int .u32 re, .slice D nd qd] 34 (0, 0))) (by kernel_rfl) hd (fun hH => ?_)
    generalize w2.drew = w3 at bel hd hD hH ⊢
    refine wpAnyH_take (i := 1) (v := .agg #[.int .i64 ty, .int .i64 cd, .int .u32 re, .slice D nd qd]) rfl (by kernel_rfl) (by kernel_rfl) (by kernel_rfl) (fun _ _ _ h => h) (yieldsIf_load_part (by kernel_rfl) 34 _ rfl g2 0 4 rfl _ 34 (0, 0) (fun W hW => hW) _ rfl _ Try.underlying34 rfl (by kernel_rfl)) hH ?_
    simp only [Act.put, List.getElem_toArray, List.getElem_cons_zero, List.getElem_cons_succ, List.setIfInBounds_toArray, List.set_cons_zero, List.set_cons_succ]
    refine wpAnyH_ready (rs := [0, 6]) (by kernel_rfl) (by simp) ?_
    refine AllReadyH.cons (o := _) rfl (fun K hK => ?_) (AllReadyH.cons (o := _) rfl (fun K hK => ?_) AllReadyH.nil)
    · simp only [List.getElem_toArray, List.getElem_cons_zero]
      go_simp
      with_reducible refine (base9 _).mono ?_
      rintro e w4 ⟨rfl, b4⟩
      dsimp only
      replace hd := blk_u hd b4
      replace hD := hD.below b4
      replace bel := bel.trans (b4.mono bel.size)
      clear b4
      refine hK.out _ _ hd (fun hH5 => ?_)
      clear hK K
      refine wpAnyH_ready (rs := [2, 6]) (by kernel_rfl) (by simp) ?_
      refine AllReadyH.cons (o := _) rfl (fun K hK => ?_) (AllReadyH.cons (o := _) rfl (fun K hK => ?_) AllReadyH.nil)
      · simp only [List.getElem_toArray, List.getElem_cons_zero, List.getElem_cons_succ]
        go_simp
        with_reducible refine (kput_ok _ _ _ _ _ _ _ _ hD G1.out G2.out G3.out E0.out E1.out).mono ?_
        rintro e w6 ⟨Ao, co, Ab, cb, rfl, _, pb, fb, b6⟩
        dsimp only
        have av_pb_d := fb.av (hlt hd)
        replace hd := blk_u hd b6
        replace hD := hD.below b6
        replace bel := bel.trans (b6.mono bel.size)
        clear b6
        replace pb : Sl w6 (Ab) (8 + nd) (cb) (icBytes ty cd re ld) := pb
        refine hK.out _ _ hd (fun hH7 => ?_)
        clear hK K
        refine wpAnyH_take (i := 3) (v := ?_) rfl (by kernel_rfl) (by kernel_rfl) (by kernel_rfl) (fun _ _ _ h => h) (Or.inl ⟨by rfl, ?_⟩) hH7 ?_
        rotate_left
        · ((intro W hW; clear hW; go_simp) <;> with_reducible rfl)
        simp only [Act.put, List.getElem_toArray, List.getElem_cons_zero, List.getElem_cons_succ, List.setIfInBounds_toArray, List.set_cons_zero, List.set_cons_succ]
        refine wpAnyH_take (i := 4) (v := ?_) rfl (by kernel_rfl) (by kernel_rfl) (by kernel_rfl) (fun _ _ _ h => h) (Or.inl ⟨by rfl, ?_⟩) hH7 ?_
        rotate_left
        · ((intro W hW; clear hW; go_simp) <;> with_reducible rfl)
        simp only [Act.put, List.getElem_toArray, List.getElem_cons_zero, List.getElem_cons_succ, List.setIfInBounds_toArray, List.set_cons_zero, List.set_cons_succ]
        refine wpAnyH_take (i := 5) (v := ?_) rfl (by kernel_rfl) (by kernel_rfl) (by kernel_rfl) (fun _ _ _ h => h) (Or.inl ⟨by rfl, ?_⟩) hH7 ?_
        rotate_left
        · ((intro W hW; clear hW; go_simp) <;> with_reducible rfl)
        simp only [Act.put, List.getElem_toArray, List.getElem_cons_zero, List.getElem_cons_succ, List.setIfInBounds_toArray, List.set_cons_zero, List.set_cons_succ]
        refine wpAnyH_ready (rs := [6]) (by kernel_rfl) (by simp) ?_
        refine AllReadyH.cons (o := _) rfl (fun K hK => ?_) AllReadyH.nil
        simp only [List.getElem_toArray, List.getElem_cons_zero, List.getElem_cons_succ]
        rw [if_pos (by rfl)]
        refine wp_new_a 27 rfl #[.int .i64 0, .int .i64 0, .int .i64 0, .int .i64 0, .int .i64 0, .int .i64 0, .int .u8 0, .int .u8 0, .int .u8 0, .int .u8 0, .int .u8 0, .int .u8 0, .int .u8 0, .int .u8 0, .slice none 0 0, .slice none 0 0] (by kernel_rfl) ?_
        intro g5 w8 ge hh bb
        have d_d_p := ne_new (hlt hd) ge
        have av_hD_p := hD.av_new ge
        have av_pb_p := pb.av_new ge
        have op := Nat.le_trans bel.size ge
        replace hd := blk_u hd bb
        replace hD := hD.below bb
        replace pb := pb.below bb
        replace bel := bel.trans (bb.mono bel.size)
        have hp := hh
        clear hh ge bb
        refine hK.out _ _ hd (fun hH9 => ?_)
        clear hK K
        simp only [Act.put, List.setIfInBounds_toArray, List.set_cons_zero, List.set_cons_succ]
        refine wpAnyH_ready (rs := [7]) (by kernel_rfl) (by simp) ?_
        refine AllReadyH.cons (o := _) rfl (fun K hK => ?_) AllReadyH.nil
        simp only [List.getElem_toArray, List.getElem_cons_zero, List.getElem_cons_succ]
        rw [if_pos (by rfl)]
        refine wp_store_blk 27 (.tmp 5) (.tmp 20) rfl g5 rfl _ rfl _ 27 hp (by rfl) (by kernel_rfl) (by kernel_rfl) ?_
        intro w10 hq gr
        replace hD := hD.away av_hD_p gr
        replace pb := pb.away av_pb_p gr
        replace hd := blk_a hd gr d_d_p
        replace bel := below_grown bel gr op bel.size
        clear hp
        have hp := hq
        clear hq gr
        refine hK.out _ _ hd (fun hH11 => ?_)
        clear hK K
        simp only [Act.put]
        refine wpAnyH_take (i := 8) (v := ?_) rfl (by kernel_rfl) (by kernel_rfl) (by kernel_rfl) (fun _ _ _ h => h) (Or.inl ⟨by rfl, ?_⟩) hH11 ?_
        rotate_left
        · ((intro W hW; clear hW; go_simp) <;> with_reducible rfl)
        simp only [Act.put, List.getElem_toArray, List.getElem_cons_zero, List.getElem_cons_succ, List.setIfInBounds_toArray, List.set_cons_zero, List.set_cons_succ]
        refine wpAnyH_done (by kernel_rfl) ?_ _
        go_wp2_with fail
        go_meet
        case rel => exact ⟨g5, Ab, cb, Ao, co, rfl, rfl, hd, hp, op, d_d_p, hD, av_hD_d, av_hD_p, pb, av_pb_d, av_pb_p, bel⟩
      · simp only [List.getElem_toArray, List.getElem_cons_zero, List.getElem_cons_succ]
        rw [if_pos (by rfl)]
        refine wp_new_a 27 rfl #[.int .i64 0, .int .i64 0, .int .i64 0, .int .i64 0, .int .i64 0, .int .i64 0, .int .u8 0, .int .u8 0, .int .u8 0, .int .u8 0, .int .u8 0, .int .u8 0, .int .u8 0, .int .u8 0, .slice none 0 0, .slice none 0 0] (by kernel_rfl) ?_
        intro g5 w6 ge hh bb
        have d_d_p := ne_new (hlt hd) ge
        have av_hD_p := hD.av_new ge
        have op := Nat.le_trans bel.size ge
        replace hd := blk_u hd bb
        replace hD := hD.below bb
        replace bel := bel.trans (bb.mono bel.size)
        have hp := hh
        clear hh ge bb
        refine hK.out _ _ hd (fun hH7 => ?_)
        clear hK K
        simp only [Act.put, List.setIfInBounds_toArray, List.set_cons_zero, List.set_cons_succ]
        refine wpAnyH_ready (rs := [2]) (by kernel_rfl) (by simp) ?_
        refine AllReadyH.cons (o := _) rfl (fun K hK => ?_) AllReadyH.nil
        simp only [List.getElem_toArray, List.getElem_cons_zero, List.getElem_cons_succ]
        go_simp
        with_reducible refine (kput_ok _ _ _ _ _ _ _ _ hD G1.out G2.out G3.out E0.out E1.out).mono ?_
        rintro e w8 ⟨Ao, co, Ab, cb, rfl, _, pb, fb, b8⟩
        dsimp only
        have av_pb_d := fb.av (hlt hd)
        have av_pb_p := fb.av (hlt hp)
        replace hd := blk_u hd b8
        replace hp := blk_u hp b8
        replace hD := hD.below b8
        replace bel := bel.trans (b8.mono bel.size)
        clear b8
        replace pb : Sl w8 (Ab) (8 + nd) (cb) (icBytes ty cd re ld) := pb
        refine hK.out _ _ hd (fun hH9 => ?_)
        clear hK K
        refine wpAnyH_take (i := 3) (v := ?_) rfl (by kernel_rfl) (by kernel_rfl) (by kernel_rfl) (fun _ _ _ h => h) (Or.inl ⟨by rfl, ?_⟩) hH9 ?_
        rotate_left
        · ((intro W hW; clear hW; go_simp) <;> with_reducible rfl)
        simp only [Act.put, List.getElem_toArray, List.getElem_cons_zero, List.getElem_cons_succ, List.setIfInBounds_toArray, List.set_cons_zero, List.set_cons_succ]
        refine wpAnyH_take (i := 4) (v := ?_) rfl (by kernel_rfl) (by kernel_rfl) (by kernel_rfl) (fun _ _ _ h => h) (Or.inl ⟨by rfl, ?_⟩) hH9 ?_
        rotate_left
        · ((intro W hW; clear hW; go_simp) <;> with_reducible rfl)
        simp only [Act.put, List.getElem_toArray, List.getElem_cons_zero, List.getElem_cons_succ, List.setIfInBounds_toArray, List.set_cons_zero, List.set_cons_succ]
        refine wpAnyH_take (i := 5) (v := ?_) rfl (by kernel_rfl) (by kernel_rfl) (by kernel_rfl) (fun _ _ _ h => h) (Or.inl ⟨by rfl, ?_⟩) hH9 ?_
        rotate_left
        · ((intro W hW; clear hW; go_simp) <;> with_reducible rfl)
        simp only [Act.put, List.getElem_toArray, List.getElem_cons_zero, List.getElem_cons_succ, List.setIfInBounds_toArray, List.set_cons_zero, List.set_cons_succ]
        refine wpAnyH_ready (rs := [7]) (by kernel_rfl) (by simp) ?_
        refine AllReadyH.cons (o := _) rfl (fun K hK => ?_) AllReadyH.nil
        simp only [List.getElem_toArray, List.getElem_cons_zero, List.getElem_cons_succ]
        rw [if_pos (by rfl)]
        refine wp_store_blk 27 (.tmp 5) (.tmp 20) rfl g5 rfl _ rfl _ 27 hp (by rfl) (by kernel_rfl) (by kernel_rfl) ?_
        intro w10 hq gr
        replace hD := hD.away av_hD_p gr
        replace pb := pb.away av_pb_p gr
        replace hd := blk_a hd gr d_d_p
        replace bel := below_grown bel gr op bel.size
        clear hp
        have hp := hq
        clear hq gr
        refine hK.out _ _ hd (fun hH11 => ?_)
        clear hK K
        simp only [Act.put]
        refine wpAnyH_take (i := 8) (v := ?_) rfl (by kernel_rfl) (by kernel_rfl) (by kernel_rfl) (fun _ _ _ h => h) (Or.inl ⟨by rfl, ?_⟩) hH11 ?_
        rotate_left
        · ((intro W hW; clear hW; go_simp) <;> with_reducible rfl)
        simp only [Act.put, List.getElem_toArray, List.getElem_cons_zero, List.getElem_cons_succ, List.setIfInBounds_toArray, List.set_cons_zero, List.set_cons_succ]
        refine wpAnyH_done (by kernel_rfl) ?_ _
        go_wp2_with fail
        go_meet
        case rel => exact ⟨g5, Ab, cb, Ao, co, rfl, rfl, hd, hp, op, d_d_p, hD, av_hD_d, av_hD_p, pb, av_pb_d, av_pb_p, bel⟩
    · simp only [List.getElem_toArray, List.getElem_cons_zero, List.getElem_cons_succ]
      rw [if_pos (by rfl)]
      refine wp_new_a 27 rfl #[.int .i64 0, .int .i64 0, .int .i64 0, .int .i64 0, .int .i64 0, .int .i64 0, .int .u8 0, .int .u8 0, .int .u8 0, .int .u8 0, .int .u8 0, .int .u8 0, .int .u8 0, .int .u8 0, .slice none 0 0, .slice none 0 0] (by kernel_rfl) ?_
      intro g5 w4 ge hh bb
      have d_d_p := ne_new (hlt hd) ge
      have av_hD_p := hD.av_new ge
      have op := Nat.le_trans bel.size ge
      replace hd := blk_u hd bb
      replace hD := hD.below bb
      replace bel := bel.trans (bb.mono bel.size)
      have hp := hh
      clear hh ge bb
      refine hK.out _ _ hd (fun hH5 => ?_)
      clear hK K
      simp only [Act.put, List.setIfInBounds_toArray, List.set_cons_zero, List.set_cons_succ]
      refine wpAnyH_ready (rs := [0]) (by kernel_rfl) (by simp) ?_
      refine AllReadyH.cons (o := _) rfl (fun K hK => ?_) AllReadyH.nil
      simp only [List.getElem_toArray, List.getElem_cons_zero]
      go_simp
      with_reducible refine (base9 _).mono ?_
      rintro e w6 ⟨rfl, b6⟩
      dsimp only
      replace hd := blk_u hd b6
      replace hp := blk_u hp b6
      replace hD := hD.below b6
      replace bel := bel.trans (b6.mono bel.size)
      clear b6
      refine hK.out _ _ hd (fun hH7 => ?_)
      clear hK K
      refine wpAnyH_ready (rs := [2]) (by kernel_rfl) (by simp) ?_
      refine AllReadyH.cons (o := _) rfl (fun K hK => ?_) AllReadyH.nil
      simp only [List.getElem_toArray, List.getElem_cons_zero, List.getElem_cons_succ]
      go_simp
      with_reducible refine (kput_ok _ _ _ _ _ _ _ _ hD G1.out G2.out G3.out E0.out E1.out).mono ?_
      rintro e w8 ⟨Ao, co, Ab, cb, rfl, _, pb, fb, b8⟩
      dsimp only
      have av_pb_d := fb.av (hlt hd)
      have av_pb_p := fb.av (hlt hp)
      replace hd := blk_u hd b8
      replace hp := blk_u hp b8
      replace hD := hD.below b8
      replace bel := bel.trans (b8.mono bel.size)
      clear b8
      replace pb : Sl w8 (Ab) (8 + nd) (cb) (icBytes ty cd re ld) := pb
      refine hK.out _ _ hd (fun hH9 => ?_)
      clear hK K
      refine wpAnyH_take (i := 3) (v := ?_) rfl (by kernel_rfl) (by kernel_rfl) (by kernel_rfl) (fun _ _ _ h => h) (Or.inl ⟨by rfl, ?_⟩) hH9 ?_
      rotate_left
      · ((intro W hW; clear hW; go_simp) <;> with_reducible rfl)
      simp only [Act.put, List.getElem_toArray, List.getElem_cons_zero, List.getElem_cons_succ, List.setIfInBounds_toArray, List.set_cons_zero, List.set_cons_succ]
      refine wpAnyH_take (i := 4) (v := ?_) rfl (by kernel_rfl) (by kernel_rfl) (by kernel_rfl) (fun _ _ _ h => h) (Or.inl ⟨by rfl, ?_⟩) hH9 ?_
      rotate_left
      · ((intro W hW; clear hW; go_simp) <;> with_reducible rfl)
      simp only [Act.put, List.getElem_toArray, List.getElem_cons_zero, List.getElem_cons_succ, List.setIfInBounds_toArray, List.set_cons_zero, List.set_cons_succ]
      refine wpAnyH_take (i := 5) (v := ?_) rfl (by kernel_rfl) (by kernel_rfl) (by kernel_rfl) (fun _ _ _ h => h) (Or.inl ⟨by rfl, ?_⟩) hH9 ?_
      rotate_left
      · ((intro W hW; clear hW; go_simp) <;> with_reducible rfl)
      simp only [Act.put, List.getElem_toArray, List.getElem_cons_zero, List.getElem_cons_succ, List.setIfInBounds_toArray, List.set_cons_zero, List.set_cons_succ]
      refine wpAnyH_ready (rs := [7]) (by kernel_rfl) (by simp) ?_
      refine AllReadyH.cons (o := _) rfl (fun K hK => ?_) AllReadyH.nil
      simp only [List.getElem_toArray, List.getElem_cons_zero, List.getElem_cons_succ]
      rw [if_pos (by rfl)]
      refine wp_store_blk 27 (.tmp 5) (.tmp 20) rfl g5 rfl _ rfl _ 27 hp (by rfl) (by kernel_rfl) (by kernel_rfl) ?_
      intro w10 hq gr
      replace hD := hD.away av_hD_p gr
      replace pb := pb.away av_pb_p gr
      replace hd := blk_a hd gr d_d_p
      replace bel := below_grown bel gr op bel.size
      clear hp
      have hp := hq
      clear hq gr
      refine hK.out _ _ hd (fun hH11 => ?_)
      clear hK K
      simp only [Act.put]
      refine wpAnyH_take (i := 8) (v := ?_) rfl (by kernel_rfl) (by kernel_rfl) (by kernel_rfl) (fun _ _ _ h => h) (Or.inl ⟨by rfl, ?_⟩) hH11 ?_
      rotate_left
      · ((intro W hW; clear hW; go_simp) <;> with_reducible rfl)
      simp only [Act.put, List.getElem_toArray, List.getElem_cons_zero, List.getElem_cons_succ, List.setIfInBounds_toArray, List.set_cons_zero, List.set_cons_succ]
      refine wpAnyH_done (by kernel_rfl) ?_ _
      go_wp2_with fail
      go_meet
      case rel => exact ⟨g5, Ab, cb, Ao, co, rfl, rfl, hd, hp, op, d_d_p, hD, av_hD_d, av_hD_p, pb, av_pb_d, av_pb_p, bel⟩
  obtain ⟨w12, hw_⟩ : ∃ x, x = wc := ⟨_, rfl⟩
  subst hw_
  obtain ⟨g5, Ab, cb, Ao, co, rfl, rfl, hd, hp, op, d_d_p, hD, av_hD_d, av_hD_p, pb, av_pb_d, av_pb_p, bel⟩ := hcut
  have R31 := cell_lit hp 15 _ rfl
  go_wp2_with fail
  clear R31
  go_ret
  exact ⟨rfl, bel⟩
set_option linter.unusedVariables false in
set_option maxRecDepth 100000 in
set_option maxHeartbeats 16000000 in
theorem icmpBits_5 (ty cd re : Int) (D : Option Addr) (nd qd : Nat) (ld : List UInt8) (bit : Nat) (w : World) (hD : Sl w D nd qd ld) (h3 : nd ≤ 500) (g1 : byteOk ty = true) (g2 : byteOk cd = true) (g3 : nd ≤ 1472) (e0 : 0 ≤ re) (e1 : re < 4294967296) (hb : bit < 8 * (8 + nd)) (x y : UInt8) (hx : (icBytes ty cd re ld)[bit / 8]? = some x) (hxor : bits .xor .u8 (x.toNat : Int) ((2 : Int) ^ (bit % 8) % 256) = (y.toNat : Int)) (hp : icErr 0 0 1 ((icBytes ty cd re ld).set (bit / 8) y) = 5) : Calls Try.prog 8 #[.agg #[.int .i64 ty, .int .i64 cd, .int .u32 re, .slice D nd qd], .int .i64 (bit : Int)] w fun e w' => e = .returned (.bool true) ∧ Below w.heap.size w w' := by
  obtain ⟨ii, hii, hz0, hz1, hz2⟩ := info_parts Try.info5
  have t1 : decide ((500 : Int) < nd) = false := decide_eq_false (by omega)
  have H3 := Lib.hid h3
  clear h3
  have G1 := Lib.hid g1
  have G2 := Lib.hid g2
  have G3 := Lib.hid g3
  clear g1 g2 g3
  have E0 := Lib.hid e0
  have E1 := Lib.hid e1
  clear e0 e1
  have ew : IntKind.i64.wrap (8 * (8 + (nd : Int))) = 8 * (8 + (nd : Int)) := by rw [IntKind.wrap_i64]; have := H3.out; omega
  have t2 : decide ((bit : Int) < 0) = false := decide_eq_false (by omega)
  have t3 : decide (8 * (8 + (nd : Int)) ≤ bit) = false := decide_eq_false (by omega)
  have c0 : (0 : Int) ≤ bit := by omega
  have c1 : (bit : Int) < 100000 := by have := H3.out; omega
  have HK := Lib.hid hb
  clear hb
  have b8 : (bit : Int) / 8 < 8 + (nd : Int) := by have := HK.out; omega
  have b9 : 0 ≤ (bit : Int) / 8 := by omega
  have n1 : (nd : Int) ≤ 500 := by have := H3.out; omega
  have h7 := i64_and7 bit
  have r0 : 0 ≤ (bit : Int) % 8 := by omega
  have r1 : (bit : Int) % 8 < 8 := by omega
  have hx0 : (0 : Int) ≤ x.toNat := by omega
  have hx1 : (x.toNat : Int) < 256 := by have := x.toNat_lt; omega
  have HX := Lib.hid hx
  have HP := Lib.hid hp
  clear hx hp
  have bel := Below.refl w.heap.size w
  go_enter Try.func8, Try.ntmps8
  go_wp2_with (first | ((with_reducible show wpList _ _ _ (⟨some 2, _, _, _, _, _⟩ :: _) _ _); refine wpList_box_n rfl 34 (.tmp 0) rfl #[.int .i64 ty, .int .i64 cd, .int .u32 re, .slice D nd qd] rfl ?_; intro g2 w1 ge lt hh bb; have av_hD_d := hD.av_new ge; have od := Nat.le_trans bel.size ge; replace hD := hD.below bb; replace bel := bel.trans (bb.mono bel.size); have hd := hh; clear hh lt ge bb))
  with_reducible refine (awake9 _).mono ?_
  rintro e w2 ⟨rfl, b2⟩
  replace hd := blk_u hd b2
  replace hD := hD.below b2
  replace bel := bel.trans (b2.mono bel.size)
  clear b2
  have R13 := cell_lit hd 3 _ rfl
  go_wp2_with fail
  clear R13
  go_cut [5, 6] from 9999 (fun s5 s6 W => ∃ g5 : Nat, ∃ Ab : Option Addr, ∃ cb : Nat, ∃ Ao : Option Addr, ∃ co : Nat, s5 = .pointer (some ⟨g5, 0, none⟩) ∧ s6 = .int .i64 0 ∧ W.heap[g2]? = some (.cells #[.int .i64 ty, .int .i64 cd, .int .u32 re, .slice D nd qd] 34 (0, 0)) ∧ W.heap[g5]? = some (.cells #[.int .i64 0, .int .i64 0, .int .i64 0, .int .i64 0, .int .i64 64, .int .i64 1, .int .u8 10, .int .u8 0, .int .u8 0, .int .u8 1, .int .u8 10, .int .u8 0, .int .u8 0, .int .u8 2, .slice Ao 0 co, .slice Ab (8 + nd) cb] 27 (0, 0)) ∧ w.heap.size ≤ g5 ∧ Hid (g2 ≠ g5) ∧ Sl W (D) (nd) (qd) (ld) ∧ Av (D) (nd) g2 ∧ Av (D) (nd) g5 ∧ Sl W (Ab) (8 + nd) (cb) (icBytes ty cd re ld) ∧ Av (Ab) (8 + nd) g2 ∧ Av (Ab) (8 + nd) g5 ∧ Below w.heap.size w W)
  case first =>
    replace bel := bel.drew
    replace hd : w2.drew.heap[g2]? = _ := hd
    replace hD := hD.drew
    refine wp_region_held_drew (S := fun W => W.heap[g2]? = some (.cells #[.int .i64 ty, .int .i64 cd, .int .u32 re, .slice D nd qd] 34 (0, 0))) (by kernel_rfl) hd (fun hH => ?_)
    generalize w2.drew = w3 at bel hd hD hH ⊢
    refine wpAnyH_take (i := 1) (v := .agg #[.int .i64 ty, .int .i64 cd, .int .u32 re, .slice D nd qd]) rfl (by kernel_rfl) (by kernel_rfl) (by kernel_rfl) (fun _ _ _ h => h) (yieldsIf_load_part (by kernel_rfl) 34 _ rfl g2 0 4 rfl _ 34 (0, 0) (fun W hW => hW) _ rfl _ Try.underlying34 rfl (by kernel_rfl)) hH ?_
    simp only [Act.put, List.getElem_toArray, List.getElem_cons_zero, List.getElem_cons_succ, List.setIfInBounds_toArray, List.set_cons_zero, List.set_cons_succ]
    refine wpAnyH_ready (rs := [0, 6]) (by kernel_rfl) (by simp) ?_
    refine AllReadyH.cons (o := _) rfl (fun K hK => ?_) (AllReadyH.cons (o := _) rfl (fun K hK => ?_) AllReadyH.nil)
    · simp only [List.getElem_toArray, List.getElem_cons_zero]
      go_simp
      with_reducible refine (base9 _).mono ?_
      rintro e w4 ⟨rfl, b4⟩
      dsimp only
      replace hd := blk_u hd b4
      replace hD := hD.below b4
      replace bel := bel.trans (b4.mono bel.size)
      clear b4
      refine hK.out _ _ hd (fun hH5 => ?_)
      clear hK K
      refine wpAnyH_ready (rs := [2, 6]) (by kernel_rfl) (by simp) ?_
      refine AllReadyH.cons (o := _) rfl (fun K hK => ?_) (AllReadyH.cons (o := _) rfl (fun K hK => ?_) AllReadyH.nil)
      · simp only [List.getElem_toArray, List.getElem_cons_zero, List.getElem_cons_succ]
        go_simp
        with_reducible refine (kput_ok _ _ _ _ _ _ _ _ hD G1.out G2.out G3.out E0.out E1.out).mono ?_
        rintro e w6 ⟨Ao, co, Ab, cb, rfl, _, pb, fb, b6⟩
        dsimp only
        have av_pb_d := fb.av (hlt hd)
        replace hd := blk_u hd b6
        replace hD := hD.below b6
        replace bel := bel.trans (b6.mono bel.size)
        clear b6
        replace pb : Sl w6 (Ab) (8 + nd) (cb) (icBytes ty cd re ld) := pb
        refine hK.out _ _ hd (fun hH7 => ?_)
        clear hK K
        refine wpAnyH_take (i := 3) (v := ?_) rfl (by kernel_rfl) (by kernel_rfl) (by kernel_rfl) (fun _ _ _ h => h) (Or.inl ⟨by rfl, ?_⟩) hH7 ?_
        rotate_left
        · ((intro W hW; clear hW; go_simp) <;> with_reducible rfl)
        simp only [Act.put, List.getElem_toArray, List.getElem_cons_zero, List.getElem_cons_succ, List.setIfInBounds_toArray, List.set_cons_zero, List.set_cons_succ]
        refine wpAnyH_take (i := 4) (v := ?_) rfl (by kernel_rfl) (by kernel_rfl) (by kernel_rfl) (fun _ _ _ h => h) (Or.inl ⟨by rfl, ?_⟩) hH7 ?_
        rotate_left
        · ((intro W hW; clear hW; go_simp) <;> with_reducible rfl)
        simp only [Act.put, List.getElem_toArray, List.getElem_cons_zero, List.getElem_cons_succ, List.setIfInBounds_toArray, List.set_cons_zero, List.set_cons_succ]
        refine wpAnyH_take (i := 5) (v := ?_) rfl (by kernel_rfl) (by kernel_rfl) (by kernel_rfl) (fun _ _ _ h => h) (Or.inl ⟨by rfl, ?_⟩) hH7 ?_
        rotate_left
        · ((intro W hW; clear hW; go_simp) <;> with_reducible rfl)
        simp only [Act.put, List.getElem_toArray, List.getElem_cons_zero, List.getElem_cons_succ, List.setIfInBounds_toArray, List.set_cons_zero, List.set_cons_succ]
        refine wpAnyH_ready (rs := [6]) (by kernel_rfl) (by simp) ?_
        refine AllReadyH.cons (o := _) rfl (fun K hK => ?_) AllReadyH.nil
        simp only [List.getElem_toArray, List.getElem_cons_zero, List.getElem_cons_succ]
        rw [if_pos (by rfl)]
        refine wp_new_a 27 rfl #[.int .i64 0, .int .i64 0, .int .i64 0, .int .i64 0, .int .i64 0, .int .i64 0, .int .u8 0, .int .u8 0, .int .u8 0, .int .u8 0, .int .u8 0, .int .u8 0, .int .u8 0, .int .u8 0, .slice none 0 0, .slice none 0 0] (by kernel_rfl) ?_
        intro g5 w8 ge hh bb
        have d_d_p := ne_new (hlt hd) ge
        have av_hD_p := hD.av_new ge
        have av_pb_p := pb.av_new ge
        have op := Nat.le_trans bel.size ge
        replace hd := blk_u hd bb
        replace hD := hD.below bb
        replace pb := pb.below bb
        replace bel := bel.trans (bb.mono bel.size)
        have hp := hh
        clear hh ge bb
        refine hK.out _ _ hd (fun hH9 => ?_)
        clear hK K
        simp only [Act.put, List.setIfInBounds_toArray, List.set_cons_zero, List.set_cons_succ]
        refine wpAnyH_ready (rs := [7]) (by kernel_rfl) (by simp) ?_
        refine AllReadyH.cons (o := _) rfl (fun K hK => ?_) AllReadyH.nil
        simp only [List.getElem_toArray, List.getElem_cons_zero, List.getElem_cons_succ]
        rw [if_pos (by rfl)]
        refine wp_store_blk 27 (.tmp 5) (.tmp 20) rfl g5 rfl _ rfl _ 27 hp (by rfl) (by kernel_rfl) (by kernel_rfl) ?_
        intro w10 hq gr
        replace hD := hD.away av_hD_p gr
        replace pb := pb.away av_pb_p gr
        replace hd := blk_a hd gr d_d_p
        replace bel := below_grown bel gr op bel.size
        clear hp
        have hp := hq
        clear hq gr
        refine hK.out _ _ hd (fun hH11 => ?_)
        clear hK K
        simp only [Act.put]
        refine wpAnyH_take (i := 8) (v := ?_) rfl (by kernel_rfl) (by kernel_rfl) (by kernel_rfl) (fun _ _ _ h => h) (Or.inl ⟨by rfl, ?_⟩) hH11 ?_
        rotate_left
        · ((intro W hW; clear hW; go_simp) <;> with_reducible rfl)
        simp only [Act.put, List.getElem_toArray, List.getElem_cons_zero, List.getElem_cons_succ, List.setIfInBounds_toArray, List.set_cons_zero, List.set_cons_succ]
        refine wpAnyH_done (by kernel_rfl) ?_ _
        go_wp2_with fail
        go_meet
        case rel => exact ⟨g5, Ab, cb, Ao, co, rfl, rfl, hd, hp, op, d_d_p, hD, av_hD_d, av_hD_p, pb, av_pb_d, av_pb_p, bel⟩
      · simp only [List.getElem_toArray, List.getElem_cons_zero, List.getElem_cons_succ]
        rw [if_pos (by rfl)]
        refine wp_new_a 27 rfl #[.int .i64 0, .int .i64 0, .int .i64 0, .int .i64 0, .int .i64 0, .int .i64 0, .int .u8 0, .int .u8 0, .int .u8 0, .int .u8 0, .int .u8 0, .int .u8 0, .int .u8 0, .int .u8 0, .slice none 0 0, .slice none 0 0] (by kernel_rfl) ?_
        intro g5 w6 ge hh bb
        have d_d_p := ne_new (hlt hd) ge
        have av_hD_p := hD.av_new ge
        have op := Nat.le_trans bel.size ge
        replace hd := blk_u hd bb
        replace hD := hD.below bb
        replace bel := bel.trans (bb.mono bel.size)
        have hp := hh
        clear hh ge bb
        refine hK.out _ _ hd (fun hH7 => ?_)
        clear hK K
        simp only [Act.put, List.setIfInBounds_toArray, List.set_cons_zero, List.set_cons_succ]
        refine wpAnyH_ready (rs := [2]) (by kernel_rfl) (by simp) ?_
        refine AllReadyH.cons (o := _) rfl (fun K hK => ?_) AllReadyH.nil
        simp only [List.getElem_toArray, List.getElem_cons_zero, List.getElem_cons_succ]
        go_simp
        with_reducible refine (kput_ok _ _ _ _ _ _ _ _ hD G1.out G2.out G3.out E0.out E1.out).mono ?_
        rintro e w8 ⟨Ao, co, Ab, cb, rfl, _, pb, fb, b8⟩
        dsimp only
        have av_pb_d := fb.av (hlt hd)
        have av_pb_p := fb.av (hlt hp)
        replace hd := blk_u hd b8
        replace hp := blk_u hp b8
        replace hD := hD.below b8
        replace bel := bel.trans (b8.mono bel.size)
        clear b8
        replace pb : Sl w8 (Ab) (8 + nd) (cb) (icBytes ty cd re ld) := pb
        refine hK.out _ _ hd (fun hH9 => ?_)
        clear hK K
        refine wpAnyH_take (i := 3) (v := ?_) rfl (by kernel_rfl) (by kernel_rfl) (by kernel_rfl) (fun _ _ _ h => h) (Or.inl ⟨by rfl, ?_⟩) hH9 ?_
        rotate_left
        · ((intro W hW; clear hW; go_simp) <;> with_reducible rfl)
        simp only [Act.put, List.getElem_toArray, List.getElem_cons_zero, List.getElem_cons_succ, List.setIfInBounds_toArray, List.set_cons_zero, List.set_cons_succ]
        refine wpAnyH_take (i := 4) (v := ?_) rfl (by kernel_rfl) (by kernel_rfl) (by kernel_rfl) (fun _ _ _ h => h) (Or.inl ⟨by rfl, ?_⟩) hH9 ?_
        rotate_left
        · ((intro W hW; clear hW; go_simp) <;> with_reducible rfl)
        simp only [Act.put, List.getElem_toArray, List.getElem_cons_zero, List.getElem_cons_succ, List.setIfInBounds_toArray, List.set_cons_zero, List.set_cons_succ]
        refine wpAnyH_take (i := 5) (v := ?_) rfl (by kernel_rfl) (by kernel_rfl) (by kernel_rfl) (fun _ _ _ h => h) (Or.inl ⟨by rfl, ?_⟩) hH9 ?_
        rotate_left
        · ((intro W hW; clear hW; go_simp) <;> with_reducible rfl)
        simp only [Act.put, List.getElem_toArray, List.getElem_cons_zero, List.getElem_cons_succ, List.setIfInBounds_toArray, List.set_cons_zero, List.set_cons_succ]
        refine wpAnyH_ready (rs := [7]) (by kernel_rfl) (by simp) ?_
        refine AllReadyH.cons (o := _) rfl (fun K hK => ?_) AllReadyH.nil
        simp only [List.getElem_toArray, List.getElem_cons_zero, List.getElem_cons_succ]
        rw [if_pos (by rfl)]
        refine wp_store_blk 27 (.tmp 5) (.tmp 20) rfl g5 rfl _ rfl _ 27 hp (by rfl) (by kernel_rfl) (by kernel_rfl) ?_
        intro w10 hq gr
        replace hD := hD.away av_hD_p gr
        replace pb := pb.away av_pb_p gr
        replace hd := blk_a hd gr d_d_p
        replace bel := below_grown bel gr op bel.size
        clear hp
        have hp := hq
        clear hq gr
        refine hK.out _ _ hd (fun hH11 => ?_)
        clear hK K
        simp only [Act.put]
        refine wpAnyH_take (i := 8) (v := ?_) rfl (by kernel_rfl) (by kernel_rfl) (by kernel_rfl) (fun _ _ _ h => h) (Or.inl ⟨by rfl, ?_⟩) hH11 ?_
        rotate_left
        · ((intro W hW; clear hW; go_simp) <;> with_reducible rfl)
        simp only [Act.put, List.getElem_toArray, List.getElem_cons_zero, List.getElem_cons_succ, List.setIfInBounds_toArray, List.set_cons_zero, List.set_cons_succ]
        refine wpAnyH_done (by kernel_rfl) ?_ _
        go_wp2_with fail
        go_meet
        case rel => exact ⟨g5, Ab, cb, Ao, co, rfl, rfl, hd, hp, op, d_d_p, hD, av_hD_d, av_hD_p, pb, av_pb_d, av_pb_p, bel⟩
    · simp only [List.getElem_toArray, List.getElem_cons_zero, List.getElem_cons_succ]
      rw [if_pos (by rfl)]
      refine wp_new_a 27 rfl #[.int .i64 0, .int .i64 0, .int .i64 0, .int .i64 0, .int .i64 0, .int .i64 0, .int .u8 0, .int .u8 0, .int .u8 0, .int .u8 0, .int .u8 0, .int .u8 0, .int .u8 0, .int .u8 0, .slice none 0 0, .slice none 0 0] (by kernel_rfl) ?_
      intro g5 w4 ge hh bb
      have d_d_p := ne_new (hlt hd) ge
      have av_hD_p := hD.av_new ge
      have op := Nat.le_trans bel.size ge
      replace hd := blk_u hd bb
      replace hD := hD.below bb
      replace bel := bel.trans (bb.mono bel.size)
      have hp := hh
      clear hh ge bb
      refine hK.out _ _ hd (fun hH5 => ?_)
      clear hK K
      simp only [Act.put, List.setIfInBounds_toArray, List.set_cons_zero, List.set_cons_succ]
      refine wpAnyH_ready (rs := [0]) (by kernel_rfl) (by simp) ?_
      refine AllReadyH.cons (o := _) rfl (fun K hK => ?_) AllReadyH.nil
      simp only [List.getElem_toArray, List.getElem_cons_zero]
      go_simp
      with_reducible refine (base9 _).mono ?_
      rintro e w6 ⟨rfl, b6⟩
      dsimp only
      replace hd := blk_u hd b6
      replace hp := blk_u hp b6
      replace hD := hD.below b6
      replace bel := bel.trans (b6.mono bel.size)
      clear b6
      refine hK.out _ _ hd (fun hH7 => ?_)
      clear hK K
      refine wpAnyH_ready (rs := [2]) (by kernel_rfl) (by simp) ?_
      refine AllReadyH.cons (o := _) rfl (fun K hK => ?_) AllReadyH.nil
      simp only [List.getElem_toArray, List.getElem_cons_zero, List.getElem_cons_succ]
      go_simp
      with_reducible refine (kput_ok _ _ _ _ _ _ _ _ hD G1.out G2.out G3.out E0.out E1.out).mono ?_
      rintro e w8 ⟨Ao, co, Ab, cb, rfl, _, pb, fb, b8⟩
      dsimp only
      have av_pb_d := fb.av (hlt hd)
      have av_pb_p := fb.av (hlt hp)
      replace hd := blk_u hd b8
      replace hp := blk_u hp b8
      replace hD := hD.below b8
      replace bel := bel.trans (b8.mono bel.size)
      clear b8
      replace pb : Sl w8 (Ab) (8 + nd) (cb) (icBytes ty cd re ld) := pb
      refine hK.out _ _ hd (fun hH9 => ?_)
      clear hK K
      refine wpAnyH_take (i := 3) (v := ?_) rfl (by kernel_rfl) (by kernel_rfl) (by kernel_rfl) (fun _ _ _ h => h) (Or.inl ⟨by rfl, ?_⟩) hH9 ?_
      rotate_left
      · ((intro W hW; clear hW; go_simp) <;> with_reducible rfl)
      simp only [Act.put, List.getElem_toArray, List.getElem_cons_zero, List.getElem_cons_succ, List.setIfInBounds_toArray, List.set_cons_zero, List.set_cons_succ]
      refine wpAnyH_take (i := 4) (v := ?_) rfl (by kernel_rfl) (by kernel_rfl) (by kernel_rfl) (fun _ _ _ h => h) (Or.inl ⟨by rfl, ?_⟩) hH9 ?_
      rotate_left
      · ((intro W hW; clear hW; go_simp) <;> with_reducible rfl)
      simp only [Act.put, List.getElem_toArray, List.getElem_cons_zero, List.getElem_cons_succ, List.setIfInBounds_toArray, List.set_cons_zero, List.set_cons_succ]
      refine wpAnyH_take (i := 5) (v := ?_) rfl (by kernel_rfl) (by kernel_rfl) (by kernel_rfl) (fun _ _ _ h => h) (Or.inl ⟨by rfl, ?_⟩) hH9 ?_
      rotate_left
      · ((intro W hW; clear hW; go_simp) <;> with_reducible rfl)
      simp only [Act.put, List.getElem_toArray, List.getElem_cons_zero, List.getElem_cons_succ, List.setIfInBounds_toArray, List.set_cons_zero, List.set_cons_succ]
      refine wpAnyH_ready (rs := [7]) (by kernel_rfl) (by simp) ?_
      refine AllReadyH.cons (o := _) rfl (fun K hK => ?_) AllReadyH.nil
      simp only [List.getElem_toArray, List.getElem_cons_zero, List.getElem_cons_succ]
      rw [if_pos (by rfl)]
      refine wp_store_blk 27 (.tmp 5) (.tmp 20) rfl g5 rfl _ rfl _ 27 hp (by rfl) (by kernel_rfl) (by kernel_rfl) ?_
      intro w10 hq gr
      replace hD := hD.away av_hD_p gr
      replace pb := pb.away av_pb_p gr
      replace hd := blk_a hd gr d_d_p
      replace bel := below_grown bel gr op bel.size
      clear hp
      have hp := hq
      clear hq gr
      refine hK.out _ _ hd (fun hH11 => ?_)
      clear hK K
      simp only [Act.put]
      refine wpAnyH_take (i := 8) (v := ?_) rfl (by kernel_rfl) (by kernel_rfl) (by kernel_rfl) (fun _ _ _ h => h) (Or.inl ⟨by rfl, ?_⟩) hH11 ?_
      rotate_left
      · ((intro W hW; clear hW; go_simp) <;> with_reducible rfl)
      simp only [Act.put, List.getElem_toArray, List.getElem_cons_zero, List.getElem_cons_succ, List.setIfInBounds_toArray, List.set_cons_zero, List.set_cons_succ]
      refine wpAnyH_done (by kernel_rfl) ?_ _
      go_wp2_with fail
      go_meet
      case rel => exact ⟨g5, Ab, cb, Ao, co, rfl, rfl, hd, hp, op, d_d_p, hD, av_hD_d, av_hD_p, pb, av_pb_d, av_pb_p, bel⟩
  obtain ⟨w12, hw_⟩ : ∃ x, x = wc := ⟨_, rfl⟩
  subst hw_
  obtain ⟨g5, Ab, cb, Ao, co, rfl, rfl, hd, hp, op, d_d_p, hD, av_hD_d, av_hD_p, pb, av_pb_d, av_pb_p, bel⟩ := hcut
  have R31 := cell_lit hp 15 _ rfl
  go_wp2_with (first | ((with_reducible show wpList _ _ _ (⟨some 36, _, _, _, _, _⟩ :: _) _ _); refine wpList_lit_n rfl 25 5 0 _ rfl #[] (.int .u8 0) Try.underlying25 (by kernel_rfl) 1 (by kernel_rfl) (by decide) (by kernel_rfl) ?_; intro g36 w13 ge lt hh bb; have hl : w13.heap[g36]? = some (.cells (([] : List UInt8).map u8v).toArray 5 (0, 0)) := (by simpa [u8v, byteOf_val] using hh); have e0w := own_lit (B := w12.heap.size) ([]) hl ge 0 rfl (by simp [maxLen]); have e0 := (own_sl e0w).1; have e0lo := bel.size; clear hl; have e0ge := ge; have lz_e0 := bb.size; have y_e0_d := Lib.hid (hlt hd); have y_e0_p := Lib.hid (hlt hp); have bl_hD_e0 := hD.bl_new; have bl_pb_e0 := pb.bl_new; replace hd := blk_u hd bb; replace hp := blk_u hp bb; replace hD := hD.below bb; replace pb := pb.below bb; replace bel := bel.trans (bb.mono bel.size); clear hh lt ge bb; have av_e0_d := (own_sl e0w).2.av y_e0_d.out; have av_e0_p := (own_sl e0w).2.av y_e0_p.out; have R38 := cell_lit hp 15 _ rfl) | ((with_reducible show wpList _ _ _ (⟨some 39, _, _, _, _, _⟩ :: _) _ _); refine wpList_append_bb _ rfl (.tmp 36) (.tmp 38) 25 rfl (w12.heap.size) 5 ii (.int .u8 0) Try.underlying25 hii hz0 hz1 hz2 rfl _ (0) ([]) rfl e0w (Ab) (8 + nd) (cb) (icBytes ty cd re ld) rfl pb (by have := H3.out; omega) lz_e0 ?_; intro v39 w14 own_ bb; replace hD := hD.under bl_hD_e0 bb; replace pb := pb.under bl_pb_e0 bb; replace hd := blk_under hd bb y_e0_d.out; replace hp := blk_under hp bb y_e0_p.out; replace bel := bel.trans (bb.mono e0lo); have lz_al := Nat.le_trans lz_e0 bb.size; clear bb; clear e0 e0w lz_e0; replace own_ : w14.ownsRow (w12.heap.size) 5 1 v39 (8 + nd) ((icBytes ty cd re ld : List UInt8).map u8v) := (by simpa using own_); obtain ⟨A39, c39, rfl⟩ := own_val own_; have alw := own_; have al := (own_sl own_).1; have fr_al := (own_sl own_).2; clear own_; have av_al_d := fr_al.av y_e0_d.out; have av_al_p := fr_al.av y_e0_p.out; obtain ⟨gb, cg, eg, alge, allt, alnc, alcm⟩ := own_at alw (by omega); injection eg with eg1 _ eg3; subst eg1; subst eg3; have R47 := own_byte alw HX.out) | ((with_reducible show wpList _ _ _ (⟨none, Op.store _ (.tmp 53) _, _, _, _, _⟩ :: _) _ _); refine wpList_store_byte rfl 5 (.tmp 53) (.tmp 52) rfl (w12.heap.size) 5 gb (bit / 8) (8 + nd) (c39) (icBytes ty cd re ld) (y) rfl rfl alw (by have := HK.out; omega) (by kernel_rfl) ?_; intro w15 own_ gr; replace hD := hD.away (bl_hD_e0.av alge) gr; replace pb := pb.away (bl_pb_e0.av alge) gr; replace hd := blk_a hd gr (ne_new y_e0_d.out alge); replace hp := blk_a hp gr (ne_new y_e0_p.out alge); replace bel := below_grown bel gr (Nat.le_trans e0lo alge) bel.size; replace lz_al := Nat.le_trans lz_al gr.size; clear gr al alw; have alw := own_; have al := (own_sl own_).1; clear own_) | ((with_reducible show wpList _ _ _ (⟨none, Op.store _ (.tmp 55) _, _, _, _, _⟩ :: _) _ _); refine wpList_store_part rfl 25 (.tmp 55) (.tmp 54) rfl g5 15 rfl [.slice (some ⟨gb, 0, none⟩) (8 + nd) c39] rfl [.int .i64 0, .int .i64 0, .int .i64 0, .int .i64 0, .int .i64 64, .int .i64 1, .int .u8 10, .int .u8 0, .int .u8 0, .int .u8 1, .int .u8 10, .int .u8 0, .int .u8 0, .int .u8 2, .slice Ao 0 co, .slice Ab (8 + nd) cb] 27 hp (by simp) [.int .i64 0, .int .i64 0, .int .i64 0, .int .i64 0, .int .i64 64, .int .i64 1, .int .u8 10, .int .u8 0, .int .u8 0, .int .u8 1, .int .u8 10, .int .u8 0, .int .u8 0, .int .u8 2, .slice Ao 0 co, .slice (some ⟨gb, 0, none⟩) (8 + nd) c39] rfl (by kernel_rfl) (by rfl) ?_; intro w16 hq gr; replace hD := hD.away av_hD_p gr; replace pb := pb.away av_pb_p gr; replace al := al.away av_al_p gr; replace alw := own_away alw y_e0_p.out gr; replace lz_al := Nat.le_trans lz_al gr.size; replace hd := blk_a hd gr d_d_p; replace bel := below_grown bel gr op bel.size; clear hp; have hp := hq; clear hq gr; have R57 := Lib.hid (range_lit hp 0 16 [.int .i64 0, .int .i64 0, .int .i64 0, .int .i64 0, .int .i64 64, .int .i64 1, .int .u8 10, .int .u8 0, .int .u8 0, .int .u8 1, .int .u8 10, .int .u8 0, .int .u8 0, .int .u8 2, .slice Ao 0 co, .slice (some ⟨gb, 0, none⟩) (8 + nd) c39] rfl)) | ((with_reducible show wpList _ _ _ (⟨some 57, _, _, _, _, _⟩ :: _) _ _); refine wpList_load_rng 27 (.tmp 5) rfl (by kernel_rfl) _ _ rfl _ R57.out _ Try.underlying27 rfl (by kernel_rfl) ?_))
  try clear R31
  try clear R38
  try clear R47
  try clear R57
  with_reducible refine (kget_er _ _ _ _ _ _ _ 5 _ al (by have := H3.out; omega) HP.out).mono ?_
  rintro e w17 ⟨x0, x1, x2, A1, k1, q1, rfl, b17⟩
  replace hd := blk_u hd b17
  replace hp := blk_u hp b17
  replace hD := hD.below b17
  replace pb := pb.below b17
  replace al := al.below b17
  replace alw := own_under alw b17
  replace lz_al := Nat.le_trans lz_al b17.size
  replace bel := bel.trans (b17.mono bel.size)
  clear b17
  clear b8 b9 c0 c1 h7 r0 r1 hx0 hx1 t2 t3 ew
  go_wp2_with (first | ((with_reducible show wpList _ _ _ (⟨some 8, _, _, _, _, _⟩ :: _) _ _); refine wpList_new_a rfl 34 rfl #[.int .i64 0, .int .i64 0, .int .u32 0, .slice none 0 0] (by kernel_rfl) ?_; intro g8 w18 ge hh bb; have d_d_x := ne_new (hlt hd) ge; have d_p_x := ne_new (hlt hp) ge; have av_hD_x := hD.av_new ge; have av_pb_x := pb.av_new ge; have av_al_x := al.av_new ge; have of_al_x := own_new alw ge; have ox := Nat.le_trans bel.size ge; replace hd := blk_u hd bb; replace hp := blk_u hp bb; replace hD := hD.below bb; replace pb := pb.below bb; replace al := al.below bb; replace alw := own_under alw bb; replace lz_al := Nat.le_trans lz_al bb.size; replace bel := bel.trans (bb.mono bel.size); have hx := hh; clear hh ge bb) | ((with_reducible show wpList _ _ _ (⟨none, Op.store _ (.tmp 8) _, _, _, _, _⟩ :: _) _ _); refine wpList_store_blk rfl 34 (.tmp 8) (.tmp 59) rfl g8 rfl _ rfl _ 34 hx (by rfl) (by kernel_rfl) (by kernel_rfl) ?_; intro w19 hq gr; replace hD := hD.away av_hD_x gr; replace pb := pb.away av_pb_x gr; replace al := al.away av_al_x gr; replace alw := own_off alw of_al_x gr; replace lz_al := Nat.le_trans lz_al gr.size; replace hd := blk_a hd gr d_d_x; replace hp := blk_a hp gr d_p_x; replace bel := below_grown bel gr ox bel.size; clear hx; have hx := hq; clear hq gr))
  go_ret
  exact ⟨rfl, bel⟩
theorem icmpBits_walk (ty cd re : Int) (D : Option Addr) (nd qd : Nat) (ld : List UInt8) (bit : Int) (w : World) (hD : Sl w D nd qd ld) (e0 : 0 ≤ re) (e1 : re < 4294967296) : Calls Try.prog 8 #[.agg #[.int .i64 ty, .int .i64 cd, .int .u32 re, .slice D nd qd], .int .i64 bit] w fun e w' => e = .returned (.bool true) ∧ Below w.heap.size w w' := by
  by_cases h3 : nd ≤ 500
  · by_cases he : (icPut 0 0 0 0 64 10 0 0 1 10 0 0 2 [] ty cd re ld).2.2 = 0
    · obtain ⟨g1, g2, g3⟩ := icput_pos he
      have g3 : nd ≤ 1472 := by omega
      by_cases hb : bit < 0
      · exact icmpBits_3 ty cd re D nd qd ld bit w hD h3 g1 g2 g3 e0 e1 hb
      obtain ⟨k, rfl⟩ : ∃ k : Nat, bit = k := ⟨bit.toNat, by omega⟩
      by_cases hb2 : k < 8 * (8 + nd)
      · have hl : (icBytes ty cd re ld).length = 8 + nd := by rw [icBytes_len, hD.1]
        have hk : k / 8 < (icBytes ty cd re ld).length := by omega
        obtain ⟨y, hy, hxor⟩ := xor_bit (icBytes ty cd re ld)[k / 8] (k % 8) (by omega)
        exact icmpBits_5 ty cd re D nd qd ld k w hD h3 g1 g2 g3 e0 e1 hb2 _ y (List.getElem?_eq_getElem hk) hxor (ic_spoilt (fl := 0) (pt := 0) (by decide) ty cd re ld (k / 8) (k % 8) _ y (List.getElem?_eq_getElem hk) (by omega) hy)
      · exact icmpBits_4 ty cd re D nd qd ld k w hD h3 g1 g2 g3 e0 e1 (by omega)
    · exact icmpBits_2 ty cd re D nd qd ld bit w hD h3 _ rfl he e0 e1
  · exact icmpBits_1 ty cd re D nd qd ld bit w (by omega)
end Go.Proofs.Ytfmllopeeiecjaa
