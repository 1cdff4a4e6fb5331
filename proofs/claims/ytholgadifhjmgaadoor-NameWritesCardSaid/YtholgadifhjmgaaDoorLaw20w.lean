/- NameWrites, NameLeads. -/
import Derived.Test.YtholgadifhjmgaaDoorLaw20
namespace Go.Proofs.YtholgadifhjmgaaDoor
open Go.RowKit

set_option linter.unusedVariables false in
set_option linter.unusedSimpArgs false in
set_option maxRecDepth 100000 in
set_option maxHeartbeats 16000000 in
theorem nameWrites_walk (B0 : Option Addr) (n d : Nat) (b : List UInt8) (A : Option Addr) (m c : Nat) (l : List (List UInt8)) (w : World) (sb : Sl w B0 n d b) (la : Sle stf 1 w A m c l) : Calls Tryd.prog 5 #[.slice B0 n d, .slice A m c] w fun e w' => e = .returned (.bool true) ∧ Below w.heap.size w w' := by
  have HBL := Lib.hid sb.1
  have HLN := Lib.hid la.1
  obtain ⟨ii, hii, hz0, hz1, hz2⟩ := info_parts Tryd.info5
  have bel := Below.refl w.heap.size w
  go_enter Tryd.func5, Tryd.ntmps5
  go_wp2_with fail
  with_reducible refine (awake_any _).mono ?_
  rintro e w1 ⟨rfl, b1⟩
  replace sb := sb.below b1
  replace la := la.below b1
  replace bel := bel.trans (b1.mono bel.size)
  clear b1
  by_cases hb3 : n ≤ 300
  rotate_left
  · have h1 : (300 : Int) < n := by omega
    clear hb3
    go_wp2_with fail
    go_ret
    exact ⟨rfl, bel⟩
  have h1 : decide ((300 : Int) < n) = false := decide_eq_false (by omega)
  rcases hlg : longN l with _ | _
  rotate_left
  · have HLG := Lib.hid hlg
    clear hlg
    go_wp2_with fail
    with_reducible refine (llong_any _ _ _ _ _ la).mono ?_
    rintro e _ ⟨rfl, rfl⟩
    rw [HLG.out]
    go_wp2_with fail
    go_ret
    exact ⟨rfl, bel⟩
  have HLG := Lib.hid hlg
  have hlnG := (long_no hlg).1
  have HBG := Lib.hid (long_no hlg).2
  have hnG : m ≤ 200 := by have h_ := la.1; omega
  clear hlg
  go_wp2_with fail
  with_reducible refine (llong_any _ _ _ _ _ la).mono ?_
  rintro e _ ⟨rfl, rfl⟩
  rw [HLG.out]
  rcases hg : goodN l with _ | _
  · have HG := Lib.hid hg
    clear hg
    go_wp2_with fail
    with_reducible refine (rgood_any _ _ _ _ _ la (by omega)).mono ?_
    rintro e _ ⟨rfl, rfl⟩
    rw [HG.out]
    go_wp2_with (first | ((with_reducible show wpList _ _ _ (⟨some 23, _, _, _, _, _⟩ :: _) _ _); refine wpList_lit_n rfl 27 5 0 _ rfl #[] (.int .u8 0) Tryd.underlying27 (by kernel_rfl) 1 (by kernel_rfl) (by decide) (by kernel_rfl) ?_; intro g23 w2 ge lt hh bb; have hl : w2.heap[g23]? = some (.cells (([] : List UInt8).map u8v).toArray 5 (0, 0)) := (by simpa [u8v, byteOf_val] using hh); have e0w := own_lit (B := w1.heap.size) ([]) hl ge 0 rfl (by simp [maxLen]); have e0 := (own_sl e0w).1; have e0lo := bel.size; clear hl; have e0ge := ge; have lz_e0 := bb.size; have bl_sb_e0 := sb.bl_new; have bl_la_e0 := la.bl_new; replace sb := sb.below bb; replace la := la.below bb; replace bel := bel.trans (bb.mono bel.size); clear hh lt ge bb) | ((with_reducible show wpList _ _ _ (⟨some 25, _, _, _, _, _⟩ :: _) _ _); refine wpList_append_bb _ rfl (.tmp 23) (.tmp 24) 27 rfl (w1.heap.size) 5 ii (.int .u8 0) Tryd.underlying27 hii hz0 hz1 hz2 rfl _ (0) ([]) rfl e0w (B0) (n) (d) (b) rfl sb (by omega) lz_e0 ?_; intro v25 w3 own_ bb; replace sb := sb.under bl_sb_e0 bb; replace la := la.under bl_la_e0 bb; replace bel := bel.trans (bb.mono e0lo); have lz_cp := Nat.le_trans lz_e0 bb.size; clear bb; clear e0 e0w lz_e0; replace own_ : w3.ownsRow (w1.heap.size) 5 1 v25 (n) ((b : List UInt8).map u8v) := (by simpa using own_); obtain ⟨A25, c25, rfl⟩ := own_val own_; have cpw := own_; have cp := (own_sl own_).1; have fr_cp := (own_sl own_).2; clear own_))
    with_reducible refine (nput_bad _ _ _ _ _ _ _ _ la (by omega) HG.out).mono ?_
    rintro e w4 ⟨rfl, b4⟩
    replace sb := sb.below b4
    replace la := la.below b4
    replace cp := cp.below b4
    replace cpw := own_under cpw b4
    replace lz_cp := Nat.le_trans lz_cp b4.size
    replace bel := bel.trans (b4.mono bel.size)
    clear b4
    go_wp2_with fail
    with_reducible refine (ngood_any _ _ _ _ _ la (by omega)).mono ?_
    rintro e _ ⟨rfl, rfl⟩
    rw [HG.out]
    go_wp2_with fail
    with_reducible refine (ngood_any _ _ _ _ _ la (by omega)).mono ?_
    rintro e _ ⟨rfl, rfl⟩
    rw [HG.out]
    go_wp2_with fail
    go_ret
    exact ⟨rfl, bel⟩
  have HG := Lib.hid hg
  clear hg
  obtain ⟨B, HB2_⟩ : ∃ u_, b ++ putN l = u_ := ⟨_, rfl⟩
  have HB2 := Lib.hid HB2_
  clear HB2_
  obtain ⟨z, HZ_⟩ : ∃ u_, B.length = u_ := ⟨_, rfl⟩
  have HZ := Lib.hid HZ_
  clear HZ_
  have hz : z ≤ 600 := by have h_ := HZ.out; have h1_ := good_size HG.out; rw [← HB2.out, putN, List.length_append, List.length_append, enc_len] at h_; have h2_ := HBL.out; simp at h_; omega
  have HGN : Hid (getN B (n : Int) = (l, z, 0)) := Lib.hid (by rw [← HBL.out, ← HB2.out, getN_put HG.out, HB2.out, HZ.out])
  go_wp2_with fail
  with_reducible refine (rgood_any _ _ _ _ _ la (by omega)).mono ?_
  rintro e _ ⟨rfl, rfl⟩
  rw [HG.out]
  go_wp2_with (first | ((with_reducible show wpList _ _ _ (⟨some 23, _, _, _, _, _⟩ :: _) _ _); refine wpList_lit_n rfl 27 5 0 _ rfl #[] (.int .u8 0) Tryd.underlying27 (by kernel_rfl) 1 (by kernel_rfl) (by decide) (by kernel_rfl) ?_; intro g23 w2 ge lt hh bb; have hl : w2.heap[g23]? = some (.cells (([] : List UInt8).map u8v).toArray 5 (0, 0)) := (by simpa [u8v, byteOf_val] using hh); have e0w := own_lit (B := w1.heap.size) ([]) hl ge 0 rfl (by simp [maxLen]); have e0 := (own_sl e0w).1; have e0lo := bel.size; clear hl; have e0ge := ge; have lz_e0 := bb.size; have bl_sb_e0 := sb.bl_new; have bl_la_e0 := la.bl_new; replace sb := sb.below bb; replace la := la.below bb; replace bel := bel.trans (bb.mono bel.size); clear hh lt ge bb) | ((with_reducible show wpList _ _ _ (⟨some 25, _, _, _, _, _⟩ :: _) _ _); refine wpList_append_bb _ rfl (.tmp 23) (.tmp 24) 27 rfl (w1.heap.size) 5 ii (.int .u8 0) Tryd.underlying27 hii hz0 hz1 hz2 rfl _ (0) ([]) rfl e0w (B0) (n) (d) (b) rfl sb (by omega) lz_e0 ?_; intro v25 w3 own_ bb; replace sb := sb.under bl_sb_e0 bb; replace la := la.under bl_la_e0 bb; replace bel := bel.trans (bb.mono e0lo); have lz_cp := Nat.le_trans lz_e0 bb.size; clear bb; clear e0 e0w lz_e0; replace own_ : w3.ownsRow (w1.heap.size) 5 1 v25 (n) ((b : List UInt8).map u8v) := (by simpa using own_); obtain ⟨A25, c25, rfl⟩ := own_val own_; have cpw := own_; have cp := (own_sl own_).1; have fr_cp := (own_sl own_).2; clear own_))
  with_reducible refine (nput_lit _ cp la (by omega) HG.out HB2.out HZ.out).mono ?_
  rintro e w4 ⟨v_pb, rfl, pbw, b4⟩
  have bl_sb_pb := sb.bl_new
  have bl_la_pb := la.bl_new
  have bl_cp_pb := cp.bl_new
  have pblo := bel.size
  have lz_pb := b4.size
  replace sb := sb.below b4
  replace la := la.below b4
  replace cp := cp.below b4
  replace cpw := own_under cpw b4
  replace lz_cp := Nat.le_trans lz_cp b4.size
  replace bel := bel.trans (b4.mono bel.size)
  clear b4
  obtain ⟨Apb, cpb, rfl⟩ := own_val pbw
  have pb := (own_sl pbw).1
  have fr_pb := (own_sl pbw).2
  go_wp2_with fail
  with_reducible refine (ngood_any _ _ _ _ _ la (by omega)).mono ?_
  rintro e _ ⟨rfl, rfl⟩
  rw [HG.out]
  go_wp2_with fail
  with_reducible refine (nget_lit _ pb (by omega) HGN.out HLN.out rfl rfl).mono ?_
  rintro e w5 ⟨v_ga, rfl, gaw, b5⟩
  have bl_sb_ga := sb.bl_new
  have bl_la_ga := la.bl_new
  have bl_cp_ga := cp.bl_new
  have bl_pb_ga := pb.bl_new
  have galo := bel.size
  have lz_ga := b5.size
  replace sb := sb.below b5
  replace la := la.below b5
  replace cp := cp.below b5
  replace cpw := own_under cpw b5
  replace pb := pb.below b5
  replace pbw := own_under pbw b5
  replace lz_cp := Nat.le_trans lz_cp b5.size
  replace lz_pb := Nat.le_trans lz_pb b5.size
  replace bel := bel.trans (b5.mono bel.size)
  clear b5
  obtain ⟨Aga, cga, rfl⟩ := owk_val gaw
  have ga := (owk_sle (by decide) stf_len gaw).1
  have fr_ga := (owk_sle (by decide) stf_len gaw).2
  go_wp2_with fail
  replace bel := bel.drew
  replace sb := sb.drew
  replace la := la.drew
  replace cp := cp.drew
  replace cpw : w5.drew.ownsRow _ _ _ _ _ _ := cpw
  replace lz_cp : _ ≤ w5.drew.heap.size := lz_cp
  replace pb := pb.drew
  replace pbw : w5.drew.ownsRow _ _ _ _ _ _ := pbw
  replace lz_pb : _ ≤ w5.drew.heap.size := lz_pb
  replace ga := ga.drew
  replace gaw : w5.drew.ownsRow _ _ _ _ _ _ := gaw
  replace lz_ga : _ ≤ w5.drew.heap.size := lz_ga
  refine wp_region_held_drew (S := fun W => Sl W (Apb) (z) (cpb) (B)) (by kernel_rfl) pb (fun hH => ?_)
  generalize w5.drew = w6 at bel sb la cp pb ga cpw pbw gaw lz_cp lz_pb lz_ga hH ⊢
  refine wpAnyH_take (i := 0) (v := ?_) rfl (by kernel_rfl) (by kernel_rfl) (by kernel_rfl) (fun _ _ _ h => h) (Or.inl ⟨by rfl, ?_⟩) hH ?_
  rotate_left
  · ((intro W hW; clear hW; go_simp) <;> with_reducible rfl)
  simp only [Act.put, List.getElem_toArray, List.getElem_cons_zero, List.setIfInBounds_toArray, List.set_cons_zero, List.set_cons_succ]
  refine wpAnyH_take (i := 1) (v := ?_) rfl (by kernel_rfl) (by kernel_rfl) (by kernel_rfl) (fun _ _ _ h => h) (Or.inl ⟨by rfl, ?_⟩) hH ?_
  rotate_left
  · ((intro W hW; have st0 := (hW).str (P := Tryd.prog) 27 5 9 Tryd.underlying27 Tryd.underlying5 Tryd.underlying9; clear hW; go_simp) <;> with_reducible rfl)
  simp only [Act.put, List.getElem_toArray, List.getElem_cons_zero, List.getElem_cons_succ, List.setIfInBounds_toArray, List.set_cons_zero, List.set_cons_succ]
  refine wpAnyH_take (i := 2) (v := ?_) rfl (by kernel_rfl) (by kernel_rfl) (by kernel_rfl) (fun _ _ _ h => h) (Or.inl ⟨by rfl, ?_⟩) hH ?_
  rotate_left
  · ((intro W hW; clear hW; go_simp) <;> with_reducible rfl)
  simp only [Act.put, List.getElem_toArray, List.getElem_cons_zero, List.getElem_cons_succ, List.setIfInBounds_toArray, List.set_cons_zero, List.set_cons_succ]
  refine wpAnyH_take (i := 3) (v := ?_) rfl (by kernel_rfl) (by kernel_rfl) (by kernel_rfl) (fun _ _ _ h => h) (Or.inl ⟨by rfl, ?_⟩) hH ?_
  rotate_left
  · ((intro W hW; clear hW; go_simp) <;> with_reducible rfl)
  simp only [Act.put, List.getElem_toArray, List.getElem_cons_zero, List.getElem_cons_succ, List.setIfInBounds_toArray, List.set_cons_zero, List.set_cons_succ]
  refine wpAnyH_ready (rs := [4]) (by kernel_rfl) (by simp) ?_
  refine AllReadyH.cons (o := _) rfl (fun K hK => ?_) AllReadyH.nil
  simp only [List.getElem_toArray, List.getElem_cons_zero, List.getElem_cons_succ]
  go_simp
  with_reducible refine (rput_lit _ sb la (by omega) HG.out HB2.out HZ.out).mono ?_
  rintro e w7 ⟨v_rb, rfl, rbw, b7⟩
  dsimp only
  have bl_sb_rb := sb.bl_new
  have bl_la_rb := la.bl_new
  have bl_cp_rb := cp.bl_new
  have bl_pb_rb := pb.bl_new
  have bl_ga_rb := ga.bl_new
  have rblo := bel.size
  have lz_rb := b7.size
  replace sb := sb.below b7
  replace la := la.below b7
  replace cp := cp.below b7
  replace cpw := own_under cpw b7
  replace pb := pb.below b7
  replace pbw := own_under pbw b7
  replace ga := ga.below b7
  replace gaw := owk_under gaw b7
  replace lz_cp := Nat.le_trans lz_cp b7.size
  replace lz_pb := Nat.le_trans lz_pb b7.size
  replace lz_ga := Nat.le_trans lz_ga b7.size
  replace bel := bel.trans (b7.mono bel.size)
  clear b7
  obtain ⟨Arb, crb, rfl⟩ := own_val rbw
  have rb := (own_sl rbw).1
  have fr_rb := (own_sl rbw).2
  refine hK.out _ _ pb (fun hH8 => ?_)
  clear hK K
  refine wpAnyH_ready (rs := [5]) (by kernel_rfl) (by simp) ?_
  refine AllReadyH.cons (o := _) rfl (fun K hK => ?_) AllReadyH.nil
  simp only [List.getElem_toArray, List.getElem_cons_zero, List.getElem_cons_succ]
  rw [if_pos (by rfl)]
  have st_ := rb.str (P := Tryd.prog) 27 5 9 Tryd.underlying27 Tryd.underlying5 Tryd.underlying9
  refine wp_val (v := .string ⟨(B).toArray⟩) (by (go_simp) <;> with_reducible rfl) ?_
  clear st_
  refine hK.out _ _ pb (fun hH9 => ?_)
  clear hK K
  simp only [Act.put, List.setIfInBounds_toArray, List.set_cons_zero, List.set_cons_succ]
  refine wpAnyH_take (i := 6) (v := ?_) rfl (by kernel_rfl) (by kernel_rfl) (by kernel_rfl) (fun _ _ _ h => h) (Or.inl ⟨by rfl, ?_⟩) hH9 ?_
  rotate_left
  · ((intro W hW; clear hW; go_simp) <;> with_reducible rfl)
  simp only [Act.put, List.getElem_toArray, List.getElem_cons_zero, List.getElem_cons_succ, List.setIfInBounds_toArray, List.set_cons_zero, List.set_cons_succ]
  refine wpAnyH_take (i := 7) (v := ?_) rfl (by kernel_rfl) (by kernel_rfl) (by kernel_rfl) (fun _ _ _ h => h) (Or.inl ⟨by rfl, ?_⟩) hH9 ?_
  rotate_left
  · ((intro W hW; clear hW; go_simp) <;> with_reducible rfl)
  simp only [Act.put, List.getElem_toArray, List.getElem_cons_zero, List.getElem_cons_succ, List.setIfInBounds_toArray, List.set_cons_zero, List.set_cons_succ]
  refine wpAnyH_take (i := 8) (v := ?_) rfl (by kernel_rfl) (by kernel_rfl) (by kernel_rfl) (fun _ _ _ h => h) (Or.inl ⟨by rfl, ?_⟩) hH9 ?_
  rotate_left
  · ((intro W hW; clear hW; go_simp) <;> with_reducible rfl)
  simp only [Act.put, List.getElem_toArray, List.getElem_cons_zero, List.getElem_cons_succ, List.setIfInBounds_toArray, List.set_cons_zero, List.set_cons_succ]
  refine wpAnyH_take (i := 9) (v := ?_) rfl (by kernel_rfl) (by kernel_rfl) (by kernel_rfl) (fun _ _ _ h => h) (Or.inl ⟨by rfl, ?_⟩) hH9 ?_
  rotate_left
  · ((intro W hW; clear hW; go_simp) <;> with_reducible rfl)
  simp only [Act.put, List.getElem_toArray, List.getElem_cons_zero, List.getElem_cons_succ, List.setIfInBounds_toArray, List.set_cons_zero, List.set_cons_succ]
  refine wpAnyH_take (i := 10) (v := ?_) rfl (by kernel_rfl) (by kernel_rfl) (by kernel_rfl) (fun _ _ _ h => h) (Or.inl ⟨by rfl, ?_⟩) hH9 ?_
  rotate_left
  · ((intro W hW; clear hW; go_simp) <;> with_reducible rfl)
  simp only [Act.put, List.getElem_toArray, List.getElem_cons_zero, List.getElem_cons_succ, List.setIfInBounds_toArray, List.set_cons_zero, List.set_cons_succ]
  refine wpAnyH_take (i := 11) (v := ?_) rfl (by kernel_rfl) (by kernel_rfl) (by kernel_rfl) (fun _ _ _ h => h) (Or.inl ⟨by rfl, ?_⟩) hH9 ?_
  rotate_left
  · ((intro W hW; clear hW; go_simp) <;> with_reducible rfl)
  simp only [Act.put, List.getElem_toArray, List.getElem_cons_zero, List.getElem_cons_succ, List.setIfInBounds_toArray, List.set_cons_zero, List.set_cons_succ]
  refine wpAnyH_take (i := 12) (v := ?_) rfl (by kernel_rfl) (by kernel_rfl) (by kernel_rfl) (fun _ _ _ h => h) (Or.inl ⟨by rfl, ?_⟩) hH9 ?_
  rotate_left
  · ((intro W hW; clear hW; go_simp) <;> with_reducible rfl)
  simp only [Act.put, List.getElem_toArray, List.getElem_cons_zero, List.getElem_cons_succ, List.setIfInBounds_toArray, List.set_cons_zero, List.set_cons_succ]
  refine wpAnyH_take (i := 13) (v := ?_) rfl (by kernel_rfl) (by kernel_rfl) (by kernel_rfl) (fun _ _ _ h => h) (Or.inl ⟨by rfl, ?_⟩) hH9 ?_
  rotate_left
  · ((intro W hW; clear hW; go_simp) <;> with_reducible rfl)
  simp only [Act.put, List.getElem_toArray, List.getElem_cons_zero, List.getElem_cons_succ, List.setIfInBounds_toArray, List.set_cons_zero, List.set_cons_succ]
  refine wpAnyH_take (i := 14) (v := ?_) rfl (by kernel_rfl) (by kernel_rfl) (by kernel_rfl) (fun _ _ _ h => h) (Or.inl ⟨by rfl, ?_⟩) hH9 ?_
  rotate_left
  · ((intro W hW; clear hW; go_simp) <;> with_reducible rfl)
  simp only [Act.put, List.getElem_toArray, List.getElem_cons_zero, List.getElem_cons_succ, List.setIfInBounds_toArray, List.set_cons_zero, List.set_cons_succ]
  refine wpAnyH_take (i := 15) (v := ?_) rfl (by kernel_rfl) (by kernel_rfl) (by kernel_rfl) (fun _ _ _ h => h) (Or.inl ⟨by rfl, ?_⟩) hH9 ?_
  rotate_left
  · ((intro W hW; clear hW; go_simp) <;> with_reducible rfl)
  simp only [Act.put, List.getElem_toArray, List.getElem_cons_zero, List.getElem_cons_succ, List.setIfInBounds_toArray, List.set_cons_zero, List.set_cons_succ]
  refine wpAnyH_take (i := 16) (v := ?_) rfl (by kernel_rfl) (by kernel_rfl) (by kernel_rfl) (fun _ _ _ h => h) (Or.inl ⟨by rfl, ?_⟩) hH9 ?_
  rotate_left
  · ((intro W hW; clear hW; go_simp) <;> with_reducible rfl)
  simp only [Act.put, List.getElem_toArray, List.getElem_cons_zero, List.getElem_cons_succ, List.setIfInBounds_toArray, List.set_cons_zero, List.set_cons_succ]
  refine wpAnyH_take (i := 17) (v := ?_) rfl (by kernel_rfl) (by kernel_rfl) (by kernel_rfl) (fun _ _ _ h => h) (Or.inl ⟨by rfl, ?_⟩) hH9 ?_
  rotate_left
  · ((intro W hW; clear hW; go_simp) <;> with_reducible rfl)
  simp only [Act.put, List.getElem_toArray, List.getElem_cons_zero, List.getElem_cons_succ, List.setIfInBounds_toArray, List.set_cons_zero, List.set_cons_succ]
  refine wpAnyH_take (i := 18) (v := ?_) rfl (by kernel_rfl) (by kernel_rfl) (by kernel_rfl) (fun _ _ _ h => h) (Or.inl ⟨by rfl, ?_⟩) hH9 ?_
  rotate_left
  · ((intro W hW; clear hW; go_simp) <;> with_reducible rfl)
  simp only [Act.put, List.getElem_toArray, List.getElem_cons_zero, List.getElem_cons_succ, List.setIfInBounds_toArray, List.set_cons_zero, List.set_cons_succ]
  refine wpAnyH_take (i := 19) (v := ?_) rfl (by kernel_rfl) (by kernel_rfl) (by kernel_rfl) (fun _ _ _ h => h) (Or.inl ⟨by rfl, ?_⟩) hH9 ?_
  rotate_left
  · ((intro W hW; clear hW; go_simp) <;> with_reducible rfl)
  simp only [Act.put, List.getElem_toArray, List.getElem_cons_zero, List.getElem_cons_succ, List.setIfInBounds_toArray, List.set_cons_zero, List.set_cons_succ]
  refine wpAnyH_ready (rs := [20]) (by kernel_rfl) (by simp) ?_
  refine AllReadyH.cons (o := _) rfl (fun K hK => ?_) AllReadyH.nil
  simp only [List.getElem_toArray, List.getElem_cons_zero, List.getElem_cons_succ]
  go_simp
  with_reducible refine (lexact_any _ _ _ _ _ _ _ _ ga la (by omega)).mono ?_
  rintro e w10 ⟨rfl, b10⟩
  dsimp only
  replace sb := sb.below b10
  replace la := la.below b10
  replace cp := cp.below b10
  replace cpw := own_under cpw b10
  replace pb := pb.below b10
  replace pbw := own_under pbw b10
  replace ga := ga.below b10
  replace gaw := owk_under gaw b10
  replace rb := rb.below b10
  replace rbw := own_under rbw b10
  replace lz_cp := Nat.le_trans lz_cp b10.size
  replace lz_pb := Nat.le_trans lz_pb b10.size
  replace lz_ga := Nat.le_trans lz_ga b10.size
  replace lz_rb := Nat.le_trans lz_rb b10.size
  replace bel := bel.trans (b10.mono bel.size)
  clear b10
  refine hK.out _ _ pb (fun hH11 => ?_)
  clear hK K
  refine wpAnyH_take (i := 21) (v := ?_) rfl (by kernel_rfl) (by kernel_rfl) (by kernel_rfl) (fun _ _ _ h => h) (Or.inl ⟨by rfl, ?_⟩) hH11 ?_
  rotate_left
  · ((intro W hW; clear hW; go_simp) <;> with_reducible rfl)
  simp only [Act.put, List.getElem_toArray, List.getElem_cons_zero, List.getElem_cons_succ, List.setIfInBounds_toArray, List.set_cons_zero, List.set_cons_succ]
  refine wpAnyH_take (i := 22) (v := ?_) rfl (by kernel_rfl) (by kernel_rfl) (by kernel_rfl) (fun _ _ _ h => h) (Or.inl ⟨by rfl, ?_⟩) hH11 ?_
  rotate_left
  · ((intro W hW; clear hW; go_simp) <;> with_reducible rfl)
  simp only [Act.put, List.getElem_toArray, List.getElem_cons_zero, List.getElem_cons_succ, List.setIfInBounds_toArray, List.set_cons_zero, List.set_cons_succ]
  refine wpAnyH_done (by kernel_rfl) ?_ _
  go_wp2_with fail
  go_ret
  exact ⟨rfl, bel⟩
theorem by_front (g n c k : Nat) (hk : k ≤ c) (W : World) : (Instr.slice 27 (.slice (some ⟨g, 0, none⟩) n c) none (some (.int .i64 (k : Int))) none).run Tryd.prog W = .ok (.slice (some ⟨g, 0, none⟩) k c) W := by
  have hz : ∀ w, (Go.sizeOf 5).run Tryd.prog w = .ok 1 w := fun w => by kernel_rfl
  have hu : Tryd.prog.underlying 27 = some (.slice (Tryd.prog.elem 27)) := by kernel_rfl
  have he : Tryd.prog.elem 27 = 5 := by kernel_rfl
  rw [run_slice_h W 27 (some ⟨g, 0, none⟩) n c hu .i64 _ (by omega) (by omega), he, hz]
  simp [Result.andThen, sliced, Addr.add]
theorem own_cut {w : World} {B n c k g : Nat} {T : TypeId} {l : List UInt8} (h : w.ownsRow B T 1 (.slice (some ⟨g, 0, none⟩) n c) n (l.map u8v)) (hk : k ≤ n) : w.ownsRow B T 1 (.slice (some ⟨g, 0, none⟩) k c) k ((l.take k).map u8v) := by
  have hl : l.length = n := by simpa using h.1
  rcases h.2 with ⟨e, _⟩ | ⟨g', cap, cur, e, hb, hh, hnc, hm, hs, ht⟩
  · cases e
  · injection e with e1 e2 e3
    injection e1 with e1
    injection e1 with e1
    subst e1; subst e3
    refine ⟨by simp; omega, .inr ⟨g, c, cur, rfl, hb, hh, by omega, hm, hs, ?_⟩⟩
    rw [Nat.mul_one] at ht ⊢
    rw [List.map_take, ← ht, List.take_take, Nat.min_eq_left hk]
set_option linter.unusedVariables false in
set_option linter.unusedSimpArgs false in
set_option maxRecDepth 100000 in
set_option maxHeartbeats 16000000 in
theorem nameLeads_walk (A : Option Addr) (na ca : Nat) (a : List (List UInt8)) (B : Option Addr) (nb cb : Nat) (b : List (List UInt8)) (w : World) (la : Sle stf 1 w A na ca a) (lb : Sle stf 1 w B nb cb b) : Calls Tryd.prog 8 #[.slice A na ca, .slice B nb cb] w fun e w' => e = .returned (.bool true) ∧ Below w.heap.size w w' := by
  have HAN := Lib.hid la.1
  have HBN := Lib.hid lb.1
  have HAB : Hid ((a ++ b).length = na + nb) := Lib.hid (by rw [List.length_append, HAN.out, HBN.out])
  obtain ⟨ii, hii, hz0, hz1, hz2⟩ := info_parts Tryd.info5
  obtain ⟨is, his, his0, his1, his2⟩ := info_parts Tryd.info_str
  have bel := Below.refl w.heap.size w
  go_enter Tryd.func8, Tryd.ntmps8
  go_wp2_with fail
  with_reducible refine (awake_any _).mono ?_
  rintro e w1 ⟨rfl, b1⟩
  replace la := la.below b1
  replace lb := lb.below b1
  replace bel := bel.trans (b1.mono bel.size)
  clear b1
  rcases hla : longN a with _ | _
  rotate_left
  · have HLA := Lib.hid hla
    clear hla
    go_wp2_with fail
    with_reducible refine (llong_any _ _ _ _ _ la).mono ?_
    rintro e _ ⟨rfl, rfl⟩
    rw [HLA.out]
    go_wp2_with fail
    go_ret
    exact ⟨rfl, bel⟩
  have HLA := Lib.hid hla
  have hlnA := (long_no hla).1
  have HBA := Lib.hid (long_no hla).2
  have hnA : na ≤ 200 := by have h_ := la.1; omega
  clear hla
  have hna : (na : Int) ≤ 200 := by omega
  go_wp2_with fail
  with_reducible refine (llong_any _ _ _ _ _ la).mono ?_
  rintro e _ ⟨rfl, rfl⟩
  rw [HLA.out]
  rcases hlb : longN b with _ | _
  rotate_left
  · have HLB := Lib.hid hlb
    clear hlb
    go_wp2_with fail
    with_reducible refine (llong_any _ _ _ _ _ lb).mono ?_
    rintro e _ ⟨rfl, rfl⟩
    rw [HLB.out]
    go_wp2_with fail
    go_ret
    exact ⟨rfl, bel⟩
  have HLB := Lib.hid hlb
  have hlnB := (long_no hlb).1
  have HBB := Lib.hid (long_no hlb).2
  have hnB : nb ≤ 200 := by have h_ := lb.1; omega
  clear hlb
  go_wp2_with fail
  with_reducible refine (llong_any _ _ _ _ _ lb).mono ?_
  rintro e _ ⟨rfl, rfl⟩
  rw [HLB.out]
  rcases hg : goodN a with _ | _
  · have HGA := Lib.hid hg
    clear hg
    go_wp2_with (first | ((with_reducible show wpList _ _ _ (⟨some 22, _, _, _, _, _⟩ :: _) _ _); refine wpList_lit_n rfl 23 9 0 _ rfl #[] (.string ⟨#[]⟩) Tryd.underlying23 (by kernel_rfl) 1 (by kernel_rfl) (by decide) (by kernel_rfl) ?_; intro g22 w2 ge lt hh bb; have e0w := owk_lit (B := w1.heap.size) ([] : List (List UInt8)) stf_len (show w2.heap[g22]? = some (.cells (([] : List (List UInt8)).flatMap stf).toArray 9 (0, 0)) from hh) ge 0 rfl (by simp [maxLen]); have e0 := (owk_sle (by decide) stf_len e0w).1; have e0lo := bel.size; have e0ge := ge; have lz_e0 := bb.size; have bl_la_e0 := la.bl_new; have bl_lb_e0 := lb.bl_new; replace la := la.below bb; replace lb := lb.below bb; replace bel := bel.trans (bb.mono bel.size); clear hh lt ge bb) | ((with_reducible show wpList _ _ _ (⟨some 24, _, _, _, _, _⟩ :: _) _ _); refine wpList_append_sle rfl (.tmp 22) (.tmp 23) 23 rfl (w1.heap.size) 9 is (.string ⟨#[]⟩) 16 Tryd.underlying23 his his0 his1 his2 rfl stf_one _ (0) ([]) rfl e0w (A) (na) (ca) (a) rfl la (by unfold maxLen; omega) (by omega) lz_e0 ?_; intro v24 w3 own_ bb gw ofw; clear ofw; replace la := la.under bl_la_e0 bb; replace lb := lb.under bl_lb_e0 bb; clear gw; replace bel := bel.trans (bb.mono e0lo); have lz_a1 := Nat.le_trans lz_e0 bb.size; clear bb; clear e0 e0w lz_e0; replace own_ : w3.ownsRow (w1.heap.size) 9 1 v24 (na) ((a : List (List UInt8)).flatMap stf) := (by simpa using own_); obtain ⟨A24, c24, rfl⟩ := owk_val own_; have a1w := own_; have a1 := (owk_sle (by decide) stf_len own_).1; have fr_a1 := (owk_sle (by decide) stf_len own_).2; clear own_) | ((with_reducible show wpList _ _ _ (⟨some 26, _, _, _, _, _⟩ :: _) _ _); refine wpList_append_sle rfl (.tmp 24) (.tmp 25) 23 rfl (w1.heap.size) 9 is (.string ⟨#[]⟩) 16 Tryd.underlying23 his his0 his1 his2 rfl stf_one _ (na) (a) rfl a1w (B) (nb) (cb) (b) rfl lb (by unfold maxLen; omega) (by omega) lz_a1 ?_; intro v26 w4 own_ bb gw ofw; clear ofw; replace la := la.under bl_la_e0 bb; replace lb := lb.under bl_lb_e0 bb; clear gw; replace bel := bel.trans (bb.mono e0lo); have lz_al := Nat.le_trans lz_a1 bb.size; clear bb; clear a1 a1w lz_a1; replace own_ : w4.ownsRow (w1.heap.size) 9 1 v26 (na + nb) ((a ++ b : List (List UInt8)).flatMap stf) := own_; obtain ⟨A26, c26, rfl⟩ := owk_val own_; have alw := own_; have al := (owk_sle (by decide) stf_len own_).1; have fr_al := (owk_sle (by decide) stf_len own_).2; clear own_))
    with_reducible refine (ngood_any _ _ _ _ _ la (by omega)).mono ?_
    rintro e _ ⟨rfl, rfl⟩
    rw [HGA.out]
    go_wp2_with fail
    go_ret
    exact ⟨rfl, bel⟩
  have HGA := Lib.hid hg
  clear hg
  rcases hg : goodN b with _ | _
  · have HGB := Lib.hid hg
    clear hg
    go_wp2_with (first | ((with_reducible show wpList _ _ _ (⟨some 22, _, _, _, _, _⟩ :: _) _ _); refine wpList_lit_n rfl 23 9 0 _ rfl #[] (.string ⟨#[]⟩) Tryd.underlying23 (by kernel_rfl) 1 (by kernel_rfl) (by decide) (by kernel_rfl) ?_; intro g22 w2 ge lt hh bb; have e0w := owk_lit (B := w1.heap.size) ([] : List (List UInt8)) stf_len (show w2.heap[g22]? = some (.cells (([] : List (List UInt8)).flatMap stf).toArray 9 (0, 0)) from hh) ge 0 rfl (by simp [maxLen]); have e0 := (owk_sle (by decide) stf_len e0w).1; have e0lo := bel.size; have e0ge := ge; have lz_e0 := bb.size; have bl_la_e0 := la.bl_new; have bl_lb_e0 := lb.bl_new; replace la := la.below bb; replace lb := lb.below bb; replace bel := bel.trans (bb.mono bel.size); clear hh lt ge bb) | ((with_reducible show wpList _ _ _ (⟨some 24, _, _, _, _, _⟩ :: _) _ _); refine wpList_append_sle rfl (.tmp 22) (.tmp 23) 23 rfl (w1.heap.size) 9 is (.string ⟨#[]⟩) 16 Tryd.underlying23 his his0 his1 his2 rfl stf_one _ (0) ([]) rfl e0w (A) (na) (ca) (a) rfl la (by unfold maxLen; omega) (by omega) lz_e0 ?_; intro v24 w3 own_ bb gw ofw; clear ofw; replace la := la.under bl_la_e0 bb; replace lb := lb.under bl_lb_e0 bb; clear gw; replace bel := bel.trans (bb.mono e0lo); have lz_a1 := Nat.le_trans lz_e0 bb.size; clear bb; clear e0 e0w lz_e0; replace own_ : w3.ownsRow (w1.heap.size) 9 1 v24 (na) ((a : List (List UInt8)).flatMap stf) := (by simpa using own_); obtain ⟨A24, c24, rfl⟩ := owk_val own_; have a1w := own_; have a1 := (owk_sle (by decide) stf_len own_).1; have fr_a1 := (owk_sle (by decide) stf_len own_).2; clear own_) | ((with_reducible show wpList _ _ _ (⟨some 26, _, _, _, _, _⟩ :: _) _ _); refine wpList_append_sle rfl (.tmp 24) (.tmp 25) 23 rfl (w1.heap.size) 9 is (.string ⟨#[]⟩) 16 Tryd.underlying23 his his0 his1 his2 rfl stf_one _ (na) (a) rfl a1w (B) (nb) (cb) (b) rfl lb (by unfold maxLen; omega) (by omega) lz_a1 ?_; intro v26 w4 own_ bb gw ofw; clear ofw; replace la := la.under bl_la_e0 bb; replace lb := lb.under bl_lb_e0 bb; clear gw; replace bel := bel.trans (bb.mono e0lo); have lz_al := Nat.le_trans lz_a1 bb.size; clear bb; clear a1 a1w lz_a1; replace own_ : w4.ownsRow (w1.heap.size) 9 1 v26 (na + nb) ((a ++ b : List (List UInt8)).flatMap stf) := own_; obtain ⟨A26, c26, rfl⟩ := owk_val own_; have alw := own_; have al := (owk_sle (by decide) stf_len own_).1; have fr_al := (owk_sle (by decide) stf_len own_).2; clear own_))
    with_reducible refine (ngood_any _ _ _ _ _ la (by omega)).mono ?_
    rintro e _ ⟨rfl, rfl⟩
    rw [HGA.out]
    go_wp2_with fail
    with_reducible refine (ngood_any _ _ _ _ _ lb (by omega)).mono ?_
    rintro e _ ⟨rfl, rfl⟩
    rw [HGB.out]
    go_wp2_with fail
    go_ret
    exact ⟨rfl, bel⟩
  have HGB := Lib.hid hg
  clear hg
  rcases hg : goodN (a ++ b) with _ | _
  · have HGC := Lib.hid hg
    clear hg
    go_wp2_with (first | ((with_reducible show wpList _ _ _ (⟨some 22, _, _, _, _, _⟩ :: _) _ _); refine wpList_lit_n rfl 23 9 0 _ rfl #[] (.string ⟨#[]⟩) Tryd.underlying23 (by kernel_rfl) 1 (by kernel_rfl) (by decide) (by kernel_rfl) ?_; intro g22 w2 ge lt hh bb; have e0w := owk_lit (B := w1.heap.size) ([] : List (List UInt8)) stf_len (show w2.heap[g22]? = some (.cells (([] : List (List UInt8)).flatMap stf).toArray 9 (0, 0)) from hh) ge 0 rfl (by simp [maxLen]); have e0 := (owk_sle (by decide) stf_len e0w).1; have e0lo := bel.size; have e0ge := ge; have lz_e0 := bb.size; have bl_la_e0 := la.bl_new; have bl_lb_e0 := lb.bl_new; replace la := la.below bb; replace lb := lb.below bb; replace bel := bel.trans (bb.mono bel.size); clear hh lt ge bb) | ((with_reducible show wpList _ _ _ (⟨some 24, _, _, _, _, _⟩ :: _) _ _); refine wpList_append_sle rfl (.tmp 22) (.tmp 23) 23 rfl (w1.heap.size) 9 is (.string ⟨#[]⟩) 16 Tryd.underlying23 his his0 his1 his2 rfl stf_one _ (0) ([]) rfl e0w (A) (na) (ca) (a) rfl la (by unfold maxLen; omega) (by omega) lz_e0 ?_; intro v24 w3 own_ bb gw ofw; clear ofw; replace la := la.under bl_la_e0 bb; replace lb := lb.under bl_lb_e0 bb; clear gw; replace bel := bel.trans (bb.mono e0lo); have lz_a1 := Nat.le_trans lz_e0 bb.size; clear bb; clear e0 e0w lz_e0; replace own_ : w3.ownsRow (w1.heap.size) 9 1 v24 (na) ((a : List (List UInt8)).flatMap stf) := (by simpa using own_); obtain ⟨A24, c24, rfl⟩ := owk_val own_; have a1w := own_; have a1 := (owk_sle (by decide) stf_len own_).1; have fr_a1 := (owk_sle (by decide) stf_len own_).2; clear own_) | ((with_reducible show wpList _ _ _ (⟨some 26, _, _, _, _, _⟩ :: _) _ _); refine wpList_append_sle rfl (.tmp 24) (.tmp 25) 23 rfl (w1.heap.size) 9 is (.string ⟨#[]⟩) 16 Tryd.underlying23 his his0 his1 his2 rfl stf_one _ (na) (a) rfl a1w (B) (nb) (cb) (b) rfl lb (by unfold maxLen; omega) (by omega) lz_a1 ?_; intro v26 w4 own_ bb gw ofw; clear ofw; replace la := la.under bl_la_e0 bb; replace lb := lb.under bl_lb_e0 bb; clear gw; replace bel := bel.trans (bb.mono e0lo); have lz_al := Nat.le_trans lz_a1 bb.size; clear bb; clear a1 a1w lz_a1; replace own_ : w4.ownsRow (w1.heap.size) 9 1 v26 (na + nb) ((a ++ b : List (List UInt8)).flatMap stf) := own_; obtain ⟨A26, c26, rfl⟩ := owk_val own_; have alw := own_; have al := (owk_sle (by decide) stf_len own_).1; have fr_al := (owk_sle (by decide) stf_len own_).2; clear own_))
    with_reducible refine (ngood_any _ _ _ _ _ la (by omega)).mono ?_
    rintro e _ ⟨rfl, rfl⟩
    rw [HGA.out]
    go_wp2_with fail
    with_reducible refine (ngood_any _ _ _ _ _ lb (by omega)).mono ?_
    rintro e _ ⟨rfl, rfl⟩
    rw [HGB.out]
    go_wp2_with fail
    with_reducible refine (ngood_any _ _ _ _ _ al (by omega)).mono ?_
    rintro e _ ⟨rfl, rfl⟩
    rw [HGC.out]
    go_wp2_with fail
    go_ret
    exact ⟨rfl, bel⟩
  have HGC := Lib.hid hg
  clear hg
  obtain ⟨X, HX2_⟩ : ∃ u_, ([7] : List UInt8) ++ putN b = u_ := ⟨_, rfl⟩
  have HX2 := Lib.hid HX2_
  clear HX2_
  obtain ⟨zx, HZX_⟩ : ∃ u_, X.length = u_ := ⟨_, rfl⟩
  have HZX := Lib.hid HZX_
  clear HZX_
  obtain ⟨Y, HY2_⟩ : ∃ u_, X ++ putN a = u_ := ⟨_, rfl⟩
  have HY2 := Lib.hid HY2_
  clear HY2_
  obtain ⟨q, HQ_⟩ : ∃ u_, (X ++ encL a).length = u_ := ⟨_, rfl⟩
  have HQ := Lib.hid HQ_
  clear HQ_
  have HZY : Hid (Y.length = q + 1) := Lib.hid (by rw [← HY2.out, putN, ← List.append_assoc, List.length_append, HQ.out]; rfl)
  have hzx : zx ≤ 300 := by have h_ := HZX.out; have h1_ := good_size HGB.out; rw [← HX2.out, putN, List.length_append, List.length_append, enc_len] at h_; simp at h_; omega
  have hqq : q ≤ 600 := by have h_ := HQ.out; have h1_ := good_size HGA.out; rw [List.length_append, enc_len, HZX.out] at h_; omega
  have HYQ : Hid (Y.take q = X ++ encL a) := Lib.hid (by rw [← HY2.out, putN, ← List.append_assoc, ← HQ.out, List.take_left']; rfl)
  have HGL : Hid (getN ((X ++ encL a) ++ [192, 1]) (zx : Int) = (a ++ b, q + 2, 0)) := Lib.hid (by have h_ := getN_lead HGA.out HGB.out HGC.out X (X ++ (encL a ++ [192, 1])) HX2.out.symm rfl; rw [HZX.out, ← List.append_assoc, List.length_append, HQ.out] at h_; exact h_)
  go_wp2_with (first | ((with_reducible show wpList _ _ _ (⟨some 22, _, _, _, _, _⟩ :: _) _ _); refine wpList_lit_n rfl 23 9 0 _ rfl #[] (.string ⟨#[]⟩) Tryd.underlying23 (by kernel_rfl) 1 (by kernel_rfl) (by decide) (by kernel_rfl) ?_; intro g22 w2 ge lt hh bb; have e0w := owk_lit (B := w1.heap.size) ([] : List (List UInt8)) stf_len (show w2.heap[g22]? = some (.cells (([] : List (List UInt8)).flatMap stf).toArray 9 (0, 0)) from hh) ge 0 rfl (by simp [maxLen]); have e0 := (owk_sle (by decide) stf_len e0w).1; have e0lo := bel.size; have e0ge := ge; have lz_e0 := bb.size; have bl_la_e0 := la.bl_new; have bl_lb_e0 := lb.bl_new; replace la := la.below bb; replace lb := lb.below bb; replace bel := bel.trans (bb.mono bel.size); clear hh lt ge bb) | ((with_reducible show wpList _ _ _ (⟨some 24, _, _, _, _, _⟩ :: _) _ _); refine wpList_append_sle rfl (.tmp 22) (.tmp 23) 23 rfl (w1.heap.size) 9 is (.string ⟨#[]⟩) 16 Tryd.underlying23 his his0 his1 his2 rfl stf_one _ (0) ([]) rfl e0w (A) (na) (ca) (a) rfl la (by unfold maxLen; omega) (by omega) lz_e0 ?_; intro v24 w3 own_ bb gw ofw; clear ofw; replace la := la.under bl_la_e0 bb; replace lb := lb.under bl_lb_e0 bb; clear gw; replace bel := bel.trans (bb.mono e0lo); have lz_a1 := Nat.le_trans lz_e0 bb.size; clear bb; clear e0 e0w lz_e0; replace own_ : w3.ownsRow (w1.heap.size) 9 1 v24 (na) ((a : List (List UInt8)).flatMap stf) := (by simpa using own_); obtain ⟨A24, c24, rfl⟩ := owk_val own_; have a1w := own_; have a1 := (owk_sle (by decide) stf_len own_).1; have fr_a1 := (owk_sle (by decide) stf_len own_).2; clear own_) | ((with_reducible show wpList _ _ _ (⟨some 26, _, _, _, _, _⟩ :: _) _ _); refine wpList_append_sle rfl (.tmp 24) (.tmp 25) 23 rfl (w1.heap.size) 9 is (.string ⟨#[]⟩) 16 Tryd.underlying23 his his0 his1 his2 rfl stf_one _ (na) (a) rfl a1w (B) (nb) (cb) (b) rfl lb (by unfold maxLen; omega) (by omega) lz_a1 ?_; intro v26 w4 own_ bb gw ofw; clear ofw; replace la := la.under bl_la_e0 bb; replace lb := lb.under bl_lb_e0 bb; clear gw; replace bel := bel.trans (bb.mono e0lo); have lz_al := Nat.le_trans lz_a1 bb.size; clear bb; clear a1 a1w lz_a1; replace own_ : w4.ownsRow (w1.heap.size) 9 1 v26 (na + nb) ((a ++ b : List (List UInt8)).flatMap stf) := own_; obtain ⟨A26, c26, rfl⟩ := owk_val own_; have alw := own_; have al := (owk_sle (by decide) stf_len own_).1; have fr_al := (owk_sle (by decide) stf_len own_).2; clear own_))
  with_reducible refine (ngood_any _ _ _ _ _ la (by omega)).mono ?_
  rintro e _ ⟨rfl, rfl⟩
  rw [HGA.out]
  go_wp2_with fail
  with_reducible refine (ngood_any _ _ _ _ _ lb (by omega)).mono ?_
  rintro e _ ⟨rfl, rfl⟩
  rw [HGB.out]
  go_wp2_with fail
  with_reducible refine (ngood_any _ _ _ _ _ al (by omega)).mono ?_
  rintro e _ ⟨rfl, rfl⟩
  rw [HGC.out]
  go_wp2_with (first | ((with_reducible show wpList _ _ _ (⟨some 41, _, _, _, _, _⟩ :: _) _ _); refine wpList_lit_n rfl 27 5 1 _ rfl #[.int .u8 7] (.int .u8 0) Tryd.underlying27 (by kernel_rfl) 1 (by kernel_rfl) (by decide) (by kernel_rfl) ?_; intro g41 w5 ge lt hh bb; have hl : w5.heap[g41]? = some (.cells (([7] : List UInt8).map u8v).toArray 5 (0, 0)) := (by simpa [u8v, byteOf_val] using hh); have s7w := own_lit (B := w4.heap.size) ([7]) hl ge 1 rfl (by simp [maxLen]); have s7 := (own_sl s7w).1; have s7lo := bel.size; clear hl; have s7ge := ge; have lz_s7 := bb.size; have bl_la_s7 := la.bl_new; have bl_lb_s7 := lb.bl_new; have bl_al_s7 := al.bl_new; have av_la_b41 := la.av_new ge; have av_lb_b41 := lb.av_new ge; have av_al_b41 := al.av_new ge; have of_al_b41 := owk_new alw ge; have ob41 := Nat.le_trans bel.size ge; replace la := la.below bb; replace lb := lb.below bb; replace al := al.below bb; replace alw := owk_under alw bb; replace lz_al := Nat.le_trans lz_al bb.size; replace bel := bel.trans (bb.mono bel.size); have hb41 := hh; clear hh lt ge bb))
  with_reducible refine (nput_lit (k := zx) _ s7 lb (by omega) HGB.out HX2.out HZX.out).mono ?_
  rintro e w6 ⟨v_px, rfl, pxw, b6⟩
  have y_px_b41 := Lib.hid (hlt hb41)
  have bl_la_px := la.bl_new
  have bl_lb_px := lb.bl_new
  have bl_al_px := al.bl_new
  have bl_s7_px := s7.bl_new
  have pxlo := bel.size
  have lz_px := b6.size
  replace hb41 := blk_u hb41 b6
  replace la := la.below b6
  replace lb := lb.below b6
  replace al := al.below b6
  replace alw := owk_under alw b6
  replace s7 := s7.below b6
  replace s7w := own_under s7w b6
  replace lz_al := Nat.le_trans lz_al b6.size
  replace lz_s7 := Nat.le_trans lz_s7 b6.size
  replace bel := bel.trans (b6.mono bel.size)
  clear b6
  obtain ⟨Apx, cpx, rfl⟩ := own_val pxw
  have px := (own_sl pxw).1
  have fr_px := (own_sl pxw).2
  have av_px_b41 := fr_px.av y_px_b41.out
  go_wp2_with fail
  with_reducible refine (nput_lit (k := q + 1) _ px la (by omega) HGA.out HY2.out HZY.out).mono ?_
  rintro e w7 ⟨v_py, rfl, pyw, b7⟩
  have y_py_b41 := Lib.hid (hlt hb41)
  have bl_la_py := la.bl_new
  have bl_lb_py := lb.bl_new
  have bl_al_py := al.bl_new
  have bl_s7_py := s7.bl_new
  have bl_px_py := px.bl_new
  have pylo := bel.size
  have lz_py := b7.size
  replace hb41 := blk_u hb41 b7
  replace la := la.below b7
  replace lb := lb.below b7
  replace al := al.below b7
  replace alw := owk_under alw b7
  replace s7 := s7.below b7
  replace s7w := own_under s7w b7
  replace px := px.below b7
  replace pxw := own_under pxw b7
  replace lz_al := Nat.le_trans lz_al b7.size
  replace lz_s7 := Nat.le_trans lz_s7 b7.size
  replace lz_px := Nat.le_trans lz_px b7.size
  replace bel := bel.trans (b7.mono bel.size)
  clear b7
  obtain ⟨Apy, cpy, rfl⟩ := own_val pyw
  have py := (own_sl pyw).1
  have fr_py := (own_sl pyw).2
  have av_py_b41 := fr_py.av y_py_b41.out
  clear px pxw lz_px
  obtain ⟨gP, cg, eg, pyge, pylt, pync, pycm⟩ := own_at pyw (by omega)
  injection eg with eg1 _ eg3
  subst eg1
  subst eg3
  have R58 := fun W => by_front gP (q + 1) cpy q (by omega) W
  have pzw := own_to (own_cut pyw (by omega)) rfl HYQ.out
  have pz := (own_sl pzw).1
  have lz_pz := lz_py
  clear py pyw lz_py
  go_wp2_with (first | ((with_reducible show wpList _ _ _ (⟨some 59, _, _, _, _, _⟩ :: _) _ _); refine wpList_lit_n rfl 27 5 2 _ rfl #[.int .u8 192, .int .u8 1] (.int .u8 0) Tryd.underlying27 (by kernel_rfl) 1 (by kernel_rfl) (by decide) (by kernel_rfl) ?_; intro g59 w8 ge lt hh bb; have hl : w8.heap[g59]? = some (.cells (([192, 1] : List UInt8).map u8v).toArray 5 (0, 0)) := (by simpa [u8v, byteOf_val] using hh); have s2w := own_lit (B := w7.heap.size) ([192, 1]) hl ge 2 rfl (by simp [maxLen]); have s2 := (own_sl s2w).1; have s2lo := bel.size; clear hl; have s2ge := ge; have lz_s2 := bb.size; have y_s2_b41 := Lib.hid (hlt hb41); have bl_la_s2 := la.bl_new; have bl_lb_s2 := lb.bl_new; have bl_al_s2 := al.bl_new; have bl_s7_s2 := s7.bl_new; have bl_pz_s2 := pz.bl_new; have d_b41_b59 := ne_new (hlt hb41) ge; have av_la_b59 := la.av_new ge; have av_lb_b59 := lb.av_new ge; have av_al_b59 := al.av_new ge; have of_al_b59 := owk_new alw ge; have av_s7_b59 := s7.av_new ge; have of_s7_b59 := own_new s7w ge; have av_pz_b59 := pz.av_new ge; have of_pz_b59 := own_new pzw ge; have ob59 := Nat.le_trans bel.size ge; replace hb41 := blk_u hb41 bb; replace la := la.below bb; replace lb := lb.below bb; replace al := al.below bb; replace alw := owk_under alw bb; replace s7 := s7.below bb; replace s7w := own_under s7w bb; replace pz := pz.below bb; replace pzw := own_under pzw bb; replace lz_al := Nat.le_trans lz_al bb.size; replace lz_s7 := Nat.le_trans lz_s7 bb.size; replace lz_pz := Nat.le_trans lz_pz bb.size; replace bel := bel.trans (bb.mono bel.size); have hb59 := hh; clear hh lt ge bb; have av_s2_b41 := (own_sl s2w).2.av y_s2_b41.out) | ((with_reducible show wpList _ _ _ (⟨some 60, _, _, _, _, _⟩ :: _) _ _); refine wpList_append_bg _ rfl (.tmp 58) (.tmp 59) 27 rfl (w6.heap.size) 5 ii (.int .u8 0) Tryd.underlying27 hii hz0 hz1 hz2 rfl _ (q) (X ++ encL a) rfl pzw (some ⟨g59, 0, none⟩) (2) (2) ([192, 1]) rfl s2 (by omega) lz_pz ?_; intro v60 w9 own_ bb gw ofw; have of60_b59 := ofw _ (hlt hb59) of_pz_b59; clear ofw; replace la := la.under bl_la_py bb; replace lb := lb.under bl_lb_py bb; replace al := al.under bl_al_py bb; clear alw lz_al; replace s7 := s7.under bl_s7_py bb; clear s7w lz_s7; clear s2 s2w lz_s2; replace hb41 := blk_under hb41 bb y_py_b41.out; replace hb59 := blk_own hb59 gw of_pz_b59; clear gw; replace bel := bel.trans (bb.mono pylo); have lz_pq := Nat.le_trans lz_pz bb.size; clear bb; clear pz pzw lz_pz; replace own_ : w9.ownsRow (w6.heap.size) 5 1 v60 (q + 2) ((X ++ encL a ++ [192, 1] : List UInt8).map u8v) := own_; obtain ⟨A60, c60, rfl⟩ := own_val own_; have pqw := own_; have pq := (own_sl own_).1; have fr_pq := (own_sl own_).2; clear own_; have av_pq_b41 := fr_pq.av y_py_b41.out; have av_pq_b59 := own_av pqw of60_b59))
  try clear R58
  with_reducible refine (nget_lit (k := na + nb) _ pq (by omega) HGL.out HAB.out rfl rfl).mono ?_
  rintro e w10 ⟨v_ga, rfl, gaw, b10⟩
  have y_ga_b41 := Lib.hid (hlt hb41)
  have y_ga_b59 := Lib.hid (hlt hb59)
  have bl_la_ga := la.bl_new
  have bl_lb_ga := lb.bl_new
  have bl_al_ga := al.bl_new
  have bl_s7_ga := s7.bl_new
  have bl_pq_ga := pq.bl_new
  have galo := bel.size
  have lz_ga := b10.size
  replace hb41 := blk_u hb41 b10
  replace hb59 := blk_u hb59 b10
  replace la := la.below b10
  replace lb := lb.below b10
  replace al := al.below b10
  replace s7 := s7.below b10
  replace pq := pq.below b10
  replace pqw := own_under pqw b10
  replace lz_pq := Nat.le_trans lz_pq b10.size
  replace bel := bel.trans (b10.mono bel.size)
  clear b10
  obtain ⟨Aga, cga, rfl⟩ := owk_val gaw
  have ga := (owk_sle (by decide) stf_len gaw).1
  have fr_ga := (owk_sle (by decide) stf_len gaw).2
  have av_ga_b41 := fr_ga.av y_ga_b41.out
  have av_ga_b59 := fr_ga.av y_ga_b59.out
  go_wp2_with fail
  with_reducible refine (lexact_any _ _ _ _ _ _ _ _ ga al (by omega)).mono ?_
  rintro e w11 ⟨rfl, b11⟩
  replace hb41 := blk_u hb41 b11
  replace hb59 := blk_u hb59 b11
  replace la := la.below b11
  replace lb := lb.below b11
  replace al := al.below b11
  replace s7 := s7.below b11
  replace pq := pq.below b11
  replace pqw := own_under pqw b11
  replace ga := ga.below b11
  replace gaw := owk_under gaw b11
  replace lz_pq := Nat.le_trans lz_pq b11.size
  replace lz_ga := Nat.le_trans lz_ga b11.size
  replace bel := bel.trans (b11.mono bel.size)
  clear b11
  go_wp2_with fail
  go_ret
  exact ⟨rfl, bel⟩
end Go.Proofs.YtholgadifhjmgaaDoor
