/- Layer 12's own, same, awake. -/
import Derived.Test.YtmbkjkcehodghaaOp5
import Derived.Test.YtmbkjkcehodghaaOp6
import Derived.Test.YtmbkjkcehodghaaStr
import Derived.Stop.BytesEq
namespace Go.Proofs.Ytmbkjkcehodghaa
open Go.RowKit

theorem take_snoc {α : Type} {l : List α} {j : Nat} {x : α} (h : l[j]? = some x) : l.take (j + 1) = l.take j ++ [x] := by
  rw [List.take_add_one, h]; rfl
set_option linter.unusedVariables false in
set_option linter.unusedSimpArgs false in
set_option maxRecDepth 100000 in
set_option maxHeartbeats 16000000 in
theorem own12_any {A : Option Addr} {n c : Nat} {hs : List Oh} (w : World) (en : Sle opE 2 w A n c hs) (hn : n ≤ 100000) : Calls Try.prog 14 #[.slice A n c] w fun e w' => ∃ A' c', e = .returned (.slice A' n c') ∧ Sle opE 2 w' A' n c' hs ∧ Below w.heap.size w w' := by
  have hble := en.bl_new
  have HL := Lib.hid en.1
  have hn0 : (n : Int) ≤ 100000 := by omega
  obtain ⟨io, hio, hio0, hio1, hio2⟩ := info_parts Try.info_ropt
  have bel := Below.refl w.heap.size w
  go_enter Try.func14, Try.ntmps14
  go_wp2_with fail
  go_loopg [4, 3] (n) (fun gk s4 s3 wr => ∃ k : Nat, ∃ (Aow : Option Addr) (cow : Nat), gk = n - k ∧ k ≤ n ∧ s4 = .int .i64 (k : Int) ∧ s3 = .slice Aow k cow ∧ wr.ownsRow (w.heap.size) 62 2 (.slice Aow (k) cow) (k) ((hs.take k : List Oh).flatMap opE) ∧ Sle opE 2 wr (A) (n) (c) (hs) ∧ Below w.heap.size w wr)
  case atStart => exact ⟨0, none, 0, Nat.sub_zero _, Nat.zero_le _, rfl, rfl, owk_nil _ _ _, en, bel⟩
  case round =>
    clear en bel
    obtain ⟨k, Aow, cow, HGK, hkn, rfl, rfl, oww, en, bel⟩ := hrel
    have HGK_ := Lib.hid HGK
    clear HGK
    have ow := (owk_sle (by decide) opE_len oww).1
    have fr_ow := (owk_sle (by decide) opE_len oww).2
    have lz_ow := bel.size
    have owlo := Nat.le_refl (w.heap.size)
    by_cases h : k < n
    rotate_left
    · have HT : Hid (hs.take k = hs) := Lib.hid (List.take_of_length_le (by have := HL.out; omega))
      obtain rfl : k = n := by omega
      replace h : decide (k < k) = false := decide_eq_false (by omega)
      go_wp2_with fail
      go_ret
      exact ⟨Aow, cow, rfl, by rw [← HT.out]; exact ow, bel⟩
    obtain ⟨x, hx_⟩ : ∃ x, hs[k]? = some x := ⟨_, List.getElem?_eq_getElem (by have := HL.out; omega)⟩
    have HX := Lib.hid hx_
    have HT := Lib.hid (take_snoc hx_)
    have k0 : (0 : Int) ≤ k := by omega
    have k1 : (k : Int) < n := by omega
    clear hx_
    obtain ⟨gE, oE, hEp⟩ := en.place (by omega)
    subst hEp
    go_wp2_with fail
    replace bel := bel.drew
    replace en := en.drew
    replace ow := ow.drew
    replace oww : wr.drew.ownsRow _ _ _ _ _ _ := oww
    replace lz_ow : _ ≤ wr.drew.heap.size := lz_ow
    refine wp_region_held_drew (S := fun W => Sle opE 2 W (some ⟨gE, oE, none⟩) (n) (c) (hs)) (by kernel_rfl) en (fun hH => ?_)
    generalize wr.drew = w1 at bel en ow oww lz_ow hH ⊢
    refine wpAnyH_take (i := 0) (v := ?_) rfl (by kernel_rfl) (by kernel_rfl) (by kernel_rfl) (fun _ _ _ h => h) (Or.inl ⟨by rfl, ?_⟩) hH ?_
    rotate_left
    · ((intro W hW; clear hW; go_simp) <;> with_reducible rfl)
    simp only [Act.put, List.getElem_toArray, List.getElem_cons_zero, List.setIfInBounds_toArray, List.set_cons_zero, List.set_cons_succ]
    refine wpAnyH_take (i := 1) (v := ?_) rfl (by kernel_rfl) (by kernel_rfl) (by kernel_rfl) (fun _ _ _ h => h) (Or.inl ⟨by rfl, ?_⟩) hH ?_
    rotate_left
    · ((intro W hW; clear hW; go_simp) <;> with_reducible rfl)
    simp only [Act.put, List.getElem_toArray, List.getElem_cons_zero, List.getElem_cons_succ, List.setIfInBounds_toArray, List.set_cons_zero, List.set_cons_succ]
    refine wpAnyH_take (i := 2) (v := ?_) rfl (by kernel_rfl) (by kernel_rfl) (by kernel_rfl) (fun _ _ _ h => h) (Or.inl ⟨by rfl, ?_⟩) hH ?_
    rotate_left
    · ((intro W hW; clear hW; go_simp) <;> with_reducible rfl)
    simp only [Act.put, List.getElem_toArray, List.getElem_cons_zero, List.getElem_cons_succ, List.setIfInBounds_toArray, List.set_cons_zero, List.set_cons_succ]
    refine wpAnyH_take (i := 3) (v := ?_) rfl (by kernel_rfl) (by kernel_rfl) (by kernel_rfl) (fun _ _ _ h => h) (Or.inl ⟨by rfl, ?_⟩) hH ?_
    rotate_left
    · ((intro W hW; clear hW; go_simp) <;> with_reducible rfl)
    simp only [Act.put, List.getElem_toArray, List.getElem_cons_zero, List.getElem_cons_succ, List.setIfInBounds_toArray, List.set_cons_zero, List.set_cons_succ]
    refine wpAnyH_take (i := 4) (v := ?_) rfl (by kernel_rfl) (by kernel_rfl) (by kernel_rfl) (fun _ _ _ h => h) (Or.inl ⟨by rfl, ?_⟩) hH ?_
    rotate_left
    · ((intro W hW; clear hW; go_simp) <;> with_reducible rfl)
    simp only [Act.put, List.getElem_toArray, List.getElem_cons_zero, List.getElem_cons_succ, List.setIfInBounds_toArray, List.set_cons_zero, List.set_cons_succ]
    refine wpAnyH_take (i := 5) (v := ?_) rfl (by kernel_rfl) (by kernel_rfl) (by kernel_rfl) (fun _ _ _ h => h) (Or.inl ⟨by rfl, ?_⟩) hH ?_
    rotate_left
    · ((intro W hW; have hk := Sle.cellk0 (hW) HX.out _ rfl; clear hW; go_simp) <;> with_reducible rfl)
    simp only [Act.put, List.getElem_toArray, List.getElem_cons_zero, List.getElem_cons_succ, List.setIfInBounds_toArray, List.set_cons_zero, List.set_cons_succ]
    refine wpAnyH_take (i := 6) (v := ?_) rfl (by kernel_rfl) (by kernel_rfl) (by kernel_rfl) (fun _ _ _ h => h) (Or.inl ⟨by rfl, ?_⟩) hH ?_
    rotate_left
    · ((intro W hW; clear hW; go_simp) <;> with_reducible rfl)
    simp only [Act.put, List.getElem_toArray, List.getElem_cons_zero, List.getElem_cons_succ, List.setIfInBounds_toArray, List.set_cons_zero, List.set_cons_succ]
    refine wpAnyH_take (i := 7) (v := ?_) rfl (by kernel_rfl) (by kernel_rfl) (by kernel_rfl) (fun _ _ _ h => h) (Or.inl ⟨by rfl, ?_⟩) hH ?_
    rotate_left
    · ((intro W hW; clear hW; go_simp) <;> with_reducible rfl)
    simp only [Act.put, List.getElem_toArray, List.getElem_cons_zero, List.getElem_cons_succ, List.setIfInBounds_toArray, List.set_cons_zero, List.set_cons_succ]
    refine wpAnyH_take (i := 8) (v := ?_) rfl (by kernel_rfl) (by kernel_rfl) (by kernel_rfl) (fun _ _ _ h => h) (Or.inl ⟨by rfl, ?_⟩) hH ?_
    rotate_left
    · ((intro W hW; clear hW; go_simp) <;> with_reducible rfl)
    simp only [Act.put, List.getElem_toArray, List.getElem_cons_zero, List.getElem_cons_succ, List.setIfInBounds_toArray, List.set_cons_zero, List.set_cons_succ]
    refine wpAnyH_take (i := 9) (v := ?_) rfl (by kernel_rfl) (by kernel_rfl) (by kernel_rfl) (fun _ _ _ h => h) (Or.inl ⟨by rfl, ?_⟩) hH ?_
    rotate_left
    · ((intro W hW; clear hW; go_simp) <;> with_reducible rfl)
    simp only [Act.put, List.getElem_toArray, List.getElem_cons_zero, List.getElem_cons_succ, List.setIfInBounds_toArray, List.set_cons_zero, List.set_cons_succ]
    refine wpAnyH_take (i := 10) (v := ?_) rfl (by kernel_rfl) (by kernel_rfl) (by kernel_rfl) (fun _ _ _ h => h) (Or.inl ⟨by rfl, ?_⟩) hH ?_
    rotate_left
    · ((intro W hW; have hk := Sle.cellk (hW) HX.out 1 _ rfl; clear hW; go_simp) <;> with_reducible rfl)
    simp only [Act.put, List.getElem_toArray, List.getElem_cons_zero, List.getElem_cons_succ, List.setIfInBounds_toArray, List.set_cons_zero, List.set_cons_succ]
    refine wpAnyH_take (i := 11) (v := ?_) rfl (by kernel_rfl) (by kernel_rfl) (by kernel_rfl) (fun _ _ _ h => h) (Or.inl ⟨by rfl, ?_⟩) hH ?_
    rotate_left
    · ((intro W hW; clear hW; go_simp) <;> with_reducible rfl)
    simp only [Act.put, List.getElem_toArray, List.getElem_cons_zero, List.getElem_cons_succ, List.setIfInBounds_toArray, List.set_cons_zero, List.set_cons_succ]
    refine wpAnyH_ready (rs := [12]) (by kernel_rfl) (by simp) ?_
    refine AllReadyH.cons (o := _) rfl (fun K hK => ?_) AllReadyH.nil
    simp only [List.getElem_toArray, List.getElem_cons_zero, List.getElem_cons_succ]
    rw [if_pos (by rfl)]
    refine wp_lit_n 39 62 1 _ rfl #[.int .i64 x.c, .slice x.A x.n x.cp] (.agg #[.int .i64 0, .slice none 0 0]) Try.underlying39 (by kernel_rfl) 2 (by kernel_rfl) (by decide) (by kernel_rfl) ?_
    intro g23 w2 ge lt hh bb
    have av_en_b23 := en.av_new ge
    have av_ow_b23 := ow.av_new ge
    have of_ow_b23 := owk_new oww ge
    have ob23 := Nat.le_trans bel.size ge
    replace en := en.below bb
    replace ow := ow.below bb
    replace oww := owk_under oww bb
    replace lz_ow := Nat.le_trans lz_ow bb.size
    replace bel := bel.trans (bb.mono bel.size)
    have hb23 := hh
    clear hh lt ge bb
    have lt : Sle opE 2 w2 (some ⟨g23, 0, none⟩) (1) (1) ([x]) := sle_lit ([x]) (by decide) opE_len hb23 rfl (by simp [maxLen])
    refine hK.out _ _ en (fun hH3 => ?_)
    clear hK K
    simp only [Act.put, List.setIfInBounds_toArray, List.set_cons_zero, List.set_cons_succ]
    refine wpAnyH_ready (rs := [13]) (by kernel_rfl) (by simp) ?_
    refine AllReadyH.cons (o := _) rfl (fun K hK => ?_) AllReadyH.nil
    simp only [List.getElem_toArray, List.getElem_cons_zero, List.getElem_cons_succ]
    rw [if_pos (by rfl)]
    refine wp_append_sle (.tmp 11) (.tmp 23) 39 rfl (w.heap.size) 62 io (.agg #[.int .i64 0, .slice none 0 0]) 32 Try.underlying39 hio hio0 hio1 hio2 rfl opE_one _ (k) (hs.take k) rfl oww (some ⟨g23, 0, none⟩) (1) (1) ([x]) rfl lt (by unfold maxLen; omega) (by omega) lz_ow ?_
    intro v24 w4 own_ bb gw ofw
    have of24_b23 := ofw _ (hlt hb23) of_ow_b23
    clear ofw
    replace en := en.under hble bb
    replace lt := Sle.off lt of_ow_b23 gw
    replace hb23 := blk_own hb23 gw of_ow_b23
    clear gw
    replace bel := bel.trans (bb.mono owlo)
    have lz_z := Nat.le_trans lz_ow bb.size
    clear bb
    clear ow oww lz_ow
    replace own_ : w4.ownsRow (w.heap.size) 62 2 v24 (k + 1) ((hs.take k ++ [x] : List Oh).flatMap opE) := own_
    obtain ⟨A24, c24, rfl⟩ := owk_val own_
    have zw := own_
    have z := (owk_sle (by decide) opE_len own_).1
    have fr_z := (owk_sle (by decide) opE_len own_).2
    clear own_
    have av_z_b23 := owk_av zw of24_b23
    refine hK.out _ _ en (fun hH5 => ?_)
    clear hK K
    simp only [Act.put, List.setIfInBounds_toArray, List.set_cons_zero, List.set_cons_succ]
    refine wpAnyH_take (i := 14) (v := ?_) rfl (by kernel_rfl) (by kernel_rfl) (by kernel_rfl) (fun _ _ _ h => h) (Or.inl ⟨by rfl, ?_⟩) hH5 ?_
    rotate_left
    · ((intro W hW; clear hW; go_simp) <;> with_reducible rfl)
    simp only [Act.put, List.getElem_toArray, List.getElem_cons_zero, List.getElem_cons_succ, List.setIfInBounds_toArray, List.set_cons_zero, List.set_cons_succ]
    refine wpAnyH_done (by kernel_rfl) ?_ _
    go_wp2_with fail
    go_roundg (n - (k + 1))
    case measure => have := HGK_.out; omega
    case rel => exact ⟨k + 1, A24, c24, rfl, by omega, by go_num, rfl, by have h_ := zw; rw [← HT.out] at h_; exact h_, en, bel⟩
set_option linter.unusedVariables false in
set_option linter.unusedSimpArgs false in
set_option maxRecDepth 100000 in
set_option maxHeartbeats 16000000 in
theorem same12_n {A C : Option Addr} {n c d : Nat} {hs hs2 : List Oh} {L : OptL} (w : World) (en : Sle opE 2 w A n c hs) (hbd : Bd w hs L) (em : Sle opE 2 w C n d hs2) (hbd2 : Bd w hs2 L) (hn : n ≤ 100000) : Calls Try.prog 13 #[.slice A n c, .slice C n d] w fun e w' => e = .returned (.bool true) ∧ Below w.heap.size w w' := by
  have HL := Lib.hid en.1
  have HL2 := Lib.hid em.1
  have HBD := Lib.hid hbd
  have HBD2 := Lib.hid hbd2
  have hn0 : (n : Int) ≤ 100000 := by omega
  clear hbd hbd2
  have bel := Below.refl w.heap.size w
  go_enter Try.func13, Try.ntmps13
  go_wp2_with fail
  go_loopg [5] (n) (fun gk s5 wr => ∃ k : Nat, gk = n - k ∧ k ≤ n ∧ s5 = .int .i64 (k : Int) ∧ Sle opE 2 wr (A) (n) (c) (hs) ∧ Sle opE 2 wr (C) (n) (d) (hs2) ∧ Below w.heap.size w wr)
  case atStart => exact ⟨0, Nat.sub_zero _, Nat.zero_le _, rfl, en, em, bel⟩
  case round =>
    clear en em bel
    obtain ⟨k, HGK, hkn, rfl, en, em, bel⟩ := hrel
    have HGK_ := Lib.hid HGK
    clear HGK
    by_cases h : k < n
    rotate_left
    · obtain rfl : k = n := by omega
      replace h : decide (k < k) = false := decide_eq_false (by omega)
      go_wp2_with fail
      go_ret
      exact ⟨rfl, bel⟩
    obtain ⟨x, hx_⟩ : ∃ x, hs[k]? = some x := ⟨_, List.getElem?_eq_getElem (by have := HL.out; omega)⟩
    obtain ⟨y, hy_⟩ : ∃ y, hs2[k]? = some y := ⟨_, List.getElem?_eq_getElem (by have := HL2.out; omega)⟩
    obtain ⟨l, hl_, sb_⟩ := HBD.out.at hx_
    obtain ⟨l2, hl2_, sb2_⟩ := HBD2.out.at hy_
    have he_ := hl_.symm.trans hl2_
    simp only [Option.some.injEq, Prod.mk.injEq] at he_
    obtain ⟨hec, hel⟩ := he_
    subst hel
    have ec : (x.c != y.c) = false := by rw [bne, beq_iff_eq.2 hec]; rfl
    have k0 : (0 : Int) ≤ k := by omega
    have k1 : (k : Int) < n := by omega
    have HX := Lib.hid hx_
    have HY := Lib.hid hy_
    have sa := sb_.below bel
    have sc := sb2_.below bel
    clear hx_ hy_ hl_ hl2_ sb_ sb2_ hec
    obtain ⟨gE, oE, hEp⟩ := en.place (by omega)
    subst hEp
    obtain ⟨gF, oF, hFp⟩ := em.place (by omega)
    subst hFp
    go_wp2_with fail
    replace bel := bel.drew
    replace en := en.drew
    replace em := em.drew
    replace sa := sa.drew
    replace sc := sc.drew
    refine wp_region_held_drew (S := fun W => Sl W (x.A) (x.n) (x.cp) (l) ∧ Sl W (y.A) (y.n) (y.cp) (l) ∧ Sle opE 2 W (some ⟨gE, oE, none⟩) (n) (c) (hs) ∧ Sle opE 2 W (some ⟨gF, oF, none⟩) (n) (d) (hs2)) (by kernel_rfl) ⟨sa, sc, en, em⟩ (fun hH => ?_)
    generalize wr.drew = w1 at bel en em sa sc hH ⊢
    refine wpAnyH_take (i := 0) (v := ?_) rfl (by kernel_rfl) (by kernel_rfl) (by kernel_rfl) (fun _ _ _ h => h) (Or.inl ⟨by rfl, ?_⟩) hH ?_
    rotate_left
    · ((intro W hW; clear hW; go_simp) <;> with_reducible rfl)
    simp only [Act.put, List.getElem_toArray, List.getElem_cons_zero, List.setIfInBounds_toArray, List.set_cons_zero, List.set_cons_succ]
    refine wpAnyH_take (i := 1) (v := ?_) rfl (by kernel_rfl) (by kernel_rfl) (by kernel_rfl) (fun _ _ _ h => h) (Or.inl ⟨by rfl, ?_⟩) hH ?_
    rotate_left
    · ((intro W hW; clear hW; go_simp) <;> with_reducible rfl)
    simp only [Act.put, List.getElem_toArray, List.getElem_cons_zero, List.getElem_cons_succ, List.setIfInBounds_toArray, List.set_cons_zero, List.set_cons_succ]
    refine wpAnyH_take (i := 2) (v := ?_) rfl (by kernel_rfl) (by kernel_rfl) (by kernel_rfl) (fun _ _ _ h => h) (Or.inl ⟨by rfl, ?_⟩) hH ?_
    rotate_left
    · ((intro W hW; clear hW; go_simp) <;> with_reducible rfl)
    simp only [Act.put, List.getElem_toArray, List.getElem_cons_zero, List.getElem_cons_succ, List.setIfInBounds_toArray, List.set_cons_zero, List.set_cons_succ]
    refine wpAnyH_take (i := 3) (v := ?_) rfl (by kernel_rfl) (by kernel_rfl) (by kernel_rfl) (fun _ _ _ h => h) (Or.inl ⟨by rfl, ?_⟩) hH ?_
    rotate_left
    · ((intro W hW; clear hW; go_simp) <;> with_reducible rfl)
    simp only [Act.put, List.getElem_toArray, List.getElem_cons_zero, List.getElem_cons_succ, List.setIfInBounds_toArray, List.set_cons_zero, List.set_cons_succ]
    refine wpAnyH_take (i := 4) (v := ?_) rfl (by kernel_rfl) (by kernel_rfl) (by kernel_rfl) (fun _ _ _ h => h) (Or.inl ⟨by rfl, ?_⟩) hH ?_
    rotate_left
    · ((intro W hW; have hk := Sle.cellk0 (hW.2.2.1) HX.out _ rfl; clear hW; go_simp) <;> with_reducible rfl)
    simp only [Act.put, List.getElem_toArray, List.getElem_cons_zero, List.getElem_cons_succ, List.setIfInBounds_toArray, List.set_cons_zero, List.set_cons_succ]
    refine wpAnyH_take (i := 5) (v := ?_) rfl (by kernel_rfl) (by kernel_rfl) (by kernel_rfl) (fun _ _ _ h => h) (Or.inl ⟨by rfl, ?_⟩) hH ?_
    rotate_left
    · ((intro W hW; clear hW; go_simp) <;> with_reducible rfl)
    simp only [Act.put, List.getElem_toArray, List.getElem_cons_zero, List.getElem_cons_succ, List.setIfInBounds_toArray, List.set_cons_zero, List.set_cons_succ]
    refine wpAnyH_take (i := 6) (v := ?_) rfl (by kernel_rfl) (by kernel_rfl) (by kernel_rfl) (fun _ _ _ h => h) (Or.inl ⟨by rfl, ?_⟩) hH ?_
    rotate_left
    · ((intro W hW; clear hW; go_simp) <;> with_reducible rfl)
    simp only [Act.put, List.getElem_toArray, List.getElem_cons_zero, List.getElem_cons_succ, List.setIfInBounds_toArray, List.set_cons_zero, List.set_cons_succ]
    refine wpAnyH_take (i := 7) (v := ?_) rfl (by kernel_rfl) (by kernel_rfl) (by kernel_rfl) (fun _ _ _ h => h) (Or.inl ⟨by rfl, ?_⟩) hH ?_
    rotate_left
    · ((intro W hW; clear hW; go_simp) <;> with_reducible rfl)
    simp only [Act.put, List.getElem_toArray, List.getElem_cons_zero, List.getElem_cons_succ, List.setIfInBounds_toArray, List.set_cons_zero, List.set_cons_succ]
    refine wpAnyH_take (i := 8) (v := ?_) rfl (by kernel_rfl) (by kernel_rfl) (by kernel_rfl) (fun _ _ _ h => h) (Or.inl ⟨by rfl, ?_⟩) hH ?_
    rotate_left
    · ((intro W hW; clear hW; go_simp) <;> with_reducible rfl)
    simp only [Act.put, List.getElem_toArray, List.getElem_cons_zero, List.getElem_cons_succ, List.setIfInBounds_toArray, List.set_cons_zero, List.set_cons_succ]
    refine wpAnyH_take (i := 9) (v := ?_) rfl (by kernel_rfl) (by kernel_rfl) (by kernel_rfl) (fun _ _ _ h => h) (Or.inl ⟨by rfl, ?_⟩) hH ?_
    rotate_left
    · ((intro W hW; have hk := Sle.cellk0 (hW.2.2.2) HY.out _ rfl; clear hW; go_simp) <;> with_reducible rfl)
    simp only [Act.put, List.getElem_toArray, List.getElem_cons_zero, List.getElem_cons_succ, List.setIfInBounds_toArray, List.set_cons_zero, List.set_cons_succ]
    refine wpAnyH_take (i := 10) (v := ?_) rfl (by kernel_rfl) (by kernel_rfl) (by kernel_rfl) (fun _ _ _ h => h) (Or.inl ⟨by rfl, ?_⟩) hH ?_
    rotate_left
    · ((intro W hW; clear hW; go_simp) <;> with_reducible rfl)
    simp only [Act.put, List.getElem_toArray, List.getElem_cons_zero, List.getElem_cons_succ, List.setIfInBounds_toArray, List.set_cons_zero, List.set_cons_succ]
    refine wpAnyH_take (i := 11) (v := ?_) rfl (by kernel_rfl) (by kernel_rfl) (by kernel_rfl) (fun _ _ _ h => h) (Or.inl ⟨by rfl, ?_⟩) hH ?_
    rotate_left
    · ((intro W hW; clear hW; go_simp) <;> with_reducible rfl)
    simp only [Act.put, List.getElem_toArray, List.getElem_cons_zero, List.getElem_cons_succ, List.setIfInBounds_toArray, List.set_cons_zero, List.set_cons_succ]
    refine wpAnyH_take (i := 12) (v := ?_) rfl (by kernel_rfl) (by kernel_rfl) (by kernel_rfl) (fun _ _ _ h => h) (Or.inl ⟨by rfl, ?_⟩) hH ?_
    rotate_left
    · ((intro W hW; clear hW; go_simp) <;> with_reducible rfl)
    simp only [Act.put, List.getElem_toArray, List.getElem_cons_zero, List.getElem_cons_succ, List.setIfInBounds_toArray, List.set_cons_zero, List.set_cons_succ]
    refine wpAnyH_take (i := 13) (v := ?_) rfl (by kernel_rfl) (by kernel_rfl) (by kernel_rfl) (fun _ _ _ h => h) (Or.inl ⟨by rfl, ?_⟩) hH ?_
    rotate_left
    · ((intro W hW; clear hW; go_simp) <;> with_reducible rfl)
    simp only [Act.put, List.getElem_toArray, List.getElem_cons_zero, List.getElem_cons_succ, List.setIfInBounds_toArray, List.set_cons_zero, List.set_cons_succ]
    refine wpAnyH_take (i := 14) (v := ?_) rfl (by kernel_rfl) (by kernel_rfl) (by kernel_rfl) (fun _ _ _ h => h) (Or.inl ⟨by rfl, ?_⟩) hH ?_
    rotate_left
    · ((intro W hW; clear hW; go_simp) <;> with_reducible rfl)
    simp only [Act.put, List.getElem_toArray, List.getElem_cons_zero, List.getElem_cons_succ, List.setIfInBounds_toArray, List.set_cons_zero, List.set_cons_succ]
    refine wpAnyH_take (i := 15) (v := ?_) rfl (by kernel_rfl) (by kernel_rfl) (by kernel_rfl) (fun _ _ _ h => h) (Or.inl ⟨by rfl, ?_⟩) hH ?_
    rotate_left
    · ((intro W hW; clear hW; go_simp) <;> with_reducible rfl)
    simp only [Act.put, List.getElem_toArray, List.getElem_cons_zero, List.getElem_cons_succ, List.setIfInBounds_toArray, List.set_cons_zero, List.set_cons_succ]
    refine wpAnyH_take (i := 16) (v := ?_) rfl (by kernel_rfl) (by kernel_rfl) (by kernel_rfl) (fun _ _ _ h => h) (Or.inl ⟨by rfl, ?_⟩) hH ?_
    rotate_left
    · ((intro W hW; have hk := Sle.cellk (hW.2.2.1) HX.out 1 _ rfl; clear hW; go_simp) <;> with_reducible rfl)
    simp only [Act.put, List.getElem_toArray, List.getElem_cons_zero, List.getElem_cons_succ, List.setIfInBounds_toArray, List.set_cons_zero, List.set_cons_succ]
    refine wpAnyH_take (i := 17) (v := ?_) rfl (by kernel_rfl) (by kernel_rfl) (by kernel_rfl) (fun _ _ _ h => h) (Or.inl ⟨by rfl, ?_⟩) hH ?_
    rotate_left
    · ((intro W hW; have st0 := (hW.1).str (P := Try.prog) 27 5 9 Try.underlying27 Try.underlying5 Try.underlying9; clear hW; go_simp) <;> with_reducible rfl)
    simp only [Act.put, List.getElem_toArray, List.getElem_cons_zero, List.getElem_cons_succ, List.setIfInBounds_toArray, List.set_cons_zero, List.set_cons_succ]
    refine wpAnyH_take (i := 18) (v := ?_) rfl (by kernel_rfl) (by kernel_rfl) (by kernel_rfl) (fun _ _ _ h => h) (Or.inl ⟨by rfl, ?_⟩) hH ?_
    rotate_left
    · ((intro W hW; clear hW; go_simp) <;> with_reducible rfl)
    simp only [Act.put, List.getElem_toArray, List.getElem_cons_zero, List.getElem_cons_succ, List.setIfInBounds_toArray, List.set_cons_zero, List.set_cons_succ]
    refine wpAnyH_take (i := 19) (v := ?_) rfl (by kernel_rfl) (by kernel_rfl) (by kernel_rfl) (fun _ _ _ h => h) (Or.inl ⟨by rfl, ?_⟩) hH ?_
    rotate_left
    · ((intro W hW; clear hW; go_simp) <;> with_reducible rfl)
    simp only [Act.put, List.getElem_toArray, List.getElem_cons_zero, List.getElem_cons_succ, List.setIfInBounds_toArray, List.set_cons_zero, List.set_cons_succ]
    refine wpAnyH_take (i := 20) (v := ?_) rfl (by kernel_rfl) (by kernel_rfl) (by kernel_rfl) (fun _ _ _ h => h) (Or.inl ⟨by rfl, ?_⟩) hH ?_
    rotate_left
    · ((intro W hW; clear hW; go_simp) <;> with_reducible rfl)
    simp only [Act.put, List.getElem_toArray, List.getElem_cons_zero, List.getElem_cons_succ, List.setIfInBounds_toArray, List.set_cons_zero, List.set_cons_succ]
    refine wpAnyH_take (i := 21) (v := ?_) rfl (by kernel_rfl) (by kernel_rfl) (by kernel_rfl) (fun _ _ _ h => h) (Or.inl ⟨by rfl, ?_⟩) hH ?_
    rotate_left
    · ((intro W hW; clear hW; go_simp) <;> with_reducible rfl)
    simp only [Act.put, List.getElem_toArray, List.getElem_cons_zero, List.getElem_cons_succ, List.setIfInBounds_toArray, List.set_cons_zero, List.set_cons_succ]
    refine wpAnyH_take (i := 22) (v := ?_) rfl (by kernel_rfl) (by kernel_rfl) (by kernel_rfl) (fun _ _ _ h => h) (Or.inl ⟨by rfl, ?_⟩) hH ?_
    rotate_left
    · ((intro W hW; have hk := Sle.cellk (hW.2.2.2) HY.out 1 _ rfl; clear hW; go_simp) <;> with_reducible rfl)
    simp only [Act.put, List.getElem_toArray, List.getElem_cons_zero, List.getElem_cons_succ, List.setIfInBounds_toArray, List.set_cons_zero, List.set_cons_succ]
    refine wpAnyH_take (i := 23) (v := ?_) rfl (by kernel_rfl) (by kernel_rfl) (by kernel_rfl) (fun _ _ _ h => h) (Or.inl ⟨by rfl, ?_⟩) hH ?_
    rotate_left
    · ((intro W hW; have st0 := (hW.2.1).str (P := Try.prog) 27 5 9 Try.underlying27 Try.underlying5 Try.underlying9; clear hW; go_simp) <;> with_reducible rfl)
    simp only [Act.put, List.getElem_toArray, List.getElem_cons_zero, List.getElem_cons_succ, List.setIfInBounds_toArray, List.set_cons_zero, List.set_cons_succ]
    refine wpAnyH_take (i := 24) (v := ?_) rfl (by kernel_rfl) (by kernel_rfl) (by kernel_rfl) (fun _ _ _ h => h) (Or.inl ⟨by rfl, ?_⟩) hH ?_
    rotate_left
    · ((intro W hW; clear hW; go_simp) <;> with_reducible rfl)
    simp only [Act.put, List.getElem_toArray, List.getElem_cons_zero, List.getElem_cons_succ, List.setIfInBounds_toArray, List.set_cons_zero, List.set_cons_succ]
    refine wpAnyH_take (i := 25) (v := ?_) rfl (by kernel_rfl) (by kernel_rfl) (by kernel_rfl) (fun _ _ _ h => h) (Or.inl ⟨by rfl, ?_⟩) hH ?_
    rotate_left
    · ((intro W hW; clear hW; go_simp) <;> with_reducible rfl)
    simp only [Act.put, List.getElem_toArray, List.getElem_cons_zero, List.getElem_cons_succ, List.setIfInBounds_toArray, List.set_cons_zero, List.set_cons_succ]
    refine wpAnyH_done (by kernel_rfl) ?_ _
    go_wp2_with fail
    go_roundg (n - (k + 1))
    case measure => have := HGK_.out; omega
    case rel => exact ⟨k + 1, rfl, by omega, by go_num, en, em, bel⟩
theorem same12_any {A C : Option Addr} {n m c d : Nat} {hs hs2 : List Oh} {L : OptL} (w : World) (en : Sle opE 2 w A n c hs) (hbd : Bd w hs L) (em : Sle opE 2 w C m d hs2) (hbd2 : Bd w hs2 L) (hn : n ≤ 100000) : Calls Try.prog 13 #[.slice A n c, .slice C m d] w fun e w' => e = .returned (.bool true) ∧ Below w.heap.size w w' := by
  obtain rfl : n = m := by rw [← en.1, ← em.1, hbd.1, hbd2.1]
  exact same12_n w en hbd em hbd2 hn
theorem get_53 : getS [53, 1, 1, 255] = ([(53, [1])], 0) := gets_ok (by rw [get_one (by decide) (by decide) (by decide)]; exact get_end _ _)
theorem put_53 : putL [(53, [1])] = ([53, 1, 1, 255], 0) := by
  unfold putL allL
  simp only [List.flatMap_cons, List.flatMap_nil, List.append_nil]
  rw [pieces_last (by decide)]
  rfl
theorem find_53 : findL [(53, [1])] 53 = some [1] := rfl
theorem Bd.bl {w : World} {hs : List Oh} {L : OptL} (h : Bd w hs L) : hs.length = L.length := h.1
set_option linter.unusedVariables false in
set_option linter.unusedSimpArgs false in
set_option maxRecDepth 100000 in
set_option maxHeartbeats 16000000 in
theorem awake12_any (w : World) : Calls Try.prog 7 #[] w fun e w' => e = .returned (.bool true) ∧ Below w.heap.size w w' := by
  have bel := Below.refl w.heap.size w
  go_enter Try.func7, Try.ntmps7
  go_wp2_with (first | ((with_reducible show wpList _ _ _ (⟨some 8, _, _, _, _, _⟩ :: _) _ _); refine wpList_lit_n rfl 27 5 4 _ rfl #[.int .u8 53, .int .u8 1, .int .u8 1, .int .u8 255] (.int .u8 0) Try.underlying27 (by kernel_rfl) 1 (by kernel_rfl) (by decide) (by kernel_rfl) ?_; intro g8 w1 ge lt hh bb; have hl : w1.heap[g8]? = some (.cells (([53, 1, 1, 255] : List UInt8).map u8v).toArray 5 (0, 0)) := (by simpa [u8v, byteOf_val] using hh); have bsw := own_lit (B := w.heap.size) ([53, 1, 1, 255]) hl ge 4 rfl (by simp [maxLen]); have bs := (own_sl bsw).1; have bslo := bel.size; clear hl; have bsge := ge; have lz_bs := bb.size; have ob8 := Nat.le_trans bel.size ge; replace bel := bel.trans (bb.mono bel.size); have hb8 := hh; clear hh lt ge bb))
  with_reducible refine (oget_any _ bs (by omega)).mono ?_
  rintro e w2 ⟨A1, n1, c1, hs, rfl, ⟨en, hbd⟩, hn, hb, b2⟩
  replace hb8 := blk_u hb8 b2
  replace bs := bs.below b2
  replace bsw := own_under bsw b2
  replace lz_bs := Nat.le_trans lz_bs b2.size
  replace bel := bel.trans (b2.mono bel.size)
  clear b2
  replace en : Sle opE 2 w2 (A1) (n1) (c1) (hs) := en
  rw [get_53] at hbd
  rw [get_53]
  obtain rfl : n1 = 1 := by rw [← en.1, hbd.1]; rfl
  go_wp2_with fail
  with_reducible refine (oput_any _ en hbd hn hb).mono ?_
  rintro e w3 ⟨A3, n3, c3, rfl, pb, b3⟩
  replace hb8 := blk_u hb8 b3
  replace bs := bs.below b3
  replace bsw := own_under bsw b3
  replace en := en.below b3
  replace lz_bs := Nat.le_trans lz_bs b3.size
  replace hbd := hbd.below b3
  replace bel := bel.trans (b3.mono bel.size)
  clear b3
  replace pb : Sl w3 (A3) (n3) (c3) ((putL [(53, [1])]).1) := pb
  rw [put_53] at pb
  rw [put_53]
  go_wp2_with fail
  with_reducible refine (ofind_any _ en hbd hn hb).mono ?_
  rintro e w4 ⟨A5, n5, c5, rfl, xb, b4⟩
  replace hb8 := blk_u hb8 b4
  replace bs := bs.below b4
  replace bsw := own_under bsw b4
  replace en := en.below b4
  replace pb := pb.below b4
  replace lz_bs := Nat.le_trans lz_bs b4.size
  replace hbd := hbd.below b4
  replace bel := bel.trans (b4.mono bel.size)
  clear b4
  replace xb : Sl w4 (A5) (n5) (c5) ((findL [(53, [1])] 53).getD []) := xb
  rw [find_53] at xb
  rw [find_53]
  obtain rfl : n5 = 1 := xb.1.symm
  have st35 := pb.str (P := Try.prog) 27 5 9 Try.underlying27 Try.underlying5 Try.underlying9
  go_wp2_with fail
  clear st35
  go_ret
  exact ⟨rfl, bel⟩
end Go.Proofs.Ytmbkjkcehodghaa
