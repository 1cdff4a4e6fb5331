/- name's Get. -/
import Derived.Test.YtholgadifhjmgaaDoorDn4
namespace Go.Proofs.YtholgadifhjmgaaDoor
open Go.RowKit

def getI (k : Nat) (b : List UInt8) (a : Int) (nx p : Nat) (ls : List (List UInt8)) (sz : Nat) : List (List UInt8) × Nat × Nat := if a < 0 then ([], 0, 3) else getF k b a.toNat nx p ls sz
theorem getI_nat (k : Nat) (b : List UInt8) (i nx p : Nat) (ls : List (List UInt8)) (sz : Nat) : getI k b (i : Int) nx p ls sz = getF k b i nx p ls sz := by unfold getI; rw [if_neg (by omega), Int.toNat_natCast]
theorem getI_neg {k : Nat} {b : List UInt8} {a : Int} {nx p : Nat} {ls : List (List UInt8)} {sz : Nat} (h : a < 0) : getI k b a nx p ls sz = ([], 0, 3) := if_pos h
theorem getN_I (b : List UInt8) (a : Int) : getI 400 b a 0 0 [] 1 = getN b a := rfl
set_option linter.unusedVariables false in
set_option linter.unusedSimpArgs false in
set_option maxRecDepth 100000 in
set_option maxHeartbeats 16000000 in
theorem nget_any (A : Option Addr) (n c : Nat) (b : List UInt8) (a0 : Int) (w : World) (sb : Sl w A n c b) (hnb : n ≤ 100000) : Calls Tryd.prog 11 #[.slice A n c, .int .i64 a0] w fun e w' => ∃ v, e = .returned (.tuple #[v, .int .i64 ((getN b a0).2.1 : Int), .int .i64 ((getN b a0).2.2 : Int)]) ∧ w'.ownsRow w.heap.size 9 1 v (getN b a0).1.length ((getN b a0).1.flatMap stf) ∧ Below w.heap.size w w' := by
  have sb0 := sb
  have HBL := Lib.hid sb.1
  have bel := Below.refl w.heap.size w
  go_enter Tryd.func11, Tryd.ntmps11
  go_wp2_with (first | ((with_reducible show wpList _ _ _ (⟨some 7, _, _, _, _, _⟩ :: _) _ _); refine wpList_new_a rfl 44 rfl #[.slice none 0 0, .int .i64 0, .int .i64 0, .int .i64 0, .slice none 0 0, .int .i64 0] (by kernel_rfl) ?_; intro g7 w1 ge hh bb; have av_sb_wk := sb.av_new ge; have owk := Nat.le_trans bel.size ge; replace sb := sb.below bb; replace bel := bel.trans (bb.mono bel.size); have hwk := hh; clear hh ge bb) | ((with_reducible show wpList _ _ _ (⟨none, Op.store _ (.tmp 7) _, _, _, _, _⟩ :: _) _ _); refine wpList_store_blk rfl 44 (.tmp 7) (.tmp 12) rfl g7 rfl _ rfl _ 44 hwk (by rfl) (by kernel_rfl) (by kernel_rfl) ?_; intro w2 hq gr; replace sb := sb.away av_sb_wk gr; replace bel := below_grown bel gr owk bel.size; clear hwk; have hwk := hq; clear hq gr))
  simp only [Act.put, List.setIfInBounds_toArray, List.set_cons_zero, List.set_cons_succ]
  have hT : Wk w.heap.size g7 A n c b a0 0 0 [] 1 w2 := ⟨0, none, 0, hwk, World.ownsRow_nil _ _ _ _, owk, sb, sb0.bl_new⟩
  clear hwk sb
  go_wp2_with fail
  go_loopg [] (400) (fun gk  wr => ∃ k : Nat, ∃ a : Int, ∃ af : Int, ∃ nx : Nat, ∃ p : Nat, ∃ ls : List (List UInt8), ∃ sz : Nat, gk = k ∧ Hid (getI k b a nx p ls sz = getN b a0) ∧ 400 ≤ k + sz + p ∧ sz ≤ 255 ∧ p ≤ 64 ∧ ls.length ≤ sz ∧ Hid (p ≠ 0 → af = (nx : Int)) ∧ Wk w.heap.size g7 A n c b a af p ls sz wr ∧ Below w.heap.size w wr)
  case atStart => exact ⟨400, a0, 0, 0, 0, [], 1, rfl, Lib.hid (getN_I b a0), by omega, by omega, by omega, by simp, Lib.hid (fun h_ => absurd rfl h_), hT, bel⟩
  case round =>
    clear hT bel
    obtain ⟨k, a, af, nx, p, ls, sz, HGK, HS, hk, hsz, hp, hls, HNX, hT, bel⟩ := hrel
    have HGK_ := Lib.hid HGK
    clear HGK
    obtain ⟨k, rfl⟩ : ∃ k2, k = k2 + 1 := ⟨k - 1, by omega⟩
    by_cases ha : a < 0
    · have HR : Hid (getN b a0 = ([], 0, 3)) := Lib.hid (HS.out.symm.trans (getI_neg ha))
      go_wp2_with fail
      with_reducible refine (wstep_neg _ hT bel.size ha).mono ?_
      rintro e w3 ⟨rfl, b3⟩
      replace bel := bel.trans b3
      clear b3 hT
      go_wp2_with fail
      exact bodyPost_ret (v := .tuple #[.slice none 0 0, .int .i64 0, .int .i64 3]) (by simp [results, Tryd.results11, go_sem]) rfl ⟨_, by rw [HR.out]; rfl, by rw [HR.out]; exact owk_nil _ _ _, bel⟩
    obtain ⟨i, rfl⟩ : ∃ i : Nat, a = (i : Int) := ⟨a.toNat, by omega⟩
    have i0 : (0 : Int) ≤ i := by omega
    by_cases hin : i < n
    rotate_left
    · have HR : Hid (getN b a0 = ([], 0, 3)) := Lib.hid (HS.out.symm.trans ((getI_nat _ _ _ _ _ _ _).trans (getF_out (by rw [HBL.out]; omega))))
      go_wp2_with fail
      with_reducible refine (wstep_out _ hT bel.size i0 (by omega)).mono ?_
      rintro e w3 ⟨rfl, b3⟩
      replace bel := bel.trans b3
      clear b3 hT
      go_wp2_with fail
      exact bodyPost_ret (v := .tuple #[.slice none 0 0, .int .i64 0, .int .i64 3]) (by simp [results, Tryd.results11, go_sem]) rfl ⟨_, by rw [HR.out]; rfl, by rw [HR.out]; exact owk_nil _ _ _, bel⟩
    obtain ⟨cc, HCC_⟩ : ∃ u_, b[i]? = some u_ := ⟨_, List.getElem?_eq_getElem (by rw [HBL.out]; exact hin)⟩
    have HCC := Lib.hid HCC_
    clear HCC_
    obtain ⟨kc, HKC_⟩ : ∃ u_, cc.toNat = u_ := ⟨_, rfl⟩
    have HKC := Lib.hid HKC_
    clear HKC_
    have HX : Hid ((cc.toNat : Int) = (kc : Int)) := Lib.hid (by rw [HKC.out])
    have kc0 : (0 : Int) ≤ kc := by omega
    by_cases hz : (kc : Int) = 0
    · obtain ⟨af2, HAF_⟩ : ∃ u_, (if p = 0 then (i : Int) + 1 else af) = u_ := ⟨_, rfl⟩
      have HAF := Lib.hid HAF_
      clear HAF_
      have HR : Hid (getN b a0 = (ls, (if p = 0 then i + 1 else nx), 0)) := Lib.hid (HS.out.symm.trans ((getI_nat _ _ _ _ _ _ _).trans (getF_end HCC.out (by rw [HKC.out]; omega))))
      have HAN : Hid (af2 = ((if p = 0 then i + 1 else nx : Nat) : Int)) := Lib.hid (by rw [← HAF.out]; by_cases h_ : p = 0; rw [if_pos h_, if_pos h_]; rfl; rw [if_neg h_, if_neg h_]; exact HNX.out h_)
      go_wp2_with fail
      with_reducible refine (wstep_end _ cc (kc : Int) HX.out hT bel.size HCC.out hin hnb af2 hz HAF.out).mono ?_
      rintro e w3 ⟨rfl, hT_, b3⟩
      replace bel := bel.trans b3
      clear b3 hT
      have hT := hT_
      clear hT_
      obtain ⟨m, L, cl, hwk, rlw, owk, sb2, BLB⟩ := hT
      go_wp2_with fail
      replace bel := bel.drew
      replace hwk : w3.drew.heap[g7]? = _ := hwk
      replace rlw := World.ownsRow.drew rlw
      refine wp_region_held_drew (S := fun W => W.heap[g7]? = some (.cells #[.slice A n c, .int .i64 ((i : Int) + 1), .int .i64 af2, .int .i64 (p : Int), .slice L m cl, .int .i64 (sz : Int)] 44 (0, 0))) (by kernel_rfl) hwk (fun hH => ?_)
      generalize w3.drew = w4 at bel hwk rlw hH ⊢
      refine wpAnyH_take (i := 0) (v := ?_) rfl (by kernel_rfl) (by kernel_rfl) (by kernel_rfl) (fun _ _ _ h => h) (Or.inl ⟨by rfl, ?_⟩) hH ?_
      rotate_left
      · ((intro W hW; clear hW; go_simp) <;> with_reducible rfl)
      simp only [Act.put, List.getElem_toArray, List.getElem_cons_zero, List.setIfInBounds_toArray, List.set_cons_zero, List.set_cons_succ]
      refine wpAnyH_take (i := 1) (v := ?_) rfl (by kernel_rfl) (by kernel_rfl) (by kernel_rfl) (fun _ _ _ h => h) (Or.inl ⟨by rfl, ?_⟩) hH ?_
      rotate_left
      · ((intro W hW; have hk := cell_lit (hW) 4 _ rfl; clear hW; go_simp) <;> with_reducible rfl)
      simp only [Act.put, List.getElem_toArray, List.getElem_cons_zero, List.getElem_cons_succ, List.setIfInBounds_toArray, List.set_cons_zero, List.set_cons_succ]
      refine wpAnyH_take (i := 2) (v := ?_) rfl (by kernel_rfl) (by kernel_rfl) (by kernel_rfl) (fun _ _ _ h => h) (Or.inl ⟨by rfl, ?_⟩) hH ?_
      rotate_left
      · ((intro W hW; clear hW; go_simp) <;> with_reducible rfl)
      simp only [Act.put, List.getElem_toArray, List.getElem_cons_zero, List.getElem_cons_succ, List.setIfInBounds_toArray, List.set_cons_zero, List.set_cons_succ]
      refine wpAnyH_take (i := 3) (v := ?_) rfl (by kernel_rfl) (by kernel_rfl) (by kernel_rfl) (fun _ _ _ h => h) (Or.inl ⟨by rfl, ?_⟩) hH ?_
      rotate_left
      · ((intro W hW; have hk := cell_lit (hW) 2 _ rfl; clear hW; go_simp) <;> with_reducible rfl)
      simp only [Act.put, List.getElem_toArray, List.getElem_cons_zero, List.getElem_cons_succ, List.setIfInBounds_toArray, List.set_cons_zero, List.set_cons_succ]
      refine wpAnyH_take (i := 4) (v := ?_) rfl (by kernel_rfl) (by kernel_rfl) (by kernel_rfl) (fun _ _ _ h => h) (Or.inl ⟨by rfl, ?_⟩) hH ?_
      rotate_left
      · ((intro W hW; clear hW; go_simp) <;> with_reducible rfl)
      simp only [Act.put, List.getElem_toArray, List.getElem_cons_zero, List.getElem_cons_succ, List.setIfInBounds_toArray, List.set_cons_zero, List.set_cons_succ]
      refine wpAnyH_take (i := 5) (v := ?_) rfl (by kernel_rfl) (by kernel_rfl) (by kernel_rfl) (fun _ _ _ h => h) (Or.inl ⟨by rfl, ?_⟩) hH ?_
      rotate_left
      · ((intro W hW; clear hW; go_simp) <;> with_reducible rfl)
      simp only [Act.put, List.getElem_toArray, List.getElem_cons_zero, List.getElem_cons_succ, List.setIfInBounds_toArray, List.set_cons_zero, List.set_cons_succ]
      refine wpAnyH_take (i := 6) (v := ?_) rfl (by kernel_rfl) (by kernel_rfl) (by kernel_rfl) (fun _ _ _ h => h) (Or.inl ⟨by rfl, ?_⟩) hH ?_
      rotate_left
      · ((intro W hW; clear hW; go_simp) <;> with_reducible rfl)
      simp only [Act.put, List.getElem_toArray, List.getElem_cons_zero, List.getElem_cons_succ, List.setIfInBounds_toArray, List.set_cons_zero, List.set_cons_succ]
      refine wpAnyH_done (by kernel_rfl) ?_ _
      go_wp2_with fail
      exact bodyPost_ret (v := .tuple #[.slice L m cl, .int .i64 af2, .int .i64 0]) (by simp [results, Tryd.results11, go_sem]) rfl ⟨_, by rw [HR.out, HAN.out]; rfl, by rw [HR.out]; exact owk_to rlw (owk_sle (by decide) stf_len rlw).1.1.symm rfl, bel⟩
    by_cases h1 : (kc : Int) ≤ 63
    · by_cases h2 : (i : Int) + (1 + (kc : Int)) ≤ n
      rotate_left
      · have HR : Hid (getN b a0 = ([], 0, 3)) := Lib.hid (HS.out.symm.trans ((getI_nat _ _ _ _ _ _ _).trans (getF_cut HCC.out (by rw [HKC.out]; omega) (by rw [HKC.out]; omega) (by rw [HKC.out, HBL.out]; omega))))
        go_wp2_with fail
        with_reducible refine (wstep_cut _ cc (kc : Int) HX.out hT bel.size HCC.out hin hnb hz h1 kc0 (by omega)).mono ?_
        rintro e w3 ⟨rfl, b3⟩
        replace bel := bel.trans b3
        clear b3 hT
        go_wp2_with fail
        exact bodyPost_ret (v := .tuple #[.slice none 0 0, .int .i64 0, .int .i64 3]) (by simp [results, Tryd.results11, go_sem]) rfl ⟨_, by rw [HR.out]; rfl, by rw [HR.out]; exact owk_nil _ _ _, bel⟩
      by_cases h3 : (sz : Int) + (1 + (kc : Int)) ≤ 255
      rotate_left
      · have HR : Hid (getN b a0 = ([], 0, 4)) := Lib.hid (HS.out.symm.trans ((getI_nat _ _ _ _ _ _ _).trans (getF_long HCC.out (by rw [HKC.out]; omega) (by rw [HKC.out]; omega) (by rw [HKC.out, HBL.out]; omega) (by rw [HKC.out]; omega))))
        go_wp2_with fail
        with_reducible refine (wstep_long _ cc (kc : Int) HX.out hT bel.size HCC.out hin hnb hz h1 kc0 h2 (by omega) hsz).mono ?_
        rintro e w3 ⟨rfl, b3⟩
        replace bel := bel.trans b3
        clear b3 hT
        go_wp2_with fail
        exact bodyPost_ret (v := .tuple #[.slice none 0 0, .int .i64 0, .int .i64 4]) (by simp [results, Tryd.results11, go_sem]) rfl ⟨_, by rw [HR.out]; rfl, by rw [HR.out]; exact owk_nil _ _ _, bel⟩
      obtain ⟨af2, HAF_⟩ : ∃ u_, (if p = 0 then (i : Int) + (1 + (kc : Int)) else af) = u_ := ⟨_, rfl⟩
      have HAF := Lib.hid HAF_
      clear HAF_
      go_wp2_with fail
      with_reducible refine (wstep_label _ cc (kc : Int) HX.out hT bel.size HCC.out hin hnb af2 hz h1 (by omega) (by omega) (by omega) (by omega) HAF.out).mono ?_
      rintro e w3 ⟨rfl, hT_, b3⟩
      replace bel := bel.trans b3
      clear b3 hT
      have hT := hT_
      clear hT_
      go_wp2_with fail
      go_roundg (k)
      case measure => have := HGK_.out; omega
      case rel => exact ⟨k, (i : Int) + (1 + (kc : Int)), af2, nx, p, ls ++ [(b.drop (i + 1)).take (kc : Int).toNat], sz + (1 + (kc : Int).toNat), rfl, Lib.hid (by rw [← HS.out, getI_nat, getF_label HCC.out (by rw [HKC.out]; omega) (by rw [HKC.out]; omega) (by rw [HKC.out, HBL.out]; omega) (by rw [HKC.out]; omega), HKC.out, Int.toNat_natCast, show (i : Int) + (1 + (kc : Int)) = ((i + (1 + kc) : Nat) : Int) by omega, getI_nat]), by rw [Int.toNat_natCast]; omega, by rw [Int.toNat_natCast]; omega, hp, by rw [List.length_append, Int.toNat_natCast, List.length_singleton]; omega, Lib.hid (fun h_ => by rw [← HAF.out, if_neg h_]; exact HNX.out h_), hT, bel⟩
    by_cases h192 : 192 ≤ (kc : Int)
    rotate_left
    · have HR : Hid (getN b a0 = ([], 0, 4)) := Lib.hid (HS.out.symm.trans ((getI_nat _ _ _ _ _ _ _).trans (getF_form HCC.out (by rw [HKC.out]; omega) (by rw [HKC.out]; omega))))
      go_wp2_with fail
      with_reducible refine (wstep_form _ cc (kc : Int) HX.out hT bel.size HCC.out hin hnb hz (by omega) (by omega)).mono ?_
      rintro e w3 ⟨rfl, b3⟩
      replace bel := bel.trans b3
      clear b3 hT
      go_wp2_with fail
      exact bodyPost_ret (v := .tuple #[.slice none 0 0, .int .i64 0, .int .i64 4]) (by simp [results, Tryd.results11, go_sem]) rfl ⟨_, by rw [HR.out]; rfl, by rw [HR.out]; exact owk_nil _ _ _, bel⟩
    by_cases hd : i + 1 < n
    rotate_left
    · have HR : Hid (getN b a0 = ([], 0, 3)) := Lib.hid (HS.out.symm.trans ((getI_nat _ _ _ _ _ _ _).trans (getF_half HCC.out (by rw [HKC.out]; omega) (by rw [HBL.out]; omega))))
      go_wp2_with fail
      with_reducible refine (wstep_half _ cc (kc : Int) HX.out hT bel.size HCC.out hin hnb h192 (by omega)).mono ?_
      rintro e w3 ⟨rfl, b3⟩
      replace bel := bel.trans b3
      clear b3 hT
      go_wp2_with fail
      exact bodyPost_ret (v := .tuple #[.slice none 0 0, .int .i64 0, .int .i64 3]) (by simp [results, Tryd.results11, go_sem]) rfl ⟨_, by rw [HR.out]; rfl, by rw [HR.out]; exact owk_nil _ _ _, bel⟩
    obtain ⟨d, HD_⟩ : ∃ u_, b[i + 1]? = some u_ := ⟨_, List.getElem?_eq_getElem (by rw [HBL.out]; exact hd)⟩
    have HD := Lib.hid HD_
    clear HD_
    by_cases hlt : (leadTo cc d : Int) < i
    rotate_left
    · have HR : Hid (getN b a0 = ([], 0, 4)) := Lib.hid (HS.out.symm.trans ((getI_nat _ _ _ _ _ _ _).trans (getF_bad HCC.out (by rw [HKC.out]; omega) HD.out (by omega))))
      go_wp2_with fail
      with_reducible refine (wstep_far _ cc (kc : Int) HX.out hT bel.size HCC.out hin hnb h192 d HD.out (by omega)).mono ?_
      rintro e w3 ⟨rfl, b3⟩
      replace bel := bel.trans b3
      clear b3 hT
      go_wp2_with fail
      exact bodyPost_ret (v := .tuple #[.slice none 0 0, .int .i64 0, .int .i64 4]) (by simp [results, Tryd.results11, go_sem]) rfl ⟨_, by rw [HR.out]; rfl, by rw [HR.out]; exact owk_nil _ _ _, bel⟩
    by_cases hp64 : p < 64
    rotate_left
    · have HR : Hid (getN b a0 = ([], 0, 4)) := Lib.hid (HS.out.symm.trans ((getI_nat _ _ _ _ _ _ _).trans (getF_bad HCC.out (by rw [HKC.out]; omega) HD.out (by omega))))
      go_wp2_with fail
      with_reducible refine (wstep_many _ cc (kc : Int) HX.out hT bel.size HCC.out hin hnb h192 d HD.out hlt (by omega)).mono ?_
      rintro e w3 ⟨rfl, b3⟩
      replace bel := bel.trans b3
      clear b3 hT
      go_wp2_with fail
      exact bodyPost_ret (v := .tuple #[.slice none 0 0, .int .i64 0, .int .i64 4]) (by simp [results, Tryd.results11, go_sem]) rfl ⟨_, by rw [HR.out]; rfl, by rw [HR.out]; exact owk_nil _ _ _, bel⟩
    obtain ⟨af2, HAF_⟩ : ∃ u_, (if p = 0 then (i : Int) + 2 else af) = u_ := ⟨_, rfl⟩
    have HAF := Lib.hid HAF_
    clear HAF_
    obtain ⟨nx2, HN2_⟩ : ∃ u_, (if p = 0 then i + 2 else nx) = u_ := ⟨_, rfl⟩
    have HN2 := Lib.hid HN2_
    clear HN2_
    go_wp2_with fail
    with_reducible refine (wstep_lead _ cc (kc : Int) HX.out hT bel.size HCC.out hin hnb af2 h192 d HD.out hlt hp64 HAF.out).mono ?_
    rintro e w3 ⟨rfl, hT_, b3⟩
    replace bel := bel.trans b3
    clear b3 hT
    have hT := hT_
    clear hT_
    go_wp2_with fail
    go_roundg (k)
    case measure => have := HGK_.out; omega
    case rel => exact ⟨k, (leadTo cc d : Int), af2, nx2, p + 1, ls, sz, rfl, Lib.hid (by rw [← HS.out, getI_nat, getI_nat, getF_lead HCC.out (by rw [HKC.out]; omega) HD.out (by omega), HN2.out]), by omega, hsz, by omega, hls, Lib.hid (fun _ => by rw [← HAF.out, ← HN2.out]; by_cases h_ : p = 0; rw [if_pos h_, if_pos h_]; rfl; rw [if_neg h_, if_neg h_]; exact HNX.out h_), hT, bel⟩
end Go.Proofs.YtholgadifhjmgaaDoor
