/- name's lower, plain, sameLabel, Same, Good; what the document tells of them. -/
import Derived.Test.YtholgadifhjmgaaDoorDn0
import Derived.Test.YtholgadifhjmgaaDoorStr
import Derived.Test.YtholgadifhjmgaaDoorOrz
import Derived.Deep.LoopGhost
import Derived.Deep.RegionHeld
import Derived.Deep.CutRange
namespace Go.Proofs.YtholgadifhjmgaaDoor
open Go.RowKit

set_option linter.unusedVariables false in
set_option linter.unusedSimpArgs false in
set_option maxRecDepth 100000 in
set_option maxHeartbeats 16000000 in
theorem nlow_any (c : UInt8) (w : World) : Calls Tryd.prog 41 #[.int .u8 (c.toNat : Int)] w fun e w' => e = .returned (.int .u8 ((lowB c).toNat : Int)) ∧ w = w' := by
  obtain ⟨x, hx⟩ : ∃ x : Int, (c.toNat : Int) = x := ⟨_, rfl⟩
  have hc := c.toNat_lt
  have x0 : 0 ≤ x := by omega
  have x1 : x < 256 := by omega
  rw [hx]
  have HX := Lib.hid hx
  clear hc hx
  have bel := Below.refl w.heap.size w
  go_enter Tryd.func41, Tryd.ntmps41
  by_cases h0 : 65 ≤ x
  rotate_left
  · have HP : Hid (((lowB c).toNat : Int) = x) := Lib.hid (by have h := HX.out; unfold lowB; rw [if_neg (by omega)]; exact h)
    have h2 : decide (65 ≤ x) = false := decide_eq_false h0
    clear h0
    go_wp2_with fail
    go_ret
    exact ⟨by rw [HP.out]; rfl, rfl⟩
  by_cases h1 : x ≤ 90
  · have HP : Hid (((lowB c).toNat : Int) = x + 32) := Lib.hid (by have h := HX.out; unfold lowB; rw [if_pos (by omega), byteOf_val]; omega)
    have e1 : x - 65 + 97 = x + 32 := by omega
    go_wp2_with fail
    go_ret
    exact ⟨by rw [HP.out]; rfl, rfl⟩
  have HP : Hid (((lowB c).toNat : Int) = x) := Lib.hid (by have h := HX.out; unfold lowB; rw [if_neg (by omega)]; exact h)
  have h2 : decide (x ≤ 90) = false := decide_eq_false h1
  clear h1
  go_wp2_with fail
  go_ret
  exact ⟨by rw [HP.out]; rfl, rfl⟩
set_option linter.unusedVariables false in
set_option linter.unusedSimpArgs false in
set_option maxRecDepth 100000 in
set_option maxHeartbeats 16000000 in
theorem rlow_any (c : UInt8) (w : World) : Calls Tryd.prog 32 #[.int .u8 (c.toNat : Int)] w fun e w' => e = .returned (.int .u8 ((lowB c).toNat : Int)) ∧ w = w' := by
  obtain ⟨x, hx⟩ : ∃ x : Int, (c.toNat : Int) = x := ⟨_, rfl⟩
  have hc := c.toNat_lt
  have x0 : 0 ≤ x := by omega
  have x1 : x < 256 := by omega
  rw [hx]
  have HX := Lib.hid hx
  clear hc hx
  have bel := Below.refl w.heap.size w
  go_enter Tryd.func32, Tryd.ntmps32
  by_cases h0 : 65 ≤ x
  rotate_left
  · have HP : Hid (((lowB c).toNat : Int) = x) := Lib.hid (by have h := HX.out; unfold lowB; rw [if_neg (by omega)]; exact h)
    have h2 : decide (65 ≤ x) = false := decide_eq_false h0
    clear h0
    go_wp2_with fail
    go_ret
    exact ⟨by rw [HP.out]; rfl, rfl⟩
  by_cases h1 : x ≤ 90
  · have HP : Hid (((lowB c).toNat : Int) = x + 32) := Lib.hid (by have h := HX.out; unfold lowB; rw [if_pos (by omega), byteOf_val]; omega)
    have e1 : x - 65 + 97 = x + 32 := by omega
    go_wp2_with fail
    go_ret
    exact ⟨by rw [HP.out]; rfl, rfl⟩
  have HP : Hid (((lowB c).toNat : Int) = x) := Lib.hid (by have h := HX.out; unfold lowB; rw [if_neg (by omega)]; exact h)
  have h2 : decide (x ≤ 90) = false := decide_eq_false h1
  clear h1
  go_wp2_with fail
  go_ret
  exact ⟨by rw [HP.out]; rfl, rfl⟩
set_option linter.unusedVariables false in
set_option linter.unusedSimpArgs false in
set_option maxRecDepth 100000 in
set_option maxHeartbeats 16000000 in
theorem nplain_any (c : UInt8) (w : World) : Calls Tryd.prog 40 #[.int .u8 (c.toNat : Int)] w fun e w' => e = .returned (.bool (plainB c)) ∧ w = w' := by
  obtain ⟨x, hx⟩ : ∃ x : Int, (c.toNat : Int) = x := ⟨_, rfl⟩
  have hc := c.toNat_lt
  have x0 : 0 ≤ x := by omega
  have x1 : x < 256 := by omega
  rw [hx]
  have HX := Lib.hid hx
  clear hc hx
  have bel := Below.refl w.heap.size w
  go_enter Tryd.func40, Tryd.ntmps40
  by_cases h0 : 33 ≤ x
  rotate_left
  · have HP : Hid (plainB c = false) := Lib.hid (by have h := HX.out; unfold plainB; exact decide_eq_false (by omega))
    have h2 : decide (33 ≤ x) = false := decide_eq_false h0
    clear h0
    go_wp2_with fail
    go_ret
    exact ⟨by rw [HP.out]; rfl, rfl⟩
  by_cases h1 : x ≤ 126
  rotate_left
  · have HP : Hid (plainB c = false) := Lib.hid (by have h := HX.out; unfold plainB; exact decide_eq_false (by omega))
    have h2 : decide (x ≤ 126) = false := decide_eq_false h1
    clear h1
    go_wp2_with fail
    go_ret
    exact ⟨by rw [HP.out]; rfl, rfl⟩
  by_cases h2 : x = 46
  · have HP : Hid (plainB c = false) := Lib.hid (by have h := HX.out; unfold plainB; exact decide_eq_false (by omega))
    have e2 : (x != 46) = false := by simp [h2]
    clear h2
    go_wp2_with fail
    go_ret
    exact ⟨by rw [HP.out]; rfl, rfl⟩
  have e2 : (x != 46) = true := by simpa using h2
  have H2 := Lib.hid h2
  clear h2
  by_cases h3 : x = 92
  · have HP : Hid (plainB c = false) := Lib.hid (by have h := HX.out; unfold plainB; exact decide_eq_false (by omega))
    have e3 : (x != 92) = false := by simp [h3]
    clear h3
    go_wp2_with fail
    go_ret
    exact ⟨by rw [HP.out]; rfl, rfl⟩
  have e3 : (x != 92) = true := by simpa using h3
  have HP : Hid (plainB c = true) := Lib.hid (by have h := HX.out; have h2 := H2.out; unfold plainB; exact decide_eq_true (by omega))
  clear h3
  go_wp2_with fail
  go_ret
  exact ⟨by rw [HP.out]; rfl, rfl⟩
theorem st_lenN {l : List UInt8} {n : Nat} (h : l.length = n) (ty : TypeId) (W : World) : (Builtin.len_ #[9] ty #[.string ⟨l.toArray⟩]).run Tryd.prog W = .ok (.int .i64 (n : Int)) W := by rw [st_len, h]
set_option linter.unusedVariables false in
set_option linter.unusedSimpArgs false in
set_option maxRecDepth 100000 in
set_option maxHeartbeats 16000000 in
theorem nsame_any (x y : List UInt8) (w : World) (hx : x.length ≤ 100000) : Calls Tryd.prog 31 #[.string ⟨x.toArray⟩, .string ⟨y.toArray⟩] w fun e w' => e = .returned (.bool (sameL x y)) ∧ Below w.heap.size w w' := by
  obtain ⟨nx, HX_⟩ : ∃ b, x.length = b := ⟨_, rfl⟩
  have HX := Lib.hid HX_
  clear HX_
  obtain ⟨ny, HY_⟩ : ∃ b, y.length = b := ⟨_, rfl⟩
  have HY := Lib.hid HY_
  clear HY_
  have hb : (nx : Int) ≤ 100000 := by have := HX.out; omega
  have bel := Below.refl w.heap.size w
  go_enter Tryd.func31, Tryd.ntmps31
  by_cases hne : nx = ny
  rotate_left
  · have HF : Hid (sameL x y = false) := Lib.hid (decide_eq_false (ne_len (by rw [List.length_map, List.length_map, HX.out, HY.out]; exact hne)))
    have t0 : (nx == ny) = false := by simpa using hne
    have t1 : (nx != ny) = true := by simpa using hne
    clear hne
    have R7 := fun W => st_lenN HX.out 3 W
    have R9 := fun W => st_lenN HY.out 3 W
    go_wp2_with fail
    clear R7 R9
    go_ret
    exact ⟨by rw [HF.out]; rfl, bel⟩
  subst hne
  have R7 := fun W => st_lenN HX.out 3 W
  have R9 := fun W => st_lenN HY.out 3 W
  have R12 := fun W => st_lenN HX.out 3 W
  go_wp2_with fail
  clear R7 R9 R12
  go_loopg [13] (nx) (fun gk s13 wr => ∃ i : Nat, gk = nx - i ∧ i ≤ nx ∧ Hid ((x.map lowB).take i = (y.map lowB).take i) ∧ s13 = .int .i64 (i : Int) ∧ Below w.heap.size w wr)
  case atStart => exact ⟨0, Nat.sub_zero _, Nat.zero_le _, Lib.hid rfl, rfl, bel⟩
  case round =>
    clear bel
    obtain ⟨i, HGK, hi, HE, rfl, bel⟩ := hrel
    have HGK_ := Lib.hid HGK
    clear HGK
    have i0 : (0 : Int) ≤ i := by omega
    by_cases h : i < nx
    rotate_left
    · obtain rfl : i = nx := by omega
      have HF : Hid (sameL x y = true) := Lib.hid (decide_eq_true (eq_end HE.out (by rw [List.length_map, HX.out]; exact Nat.le_refl _) (by rw [List.length_map, HY.out]; exact Nat.le_refl _)))
      replace h : decide (i < i) = false := decide_eq_false (by omega)
      go_wp2_with fail
      go_ret
      exact ⟨by rw [HF.out]; rfl, bel⟩
    obtain ⟨cx, HCX_⟩ : ∃ u_, x[i]? = some u_ := ⟨_, List.getElem?_eq_getElem (by rw [HX.out]; exact h)⟩
    have HCX := Lib.hid HCX_
    clear HCX_
    obtain ⟨cy, HCY_⟩ : ∃ u_, y[i]? = some u_ := ⟨_, List.getElem?_eq_getElem (by rw [HY.out]; exact h)⟩
    have HCY := Lib.hid HCY_
    clear HCY_
    obtain ⟨p, HP_⟩ : ∃ b, ((lowB cx).toNat : Int) = b := ⟨_, rfl⟩
    have HP := Lib.hid HP_
    clear HP_
    obtain ⟨q, HQ_⟩ : ∃ b, ((lowB cy).toNat : Int) = b := ⟨_, rfl⟩
    have HQ := Lib.hid HQ_
    clear HQ_
    have R18 := fun W => st_index HCX.out W
    have R22 := fun W => st_index HCY.out W
    by_cases hpq : p = q
    · subst hpq
      have HE2 : Hid ((x.map lowB).take (i + 1) = (y.map lowB).take (i + 1)) := Lib.hid (eq_next HE.out (by rw [map_at HCX.out, map_at HCY.out, UInt8.toNat_inj.1 (Int.ofNat.inj (HP.out.trans HQ.out.symm))]))
      go_wp2_with fail
      replace bel := bel.drew
      refine wp_region_held_drew (S := fun _ => True) (by kernel_rfl) trivial (fun hH => ?_)
      generalize wr.drew = w1 at bel hH ⊢
      refine wpAnyH_take (i := 0) (v := ?_) rfl (by kernel_rfl) (by kernel_rfl) (by kernel_rfl) (fun _ _ _ h => h) (Or.inl ⟨by rfl, ?_⟩) hH ?_
      rotate_left
      · ((intro W hW; clear hW; go_simp) <;> with_reducible rfl)
      simp only [Act.put, List.getElem_toArray, List.getElem_cons_zero, List.setIfInBounds_toArray, List.set_cons_zero, List.set_cons_succ]
      refine wpAnyH_take (i := 1) (v := ?_) rfl (by kernel_rfl) (by kernel_rfl) (by kernel_rfl) (fun _ _ _ h => h) (Or.inl ⟨by rfl, ?_⟩) hH ?_
      rotate_left
      · ((intro W hW; clear hW; go_simp) <;> with_reducible rfl)
      simp only [Act.put, List.getElem_toArray, List.getElem_cons_zero, List.getElem_cons_succ, List.setIfInBounds_toArray, List.set_cons_zero, List.set_cons_succ]
      refine wpAnyH_take (i := 2) (v := ?_) rfl (by kernel_rfl) (by kernel_rfl) (by kernel_rfl) (fun _ _ _ h => h) (Or.inl ⟨by rfl, ?_⟩) hH ?_
      rotate_left
      · ((intro W hW; clear hW; go_simp) <;> with_reducible rfl)
      simp only [Act.put, List.getElem_toArray, List.getElem_cons_zero, List.getElem_cons_succ, List.setIfInBounds_toArray, List.set_cons_zero, List.set_cons_succ]
      refine wpAnyH_take (i := 4) (v := ?_) rfl (by kernel_rfl) (by kernel_rfl) (by kernel_rfl) (fun _ _ _ h => h) (Or.inl ⟨by rfl, ?_⟩) hH ?_
      rotate_left
      · ((intro W hW; clear hW; go_simp) <;> with_reducible rfl)
      simp only [Act.put, List.getElem_toArray, List.getElem_cons_zero, List.getElem_cons_succ, List.setIfInBounds_toArray, List.set_cons_zero, List.set_cons_succ]
      refine wpAnyH_take (i := 5) (v := ?_) rfl (by kernel_rfl) (by kernel_rfl) (by kernel_rfl) (fun _ _ _ h => h) (Or.inl ⟨by rfl, ?_⟩) hH ?_
      rotate_left
      · ((intro W hW; clear hW; go_simp) <;> with_reducible rfl)
      simp only [Act.put, List.getElem_toArray, List.getElem_cons_zero, List.getElem_cons_succ, List.setIfInBounds_toArray, List.set_cons_zero, List.set_cons_succ]
      refine wpAnyH_take (i := 6) (v := ?_) rfl (by kernel_rfl) (by kernel_rfl) (by kernel_rfl) (fun _ _ _ h => h) (Or.inl ⟨by rfl, ?_⟩) hH ?_
      rotate_left
      · ((intro W hW; clear hW; go_simp) <;> with_reducible rfl)
      simp only [Act.put, List.getElem_toArray, List.getElem_cons_zero, List.getElem_cons_succ, List.setIfInBounds_toArray, List.set_cons_zero, List.set_cons_succ]
      refine wpAnyH_ready (rs := [3]) (by kernel_rfl) (by simp) ?_
      refine AllReadyH.cons (o := _) rfl (fun K hK => ?_) AllReadyH.nil
      simp only [List.getElem_toArray, List.getElem_cons_zero, List.getElem_cons_succ]
      go_simp
      with_reducible refine (nlow_any _ _).mono ?_
      rintro e _ ⟨rfl, rfl⟩
      dsimp only
      rw [HP.out]
      refine hK.out _ _ trivial (fun hH2 => ?_)
      clear hK K
      refine wpAnyH_ready (rs := [7]) (by kernel_rfl) (by simp) ?_
      refine AllReadyH.cons (o := _) rfl (fun K hK => ?_) AllReadyH.nil
      simp only [List.getElem_toArray, List.getElem_cons_zero, List.getElem_cons_succ]
      go_simp
      with_reducible refine (nlow_any _ _).mono ?_
      rintro e _ ⟨rfl, rfl⟩
      dsimp only
      rw [HQ.out]
      refine hK.out _ _ trivial (fun hH3 => ?_)
      clear hK K
      refine wpAnyH_take (i := 8) (v := ?_) rfl (by kernel_rfl) (by kernel_rfl) (by kernel_rfl) (fun _ _ _ h => h) (Or.inl ⟨by rfl, ?_⟩) hH3 ?_
      rotate_left
      · ((intro W hW; clear hW; go_simp) <;> with_reducible rfl)
      simp only [Act.put, List.getElem_toArray, List.getElem_cons_zero, List.getElem_cons_succ, List.setIfInBounds_toArray, List.set_cons_zero, List.set_cons_succ]
      refine wpAnyH_done (by kernel_rfl) ?_ _
      go_wp2_with fail
      go_roundg (nx - (i + 1))
      case measure => have := HGK_.out; omega
      case rel => exact ⟨i + 1, rfl, h, HE2, by go_num, bel⟩
    have t0 : (p == q) = false := by simpa using hpq
    have t1 : (p != q) = true := by simpa using hpq
    have HF : Hid (sameL x y = false) := Lib.hid (decide_eq_false (ne_at (i := i) (by rw [map_at HCX.out, map_at HCY.out]; intro e; exact hpq (HP.out.symm.trans ((congrArg (fun b : UInt8 => (b.toNat : Int)) (Option.some.inj e)).trans HQ.out)))))
    clear hpq
    go_wp2_with fail
    replace bel := bel.drew
    refine wp_region_held_drew (S := fun _ => True) (by kernel_rfl) trivial (fun hH => ?_)
    generalize wr.drew = w1 at bel hH ⊢
    refine wpAnyH_take (i := 0) (v := ?_) rfl (by kernel_rfl) (by kernel_rfl) (by kernel_rfl) (fun _ _ _ h => h) (Or.inl ⟨by rfl, ?_⟩) hH ?_
    rotate_left
    · ((intro W hW; clear hW; go_simp) <;> with_reducible rfl)
    simp only [Act.put, List.getElem_toArray, List.getElem_cons_zero, List.setIfInBounds_toArray, List.set_cons_zero, List.set_cons_succ]
    refine wpAnyH_take (i := 1) (v := ?_) rfl (by kernel_rfl) (by kernel_rfl) (by kernel_rfl) (fun _ _ _ h => h) (Or.inl ⟨by rfl, ?_⟩) hH ?_
    rotate_left
    · ((intro W hW; clear hW; go_simp) <;> with_reducible rfl)
    simp only [Act.put, List.getElem_toArray, List.getElem_cons_zero, List.getElem_cons_succ, List.setIfInBounds_toArray, List.set_cons_zero, List.set_cons_succ]
    refine wpAnyH_take (i := 2) (v := ?_) rfl (by kernel_rfl) (by kernel_rfl) (by kernel_rfl) (fun _ _ _ h => h) (Or.inl ⟨by rfl, ?_⟩) hH ?_
    rotate_left
    · ((intro W hW; clear hW; go_simp) <;> with_reducible rfl)
    simp only [Act.put, List.getElem_toArray, List.getElem_cons_zero, List.getElem_cons_succ, List.setIfInBounds_toArray, List.set_cons_zero, List.set_cons_succ]
    refine wpAnyH_take (i := 4) (v := ?_) rfl (by kernel_rfl) (by kernel_rfl) (by kernel_rfl) (fun _ _ _ h => h) (Or.inl ⟨by rfl, ?_⟩) hH ?_
    rotate_left
    · ((intro W hW; clear hW; go_simp) <;> with_reducible rfl)
    simp only [Act.put, List.getElem_toArray, List.getElem_cons_zero, List.getElem_cons_succ, List.setIfInBounds_toArray, List.set_cons_zero, List.set_cons_succ]
    refine wpAnyH_take (i := 5) (v := ?_) rfl (by kernel_rfl) (by kernel_rfl) (by kernel_rfl) (fun _ _ _ h => h) (Or.inl ⟨by rfl, ?_⟩) hH ?_
    rotate_left
    · ((intro W hW; clear hW; go_simp) <;> with_reducible rfl)
    simp only [Act.put, List.getElem_toArray, List.getElem_cons_zero, List.getElem_cons_succ, List.setIfInBounds_toArray, List.set_cons_zero, List.set_cons_succ]
    refine wpAnyH_take (i := 6) (v := ?_) rfl (by kernel_rfl) (by kernel_rfl) (by kernel_rfl) (fun _ _ _ h => h) (Or.inl ⟨by rfl, ?_⟩) hH ?_
    rotate_left
    · ((intro W hW; clear hW; go_simp) <;> with_reducible rfl)
    simp only [Act.put, List.getElem_toArray, List.getElem_cons_zero, List.getElem_cons_succ, List.setIfInBounds_toArray, List.set_cons_zero, List.set_cons_succ]
    refine wpAnyH_ready (rs := [3]) (by kernel_rfl) (by simp) ?_
    refine AllReadyH.cons (o := _) rfl (fun K hK => ?_) AllReadyH.nil
    simp only [List.getElem_toArray, List.getElem_cons_zero, List.getElem_cons_succ]
    go_simp
    with_reducible refine (nlow_any _ _).mono ?_
    rintro e _ ⟨rfl, rfl⟩
    dsimp only
    rw [HP.out]
    refine hK.out _ _ trivial (fun hH2 => ?_)
    clear hK K
    refine wpAnyH_ready (rs := [7]) (by kernel_rfl) (by simp) ?_
    refine AllReadyH.cons (o := _) rfl (fun K hK => ?_) AllReadyH.nil
    simp only [List.getElem_toArray, List.getElem_cons_zero, List.getElem_cons_succ]
    go_simp
    with_reducible refine (nlow_any _ _).mono ?_
    rintro e _ ⟨rfl, rfl⟩
    dsimp only
    rw [HQ.out]
    refine hK.out _ _ trivial (fun hH3 => ?_)
    clear hK K
    refine wpAnyH_take (i := 8) (v := ?_) rfl (by kernel_rfl) (by kernel_rfl) (by kernel_rfl) (fun _ _ _ h => h) (Or.inl ⟨by rfl, ?_⟩) hH3 ?_
    rotate_left
    · ((intro W hW; clear hW; go_simp) <;> with_reducible rfl)
    simp only [Act.put, List.getElem_toArray, List.getElem_cons_zero, List.getElem_cons_succ, List.setIfInBounds_toArray, List.set_cons_zero, List.set_cons_succ]
    refine wpAnyH_done (by kernel_rfl) ?_ _
    go_wp2_with fail
    go_ret
    exact ⟨by rw [HF.out]; rfl, bel⟩
set_option linter.unusedVariables false in
set_option linter.unusedSimpArgs false in
set_option maxRecDepth 100000 in
set_option maxHeartbeats 16000000 in
theorem nequal_any (A B : Option Addr) (n c m d : Nat) (a b : List (List UInt8)) (w : World) (la : Sle stf 1 w A n c a) (lb : Sle stf 1 w B m d b) (hn : n ≤ 100000) (hl : ∀ x ∈ a, x.length ≤ 100000) : Calls Tryd.prog 30 #[.slice A n c, .slice B m d, .func (.func 31) #[] #[]] w fun e w' => e = .returned (.bool (sameN a b)) ∧ Below w.heap.size w w' := by
  have HNA := Lib.hid la.1
  have HNB := Lib.hid lb.1
  have HLA := Lib.hid hl
  have hb : (n : Int) ≤ 100000 := by omega
  clear hl
  have bel := Below.refl w.heap.size w
  go_enter Tryd.func30, Tryd.ntmps30
  by_cases hne : n = m
  rotate_left
  · have HF : Hid (sameN a b = false) := Lib.hid (decide_eq_false (ne_len (by unfold lowN; rw [List.length_map, List.length_map, HNA.out, HNB.out]; exact hne)))
    have t0 : (n == m) = false := by simpa using hne
    have t1 : (n != m) = true := by simpa using hne
    clear hne
    go_wp2_with fail
    go_ret
    exact ⟨by rw [HF.out]; rfl, bel⟩
  subst hne
  go_wp2_with fail
  go_loopg [17] (n) (fun gk s17 wr => ∃ i : Nat, gk = n - i ∧ i ≤ n ∧ Hid ((lowN a).take i = (lowN b).take i) ∧ s17 = .int .i64 (i : Int) ∧ Sle stf 1 wr (A) (n) (c) (a) ∧ Sle stf 1 wr (B) (n) (d) (b) ∧ Below w.heap.size w wr)
  case atStart => exact ⟨0, Nat.sub_zero _, Nat.zero_le _, Lib.hid rfl, rfl, la, lb, bel⟩
  case round =>
    clear la lb bel
    obtain ⟨i, HGK, hi, HE, rfl, la, lb, bel⟩ := hrel
    have HGK_ := Lib.hid HGK
    clear HGK
    have i0 : (0 : Int) ≤ i := by omega
    by_cases h : i < n
    rotate_left
    · obtain rfl : i = n := by omega
      have HF : Hid (sameN a b = true) := Lib.hid (decide_eq_true (eq_end HE.out (by unfold lowN; rw [List.length_map, HNA.out]; exact Nat.le_refl _) (by unfold lowN; rw [List.length_map, HNB.out]; exact Nat.le_refl _)))
      replace h : decide (i < i) = false := decide_eq_false (by omega)
      go_wp2_with fail
      go_ret
      exact ⟨by rw [HF.out]; rfl, bel⟩
    obtain ⟨gA, oA, rfl⟩ := la.place (by omega)
    obtain ⟨gB, oB, rfl⟩ := lb.place (by omega)
    obtain ⟨x, HX_⟩ : ∃ u_, a[i]? = some u_ := ⟨_, List.getElem?_eq_getElem (by rw [HNA.out]; exact h)⟩
    have HX := Lib.hid HX_
    clear HX_
    obtain ⟨y, HY_⟩ : ∃ u_, b[i]? = some u_ := ⟨_, List.getElem?_eq_getElem (by rw [HNB.out]; exact h)⟩
    have HY := Lib.hid HY_
    clear HY_
    by_cases hs : x.map lowB = y.map lowB
    rotate_left
    · have HS : Hid (sameL x y = false) := Lib.hid (decide_eq_false hs)
      have HF : Hid (sameN a b = false) := Lib.hid (decide_eq_false (ne_at (i := i) (by unfold lowN; rw [map_at HX.out, map_at HY.out]; intro e; exact hs (Option.some.inj e))))
      clear hs
      have R21 := Sle.st (i := i) la HX.out
      have R25 := Sle.st (i := i) lb HY.out
      go_wp2_with fail
      clear R21 R25
      with_reducible refine (nsame_any x y _ (by exact HLA.out x (List.mem_of_getElem? HX.out))).mono ?_
      rintro e w1 ⟨rfl, b1⟩
      replace la := la.below b1
      replace lb := lb.below b1
      replace bel := bel.trans (b1.mono bel.size)
      clear b1
      rw [HS.out]
      go_wp2_with fail
      go_ret
      exact ⟨by rw [HF.out]; rfl, bel⟩
    have HS : Hid (sameL x y = true) := Lib.hid (decide_eq_true hs)
    have HE2 : Hid ((lowN a).take (i + 1) = (lowN b).take (i + 1)) := Lib.hid (eq_next HE.out (by unfold lowN; rw [map_at HX.out, map_at HY.out, hs]))
    clear hs
    have R21 := Sle.st (i := i) la HX.out
    have R25 := Sle.st (i := i) lb HY.out
    go_wp2_with fail
    clear R21 R25
    with_reducible refine (nsame_any x y _ (by exact HLA.out x (List.mem_of_getElem? HX.out))).mono ?_
    rintro e w1 ⟨rfl, b1⟩
    replace la := la.below b1
    replace lb := lb.below b1
    replace bel := bel.trans (b1.mono bel.size)
    clear b1
    rw [HS.out]
    go_wp2_with fail
    go_roundg (n - (i + 1))
    case measure => have := HGK_.out; omega
    case rel => exact ⟨i + 1, rfl, h, HE2, by go_num, la, lb, bel⟩
set_option linter.unusedVariables false in
set_option linter.unusedSimpArgs false in
set_option maxRecDepth 100000 in
set_option maxHeartbeats 16000000 in
theorem nsames_any (A B : Option Addr) (n c m d : Nat) (a b : List (List UInt8)) (w : World) (la : Sle stf 1 w A n c a) (lb : Sle stf 1 w B m d b) (hn : n ≤ 100000) (hl : ∀ x ∈ a, x.length ≤ 100000) : Calls Tryd.prog 23 #[.slice A n c, .slice B m d] w fun e w' => e = .returned (.bool (sameN a b)) ∧ Below w.heap.size w w' := by
  have bel := Below.refl w.heap.size w
  go_enter Tryd.func23, Tryd.ntmps23
  go_wp2_with fail
  with_reducible refine (nequal_any _ _ _ _ _ _ a b _ la lb hn hl).mono ?_
  rintro e w1 ⟨rfl, b1⟩
  replace la := la.below b1
  replace lb := lb.below b1
  replace bel := bel.trans (b1.mono bel.size)
  clear b1
  go_wp2_with fail
  go_ret
  exact ⟨rfl, bel⟩
set_option linter.unusedVariables false in
set_option linter.unusedSimpArgs false in
set_option maxRecDepth 100000 in
set_option maxHeartbeats 16000000 in
theorem ngood_any (A : Option Addr) (n c : Nat) (l : List (List UInt8)) (w : World) (la : Sle stf 1 w A n c l) (hn : n ≤ 100000) : Calls Tryd.prog 19 #[.slice A n c] w fun e w' => e = .returned (.bool (goodN l)) ∧ w = w' := by
  have HN := Lib.hid la.1
  have hb : (n : Int) ≤ 100000 := by omega
  skip
  go_enter Tryd.func19, Tryd.ntmps19
  go_wp2_with fail
  go_loopg [8, 3] (n) (fun gk s8 s3 wr => ∃ i : Nat, ∃ z : Nat, gk = n - i ∧ i ≤ n ∧ Hid (1 + sizeN (l.take i) = z) ∧ Hid (∀ y ∈ l.take i, okL y = true) ∧ z ≤ 64 * i + 1 ∧ s8 = .int .i64 (i : Int) ∧ s3 = .int .i64 (z : Int) ∧ w = wr)
  case atStart => exact ⟨0, 1, Nat.sub_zero _, Nat.zero_le _, Lib.hid rfl, Lib.hid (fun y hy => by simp at hy), by omega, rfl, rfl, rfl⟩
  case round =>
    obtain ⟨i, z, HGK, hi, HZ, HO, hz, rfl, rfl, rfl⟩ := hrel
    have HGK_ := Lib.hid HGK
    clear HGK
    have i0 : (0 : Int) ≤ i := by omega
    have z0 : (0 : Int) ≤ z := by omega
    have z1 : (z : Int) ≤ 10000000 := by omega
    by_cases h : i < n
    rotate_left
    · have hh := Lib.hid h
      replace h : decide (i < n) = false := decide_eq_false h
      by_cases h3 : z ≤ 255
      · have HF : Hid (goodN l = true) := Lib.hid (by rw [good_end (ok_end HO.out (by rw [HN.out]; exact hh.out)), decide_eq_true]; have h_ := HZ.out; rw [take_full (by rw [HN.out]; exact hh.out)] at h_; omega)
        have h5 : (z : Int) ≤ 255 := by omega
        go_wp2_with fail
        go_ret
        exact ⟨by rw [HF.out]; rfl, rfl⟩
      have HF : Hid (goodN l = false) := Lib.hid (by rw [good_end (ok_end HO.out (by rw [HN.out]; exact hh.out)), decide_eq_false]; have h_ := HZ.out; rw [take_full (by rw [HN.out]; exact hh.out)] at h_; omega)
      have h4 : decide (z ≤ 255) = false := decide_eq_false h3
      have h5 : decide ((z : Int) ≤ 255) = false := decide_eq_false (by omega)
      clear h3
      go_wp2_with fail
      go_ret
      exact ⟨by rw [HF.out]; rfl, rfl⟩
    obtain ⟨gA, oA, rfl⟩ := la.place (by omega)
    obtain ⟨x, HX_⟩ : ∃ u_, l[i]? = some u_ := ⟨_, List.getElem?_eq_getElem (by rw [HN.out]; exact h)⟩
    have HX := Lib.hid HX_
    clear HX_
    obtain ⟨k, HK_⟩ : ∃ b, x.length = b := ⟨_, rfl⟩
    have HK := Lib.hid HK_
    clear HK_
    by_cases h1 : k = 0
    · have HF : Hid (goodN l = false) := Lib.hid (good_not HX.out (decide_eq_false (by rw [HK.out]; omega)))
      obtain rfl := List.eq_nil_of_length_eq_zero (HK.out.trans h1)
      clear h1
      have R11 := Sle.st (i := i) la HX.out
      go_wp2_with fail
      clear R11
      go_ret
      exact ⟨by rw [HF.out]; rfl, rfl⟩
    have hxe : (x == ([] : List UInt8)) = false := by rw [beq_eq_false_iff_ne]; intro e; have h_ := HK.out; rw [e] at h_; exact h1 h_.symm
    by_cases h2 : k ≤ 63
    rotate_left
    · have HF : Hid (goodN l = false) := Lib.hid (good_not HX.out (decide_eq_false (by rw [HK.out]; omega)))
      have k1 : (63 : Int) < k := by omega
      clear h1 h2
      have R11 := Sle.st (i := i) la HX.out
      have R16 := fun W => st_lenN HK.out 3 W
      go_wp2_with fail
      clear R11 R16
      go_ret
      exact ⟨by rw [HF.out]; rfl, rfl⟩
    have HOK : Hid (okL x = true) := Lib.hid (decide_eq_true (by rw [HK.out]; omega))
    have k0 : (0 : Int) ≤ k := by omega
    have k1 : (k : Int) ≤ 63 := by omega
    clear h1
    have R11 := Sle.st (i := i) la HX.out
    have R16 := fun W => st_lenN HK.out 3 W
    have R21 := fun W => st_lenN HK.out 3 W
    go_wp2_with fail
    clear R11 R16 R21
    go_roundg (n - (i + 1))
    case measure => have := HGK_.out; omega
    case rel => exact ⟨i + 1, z + (1 + k), rfl, h, Lib.hid (by rw [size_next HX.out, HK.out, ← Nat.add_assoc, HZ.out]), Lib.hid (ok_next HO.out HX.out HOK.out), by omega, by go_num, by go_num, rfl⟩
set_option linter.unusedVariables false in
set_option linter.unusedSimpArgs false in
set_option maxRecDepth 100000 in
set_option maxHeartbeats 16000000 in
theorem rgood_any (A : Option Addr) (n c : Nat) (l : List (List UInt8)) (w : World) (la : Sle stf 1 w A n c l) (hn : n ≤ 100000) : Calls Tryd.prog 18 #[.slice A n c] w fun e w' => e = .returned (.bool (goodN l)) ∧ w = w' := by
  have HN := Lib.hid la.1
  have hb : (n : Int) ≤ 100000 := by omega
  skip
  go_enter Tryd.func18, Tryd.ntmps18
  go_wp2_with fail
  go_loopg [4, 3] (n) (fun gk s4 s3 wr => ∃ i : Nat, ∃ z : Nat, gk = n - i ∧ i ≤ n ∧ Hid (1 + sizeN (l.take i) = z) ∧ Hid (∀ y ∈ l.take i, okL y = true) ∧ z ≤ 64 * i + 1 ∧ s4 = .int .i64 (i : Int) ∧ s3 = .int .i64 (z : Int) ∧ w = wr)
  case atStart => exact ⟨0, 1, Nat.sub_zero _, Nat.zero_le _, Lib.hid rfl, Lib.hid (fun y hy => by simp at hy), by omega, rfl, rfl, rfl⟩
  case round =>
    obtain ⟨i, z, HGK, hi, HZ, HO, hz, rfl, rfl, rfl⟩ := hrel
    have HGK_ := Lib.hid HGK
    clear HGK
    have i0 : (0 : Int) ≤ i := by omega
    have z0 : (0 : Int) ≤ z := by omega
    have z1 : (z : Int) ≤ 10000000 := by omega
    by_cases h : i < n
    rotate_left
    · have hh := Lib.hid h
      replace h : decide (i < n) = false := decide_eq_false h
      by_cases h3 : z ≤ 255
      · have HF : Hid (goodN l = true) := Lib.hid (by rw [good_end (ok_end HO.out (by rw [HN.out]; exact hh.out)), decide_eq_true]; have h_ := HZ.out; rw [take_full (by rw [HN.out]; exact hh.out)] at h_; omega)
        have h5 : (z : Int) ≤ 255 := by omega
        go_wp2_with fail
        go_ret
        exact ⟨by rw [HF.out]; rfl, rfl⟩
      have HF : Hid (goodN l = false) := Lib.hid (by rw [good_end (ok_end HO.out (by rw [HN.out]; exact hh.out)), decide_eq_false]; have h_ := HZ.out; rw [take_full (by rw [HN.out]; exact hh.out)] at h_; omega)
      have h4 : decide (z ≤ 255) = false := decide_eq_false h3
      have h5 : decide ((z : Int) ≤ 255) = false := decide_eq_false (by omega)
      clear h3
      go_wp2_with fail
      go_ret
      exact ⟨by rw [HF.out]; rfl, rfl⟩
    obtain ⟨gA, oA, rfl⟩ := la.place (by omega)
    obtain ⟨x, HX_⟩ : ∃ u_, l[i]? = some u_ := ⟨_, List.getElem?_eq_getElem (by rw [HN.out]; exact h)⟩
    have HX := Lib.hid HX_
    clear HX_
    obtain ⟨k, HK_⟩ : ∃ b, x.length = b := ⟨_, rfl⟩
    have HK := Lib.hid HK_
    clear HK_
    by_cases h1 : k < 1
    · have HF : Hid (goodN l = false) := Lib.hid (good_not HX.out (decide_eq_false (by rw [HK.out]; omega)))
      have h9 : (k : Int) < 1 := by omega
      clear h1
      have R14 := Sle.st (i := i) la HX.out
      have R15 := fun W => st_lenN HK.out 3 W
      go_wp2_with fail
      clear R14 R15
      go_ret
      exact ⟨by rw [HF.out]; rfl, rfl⟩
    have h8 : decide ((k : Int) < 1) = false := decide_eq_false (by omega)
    by_cases h2 : k ≤ 63
    rotate_left
    · have HF : Hid (goodN l = false) := Lib.hid (good_not HX.out (decide_eq_false (by rw [HK.out]; omega)))
      have k1 : (63 : Int) < k := by omega
      clear h1 h2
      have R14 := Sle.st (i := i) la HX.out
      have R15 := fun W => st_lenN HK.out 3 W
      have R21 := Sle.st (i := i) la HX.out
      have R22 := fun W => st_lenN HK.out 3 W
      go_wp2_with fail
      clear R14 R15 R21 R22
      go_ret
      exact ⟨by rw [HF.out]; rfl, rfl⟩
    have HOK : Hid (okL x = true) := Lib.hid (decide_eq_true (by rw [HK.out]; omega))
    have k0 : (0 : Int) ≤ k := by omega
    have k1 : (k : Int) ≤ 63 := by omega
    have h7 : decide ((63 : Int) < k) = false := decide_eq_false (by omega)
    clear h1
    by_cases h6 : i ≤ 127
    rotate_left
    · have HF : Hid (goodN l = false) := Lib.hid (good_many HO.out (by rw [HN.out]; exact h) (by omega))
      have h5 : (127 : Int) < i := by omega
      clear h6
      have R14 := Sle.st (i := i) la HX.out
      have R15 := fun W => st_lenN HK.out 3 W
      have R21 := Sle.st (i := i) la HX.out
      have R22 := fun W => st_lenN HK.out 3 W
      go_wp2_with fail
      clear R14 R15 R21 R22
      go_ret
      exact ⟨by rw [HF.out]; rfl, rfl⟩
    have h5 : decide ((127 : Int) < i) = false := decide_eq_false (by omega)
    clear h6
    have R14 := Sle.st (i := i) la HX.out
    have R15 := fun W => st_lenN HK.out 3 W
    have R21 := Sle.st (i := i) la HX.out
    have R22 := fun W => st_lenN HK.out 3 W
    have R34 := Sle.st (i := i) la HX.out
    have R35 := fun W => st_lenN HK.out 3 W
    go_wp2_with fail
    clear R14 R15 R21 R22 R34 R35
    go_roundg (n - (i + 1))
    case measure => have := HGK_.out; omega
    case rel => exact ⟨i + 1, z + (1 + k), rfl, h, Lib.hid (by rw [size_next HX.out, HK.out, ← Nat.add_assoc, HZ.out]), Lib.hid (ok_next HO.out HX.out HOK.out), by omega, by go_num, by go_num, rfl⟩
set_option linter.unusedVariables false in
set_option linter.unusedSimpArgs false in
set_option maxRecDepth 100000 in
set_option maxHeartbeats 16000000 in
theorem rsame_any (A B : Option Addr) (n c m d : Nat) (a b : List (List UInt8)) (w : World) (la : Sle stf 1 w A n c a) (lb : Sle stf 1 w B m d b) (hn : n ≤ 100000) (hl : ∀ x ∈ a, x.length ≤ 100000) : Calls Tryd.prog 24 #[.slice A n c, .slice B m d] w fun e w' => e = .returned (.bool (sameN a b)) ∧ Below w.heap.size w w' := by
  have HNA := Lib.hid la.1
  have HNB := Lib.hid lb.1
  have HLA := Lib.hid hl
  have hb : (n : Int) ≤ 100000 := by omega
  clear hl
  have bel := Below.refl w.heap.size w
  go_enter Tryd.func24, Tryd.ntmps24
  by_cases hne : n = m
  rotate_left
  · have HF : Hid (sameN a b = false) := Lib.hid (decide_eq_false (ne_len (by unfold lowN; rw [List.length_map, List.length_map, HNA.out, HNB.out]; exact hne)))
    have t0 : (n == m) = false := by simpa using hne
    have t1 : (n != m) = true := by simpa using hne
    clear hne
    go_wp2_with fail
    go_ret
    exact ⟨by rw [HF.out]; rfl, bel⟩
  subst hne
  go_wp2_with fail
  go_loopg [5] (n) (fun gk s5 wr => ∃ i : Nat, gk = n - i ∧ i ≤ n ∧ Hid ((lowN a).take i = (lowN b).take i) ∧ s5 = .int .i64 (i : Int) ∧ Sle stf 1 wr (A) (n) (c) (a) ∧ Sle stf 1 wr (B) (n) (d) (b) ∧ Below w.heap.size w wr)
  case atStart => exact ⟨0, Nat.sub_zero _, Nat.zero_le _, Lib.hid rfl, rfl, la, lb, bel⟩
  case round =>
    clear la lb bel
    obtain ⟨i, HGK, hi, HE, rfl, la, lb, bel⟩ := hrel
    have HGK_ := Lib.hid HGK
    clear HGK
    have i0 : (0 : Int) ≤ i := by omega
    have HGKo := HGK_
    by_cases h : i < n
    rotate_left
    · obtain rfl : i = n := by omega
      have HF : Hid (sameN a b = true) := Lib.hid (decide_eq_true (eq_end HE.out (by unfold lowN; rw [List.length_map, HNA.out]; exact Nat.le_refl _) (by unfold lowN; rw [List.length_map, HNB.out]; exact Nat.le_refl _)))
      replace h : decide (i < i) = false := decide_eq_false (by omega)
      go_wp2_with fail
      go_ret
      exact ⟨by rw [HF.out]; rfl, bel⟩
    obtain ⟨gA, oA, rfl⟩ := la.place (by omega)
    obtain ⟨gB, oB, rfl⟩ := lb.place (by omega)
    obtain ⟨x, HX_⟩ : ∃ u_, a[i]? = some u_ := ⟨_, List.getElem?_eq_getElem (by rw [HNA.out]; exact h)⟩
    have HX := Lib.hid HX_
    clear HX_
    obtain ⟨y, HY_⟩ : ∃ u_, b[i]? = some u_ := ⟨_, List.getElem?_eq_getElem (by rw [HNB.out]; exact h)⟩
    have HY := Lib.hid HY_
    clear HY_
    obtain ⟨kx, HKX_⟩ : ∃ b, x.length = b := ⟨_, rfl⟩
    have HKX := Lib.hid HKX_
    clear HKX_
    obtain ⟨ky, HKY_⟩ : ∃ b, y.length = b := ⟨_, rfl⟩
    have HKY := Lib.hid HKY_
    clear HKY_
    have R22 := fun W => st_lenN HKX.out 3 W
    have R27 := fun W => st_lenN HKY.out 3 W
    have hkx : (kx : Int) ≤ 100000 := by have h_ := HLA.out x (List.mem_of_getElem? HX.out); rw [HKX.out] at h_; omega
    by_cases hs : kx = ky
    rotate_left
    · have t0 : (kx == ky) = false := by simpa using hs
      have t1 : (kx != ky) = true := by simpa using hs
      have HF : Hid (sameN a b = false) := Lib.hid (decide_eq_false (ne_at (i := i) (by unfold lowN; rw [map_at HX.out, map_at HY.out]; intro e; exact ne_len (by rw [List.length_map, List.length_map, HKX.out, HKY.out]; exact hs) (Option.some.inj e))))
      clear hs
      go_wp2_with fail
      replace bel := bel.drew
      replace la := la.drew
      replace lb := lb.drew
      refine wp_region_held_drew (S := fun W => Sle stf 1 W (some ⟨gA, oA, none⟩) (n) (c) (a) ∧ Sle stf 1 W (some ⟨gB, oB, none⟩) (n) (d) (b)) (by kernel_rfl) ⟨la, lb⟩ (fun hH => ?_)
      generalize wr.drew = w1 at bel la lb hH ⊢
      refine wpAnyH_take (i := 0) (v := ?_) rfl (by kernel_rfl) (by kernel_rfl) (by kernel_rfl) (fun _ _ _ h => h) (Or.inl ⟨by rfl, ?_⟩) hH ?_
      rotate_left
      · ((intro W hW; clear hW; go_simp) <;> with_reducible rfl)
      simp only [Act.put, List.getElem_toArray, List.getElem_cons_zero, List.setIfInBounds_toArray, List.set_cons_zero, List.set_cons_succ]
      refine wpAnyH_take (i := 1) (v := ?_) rfl (by kernel_rfl) (by kernel_rfl) (by kernel_rfl) (fun _ _ _ h => h) (Or.inl ⟨by rfl, ?_⟩) hH ?_
      rotate_left
      · ((intro W hW; clear hW; go_simp) <;> with_reducible rfl)
      simp only [Act.put, List.getElem_toArray, List.getElem_cons_zero, List.getElem_cons_succ, List.setIfInBounds_toArray, List.set_cons_zero, List.set_cons_succ]
      refine wpAnyH_take (i := 2) (v := ?_) rfl (by kernel_rfl) (by kernel_rfl) (by kernel_rfl) (fun _ _ _ h => h) (Or.inl ⟨by rfl, ?_⟩) hH ?_
      rotate_left
      · ((intro W hW; clear hW; go_simp) <;> with_reducible rfl)
      simp only [Act.put, List.getElem_toArray, List.getElem_cons_zero, List.getElem_cons_succ, List.setIfInBounds_toArray, List.set_cons_zero, List.set_cons_succ]
      refine wpAnyH_take (i := 3) (v := ?_) rfl (by kernel_rfl) (by kernel_rfl) (by kernel_rfl) (fun _ _ _ h => h) (Or.inl ⟨by rfl, ?_⟩) hH ?_
      rotate_left
      · ((intro W hW; have hk := Sle.st (i := i) (hW.1) HX.out; clear hW; go_simp) <;> with_reducible rfl)
      simp only [Act.put, List.getElem_toArray, List.getElem_cons_zero, List.getElem_cons_succ, List.setIfInBounds_toArray, List.set_cons_zero, List.set_cons_succ]
      refine wpAnyH_take (i := 4) (v := ?_) rfl (by kernel_rfl) (by kernel_rfl) (by kernel_rfl) (fun _ _ _ h => h) (Or.inl ⟨by rfl, ?_⟩) hH ?_
      rotate_left
      · ((intro W hW; clear hW; go_simp) <;> with_reducible rfl)
      simp only [Act.put, List.getElem_toArray, List.getElem_cons_zero, List.getElem_cons_succ, List.setIfInBounds_toArray, List.set_cons_zero, List.set_cons_succ]
      refine wpAnyH_take (i := 5) (v := ?_) rfl (by kernel_rfl) (by kernel_rfl) (by kernel_rfl) (fun _ _ _ h => h) (Or.inl ⟨by rfl, ?_⟩) hH ?_
      rotate_left
      · ((intro W hW; clear hW; go_simp) <;> with_reducible rfl)
      simp only [Act.put, List.getElem_toArray, List.getElem_cons_zero, List.getElem_cons_succ, List.setIfInBounds_toArray, List.set_cons_zero, List.set_cons_succ]
      refine wpAnyH_take (i := 6) (v := ?_) rfl (by kernel_rfl) (by kernel_rfl) (by kernel_rfl) (fun _ _ _ h => h) (Or.inl ⟨by rfl, ?_⟩) hH ?_
      rotate_left
      · ((intro W hW; clear hW; go_simp) <;> with_reducible rfl)
      simp only [Act.put, List.getElem_toArray, List.getElem_cons_zero, List.getElem_cons_succ, List.setIfInBounds_toArray, List.set_cons_zero, List.set_cons_succ]
      refine wpAnyH_take (i := 7) (v := ?_) rfl (by kernel_rfl) (by kernel_rfl) (by kernel_rfl) (fun _ _ _ h => h) (Or.inl ⟨by rfl, ?_⟩) hH ?_
      rotate_left
      · ((intro W hW; clear hW; go_simp) <;> with_reducible rfl)
      simp only [Act.put, List.getElem_toArray, List.getElem_cons_zero, List.getElem_cons_succ, List.setIfInBounds_toArray, List.set_cons_zero, List.set_cons_succ]
      refine wpAnyH_take (i := 8) (v := ?_) rfl (by kernel_rfl) (by kernel_rfl) (by kernel_rfl) (fun _ _ _ h => h) (Or.inl ⟨by rfl, ?_⟩) hH ?_
      rotate_left
      · ((intro W hW; have hk := Sle.st (i := i) (hW.2) HY.out; clear hW; go_simp) <;> with_reducible rfl)
      simp only [Act.put, List.getElem_toArray, List.getElem_cons_zero, List.getElem_cons_succ, List.setIfInBounds_toArray, List.set_cons_zero, List.set_cons_succ]
      refine wpAnyH_take (i := 9) (v := ?_) rfl (by kernel_rfl) (by kernel_rfl) (by kernel_rfl) (fun _ _ _ h => h) (Or.inl ⟨by rfl, ?_⟩) hH ?_
      rotate_left
      · ((intro W hW; clear hW; go_simp) <;> with_reducible rfl)
      simp only [Act.put, List.getElem_toArray, List.getElem_cons_zero, List.getElem_cons_succ, List.setIfInBounds_toArray, List.set_cons_zero, List.set_cons_succ]
      refine wpAnyH_take (i := 10) (v := ?_) rfl (by kernel_rfl) (by kernel_rfl) (by kernel_rfl) (fun _ _ _ h => h) (Or.inl ⟨by rfl, ?_⟩) hH ?_
      rotate_left
      · ((intro W hW; clear hW; go_simp) <;> with_reducible rfl)
      simp only [Act.put, List.getElem_toArray, List.getElem_cons_zero, List.getElem_cons_succ, List.setIfInBounds_toArray, List.set_cons_zero, List.set_cons_succ]
      refine wpAnyH_done (by kernel_rfl) ?_ _
      go_wp2_with fail
      go_ret
      exact ⟨by rw [HF.out]; rfl, bel⟩
    subst hs
    go_wp2_with fail
    replace bel := bel.drew
    replace la := la.drew
    replace lb := lb.drew
    refine wp_region_held_drew (S := fun W => Sle stf 1 W (some ⟨gA, oA, none⟩) (n) (c) (a) ∧ Sle stf 1 W (some ⟨gB, oB, none⟩) (n) (d) (b)) (by kernel_rfl) ⟨la, lb⟩ (fun hH => ?_)
    generalize wr.drew = w1 at bel la lb hH ⊢
    refine wpAnyH_take (i := 0) (v := ?_) rfl (by kernel_rfl) (by kernel_rfl) (by kernel_rfl) (fun _ _ _ h => h) (Or.inl ⟨by rfl, ?_⟩) hH ?_
    rotate_left
    · ((intro W hW; clear hW; go_simp) <;> with_reducible rfl)
    simp only [Act.put, List.getElem_toArray, List.getElem_cons_zero, List.setIfInBounds_toArray, List.set_cons_zero, List.set_cons_succ]
    refine wpAnyH_take (i := 1) (v := ?_) rfl (by kernel_rfl) (by kernel_rfl) (by kernel_rfl) (fun _ _ _ h => h) (Or.inl ⟨by rfl, ?_⟩) hH ?_
    rotate_left
    · ((intro W hW; clear hW; go_simp) <;> with_reducible rfl)
    simp only [Act.put, List.getElem_toArray, List.getElem_cons_zero, List.getElem_cons_succ, List.setIfInBounds_toArray, List.set_cons_zero, List.set_cons_succ]
    refine wpAnyH_take (i := 2) (v := ?_) rfl (by kernel_rfl) (by kernel_rfl) (by kernel_rfl) (fun _ _ _ h => h) (Or.inl ⟨by rfl, ?_⟩) hH ?_
    rotate_left
    · ((intro W hW; clear hW; go_simp) <;> with_reducible rfl)
    simp only [Act.put, List.getElem_toArray, List.getElem_cons_zero, List.getElem_cons_succ, List.setIfInBounds_toArray, List.set_cons_zero, List.set_cons_succ]
    refine wpAnyH_take (i := 3) (v := ?_) rfl (by kernel_rfl) (by kernel_rfl) (by kernel_rfl) (fun _ _ _ h => h) (Or.inl ⟨by rfl, ?_⟩) hH ?_
    rotate_left
    · ((intro W hW; have hk := Sle.st (i := i) (hW.1) HX.out; clear hW; go_simp) <;> with_reducible rfl)
    simp only [Act.put, List.getElem_toArray, List.getElem_cons_zero, List.getElem_cons_succ, List.setIfInBounds_toArray, List.set_cons_zero, List.set_cons_succ]
    refine wpAnyH_take (i := 4) (v := ?_) rfl (by kernel_rfl) (by kernel_rfl) (by kernel_rfl) (fun _ _ _ h => h) (Or.inl ⟨by rfl, ?_⟩) hH ?_
    rotate_left
    · ((intro W hW; clear hW; go_simp) <;> with_reducible rfl)
    simp only [Act.put, List.getElem_toArray, List.getElem_cons_zero, List.getElem_cons_succ, List.setIfInBounds_toArray, List.set_cons_zero, List.set_cons_succ]
    refine wpAnyH_take (i := 5) (v := ?_) rfl (by kernel_rfl) (by kernel_rfl) (by kernel_rfl) (fun _ _ _ h => h) (Or.inl ⟨by rfl, ?_⟩) hH ?_
    rotate_left
    · ((intro W hW; clear hW; go_simp) <;> with_reducible rfl)
    simp only [Act.put, List.getElem_toArray, List.getElem_cons_zero, List.getElem_cons_succ, List.setIfInBounds_toArray, List.set_cons_zero, List.set_cons_succ]
    refine wpAnyH_take (i := 6) (v := ?_) rfl (by kernel_rfl) (by kernel_rfl) (by kernel_rfl) (fun _ _ _ h => h) (Or.inl ⟨by rfl, ?_⟩) hH ?_
    rotate_left
    · ((intro W hW; clear hW; go_simp) <;> with_reducible rfl)
    simp only [Act.put, List.getElem_toArray, List.getElem_cons_zero, List.getElem_cons_succ, List.setIfInBounds_toArray, List.set_cons_zero, List.set_cons_succ]
    refine wpAnyH_take (i := 7) (v := ?_) rfl (by kernel_rfl) (by kernel_rfl) (by kernel_rfl) (fun _ _ _ h => h) (Or.inl ⟨by rfl, ?_⟩) hH ?_
    rotate_left
    · ((intro W hW; clear hW; go_simp) <;> with_reducible rfl)
    simp only [Act.put, List.getElem_toArray, List.getElem_cons_zero, List.getElem_cons_succ, List.setIfInBounds_toArray, List.set_cons_zero, List.set_cons_succ]
    refine wpAnyH_take (i := 8) (v := ?_) rfl (by kernel_rfl) (by kernel_rfl) (by kernel_rfl) (fun _ _ _ h => h) (Or.inl ⟨by rfl, ?_⟩) hH ?_
    rotate_left
    · ((intro W hW; have hk := Sle.st (i := i) (hW.2) HY.out; clear hW; go_simp) <;> with_reducible rfl)
    simp only [Act.put, List.getElem_toArray, List.getElem_cons_zero, List.getElem_cons_succ, List.setIfInBounds_toArray, List.set_cons_zero, List.set_cons_succ]
    refine wpAnyH_take (i := 9) (v := ?_) rfl (by kernel_rfl) (by kernel_rfl) (by kernel_rfl) (fun _ _ _ h => h) (Or.inl ⟨by rfl, ?_⟩) hH ?_
    rotate_left
    · ((intro W hW; clear hW; go_simp) <;> with_reducible rfl)
    simp only [Act.put, List.getElem_toArray, List.getElem_cons_zero, List.getElem_cons_succ, List.setIfInBounds_toArray, List.set_cons_zero, List.set_cons_succ]
    refine wpAnyH_take (i := 10) (v := ?_) rfl (by kernel_rfl) (by kernel_rfl) (by kernel_rfl) (fun _ _ _ h => h) (Or.inl ⟨by rfl, ?_⟩) hH ?_
    rotate_left
    · ((intro W hW; clear hW; go_simp) <;> with_reducible rfl)
    simp only [Act.put, List.getElem_toArray, List.getElem_cons_zero, List.getElem_cons_succ, List.setIfInBounds_toArray, List.set_cons_zero, List.set_cons_succ]
    refine wpAnyH_done (by kernel_rfl) ?_ _
    go_wp2_with fail
    go_loopg [6] (kx) (fun gk s6 wr => ∃ k : Nat, gk = kx - k ∧ k ≤ kx ∧ Hid ((x.map lowB).take k = (y.map lowB).take k) ∧ s6 = .int .i64 (k : Int) ∧ Sle stf 1 wr (some ⟨gA, oA, none⟩) (n) (c) (a) ∧ Sle stf 1 wr (some ⟨gB, oB, none⟩) (n) (d) (b) ∧ Below w.heap.size w wr)
    case atStart => exact ⟨0, Nat.sub_zero _, Nat.zero_le _, Lib.hid rfl, rfl, la, lb, bel⟩
    case round =>
      clear la lb bel
      obtain ⟨k, HGK, hk, HI, rfl, la, lb, bel⟩ := hrel
      have HGK_ := Lib.hid HGK
      clear HGK
      have q0 : (0 : Int) ≤ k := by omega
      by_cases h4 : k < kx
      rotate_left
      · obtain rfl : k = kx := by omega
        have HE2 : Hid ((lowN a).take (i + 1) = (lowN b).take (i + 1)) := Lib.hid (eq_next HE.out (by unfold lowN; rw [map_at HX.out, map_at HY.out, eq_end HI.out (by rw [List.length_map, HKX.out]; exact Nat.le_refl _) (by rw [List.length_map, HKY.out]; exact Nat.le_refl _)]))
        replace h4 : decide (k < k) = false := decide_eq_false (by omega)
        have R33 := Sle.st (i := i) la HX.out
        have R34 := fun W => st_lenN HKX.out 3 W
        go_wp2_with fail
        clear R33 R34
        go_roundg (n - (i + 1))
        case measure => have := HGKo.out; omega
        case rel => exact ⟨i + 1, rfl, h, HE2, by go_num, la, lb, bel⟩
      obtain ⟨cx, HCX_⟩ : ∃ u_, x[k]? = some u_ := ⟨_, List.getElem?_eq_getElem (by rw [HKX.out]; exact h4)⟩
      have HCX := Lib.hid HCX_
      clear HCX_
      obtain ⟨cy, HCY_⟩ : ∃ u_, y[k]? = some u_ := ⟨_, List.getElem?_eq_getElem (by rw [HKY.out]; exact h4)⟩
      have HCY := Lib.hid HCY_
      clear HCY_
      obtain ⟨p, HP_⟩ : ∃ b, ((lowB cx).toNat : Int) = b := ⟨_, rfl⟩
      have HP := Lib.hid HP_
      clear HP_
      obtain ⟨q, HQ_⟩ : ∃ b, ((lowB cy).toNat : Int) = b := ⟨_, rfl⟩
      have HQ := Lib.hid HQ_
      clear HQ_
      have R43 := fun W => st_index HCX.out W
      have R50 := fun W => st_index HCY.out W
      by_cases hpq : p = q
      · subst hpq
        have HI2 : Hid ((x.map lowB).take (k + 1) = (y.map lowB).take (k + 1)) := Lib.hid (eq_next HI.out (by rw [map_at HCX.out, map_at HCY.out, UInt8.toNat_inj.1 (Int.ofNat.inj (HP.out.trans HQ.out.symm))]))
        have R33 := Sle.st (i := i) la HX.out
        have R34 := fun W => st_lenN HKX.out 3 W
        go_wp2_with fail
        clear R33 R34
        replace bel := bel.drew
        replace la := la.drew
        replace lb := lb.drew
        refine wp_region_held_drew (S := fun W => Sle stf 1 W (some ⟨gA, oA, none⟩) (n) (c) (a) ∧ Sle stf 1 W (some ⟨gB, oB, none⟩) (n) (d) (b)) (by kernel_rfl) ⟨la, lb⟩ (fun hH => ?_)
        generalize wr.drew = w2 at bel la lb hH ⊢
        refine wpAnyH_take (i := 0) (v := ?_) rfl (by kernel_rfl) (by kernel_rfl) (by kernel_rfl) (fun _ _ _ h => h) (Or.inl ⟨by rfl, ?_⟩) hH ?_
        rotate_left
        · ((intro W hW; clear hW; go_simp) <;> with_reducible rfl)
        simp only [Act.put, List.getElem_toArray, List.getElem_cons_zero, List.setIfInBounds_toArray, List.set_cons_zero, List.set_cons_succ]
        refine wpAnyH_take (i := 1) (v := ?_) rfl (by kernel_rfl) (by kernel_rfl) (by kernel_rfl) (fun _ _ _ h => h) (Or.inl ⟨by rfl, ?_⟩) hH ?_
        rotate_left
        · ((intro W hW; clear hW; go_simp) <;> with_reducible rfl)
        simp only [Act.put, List.getElem_toArray, List.getElem_cons_zero, List.getElem_cons_succ, List.setIfInBounds_toArray, List.set_cons_zero, List.set_cons_succ]
        refine wpAnyH_take (i := 2) (v := ?_) rfl (by kernel_rfl) (by kernel_rfl) (by kernel_rfl) (fun _ _ _ h => h) (Or.inl ⟨by rfl, ?_⟩) hH ?_
        rotate_left
        · ((intro W hW; clear hW; go_simp) <;> with_reducible rfl)
        simp only [Act.put, List.getElem_toArray, List.getElem_cons_zero, List.getElem_cons_succ, List.setIfInBounds_toArray, List.set_cons_zero, List.set_cons_succ]
        refine wpAnyH_take (i := 3) (v := ?_) rfl (by kernel_rfl) (by kernel_rfl) (by kernel_rfl) (fun _ _ _ h => h) (Or.inl ⟨by rfl, ?_⟩) hH ?_
        rotate_left
        · ((intro W hW; have hk := Sle.st (i := i) (hW.1) HX.out; clear hW; go_simp) <;> with_reducible rfl)
        simp only [Act.put, List.getElem_toArray, List.getElem_cons_zero, List.getElem_cons_succ, List.setIfInBounds_toArray, List.set_cons_zero, List.set_cons_succ]
        refine wpAnyH_take (i := 4) (v := ?_) rfl (by kernel_rfl) (by kernel_rfl) (by kernel_rfl) (fun _ _ _ h => h) (Or.inl ⟨by rfl, ?_⟩) hH ?_
        rotate_left
        · ((intro W hW; clear hW; go_simp) <;> with_reducible rfl)
        simp only [Act.put, List.getElem_toArray, List.getElem_cons_zero, List.getElem_cons_succ, List.setIfInBounds_toArray, List.set_cons_zero, List.set_cons_succ]
        refine wpAnyH_take (i := 5) (v := ?_) rfl (by kernel_rfl) (by kernel_rfl) (by kernel_rfl) (fun _ _ _ h => h) (Or.inl ⟨by rfl, ?_⟩) hH ?_
        rotate_left
        · ((intro W hW; clear hW; go_simp) <;> with_reducible rfl)
        simp only [Act.put, List.getElem_toArray, List.getElem_cons_zero, List.getElem_cons_succ, List.setIfInBounds_toArray, List.set_cons_zero, List.set_cons_succ]
        refine wpAnyH_take (i := 7) (v := ?_) rfl (by kernel_rfl) (by kernel_rfl) (by kernel_rfl) (fun _ _ _ h => h) (Or.inl ⟨by rfl, ?_⟩) hH ?_
        rotate_left
        · ((intro W hW; clear hW; go_simp) <;> with_reducible rfl)
        simp only [Act.put, List.getElem_toArray, List.getElem_cons_zero, List.getElem_cons_succ, List.setIfInBounds_toArray, List.set_cons_zero, List.set_cons_succ]
        refine wpAnyH_take (i := 8) (v := ?_) rfl (by kernel_rfl) (by kernel_rfl) (by kernel_rfl) (fun _ _ _ h => h) (Or.inl ⟨by rfl, ?_⟩) hH ?_
        rotate_left
        · ((intro W hW; clear hW; go_simp) <;> with_reducible rfl)
        simp only [Act.put, List.getElem_toArray, List.getElem_cons_zero, List.getElem_cons_succ, List.setIfInBounds_toArray, List.set_cons_zero, List.set_cons_succ]
        refine wpAnyH_take (i := 9) (v := ?_) rfl (by kernel_rfl) (by kernel_rfl) (by kernel_rfl) (fun _ _ _ h => h) (Or.inl ⟨by rfl, ?_⟩) hH ?_
        rotate_left
        · ((intro W hW; clear hW; go_simp) <;> with_reducible rfl)
        simp only [Act.put, List.getElem_toArray, List.getElem_cons_zero, List.getElem_cons_succ, List.setIfInBounds_toArray, List.set_cons_zero, List.set_cons_succ]
        refine wpAnyH_take (i := 10) (v := ?_) rfl (by kernel_rfl) (by kernel_rfl) (by kernel_rfl) (fun _ _ _ h => h) (Or.inl ⟨by rfl, ?_⟩) hH ?_
        rotate_left
        · ((intro W hW; have hk := Sle.st (i := i) (hW.2) HY.out; clear hW; go_simp) <;> with_reducible rfl)
        simp only [Act.put, List.getElem_toArray, List.getElem_cons_zero, List.getElem_cons_succ, List.setIfInBounds_toArray, List.set_cons_zero, List.set_cons_succ]
        refine wpAnyH_take (i := 11) (v := ?_) rfl (by kernel_rfl) (by kernel_rfl) (by kernel_rfl) (fun _ _ _ h => h) (Or.inl ⟨by rfl, ?_⟩) hH ?_
        rotate_left
        · ((intro W hW; clear hW; go_simp) <;> with_reducible rfl)
        simp only [Act.put, List.getElem_toArray, List.getElem_cons_zero, List.getElem_cons_succ, List.setIfInBounds_toArray, List.set_cons_zero, List.set_cons_succ]
        refine wpAnyH_take (i := 12) (v := ?_) rfl (by kernel_rfl) (by kernel_rfl) (by kernel_rfl) (fun _ _ _ h => h) (Or.inl ⟨by rfl, ?_⟩) hH ?_
        rotate_left
        · ((intro W hW; clear hW; go_simp) <;> with_reducible rfl)
        simp only [Act.put, List.getElem_toArray, List.getElem_cons_zero, List.getElem_cons_succ, List.setIfInBounds_toArray, List.set_cons_zero, List.set_cons_succ]
        refine wpAnyH_ready (rs := [6]) (by kernel_rfl) (by simp) ?_
        refine AllReadyH.cons (o := _) rfl (fun K hK => ?_) AllReadyH.nil
        simp only [List.getElem_toArray, List.getElem_cons_zero, List.getElem_cons_succ]
        go_simp
        with_reducible refine (rlow_any _ _).mono ?_
        rintro e _ ⟨rfl, rfl⟩
        dsimp only
        rw [HP.out]
        refine hK.out _ _ ⟨la, lb⟩ (fun hH3 => ?_)
        clear hK K
        refine wpAnyH_ready (rs := [13]) (by kernel_rfl) (by simp) ?_
        refine AllReadyH.cons (o := _) rfl (fun K hK => ?_) AllReadyH.nil
        simp only [List.getElem_toArray, List.getElem_cons_zero, List.getElem_cons_succ]
        go_simp
        with_reducible refine (rlow_any _ _).mono ?_
        rintro e _ ⟨rfl, rfl⟩
        dsimp only
        rw [HQ.out]
        refine hK.out _ _ ⟨la, lb⟩ (fun hH4 => ?_)
        clear hK K
        refine wpAnyH_take (i := 14) (v := ?_) rfl (by kernel_rfl) (by kernel_rfl) (by kernel_rfl) (fun _ _ _ h => h) (Or.inl ⟨by rfl, ?_⟩) hH4 ?_
        rotate_left
        · ((intro W hW; clear hW; go_simp) <;> with_reducible rfl)
        simp only [Act.put, List.getElem_toArray, List.getElem_cons_zero, List.getElem_cons_succ, List.setIfInBounds_toArray, List.set_cons_zero, List.set_cons_succ]
        refine wpAnyH_done (by kernel_rfl) ?_ _
        go_wp2_with fail
        go_roundg (kx - (k + 1))
        case measure => have := HGK_.out; omega
        case rel => exact ⟨k + 1, rfl, h4, HI2, by go_num, la, lb, bel⟩
      have t0 : (p == q) = false := by simpa using hpq
      have t1 : (p != q) = true := by simpa using hpq
      have HF : Hid (sameN a b = false) := Lib.hid (decide_eq_false (ne_at (i := i) (by unfold lowN; rw [map_at HX.out, map_at HY.out]; intro e; exact ne_at (i := k) (by rw [map_at HCX.out, map_at HCY.out]; intro e; exact hpq (HP.out.symm.trans ((congrArg (fun b : UInt8 => (b.toNat : Int)) (Option.some.inj e)).trans HQ.out))) (Option.some.inj e))))
      clear hpq
      have R33 := Sle.st (i := i) la HX.out
      have R34 := fun W => st_lenN HKX.out 3 W
      go_wp2_with fail
      clear R33 R34
      replace bel := bel.drew
      replace la := la.drew
      replace lb := lb.drew
      refine wp_region_held_drew (S := fun W => Sle stf 1 W (some ⟨gA, oA, none⟩) (n) (c) (a) ∧ Sle stf 1 W (some ⟨gB, oB, none⟩) (n) (d) (b)) (by kernel_rfl) ⟨la, lb⟩ (fun hH => ?_)
      generalize wr.drew = w2 at bel la lb hH ⊢
      refine wpAnyH_take (i := 0) (v := ?_) rfl (by kernel_rfl) (by kernel_rfl) (by kernel_rfl) (fun _ _ _ h => h) (Or.inl ⟨by rfl, ?_⟩) hH ?_
      rotate_left
      · ((intro W hW; clear hW; go_simp) <;> with_reducible rfl)
      simp only [Act.put, List.getElem_toArray, List.getElem_cons_zero, List.setIfInBounds_toArray, List.set_cons_zero, List.set_cons_succ]
      refine wpAnyH_take (i := 1) (v := ?_) rfl (by kernel_rfl) (by kernel_rfl) (by kernel_rfl) (fun _ _ _ h => h) (Or.inl ⟨by rfl, ?_⟩) hH ?_
      rotate_left
      · ((intro W hW; clear hW; go_simp) <;> with_reducible rfl)
      simp only [Act.put, List.getElem_toArray, List.getElem_cons_zero, List.getElem_cons_succ, List.setIfInBounds_toArray, List.set_cons_zero, List.set_cons_succ]
      refine wpAnyH_take (i := 2) (v := ?_) rfl (by kernel_rfl) (by kernel_rfl) (by kernel_rfl) (fun _ _ _ h => h) (Or.inl ⟨by rfl, ?_⟩) hH ?_
      rotate_left
      · ((intro W hW; clear hW; go_simp) <;> with_reducible rfl)
      simp only [Act.put, List.getElem_toArray, List.getElem_cons_zero, List.getElem_cons_succ, List.setIfInBounds_toArray, List.set_cons_zero, List.set_cons_succ]
      refine wpAnyH_take (i := 3) (v := ?_) rfl (by kernel_rfl) (by kernel_rfl) (by kernel_rfl) (fun _ _ _ h => h) (Or.inl ⟨by rfl, ?_⟩) hH ?_
      rotate_left
      · ((intro W hW; have hk := Sle.st (i := i) (hW.1) HX.out; clear hW; go_simp) <;> with_reducible rfl)
      simp only [Act.put, List.getElem_toArray, List.getElem_cons_zero, List.getElem_cons_succ, List.setIfInBounds_toArray, List.set_cons_zero, List.set_cons_succ]
      refine wpAnyH_take (i := 4) (v := ?_) rfl (by kernel_rfl) (by kernel_rfl) (by kernel_rfl) (fun _ _ _ h => h) (Or.inl ⟨by rfl, ?_⟩) hH ?_
      rotate_left
      · ((intro W hW; clear hW; go_simp) <;> with_reducible rfl)
      simp only [Act.put, List.getElem_toArray, List.getElem_cons_zero, List.getElem_cons_succ, List.setIfInBounds_toArray, List.set_cons_zero, List.set_cons_succ]
      refine wpAnyH_take (i := 5) (v := ?_) rfl (by kernel_rfl) (by kernel_rfl) (by kernel_rfl) (fun _ _ _ h => h) (Or.inl ⟨by rfl, ?_⟩) hH ?_
      rotate_left
      · ((intro W hW; clear hW; go_simp) <;> with_reducible rfl)
      simp only [Act.put, List.getElem_toArray, List.getElem_cons_zero, List.getElem_cons_succ, List.setIfInBounds_toArray, List.set_cons_zero, List.set_cons_succ]
      refine wpAnyH_take (i := 7) (v := ?_) rfl (by kernel_rfl) (by kernel_rfl) (by kernel_rfl) (fun _ _ _ h => h) (Or.inl ⟨by rfl, ?_⟩) hH ?_
      rotate_left
      · ((intro W hW; clear hW; go_simp) <;> with_reducible rfl)
      simp only [Act.put, List.getElem_toArray, List.getElem_cons_zero, List.getElem_cons_succ, List.setIfInBounds_toArray, List.set_cons_zero, List.set_cons_succ]
      refine wpAnyH_take (i := 8) (v := ?_) rfl (by kernel_rfl) (by kernel_rfl) (by kernel_rfl) (fun _ _ _ h => h) (Or.inl ⟨by rfl, ?_⟩) hH ?_
      rotate_left
      · ((intro W hW; clear hW; go_simp) <;> with_reducible rfl)
      simp only [Act.put, List.getElem_toArray, List.getElem_cons_zero, List.getElem_cons_succ, List.setIfInBounds_toArray, List.set_cons_zero, List.set_cons_succ]
      refine wpAnyH_take (i := 9) (v := ?_) rfl (by kernel_rfl) (by kernel_rfl) (by kernel_rfl) (fun _ _ _ h => h) (Or.inl ⟨by rfl, ?_⟩) hH ?_
      rotate_left
      · ((intro W hW; clear hW; go_simp) <;> with_reducible rfl)
      simp only [Act.put, List.getElem_toArray, List.getElem_cons_zero, List.getElem_cons_succ, List.setIfInBounds_toArray, List.set_cons_zero, List.set_cons_succ]
      refine wpAnyH_take (i := 10) (v := ?_) rfl (by kernel_rfl) (by kernel_rfl) (by kernel_rfl) (fun _ _ _ h => h) (Or.inl ⟨by rfl, ?_⟩) hH ?_
      rotate_left
      · ((intro W hW; have hk := Sle.st (i := i) (hW.2) HY.out; clear hW; go_simp) <;> with_reducible rfl)
      simp only [Act.put, List.getElem_toArray, List.getElem_cons_zero, List.getElem_cons_succ, List.setIfInBounds_toArray, List.set_cons_zero, List.set_cons_succ]
      refine wpAnyH_take (i := 11) (v := ?_) rfl (by kernel_rfl) (by kernel_rfl) (by kernel_rfl) (fun _ _ _ h => h) (Or.inl ⟨by rfl, ?_⟩) hH ?_
      rotate_left
      · ((intro W hW; clear hW; go_simp) <;> with_reducible rfl)
      simp only [Act.put, List.getElem_toArray, List.getElem_cons_zero, List.getElem_cons_succ, List.setIfInBounds_toArray, List.set_cons_zero, List.set_cons_succ]
      refine wpAnyH_take (i := 12) (v := ?_) rfl (by kernel_rfl) (by kernel_rfl) (by kernel_rfl) (fun _ _ _ h => h) (Or.inl ⟨by rfl, ?_⟩) hH ?_
      rotate_left
      · ((intro W hW; clear hW; go_simp) <;> with_reducible rfl)
      simp only [Act.put, List.getElem_toArray, List.getElem_cons_zero, List.getElem_cons_succ, List.setIfInBounds_toArray, List.set_cons_zero, List.set_cons_succ]
      refine wpAnyH_ready (rs := [6]) (by kernel_rfl) (by simp) ?_
      refine AllReadyH.cons (o := _) rfl (fun K hK => ?_) AllReadyH.nil
      simp only [List.getElem_toArray, List.getElem_cons_zero, List.getElem_cons_succ]
      go_simp
      with_reducible refine (rlow_any _ _).mono ?_
      rintro e _ ⟨rfl, rfl⟩
      dsimp only
      rw [HP.out]
      refine hK.out _ _ ⟨la, lb⟩ (fun hH3 => ?_)
      clear hK K
      refine wpAnyH_ready (rs := [13]) (by kernel_rfl) (by simp) ?_
      refine AllReadyH.cons (o := _) rfl (fun K hK => ?_) AllReadyH.nil
      simp only [List.getElem_toArray, List.getElem_cons_zero, List.getElem_cons_succ]
      go_simp
      with_reducible refine (rlow_any _ _).mono ?_
      rintro e _ ⟨rfl, rfl⟩
      dsimp only
      rw [HQ.out]
      refine hK.out _ _ ⟨la, lb⟩ (fun hH4 => ?_)
      clear hK K
      refine wpAnyH_take (i := 14) (v := ?_) rfl (by kernel_rfl) (by kernel_rfl) (by kernel_rfl) (fun _ _ _ h => h) (Or.inl ⟨by rfl, ?_⟩) hH4 ?_
      rotate_left
      · ((intro W hW; clear hW; go_simp) <;> with_reducible rfl)
      simp only [Act.put, List.getElem_toArray, List.getElem_cons_zero, List.getElem_cons_succ, List.setIfInBounds_toArray, List.set_cons_zero, List.set_cons_succ]
      refine wpAnyH_done (by kernel_rfl) ?_ _
      go_wp2_with fail
      go_ret
      exact ⟨by rw [HF.out]; rfl, bel⟩
/-- Is a name more than is asked of? -/
def longN (l : List (List UInt8)) : Bool := decide (200 < l.length) || l.any fun x => decide (300 < x.length)
theorem long_no {l : List (List UInt8)} (h : longN l = false) : l.length ≤ 200 ∧ ∀ x ∈ l, x.length ≤ 300 := by
  unfold longN at h
  rw [Bool.or_eq_false_iff] at h
  refine ⟨by have := of_decide_eq_false h.1; omega, fun x hx => ?_⟩
  have := List.any_eq_false.1 h.2 x hx
  simpa using this
theorem long_of {l : List (List UInt8)} (h1 : l.length ≤ 200) (h2 : ∀ x ∈ l, x.length ≤ 300) : longN l = false := by
  unfold longN
  rw [Bool.or_eq_false_iff]
  exact ⟨decide_eq_false (by omega), List.any_eq_false.2 fun x hx => by have := h2 x hx; simpa using this⟩
theorem long_at {l : List (List UInt8)} {i : Nat} {x : List UInt8} (h : l[i]? = some x) (hx : 300 < x.length) : longN l = true := by
  unfold longN
  rw [Bool.or_eq_true]
  exact .inr (List.any_eq_true.2 ⟨x, List.mem_of_getElem? h, decide_eq_true hx⟩)
theorem short_next {l : List (List UInt8)} {i : Nat} {x : List UInt8} (h : ∀ y ∈ l.take i, y.length ≤ 300) (hi : l[i]? = some x) (hx : x.length ≤ 300) : ∀ y ∈ l.take (i + 1), y.length ≤ 300 := by
  rw [take_next hi]
  intro y hy
  rcases List.mem_append.1 hy with h1 | h1
  · exact h y h1
  · rw [List.mem_singleton.1 h1]; exact hx
set_option linter.unusedVariables false in
set_option linter.unusedSimpArgs false in
set_option maxRecDepth 100000 in
set_option maxHeartbeats 16000000 in
theorem llong_any (A : Option Addr) (n c : Nat) (l : List (List UInt8)) (w : World) (la : Sle stf 1 w A n c l) : Calls Tryd.prog 17 #[.slice A n c] w fun e w' => e = .returned (.bool (longN l)) ∧ w = w' := by
  have HN := Lib.hid la.1
  skip
  go_enter Tryd.func17, Tryd.ntmps17
  by_cases h2 : n ≤ 200
  rotate_left
  · have h3 : (200 : Int) < n := by omega
    have HF : Hid (longN l = true) := Lib.hid (by unfold longN; rw [HN.out, decide_eq_true (by omega), Bool.true_or])
    clear h2
    go_wp2_with fail
    go_ret
    exact ⟨by rw [HF.out]; rfl, rfl⟩
  have hb : (n : Int) ≤ 200 := by omega
  have h3 : decide ((200 : Int) < n) = false := decide_eq_false (by omega)
  go_wp2_with fail
  go_loopg [3] (n) (fun gk s3 wr => ∃ i : Nat, gk = n - i ∧ i ≤ n ∧ Hid (∀ y ∈ l.take i, y.length ≤ 300) ∧ s3 = .int .i64 (i : Int) ∧ w = wr)
  case atStart => exact ⟨0, Nat.sub_zero _, Nat.zero_le _, Lib.hid (fun y hy => by simp at hy), rfl, rfl⟩
  case round =>
    obtain ⟨i, HGK, hi, HO, rfl, rfl⟩ := hrel
    have HGK_ := Lib.hid HGK
    clear HGK
    have i0 : (0 : Int) ≤ i := by omega
    by_cases h : i < n
    rotate_left
    · have HF : Hid (longN l = false) := Lib.hid (long_of (by rw [HN.out]; exact h2) (by have h_ := HO.out; rw [take_full (by rw [HN.out]; exact h)] at h_; exact h_))
      replace h : decide (i < n) = false := decide_eq_false h
      go_wp2_with fail
      go_ret
      exact ⟨by rw [HF.out]; rfl, rfl⟩
    obtain ⟨gA, oA, rfl⟩ := la.place (by omega)
    obtain ⟨x, HX_⟩ : ∃ u_, l[i]? = some u_ := ⟨_, List.getElem?_eq_getElem (by rw [HN.out]; exact h)⟩
    have HX := Lib.hid HX_
    clear HX_
    obtain ⟨k, HK_⟩ : ∃ b, x.length = b := ⟨_, rfl⟩
    have HK := Lib.hid HK_
    clear HK_
    by_cases h4 : k ≤ 300
    rotate_left
    · have h5 : (300 : Int) < k := by omega
      have HF : Hid (longN l = true) := Lib.hid (long_at HX.out (by rw [HK.out]; omega))
      clear h4
      have R16 := Sle.st (i := i) la HX.out
      have R17 := fun W => st_lenN HK.out 3 W
      go_wp2_with fail
      clear R16 R17
      go_ret
      exact ⟨by rw [HF.out]; rfl, rfl⟩
    have h5 : decide ((300 : Int) < k) = false := decide_eq_false (by omega)
    have R16 := Sle.st (i := i) la HX.out
    have R17 := fun W => st_lenN HK.out 3 W
    go_wp2_with fail
    clear R16 R17
    go_roundg (n - (i + 1))
    case measure => have := HGK_.out; omega
    case rel => exact ⟨i + 1, rfl, h, Lib.hid (short_next HO.out HX.out (by rw [HK.out]; exact h4)), by go_num, rfl⟩
set_option linter.unusedVariables false in
set_option linter.unusedSimpArgs false in
set_option maxRecDepth 100000 in
set_option maxHeartbeats 16000000 in
theorem lexact_n (A B : Option Addr) (n c d : Nat) (l : List (List UInt8)) (w : World) (la : Sle stf 1 w A n c l) (lb : Sle stf 1 w B n d l) (hn : n ≤ 100000) : Calls Tryd.prog 14 #[.slice A n c, .slice B n d] w fun e w' => e = .returned (.bool true) ∧ Below w.heap.size w w' := by
  have HN := Lib.hid la.1
  have hb : (n : Int) ≤ 100000 := by omega
  have bel := Below.refl w.heap.size w
  go_enter Tryd.func14, Tryd.ntmps14
  go_wp2_with fail
  go_loopg [5] (n) (fun gk s5 wr => ∃ i : Nat, gk = n - i ∧ i ≤ n ∧ s5 = .int .i64 (i : Int) ∧ Sle stf 1 wr (A) (n) (c) (l) ∧ Sle stf 1 wr (B) (n) (d) (l) ∧ Below w.heap.size w wr)
  case atStart => exact ⟨0, Nat.sub_zero _, Nat.zero_le _, rfl, la, lb, bel⟩
  case round =>
    clear la lb bel
    obtain ⟨i, HGK, hi, rfl, la, lb, bel⟩ := hrel
    have HGK_ := Lib.hid HGK
    clear HGK
    have i0 : (0 : Int) ≤ i := by omega
    by_cases h : i < n
    rotate_left
    · obtain rfl : i = n := by omega
      replace h : decide (i < i) = false := decide_eq_false (by omega)
      go_wp2_with fail
      go_ret
      exact ⟨rfl, bel⟩
    obtain ⟨gA, oA, rfl⟩ := la.place (by omega)
    obtain ⟨gB, oB, rfl⟩ := lb.place (by omega)
    obtain ⟨x, HX_⟩ : ∃ u_, l[i]? = some u_ := ⟨_, List.getElem?_eq_getElem (by rw [HN.out]; exact h)⟩
    have HX := Lib.hid HX_
    clear HX_
    go_wp2_with fail
    replace bel := bel.drew
    replace la := la.drew
    replace lb := lb.drew
    refine wp_region_held_drew (S := fun W => Sle stf 1 W (some ⟨gA, oA, none⟩) (n) (c) (l) ∧ Sle stf 1 W (some ⟨gB, oB, none⟩) (n) (d) (l)) (by kernel_rfl) ⟨la, lb⟩ (fun hH => ?_)
    generalize wr.drew = w1 at bel la lb hH ⊢
    refine wpAnyH_take (i := 0) (v := ?_) rfl (by kernel_rfl) (by kernel_rfl) (by kernel_rfl) (fun _ _ _ h => h) (Or.inl ⟨by rfl, ?_⟩) hH ?_
    rotate_left
    · ((intro W hW; clear hW; go_simp) <;> with_reducible rfl)
    simp only [Act.put, List.getElem_toArray, List.getElem_cons_zero, List.setIfInBounds_toArray, List.set_cons_zero, List.set_cons_succ]
    refine wpAnyH_take (i := 1) (v := ?_) rfl (by kernel_rfl) (by kernel_rfl) (by kernel_rfl) (fun _ _ _ h => h) (Or.inl ⟨by rfl, ?_⟩) hH ?_
    rotate_left
    · ((intro W hW; clear hW; go_simp) <;> with_reducible rfl)
    simp only [Act.put, List.getElem_toArray, List.getElem_cons_zero, List.getElem_cons_succ, List.setIfInBounds_toArray, List.set_cons_zero, List.set_cons_succ]
    refine wpAnyH_take (i := 2) (v := ?_) rfl (by kernel_rfl) (by kernel_rfl) (by kernel_rfl) (fun _ _ _ h => h) (Or.inl ⟨by rfl, ?_⟩) hH ?_
    rotate_left
    · ((intro W hW; clear hW; go_simp) <;> with_reducible rfl)
    simp only [Act.put, List.getElem_toArray, List.getElem_cons_zero, List.getElem_cons_succ, List.setIfInBounds_toArray, List.set_cons_zero, List.set_cons_succ]
    refine wpAnyH_take (i := 3) (v := ?_) rfl (by kernel_rfl) (by kernel_rfl) (by kernel_rfl) (fun _ _ _ h => h) (Or.inl ⟨by rfl, ?_⟩) hH ?_
    rotate_left
    · ((intro W hW; have hk := Sle.st (i := i) (hW.1) HX.out; clear hW; go_simp) <;> with_reducible rfl)
    simp only [Act.put, List.getElem_toArray, List.getElem_cons_zero, List.getElem_cons_succ, List.setIfInBounds_toArray, List.set_cons_zero, List.set_cons_succ]
    refine wpAnyH_take (i := 4) (v := ?_) rfl (by kernel_rfl) (by kernel_rfl) (by kernel_rfl) (fun _ _ _ h => h) (Or.inl ⟨by rfl, ?_⟩) hH ?_
    rotate_left
    · ((intro W hW; clear hW; go_simp) <;> with_reducible rfl)
    simp only [Act.put, List.getElem_toArray, List.getElem_cons_zero, List.getElem_cons_succ, List.setIfInBounds_toArray, List.set_cons_zero, List.set_cons_succ]
    refine wpAnyH_take (i := 5) (v := ?_) rfl (by kernel_rfl) (by kernel_rfl) (by kernel_rfl) (fun _ _ _ h => h) (Or.inl ⟨by rfl, ?_⟩) hH ?_
    rotate_left
    · ((intro W hW; clear hW; go_simp) <;> with_reducible rfl)
    simp only [Act.put, List.getElem_toArray, List.getElem_cons_zero, List.getElem_cons_succ, List.setIfInBounds_toArray, List.set_cons_zero, List.set_cons_succ]
    refine wpAnyH_take (i := 6) (v := ?_) rfl (by kernel_rfl) (by kernel_rfl) (by kernel_rfl) (fun _ _ _ h => h) (Or.inl ⟨by rfl, ?_⟩) hH ?_
    rotate_left
    · ((intro W hW; clear hW; go_simp) <;> with_reducible rfl)
    simp only [Act.put, List.getElem_toArray, List.getElem_cons_zero, List.getElem_cons_succ, List.setIfInBounds_toArray, List.set_cons_zero, List.set_cons_succ]
    refine wpAnyH_take (i := 7) (v := ?_) rfl (by kernel_rfl) (by kernel_rfl) (by kernel_rfl) (fun _ _ _ h => h) (Or.inl ⟨by rfl, ?_⟩) hH ?_
    rotate_left
    · ((intro W hW; have hk := Sle.st (i := i) (hW.2) HX.out; clear hW; go_simp) <;> with_reducible rfl)
    simp only [Act.put, List.getElem_toArray, List.getElem_cons_zero, List.getElem_cons_succ, List.setIfInBounds_toArray, List.set_cons_zero, List.set_cons_succ]
    refine wpAnyH_take (i := 8) (v := ?_) rfl (by kernel_rfl) (by kernel_rfl) (by kernel_rfl) (fun _ _ _ h => h) (Or.inl ⟨by rfl, ?_⟩) hH ?_
    rotate_left
    · ((intro W hW; clear hW; go_simp) <;> with_reducible rfl)
    simp only [Act.put, List.getElem_toArray, List.getElem_cons_zero, List.getElem_cons_succ, List.setIfInBounds_toArray, List.set_cons_zero, List.set_cons_succ]
    refine wpAnyH_done (by kernel_rfl) ?_ _
    go_wp2_with fail
    go_roundg (n - (i + 1))
    case measure => have := HGK_.out; omega
    case rel => exact ⟨i + 1, rfl, h, by go_num, la, lb, bel⟩
theorem lexact_any (A B : Option Addr) (n c m d : Nat) (l : List (List UInt8)) (w : World) (la : Sle stf 1 w A n c l) (lb : Sle stf 1 w B m d l) (hn : n ≤ 100000) : Calls Tryd.prog 14 #[.slice A n c, .slice B m d] w fun e w' => e = .returned (.bool true) ∧ Below w.heap.size w w' := by
  obtain rfl : m = n := lb.1.symm.trans la.1
  exact lexact_n A B m c d l w la lb hn
end Go.Proofs.YtholgadifhjmgaaDoor
