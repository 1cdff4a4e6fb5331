/- The contract of the reference's GetFrame. -/
import Derived.Test.YtgaobeoddlmnjaaSlices
import Derived.Test.YtgaobeoddlmnjaaEth3
import Derived.Test.YtgaobeoddlmnjaaEth5
import Derived.Deep.RegionHeld3
namespace Go.Proofs.Ytgaobeoddlmnjaa
open Go.RowKit

theorem at16_b (A : Option Addr) (n c k : Nat) (l : List UInt8) (w : World) (hl : Sl w A n c l) (hk : k + 2 ≤ n) (hm : k + 2 ≤ 100000) :
    Calls Try.prog 27 #[.slice A n c, .int .i64 k] w fun e w' => e = .returned (.int .i64 (be ((l.drop k).take 2))) ∧ Below w.heap.size w w' := by
  refine (at16_any A n c k l w hl hk hm).mono ?_
  rintro e w1 ⟨rfl, q, rfl⟩
  exact ⟨rfl, rfl, rfl, rfl, Nat.le_refl _, fun _ _ => rfl⟩

set_option maxRecDepth 100000 in
theorem rget_long (A : Option Addr) (n c : Nat) (w : World) (h : 1514 < n) : Calls Try.prog 13 #[.slice A n c] w fun e w' => e = .returned (.tuple #[frame0, .int .i64 2]) ∧ Below w.heap.size w w' := by
  have hp := heap_alloc_new w (.cells #[.int .u8 0, .int .u8 0, .int .u8 0, .int .u8 0, .int .u8 0, .int .u8 0, .int .u8 0, .int .u8 0, .int .u8 0, .int .u8 0, .int .u8 0, .int .u8 0, .int .i64 0, .slice none 0 0] 35)
  have bel := (Below.refl w.heap.size w).alloc (Nat.le_refl _) (.cells #[.int .u8 0, .int .u8 0, .int .u8 0, .int .u8 0, .int .u8 0, .int .u8 0, .int .u8 0, .int .u8 0, .int .u8 0, .int .u8 0, .int .u8 0, .int .u8 0, .int .i64 0, .slice none 0 0] 35)
  have h1 : (1514 : Int) < n := by omega
  clear h
  go_enter Try.func13, Try.ntmps13
  go_wp2
  obtain ⟨⟨k0, k1, k2, k3, k4, k5, k6, k7, k8, k9, k10, k11, k12, k13⟩, _⟩ := cells14 hp
  exact bodyPost_ret (v := .tuple #[frame0, .int .i64 2]) (by simp [results, Try.results13, go_sem, k0, k1, k2, k3, k4, k5, k6, k7, k8, k9, k10, k11, k12, k13]) rfl ⟨rfl, bel⟩

set_option maxRecDepth 100000 in
theorem rget_short (A : Option Addr) (n c : Nat) (w : World) (h : n < 14) : Calls Try.prog 13 #[.slice A n c] w fun e w' => e = .returned (.tuple #[frame0, .int .i64 3]) ∧ Below w.heap.size w w' := by
  have hp := heap_alloc_new w (.cells #[.int .u8 0, .int .u8 0, .int .u8 0, .int .u8 0, .int .u8 0, .int .u8 0, .int .u8 0, .int .u8 0, .int .u8 0, .int .u8 0, .int .u8 0, .int .u8 0, .int .i64 0, .slice none 0 0] 35)
  have bel := (Below.refl w.heap.size w).alloc (Nat.le_refl _) (.cells #[.int .u8 0, .int .u8 0, .int .u8 0, .int .u8 0, .int .u8 0, .int .u8 0, .int .u8 0, .int .u8 0, .int .u8 0, .int .u8 0, .int .u8 0, .int .u8 0, .int .i64 0, .slice none 0 0] 35)
  have h1 : decide ((1514 : Int) < n) = false := decide_eq_false (by omega)
  have h2 : (n : Int) < 14 := by omega
  clear h
  go_enter Try.func13, Try.ntmps13
  go_wp2
  obtain ⟨⟨k0, k1, k2, k3, k4, k5, k6, k7, k8, k9, k10, k11, k12, k13⟩, _⟩ := cells14 hp
  exact bodyPost_ret (v := .tuple #[frame0, .int .i64 3]) (by simp [results, Try.results13, go_sem, k0, k1, k2, k3, k4, k5, k6, k7, k8, k9, k10, k11, k12, k13]) rfl ⟨rfl, bel⟩

set_option maxRecDepth 100000 in
set_option maxHeartbeats 16000000 in
theorem rget_ok (A : Option Addr) (n c : Nat) (a0 a1 a2 a3 a4 a5 m0 m1 m2 m3 m4 m5 x y : UInt8) (r : List UInt8) (w : World) (hl : Sl w A n c (a0 :: a1 :: a2 :: a3 :: a4 :: a5 :: m0 :: m1 :: m2 :: m3 :: m4 :: m5 :: x :: y :: r)) (hn : n ≤ 1514) :
    Calls Try.prog 13 #[.slice A n c] w fun e w' => ∃ A' c', e = .returned (.tuple #[.agg #[.int .u8 (a0.toNat : Int), .int .u8 (a1.toNat : Int), .int .u8 (a2.toNat : Int), .int .u8 (a3.toNat : Int), .int .u8 (a4.toNat : Int), .int .u8 (a5.toNat : Int), .int .u8 (m0.toNat : Int), .int .u8 (m1.toNat : Int), .int .u8 (m2.toNat : Int), .int .u8 (m3.toNat : Int), .int .u8 (m4.toNat : Int), .int .u8 (m5.toNat : Int), .int .i64 (be [x, y] : Nat), .slice A' r.length c'], .int .i64 0]) ∧ Sl w' A' r.length c' r ∧ Below w.heap.size w w' := by
  have hlen : n = 14 + r.length := by have := hl.1; simp at this; omega
  have t1 : decide ((1514 : Int) < n) = false := decide_eq_false (by omega)
  have t2 : decide ((n : Int) < 14) = false := decide_eq_false (by omega)
  have hp := heap_alloc_new w (.cells #[.int .u8 0, .int .u8 0, .int .u8 0, .int .u8 0, .int .u8 0, .int .u8 0, .int .u8 0, .int .u8 0, .int .u8 0, .int .u8 0, .int .u8 0, .int .u8 0, .int .i64 0, .slice none 0 0] 35)
  have bel := (Below.refl w.heap.size w).alloc (Nat.le_refl _) (.cells #[.int .u8 0, .int .u8 0, .int .u8 0, .int .u8 0, .int .u8 0, .int .u8 0, .int .u8 0, .int .u8 0, .int .u8 0, .int .u8 0, .int .u8 0, .int .u8 0, .int .i64 0, .slice none 0 0] 35)
  have zp : w.heap.size < (w.alloc (.cells #[.int .u8 0, .int .u8 0, .int .u8 0, .int .u8 0, .int .u8 0, .int .u8 0, .int .u8 0, .int .u8 0, .int .u8 0, .int .u8 0, .int .u8 0, .int .u8 0, .int .i64 0, .slice none 0 0] 35)).heap.size := by simp
  obtain ⟨A6, c6, s6, hb6⟩ := slice_back hl (k := 6) (by omega)
  obtain ⟨A14, c14, s14, hb14⟩ := slice_back hl (k := 14) (by omega)
  rw [show n - 14 = r.length by omega] at s14 hb14
  replace s6 : ∀ W, (Instr.slice 25 (.slice A n c) (some (.int .i64 6)) none none).run Try.prog W = .ok (.slice A6 (n - 6) c6) W := s6
  replace s14 : ∀ W, (Instr.slice 25 (.slice A n c) (some (.int .i64 14)) none none).run Try.prog W = .ok (.slice A14 r.length c14) W := s14
  replace hb6 : Sl w A6 (n - 6) c6 (m0 :: m1 :: m2 :: m3 :: m4 :: m5 :: x :: y :: r) := hb6
  replace hb14 : Sl w A14 r.length c14 r := hb14
  have M1 := Lib.hid fun W (h : Below w.heap.size w W) => rmac_any A n c a0 a1 a2 a3 a4 a5 _ W (hl.below h) (by omega)
  have M2 := Lib.hid fun W (h : Below w.heap.size w W) => rmac_any A6 (n - 6) c6 m0 m1 m2 m3 m4 m5 _ W (hb6.below h) (by omega)
  have M3 := Lib.hid fun W (h : Below w.heap.size w W) => (show Calls Try.prog 27 #[.slice A n c, .int .i64 12] W fun e w' => e = .returned (.int .i64 (be [x, y] : Nat)) ∧ Below W.heap.size W w' from at16_b A n c 12 _ W (hl.below h) (by omega) (by omega))
  have M4 := Lib.hid fun W (h : Below w.heap.size w W) => rcopied_any A14 r.length c14 r W (hb14.below h) (by omega)
  obtain ⟨tt, htt⟩ : ∃ tt : Nat, Hid (be [x, y] = tt) := ⟨_, Lib.hid rfl⟩
  rw [htt.out] at M3 ⊢
  generalize n - 6 = n6 at *
  clear hl hn hlen hb6 hb14
  go_enter Try.func13, Try.ntmps13
  go_wp2_with fail
  generalize w.alloc (.cells #[.int .u8 0, .int .u8 0, .int .u8 0, .int .u8 0, .int .u8 0, .int .u8 0, .int .u8 0, .int .u8 0, .int .u8 0, .int .u8 0, .int .u8 0, .int .u8 0, .int .i64 0, .slice none 0 0] 35) = v0 at hp zp bel ⊢
  refine wp_region_held_drew (S := fun _ => True) (by kernel_rfl) trivial (fun hH => ?_)
  refine wpAnyH_take (i := 0) (v := ?_) rfl (by kernel_rfl) (by kernel_rfl) (by kernel_rfl) (fun _ _ _ h => h) (Or.inl ⟨by rfl, ?_⟩) hH ?_
  rotate_left
  · ((intro w hw; clear hw; go_simp) <;> with_reducible rfl)
  simp only [Act.put, List.getElem_toArray, List.getElem_cons_zero, List.setIfInBounds_toArray, List.set_cons_zero, List.set_cons_succ]
  refine wpAnyH_take (i := 2) (v := ?_) rfl (by kernel_rfl) (by kernel_rfl) (by kernel_rfl) (fun _ _ _ h => h) (Or.inl ⟨by rfl, ?_⟩) hH ?_
  rotate_left
  · ((intro w hw; clear hw; go_simp) <;> with_reducible rfl)
  simp only [Act.put, List.getElem_toArray, List.getElem_cons_zero, List.getElem_cons_succ, List.setIfInBounds_toArray, List.set_cons_zero, List.set_cons_succ]
  refine wpAnyH_take (i := 3) (v := ?_) rfl (by kernel_rfl) (by kernel_rfl) (by kernel_rfl) (fun _ _ _ h => h) (Or.inl ⟨by rfl, ?_⟩) hH ?_
  rotate_left
  · ((intro w hw; clear hw; go_simp) <;> with_reducible rfl)
  simp only [Act.put, List.getElem_toArray, List.getElem_cons_zero, List.getElem_cons_succ, List.setIfInBounds_toArray, List.set_cons_zero, List.set_cons_succ]
  refine wpAnyH_take (i := 5) (v := ?_) rfl (by kernel_rfl) (by kernel_rfl) (by kernel_rfl) (fun _ _ _ h => h) (Or.inl ⟨by rfl, ?_⟩) hH ?_
  rotate_left
  · ((intro w hw; clear hw; go_simp) <;> with_reducible rfl)
  simp only [Act.put, List.getElem_toArray, List.getElem_cons_zero, List.getElem_cons_succ, List.setIfInBounds_toArray, List.set_cons_zero, List.set_cons_succ]
  refine wpAnyH_take (i := 7) (v := ?_) rfl (by kernel_rfl) (by kernel_rfl) (by kernel_rfl) (fun _ _ _ h => h) (Or.inl ⟨by rfl, ?_⟩) hH ?_
  rotate_left
  · ((intro w hw; clear hw; go_simp) <;> with_reducible rfl)
  simp only [Act.put, List.getElem_toArray, List.getElem_cons_zero, List.getElem_cons_succ, List.setIfInBounds_toArray, List.set_cons_zero, List.set_cons_succ]
  refine wpAnyH_take (i := 8) (v := ?_) rfl (by kernel_rfl) (by kernel_rfl) (by kernel_rfl) (fun _ _ _ h => h) (Or.inl ⟨by rfl, ?_⟩) hH ?_
  rotate_left
  · ((intro w hw; clear hw; go_simp) <;> with_reducible rfl)
  simp only [Act.put, List.getElem_toArray, List.getElem_cons_zero, List.getElem_cons_succ, List.setIfInBounds_toArray, List.set_cons_zero, List.set_cons_succ]
  refine wpAnyH_ready (rs := [1]) (by kernel_rfl) (by simp) ?_
  refine AllReadyH.cons (o := _) rfl (fun K hK => ?_) AllReadyH.nil
  simp only [List.getElem_toArray, List.getElem_cons_zero, List.getElem_cons_succ]
  go_simp
  with_reducible refine (M1.out _ bel.drew).mono ?_
  rintro e v1 ⟨rfl, b1⟩
  dsimp only
  have bel1 := bel.drew.trans (b1.mono bel.size)
  replace hp := (b1.block _ zp).trans hp
  replace zp := Nat.lt_of_lt_of_le zp b1.size
  refine hK.out _ _ trivial (fun hH1 => ?_)
  clear hK K
  refine wpAnyH_ready (rs := [4]) (by kernel_rfl) (by simp) ?_
  refine AllReadyH.cons (o := _) rfl (fun K hK => ?_) AllReadyH.nil
  simp only [List.getElem_toArray, List.getElem_cons_zero, List.getElem_cons_succ]
  go_simp
  with_reducible refine (M2.out _ bel1).mono ?_
  rintro e v2 ⟨rfl, b2⟩
  dsimp only
  have bel2 := bel1.trans (b2.mono bel1.size)
  replace hp := (b2.block _ zp).trans hp
  replace zp := Nat.lt_of_lt_of_le zp b2.size
  refine hK.out _ _ trivial (fun hH2 => ?_)
  clear hK K
  refine wpAnyH_ready (rs := [6]) (by kernel_rfl) (by simp) ?_
  refine AllReadyH.cons (o := _) rfl (fun K hK => ?_) AllReadyH.nil
  simp only [List.getElem_toArray, List.getElem_cons_zero, List.getElem_cons_succ]
  go_simp
  with_reducible refine (M3.out _ bel2).mono ?_
  rintro e v3 ⟨rfl, b3⟩
  dsimp only
  have bel3 := bel2.trans (b3.mono bel2.size)
  replace hp := (b3.block _ zp).trans hp
  replace zp := Nat.lt_of_lt_of_le zp b3.size
  refine hK.out _ _ trivial (fun hH3 => ?_)
  clear hK K
  refine wpAnyH_ready (rs := [9]) (by kernel_rfl) (by simp) ?_
  refine AllReadyH.cons (o := _) rfl (fun K hK => ?_) AllReadyH.nil
  simp only [List.getElem_toArray, List.getElem_cons_zero, List.getElem_cons_succ]
  go_simp
  with_reducible refine (M4.out _ bel3).mono ?_
  rintro e v4 ⟨A', c', rfl, hs, b4, hf⟩
  dsimp only
  have bel4 := bel3.trans (b4.mono bel3.size)
  have z3 := zp
  replace hp := (b4.block _ zp).trans hp
  replace zp := Nat.lt_of_lt_of_le zp b4.size
  have hfz := Nat.lt_of_lt_of_le z3 (Nat.le_refl _)
  have HP := Lib.hid hp
  obtain ⟨⟨p0, p1, p2, p3, p4, p5, p6, p7, p8, p9, p10, p11, p12, p13⟩, pf0, pf1, pf2, pf3, pf4, pf5, pf6, pf7, pf8, pf9, pf10, pf11, pf12, pf13⟩ := cells14 hp
  refine hK.out _ _ trivial (fun hH4 => ?_)
  clear hK K
  refine wpAnyH_take (i := 10) (v := ?_) rfl (by kernel_rfl) (by kernel_rfl) (by kernel_rfl) (fun _ _ _ h => h) (Or.inl ⟨by rfl, ?_⟩) hH4 ?_
  rotate_left
  · ((intro w hw; clear hw; go_simp) <;> with_reducible rfl)
  simp only [Act.put, List.getElem_toArray, List.getElem_cons_zero, List.getElem_cons_succ, List.setIfInBounds_toArray, List.set_cons_zero, List.set_cons_succ]
  refine wpAnyH_ready (rs := [11]) (by kernel_rfl) (by simp) ?_
  refine AllReadyH.cons (o := _) rfl (fun K hK => ?_) AllReadyH.nil
  simp only [List.getElem_toArray, List.getElem_cons_zero, List.getElem_cons_succ]
  go_simp
  refine hK.out _ _ trivial (fun _ => ?_)
  clear hK K
  refine wpAnyH_take (i := 12) (v := ?_) rfl (by kernel_rfl) (by kernel_rfl) (by kernel_rfl) (fun _ _ _ h => h) (Or.inl ⟨by rfl, ?_⟩) hH4 ?_
  rotate_left
  · ((intro w hw; clear hw; go_simp) <;> with_reducible rfl)
  simp only [Act.put, List.getElem_toArray, List.getElem_cons_zero, List.getElem_cons_succ, List.setIfInBounds_toArray, List.set_cons_zero, List.set_cons_succ]
  refine wpAnyH_done (by kernel_rfl) ?_ _
  go_wp2
  have R := put14 (y0 := .int .u8 (a0.toNat : Int)) (y1 := .int .u8 (a1.toNat : Int)) (y2 := .int .u8 (a2.toNat : Int)) (y3 := .int .u8 (a3.toNat : Int)) (y4 := .int .u8 (a4.toNat : Int)) (y5 := .int .u8 (a5.toNat : Int)) (y6 := .int .u8 (m0.toNat : Int)) (y7 := .int .u8 (m1.toNat : Int)) (y8 := .int .u8 (m2.toNat : Int)) (y9 := .int .u8 (m3.toNat : Int)) (y10 := .int .u8 (m4.toNat : Int)) (y11 := .int .u8 (m5.toNat : Int)) (y12 := .int .i64 (tt : Int)) (y13 := .slice A' r.length c') HP.out
  obtain ⟨⟨k0, k1, k2, k3, k4, k5, k6, k7, k8, k9, k10, k11, k12, k13⟩, _⟩ := cells14 R
  clear R
  exact bodyPost_ret (v := .tuple #[.agg #[.int .u8 (a0.toNat : Int), .int .u8 (a1.toNat : Int), .int .u8 (a2.toNat : Int), .int .u8 (a3.toNat : Int), .int .u8 (a4.toNat : Int), .int .u8 (a5.toNat : Int), .int .u8 (m0.toNat : Int), .int .u8 (m1.toNat : Int), .int .u8 (m2.toNat : Int), .int .u8 (m3.toNat : Int), .int .u8 (m4.toNat : Int), .int .u8 (m5.toNat : Int), .int .i64 (tt : Int), .slice A' r.length c'], .int .i64 0]) (by simp [results, Try.results13, go_sem, k0, k1, k2, k3, k4, k5, k6, k7, k8, k9, k10, k11, k12, k13]) rfl ⟨A', c', rfl, ((((((((((((((hs.setCell hf hfz _ _).setCell hf hfz _ _).setCell hf hfz _ _).setCell hf hfz _ _).setCell hf hfz _ _).setCell hf hfz _ _).setCell hf hfz _ _).setCell hf hfz _ _).setCell hf hfz _ _).setCell hf hfz _ _).setCell hf hfz _ _).setCell hf hfz _ _).setCell hf hfz _ _).setCell hf hfz _ _), bel14 _ _ _ _ _ _ _ _ _ _ _ _ _ _ bel4 (Nat.le_refl _)⟩
end Go.Proofs.Ytgaobeoddlmnjaa
