/- The contract of the reference's PutFrame. -/
import Derived.Test.YtgaobeoddlmnjaaEth4
import Derived.Test.YtgaobeoddlmnjaaEth5
import Derived.Deep.RegionHeld3
namespace Go.Proofs.Ytgaobeoddlmnjaa
open Go.RowKit

theorem ref16_o (A : Option Addr) (n c : Nat) (l : List UInt8) (v : Int) (w : World) (hl : Sl w A n c l) (hs : n + 2 ≤ 140737488355328) :
    Calls Try.prog 29 #[.slice A n c, .int .i64 v] w fun e w' => ∃ r, e = .returned r ∧ w'.ownsRow w.heap.size 5 1 r (n + 2) ((l ++ two v).map u8v) ∧ Below w.heap.size w w' := by
  obtain ⟨i, hi, hz0, hz1, hz2⟩ := info_parts Try.info5
  have hown := own_empty w
  have bel1 : Below w.heap.size w (w.alloc (.cells #[] 5)) := (Below.refl _ _).alloc (Nat.le_refl _) _
  have hl1 := hl.below bel1
  go_enter Try.func29, Try.ntmps29
  go_wp2_with (at_builtin; refine wpList_append_bytes _ rfl (.tmp 5) (.tmp 6) 25 rfl w.heap.size 5 i (.int .u8 0) Try.underlying25 hi hz0 hz1 hz2 rfl _ 0 [] rfl hown A n c l rfl hl1 ?c1 ?c2 ?_)
  case c1 => omega
  case c2 => exact bel1.size
  intro v2 w2 hown2 hg2 hat2
  have bel2 : Below w.heap.size w w2 := bel1.grown hg2 bel1.size (fun k h => by simp [Value.ownBlock] at h; omega)
  have hv2 : ∀ k, v2.ownBlock = some k → w.heap.size ≤ k := by
    intro k hk
    rcases hat2 with h | h
    · rw [h] at hk; simp [Value.ownBlock] at hk; omega
    · rw [h] at hk; simp at hk; omega
  clear hat2 hg2 hown hl1
  have hm := made2 v w2
  have hown3 := hown2.alloc (.cells #[.int .u8 (v / 256 % 256), .int .u8 (v % 256)] 5)
  have bel3 := bel2.alloc bel2.size (.cells #[.int .u8 (v / 256 % 256), .int .u8 (v % 256)] 5)
  go_wp2_with (at_builtin; refine wpList_append_bytes _ rfl (.tmp 7) (.tmp 13) 25 rfl w.heap.size 5 i (.int .u8 0) Try.underlying25 hi hz0 hz1 hz2 rfl _ n l rfl hown3 _ 2 2 (two v) rfl hm ?c1 ?c2 ?_)
  case c1 => omega
  case c2 => exact bel3.size
  intro v4 w4 hown4 hg4 hat4
  have bel4 : Below w.heap.size w w4 := bel3.grown hg4 bel3.size hv2
  clear hat4 hv2
  rw [← List.map_append] at hown4
  go_wp2
  go_ret
  exact ⟨v4, rfl, hown4, bel4⟩

set_option maxRecDepth 100000 in
theorem rput_long (a0 a1 a2 a3 a4 a5 m0 m1 m2 m3 m4 m5 : UInt8) (t : Int) (S : Option Addr) (n c : Nat) (w : World) (h : 1500 < n) : Calls Try.prog 14 #[.agg #[.int .u8 (a0.toNat : Int), .int .u8 (a1.toNat : Int), .int .u8 (a2.toNat : Int), .int .u8 (a3.toNat : Int), .int .u8 (a4.toNat : Int), .int .u8 (a5.toNat : Int), .int .u8 (m0.toNat : Int), .int .u8 (m1.toNat : Int), .int .u8 (m2.toNat : Int), .int .u8 (m3.toNat : Int), .int .u8 (m4.toNat : Int), .int .u8 (m5.toNat : Int), .int .i64 t, .slice S n c]] w fun e w' => e = .returned (.tuple #[.slice none 0 0, .int .i64 2]) ∧ Below w.heap.size w w' := by
  have hp := heap_alloc_new w (.cells #[.int .u8 (a0.toNat : Int), .int .u8 (a1.toNat : Int), .int .u8 (a2.toNat : Int), .int .u8 (a3.toNat : Int), .int .u8 (a4.toNat : Int), .int .u8 (a5.toNat : Int), .int .u8 (m0.toNat : Int), .int .u8 (m1.toNat : Int), .int .u8 (m2.toNat : Int), .int .u8 (m3.toNat : Int), .int .u8 (m4.toNat : Int), .int .u8 (m5.toNat : Int), .int .i64 t, .slice S n c] 35)
  have bel := (Below.refl w.heap.size w).alloc (Nat.le_refl _) (.cells #[.int .u8 (a0.toNat : Int), .int .u8 (a1.toNat : Int), .int .u8 (a2.toNat : Int), .int .u8 (a3.toNat : Int), .int .u8 (a4.toNat : Int), .int .u8 (a5.toNat : Int), .int .u8 (m0.toNat : Int), .int .u8 (m1.toNat : Int), .int .u8 (m2.toNat : Int), .int .u8 (m3.toNat : Int), .int .u8 (m4.toNat : Int), .int .u8 (m5.toNat : Int), .int .i64 t, .slice S n c] 35)
  have t1 : (1500 : Int) < n := by omega
  clear h
  obtain ⟨⟨k0, k1, k2, k3, k4, k5, k6, k7, k8, k9, k10, k11, k12, k13⟩, _⟩ := cells14 hp
  clear hp
  go_enter Try.func14, Try.ntmps14
  go_wp2
  exact bodyPost_ret (v := .tuple #[.slice none 0 0, .int .i64 2]) (by simp [results, Try.results14, go_sem]) rfl ⟨rfl, bel⟩

set_option maxRecDepth 100000 in
theorem rput_neg (a0 a1 a2 a3 a4 a5 m0 m1 m2 m3 m4 m5 : UInt8) (t : Int) (S : Option Addr) (n c : Nat) (w : World) (h : n ≤ 1500) (ht : t < 0) : Calls Try.prog 14 #[.agg #[.int .u8 (a0.toNat : Int), .int .u8 (a1.toNat : Int), .int .u8 (a2.toNat : Int), .int .u8 (a3.toNat : Int), .int .u8 (a4.toNat : Int), .int .u8 (a5.toNat : Int), .int .u8 (m0.toNat : Int), .int .u8 (m1.toNat : Int), .int .u8 (m2.toNat : Int), .int .u8 (m3.toNat : Int), .int .u8 (m4.toNat : Int), .int .u8 (m5.toNat : Int), .int .i64 t, .slice S n c]] w fun e w' => e = .returned (.tuple #[.slice none 0 0, .int .i64 1]) ∧ Below w.heap.size w w' := by
  have hp := heap_alloc_new w (.cells #[.int .u8 (a0.toNat : Int), .int .u8 (a1.toNat : Int), .int .u8 (a2.toNat : Int), .int .u8 (a3.toNat : Int), .int .u8 (a4.toNat : Int), .int .u8 (a5.toNat : Int), .int .u8 (m0.toNat : Int), .int .u8 (m1.toNat : Int), .int .u8 (m2.toNat : Int), .int .u8 (m3.toNat : Int), .int .u8 (m4.toNat : Int), .int .u8 (m5.toNat : Int), .int .i64 t, .slice S n c] 35)
  have bel := (Below.refl w.heap.size w).alloc (Nat.le_refl _) (.cells #[.int .u8 (a0.toNat : Int), .int .u8 (a1.toNat : Int), .int .u8 (a2.toNat : Int), .int .u8 (a3.toNat : Int), .int .u8 (a4.toNat : Int), .int .u8 (a5.toNat : Int), .int .u8 (m0.toNat : Int), .int .u8 (m1.toNat : Int), .int .u8 (m2.toNat : Int), .int .u8 (m3.toNat : Int), .int .u8 (m4.toNat : Int), .int .u8 (m5.toNat : Int), .int .i64 t, .slice S n c] 35)
  have t1 : decide ((1500 : Int) < n) = false := decide_eq_false (by omega)
  clear h
  obtain ⟨⟨k0, k1, k2, k3, k4, k5, k6, k7, k8, k9, k10, k11, k12, k13⟩, _⟩ := cells14 hp
  clear hp
  go_enter Try.func14, Try.ntmps14
  go_wp2
  exact bodyPost_ret (v := .tuple #[.slice none 0 0, .int .i64 1]) (by simp [results, Try.results14, go_sem]) rfl ⟨rfl, bel⟩

set_option maxRecDepth 100000 in
theorem rput_big (a0 a1 a2 a3 a4 a5 m0 m1 m2 m3 m4 m5 : UInt8) (t : Int) (S : Option Addr) (n c : Nat) (w : World) (h : n ≤ 1500) (ht : 65535 < t) : Calls Try.prog 14 #[.agg #[.int .u8 (a0.toNat : Int), .int .u8 (a1.toNat : Int), .int .u8 (a2.toNat : Int), .int .u8 (a3.toNat : Int), .int .u8 (a4.toNat : Int), .int .u8 (a5.toNat : Int), .int .u8 (m0.toNat : Int), .int .u8 (m1.toNat : Int), .int .u8 (m2.toNat : Int), .int .u8 (m3.toNat : Int), .int .u8 (m4.toNat : Int), .int .u8 (m5.toNat : Int), .int .i64 t, .slice S n c]] w fun e w' => e = .returned (.tuple #[.slice none 0 0, .int .i64 1]) ∧ Below w.heap.size w w' := by
  have hp := heap_alloc_new w (.cells #[.int .u8 (a0.toNat : Int), .int .u8 (a1.toNat : Int), .int .u8 (a2.toNat : Int), .int .u8 (a3.toNat : Int), .int .u8 (a4.toNat : Int), .int .u8 (a5.toNat : Int), .int .u8 (m0.toNat : Int), .int .u8 (m1.toNat : Int), .int .u8 (m2.toNat : Int), .int .u8 (m3.toNat : Int), .int .u8 (m4.toNat : Int), .int .u8 (m5.toNat : Int), .int .i64 t, .slice S n c] 35)
  have bel := (Below.refl w.heap.size w).alloc (Nat.le_refl _) (.cells #[.int .u8 (a0.toNat : Int), .int .u8 (a1.toNat : Int), .int .u8 (a2.toNat : Int), .int .u8 (a3.toNat : Int), .int .u8 (a4.toNat : Int), .int .u8 (a5.toNat : Int), .int .u8 (m0.toNat : Int), .int .u8 (m1.toNat : Int), .int .u8 (m2.toNat : Int), .int .u8 (m3.toNat : Int), .int .u8 (m4.toNat : Int), .int .u8 (m5.toNat : Int), .int .i64 t, .slice S n c] 35)
  have t1 : decide ((1500 : Int) < n) = false := decide_eq_false (by omega)
  have t2 : decide (t < 0) = false := decide_eq_false (by omega)
  clear h
  obtain ⟨⟨k0, k1, k2, k3, k4, k5, k6, k7, k8, k9, k10, k11, k12, k13⟩, _⟩ := cells14 hp
  clear hp
  go_enter Try.func14, Try.ntmps14
  go_wp2
  exact bodyPost_ret (v := .tuple #[.slice none 0 0, .int .i64 1]) (by simp [results, Try.results14, go_sem]) rfl ⟨rfl, bel⟩

set_option maxRecDepth 100000 in
set_option maxHeartbeats 16000000 in
theorem rput_ok (a0 a1 a2 a3 a4 a5 m0 m1 m2 m3 m4 m5 : UInt8) (t : Int) (S : Option Addr) (n c : Nat) (l : List UInt8) (w : World) (hl : Sl w S n c l) (h : n ≤ 1500) (ht0 : 0 ≤ t) (ht1 : t ≤ 65535) :
    Calls Try.prog 14 #[.agg #[.int .u8 (a0.toNat : Int), .int .u8 (a1.toNat : Int), .int .u8 (a2.toNat : Int), .int .u8 (a3.toNat : Int), .int .u8 (a4.toNat : Int), .int .u8 (a5.toNat : Int), .int .u8 (m0.toNat : Int), .int .u8 (m1.toNat : Int), .int .u8 (m2.toNat : Int), .int .u8 (m3.toNat : Int), .int .u8 (m4.toNat : Int), .int .u8 (m5.toNat : Int), .int .i64 t, .slice S n c]] w fun e w' => ∃ A' c', e = .returned (.tuple #[.slice A' (14 + n) c', .int .i64 0]) ∧ Sl w' A' (14 + n) c' ([a0, a1, a2, a3, a4, a5] ++ ([m0, m1, m2, m3, m4, m5] ++ (two t ++ l))) ∧ Below w.heap.size w w' := by
  obtain ⟨ii, hii, hz0, hz1, hz2⟩ := info_parts Try.info5
  have t1 : decide ((1500 : Int) < n) = false := decide_eq_false (by omega)
  have t2 : decide (t < 0) = false := decide_eq_false (by omega)
  have t3 : decide (65535 < t) = false := decide_eq_false (by omega)
  have HN := Lib.hid h
  clear h ht0 ht1
  have hp := heap_alloc_new w (.cells #[.int .u8 (a0.toNat : Int), .int .u8 (a1.toNat : Int), .int .u8 (a2.toNat : Int), .int .u8 (a3.toNat : Int), .int .u8 (a4.toNat : Int), .int .u8 (a5.toNat : Int), .int .u8 (m0.toNat : Int), .int .u8 (m1.toNat : Int), .int .u8 (m2.toNat : Int), .int .u8 (m3.toNat : Int), .int .u8 (m4.toNat : Int), .int .u8 (m5.toNat : Int), .int .i64 t, .slice S n c] 35)
  have bel := (Below.refl w.heap.size w).alloc (Nat.le_refl _) (.cells #[.int .u8 (a0.toNat : Int), .int .u8 (a1.toNat : Int), .int .u8 (a2.toNat : Int), .int .u8 (a3.toNat : Int), .int .u8 (a4.toNat : Int), .int .u8 (a5.toNat : Int), .int .u8 (m0.toNat : Int), .int .u8 (m1.toNat : Int), .int .u8 (m2.toNat : Int), .int .u8 (m3.toNat : Int), .int .u8 (m4.toNat : Int), .int .u8 (m5.toNat : Int), .int .i64 t, .slice S n c] 35)
  have zp : w.heap.size < (w.alloc (.cells #[.int .u8 (a0.toNat : Int), .int .u8 (a1.toNat : Int), .int .u8 (a2.toNat : Int), .int .u8 (a3.toNat : Int), .int .u8 (a4.toNat : Int), .int .u8 (a5.toNat : Int), .int .u8 (m0.toNat : Int), .int .u8 (m1.toNat : Int), .int .u8 (m2.toNat : Int), .int .u8 (m3.toNat : Int), .int .u8 (m4.toNat : Int), .int .u8 (m5.toNat : Int), .int .i64 t, .slice S n c] 35)).heap.size := by simp
  obtain ⟨⟨k0, k1, k2, k3, k4, k5, k6, k7, k8, k9, k10, k11, k12, k13⟩, _⟩ := cells14 hp
  go_enter Try.func14, Try.ntmps14
  go_wp2_with fail
  clear k0 k1 k2 k3 k4 k5 k6 k7 k8 k9 k10 k11 k12 k13
  generalize w.alloc (.cells #[.int .u8 (a0.toNat : Int), .int .u8 (a1.toNat : Int), .int .u8 (a2.toNat : Int), .int .u8 (a3.toNat : Int), .int .u8 (a4.toNat : Int), .int .u8 (a5.toNat : Int), .int .u8 (m0.toNat : Int), .int .u8 (m1.toNat : Int), .int .u8 (m2.toNat : Int), .int .u8 (m3.toNat : Int), .int .u8 (m4.toNat : Int), .int .u8 (m5.toNat : Int), .int .i64 t, .slice S n c] 35) = v0 at hp zp bel ⊢
  have hAd : Sl v0.drew (some ⟨w.heap.size, 0, none⟩) 6 6 [a0, a1, a2, a3, a4, a5] := (sl_six (o := 0) a0 a1 a2 a3 a4 a5 hp rfl rfl rfl rfl rfl rfl).keep fun _ _ _ h => h
  have hBd : Sl v0.drew (some ⟨w.heap.size, 6, none⟩) 6 6 [m0, m1, m2, m3, m4, m5] := (sl_six (o := 6) m0 m1 m2 m3 m4 m5 hp rfl rfl rfl rfl rfl rfl).keep fun _ _ _ h => h
  refine wp_region_held_drew (S := fun _ => True) (by kernel_rfl) trivial (fun hH => ?_)
  refine wpAnyH_take (i := 0) (v := ?_) rfl (by kernel_rfl) (by kernel_rfl) (by kernel_rfl) (fun _ _ _ h => h) (Or.inl ⟨by rfl, ?_⟩) hH ?_
  rotate_left
  · ((intro w hw; clear hw; go_simp) <;> with_reducible rfl)
  simp only [Act.put, List.getElem_toArray, List.getElem_cons_zero, List.setIfInBounds_toArray, List.set_cons_zero, List.set_cons_succ]
  refine wpAnyH_take (i := 1) (v := ?_) rfl (by kernel_rfl) (by kernel_rfl) (by kernel_rfl) (fun _ _ _ h => h) (Or.inl ⟨by rfl, ?_⟩) hH ?_
  rotate_left
  · ((intro w hw; clear hw; go_simp) <;> with_reducible rfl)
  simp only [Act.put, List.getElem_toArray, List.getElem_cons_zero, List.getElem_cons_succ, List.setIfInBounds_toArray, List.set_cons_zero, List.set_cons_succ]
  refine wpAnyH_take (i := 3) (v := ?_) rfl (by kernel_rfl) (by kernel_rfl) (by kernel_rfl) (fun _ _ _ h => h) (Or.inl ⟨by rfl, ?_⟩) hH ?_
  rotate_left
  · ((intro w hw; clear hw; go_simp) <;> with_reducible rfl)
  simp only [Act.put, List.getElem_toArray, List.getElem_cons_zero, List.getElem_cons_succ, List.setIfInBounds_toArray, List.set_cons_zero, List.set_cons_succ]
  refine wpAnyH_take (i := 4) (v := ?_) rfl (by kernel_rfl) (by kernel_rfl) (by kernel_rfl) (fun _ _ _ h => h) (Or.inl ⟨by rfl, ?_⟩) hH ?_
  rotate_left
  · ((intro w hw; clear hw; go_simp) <;> with_reducible rfl)
  simp only [Act.put, List.getElem_toArray, List.getElem_cons_zero, List.getElem_cons_succ, List.setIfInBounds_toArray, List.set_cons_zero, List.set_cons_succ]
  refine wpAnyH_ready (rs := [2]) (by kernel_rfl) (by simp) ?_
  refine AllReadyH.cons (o := _) rfl (fun K hK => ?_) AllReadyH.nil
  simp only [List.getElem_toArray, List.getElem_cons_zero, List.getElem_cons_succ]
  go_simp
  with_reducible refine (rcopied_o (some ⟨w.heap.size, 0, none⟩) 6 6 [a0, a1, a2, a3, a4, a5] _ hAd (by omega)).mono ?_
  rintro e v1 ⟨v2, rfl, hown, b1⟩
  dsimp only
  have bel1 := bel.drew.trans (b1.mono bel.size)
  have z0 := zp
  replace hp := (b1.block _ zp).trans hp
  replace zp := Nat.lt_of_lt_of_le zp b1.size
  refine hK.out _ _ trivial (fun hH1 => ?_)
  clear hK K
  refine wpAnyH_ready (rs := [5]) (by kernel_rfl) (by simp) ?_
  refine AllReadyH.cons (o := _) rfl (fun K hK => ?_) AllReadyH.nil
  simp only [List.getElem_toArray, List.getElem_cons_zero, List.getElem_cons_succ]
  rw [if_pos (by rfl)]
  refine wp_append_bytes (.tmp 19) (.tmp 21) 25 rfl v0.drew.heap.size 5 ii (.int .u8 0) Try.underlying25 hii hz0 hz1 hz2 rfl v2 6 [a0, a1, a2, a3, a4, a5] rfl hown _ 6 6 [m0, m1, m2, m3, m4, m5] rfl (hBd.below b1) (by omega) b1.size ?_
  intro v3 w3 hown3 hg3 hat3
  obtain ⟨bel3, hsz3, _⟩ := own_grown bel1 bel1.size (fun k h => Nat.le_trans bel.size (hown.lt k h).1) hg3 (by simpa using hat3)
  replace hown3 : w3.ownsRow v0.drew.heap.size 5 1 v3 12 (([a0, a1, a2, a3, a4, a5] ++ [m0, m1, m2, m3, m4, m5]).map u8v) := by rw [List.map_append]; exact hown3
  replace hp := (hg3.block w.heap.size zp (by intro e; have := (hown.lt _ e.symm).1; exact absurd z0 (Nat.not_lt.2 this))).trans hp
  replace zp := Nat.lt_of_lt_of_le zp hg3.size
  refine hK.out _ _ trivial (fun _ => ?_)
  clear hK K
  refine wpAnyH_take (i := 6) (v := ?_) rfl (by kernel_rfl) (by kernel_rfl) (by kernel_rfl) (fun _ _ _ h => h) (Or.inl ⟨by rfl, ?_⟩) hH1 ?_
  rotate_left
  · ((intro w hw; clear hw; go_simp) <;> with_reducible rfl)
  simp only [Act.put, List.getElem_toArray, List.getElem_cons_zero, List.getElem_cons_succ, List.setIfInBounds_toArray, List.set_cons_zero, List.set_cons_succ]
  refine wpAnyH_done (by kernel_rfl) ?_ _
  obtain ⟨A3, c3, rfl, hs3⟩ := Sl.of_own hown3
  clear hown3 hat3 hg3 hown hAd hBd b1 z0
  go_wp2_with fail
  obtain ⟨⟨k0, k1, k2, k3, k4, k5, k6, k7, k8, k9, k10, k11, k12, k13⟩, _⟩ := cells14 hp
  have hs3d : Sl w3.drew A3 12 c3 ([a0, a1, a2, a3, a4, a5] ++ [m0, m1, m2, m3, m4, m5]) := hs3.keep fun _ _ _ h => h
  refine wp_region_held_drew (S := fun W => W.cell? ⟨w.heap.size, 12, none⟩ = some (.int .i64 t) ∧ W.cell? ⟨w.heap.size, 13, none⟩ = some (.slice S n c)) (by kernel_rfl) ⟨k12, k13⟩ (fun hH => ?_)
  refine wpAnyH_take (i := 0) (v := ?_) rfl (by kernel_rfl) (by kernel_rfl) (by kernel_rfl) (fun _ _ _ h => h) (Or.inl ⟨by rfl, ?_⟩) hH ?_
  rotate_left
  · ((intro W hW; obtain ⟨s0, s1⟩ := hW; go_simp) <;> with_reducible rfl)
  simp only [Act.put, List.getElem_toArray, List.getElem_cons_zero, List.setIfInBounds_toArray, List.set_cons_zero, List.set_cons_succ]
  refine wpAnyH_take (i := 1) (v := ?_) rfl (by kernel_rfl) (by kernel_rfl) (by kernel_rfl) (fun _ _ _ h => h) (Or.inl ⟨by rfl, ?_⟩) hH ?_
  rotate_left
  · ((intro W hW; obtain ⟨s0, s1⟩ := hW; go_simp) <;> with_reducible rfl)
  simp only [Act.put, List.getElem_toArray, List.getElem_cons_zero, List.getElem_cons_succ, List.setIfInBounds_toArray, List.set_cons_zero, List.set_cons_succ]
  refine wpAnyH_take (i := 2) (v := ?_) rfl (by kernel_rfl) (by kernel_rfl) (by kernel_rfl) (fun _ _ _ h => h) (Or.inl ⟨by rfl, ?_⟩) hH ?_
  rotate_left
  · ((intro W hW; obtain ⟨s0, s1⟩ := hW; go_simp) <;> with_reducible rfl)
  simp only [Act.put, List.getElem_toArray, List.getElem_cons_zero, List.getElem_cons_succ, List.setIfInBounds_toArray, List.set_cons_zero, List.set_cons_succ]
  refine wpAnyH_take (i := 4) (v := ?_) rfl (by kernel_rfl) (by kernel_rfl) (by kernel_rfl) (fun _ _ _ h => h) (Or.inl ⟨by rfl, ?_⟩) hH ?_
  rotate_left
  · ((intro W hW; obtain ⟨s0, s1⟩ := hW; go_simp) <;> with_reducible rfl)
  simp only [Act.put, List.getElem_toArray, List.getElem_cons_zero, List.getElem_cons_succ, List.setIfInBounds_toArray, List.set_cons_zero, List.set_cons_succ]
  refine wpAnyH_take (i := 5) (v := ?_) rfl (by kernel_rfl) (by kernel_rfl) (by kernel_rfl) (fun _ _ _ h => h) (Or.inl ⟨by rfl, ?_⟩) hH ?_
  rotate_left
  · ((intro W hW; obtain ⟨s0, s1⟩ := hW; go_simp) <;> with_reducible rfl)
  simp only [Act.put, List.getElem_toArray, List.getElem_cons_zero, List.getElem_cons_succ, List.setIfInBounds_toArray, List.set_cons_zero, List.set_cons_succ]
  refine wpAnyH_ready (rs := [3]) (by kernel_rfl) (by simp) ?_
  refine AllReadyH.cons (o := _) rfl (fun K hK => ?_) AllReadyH.nil
  simp only [List.getElem_toArray, List.getElem_cons_zero, List.getElem_cons_succ]
  go_simp
  with_reducible refine (ref16_o A3 12 c3 ([a0, a1, a2, a3, a4, a5] ++ [m0, m1, m2, m3, m4, m5]) t _ hs3d (by omega)).mono ?_
  rintro e v5 ⟨r5, rfl, hown5, b5⟩
  dsimp only
  have bel5 := bel3.drew.trans (b5.mono bel3.size)
  have z3 := zp
  replace hown5 : v5.ownsRow w3.drew.heap.size 5 1 r5 14 (([a0, a1, a2, a3, a4, a5] ++ [m0, m1, m2, m3, m4, m5] ++ two t).map u8v) := hown5
  refine hK.out _ _ ⟨(b5.cell (p := ⟨_, 12, none⟩) zp).trans hH.1, (b5.cell (p := ⟨_, 13, none⟩) zp).trans hH.2⟩ (fun hH5 => ?_)
  clear hK K
  replace zp := Nat.lt_of_lt_of_le zp b5.size
  refine wpAnyH_ready (rs := [6]) (by kernel_rfl) (by simp) ?_
  refine AllReadyH.cons (o := _) rfl (fun K hK => ?_) AllReadyH.nil
  simp only [List.getElem_toArray, List.getElem_cons_zero, List.getElem_cons_succ]
  rw [if_pos (by rfl)]
  refine wp_append_bytes (.tmp 26) (.tmp 28) 25 rfl w3.drew.heap.size 5 ii (.int .u8 0) Try.underlying25 hii hz0 hz1 hz2 rfl r5 14 ([a0, a1, a2, a3, a4, a5] ++ [m0, m1, m2, m3, m4, m5] ++ two t) rfl hown5 S n c l rfl (hl.below bel5) (by have := HN.out; omega) b5.size ?_
  intro v6 w6 hown6 hg6 hat6
  obtain ⟨bel6, _, _⟩ := own_grown bel5 bel5.size (fun k h => Nat.le_trans bel3.size (hown5.lt k h).1) hg6 (by simpa using hat6)
  replace hown6 : w6.ownsRow w3.drew.heap.size 5 1 v6 (14 + n) (([a0, a1, a2, a3, a4, a5] ++ [m0, m1, m2, m3, m4, m5] ++ two t ++ l).map u8v) := by rw [List.map_append]; exact hown6
  have hb6 := hg6.block w.heap.size zp (by intro e; have := (hown5.lt _ e.symm).1; exact absurd z3 (Nat.not_lt.2 this))
  refine hK.out _ _ ⟨(World.cell?_of_block (w := v5) hb6).trans hH5.1, (World.cell?_of_block (w := v5) hb6).trans hH5.2⟩ (fun hH6 => ?_)
  clear hK K
  refine wpAnyH_take (i := 7) (v := ?_) rfl (by kernel_rfl) (by kernel_rfl) (by kernel_rfl) (fun _ _ _ h => h) (Or.inl ⟨by rfl, ?_⟩) hH6 ?_
  rotate_left
  · ((intro W hW; obtain ⟨s0, s1⟩ := hW; go_simp) <;> with_reducible rfl)
  simp only [Act.put, List.getElem_toArray, List.getElem_cons_zero, List.getElem_cons_succ, List.setIfInBounds_toArray, List.set_cons_zero, List.set_cons_succ]
  refine wpAnyH_take (i := 8) (v := ?_) rfl (by kernel_rfl) (by kernel_rfl) (by kernel_rfl) (fun _ _ _ h => h) (Or.inl ⟨by rfl, ?_⟩) hH6 ?_
  rotate_left
  · ((intro W hW; obtain ⟨s0, s1⟩ := hW; go_simp) <;> with_reducible rfl)
  simp only [Act.put, List.getElem_toArray, List.getElem_cons_zero, List.getElem_cons_succ, List.setIfInBounds_toArray, List.set_cons_zero, List.set_cons_succ]
  refine wpAnyH_done (by kernel_rfl) ?_ _
  obtain ⟨A6, c6, rfl, hs6⟩ := Sl.of_own hown6
  clear hat6 hg6 hown6 hown5
  go_wp2
  rw [List.append_assoc, List.append_assoc] at hs6
  exact bodyPost_ret (v := .tuple #[.slice A6 (14 + n) c6, .int .i64 0]) (by simp [results, Try.results14, go_sem]) rfl ⟨A6, c6, rfl, hs6, bel6⟩
end Go.Proofs.Ytgaobeoddlmnjaa
