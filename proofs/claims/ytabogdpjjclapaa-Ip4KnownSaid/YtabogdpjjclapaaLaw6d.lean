/- Layer 6: the walks of Ip4Sizes, Ip4Known. -/
import Derived.Test.YtabogdpjjclapaaAwk6
import Derived.Test.YtabogdpjjclapaaLaw6
import Derived.Test.YtabogdpjjclapaaMak
namespace Go.Proofs.Ytabogdpjjclapaa
open Go.RowKit

theorem size_put (So Sb : Option Addr) (no co nb cb : Nat) (lo lb : List UInt8) (w : World) (ho : Sl w So no co lo) (hb : Sl w Sb nb cb lb) (hm : nb ≤ 140737488355328) :
    Calls Try.prog 11 #[.agg #[.int .i64 0, .int .i64 0, .int .i64 0, .int .i64 0, .int .i64 0, .int .i64 0, .int .u8 0, .int .u8 0, .int .u8 0, .int .u8 0, .int .u8 0, .int .u8 0, .int .u8 0, .int .u8 0, .slice So no co, .slice Sb nb cb]] w (PutPost 0 0 0 0 0 0 0 0 0 0 0 0 0 0 lo lb w) := ipput_any 0 0 0 0 0 0 0 0 0 0 0 0 0 0 So Sb no co nb cb lo lb w ho hb hm
theorem size_put_n (So Sb : Option Addr) (no co nb cb : Nat) (lo lb : List UInt8) (w : World) (PB : List UInt8) (n : Nat) (E : Int) (ho : Sl w So no co lo) (hb : Sl w Sb nb cb lb) (hm : nb ≤ 140737488355328) (hput : ipPut 0 0 0 0 0 0 0 0 0 0 0 0 0 0 lo lb = (PB, E)) (hn : PB.length = n) :
    Calls Try.prog 11 #[.agg #[.int .i64 0, .int .i64 0, .int .i64 0, .int .i64 0, .int .i64 0, .int .i64 0, .int .u8 0, .int .u8 0, .int .u8 0, .int .u8 0, .int .u8 0, .int .u8 0, .int .u8 0, .int .u8 0, .slice So no co, .slice Sb nb cb]] w fun e w' => ∃ A c, e = .returned (.tuple #[.slice A n c, .int .i64 E]) ∧ Below w.heap.size w w' := by
  refine (size_put So Sb no co nb cb lo lb w ho hb hm).mono ?_
  rintro e w' ⟨v, r, er, rfl, hown, bel, hpe⟩
  rw [hput] at hpe
  simp only [Prod.mk.injEq] at hpe
  obtain ⟨rfl, rfl⟩ := hpe
  obtain ⟨A, c, rfl, hs⟩ := Sl.of_own hown
  exact ⟨A, c, by rw [hn], bel⟩
set_option maxRecDepth 100000 in
set_option maxHeartbeats 16000000 in
theorem ip4Sizes_a (opts : Int) (body : Int) (w : World) (h : opts < 0) : Calls Try.prog 8 #[.int .i64 opts, .int .i64 body] w fun e w' => e = .returned (.bool true) ∧ Below w.heap.size w w' := by
  have bel := Below.refl w.heap.size w
  
  go_enter Try.func8, Try.ntmps8
  go_wp2_with fail
  with_reducible refine (awake6 _).mono ?_
  rintro e w1 ⟨rfl, b1⟩
  replace bel := bel.trans (b1.mono bel.size)
  clear b1
  go_wp2
  go_ret
  exact ⟨rfl, bel⟩
set_option maxRecDepth 100000 in
set_option maxHeartbeats 16000000 in
theorem ip4Sizes_b (opts : Int) (body : Int) (w : World) (h : 15 < opts) : Calls Try.prog 8 #[.int .i64 opts, .int .i64 body] w fun e w' => e = .returned (.bool true) ∧ Below w.heap.size w w' := by
  have bel := Below.refl w.heap.size w
  have t0 : decide (opts < 0) = false := decide_eq_false (by omega)
  go_enter Try.func8, Try.ntmps8
  go_wp2_with fail
  with_reducible refine (awake6 _).mono ?_
  rintro e w1 ⟨rfl, b1⟩
  replace bel := bel.trans (b1.mono bel.size)
  clear b1
  go_wp2
  go_ret
  exact ⟨rfl, bel⟩
set_option maxRecDepth 100000 in
set_option maxHeartbeats 16000000 in
theorem ip4Sizes_c (opts : Int) (body : Int) (w : World) (h0 : 0 ≤ opts) (h1 : opts ≤ 15) (h : body < 0) : Calls Try.prog 8 #[.int .i64 opts, .int .i64 body] w fun e w' => e = .returned (.bool true) ∧ Below w.heap.size w w' := by
  have bel := Below.refl w.heap.size w
  have t0 : decide (opts < 0) = false := decide_eq_false (by omega)
  have t1 : decide (15 < opts) = false := decide_eq_false (by omega)
  clear h0 h1
  go_enter Try.func8, Try.ntmps8
  go_wp2_with fail
  with_reducible refine (awake6 _).mono ?_
  rintro e w1 ⟨rfl, b1⟩
  replace bel := bel.trans (b1.mono bel.size)
  clear b1
  go_wp2
  go_ret
  exact ⟨rfl, bel⟩
set_option maxRecDepth 100000 in
set_option maxHeartbeats 16000000 in
theorem ip4Sizes_d (opts : Int) (body : Int) (w : World) (h0 : 0 ≤ opts) (h1 : opts ≤ 15) (h : 1600 < body) : Calls Try.prog 8 #[.int .i64 opts, .int .i64 body] w fun e w' => e = .returned (.bool true) ∧ Below w.heap.size w w' := by
  have bel := Below.refl w.heap.size w
  have t0 : decide (opts < 0) = false := decide_eq_false (by omega)
  have t1 : decide (15 < opts) = false := decide_eq_false (by omega)
  have t2 : decide (body < 0) = false := decide_eq_false (by omega)
  clear h0 h1
  go_enter Try.func8, Try.ntmps8
  go_wp2_with fail
  with_reducible refine (awake6 _).mono ?_
  rintro e w1 ⟨rfl, b1⟩
  replace bel := bel.trans (b1.mono bel.size)
  clear b1
  go_wp2
  go_ret
  exact ⟨rfl, bel⟩
set_option maxRecDepth 100000 in
set_option maxHeartbeats 16000000 in
theorem ip4Sizes_big (k : Nat) (m : Nat) (w : World) (hk : k ≤ 15) (hk2 : 10 < k) (hb : m ≤ 1600) : Calls Try.prog 8 #[.int .i64 (k : Int), .int .i64 (m : Int)] w fun e w' => e = .returned (.bool true) ∧ Below w.heap.size w w' := by
  have bel := Below.refl w.heap.size w
  obtain ⟨ii, hii, hz0, hz1, hz2⟩ := info_parts Try.info5
  have hput : Hid (ipPut 0 0 0 0 0 0 0 0 0 0 0 0 0 0 (List.replicate (4 * k) 0) (List.replicate m 0) = ([], 1)) := Lib.hid (by unfold ipPut; rw [if_pos (by unfold ipFits; simp; omega)])
  have t6 : (10 : Int) < k := by omega
  have HB := Lib.hid hb
  have b0 : (0 : Int) ≤ k := by omega
  have b1 : (k : Int) ≤ 15 := by omega
  have b2 : (0 : Int) ≤ m := by omega
  have b3 : (m : Int) ≤ 1600 := by omega
  have ew : IntKind.i64.wrap (4 * (k : Int)) = 4 * k := by rw [IntKind.wrap_i64]; omega
  clear hk hk2 hb
  go_enter Try.func8, Try.ntmps8
  go_wp2_with fail
  with_reducible refine (awake6 _).mono ?_
  rintro e w1 ⟨rfl, b1⟩
  replace bel := bel.trans (b1.mono bel.size)
  clear b1
  go_wp2_with fail
  replace bel := bel.drew
  refine wp_region_held_drew (S := fun _ => True) (by kernel_rfl) trivial (fun hH => ?_)
  generalize w1.drew = vd at bel hH ⊢
  refine wpAnyH_take (i := 0) (v := ?_) rfl (by kernel_rfl) (by kernel_rfl) (by kernel_rfl) (fun _ _ _ h => h) (Or.inl ⟨by rfl, ?_⟩) hH ?_
  rotate_left
  · ((intro W hW; clear hW; go_simp) <;> with_reducible rfl)
  simp only [Act.put, List.getElem_toArray, List.getElem_cons_zero, List.setIfInBounds_toArray, List.set_cons_zero, List.set_cons_succ]
  refine wpAnyH_take (i := 1) (v := ?_) rfl (by kernel_rfl) (by kernel_rfl) (by kernel_rfl) (fun _ _ _ h => h) (Or.inl ⟨by rfl, ?_⟩) hH ?_
  rotate_left
  · ((intro W hW; clear hW; go_simp) <;> with_reducible rfl)
  simp only [Act.put, List.getElem_toArray, List.getElem_cons_zero, List.getElem_cons_succ, List.setIfInBounds_toArray, List.set_cons_zero, List.set_cons_succ]
  refine wpAnyH_take (i := 3) (v := ?_) rfl (by kernel_rfl) (by kernel_rfl) (by kernel_rfl) (fun _ _ _ h => h) (Or.inl ⟨by rfl, ?_⟩) hH ?_
  rotate_left
  · ((intro W hW; clear hW; go_simp) <;> with_reducible rfl)
  simp only [Act.put, List.getElem_toArray, List.getElem_cons_zero, List.getElem_cons_succ, List.setIfInBounds_toArray, List.set_cons_zero, List.set_cons_succ]
  refine wpAnyH_ready (rs := [2, 4]) (by kernel_rfl) (by simp) ?_
  refine AllReadyH.cons (o := _) rfl (fun K hK => ?_) (AllReadyH.cons (o := _) rfl (fun K hK => ?_) AllReadyH.nil)
  · simp only [List.getElem_toArray, List.getElem_cons_zero, List.getElem_cons_succ]
    rw [if_pos (by rfl)]
    refine wp_make_bytes _ _ 25 rfl 5 ii Try.underlying25 hii hz0 hz1 hz2 _ _ _ _ (4 * k) rfl rfl (by first | rfl | omega) (by first | rfl | omega) (by omega) ?_
    intro v11 s1 ba
    replace bel := bel.trans (ba.mono bel.size)
    refine hK.out _ _ trivial (fun hH11 => ?_)
    clear hK K ba
    refine wpAnyH_ready (rs := [4]) (by kernel_rfl) (by simp) ?_
    refine AllReadyH.cons (o := _) rfl (fun K hK => ?_) AllReadyH.nil
    simp only [List.getElem_toArray, List.getElem_cons_zero, List.getElem_cons_succ]
    rw [if_pos (by rfl)]
    refine wp_make_bytes _ _ 25 rfl 5 ii Try.underlying25 hii hz0 hz1 hz2 _ _ _ _ (m) rfl rfl (by first | rfl | omega) (by first | rfl | omega) (by omega) ?_
    intro v12 s2 ba
    replace bel := bel.trans (ba.mono bel.size)
    replace s1 := s1.below ba
    refine hK.out _ _ trivial (fun hH12 => ?_)
    clear hK K ba
    refine wpAnyH_take (i := 5) (v := ?_) rfl (by kernel_rfl) (by kernel_rfl) (by kernel_rfl) (fun _ _ _ h => h) (Or.inl ⟨by rfl, ?_⟩) hH12 ?_
    rotate_left
    · ((intro W hW; clear hW; go_simp) <;> with_reducible rfl)
    simp only [Act.put, List.getElem_toArray, List.getElem_cons_zero, List.getElem_cons_succ, List.setIfInBounds_toArray, List.set_cons_zero, List.set_cons_succ]
    refine wpAnyH_ready (rs := [6]) (by kernel_rfl) (by simp) ?_
    refine AllReadyH.cons (o := _) rfl (fun K hK => ?_) AllReadyH.nil
    simp only [List.getElem_toArray, List.getElem_cons_zero, List.getElem_cons_succ]
    go_simp
    with_reducible refine (size_put_n _ _ _ _ _ _ _ _ _ [] (0) 1 s1 s2 (by omega) hput.out rfl).mono ?_
    rintro e v13 ⟨A1, c1, rfl, b13⟩
    dsimp only
    replace bel := bel.trans (b13.mono bel.size)
    replace s1 := s1.below b13
    replace s2 := s2.below b13
    refine hK.out _ _ trivial (fun hH13 => ?_)
    clear hK K
    refine wpAnyH_take (i := 7) (v := ?_) rfl (by kernel_rfl) (by kernel_rfl) (by kernel_rfl) (fun _ _ _ h => h) (Or.inl ⟨by rfl, ?_⟩) hH13 ?_
    rotate_left
    · ((intro W hW; clear hW; go_simp) <;> with_reducible rfl)
    simp only [Act.put, List.getElem_toArray, List.getElem_cons_zero, List.getElem_cons_succ, List.setIfInBounds_toArray, List.set_cons_zero, List.set_cons_succ]
    refine wpAnyH_take (i := 8) (v := ?_) rfl (by kernel_rfl) (by kernel_rfl) (by kernel_rfl) (fun _ _ _ h => h) (Or.inl ⟨by rfl, ?_⟩) hH13 ?_
    rotate_left
    · ((intro W hW; clear hW; go_simp) <;> with_reducible rfl)
    simp only [Act.put, List.getElem_toArray, List.getElem_cons_zero, List.getElem_cons_succ, List.setIfInBounds_toArray, List.set_cons_zero, List.set_cons_succ]
    refine wpAnyH_take (i := 9) (v := ?_) rfl (by kernel_rfl) (by kernel_rfl) (by kernel_rfl) (fun _ _ _ h => h) (Or.inl ⟨by rfl, ?_⟩) hH13 ?_
    rotate_left
    · ((intro W hW; clear hW; go_simp) <;> with_reducible rfl)
    simp only [Act.put, List.getElem_toArray, List.getElem_cons_zero, List.getElem_cons_succ, List.setIfInBounds_toArray, List.set_cons_zero, List.set_cons_succ]
    refine wpAnyH_take (i := 10) (v := ?_) rfl (by kernel_rfl) (by kernel_rfl) (by kernel_rfl) (fun _ _ _ h => h) (Or.inl ⟨by rfl, ?_⟩) hH13 ?_
    rotate_left
    · ((intro W hW; clear hW; go_simp) <;> with_reducible rfl)
    simp only [Act.put, List.getElem_toArray, List.getElem_cons_zero, List.getElem_cons_succ, List.setIfInBounds_toArray, List.set_cons_zero, List.set_cons_succ]
    refine wpAnyH_take (i := 11) (v := ?_) rfl (by kernel_rfl) (by kernel_rfl) (by kernel_rfl) (fun _ _ _ h => h) (Or.inl ⟨by rfl, ?_⟩) hH13 ?_
    rotate_left
    · ((intro W hW; clear hW; go_simp) <;> with_reducible rfl)
    simp only [Act.put, List.getElem_toArray, List.getElem_cons_zero, List.getElem_cons_succ, List.setIfInBounds_toArray, List.set_cons_zero, List.set_cons_succ]
    refine wpAnyH_done (by kernel_rfl) ?_ _
    go_wp2
    go_ret
    exact ⟨rfl, bel⟩
  · simp only [List.getElem_toArray, List.getElem_cons_zero, List.getElem_cons_succ]
    rw [if_pos (by rfl)]
    refine wp_make_bytes _ _ 25 rfl 5 ii Try.underlying25 hii hz0 hz1 hz2 _ _ _ _ (m) rfl rfl (by first | rfl | omega) (by first | rfl | omega) (by omega) ?_
    intro v11 s2 ba
    replace bel := bel.trans (ba.mono bel.size)
    refine hK.out _ _ trivial (fun hH11 => ?_)
    clear hK K ba
    refine wpAnyH_ready (rs := [2]) (by kernel_rfl) (by simp) ?_
    refine AllReadyH.cons (o := _) rfl (fun K hK => ?_) AllReadyH.nil
    simp only [List.getElem_toArray, List.getElem_cons_zero, List.getElem_cons_succ]
    rw [if_pos (by rfl)]
    refine wp_make_bytes _ _ 25 rfl 5 ii Try.underlying25 hii hz0 hz1 hz2 _ _ _ _ (4 * k) rfl rfl (by first | rfl | omega) (by first | rfl | omega) (by omega) ?_
    intro v12 s1 ba
    replace bel := bel.trans (ba.mono bel.size)
    replace s2 := s2.below ba
    refine hK.out _ _ trivial (fun hH12 => ?_)
    clear hK K ba
    refine wpAnyH_take (i := 5) (v := ?_) rfl (by kernel_rfl) (by kernel_rfl) (by kernel_rfl) (fun _ _ _ h => h) (Or.inl ⟨by rfl, ?_⟩) hH12 ?_
    rotate_left
    · ((intro W hW; clear hW; go_simp) <;> with_reducible rfl)
    simp only [Act.put, List.getElem_toArray, List.getElem_cons_zero, List.getElem_cons_succ, List.setIfInBounds_toArray, List.set_cons_zero, List.set_cons_succ]
    refine wpAnyH_ready (rs := [6]) (by kernel_rfl) (by simp) ?_
    refine AllReadyH.cons (o := _) rfl (fun K hK => ?_) AllReadyH.nil
    simp only [List.getElem_toArray, List.getElem_cons_zero, List.getElem_cons_succ]
    go_simp
    with_reducible refine (size_put_n _ _ _ _ _ _ _ _ _ [] (0) 1 s1 s2 (by omega) hput.out rfl).mono ?_
    rintro e v13 ⟨A1, c1, rfl, b13⟩
    dsimp only
    replace bel := bel.trans (b13.mono bel.size)
    replace s2 := s2.below b13
    replace s1 := s1.below b13
    refine hK.out _ _ trivial (fun hH13 => ?_)
    clear hK K
    refine wpAnyH_take (i := 7) (v := ?_) rfl (by kernel_rfl) (by kernel_rfl) (by kernel_rfl) (fun _ _ _ h => h) (Or.inl ⟨by rfl, ?_⟩) hH13 ?_
    rotate_left
    · ((intro W hW; clear hW; go_simp) <;> with_reducible rfl)
    simp only [Act.put, List.getElem_toArray, List.getElem_cons_zero, List.getElem_cons_succ, List.setIfInBounds_toArray, List.set_cons_zero, List.set_cons_succ]
    refine wpAnyH_take (i := 8) (v := ?_) rfl (by kernel_rfl) (by kernel_rfl) (by kernel_rfl) (fun _ _ _ h => h) (Or.inl ⟨by rfl, ?_⟩) hH13 ?_
    rotate_left
    · ((intro W hW; clear hW; go_simp) <;> with_reducible rfl)
    simp only [Act.put, List.getElem_toArray, List.getElem_cons_zero, List.getElem_cons_succ, List.setIfInBounds_toArray, List.set_cons_zero, List.set_cons_succ]
    refine wpAnyH_take (i := 9) (v := ?_) rfl (by kernel_rfl) (by kernel_rfl) (by kernel_rfl) (fun _ _ _ h => h) (Or.inl ⟨by rfl, ?_⟩) hH13 ?_
    rotate_left
    · ((intro W hW; clear hW; go_simp) <;> with_reducible rfl)
    simp only [Act.put, List.getElem_toArray, List.getElem_cons_zero, List.getElem_cons_succ, List.setIfInBounds_toArray, List.set_cons_zero, List.set_cons_succ]
    refine wpAnyH_take (i := 10) (v := ?_) rfl (by kernel_rfl) (by kernel_rfl) (by kernel_rfl) (fun _ _ _ h => h) (Or.inl ⟨by rfl, ?_⟩) hH13 ?_
    rotate_left
    · ((intro W hW; clear hW; go_simp) <;> with_reducible rfl)
    simp only [Act.put, List.getElem_toArray, List.getElem_cons_zero, List.getElem_cons_succ, List.setIfInBounds_toArray, List.set_cons_zero, List.set_cons_succ]
    refine wpAnyH_take (i := 11) (v := ?_) rfl (by kernel_rfl) (by kernel_rfl) (by kernel_rfl) (fun _ _ _ h => h) (Or.inl ⟨by rfl, ?_⟩) hH13 ?_
    rotate_left
    · ((intro W hW; clear hW; go_simp) <;> with_reducible rfl)
    simp only [Act.put, List.getElem_toArray, List.getElem_cons_zero, List.getElem_cons_succ, List.setIfInBounds_toArray, List.set_cons_zero, List.set_cons_succ]
    refine wpAnyH_done (by kernel_rfl) ?_ _
    go_wp2
    go_ret
    exact ⟨rfl, bel⟩
set_option maxRecDepth 100000 in
set_option maxHeartbeats 16000000 in
theorem ip4Sizes_long (k : Nat) (m : Nat) (w : World) (hk : k ≤ 10) (hb : m ≤ 1600) (hl : 1500 < 20 + 4 * k + m) : Calls Try.prog 8 #[.int .i64 (k : Int), .int .i64 (m : Int)] w fun e w' => e = .returned (.bool true) ∧ Below w.heap.size w w' := by
  have bel := Below.refl w.heap.size w
  obtain ⟨ii, hii, hz0, hz1, hz2⟩ := info_parts Try.info5
  have hput : Hid (ipPut 0 0 0 0 0 0 0 0 0 0 0 0 0 0 (List.replicate (4 * k) 0) (List.replicate m 0) = ([], 2)) := Lib.hid (by unfold ipPut; rw [if_neg (by unfold ipFits; simp; omega), if_pos (by simp; omega)])
  have t6 : decide ((10 : Int) < k) = false := decide_eq_false (by omega)
  have t8 : (1500 : Int) < 20 + 4 * (k : Int) + m := by omega
  have HB := Lib.hid hb
  have b0 : (0 : Int) ≤ k := by omega
  have b1 : (k : Int) ≤ 15 := by omega
  have b2 : (0 : Int) ≤ m := by omega
  have b3 : (m : Int) ≤ 1600 := by omega
  have ew : IntKind.i64.wrap (4 * (k : Int)) = 4 * k := by rw [IntKind.wrap_i64]; omega
  clear hk hb hl
  go_enter Try.func8, Try.ntmps8
  go_wp2_with fail
  with_reducible refine (awake6 _).mono ?_
  rintro e w1 ⟨rfl, b1⟩
  replace bel := bel.trans (b1.mono bel.size)
  clear b1
  go_wp2_with fail
  replace bel := bel.drew
  refine wp_region_held_drew (S := fun _ => True) (by kernel_rfl) trivial (fun hH => ?_)
  generalize w1.drew = vd at bel hH ⊢
  refine wpAnyH_take (i := 0) (v := ?_) rfl (by kernel_rfl) (by kernel_rfl) (by kernel_rfl) (fun _ _ _ h => h) (Or.inl ⟨by rfl, ?_⟩) hH ?_
  rotate_left
  · ((intro W hW; clear hW; go_simp) <;> with_reducible rfl)
  simp only [Act.put, List.getElem_toArray, List.getElem_cons_zero, List.setIfInBounds_toArray, List.set_cons_zero, List.set_cons_succ]
  refine wpAnyH_take (i := 1) (v := ?_) rfl (by kernel_rfl) (by kernel_rfl) (by kernel_rfl) (fun _ _ _ h => h) (Or.inl ⟨by rfl, ?_⟩) hH ?_
  rotate_left
  · ((intro W hW; clear hW; go_simp) <;> with_reducible rfl)
  simp only [Act.put, List.getElem_toArray, List.getElem_cons_zero, List.getElem_cons_succ, List.setIfInBounds_toArray, List.set_cons_zero, List.set_cons_succ]
  refine wpAnyH_take (i := 3) (v := ?_) rfl (by kernel_rfl) (by kernel_rfl) (by kernel_rfl) (fun _ _ _ h => h) (Or.inl ⟨by rfl, ?_⟩) hH ?_
  rotate_left
  · ((intro W hW; clear hW; go_simp) <;> with_reducible rfl)
  simp only [Act.put, List.getElem_toArray, List.getElem_cons_zero, List.getElem_cons_succ, List.setIfInBounds_toArray, List.set_cons_zero, List.set_cons_succ]
  refine wpAnyH_ready (rs := [2, 4]) (by kernel_rfl) (by simp) ?_
  refine AllReadyH.cons (o := _) rfl (fun K hK => ?_) (AllReadyH.cons (o := _) rfl (fun K hK => ?_) AllReadyH.nil)
  · simp only [List.getElem_toArray, List.getElem_cons_zero, List.getElem_cons_succ]
    rw [if_pos (by rfl)]
    refine wp_make_bytes _ _ 25 rfl 5 ii Try.underlying25 hii hz0 hz1 hz2 _ _ _ _ (4 * k) rfl rfl (by first | rfl | omega) (by first | rfl | omega) (by omega) ?_
    intro v11 s1 ba
    replace bel := bel.trans (ba.mono bel.size)
    refine hK.out _ _ trivial (fun hH11 => ?_)
    clear hK K ba
    refine wpAnyH_ready (rs := [4]) (by kernel_rfl) (by simp) ?_
    refine AllReadyH.cons (o := _) rfl (fun K hK => ?_) AllReadyH.nil
    simp only [List.getElem_toArray, List.getElem_cons_zero, List.getElem_cons_succ]
    rw [if_pos (by rfl)]
    refine wp_make_bytes _ _ 25 rfl 5 ii Try.underlying25 hii hz0 hz1 hz2 _ _ _ _ (m) rfl rfl (by first | rfl | omega) (by first | rfl | omega) (by omega) ?_
    intro v12 s2 ba
    replace bel := bel.trans (ba.mono bel.size)
    replace s1 := s1.below ba
    refine hK.out _ _ trivial (fun hH12 => ?_)
    clear hK K ba
    refine wpAnyH_take (i := 5) (v := ?_) rfl (by kernel_rfl) (by kernel_rfl) (by kernel_rfl) (fun _ _ _ h => h) (Or.inl ⟨by rfl, ?_⟩) hH12 ?_
    rotate_left
    · ((intro W hW; clear hW; go_simp) <;> with_reducible rfl)
    simp only [Act.put, List.getElem_toArray, List.getElem_cons_zero, List.getElem_cons_succ, List.setIfInBounds_toArray, List.set_cons_zero, List.set_cons_succ]
    refine wpAnyH_ready (rs := [6]) (by kernel_rfl) (by simp) ?_
    refine AllReadyH.cons (o := _) rfl (fun K hK => ?_) AllReadyH.nil
    simp only [List.getElem_toArray, List.getElem_cons_zero, List.getElem_cons_succ]
    go_simp
    with_reducible refine (size_put_n _ _ _ _ _ _ _ _ _ [] (0) 2 s1 s2 (by omega) hput.out rfl).mono ?_
    rintro e v13 ⟨A1, c1, rfl, b13⟩
    dsimp only
    replace bel := bel.trans (b13.mono bel.size)
    replace s1 := s1.below b13
    replace s2 := s2.below b13
    refine hK.out _ _ trivial (fun hH13 => ?_)
    clear hK K
    refine wpAnyH_take (i := 7) (v := ?_) rfl (by kernel_rfl) (by kernel_rfl) (by kernel_rfl) (fun _ _ _ h => h) (Or.inl ⟨by rfl, ?_⟩) hH13 ?_
    rotate_left
    · ((intro W hW; clear hW; go_simp) <;> with_reducible rfl)
    simp only [Act.put, List.getElem_toArray, List.getElem_cons_zero, List.getElem_cons_succ, List.setIfInBounds_toArray, List.set_cons_zero, List.set_cons_succ]
    refine wpAnyH_take (i := 8) (v := ?_) rfl (by kernel_rfl) (by kernel_rfl) (by kernel_rfl) (fun _ _ _ h => h) (Or.inl ⟨by rfl, ?_⟩) hH13 ?_
    rotate_left
    · ((intro W hW; clear hW; go_simp) <;> with_reducible rfl)
    simp only [Act.put, List.getElem_toArray, List.getElem_cons_zero, List.getElem_cons_succ, List.setIfInBounds_toArray, List.set_cons_zero, List.set_cons_succ]
    refine wpAnyH_take (i := 9) (v := ?_) rfl (by kernel_rfl) (by kernel_rfl) (by kernel_rfl) (fun _ _ _ h => h) (Or.inl ⟨by rfl, ?_⟩) hH13 ?_
    rotate_left
    · ((intro W hW; clear hW; go_simp) <;> with_reducible rfl)
    simp only [Act.put, List.getElem_toArray, List.getElem_cons_zero, List.getElem_cons_succ, List.setIfInBounds_toArray, List.set_cons_zero, List.set_cons_succ]
    refine wpAnyH_take (i := 10) (v := ?_) rfl (by kernel_rfl) (by kernel_rfl) (by kernel_rfl) (fun _ _ _ h => h) (Or.inl ⟨by rfl, ?_⟩) hH13 ?_
    rotate_left
    · ((intro W hW; clear hW; go_simp) <;> with_reducible rfl)
    simp only [Act.put, List.getElem_toArray, List.getElem_cons_zero, List.getElem_cons_succ, List.setIfInBounds_toArray, List.set_cons_zero, List.set_cons_succ]
    refine wpAnyH_take (i := 11) (v := ?_) rfl (by kernel_rfl) (by kernel_rfl) (by kernel_rfl) (fun _ _ _ h => h) (Or.inl ⟨by rfl, ?_⟩) hH13 ?_
    rotate_left
    · ((intro W hW; clear hW; go_simp) <;> with_reducible rfl)
    simp only [Act.put, List.getElem_toArray, List.getElem_cons_zero, List.getElem_cons_succ, List.setIfInBounds_toArray, List.set_cons_zero, List.set_cons_succ]
    refine wpAnyH_done (by kernel_rfl) ?_ _
    go_wp2
    go_ret
    exact ⟨rfl, bel⟩
  · simp only [List.getElem_toArray, List.getElem_cons_zero, List.getElem_cons_succ]
    rw [if_pos (by rfl)]
    refine wp_make_bytes _ _ 25 rfl 5 ii Try.underlying25 hii hz0 hz1 hz2 _ _ _ _ (m) rfl rfl (by first | rfl | omega) (by first | rfl | omega) (by omega) ?_
    intro v11 s2 ba
    replace bel := bel.trans (ba.mono bel.size)
    refine hK.out _ _ trivial (fun hH11 => ?_)
    clear hK K ba
    refine wpAnyH_ready (rs := [2]) (by kernel_rfl) (by simp) ?_
    refine AllReadyH.cons (o := _) rfl (fun K hK => ?_) AllReadyH.nil
    simp only [List.getElem_toArray, List.getElem_cons_zero, List.getElem_cons_succ]
    rw [if_pos (by rfl)]
    refine wp_make_bytes _ _ 25 rfl 5 ii Try.underlying25 hii hz0 hz1 hz2 _ _ _ _ (4 * k) rfl rfl (by first | rfl | omega) (by first | rfl | omega) (by omega) ?_
    intro v12 s1 ba
    replace bel := bel.trans (ba.mono bel.size)
    replace s2 := s2.below ba
    refine hK.out _ _ trivial (fun hH12 => ?_)
    clear hK K ba
    refine wpAnyH_take (i := 5) (v := ?_) rfl (by kernel_rfl) (by kernel_rfl) (by kernel_rfl) (fun _ _ _ h => h) (Or.inl ⟨by rfl, ?_⟩) hH12 ?_
    rotate_left
    · ((intro W hW; clear hW; go_simp) <;> with_reducible rfl)
    simp only [Act.put, List.getElem_toArray, List.getElem_cons_zero, List.getElem_cons_succ, List.setIfInBounds_toArray, List.set_cons_zero, List.set_cons_succ]
    refine wpAnyH_ready (rs := [6]) (by kernel_rfl) (by simp) ?_
    refine AllReadyH.cons (o := _) rfl (fun K hK => ?_) AllReadyH.nil
    simp only [List.getElem_toArray, List.getElem_cons_zero, List.getElem_cons_succ]
    go_simp
    with_reducible refine (size_put_n _ _ _ _ _ _ _ _ _ [] (0) 2 s1 s2 (by omega) hput.out rfl).mono ?_
    rintro e v13 ⟨A1, c1, rfl, b13⟩
    dsimp only
    replace bel := bel.trans (b13.mono bel.size)
    replace s2 := s2.below b13
    replace s1 := s1.below b13
    refine hK.out _ _ trivial (fun hH13 => ?_)
    clear hK K
    refine wpAnyH_take (i := 7) (v := ?_) rfl (by kernel_rfl) (by kernel_rfl) (by kernel_rfl) (fun _ _ _ h => h) (Or.inl ⟨by rfl, ?_⟩) hH13 ?_
    rotate_left
    · ((intro W hW; clear hW; go_simp) <;> with_reducible rfl)
    simp only [Act.put, List.getElem_toArray, List.getElem_cons_zero, List.getElem_cons_succ, List.setIfInBounds_toArray, List.set_cons_zero, List.set_cons_succ]
    refine wpAnyH_take (i := 8) (v := ?_) rfl (by kernel_rfl) (by kernel_rfl) (by kernel_rfl) (fun _ _ _ h => h) (Or.inl ⟨by rfl, ?_⟩) hH13 ?_
    rotate_left
    · ((intro W hW; clear hW; go_simp) <;> with_reducible rfl)
    simp only [Act.put, List.getElem_toArray, List.getElem_cons_zero, List.getElem_cons_succ, List.setIfInBounds_toArray, List.set_cons_zero, List.set_cons_succ]
    refine wpAnyH_take (i := 9) (v := ?_) rfl (by kernel_rfl) (by kernel_rfl) (by kernel_rfl) (fun _ _ _ h => h) (Or.inl ⟨by rfl, ?_⟩) hH13 ?_
    rotate_left
    · ((intro W hW; clear hW; go_simp) <;> with_reducible rfl)
    simp only [Act.put, List.getElem_toArray, List.getElem_cons_zero, List.getElem_cons_succ, List.setIfInBounds_toArray, List.set_cons_zero, List.set_cons_succ]
    refine wpAnyH_take (i := 10) (v := ?_) rfl (by kernel_rfl) (by kernel_rfl) (by kernel_rfl) (fun _ _ _ h => h) (Or.inl ⟨by rfl, ?_⟩) hH13 ?_
    rotate_left
    · ((intro W hW; clear hW; go_simp) <;> with_reducible rfl)
    simp only [Act.put, List.getElem_toArray, List.getElem_cons_zero, List.getElem_cons_succ, List.setIfInBounds_toArray, List.set_cons_zero, List.set_cons_succ]
    refine wpAnyH_take (i := 11) (v := ?_) rfl (by kernel_rfl) (by kernel_rfl) (by kernel_rfl) (fun _ _ _ h => h) (Or.inl ⟨by rfl, ?_⟩) hH13 ?_
    rotate_left
    · ((intro W hW; clear hW; go_simp) <;> with_reducible rfl)
    simp only [Act.put, List.getElem_toArray, List.getElem_cons_zero, List.getElem_cons_succ, List.setIfInBounds_toArray, List.set_cons_zero, List.set_cons_succ]
    refine wpAnyH_done (by kernel_rfl) ?_ _
    go_wp2
    go_ret
    exact ⟨rfl, bel⟩
set_option maxRecDepth 100000 in
set_option maxHeartbeats 16000000 in
theorem ip4Sizes_ok (k : Nat) (m : Nat) (w : World) (hk : k ≤ 10) (hb : m ≤ 1600) (hl : 20 + 4 * k + m ≤ 1500) : Calls Try.prog 8 #[.int .i64 (k : Int), .int .i64 (m : Int)] w fun e w' => e = .returned (.bool true) ∧ Below w.heap.size w w' := by
  have bel := Below.refl w.heap.size w
  obtain ⟨ii, hii, hz0, hz1, hz2⟩ := info_parts Try.info5
  have hf : ipFits 0 0 0 0 0 0 (List.replicate (4 * k) 0) = true := by unfold ipFits; simp; omega
  obtain ⟨PB, hPB⟩ : ∃ PB, Hid (ipBytes 0 0 0 0 0 0 0 0 0 0 0 0 0 0 (List.replicate (4 * k) 0) (List.replicate m 0) = PB) := ⟨_, Lib.hid rfl⟩
  have hput : Hid (ipPut 0 0 0 0 0 0 0 0 0 0 0 0 0 0 (List.replicate (4 * k) 0) (List.replicate m 0) = (PB, 0)) := Lib.hid (by unfold ipPut; rw [if_neg (by rw [hf]; decide), if_neg (by simp; omega), hPB.out])
  have hpl : Hid (PB.length = 20 + 4 * k + m) := Lib.hid (by rw [← hPB.out]; have := (put_good (a0 := 0) (a1 := 0) (a2 := 0) (a3 := 0) (a4 := 0) (a5 := 0) (a6 := 0) (a7 := 0) (body := List.replicate m 0) hf (by simp; omega) []).2.2.1; simpa using this)
  have t6 : decide ((10 : Int) < k) = false := decide_eq_false (by omega)
  have t8 : decide ((1500 : Int) < 20 + 4 * (k : Int) + m) = false := decide_eq_false (by omega)
  clear hf
  have HB := Lib.hid hb
  have b0 : (0 : Int) ≤ k := by omega
  have b1 : (k : Int) ≤ 15 := by omega
  have b2 : (0 : Int) ≤ m := by omega
  have b3 : (m : Int) ≤ 1600 := by omega
  have ew : IntKind.i64.wrap (4 * (k : Int)) = 4 * k := by rw [IntKind.wrap_i64]; omega
  clear hk hb hl
  go_enter Try.func8, Try.ntmps8
  go_wp2_with fail
  with_reducible refine (awake6 _).mono ?_
  rintro e w1 ⟨rfl, b1⟩
  replace bel := bel.trans (b1.mono bel.size)
  clear b1
  go_wp2_with fail
  replace bel := bel.drew
  refine wp_region_held_drew (S := fun _ => True) (by kernel_rfl) trivial (fun hH => ?_)
  generalize w1.drew = vd at bel hH ⊢
  refine wpAnyH_take (i := 0) (v := ?_) rfl (by kernel_rfl) (by kernel_rfl) (by kernel_rfl) (fun _ _ _ h => h) (Or.inl ⟨by rfl, ?_⟩) hH ?_
  rotate_left
  · ((intro W hW; clear hW; go_simp) <;> with_reducible rfl)
  simp only [Act.put, List.getElem_toArray, List.getElem_cons_zero, List.setIfInBounds_toArray, List.set_cons_zero, List.set_cons_succ]
  refine wpAnyH_take (i := 1) (v := ?_) rfl (by kernel_rfl) (by kernel_rfl) (by kernel_rfl) (fun _ _ _ h => h) (Or.inl ⟨by rfl, ?_⟩) hH ?_
  rotate_left
  · ((intro W hW; clear hW; go_simp) <;> with_reducible rfl)
  simp only [Act.put, List.getElem_toArray, List.getElem_cons_zero, List.getElem_cons_succ, List.setIfInBounds_toArray, List.set_cons_zero, List.set_cons_succ]
  refine wpAnyH_take (i := 3) (v := ?_) rfl (by kernel_rfl) (by kernel_rfl) (by kernel_rfl) (fun _ _ _ h => h) (Or.inl ⟨by rfl, ?_⟩) hH ?_
  rotate_left
  · ((intro W hW; clear hW; go_simp) <;> with_reducible rfl)
  simp only [Act.put, List.getElem_toArray, List.getElem_cons_zero, List.getElem_cons_succ, List.setIfInBounds_toArray, List.set_cons_zero, List.set_cons_succ]
  refine wpAnyH_ready (rs := [2, 4]) (by kernel_rfl) (by simp) ?_
  refine AllReadyH.cons (o := _) rfl (fun K hK => ?_) (AllReadyH.cons (o := _) rfl (fun K hK => ?_) AllReadyH.nil)
  · simp only [List.getElem_toArray, List.getElem_cons_zero, List.getElem_cons_succ]
    rw [if_pos (by rfl)]
    refine wp_make_bytes _ _ 25 rfl 5 ii Try.underlying25 hii hz0 hz1 hz2 _ _ _ _ (4 * k) rfl rfl (by first | rfl | omega) (by first | rfl | omega) (by omega) ?_
    intro v11 s1 ba
    replace bel := bel.trans (ba.mono bel.size)
    refine hK.out _ _ trivial (fun hH11 => ?_)
    clear hK K ba
    refine wpAnyH_ready (rs := [4]) (by kernel_rfl) (by simp) ?_
    refine AllReadyH.cons (o := _) rfl (fun K hK => ?_) AllReadyH.nil
    simp only [List.getElem_toArray, List.getElem_cons_zero, List.getElem_cons_succ]
    rw [if_pos (by rfl)]
    refine wp_make_bytes _ _ 25 rfl 5 ii Try.underlying25 hii hz0 hz1 hz2 _ _ _ _ (m) rfl rfl (by first | rfl | omega) (by first | rfl | omega) (by omega) ?_
    intro v12 s2 ba
    replace bel := bel.trans (ba.mono bel.size)
    replace s1 := s1.below ba
    refine hK.out _ _ trivial (fun hH12 => ?_)
    clear hK K ba
    refine wpAnyH_take (i := 5) (v := ?_) rfl (by kernel_rfl) (by kernel_rfl) (by kernel_rfl) (fun _ _ _ h => h) (Or.inl ⟨by rfl, ?_⟩) hH12 ?_
    rotate_left
    · ((intro W hW; clear hW; go_simp) <;> with_reducible rfl)
    simp only [Act.put, List.getElem_toArray, List.getElem_cons_zero, List.getElem_cons_succ, List.setIfInBounds_toArray, List.set_cons_zero, List.set_cons_succ]
    refine wpAnyH_ready (rs := [6]) (by kernel_rfl) (by simp) ?_
    refine AllReadyH.cons (o := _) rfl (fun K hK => ?_) AllReadyH.nil
    simp only [List.getElem_toArray, List.getElem_cons_zero, List.getElem_cons_succ]
    go_simp
    with_reducible refine (size_put_n _ _ _ _ _ _ _ _ _ PB (20 + 4 * k + m) 0 s1 s2 (by omega) hput.out hpl.out).mono ?_
    rintro e v13 ⟨A1, c1, rfl, b13⟩
    dsimp only
    replace bel := bel.trans (b13.mono bel.size)
    replace s1 := s1.below b13
    replace s2 := s2.below b13
    refine hK.out _ _ trivial (fun hH13 => ?_)
    clear hK K
    refine wpAnyH_take (i := 7) (v := ?_) rfl (by kernel_rfl) (by kernel_rfl) (by kernel_rfl) (fun _ _ _ h => h) (Or.inl ⟨by rfl, ?_⟩) hH13 ?_
    rotate_left
    · ((intro W hW; clear hW; go_simp) <;> with_reducible rfl)
    simp only [Act.put, List.getElem_toArray, List.getElem_cons_zero, List.getElem_cons_succ, List.setIfInBounds_toArray, List.set_cons_zero, List.set_cons_succ]
    refine wpAnyH_take (i := 8) (v := ?_) rfl (by kernel_rfl) (by kernel_rfl) (by kernel_rfl) (fun _ _ _ h => h) (Or.inl ⟨by rfl, ?_⟩) hH13 ?_
    rotate_left
    · ((intro W hW; clear hW; go_simp) <;> with_reducible rfl)
    simp only [Act.put, List.getElem_toArray, List.getElem_cons_zero, List.getElem_cons_succ, List.setIfInBounds_toArray, List.set_cons_zero, List.set_cons_succ]
    refine wpAnyH_take (i := 9) (v := ?_) rfl (by kernel_rfl) (by kernel_rfl) (by kernel_rfl) (fun _ _ _ h => h) (Or.inl ⟨by rfl, ?_⟩) hH13 ?_
    rotate_left
    · ((intro W hW; clear hW; go_simp) <;> with_reducible rfl)
    simp only [Act.put, List.getElem_toArray, List.getElem_cons_zero, List.getElem_cons_succ, List.setIfInBounds_toArray, List.set_cons_zero, List.set_cons_succ]
    refine wpAnyH_take (i := 10) (v := ?_) rfl (by kernel_rfl) (by kernel_rfl) (by kernel_rfl) (fun _ _ _ h => h) (Or.inl ⟨by rfl, ?_⟩) hH13 ?_
    rotate_left
    · ((intro W hW; clear hW; go_simp) <;> with_reducible rfl)
    simp only [Act.put, List.getElem_toArray, List.getElem_cons_zero, List.getElem_cons_succ, List.setIfInBounds_toArray, List.set_cons_zero, List.set_cons_succ]
    refine wpAnyH_take (i := 11) (v := ?_) rfl (by kernel_rfl) (by kernel_rfl) (by kernel_rfl) (fun _ _ _ h => h) (Or.inl ⟨by rfl, ?_⟩) hH13 ?_
    rotate_left
    · ((intro W hW; clear hW; go_simp) <;> with_reducible rfl)
    simp only [Act.put, List.getElem_toArray, List.getElem_cons_zero, List.getElem_cons_succ, List.setIfInBounds_toArray, List.set_cons_zero, List.set_cons_succ]
    refine wpAnyH_done (by kernel_rfl) ?_ _
    go_wp2
    go_ret
    exact ⟨rfl, bel⟩
  · simp only [List.getElem_toArray, List.getElem_cons_zero, List.getElem_cons_succ]
    rw [if_pos (by rfl)]
    refine wp_make_bytes _ _ 25 rfl 5 ii Try.underlying25 hii hz0 hz1 hz2 _ _ _ _ (m) rfl rfl (by first | rfl | omega) (by first | rfl | omega) (by omega) ?_
    intro v11 s2 ba
    replace bel := bel.trans (ba.mono bel.size)
    refine hK.out _ _ trivial (fun hH11 => ?_)
    clear hK K ba
    refine wpAnyH_ready (rs := [2]) (by kernel_rfl) (by simp) ?_
    refine AllReadyH.cons (o := _) rfl (fun K hK => ?_) AllReadyH.nil
    simp only [List.getElem_toArray, List.getElem_cons_zero, List.getElem_cons_succ]
    rw [if_pos (by rfl)]
    refine wp_make_bytes _ _ 25 rfl 5 ii Try.underlying25 hii hz0 hz1 hz2 _ _ _ _ (4 * k) rfl rfl (by first | rfl | omega) (by first | rfl | omega) (by omega) ?_
    intro v12 s1 ba
    replace bel := bel.trans (ba.mono bel.size)
    replace s2 := s2.below ba
    refine hK.out _ _ trivial (fun hH12 => ?_)
    clear hK K ba
    refine wpAnyH_take (i := 5) (v := ?_) rfl (by kernel_rfl) (by kernel_rfl) (by kernel_rfl) (fun _ _ _ h => h) (Or.inl ⟨by rfl, ?_⟩) hH12 ?_
    rotate_left
    · ((intro W hW; clear hW; go_simp) <;> with_reducible rfl)
    simp only [Act.put, List.getElem_toArray, List.getElem_cons_zero, List.getElem_cons_succ, List.setIfInBounds_toArray, List.set_cons_zero, List.set_cons_succ]
    refine wpAnyH_ready (rs := [6]) (by kernel_rfl) (by simp) ?_
    refine AllReadyH.cons (o := _) rfl (fun K hK => ?_) AllReadyH.nil
    simp only [List.getElem_toArray, List.getElem_cons_zero, List.getElem_cons_succ]
    go_simp
    with_reducible refine (size_put_n _ _ _ _ _ _ _ _ _ PB (20 + 4 * k + m) 0 s1 s2 (by omega) hput.out hpl.out).mono ?_
    rintro e v13 ⟨A1, c1, rfl, b13⟩
    dsimp only
    replace bel := bel.trans (b13.mono bel.size)
    replace s2 := s2.below b13
    replace s1 := s1.below b13
    refine hK.out _ _ trivial (fun hH13 => ?_)
    clear hK K
    refine wpAnyH_take (i := 7) (v := ?_) rfl (by kernel_rfl) (by kernel_rfl) (by kernel_rfl) (fun _ _ _ h => h) (Or.inl ⟨by rfl, ?_⟩) hH13 ?_
    rotate_left
    · ((intro W hW; clear hW; go_simp) <;> with_reducible rfl)
    simp only [Act.put, List.getElem_toArray, List.getElem_cons_zero, List.getElem_cons_succ, List.setIfInBounds_toArray, List.set_cons_zero, List.set_cons_succ]
    refine wpAnyH_take (i := 8) (v := ?_) rfl (by kernel_rfl) (by kernel_rfl) (by kernel_rfl) (fun _ _ _ h => h) (Or.inl ⟨by rfl, ?_⟩) hH13 ?_
    rotate_left
    · ((intro W hW; clear hW; go_simp) <;> with_reducible rfl)
    simp only [Act.put, List.getElem_toArray, List.getElem_cons_zero, List.getElem_cons_succ, List.setIfInBounds_toArray, List.set_cons_zero, List.set_cons_succ]
    refine wpAnyH_take (i := 9) (v := ?_) rfl (by kernel_rfl) (by kernel_rfl) (by kernel_rfl) (fun _ _ _ h => h) (Or.inl ⟨by rfl, ?_⟩) hH13 ?_
    rotate_left
    · ((intro W hW; clear hW; go_simp) <;> with_reducible rfl)
    simp only [Act.put, List.getElem_toArray, List.getElem_cons_zero, List.getElem_cons_succ, List.setIfInBounds_toArray, List.set_cons_zero, List.set_cons_succ]
    refine wpAnyH_take (i := 10) (v := ?_) rfl (by kernel_rfl) (by kernel_rfl) (by kernel_rfl) (fun _ _ _ h => h) (Or.inl ⟨by rfl, ?_⟩) hH13 ?_
    rotate_left
    · ((intro W hW; clear hW; go_simp) <;> with_reducible rfl)
    simp only [Act.put, List.getElem_toArray, List.getElem_cons_zero, List.getElem_cons_succ, List.setIfInBounds_toArray, List.set_cons_zero, List.set_cons_succ]
    refine wpAnyH_take (i := 11) (v := ?_) rfl (by kernel_rfl) (by kernel_rfl) (by kernel_rfl) (fun _ _ _ h => h) (Or.inl ⟨by rfl, ?_⟩) hH13 ?_
    rotate_left
    · ((intro W hW; clear hW; go_simp) <;> with_reducible rfl)
    simp only [Act.put, List.getElem_toArray, List.getElem_cons_zero, List.getElem_cons_succ, List.setIfInBounds_toArray, List.set_cons_zero, List.set_cons_succ]
    refine wpAnyH_done (by kernel_rfl) ?_ _
    go_wp2
    go_ret
    exact ⟨rfl, bel⟩
theorem ip4Sizes_walk (opts body : Int) (w : World) : Calls Try.prog 8 #[.int .i64 opts, .int .i64 body] w fun e w' => e = .returned (.bool true) ∧ Below w.heap.size w w' := by
  by_cases h1 : opts < 0
  · exact ip4Sizes_a opts body w h1
  by_cases h2 : 15 < opts
  · exact ip4Sizes_b opts body w h2
  by_cases h3 : body < 0
  · exact ip4Sizes_c opts body w (by omega) (by omega) h3
  by_cases h4 : 1600 < body
  · exact ip4Sizes_d opts body w (by omega) (by omega) h4
  obtain ⟨k, rfl⟩ : ∃ k : Nat, opts = k := ⟨opts.toNat, by omega⟩
  obtain ⟨m, rfl⟩ : ∃ m : Nat, body = m := ⟨body.toNat, by omega⟩
  by_cases h5 : 10 < k
  · exact ip4Sizes_big k m w (by omega) h5 (by omega)
  by_cases h6 : 1500 < 20 + 4 * k + m
  · exact ip4Sizes_long k m w (by omega) (by omega) h6
  · exact ip4Sizes_ok k m w (by omega) (by omega) (by omega)
theorem kn_get (A : Option Addr) (c n : Nat) (l : List UInt8) (er : Int) (w : World) (hl : Sl w A n c l) (hm : n ≤ 100000) (he : ipErr l = er) (h0 : er ≠ 0) :
    Calls Try.prog 10 #[.slice A n c] w fun e w' => e = .returned (.tuple #[.agg #[.int .i64 0, .int .i64 0, .int .i64 0, .int .i64 0, .int .i64 0, .int .i64 0, .int .u8 0, .int .u8 0, .int .u8 0, .int .u8 0, .int .u8 0, .int .u8 0, .int .u8 0, .int .u8 0, .slice none 0 0, .slice none 0 0], .int .i64 er]) ∧ Below w.heap.size w w' := by
  subst he
  exact ipget_err A n c l w hl hm h0
theorem kn_19 : ipErr (List.replicate 19 0) = 3 := by decide +kernel
theorem kn_20 : ipErr (List.replicate 20 0) = 4 := by decide +kernel
theorem kn_put (F0 F1 F2 F3 F4 F5 : Int) (So Sb : Option Addr) (no co nb cb : Nat) (lo lb : List UInt8) (E : Int) (w : World) (ho : Sl w So no co lo) (hb : Sl w Sb nb cb lb) (hm : nb ≤ 140737488355328) (h : ipPut F0 F1 F2 F3 F4 F5 0 0 0 0 0 0 0 0 lo lb = ([], E)) :
    Calls Try.prog 11 #[.agg #[.int .i64 F0, .int .i64 F1, .int .i64 F2, .int .i64 F3, .int .i64 F4, .int .i64 F5, .int .u8 0, .int .u8 0, .int .u8 0, .int .u8 0, .int .u8 0, .int .u8 0, .int .u8 0, .int .u8 0, .slice So no co, .slice Sb nb cb]] w fun e w' => ∃ A c, e = .returned (.tuple #[.slice A 0 c, .int .i64 E]) ∧ Below w.heap.size w w' := by
  refine (ipput_any F0 F1 F2 F3 F4 F5 0 0 0 0 0 0 0 0 So Sb no co nb cb lo lb w ho hb hm).mono ?_
  rintro e w' ⟨v, r, er, rfl, hown, bel, hpe⟩
  rw [h] at hpe
  simp only [Prod.mk.injEq] at hpe
  obtain ⟨rfl, rfl⟩ := hpe
  obtain ⟨A, c, rfl, hs⟩ := Sl.of_own hown
  exact ⟨A, c, rfl, bel⟩
abbrev kx : List UInt8 := ipBytes 0 0 0 0 1 0 0 0 0 0 0 0 0 0 [] []
theorem kx_len : kx.length = 20 := by decide +kernel
theorem kx_put : ipPut 0 0 0 0 1 0 0 0 0 0 0 0 0 0 [] [] = (kx, 0) := by
  unfold ipPut
  rw [if_neg (by decide), if_neg (by decide)]
theorem kx_hop : ipHop kx = ([], 11) := by
  have he : ipErr kx = 0 := by decide +kernel
  have h8 : (kx.getD 8 0).toNat < 2 := by decide +kernel
  unfold ipHop
  rw [if_neg (by rw [he]; decide), if_pos h8]
theorem kx_bad : ipErr (kx.set 8 9) = 5 := by decide +kernel
theorem kn_x (w : World) : Calls Try.prog 11 #[.agg #[.int .i64 0, .int .i64 0, .int .i64 0, .int .i64 0, .int .i64 1, .int .i64 0, .int .u8 0, .int .u8 0, .int .u8 0, .int .u8 0, .int .u8 0, .int .u8 0, .int .u8 0, .int .u8 0, .slice none 0 0, .slice none 0 0]] w fun e w' => ∃ g c, e = .returned (.tuple #[.slice (some ⟨g, 0, none⟩) 20 c, .int .i64 0]) ∧ Ow 5 w' g c kx ∧ w.heap.size ≤ g ∧ Below w.heap.size w w' := by
  refine (ipput_any 0 0 0 0 1 0 0 0 0 0 0 0 0 0 none none 0 0 0 0 [] [] w (Sl.nil w) (Sl.nil w) (by omega)).mono ?_
  rintro e w' ⟨v, r, er, rfl, hown, bel, hpe⟩
  rw [kx_put] at hpe
  simp only [Prod.mk.injEq] at hpe
  obtain ⟨rfl, rfl⟩ := hpe
  rw [kx_len] at hown
  obtain ⟨g, c, rfl, ow, hg, hn⟩ := Ow.of_own hown (by omega)
  exact ⟨g, c, rfl, ow, hg, bel⟩
theorem kn_hop (A : Option Addr) (c : Nat) (w : World) (h : Sl w A 20 c kx) : Calls Try.prog 12 #[.slice A 20 c] w fun e w' => ∃ A2 c2, e = .returned (.tuple #[.slice A2 0 c2, .int .i64 11]) ∧ Below w.heap.size w w' := by
  refine (iphop_any A 20 c _ w h (by omega)).mono ?_
  rintro e w' ⟨A2, c2, r, er, rfl, hs, bel, hp⟩
  rw [kx_hop] at hp
  simp only [Prod.mk.injEq] at hp
  obtain ⟨rfl, rfl⟩ := hp
  exact ⟨A2, c2, rfl, bel⟩
theorem kn_w1 (w : World) : Calls Try.prog 13 #[.agg #[.int .i64 0, .int .i64 0, .int .i64 0, .int .i64 1, .int .i64 0, .int .i64 0, .int .u8 0, .int .u8 0, .int .u8 0, .int .u8 0, .int .u8 0, .int .u8 0, .int .u8 0, .int .u8 0, .slice none 0 0, .slice none 0 0]] w fun e w' => e = .returned (.bool false) ∧ Below w.heap.size w w' := ipwhole_any 0 0 0 1 0 0 0 0 0 0 0 0 0 0 none none 0 0 0 0 w
theorem kn_w2 (w : World) : Calls Try.prog 13 #[.agg #[.int .i64 0, .int .i64 0, .int .i64 1, .int .i64 0, .int .i64 0, .int .i64 0, .int .u8 0, .int .u8 0, .int .u8 0, .int .u8 0, .int .u8 0, .int .u8 0, .int .u8 0, .int .u8 0, .slice none 0 0, .slice none 0 0]] w fun e w' => e = .returned (.bool false) ∧ Below w.heap.size w w' := ipwhole_any 0 0 1 0 0 0 0 0 0 0 0 0 0 0 none none 0 0 0 0 w
theorem kn_w3 (w : World) : Calls Try.prog 13 #[.agg #[.int .i64 0, .int .i64 0, .int .i64 2, .int .i64 0, .int .i64 0, .int .i64 0, .int .u8 0, .int .u8 0, .int .u8 0, .int .u8 0, .int .u8 0, .int .u8 0, .int .u8 0, .int .u8 0, .slice none 0 0, .slice none 0 0]] w fun e w' => e = .returned (.bool true) ∧ Below w.heap.size w w' := ipwhole_any 0 0 2 0 0 0 0 0 0 0 0 0 0 0 none none 0 0 0 0 w
theorem made1_1 (w : World) : Sl (w.alloc (.cells #[.int .u8 1] 5)) (some ⟨w.heap.size, 0, none⟩) 1 1 [1] := Sl.made w 5 [1] (by simp [maxLen])
theorem kb_1 : ipPut 0 0 0 0 256 0 0 0 0 0 0 0 0 0 [] [] = ([], 1) := by unfold ipPut; rw [if_pos (by decide)]
theorem kb_2 : ipPut 0 0 0 0 0 0 0 0 0 0 0 0 0 0 [1] [] = ([], 1) := by unfold ipPut; rw [if_pos (by decide)]
theorem kb_3 : ipPut 0 0 0 0 0 0 0 0 0 0 0 0 0 0 [] (List.replicate 1481 0) = ([], 2) := by unfold ipPut; rw [if_neg (by decide), if_pos (by rw [List.length_replicate]; decide)]
set_option maxRecDepth 100000 in
set_option maxHeartbeats 16000000 in
theorem ip4Known_walk (w : World) : Calls Try.prog 3 #[] w fun e w' => e = .returned (.bool true) ∧ Below w.heap.size w w' := by
  have bel := Below.refl w.heap.size w
  obtain ⟨ii, hii, hz0, hz1, hz2⟩ := info_parts Try.info5
  go_enter Try.func3, Try.ntmps3
  go_wp2_with fail
  with_reducible refine (awake6 _).mono ?_
  rintro e w1 ⟨rfl, b1⟩
  replace bel := bel.trans (b1.mono bel.size)
  clear b1
  go_wp2_with (first | (at_make; refine wpList_make_bytes rfl _ _ 25 rfl 5 ii Try.underlying25 hii hz0 hz1 hz2 _ _ _ _ (19) rfl rfl rfl rfl (by omega) ?_; intro y2 sz ba))
  replace bel := bel.trans (ba.mono bel.size)
  clear ba
  go_wp2_with fail
  with_reducible refine (kn_get _ _ 19 _ 3 _ sz (by omega) kn_19 (by decide)).mono ?_
  rintro e w3 ⟨rfl, b3⟩
  replace bel := bel.trans (b3.mono bel.size)
  clear b3
  clear sz
  have nq1 := heap_alloc_new w3 (.cells #[.int .i64 0, .int .i64 0, .int .i64 0, .int .i64 0, .int .i64 0, .int .i64 0, .int .u8 0, .int .u8 0, .int .u8 0, .int .u8 0, .int .u8 0, .int .u8 0, .int .u8 0, .int .u8 0, .slice none 0 0, .slice none 0 0] 27)
  have bqq1 := (Below.refl w3.heap.size w3).alloc (Nat.le_refl _) (.cells #[.int .i64 0, .int .i64 0, .int .i64 0, .int .i64 0, .int .i64 0, .int .i64 0, .int .u8 0, .int .u8 0, .int .u8 0, .int .u8 0, .int .u8 0, .int .u8 0, .int .u8 0, .int .u8 0, .slice none 0 0, .slice none 0 0] 27)
  go_wp2_with (first | ((with_reducible show wpList _ _ _ (⟨none, Op.store _ _ _, _, _, _, _⟩ :: _) _ _); refine wpList_store_blk rfl 27 _ _ rfl (w3.heap.size) rfl #[.int .i64 0, .int .i64 0, .int .i64 0, .int .i64 0, .int .i64 0, .int .i64 0, .int .u8 0, .int .u8 0, .int .u8 0, .int .u8 0, .int .u8 0, .int .u8 0, .int .u8 0, .int .u8 0, .slice none 0 0, .slice none 0 0] rfl _ 27 nq1 (by rfl) (by kernel_rfl) (by kernel_rfl) ?_; intro x4 hq1 gq1; have bz := below_grown bqq1 gq1 (Nat.le_refl _) bqq1.size; replace bel := bel.trans (bz.mono bel.size); have zq1 := (Array.getElem?_eq_some_iff.1 hq1).1; clear nq1 bqq1 bz gq1) | (at_make; refine wpList_make_bytes rfl _ _ 25 rfl 5 ii Try.underlying25 hii hz0 hz1 hz2 _ _ _ _ (20) rfl rfl rfl rfl (by omega) ?_; intro y5 sz ba))
  clear hq1 zq1
  replace bel := bel.trans (ba.mono bel.size)
  clear ba
  go_wp2_with fail
  with_reducible refine (kn_get _ _ 20 _ 4 _ sz (by omega) kn_20 (by decide)).mono ?_
  rintro e w6 ⟨rfl, b6⟩
  replace bel := bel.trans (b6.mono bel.size)
  clear b6
  clear sz
  have nq2 := heap_alloc_new w6 (.cells #[.int .i64 0, .int .i64 0, .int .i64 0, .int .i64 0, .int .i64 0, .int .i64 0, .int .u8 0, .int .u8 0, .int .u8 0, .int .u8 0, .int .u8 0, .int .u8 0, .int .u8 0, .int .u8 0, .slice none 0 0, .slice none 0 0] 27)
  have bqq2 := (Below.refl w6.heap.size w6).alloc (Nat.le_refl _) (.cells #[.int .i64 0, .int .i64 0, .int .i64 0, .int .i64 0, .int .i64 0, .int .i64 0, .int .u8 0, .int .u8 0, .int .u8 0, .int .u8 0, .int .u8 0, .int .u8 0, .int .u8 0, .int .u8 0, .slice none 0 0, .slice none 0 0] 27)
  go_wp2_with (first | ((with_reducible show wpList _ _ _ (⟨none, Op.store _ _ _, _, _, _, _⟩ :: _) _ _); refine wpList_store_blk rfl 27 _ _ rfl (w6.heap.size) rfl #[.int .i64 0, .int .i64 0, .int .i64 0, .int .i64 0, .int .i64 0, .int .i64 0, .int .u8 0, .int .u8 0, .int .u8 0, .int .u8 0, .int .u8 0, .int .u8 0, .int .u8 0, .int .u8 0, .slice none 0 0, .slice none 0 0] rfl _ 27 nq2 (by rfl) (by kernel_rfl) (by kernel_rfl) ?_; intro x7 hq2 gq2; have bz := below_grown bqq2 gq2 (Nat.le_refl _) bqq2.size; replace bel := bel.trans (bz.mono bel.size); have zq2 := (Array.getElem?_eq_some_iff.1 hq2).1; clear nq2 bqq2 bz gq2))
  with_reducible refine (kn_put 0 0 0 0 256 0 none none 0 0 0 0 [] [] 1 _ (Sl.nil _) (Sl.nil _) (by omega) kb_1).mono ?_
  rintro e w8 ⟨A1, c1, rfl, b8⟩
  replace bel := bel.trans (b8.mono bel.size)
  clear b8
  clear hq2 zq2
  have s1 := made1_1 w8
  replace bel := bel.alloc bel.size (.cells #[.int .u8 1] 5)
  go_wp2_with fail
  with_reducible refine (kn_put 0 0 0 0 0 0 _ none 1 1 0 0 [1] [] 1 _ s1 (Sl.nil _) (by omega) kb_2).mono ?_
  rintro e w9 ⟨A2, c2, rfl, b9⟩
  replace bel := bel.trans (b9.mono bel.size)
  clear b9
  clear s1
  go_wp2_with (first | (at_make; refine wpList_make_bytes rfl _ _ 25 rfl 5 ii Try.underlying25 hii hz0 hz1 hz2 _ _ _ _ (1481) rfl rfl rfl rfl (by omega) ?_; intro y10 sz ba))
  replace bel := bel.trans (ba.mono bel.size)
  clear ba
  go_wp2_with fail
  with_reducible refine (kn_put 0 0 0 0 0 0 none _ 0 0 1481 1481 [] _ 2 _ (Sl.nil _) sz (by omega) kb_3).mono ?_
  rintro e w11 ⟨A3, c3, rfl, b11⟩
  replace bel := bel.trans (b11.mono bel.size)
  clear b11
  clear sz
  have oz := bel.size
  go_wp2_with fail
  with_reducible refine (kn_x _).mono ?_
  rintro e w12 ⟨g, cx, rfl, ow, hgx, b12⟩
  replace bel := bel.trans (b12.mono bel.size)
  clear b12
  have hgw : w.heap.size ≤ g := Nat.le_trans oz hgx
  have sx := ow.sl
  rw [kx_len] at sx
  go_wp2_with fail
  with_reducible refine (kn_hop _ cx _ sx).mono ?_
  rintro e w13 ⟨A4, c4, rfl, b13⟩
  replace bel := bel.trans (b13.mono bel.size)
  replace ow := ow.below b13
  clear b13
  clear sx
  obtain ⟨xa, hxa, ca, fa⟩ := ow.at_ 8 (by rw [kx_len]; omega)
  have ow2 := ow.set 8 9
  have bel2 := bel.setCell (p := ⟨g, 8, none⟩) hgw (.int .u8 9)
  have e9 : u8v 9 = .int .u8 9 := rfl
  rw [e9] at ow2
  have bcc : (20 : Int) ≤ cx := by have := ow.1; rw [kx_len] at this; omega
  have s2 := ow2.sl
  rw [show (kx.set 8 9).length = 20 by rw [List.length_set, kx_len]] at s2
  clear hxa ow ow2 bel hgw hgx oz e9
  go_wp2_with fail
  have bel := bel2
  clear bel2 ca fa
  generalize (w13.setCell ⟨g, 8, none⟩ (.int .u8 9)) = v90 at s2 bel ⊢
  with_reducible refine (kn_get _ cx 20 _ 5 _ s2 (by omega) kx_bad (by decide)).mono ?_
  rintro e w14 ⟨rfl, b14⟩
  replace bel := bel.trans (b14.mono bel.size)
  clear b14
  clear s2
  have nq3 := heap_alloc_new w14 (.cells #[.int .i64 0, .int .i64 0, .int .i64 0, .int .i64 0, .int .i64 0, .int .i64 0, .int .u8 0, .int .u8 0, .int .u8 0, .int .u8 0, .int .u8 0, .int .u8 0, .int .u8 0, .int .u8 0, .slice none 0 0, .slice none 0 0] 27)
  have bqq3 := (Below.refl w14.heap.size w14).alloc (Nat.le_refl _) (.cells #[.int .i64 0, .int .i64 0, .int .i64 0, .int .i64 0, .int .i64 0, .int .i64 0, .int .u8 0, .int .u8 0, .int .u8 0, .int .u8 0, .int .u8 0, .int .u8 0, .int .u8 0, .int .u8 0, .slice none 0 0, .slice none 0 0] 27)
  go_wp2_with (first | ((with_reducible show wpList _ _ _ (⟨none, Op.store _ _ _, _, _, _, _⟩ :: _) _ _); refine wpList_store_blk rfl 27 _ _ rfl (w14.heap.size) rfl #[.int .i64 0, .int .i64 0, .int .i64 0, .int .i64 0, .int .i64 0, .int .i64 0, .int .u8 0, .int .u8 0, .int .u8 0, .int .u8 0, .int .u8 0, .int .u8 0, .int .u8 0, .int .u8 0, .slice none 0 0, .slice none 0 0] rfl _ 27 nq3 (by rfl) (by kernel_rfl) (by kernel_rfl) ?_; intro x15 hq3 gq3; have bz := below_grown bqq3 gq3 (Nat.le_refl _) bqq3.size; replace bel := bel.trans (bz.mono bel.size); have zq3 := (Array.getElem?_eq_some_iff.1 hq3).1; clear nq3 bqq3 bz gq3))
  with_reducible refine (kn_w1 _).mono ?_
  rintro e w16 ⟨rfl, b16⟩
  replace bel := bel.trans (b16.mono bel.size)
  clear b16
  clear hq3 zq3
  go_wp2_with fail
  with_reducible refine (kn_w2 _).mono ?_
  rintro e w17 ⟨rfl, b17⟩
  replace bel := bel.trans (b17.mono bel.size)
  clear b17
  go_wp2_with fail
  with_reducible refine (kn_w3 _).mono ?_
  rintro e w18 ⟨rfl, b18⟩
  replace bel := bel.trans (b18.mono bel.size)
  clear b18
  go_wp2
  go_ret
  exact ⟨rfl, bel⟩
end Go.Proofs.Ytabogdpjjclapaa
