/- Texts put together: Pl9, Pla, Plb, Sv0. -/
import Derived.Test.YtapdmlfjohiekaaQ1
import Derived.Test.YtapdmlfjohiekaaQ2
import Derived.Test.YtapdmlfjohiekaaQ8
import Derived.Deep.CutRange
namespace Go.Proofs.Ytapdmlfjohiekaa
open Go.RowKit

theorem cmpN_gt {x y : Nat} (h : y < x) : cmpN x y = 1 := by
  unfold cmpN
  rw [if_neg (by omega), if_pos h]
set_option linter.unusedVariables false in
set_option linter.unusedSimpArgs false in
set_option maxRecDepth 100000 in
set_option maxHeartbeats 16000000 in
theorem len64_0 (w : World) : Calls Try.prog 91 #[.int .u64 0] w fun e w' => e = .returned (.int .i64 0) ∧ w = w' := by
  skip
  go_enter Try.func91, Try.ntmps91
  go_wp2_with fail
  go_ret
  exact ⟨by kernel_rfl, rfl⟩
set_option linter.unusedVariables false in
set_option linter.unusedSimpArgs false in
set_option maxRecDepth 100000 in
set_option maxHeartbeats 16000000 in
theorem blen_0 (w : World) : Calls Try.prog 74 #[.int .u64 0] w fun e w' => e = .returned (.int .i64 0) ∧ w = w' := by
  skip
  go_enter Try.func74, Try.ntmps74
  go_wp2_with fail
  with_reducible refine (len64_0 _).mono ?_
  rintro e _ ⟨rfl, rfl⟩
  go_wp2_with fail
  go_ret
  exact ⟨rfl, rfl⟩
set_option linter.unusedVariables false in
set_option linter.unusedSimpArgs false in
set_option maxRecDepth 100000 in
set_option maxHeartbeats 16000000 in
theorem len64_1 (w : World) : Calls Try.prog 91 #[.int .u64 1] w fun e w' => e = .returned (.int .i64 1) ∧ w = w' := by
  skip
  go_enter Try.func91, Try.ntmps91
  go_wp2_with fail
  go_ret
  exact ⟨by kernel_rfl, rfl⟩
set_option linter.unusedVariables false in
set_option linter.unusedSimpArgs false in
set_option maxRecDepth 100000 in
set_option maxHeartbeats 16000000 in
theorem blen_1 (w : World) : Calls Try.prog 74 #[.int .u64 1] w fun e w' => e = .returned (.int .i64 1) ∧ w = w' := by
  skip
  go_enter Try.func74, Try.ntmps74
  go_wp2_with fail
  with_reducible refine (len64_1 _).mono ?_
  rintro e _ ⟨rfl, rfl⟩
  go_wp2_with fail
  go_ret
  exact ⟨rfl, rfl⟩
set_option linter.unusedVariables false in
set_option linter.unusedSimpArgs false in
set_option maxRecDepth 100000 in
set_option maxHeartbeats 16000000 in
theorem len64_2 (w : World) : Calls Try.prog 91 #[.int .u64 2] w fun e w' => e = .returned (.int .i64 2) ∧ w = w' := by
  skip
  go_enter Try.func91, Try.ntmps91
  go_wp2_with fail
  go_ret
  exact ⟨by kernel_rfl, rfl⟩
set_option linter.unusedVariables false in
set_option linter.unusedSimpArgs false in
set_option maxRecDepth 100000 in
set_option maxHeartbeats 16000000 in
theorem blen_2 (w : World) : Calls Try.prog 74 #[.int .u64 2] w fun e w' => e = .returned (.int .i64 2) ∧ w = w' := by
  skip
  go_enter Try.func74, Try.ntmps74
  go_wp2_with fail
  with_reducible refine (len64_2 _).mono ?_
  rintro e _ ⟨rfl, rfl⟩
  go_wp2_with fail
  go_ret
  exact ⟨rfl, rfl⟩
set_option linter.unusedVariables false in
set_option linter.unusedSimpArgs false in
set_option maxRecDepth 100000 in
set_option maxHeartbeats 16000000 in
theorem pins_pos {A : Option Addr} {n c : Nat} {l : List Sd} (w : World) (en : Sle slE 15 w A n c l) (hS : SSrt l) (hn1 : 1 ≤ n) (hn : n ≤ 12) : Calls Try.prog 82 #[.slice A n c, .int .i64 0, .int .i64 (n : Int), .func (.func 59) #[] #[]] w fun e w' => e = .returned (.tuple #[]) ∧ Below w.heap.size w w' := by
  have HS := Lib.hid hS
  clear hS
  have HL : Hid (l.length = n) := Lib.hid en.1
  obtain ⟨gE, oE, rfl⟩ := en.place (by omega)
  have hn0 : (n : Int) ≤ 12 := by omega
  have bel := Below.refl w.heap.size w
  go_enter Try.func82, Try.ntmps82
  go_wp2_with fail
  go_loopg [8] (n) (fun gk s8 wr => ∃ k : Nat, gk = n + 1 - k ∧ 1 ≤ k ∧ k ≤ n ∧ s8 = .int .i64 (k : Int) ∧ Sle slE 15 wr (some ⟨gE, oE, none⟩) (n) (c) (l) ∧ Below w.heap.size w wr)
  case atStart => exact ⟨1, (Nat.add_sub_cancel _ _).symm, Nat.le_refl _, hn1, rfl, en, bel⟩
  case round =>
    clear en bel
    obtain ⟨k, HGK, hk1, hkn, rfl, en, bel⟩ := hrel
    have HGK_ := Lib.hid HGK
    clear HGK
    by_cases h : k < n
    rotate_left
    · obtain rfl : k = n := by omega
      replace h : decide (k < k) = false := decide_eq_false (by omega)
      go_wp2_with fail
      exact bodyPost_end (results_none rfl _ _ _) rfl ⟨rfl, bel⟩
    obtain ⟨q, hq⟩ : ∃ q, q + 1 = k := ⟨k - 1, by omega⟩
    have hkk : (k : Int) - 1 = (q : Int) := by omega
    have k0 : (0 : Int) < k := by omega
    have k0n : 0 < k := by omega
    have k00 : (0 : Int) ≤ k := by omega
    have k1 : (k : Int) < n := by omega
    have q0 : (0 : Int) ≤ q := by omega
    have q1 : (q : Int) < n := by omega
    have hwq : IntKind.i64.wrap (q : Int) = (q : Int) := IntWalk.i64_in _ (by omega)
    obtain ⟨x, hx⟩ : ∃ x, l[k]? = some x := ⟨_, List.getElem?_eq_getElem (by have := HL.out; omega)⟩
    obtain ⟨y, hy⟩ : ∃ y, l[q]? = some y := ⟨_, List.getElem?_eq_getElem (by have := HL.out; omega)⟩
    have hlt_ := HS.out.lt (by omega : q < k) hy hx
    have HC : Hid (cmpN x.num y.num = 1) := Lib.hid (cmpN_gt hlt_)
    have HX := Lib.hid hx
    have HY := Lib.hid hy
    have kn2 : (k : Int) ≤ 12 := by omega
    clear hx hy hlt_ hq
    go_wp2_with fail
    refine wp_loop_rounds 1 ?_
    rw [rounds_succ]
    go_wp2_with fail
    replace bel := bel.drew
    replace en := en.drew
    refine wp_region_held_drew (S := fun W => Sle slE 15 W (some ⟨gE, oE, none⟩) (n) (c) (l)) (by kernel_rfl) en (fun hH => ?_)
    generalize wr.drew = w1 at bel en hH ⊢
    refine wpAnyH_take (i := 0) (v := ?_) rfl (by kernel_rfl) (by kernel_rfl) (by kernel_rfl) (fun _ _ _ h => h) (Or.inl ⟨by rfl, ?_⟩) hH ?_
    rotate_left
    · ((intro W hW; clear hW; go_simp) <;> with_reducible rfl)
    simp only [Act.put, List.getElem_toArray, List.getElem_cons_zero, List.setIfInBounds_toArray, List.set_cons_zero, List.set_cons_succ]
    refine wpAnyH_take (i := 1) (v := ?_) rfl (by kernel_rfl) (by kernel_rfl) (by kernel_rfl) (fun _ _ _ h => h) (Or.inl ⟨by rfl, ?_⟩) hH ?_
    rotate_left
    · ((intro W hW; clear hW; go_simp) <;> with_reducible rfl)
    simp only [sq3, sq4]
    refine wpAnyH_take (i := 2) (v := ?_) rfl (by kernel_rfl) (by kernel_rfl) (by kernel_rfl) (fun _ _ _ h => h) (Or.inl ⟨by rfl, ?_⟩) hH ?_
    rotate_left
    · ((intro W hW; clear hW; go_simp) <;> with_reducible rfl)
    simp only [sq3, sq4]
    refine wpAnyH_take (i := 3) (v := ?_) rfl (by kernel_rfl) (by kernel_rfl) (by kernel_rfl) (fun _ _ _ h => h) (Or.inl ⟨by rfl, ?_⟩) hH ?_
    rotate_left
    · ((intro W hW; clear hW; go_simp) <;> with_reducible rfl)
    simp only [sq3, sq4]
    refine wpAnyH_take (i := 4) (v := ?_) rfl (by kernel_rfl) (by kernel_rfl) (by kernel_rfl) (fun _ _ _ h => h) (Or.inl ⟨by rfl, ?_⟩) hH ?_
    rotate_left
    · ((intro W hW; clear hW; go_simp) <;> with_reducible rfl)
    simp only [sq3, sq4]
    refine wpAnyH_take (i := 5) (v := ?_) rfl (by kernel_rfl) (by kernel_rfl) (by kernel_rfl) (fun _ _ _ h => h) (Or.inl ⟨by rfl, ?_⟩) hH ?_
    rotate_left
    · ((intro W hW; clear hW; go_simp) <;> with_reducible rfl)
    simp only [sq3, sq4]
    refine wpAnyH_take (i := 6) (v := ?_) rfl (by kernel_rfl) (by kernel_rfl) (by kernel_rfl) (fun _ _ _ h => h) (Or.inl ⟨by rfl, ?_⟩) hH ?_
    rotate_left
    · ((intro W hW; clear hW; go_simp) <;> with_reducible rfl)
    simp only [sq3, sq4]
    refine wpAnyH_take (i := 7) (v := ?_) rfl (by kernel_rfl) (by kernel_rfl) (by kernel_rfl) (fun _ _ _ h => h) (Or.inl ⟨by rfl, ?_⟩) hH ?_
    rotate_left
    · ((intro W hW; clear hW; go_simp) <;> with_reducible rfl)
    simp only [sq3, sq4]
    refine wpAnyH_take (i := 8) (v := .agg #[.int .u8 (x.m.a.toNat : Int), .int .u8 (x.m.b.toNat : Int), .int .u8 (x.m.c.toNat : Int), .int .u8 (x.m.d.toNat : Int), .int .u8 (x.m.e.toNat : Int), .int .u8 (x.m.f.toNat : Int), .int .u8 (x.ad.a.toNat : Int), .int .u8 (x.ad.b.toNat : Int), .int .u8 (x.ad.c.toNat : Int), .int .u8 (x.ad.d.toNat : Int), .int .i64 x.u, .bool x.fx, .bool x.le, .bool x.rp, .int .i64 x.br]) rfl (by kernel_rfl) (by kernel_rfl) (by kernel_rfl) (fun _ _ _ h => h) (yieldsIf_load_mid (by kernel_rfl) 101 _ rfl gE (oE + k * 15) rfl [.int .u8 (x.m.a.toNat : Int), .int .u8 (x.m.b.toNat : Int), .int .u8 (x.m.c.toNat : Int), .int .u8 (x.m.d.toNat : Int), .int .u8 (x.m.e.toNat : Int), .int .u8 (x.m.f.toNat : Int), .int .u8 (x.ad.a.toNat : Int), .int .u8 (x.ad.b.toNat : Int), .int .u8 (x.ad.c.toNat : Int), .int .u8 (x.ad.d.toNat : Int), .int .i64 x.u, .bool x.fx, .bool x.le, .bool x.rp, .int .i64 x.br] _ (fun W hW => Sle.range0 (hW) HX.out 15 [.int .u8 (x.m.a.toNat : Int), .int .u8 (x.m.b.toNat : Int), .int .u8 (x.m.c.toNat : Int), .int .u8 (x.m.d.toNat : Int), .int .u8 (x.m.e.toNat : Int), .int .u8 (x.m.f.toNat : Int), .int .u8 (x.ad.a.toNat : Int), .int .u8 (x.ad.b.toNat : Int), .int .u8 (x.ad.c.toNat : Int), .int .u8 (x.ad.d.toNat : Int), .int .i64 x.u, .bool x.fx, .bool x.le, .bool x.rp, .int .i64 x.br] rfl) Try.underlying101 rfl (by kernel_rfl)) hH ?_
    simp only [sq3, sq4]
    refine wpAnyH_take (i := 9) (v := ?_) rfl (by kernel_rfl) (by kernel_rfl) (by kernel_rfl) (fun _ _ _ h => h) (Or.inl ⟨by rfl, ?_⟩) hH ?_
    rotate_left
    · ((intro W hW; clear hW; go_simp) <;> with_reducible rfl)
    simp only [sq3, sq4]
    refine wpAnyH_take (i := 10) (v := ?_) rfl (by kernel_rfl) (by kernel_rfl) (by kernel_rfl) (fun _ _ _ h => h) (Or.inl ⟨by rfl, ?_⟩) hH ?_
    rotate_left
    · ((intro W hW; clear hW; go_simp) <;> with_reducible rfl)
    simp only [sq3, sq4]
    refine wpAnyH_take (i := 11) (v := ?_) rfl (by kernel_rfl) (by kernel_rfl) (by kernel_rfl) (fun _ _ _ h => h) (Or.inl ⟨by rfl, ?_⟩) hH ?_
    rotate_left
    · ((intro W hW; clear hW; go_simp) <;> with_reducible rfl)
    simp only [sq3, sq4]
    refine wpAnyH_take (i := 12) (v := ?_) rfl (by kernel_rfl) (by kernel_rfl) (by kernel_rfl) (fun _ _ _ h => h) (Or.inl ⟨by rfl, ?_⟩) hH ?_
    rotate_left
    · ((intro W hW; clear hW; go_simp) <;> with_reducible rfl)
    simp only [sq3, sq4]
    refine wpAnyH_take (i := 13) (v := .agg #[.int .u8 (y.m.a.toNat : Int), .int .u8 (y.m.b.toNat : Int), .int .u8 (y.m.c.toNat : Int), .int .u8 (y.m.d.toNat : Int), .int .u8 (y.m.e.toNat : Int), .int .u8 (y.m.f.toNat : Int), .int .u8 (y.ad.a.toNat : Int), .int .u8 (y.ad.b.toNat : Int), .int .u8 (y.ad.c.toNat : Int), .int .u8 (y.ad.d.toNat : Int), .int .i64 y.u, .bool y.fx, .bool y.le, .bool y.rp, .int .i64 y.br]) rfl (by kernel_rfl) (by kernel_rfl) (by kernel_rfl) (fun _ _ _ h => h) (yieldsIf_load_mid (by kernel_rfl) 101 _ rfl gE (oE + q * 15) rfl [.int .u8 (y.m.a.toNat : Int), .int .u8 (y.m.b.toNat : Int), .int .u8 (y.m.c.toNat : Int), .int .u8 (y.m.d.toNat : Int), .int .u8 (y.m.e.toNat : Int), .int .u8 (y.m.f.toNat : Int), .int .u8 (y.ad.a.toNat : Int), .int .u8 (y.ad.b.toNat : Int), .int .u8 (y.ad.c.toNat : Int), .int .u8 (y.ad.d.toNat : Int), .int .i64 y.u, .bool y.fx, .bool y.le, .bool y.rp, .int .i64 y.br] _ (fun W hW => Sle.range0 (hW) HY.out 15 [.int .u8 (y.m.a.toNat : Int), .int .u8 (y.m.b.toNat : Int), .int .u8 (y.m.c.toNat : Int), .int .u8 (y.m.d.toNat : Int), .int .u8 (y.m.e.toNat : Int), .int .u8 (y.m.f.toNat : Int), .int .u8 (y.ad.a.toNat : Int), .int .u8 (y.ad.b.toNat : Int), .int .u8 (y.ad.c.toNat : Int), .int .u8 (y.ad.d.toNat : Int), .int .i64 y.u, .bool y.fx, .bool y.le, .bool y.rp, .int .i64 y.br] rfl) Try.underlying101 rfl (by kernel_rfl)) hH ?_
    simp only [sq3, sq4]
    refine wpAnyH_ready (rs := [14]) (by kernel_rfl) (by simp) ?_
    refine AllReadyH.cons (o := _) rfl (fun K hK => ?_) AllReadyH.nil
    simp only [sq3]
    go_simp
    with_reducible refine (presf_any x y _).mono ?_
    rintro e w2 ⟨rfl, b2⟩
    dsimp only
    replace en := en.below b2
    replace bel := bel.trans (b2.mono bel.size)
    clear b2
    rw [HC.out]
    refine hK.out _ _ en (fun hH3 => ?_)
    clear hK K
    refine wpAnyH_take (i := 15) (v := ?_) rfl (by kernel_rfl) (by kernel_rfl) (by kernel_rfl) (fun _ _ _ h => h) (Or.inl ⟨by rfl, ?_⟩) hH3 ?_
    rotate_left
    · ((intro W hW; clear hW; go_simp) <;> with_reducible rfl)
    simp only [sq3, sq4]
    refine wpAnyH_take (i := 16) (v := ?_) rfl (by kernel_rfl) (by kernel_rfl) (by kernel_rfl) (fun _ _ _ h => h) (Or.inl ⟨by rfl, ?_⟩) hH3 ?_
    rotate_left
    · ((intro W hW; clear hW; go_simp) <;> with_reducible rfl)
    simp only [sq3, sq4]
    refine wpAnyH_done (by kernel_rfl) ?_ _
    go_wp2_with fail
    go_roundg (n + 1 - (k + 1))
    case measure => have := HGK_.out; omega
    case rel => exact ⟨k + 1, rfl, by omega, by omega, by go_num, en, bel⟩
set_option linter.unusedVariables false in
set_option linter.unusedSimpArgs false in
set_option maxRecDepth 100000 in
set_option maxHeartbeats 16000000 in
theorem pins_nil {A : Option Addr} {c : Nat} (w : World) : Calls Try.prog 82 #[.slice A 0 c, .int .i64 0, .int .i64 0, .func (.func 59) #[] #[]] w fun e w' => e = .returned (.tuple #[]) ∧ Below w.heap.size w w' := by
  have bel := Below.refl w.heap.size w
  go_enter Try.func82, Try.ntmps82
  go_wp2_with fail
  refine wp_loop_rounds 1 ?_
  rw [rounds_succ]
  go_wp2_with fail
  exact bodyPost_end (results_none rfl _ _ _) rfl ⟨rfl, bel⟩
theorem pins_any {A : Option Addr} {n c : Nat} {l : List Sd} (w : World) (en : Sle slE 15 w A n c l) (hS : SSrt l) (hn : n ≤ 12) : Calls Try.prog 82 #[.slice A n c, .int .i64 0, .int .i64 (n : Int), .func (.func 59) #[] #[]] w fun e w' => e = .returned (.tuple #[]) ∧ Below w.heap.size w w' := by
  rcases Nat.eq_zero_or_pos n with h0 | h0
  · subst h0; exact pins_nil w
  · exact pins_pos w en hS h0 hn
set_option linter.unusedVariables false in
set_option linter.unusedSimpArgs false in
set_option maxRecDepth 100000 in
set_option maxHeartbeats 16000000 in
theorem ppdq_any {A : Option Addr} {n c : Nat} {lim : Int} {l : List Sd} (w : World) (en : Sle slE 15 w A n c l) (hS : SSrt l) (hn : n ≤ 12) : Calls Try.prog 73 #[.slice A n c, .int .i64 0, .int .i64 (n : Int), .int .i64 lim, .func (.func 59) #[] #[]] w fun e w' => e = .returned (.tuple #[]) ∧ Below w.heap.size w w' := by
  have HS := Lib.hid hS
  clear hS
  have n0 : (0 : Int) ≤ n := by omega
  have n1 : (n : Int) ≤ 12 := by omega
  have hwn : IntKind.i64.wrap (n : Int) = (n : Int) := IntWalk.i64_in _ (by omega)
  have bel := Below.refl w.heap.size w
  go_enter Try.func73, Try.ntmps73
  go_wp2_with fail
  refine wp_loop_rounds 1 ?_
  rw [rounds_succ]
  go_wp2_with fail
  with_reducible refine (pins_any _ en HS.out hn).mono ?_
  rintro e w1 ⟨rfl, b1⟩
  replace en := en.below b1
  replace bel := bel.trans (b1.mono bel.size)
  clear b1
  go_wp2_with fail
  exact bodyPost_ret (results_none rfl _ _ _) rfl ⟨rfl, bel⟩
theorem ppdq_0 {A : Option Addr} {c : Nat} {lim : Int} {l : List Sd} (w : World) (en : Sle slE 15 w A 0 c l) (hS : SSrt l) : Calls Try.prog 73 #[.slice A 0 c, .int .i64 0, .int .i64 0, .int .i64 lim, .func (.func 59) #[] #[]] w fun e w' => e = .returned (.tuple #[]) ∧ Below w.heap.size w w' := ppdq_any (n := 0) w en hS (by decide)
theorem ppdq_1 {A : Option Addr} {c : Nat} {lim : Int} {l : List Sd} (w : World) (en : Sle slE 15 w A 1 c l) (hS : SSrt l) : Calls Try.prog 73 #[.slice A 1 c, .int .i64 0, .int .i64 1, .int .i64 lim, .func (.func 59) #[] #[]] w fun e w' => e = .returned (.tuple #[]) ∧ Below w.heap.size w w' := ppdq_any (n := 1) w en hS (by decide)
theorem ppdq_2 {A : Option Addr} {c : Nat} {lim : Int} {l : List Sd} (w : World) (en : Sle slE 15 w A 2 c l) (hS : SSrt l) : Calls Try.prog 73 #[.slice A 2 c, .int .i64 0, .int .i64 2, .int .i64 lim, .func (.func 59) #[] #[]] w fun e w' => e = .returned (.tuple #[]) ∧ Below w.heap.size w w' := ppdq_any (n := 2) w en hS (by decide)
set_option linter.unusedVariables false in
set_option linter.unusedSimpArgs false in
set_option maxRecDepth 100000 in
set_option maxHeartbeats 16000000 in
theorem psort_0 {A : Option Addr} {c : Nat} {l : List Sd} (w : World) (en : Sle slE 15 w A 0 c l) (hS : SSrt l) : Calls Try.prog 58 #[.slice A 0 c, .func (.func 59) #[] #[]] w fun e w' => e = .returned (.tuple #[]) ∧ Below w.heap.size w w' := by
  have HS := Lib.hid hS
  clear hS
  have bel := Below.refl w.heap.size w
  go_enter Try.func58, Try.ntmps58
  go_wp2_with fail
  with_reducible refine (blen_0 _).mono ?_
  rintro e _ ⟨rfl, rfl⟩
  go_wp2_with fail
  with_reducible refine (ppdq_0 _ en HS.out).mono ?_
  rintro e w1 ⟨rfl, b1⟩
  replace en := en.below b1
  replace bel := bel.trans (b1.mono bel.size)
  clear b1
  go_wp2_with fail
  exact bodyPost_end (results_none rfl _ _ _) rfl ⟨rfl, bel⟩
set_option linter.unusedVariables false in
set_option linter.unusedSimpArgs false in
set_option maxRecDepth 100000 in
set_option maxHeartbeats 16000000 in
theorem psort_1 {A : Option Addr} {c : Nat} {l : List Sd} (w : World) (en : Sle slE 15 w A 1 c l) (hS : SSrt l) : Calls Try.prog 58 #[.slice A 1 c, .func (.func 59) #[] #[]] w fun e w' => e = .returned (.tuple #[]) ∧ Below w.heap.size w w' := by
  have HS := Lib.hid hS
  clear hS
  have bel := Below.refl w.heap.size w
  go_enter Try.func58, Try.ntmps58
  go_wp2_with fail
  with_reducible refine (blen_1 _).mono ?_
  rintro e _ ⟨rfl, rfl⟩
  go_wp2_with fail
  with_reducible refine (ppdq_1 _ en HS.out).mono ?_
  rintro e w1 ⟨rfl, b1⟩
  replace en := en.below b1
  replace bel := bel.trans (b1.mono bel.size)
  clear b1
  go_wp2_with fail
  exact bodyPost_end (results_none rfl _ _ _) rfl ⟨rfl, bel⟩
set_option linter.unusedVariables false in
set_option linter.unusedSimpArgs false in
set_option maxRecDepth 100000 in
set_option maxHeartbeats 16000000 in
theorem psort_2 {A : Option Addr} {c : Nat} {l : List Sd} (w : World) (en : Sle slE 15 w A 2 c l) (hS : SSrt l) : Calls Try.prog 58 #[.slice A 2 c, .func (.func 59) #[] #[]] w fun e w' => e = .returned (.tuple #[]) ∧ Below w.heap.size w w' := by
  have HS := Lib.hid hS
  clear hS
  have bel := Below.refl w.heap.size w
  go_enter Try.func58, Try.ntmps58
  go_wp2_with fail
  with_reducible refine (blen_2 _).mono ?_
  rintro e _ ⟨rfl, rfl⟩
  go_wp2_with fail
  with_reducible refine (ppdq_2 _ en HS.out).mono ?_
  rintro e w1 ⟨rfl, b1⟩
  replace en := en.below b1
  replace bel := bel.trans (b1.mono bel.size)
  clear b1
  go_wp2_with fail
  exact bodyPost_end (results_none rfl _ _ _) rfl ⟨rfl, bel⟩
/-- Slots that stand in order stay (two at most). -/
theorem psort_any {A : Option Addr} {n c : Nat} {l : List Sd} (w : World) (en : Sle slE 15 w A n c l) (hS : SSrt l) (hn : n ≤ 2) : Calls Try.prog 58 #[.slice A n c, .func (.func 59) #[] #[]] w fun e w' => e = .returned (.tuple #[]) ∧ Below w.heap.size w w' := by
  match n, hn with
  | 0, _ => exact psort_0 w en hS
  | 1, _ => exact psort_1 w en hS
  | 2, _ => exact psort_2 w en hS
open Go.RowKit

/-- A map's block is written into: blocks of cells stay. -/
theorem Hm.blk {lo mb q : Nat} {w w' : World} {hs : List (Mc6 × Ad4)} {c : Array Value} {T : TypeId} {fz : Nat × Nat} (h : Hm lo mb w hs) (g : w.grownBy w' (some mb)) (hq : w.heap[q]? = some (.cells c T fz)) : w'.heap[q]? = some (.cells c T fz) :=
  (g.block q (hlt hq) (fun e => h.ne hq (by injection e with e; exact e.symm))).trans hq
theorem Hm.own {lo mb B k n : Nat} {w w' : World} {hs : List (Mc6 × Ad4)} {T : TypeId} {v : Value} {xs : List Value} (h : Hm lo mb w hs) (g : w.grownBy w' (some mb)) (ho : w.ownsRow B T k v n xs) : w'.ownsRow B T k v n xs := by
  refine ⟨ho.1, ?_⟩
  rcases ho.2 with h2 | ⟨g', cap, cur, e2, hb, hh, h3⟩
  · exact .inl h2
  · exact .inr ⟨g', cap, cur, e2, hb, h.blk g hh, h3⟩
theorem Hm.lo {lo mb : Nat} {w : World} {hs : List (Mc6 × Ad4)} (h : Hm lo mb w hs) : lo ≤ mb := by
  obtain ⟨_, _, _, h, _⟩ := h
  exact h
theorem Hm.bel {lo mb : Nat} {w0 w w' : World} {hs : List (Mc6 × Ad4)} (h : Hm lo mb w hs) (b : Below lo w0 w) (g : w.grownBy w' (some mb)) (hl : lo ≤ w.heap.size) : Below lo w0 w' := b.grown g hl (fun k e => by cases e; exact h.lo)
theorem wp_hm_put {o : Oper} {a : Act} {w : World} {K : Act → World → Prop} {Q : Exit → Act → World → Prop} (px py pz : Operand) (ho : o.op = .mapUpdate 81 px py pz) {lo mb : Nat} {hs : List (Mc6 × Ad4)} (m : Mc6) (ad : Ad4)
    (hx : a.eval px = .map (some mb)) (hy : a.eval py = macV m) (hz : a.eval pz = adV ad) (h : Hm lo mb w hs) (hm : ∀ p ∈ hs, p.1 ≠ m) (hK : ∀ w', Hm lo mb w' (hs ++ [(m, ad)]) → w.grownBy w' (some mb) → K (a.put o.dst undef) w') : Oper.wp Try.prog o a w K Q := by
  obtain ⟨w', hr, h1, h2⟩ := h.put m ad hm
  unfold Oper.wp execOp
  simp only [ho, hx, hy, hz, Sem.run_bind, Sem.run_pure, Result.andThen_ok, hr]
  exact hK _ h1 h2
theorem wp_hm_len {o : Oper} {a : Act} {w : World} {K : Act → World → Prop} {Q : Exit → Act → World → Prop} (px : Operand) (ho : o.op = .call { callee := .builtin .len, args := #[px], argTypes := #[81] }) {lo mb n : Nat} {hs : List (Mc6 × Ad4)}
    (hx : a.eval px = .map (some mb)) (h : Hm lo mb w hs) (hn : hs.length = n) (hK : K (a.put o.dst (.int .i64 (n : Int))) w) : Oper.wp Try.prog o a w K Q := by
  have hr := h.len o.type
  rw [hn] at hr
  unfold Oper.wp execOp
  simp only [ho, resolve, invoke, builtin, Sem.run_bind, Sem.run_pure, Result.andThen_ok, List.map_toArray, List.map_cons, List.map_nil, hx, hr]
  exact hK
theorem wpList_hm_len {ops : Array Oper} {rest : List Oper} {o : Oper} {a : Act} {w : World} {Q : Exit → Act → World → Prop} (hgd : o.guard = none) (px : Operand) (ho : o.op = .call { callee := .builtin .len, args := #[px], argTypes := #[81] }) {lo mb n : Nat} {hs : List (Mc6 × Ad4)}
    (hx : a.eval px = .map (some mb)) (h : Hm lo mb w hs) (hn : hs.length = n) (hK : wpList Try.prog ops Q rest (a.put o.dst (.int .i64 (n : Int))) w) : wpList Try.prog ops Q (o :: rest) a w :=
  wpList_plain hgd fun _ hK' => wp_hm_len px ho hx h hn (hK' _ _ hK)
def slotF (e : Le) : Sd := ⟨Mc6.zero, e.ad, 0, true, false, false, 0⟩
def Le.pr (e : Le) : Mc6 × Ad4 := (e.m, e.ad)
theorem slotF_srt {fl : List Le} (h : (fl.map (fun e => e.ad.num)).Pairwise (fun a b => a < b)) : SSrt (fl.map slotF) := by
  unfold SSrt
  rw [List.pairwise_map] at h ⊢
  exact h
theorem pr_new {fl : List Le} {k : Nat} {e : Le} (he : fl[k]? = some e) (h : (fl.map (·.m)).Nodup) : ∀ p ∈ (fl.take k).map Le.pr, p.1 ≠ e.m := by
  intro p hp
  obtain ⟨x, hx, rfl⟩ := List.mem_map.1 hp
  obtain ⟨j, hj⟩ := List.getElem?_of_mem hx
  rw [List.getElem?_take] at hj
  split at hj
  · rename_i hjk
    intro hxe
    have h1 := (List.getElem?_eq_some_iff.1 hj)
    have h2 := (List.getElem?_eq_some_iff.1 he)
    obtain ⟨a1, a2⟩ := h1
    obtain ⟨b1, b2⟩ := h2
    have hj' : (fl.map (·.m))[j]'(by simpa using a1) = (fl.map (·.m))[k]'(by simpa using b1) := by
      rw [List.getElem_map, List.getElem_map, a2, b2]; exact hxe
    exact List.pairwise_iff_getElem.1 h j k (by simpa using a1) (by simpa using b1) hjk hj'
  · cases hj
theorem take_pr {fl : List Le} {k : Nat} {e : Le} (he : fl[k]? = some e) : (fl.take k).map Le.pr ++ [(e.m, e.ad)] = (fl.take (k + 1)).map Le.pr := by
  rw [List.take_add_one, he, List.map_append]; rfl
theorem take_sf {fl : List Le} {k : Nat} {e : Le} (he : fl[k]? = some e) : (fl.take k).map slotF ++ [slotF e] = (fl.take (k + 1)).map slotF := by
  rw [List.take_add_one, he, List.map_append]; rfl
set_option linter.unusedVariables false in
set_option linter.unusedSimpArgs false in
set_option maxRecDepth 100000 in
set_option maxHeartbeats 16000000 in
theorem preserve_any {lo gt mb n c : Nat} {now : Int} {A : Option Addr} {fl : List Le} (w : World) (htb : w.heap[gt]? = some (.cells #[.int .i64 now, .map (some mb), .slice none 0 0] 84 (0, 0))) (otb : lo ≤ gt) (hlo : lo ≤ w.heap.size) (hM : Hm lo mb w []) (fx0 : Sle leE 11 w A n c fl) (hbl : Bl A n lo) (hn : n ≤ 2) (hsl : (fl.map (fun e => e.ad.num)).Pairwise (fun a b => a < b)) (hnd : (fl.map (·.m)).Nodup) : Calls Try.prog 37 #[.pointer (some ⟨gt, 0, none⟩), .slice A n c] w fun e w' => e = .returned (.bool true) ∧ ∃ A2 c2, w'.heap[gt]? = some (.cells #[.int .i64 now, .map (some mb), .slice A2 fl.length c2] 84 (0, 0)) ∧ Hm lo mb w' (fl.map Le.pr) ∧ w'.ownsRow lo 101 15 (.slice A2 fl.length c2) fl.length ((fl.map slotF).flatMap slE) ∧ Below lo w w' := by
  have HFX := Lib.hid fx0
  have HBL := Lib.hid hbl
  have HSL := Lib.hid hsl
  have HND := Lib.hid hnd
  have HN : Hid (fl.length = n) := Lib.hid fx0.1
  have HLO := Lib.hid hlo
  have HHN := Lib.hid hn
  have hn0 : (n : Int) ≤ 2 := by omega
  have hn1 : (0 : Int) ≤ n := by omega
  have own : w.ownsRow lo 101 15 (.slice none 0 0) 0 (([] : List Sd).flatMap slE) := World.ownsRow_nil _ _ _ _
  have off_tb := ofs_type own htb (by decide)
  obtain ⟨ie, hie, hie0, hie1, hie2⟩ := info_parts Try.info_slot
  clear fx0 hbl hsl hnd
  have bel := Below.refl lo w
  go_enter Try.func37, Try.ntmps37
  go_wp2_with fail
  go_loopg [10] (n) (fun gk s10 wr => ∃ k : Nat, ∃ Ak : Option Addr, ∃ ck : Nat, gk = n - k ∧ k ≤ n ∧ wr.ownsRow lo 101 15 (.slice Ak k ck) k (((fl.take k).map slotF).flatMap slE) ∧ Hm lo mb wr ((fl.take k).map Le.pr) ∧ s10 = .int .i64 (k : Int) ∧ wr.heap[gt]? = some (.cells #[.int .i64 now, .map (some mb), .slice Ak k ck] 84 (0, 0)) ∧ Below lo w wr)
  case atStart => exact ⟨0, none, 0, Nat.sub_zero _, Nat.zero_le _, own, hM, rfl, htb, bel⟩
  case round =>
    clear own hM htb bel
    obtain ⟨k, Ak, ck, HGK, hkn, own, hM, rfl, htb, bel⟩ := hrel
    have HGK_ := Lib.hid HGK
    clear HGK
    have off_tb := ofs_type own htb (by decide)
    by_cases h : k < n
    · obtain ⟨f, hf⟩ : ∃ f, fl[k]? = some f := ⟨_, List.getElem?_eq_getElem (by have := HN.out; omega)⟩
      have HF := Lib.hid hf
      have fx := HFX.out.under HBL.out bel
      obtain ⟨gF, oF, rfl⟩ := fx.place (by omega)
      have k0 : (0 : Int) ≤ k := by omega
      have k1 : (k : Int) < n := by omega
      have HB1 : Hid (k + 1 ≤ maxLen) := Lib.hid (by have := HHN.out; unfold maxLen; omega)
      have HB2 : Hid ((k + 1) * 40 ≤ 140737488355328) := Lib.hid (by have := HHN.out; omega)
      clear hf
      have av_fx_tb : Av (some ⟨gF, oF, none⟩) n gt := fun hn_ a_ o_ p_ e_ => Nat.ne_of_lt (Nat.lt_of_lt_of_le (HBL.out hn_ a_ o_ p_ e_) otb)
      have R13 := Lib.hid (Sle.range0 fx HF.out 11 [.int .u8 (f.m.a.toNat : Int), .int .u8 (f.m.b.toNat : Int), .int .u8 (f.m.c.toNat : Int), .int .u8 (f.m.d.toNat : Int), .int .u8 (f.m.e.toNat : Int), .int .u8 (f.m.f.toNat : Int), .int .u8 (f.ad.a.toNat : Int), .int .u8 (f.ad.b.toNat : Int), .int .u8 (f.ad.c.toNat : Int), .int .u8 (f.ad.d.toNat : Int), .int .i64 f.u] rfl)
      go_wp2_with (first | ((with_reducible show wpList _ _ _ (⟨some 13, _, _, _, _, _⟩ :: _) _ _); refine wpList_load_rng 56 (.tmp 12) rfl (by kernel_rfl) _ _ rfl _ R13.out _ Try.underlying56 rfl (by kernel_rfl) ?_) | ((with_reducible show wpList _ _ _ (⟨some 6, _, _, _, _, _⟩ :: _) _ _); refine wpList_new_a rfl 56 rfl #[.int .u8 0, .int .u8 0, .int .u8 0, .int .u8 0, .int .u8 0, .int .u8 0, .int .u8 0, .int .u8 0, .int .u8 0, .int .u8 0, .int .i64 0] (by kernel_rfl) ?_; intro g6 w1 ge hh bb; have d_tb_fB := ne_new (hlt htb) ge; have av_fx_fB := fx.av_new ge; have ofB := Nat.le_trans (Nat.le_trans hlo bel.size) ge; have off_fB := owk_new own ge; replace htb := blk_u htb bb; replace fx := fx.below bb; replace own := owk_under own bb; replace hM := hM.below bb; replace bel := bel.trans (bb.mono (Nat.le_trans hlo bel.size)); have hfB := hh; clear hh ge bb) | ((with_reducible show wpList _ _ _ (⟨none, Op.store _ (.tmp 6) _, _, _, _, _⟩ :: _) _ _); refine wpList_store_blk rfl 56 (.tmp 6) (.tmp 13) rfl g6 rfl _ rfl _ 56 hfB (by rfl) (by kernel_rfl) (by kernel_rfl) ?_; intro w2 hq gr; replace fx := fx.away av_fx_fB gr; replace htb := blk_a htb gr d_tb_fB; replace own := owk_off own off_fB gr; replace hM := hM.grown gr hfB; replace bel := below_grown bel gr ofB (Nat.le_trans hlo bel.size); clear hfB; have hfB := hq; clear hq gr))
      try clear R13
      replace bel := bel.drew
      replace htb : w2.drew.heap[gt]? = _ := htb
      replace hfB : w2.drew.heap[g6]? = _ := hfB
      replace fx := fx.drew
      replace own := World.ownsRow.drew own
      replace hM := hm_drew hM
      refine wp_region_held_drew (S := fun W => W.heap[gt]? = some (.cells #[.int .i64 now, .map (some mb), .slice Ak k ck] 84 (0, 0)) ∧ W.heap[g6]? = some (.cells #[.int .u8 (f.m.a.toNat : Int), .int .u8 (f.m.b.toNat : Int), .int .u8 (f.m.c.toNat : Int), .int .u8 (f.m.d.toNat : Int), .int .u8 (f.m.e.toNat : Int), .int .u8 (f.m.f.toNat : Int), .int .u8 (f.ad.a.toNat : Int), .int .u8 (f.ad.b.toNat : Int), .int .u8 (f.ad.c.toNat : Int), .int .u8 (f.ad.d.toNat : Int), .int .i64 f.u] 56 (0, 0))) (by kernel_rfl) ⟨htb, hfB⟩ (fun hH => ?_)
      generalize w2.drew = w3 at bel htb hfB fx own hM hH ⊢
      refine wpAnyH_take (i := 0) (v := ?_) rfl (by kernel_rfl) (by kernel_rfl) (by kernel_rfl) (fun _ _ _ h => h) (Or.inl ⟨by rfl, ?_⟩) hH ?_
      rotate_left
      · ((intro W hW; clear hW; go_simp) <;> with_reducible rfl)
      simp only [Act.put, List.getElem_toArray, List.getElem_cons_zero, List.setIfInBounds_toArray, List.set_cons_zero, List.set_cons_succ]
      refine wpAnyH_take (i := 1) (v := ?_) rfl (by kernel_rfl) (by kernel_rfl) (by kernel_rfl) (fun _ _ _ h => h) (Or.inl ⟨by rfl, ?_⟩) hH ?_
      rotate_left
      · ((intro W hW; clear hW; go_simp) <;> with_reducible rfl)
      simp only [sq3, sq4]
      refine wpAnyH_take (i := 2) (v := ?_) rfl (by kernel_rfl) (by kernel_rfl) (by kernel_rfl) (fun _ _ _ h => h) (Or.inl ⟨by rfl, ?_⟩) hH ?_
      rotate_left
      · ((intro W hW; clear hW; go_simp) <;> with_reducible rfl)
      simp only [sq3, sq4]
      refine wpAnyH_take (i := 3) (v := ?_) rfl (by kernel_rfl) (by kernel_rfl) (by kernel_rfl) (fun _ _ _ h => h) (Or.inl ⟨by rfl, ?_⟩) hH ?_
      rotate_left
      · ((intro W hW; have hk := cell_lit (hW.1) 1 _ rfl; clear hW; go_simp) <;> with_reducible rfl)
      simp only [sq3, sq4]
      refine wpAnyH_take (i := 4) (v := ?_) rfl (by kernel_rfl) (by kernel_rfl) (by kernel_rfl) (fun _ _ _ h => h) (Or.inl ⟨by rfl, ?_⟩) hH ?_
      rotate_left
      · ((intro W hW; clear hW; go_simp) <;> with_reducible rfl)
      simp only [sq3, sq4]
      refine wpAnyH_take (i := 5) (v := .agg #[.int .u8 (f.m.a.toNat : Int), .int .u8 (f.m.b.toNat : Int), .int .u8 (f.m.c.toNat : Int), .int .u8 (f.m.d.toNat : Int), .int .u8 (f.m.e.toNat : Int), .int .u8 (f.m.f.toNat : Int)]) rfl (by kernel_rfl) (by kernel_rfl) (by kernel_rfl) (fun _ _ _ h => h) (yieldsIf_load_part (by kernel_rfl) 32 _ rfl g6 0 6 rfl _ 56 (0, 0) (fun W hW => hW.2) _ rfl _ Try.underlying32 rfl (by kernel_rfl)) hH ?_
      simp only [sq3, sq4]
      refine wpAnyH_take (i := 6) (v := ?_) rfl (by kernel_rfl) (by kernel_rfl) (by kernel_rfl) (fun _ _ _ h => h) (Or.inl ⟨by rfl, ?_⟩) hH ?_
      rotate_left
      · ((intro W hW; clear hW; go_simp) <;> with_reducible rfl)
      simp only [sq3, sq4]
      refine wpAnyH_take (i := 7) (v := .agg #[.int .u8 (f.ad.a.toNat : Int), .int .u8 (f.ad.b.toNat : Int), .int .u8 (f.ad.c.toNat : Int), .int .u8 (f.ad.d.toNat : Int)]) rfl (by kernel_rfl) (by kernel_rfl) (by kernel_rfl) (fun _ _ _ h => h) (yieldsIf_load_part (by kernel_rfl) 28 _ rfl g6 6 4 rfl _ 56 (0, 0) (fun W hW => hW.2) _ rfl _ Try.underlying28 rfl (by kernel_rfl)) hH ?_
      simp only [sq3, sq4]
      refine wpAnyH_ready (rs := [8]) (by kernel_rfl) (by simp) ?_
      refine AllReadyH.cons (o := _) rfl (fun K hK => ?_) AllReadyH.nil
      simp only [sq3]
      rw [if_pos (by rfl)]
      refine wp_hm_put (.tmp 17) (.tmp 19) (.tmp 21) rfl f.m f.ad rfl rfl rfl hM (pr_new HF.out HND.out) ?_
      intro w70 hM_ gm
      replace htb := hM.blk gm htb
      replace hfB := hM.blk gm hfB
      replace own := hM.own gm own
      replace bel := hM.bel bel gm (Nat.le_trans HLO.out bel.size)
      clear hM gm
      rw [take_pr HF.out] at hM_
      have hM := hM_
      clear hM_
      clear fx
      refine hK.out _ _ ⟨htb, hfB⟩ (fun hH4 => ?_)
      clear hK K
      simp only [Act.put]
      refine wpAnyH_done (by kernel_rfl) ?_ _
      go_wp2_with fail
      replace bel := bel.drew
      replace htb : w70.drew.heap[gt]? = _ := htb
      replace hfB : w70.drew.heap[g6]? = _ := hfB
      replace own := World.ownsRow.drew own
      replace hM := hm_drew hM
      refine wp_region_z 13 (S := fun W => W.heap[gt]? = some (.cells #[.int .i64 now, .map (some mb), .slice Ak k ck] 84 (0, 0)) ∧ W.heap[g6]? = some (.cells #[.int .u8 (f.m.a.toNat : Int), .int .u8 (f.m.b.toNat : Int), .int .u8 (f.m.c.toNat : Int), .int .u8 (f.m.d.toNat : Int), .int .u8 (f.m.e.toNat : Int), .int .u8 (f.m.f.toNat : Int), .int .u8 (f.ad.a.toNat : Int), .int .u8 (f.ad.b.toNat : Int), .int .u8 (f.ad.c.toNat : Int), .int .u8 (f.ad.d.toNat : Int), .int .i64 f.u] 56 (0, 0))) (by kernel_rfl) ⟨htb, hfB⟩ (fun hH => ?_)
      generalize w70.drew = w5 at bel htb hfB own hM hH ⊢
      refine wpAnyZ_take (i := 0) (v := ?_) rfl (by kernel_rfl) (by kernel_rfl) (by kernel_rfl) (fun _ _ _ h => h) (Or.inl ⟨by rfl, ?_⟩) hH ?_
      rotate_left
      · ((intro W hW; clear hW; go_simp) <;> with_reducible rfl)
      simp only [Act.put, List.getElem_toArray, List.getElem_cons_zero, List.setIfInBounds_toArray, List.set_cons_zero, List.set_cons_succ]
      refine wpAnyZ_take (i := 1) (v := ?_) rfl (by kernel_rfl) (by kernel_rfl) (by kernel_rfl) (fun _ _ _ h => h) (Or.inl ⟨by rfl, ?_⟩) hH ?_
      rotate_left
      · ((intro W hW; clear hW; go_simp) <;> with_reducible rfl)
      simp only [sq3, sq4]
      refine wpAnyZ_take (i := 2) (v := ?_) rfl (by kernel_rfl) (by kernel_rfl) (by kernel_rfl) (fun _ _ _ h => h) (Or.inl ⟨by rfl, ?_⟩) hH ?_
      rotate_left
      · ((intro W hW; clear hW; go_simp) <;> with_reducible rfl)
      simp only [sq3, sq4]
      refine wpAnyZ_take (i := 3) (v := ?_) rfl (by kernel_rfl) (by kernel_rfl) (by kernel_rfl) (fun _ _ _ h => h) (Or.inl ⟨by rfl, ?_⟩) hH ?_
      rotate_left
      · ((intro W hW; clear hW; go_simp) <;> with_reducible rfl)
      simp only [sq3, sq4]
      refine wpAnyZ_take (i := 4) (v := ?_) rfl (by kernel_rfl) (by kernel_rfl) (by kernel_rfl) (fun _ _ _ h => h) (Or.inl ⟨by rfl, ?_⟩) hH ?_
      rotate_left
      · ((intro W hW; have hk := cell_lit (hW.1) 2 _ rfl; clear hW; go_simp) <;> with_reducible rfl)
      simp only [sq3, sq4]
      refine wpAnyZ_take (i := 5) (v := ?_) rfl (by kernel_rfl) (by kernel_rfl) (by kernel_rfl) (fun _ _ _ h => h) (Or.inl ⟨by rfl, ?_⟩) hH ?_
      rotate_left
      · ((intro W hW; clear hW; go_simp) <;> with_reducible rfl)
      simp only [sq3, sq4]
      refine wpAnyZ_take (i := 6) (v := .agg #[.int .u8 (f.ad.a.toNat : Int), .int .u8 (f.ad.b.toNat : Int), .int .u8 (f.ad.c.toNat : Int), .int .u8 (f.ad.d.toNat : Int)]) rfl (by kernel_rfl) (by kernel_rfl) (by kernel_rfl) (fun _ _ _ h => h) (yieldsIf_load_part (by kernel_rfl) 28 _ rfl g6 6 4 rfl _ 56 (0, 0) (fun W hW => hW.2) _ rfl _ Try.underlying28 rfl (by kernel_rfl)) hH ?_
      simp only [sq3, sq4]
      refine wpAnyZ_take (i := 7) (v := ?_) rfl (by kernel_rfl) (by kernel_rfl) (by kernel_rfl) (fun _ _ _ h => h) (Or.inl ⟨by rfl, ?_⟩) hH ?_
      rotate_left
      · ((intro W hW; clear hW; go_simp) <;> with_reducible rfl)
      simp only [sq3, sq4]
      refine wpAnyZ_take (i := 8) (v := ?_) rfl (by kernel_rfl) (by kernel_rfl) (by kernel_rfl) (fun _ _ _ h => h) (Or.inl ⟨by rfl, ?_⟩) hH ?_
      rotate_left
      · ((intro W hW; clear hW; go_simp) <;> with_reducible rfl)
      simp only [sq3, sq4]
      refine wpAnyZ_ready (rs := [9]) (by kernel_rfl) (by simp) ?_
      refine AllReadyZ.cons (o := _) rfl (fun K hK => ?_) AllReadyZ.nil
      simp only [sq3]
      rw [if_pos (by rfl)]
      refine wp_lit_n 82 101 1 _ rfl #[.int .u8 0, .int .u8 0, .int .u8 0, .int .u8 0, .int .u8 0, .int .u8 0, .int .u8 (f.ad.a.toNat : Int), .int .u8 (f.ad.b.toNat : Int), .int .u8 (f.ad.c.toNat : Int), .int .u8 (f.ad.d.toNat : Int), .int .i64 0, .bool true, .bool false, .bool false, .int .i64 0] (.agg #[.int .u8 0, .int .u8 0, .int .u8 0, .int .u8 0, .int .u8 0, .int .u8 0, .int .u8 0, .int .u8 0, .int .u8 0, .int .u8 0, .int .i64 0, .bool false, .bool false, .bool false, .int .i64 0]) Try.underlying82 (by kernel_rfl) 15 (by kernel_rfl) (by decide) (by kernel_rfl) ?_
      intro g31 w6 ge lt hh bb
      have d_tb_b31 := ne_new (hlt htb) ge
      have d_fB_b31 := ne_new (hlt hfB) ge
      have ob31 := Nat.le_trans (Nat.le_trans hlo bel.size) ge
      have off_b31 := owk_new own ge
      replace htb := blk_u htb bb
      replace hfB := blk_u hfB bb
      replace own := owk_under own bb
      replace hM := hM.below bb
      replace bel := bel.trans (bb.mono (Nat.le_trans hlo bel.size))
      have hb31 := hh
      clear hh lt ge bb
      refine hK.out _ _ ⟨htb, hfB⟩ (fun hH7 => ?_)
      clear hK K
      simp only [sq4]
      refine wpAnyZ_ready (rs := [10]) (by kernel_rfl) (by simp) ?_
      refine AllReadyZ.cons (o := _) rfl (fun K hK => ?_) AllReadyZ.nil
      simp only [sq3]
      rw [if_pos (by rfl)]
      have HLO_ := Nat.le_trans HLO.out bel.size
      have lt : Sle slE 15 w6 (some ⟨g31, 0, none⟩) 1 1 [slotF f] := sle_lit [slotF f] (by decide) slE_len hb31 rfl (by simp [maxLen])
      refine wp_append_sle (.tmp 26) (.tmp 31) 82 rfl lo 101 ie (.agg #[.int .u8 0, .int .u8 0, .int .u8 0, .int .u8 0, .int .u8 0, .int .u8 0, .int .u8 0, .int .u8 0, .int .u8 0, .int .u8 0, .int .i64 0, .bool false, .bool false, .bool false, .int .i64 0]) 40 Try.underlying82 hie hie0 hie1 hie2 rfl slE_one _ k ((fl.take k).map slotF) rfl own (some ⟨g31, 0, none⟩) 1 1 [slotF f] rfl lt HB1.out HB2.out HLO_ ?_
      intro v32 w71 own_ bb gw ofw
      have off_tb_ := ofw _ (hlt htb) off_tb
      replace htb := blk_own htb gw off_tb
      replace hfB := blk_own hfB gw off_fB
      replace hM := hM.row gw own
      replace bel := bel.trans bb
      clear own lt bb gw ofw off_tb off_fB off_b31 hb31 HLO_
      rw [take_sf HF.out] at own_
      obtain ⟨A32, c32, rfl⟩ := owk_val own_
      have own := own_
      have off_tb := off_tb_
      clear own_ off_tb_
      refine hK.out _ _ ⟨htb, hfB⟩ (fun hH8 => ?_)
      clear hK K
      simp only [sq4]
      refine wpAnyZ_take (i := 11) (v := ?_) rfl (by kernel_rfl) (by kernel_rfl) (by kernel_rfl) (fun _ _ _ h => h) (Or.inl ⟨by rfl, ?_⟩) hH8 ?_
      rotate_left
      · ((intro W hW; clear hW; go_simp) <;> with_reducible rfl)
      simp only [sq3, sq4]
      refine wpAnyZ_take (i := 12) (v := ?_) rfl (by kernel_rfl) (by kernel_rfl) (by kernel_rfl) (fun _ _ _ h => h) (Or.inl ⟨by rfl, ?_⟩) hH8 ?_
      rotate_left
      · ((intro W hW; clear hW; go_simp) <;> with_reducible rfl)
      simp only [sq3, sq4]
      refine wpAnyZ_ready (rs := [13]) (by kernel_rfl) (by simp) ?_
      refine AllReadyZ.last (o := _) rfl (fun K hK => ?_)
      simp only [sq3]
      rw [if_pos (by rfl)]
      refine wp_store_part 82 (.tmp 34) (.tmp 32) rfl gt 2 rfl [.slice A32 (k + 1) c32] rfl [.int .i64 now, .map (some mb), .slice Ak k ck] 84 htb (by simp) [.int .i64 now, .map (some mb), .slice A32 (k + 1) c32] rfl (by kernel_rfl) (by rfl) ?_
      intro w9 hq gr
      replace hfB := blk_a hfB gr (ne_symm d_tb_fB)
      replace own := owk_off own off_tb gr
      replace hM := hM.grown gr htb
      replace bel := below_grown bel gr otb (Nat.le_trans hlo bel.size)
      clear htb
      have htb := hq
      clear hq gr
      refine hK.out _ _ trivial (fun hH10 => ?_)
      clear hK K
      simp only [Act.put]
      refine wpAnyZ_done (by kernel_rfl) ?_ _
      go_wp2_with fail
      go_roundg (n - (k + 1))
      case measure => have := HGK_.out; omega
      case rel => exact ⟨k + 1, A32, c32, rfl, by omega, own, hM, by go_num, htb, bel⟩
    obtain rfl : k = n := by omega
    replace h : decide (k < k) = false := decide_eq_false (by omega)
    have HT1 : Hid ((fl.take k) = fl) := Lib.hid (List.take_of_length_le (Nat.le_of_eq HN.out))
    rw [HT1.out] at own hM
    have HSS := Lib.hid (slotF_srt HSL.out)
    have HLS : Hid ((fl.map slotF).length = k) := Lib.hid (by rw [List.length_map]; exact HN.out)
    have en := (owk_sle (by decide) slE_len own).1
    have av_en_tb := owk_av own off_tb
    obtain ⟨Ar, hAr⟩ : ∃ x, x = Ak := ⟨_, rfl⟩
    subst hAr
    have R39 := cell_lit htb 2 _ rfl
    go_wp2_with fail
    clear R39
    with_reducible refine (psort_any _ en HSS.out HHN.out).mono ?_
    rintro e w1 ⟨rfl, b1⟩
    replace htb := blk_u htb b1
    replace en := en.below b1
    replace own := owk_under own b1
    replace hM := hM.below b1
    replace bel := bel.trans (b1.mono (Nat.le_trans hlo bel.size))
    clear b1
    have R44 := cell_lit htb 2 _ rfl
    go_wp2_with fail
    clear R44
    go_loopg [46] (k) (fun gk s46 wr => ∃ j : Nat, gk = k - j ∧ j ≤ k ∧ wr.ownsRow lo 101 15 (.slice Ar k ck) k ((fl.map slotF).flatMap slE) ∧ Hm lo mb wr (fl.map Le.pr) ∧ s46 = .int .i64 (j : Int) ∧ wr.heap[gt]? = some (.cells #[.int .i64 now, .map (some mb), .slice Ar k ck] 84 (0, 0)) ∧ Sle slE 15 wr (Ar) (k) (ck) (fl.map slotF) ∧ Below lo w wr)
    case atStart => exact ⟨0, Nat.sub_zero _, Nat.zero_le _, own, hM, rfl, htb, en, bel⟩
    case round =>
      clear own hM htb en bel
      obtain ⟨j, HGK, hjk, own, hM, rfl, htb, en, bel⟩ := hrel
      have HGK_ := Lib.hid HGK
      clear HGK
      by_cases h : j < k
      rotate_left
      · obtain rfl : j = k := by omega
        replace h : decide (j < j) = false := decide_eq_false (by omega)
        have hlm_ : Hid ((fl.map Le.pr).length = j) := Lib.hid (by rw [List.length_map]; exact HN.out)
        have R77 := cell_lit htb 1 _ rfl
        go_wp2_with (first | ((with_reducible show wpList _ _ _ (⟨some 78, _, _, _, _, _⟩ :: _) _ _); refine wpList_hm_len rfl (.tmp 77) rfl rfl hM hlm_.out ?_))
        try clear R77
        go_ret
        exact ⟨rfl, Ar, ck, (by have h_ := htb; rw [← HN.out] at h_; exact h_), hM, (by have h_ := own; rw [← HN.out] at h_; exact h_), bel⟩
      obtain ⟨x, hx⟩ : ∃ x, (fl.map slotF)[j]? = some x := ⟨_, List.getElem?_eq_getElem (by have := HLS.out; omega)⟩
      have j0 : (0 : Int) ≤ j := by omega
      have j1 : (j : Int) < k := by omega
      have j2 : (j : Int) ≤ 2 := by have := HHN.out; omega
      obtain ⟨gE, rfl, _⟩ := row_at own (by omega)
      rcases Nat.eq_zero_or_pos j with hj | hj
      · obtain rfl : j = 0 := by omega
        clear hj
        have HX := Lib.hid hx
        clear hx
        go_wp2_with fail
        replace bel := bel.drew
        replace htb : wr.drew.heap[gt]? = _ := htb
        replace en := en.drew
        replace own := World.ownsRow.drew own
        replace hM := hm_drew hM
        refine wp_region_held_drew (S := fun W => W.heap[gt]? = some (.cells #[.int .i64 now, .map (some mb), .slice (some ⟨gE, 0, none⟩) k ck] 84 (0, 0)) ∧ Sle slE 15 W (some ⟨gE, 0, none⟩) (k) (ck) (fl.map slotF)) (by kernel_rfl) ⟨htb, en⟩ (fun hH => ?_)
        generalize wr.drew = w2 at bel htb en own hM hH ⊢
        refine wpAnyH_take (i := 0) (v := ?_) rfl (by kernel_rfl) (by kernel_rfl) (by kernel_rfl) (fun _ _ _ h => h) (Or.inl ⟨by rfl, ?_⟩) hH ?_
        rotate_left
        · ((intro W hW; clear hW; go_simp) <;> with_reducible rfl)
        simp only [Act.put, List.getElem_toArray, List.getElem_cons_zero, List.setIfInBounds_toArray, List.set_cons_zero, List.set_cons_succ]
        refine wpAnyH_take (i := 1) (v := ?_) rfl (by kernel_rfl) (by kernel_rfl) (by kernel_rfl) (fun _ _ _ h => h) (Or.inl ⟨by rfl, ?_⟩) hH ?_
        rotate_left
        · ((intro W hW; clear hW; go_simp) <;> with_reducible rfl)
        simp only [sq3, sq4]
        refine wpAnyH_take (i := 2) (v := ?_) rfl (by kernel_rfl) (by kernel_rfl) (by kernel_rfl) (fun _ _ _ h => h) (Or.inl ⟨by rfl, ?_⟩) hH ?_
        rotate_left
        · ((intro W hW; clear hW; go_simp) <;> with_reducible rfl)
        simp only [sq3, sq4]
        refine wpAnyH_take (i := 3) (v := undef) rfl (by kernel_rfl) (by kernel_rfl) (by kernel_rfl) (fun _ _ _ h => h) (Or.inr ⟨by rfl, rfl⟩) hH ?_
        simp only [sq3, sq4]
        refine wpAnyH_take (i := 4) (v := undef) rfl (by kernel_rfl) (by kernel_rfl) (by kernel_rfl) (fun _ _ _ h => h) (Or.inr ⟨by rfl, rfl⟩) hH ?_
        simp only [sq3, sq4]
        refine wpAnyH_take (i := 5) (v := undef) rfl (by kernel_rfl) (by kernel_rfl) (by kernel_rfl) (fun _ _ _ h => h) (Or.inr ⟨by rfl, rfl⟩) hH ?_
        simp only [sq3, sq4]
        refine wpAnyH_take (i := 6) (v := undef) rfl (by kernel_rfl) (by kernel_rfl) (by kernel_rfl) (fun _ _ _ h => h) (Or.inr ⟨by rfl, rfl⟩) hH ?_
        simp only [sq3, sq4]
        refine wpAnyH_take (i := 7) (v := undef) rfl (by kernel_rfl) (by kernel_rfl) (by kernel_rfl) (fun _ _ _ h => h) (Or.inr ⟨by rfl, rfl⟩) hH ?_
        simp only [sq3, sq4]
        refine wpAnyH_take (i := 8) (v := undef) rfl (by kernel_rfl) (by kernel_rfl) (by kernel_rfl) (fun _ _ _ h => h) (Or.inr ⟨by rfl, rfl⟩) hH ?_
        simp only [sq3, sq4]
        refine wpAnyH_take (i := 9) (v := undef) rfl (by kernel_rfl) (by kernel_rfl) (by kernel_rfl) (fun _ _ _ h => h) (Or.inr ⟨by rfl, rfl⟩) hH ?_
        simp only [sq3, sq4]
        refine wpAnyH_take (i := 10) (v := undef) rfl (by kernel_rfl) (by kernel_rfl) (by kernel_rfl) (fun _ _ _ h => h) (Or.inr ⟨by rfl, rfl⟩) hH ?_
        simp only [sq3, sq4]
        refine wpAnyH_take (i := 11) (v := undef) rfl (by kernel_rfl) (by kernel_rfl) (by kernel_rfl) (fun _ _ _ h => h) (Or.inr ⟨by rfl, rfl⟩) hH ?_
        simp only [sq3, sq4]
        refine wpAnyH_take (i := 12) (v := undef) rfl (by kernel_rfl) (by kernel_rfl) (by kernel_rfl) (fun _ _ _ h => h) (Or.inr ⟨by rfl, rfl⟩) hH ?_
        simp only [sq3, sq4]
        refine wpAnyH_take (i := 13) (v := undef) rfl (by kernel_rfl) (by kernel_rfl) (by kernel_rfl) (fun _ _ _ h => h) (Or.inr ⟨by rfl, rfl⟩) hH ?_
        simp only [sq3, sq4]
        refine wpAnyH_take (i := 14) (v := undef) rfl (by kernel_rfl) (by kernel_rfl) (by kernel_rfl) (fun _ _ _ h => h) (Or.inr ⟨by rfl, rfl⟩) hH ?_
        simp only [sq3, sq4]
        refine wpAnyH_take (i := 15) (v := undef) rfl (by kernel_rfl) (by kernel_rfl) (by kernel_rfl) (fun _ _ _ h => h) (Or.inr ⟨by rfl, rfl⟩) hH ?_
        simp only [sq3, sq4]
        refine wpAnyH_take (i := 16) (v := undef) rfl (by kernel_rfl) (by kernel_rfl) (by kernel_rfl) (fun _ _ _ h => h) (Or.inr ⟨by rfl, rfl⟩) hH ?_
        simp only [sq3, sq4]
        refine wpAnyH_take (i := 17) (v := undef) rfl (by kernel_rfl) (by kernel_rfl) (by kernel_rfl) (fun _ _ _ h => h) (Or.inr ⟨by rfl, rfl⟩) hH ?_
        simp only [sq3, sq4]
        refine wpAnyH_take (i := 18) (v := undef) rfl (by kernel_rfl) (by kernel_rfl) (by kernel_rfl) (fun _ _ _ h => h) (Or.inr ⟨by rfl, rfl⟩) hH ?_
        simp only [sq3, sq4]
        refine wpAnyH_take (i := 19) (v := undef) rfl (by kernel_rfl) (by kernel_rfl) (by kernel_rfl) (fun _ _ _ h => h) (Or.inr ⟨by rfl, rfl⟩) hH ?_
        simp only [sq3, sq4]
        refine wpAnyH_take (i := 20) (v := undef) rfl (by kernel_rfl) (by kernel_rfl) (by kernel_rfl) (fun _ _ _ h => h) (Or.inr ⟨by rfl, rfl⟩) hH ?_
        simp only [sq3, sq4]
        refine wpAnyH_take (i := 21) (v := undef) rfl (by kernel_rfl) (by kernel_rfl) (by kernel_rfl) (fun _ _ _ h => h) (Or.inr ⟨by rfl, rfl⟩) hH ?_
        simp only [sq3, sq4]
        refine wpAnyH_take (i := 22) (v := undef) rfl (by kernel_rfl) (by kernel_rfl) (by kernel_rfl) (fun _ _ _ h => h) (Or.inr ⟨by rfl, rfl⟩) hH ?_
        simp only [sq3, sq4]
        refine wpAnyH_take (i := 23) (v := ?_) rfl (by kernel_rfl) (by kernel_rfl) (by kernel_rfl) (fun _ _ _ h => h) (Or.inl ⟨by rfl, ?_⟩) hH ?_
        rotate_left
        · ((intro W hW; clear hW; go_simp) <;> with_reducible rfl)
        simp only [sq3, sq4]
        refine wpAnyH_done (by kernel_rfl) ?_ _
        go_wp2_with fail
        go_roundg (k - (0 + 1))
        case measure => have := HGK_.out; omega
        case rel => exact ⟨0 + 1, rfl, by omega, own, hM, by go_num, htb, en, bel⟩
      obtain ⟨q, hq⟩ : ∃ q, q + 1 = j := ⟨j - 1, by omega⟩
      have hqq : (j : Int) - 1 = (q : Int) := by omega
      obtain ⟨y, hy⟩ : ∃ y, (fl.map slotF)[q]? = some y := ⟨_, List.getElem?_eq_getElem (by have := HLS.out; omega)⟩
      have hlt_ := HSS.out.lt (by omega : q < j) hy hx
      have HNE : Hid (x.ad.eqB y.ad = false) := Lib.hid (Ad4.eqB_no (fun e => by unfold Sd.num at hlt_; rw [e] at hlt_; omega))
      have q0 : (0 : Int) ≤ q := by omega
      have q1 : (q : Int) < k := by omega
      have hwq : IntKind.i64.wrap (q : Int) = (q : Int) := IntWalk.i64_in _ (by omega)
      have HX := Lib.hid hx
      have HY := Lib.hid hy
      have hj0 : (0 : Int) < j := by omega
      have hj0n : 0 < j := hj
      have q71 : ∀ W, (binOp .eql 28 (.agg #[.int .u8 (x.ad.a.toNat : Int), .int .u8 (x.ad.b.toNat : Int), .int .u8 (x.ad.c.toNat : Int), .int .u8 (x.ad.d.toNat : Int)]) (.agg #[.int .u8 (y.ad.a.toNat : Int), .int .u8 (y.ad.b.toNat : Int), .int .u8 (y.ad.c.toNat : Int), .int .u8 (y.ad.d.toNat : Int)])).run Try.prog W = .ok (.bool false) W := fun W => by have h_ := eqa_b x.ad y.ad W; rw [HNE.out] at h_; exact h_
      clear hx hy hlt_ hq hj
      go_wp2_with fail
      replace bel := bel.drew
      replace htb : wr.drew.heap[gt]? = _ := htb
      replace en := en.drew
      replace own := World.ownsRow.drew own
      replace hM := hm_drew hM
      refine wp_region_held_drew (S := fun W => W.heap[gt]? = some (.cells #[.int .i64 now, .map (some mb), .slice (some ⟨gE, 0, none⟩) k ck] 84 (0, 0)) ∧ Sle slE 15 W (some ⟨gE, 0, none⟩) (k) (ck) (fl.map slotF)) (by kernel_rfl) ⟨htb, en⟩ (fun hH => ?_)
      generalize wr.drew = w2 at bel htb en own hM hH ⊢
      refine wpAnyH_take (i := 0) (v := ?_) rfl (by kernel_rfl) (by kernel_rfl) (by kernel_rfl) (fun _ _ _ h => h) (Or.inl ⟨by rfl, ?_⟩) hH ?_
      rotate_left
      · ((intro W hW; clear hW; go_simp) <;> with_reducible rfl)
      simp only [Act.put, List.getElem_toArray, List.getElem_cons_zero, List.setIfInBounds_toArray, List.set_cons_zero, List.set_cons_succ]
      refine wpAnyH_take (i := 1) (v := ?_) rfl (by kernel_rfl) (by kernel_rfl) (by kernel_rfl) (fun _ _ _ h => h) (Or.inl ⟨by rfl, ?_⟩) hH ?_
      rotate_left
      · ((intro W hW; clear hW; go_simp) <;> with_reducible rfl)
      simp only [sq3, sq4]
      refine wpAnyH_take (i := 2) (v := ?_) rfl (by kernel_rfl) (by kernel_rfl) (by kernel_rfl) (fun _ _ _ h => h) (Or.inl ⟨by rfl, ?_⟩) hH ?_
      rotate_left
      · ((intro W hW; clear hW; go_simp) <;> with_reducible rfl)
      simp only [sq3, sq4]
      refine wpAnyH_take (i := 3) (v := ?_) rfl (by kernel_rfl) (by kernel_rfl) (by kernel_rfl) (fun _ _ _ h => h) (Or.inl ⟨by rfl, ?_⟩) hH ?_
      rotate_left
      · ((intro W hW; clear hW; go_simp) <;> with_reducible rfl)
      simp only [sq3, sq4]
      refine wpAnyH_take (i := 4) (v := ?_) rfl (by kernel_rfl) (by kernel_rfl) (by kernel_rfl) (fun _ _ _ h => h) (Or.inl ⟨by rfl, ?_⟩) hH ?_
      rotate_left
      · ((intro W hW; clear hW; go_simp) <;> with_reducible rfl)
      simp only [sq3, sq4]
      refine wpAnyH_take (i := 5) (v := ?_) rfl (by kernel_rfl) (by kernel_rfl) (by kernel_rfl) (fun _ _ _ h => h) (Or.inl ⟨by rfl, ?_⟩) hH ?_
      rotate_left
      · ((intro W hW; clear hW; go_simp) <;> with_reducible rfl)
      simp only [sq3, sq4]
      refine wpAnyH_take (i := 6) (v := ?_) rfl (by kernel_rfl) (by kernel_rfl) (by kernel_rfl) (fun _ _ _ h => h) (Or.inl ⟨by rfl, ?_⟩) hH ?_
      rotate_left
      · ((intro W hW; have hk := cell_lit (hW.1) 2 _ rfl; clear hW; go_simp) <;> with_reducible rfl)
      simp only [sq3, sq4]
      refine wpAnyH_take (i := 7) (v := ?_) rfl (by kernel_rfl) (by kernel_rfl) (by kernel_rfl) (fun _ _ _ h => h) (Or.inl ⟨by rfl, ?_⟩) hH ?_
      rotate_left
      · ((intro W hW; clear hW; go_simp) <;> with_reducible rfl)
      simp only [sq3, sq4]
      refine wpAnyH_take (i := 8) (v := ?_) rfl (by kernel_rfl) (by kernel_rfl) (by kernel_rfl) (fun _ _ _ h => h) (Or.inl ⟨by rfl, ?_⟩) hH ?_
      rotate_left
      · ((intro W hW; clear hW; go_simp) <;> with_reducible rfl)
      simp only [sq3, sq4]
      refine wpAnyH_take (i := 9) (v := ?_) rfl (by kernel_rfl) (by kernel_rfl) (by kernel_rfl) (fun _ _ _ h => h) (Or.inl ⟨by rfl, ?_⟩) hH ?_
      rotate_left
      · ((intro W hW; clear hW; go_simp) <;> with_reducible rfl)
      simp only [sq3, sq4]
      refine wpAnyH_take (i := 10) (v := ?_) rfl (by kernel_rfl) (by kernel_rfl) (by kernel_rfl) (fun _ _ _ h => h) (Or.inl ⟨by rfl, ?_⟩) hH ?_
      rotate_left
      · ((intro W hW; clear hW; go_simp) <;> with_reducible rfl)
      simp only [sq3, sq4]
      refine wpAnyH_take (i := 11) (v := .agg #[.int .u8 (x.ad.a.toNat : Int), .int .u8 (x.ad.b.toNat : Int), .int .u8 (x.ad.c.toNat : Int), .int .u8 (x.ad.d.toNat : Int)]) rfl (by kernel_rfl) (by kernel_rfl) (by kernel_rfl) (fun _ _ _ h => h) (yieldsIf_load_mid (by kernel_rfl) 28 _ rfl gE (j * 15 + 6) rfl [.int .u8 (x.ad.a.toNat : Int), .int .u8 (x.ad.b.toNat : Int), .int .u8 (x.ad.c.toNat : Int), .int .u8 (x.ad.d.toNat : Int)] _ (fun W hW => Sle.zrange (hW.2) HX.out 6 4 [.int .u8 (x.ad.a.toNat : Int), .int .u8 (x.ad.b.toNat : Int), .int .u8 (x.ad.c.toNat : Int), .int .u8 (x.ad.d.toNat : Int)] rfl) Try.underlying28 rfl (by kernel_rfl)) hH ?_
      simp only [sq3, sq4]
      refine wpAnyH_take (i := 12) (v := ?_) rfl (by kernel_rfl) (by kernel_rfl) (by kernel_rfl) (fun _ _ _ h => h) (Or.inl ⟨by rfl, ?_⟩) hH ?_
      rotate_left
      · ((intro W hW; clear hW; go_simp) <;> with_reducible rfl)
      simp only [sq3, sq4]
      refine wpAnyH_take (i := 13) (v := ?_) rfl (by kernel_rfl) (by kernel_rfl) (by kernel_rfl) (fun _ _ _ h => h) (Or.inl ⟨by rfl, ?_⟩) hH ?_
      rotate_left
      · ((intro W hW; clear hW; go_simp) <;> with_reducible rfl)
      simp only [sq3, sq4]
      refine wpAnyH_take (i := 14) (v := ?_) rfl (by kernel_rfl) (by kernel_rfl) (by kernel_rfl) (fun _ _ _ h => h) (Or.inl ⟨by rfl, ?_⟩) hH ?_
      rotate_left
      · ((intro W hW; clear hW; go_simp) <;> with_reducible rfl)
      simp only [sq3, sq4]
      refine wpAnyH_take (i := 15) (v := ?_) rfl (by kernel_rfl) (by kernel_rfl) (by kernel_rfl) (fun _ _ _ h => h) (Or.inl ⟨by rfl, ?_⟩) hH ?_
      rotate_left
      · ((intro W hW; have hk := cell_lit (hW.1) 2 _ rfl; clear hW; go_simp) <;> with_reducible rfl)
      simp only [sq3, sq4]
      refine wpAnyH_take (i := 16) (v := ?_) rfl (by kernel_rfl) (by kernel_rfl) (by kernel_rfl) (fun _ _ _ h => h) (Or.inl ⟨by rfl, ?_⟩) hH ?_
      rotate_left
      · ((intro W hW; clear hW; go_simp) <;> with_reducible rfl)
      simp only [sq3, sq4]
      refine wpAnyH_take (i := 17) (v := ?_) rfl (by kernel_rfl) (by kernel_rfl) (by kernel_rfl) (fun _ _ _ h => h) (Or.inl ⟨by rfl, ?_⟩) hH ?_
      rotate_left
      · ((intro W hW; clear hW; go_simp) <;> with_reducible rfl)
      simp only [sq3, sq4]
      refine wpAnyH_take (i := 18) (v := ?_) rfl (by kernel_rfl) (by kernel_rfl) (by kernel_rfl) (fun _ _ _ h => h) (Or.inl ⟨by rfl, ?_⟩) hH ?_
      rotate_left
      · ((intro W hW; clear hW; go_simp) <;> with_reducible rfl)
      simp only [sq3, sq4]
      refine wpAnyH_take (i := 19) (v := ?_) rfl (by kernel_rfl) (by kernel_rfl) (by kernel_rfl) (fun _ _ _ h => h) (Or.inl ⟨by rfl, ?_⟩) hH ?_
      rotate_left
      · ((intro W hW; clear hW; go_simp) <;> with_reducible rfl)
      simp only [sq3, sq4]
      refine wpAnyH_take (i := 20) (v := ?_) rfl (by kernel_rfl) (by kernel_rfl) (by kernel_rfl) (fun _ _ _ h => h) (Or.inl ⟨by rfl, ?_⟩) hH ?_
      rotate_left
      · ((intro W hW; clear hW; go_simp) <;> with_reducible rfl)
      simp only [sq3, sq4]
      refine wpAnyH_take (i := 21) (v := .agg #[.int .u8 (y.ad.a.toNat : Int), .int .u8 (y.ad.b.toNat : Int), .int .u8 (y.ad.c.toNat : Int), .int .u8 (y.ad.d.toNat : Int)]) rfl (by kernel_rfl) (by kernel_rfl) (by kernel_rfl) (fun _ _ _ h => h) (yieldsIf_load_mid (by kernel_rfl) 28 _ rfl gE (q * 15 + 6) rfl [.int .u8 (y.ad.a.toNat : Int), .int .u8 (y.ad.b.toNat : Int), .int .u8 (y.ad.c.toNat : Int), .int .u8 (y.ad.d.toNat : Int)] _ (fun W hW => Sle.zrange (hW.2) HY.out 6 4 [.int .u8 (y.ad.a.toNat : Int), .int .u8 (y.ad.b.toNat : Int), .int .u8 (y.ad.c.toNat : Int), .int .u8 (y.ad.d.toNat : Int)] rfl) Try.underlying28 rfl (by kernel_rfl)) hH ?_
      simp only [sq3, sq4]
      refine wpAnyH_take (i := 22) (v := ?_) rfl (by kernel_rfl) (by kernel_rfl) (by kernel_rfl) (fun _ _ _ h => h) (Or.inl ⟨by rfl, ?_⟩) hH ?_
      rotate_left
      · ((intro W hW; clear hW; go_simp) <;> with_reducible rfl)
      simp only [sq3, sq4]
      refine wpAnyH_take (i := 23) (v := ?_) rfl (by kernel_rfl) (by kernel_rfl) (by kernel_rfl) (fun _ _ _ h => h) (Or.inl ⟨by rfl, ?_⟩) hH ?_
      rotate_left
      · ((intro W hW; clear hW; go_simp) <;> with_reducible rfl)
      simp only [sq3, sq4]
      refine wpAnyH_done (by kernel_rfl) ?_ _
      go_wp2_with fail
      go_roundg (k - (j + 1))
      case measure => have := HGK_.out; omega
      case rel => exact ⟨j + 1, rfl, by omega, own, hM, by go_num, htb, en, bel⟩
open Go.RowKit

def adOf (n : Nat) : Ad4 := ⟨byteOf ((n : Int) / 16777216), byteOf ((n : Int) / 65536 % 256), byteOf ((n : Int) / 256 % 256), byteOf ((n : Int) % 256)⟩
theorem adOf_num {n : Nat} (h : n < 4294967296) : (adOf n).num = n := by
  have e : ∀ p q r s : UInt8, be [p, q, r, s] = ((p.toNat * 256 + q.toNat) * 256 + r.toNat) * 256 + s.toNat := fun p q r s => by simp [be]
  unfold Ad4.num adOf
  rw [e]
  have h1 := byteOf_val ((n : Int) / 16777216); have h2 := byteOf_val ((n : Int) / 65536 % 256); have h3 := byteOf_val ((n : Int) / 256 % 256); have h4 := byteOf_val ((n : Int) % 256)
  simp only
  omega
theorem aof_ad (n : Nat) (w : World) (hn : n < 4294967296) : Calls Try.prog 39 #[.int .u32 (n : Int)] w fun e w' => e = .returned (.agg #[.int .u8 ((adOf n).a.toNat : Int), .int .u8 ((adOf n).b.toNat : Int), .int .u8 ((adOf n).c.toNat : Int), .int .u8 ((adOf n).d.toNat : Int)]) ∧ Below w.heap.size w w' := by
  refine (aof4_any n w hn).mono ?_
  rintro e w' ⟨rfl, bel⟩
  refine ⟨?_, bel⟩
  have h1 := byteOf_val ((n : Int) / 16777216); have h2 := byteOf_val ((n : Int) / 65536 % 256); have h3 := byteOf_val ((n : Int) / 256 % 256); have h4 := byteOf_val ((n : Int) % 256)
  have e1 : (n : Int) / 16777216 = ((adOf n).a.toNat : Int) := by show _ = ((byteOf _).toNat : Int); rw [h1]; omega
  have e2 : (n : Int) / 65536 % 256 = ((adOf n).b.toNat : Int) := by show _ = ((byteOf _).toNat : Int); rw [h2]; omega
  have e3 : (n : Int) / 256 % 256 = ((adOf n).c.toNat : Int) := by show _ = ((byteOf _).toNat : Int); rw [h3]; omega
  have e4 : (n : Int) % 256 = ((adOf n).d.toNat : Int) := by show _ = ((byteOf _).toNat : Int); rw [h4]; omega
  rw [e1, e2, e3, e4]
theorem num_is {x : Ad4} {n : Nat} (w : World) (h : x.num = n) : Calls Try.prog 36 #[.agg #[.int .u8 (x.a.toNat : Int), .int .u8 (x.b.toNat : Int), .int .u8 (x.c.toNat : Int), .int .u8 (x.d.toNat : Int)]] w fun e w' => e = .returned (.int .u32 (n : Int)) ∧ Below w.heap.size w w' := h ▸ num_any x w
/-- The addresses from low on are added, so many. -/
def newL (l : List Sd) (low : Nat) : Nat → List Sd
  | 0 => l
  | k + 1 => addL (newL l low k) (adOf (low + k))
theorem addL_len (l : List Sd) (a : Ad4) : (addL l a).length ≤ l.length + 1 := by
  unfold addL
  split
  · omega
  · rw [sins_len]; exact Nat.le_refl _
theorem newL_len (l : List Sd) (low k : Nat) : (newL l low k).length ≤ l.length + k := by
  induction k with
  | zero => exact Nat.le_refl _
  | succ k ih => have := addL_len (newL l low k) (adOf (low + k)); show (addL _ _).length ≤ _; omega
theorem makemap_n {o : Oper} {a : Act} {w : World} {K : Act → World → Prop} {Q : Exit → Act → World → Prop} (T : TypeId) (ho : o.op = .makeMap T none)
    (hK : ∀ g w', w.heap.size ≤ g → Hm w.heap.size g w' [] → Below w.heap.size w w' → K (a.put o.dst (.map (some g))) w') : Oper.wp Try.prog o a w K Q := by
  unfold Oper.wp execOp
  simp only [ho, Option.map_none, run_makeMap, Sem.run_bind, Sem.run_pure, Result.andThen_ok]
  exact hK _ _ (Nat.le_refl _) (Hm.made w) ((Below.refl _ _).alloc (Nat.le_refl _) _)
theorem wpList_makemap_n {ops : Array Oper} {rest : List Oper} {o : Oper} {a : Act} {w : World} {Q : Exit → Act → World → Prop} (hgd : o.guard = none) (T : TypeId) (ho : o.op = .makeMap T none)
    (hK : ∀ g w', w.heap.size ≤ g → Hm w.heap.size g w' [] → Below w.heap.size w w' → wpList Try.prog ops Q rest (a.put o.dst (.map (some g))) w') : wpList Try.prog ops Q (o :: rest) a w :=
  wpList_plain hgd fun _ hK' => makemap_n T ho fun g w' h1 h2 h3 => hK' _ _ (hK g w' h1 h2 h3)
theorem slotF_ok {fl : List Le} (h : (fl.map (fun e => e.ad.num)).Pairwise (fun a b => a < b)) (hl : fl.length ≤ 1000) : St.ok ⟨0, fl.map Le.pr, fl.map slotF⟩ := by
  refine ⟨slotF_srt h, Int.le_refl _, by show (0 : Int) ≤ 1099511627776; decide, by show (fl.map slotF).length ≤ 1000; rw [List.length_map]; exact hl, fun p hp => ?_⟩
  obtain ⟨e, he, rfl⟩ := List.mem_map.1 hp
  have hm : slotF e ∈ fl.map slotF := List.mem_map.2 ⟨e, he, rfl⟩
  obtain ⟨j, hj⟩ := List.getElem?_of_mem hm
  exact ((slotF_srt h).found hj rfl).2
set_option linter.unusedVariables false in
set_option linter.unusedSimpArgs false in
set_option maxRecDepth 100000 in
set_option maxHeartbeats 16000000 in
theorem pnew_any {x y : Ad4} {A : Option Addr} {n c : Nat} {fl : List Le} (w : World) (h1 : x.num ≤ y.num) (h2 : y.num - x.num < 64) (fx0 : Sle leE 11 w A n c fl) (hbl : Bl A n w.heap.size) (hn : n ≤ 2) (hsl : (fl.map (fun e => e.ad.num)).Pairwise (fun a b => a < b)) (hnd : (fl.map (·.m)).Nodup) : Calls Try.prog 18 #[.agg #[.int .u8 (x.a.toNat : Int), .int .u8 (x.b.toNat : Int), .int .u8 (x.c.toNat : Int), .int .u8 (x.d.toNat : Int)], .agg #[.int .u8 (y.a.toNat : Int), .int .u8 (y.b.toNat : Int), .int .u8 (y.c.toNat : Int), .int .u8 (y.d.toNat : Int)], .slice A n c] w fun e w' => ∃ gt, e = .returned (.tuple #[.pointer (some ⟨gt, 0, none⟩), .int .i64 0]) ∧ Pl w.heap.size gt w' ⟨0, fl.map Le.pr, newL (fl.map slotF) x.num (y.num - x.num + 1)⟩ ∧ w.heap.size ≤ gt ∧ Below w.heap.size w w' := by
  obtain ⟨xn, hxn⟩ : ∃ n, x.num = n := ⟨_, rfl⟩
  obtain ⟨yn, hyn⟩ : ∃ n, y.num = n := ⟨_, rfl⟩
  have HXN := Lib.hid hxn
  have HYN := Lib.hid hyn
  have HX2 := Lib.hid (x.lt)
  have HY2 := Lib.hid (y.lt)
  rw [HXN.out] at HX2
  rw [HYN.out] at HY2
  have x0 : (0 : Int) ≤ xn := by omega
  have y0 : (0 : Int) ≤ yn := by omega
  rw [hxn, hyn] at h1 h2
  clear hxn hyn
  have HFX := Lib.hid fx0
  have HBL := Lib.hid hbl
  have HN2 := Lib.hid hn
  have HSL := Lib.hid hsl
  have HND := Lib.hid hnd
  have HLF : Hid (fl.length = n) := Lib.hid fx0.1
  obtain ⟨q, hq⟩ : ∃ q, yn = xn + q := ⟨yn - xn, by omega⟩
  have hq64 : q < 64 := by omega
  have hsub : (yn : Int) - (xn : Int) = (q : Int) := by omega
  have hwq : IntKind.u32.wrap (q : Int) = (q : Int) := IntWalk.u32_in _ (by omega)
  have hwq1 : IntKind.u32.wrap ((q : Int) + 1) = (q : Int) + 1 := IntWalk.u32_in _ (by omega)
  have q0 : (0 : Int) ≤ q := by omega
  have q64 : (q : Int) < 64 := by omega
  have h1d : decide (yn < xn) = false := decide_eq_false (by omega)
  have h2d : decide (64 ≤ (q : Int)) = false := decide_eq_false (by omega)
  have h2n : decide (64 ≤ q) = false := decide_eq_false (by omega)
  obtain ⟨cnt, hcnt⟩ : ∃ k, k = q + 1 := ⟨_, rfl⟩
  have hcq : (q : Int) + 1 = (cnt : Int) := by omega
  have HQ := Lib.hid hq
  have HCNT := Lib.hid hcnt
  clear hq hcnt h1 h2 hq64 fx0 hbl hn hsl hnd
  have bel := Below.refl w.heap.size w
  go_enter Try.func18, Try.ntmps18
  go_wp2_with (first | ((with_reducible show wpList _ _ _ (⟨some 3, _, _, _, _, _⟩ :: _) _ _); refine wpList_box_n rfl 28 (.tmp 0) rfl #[.int .u8 (x.a.toNat : Int), .int .u8 (x.b.toNat : Int), .int .u8 (x.c.toNat : Int), .int .u8 (x.d.toNat : Int)] rfl ?_; intro g3 w1 ge lt hh bb; have oxB := Nat.le_trans bel.size ge; replace bel := bel.trans (bb.mono bel.size); have hxB := hh; clear hh lt ge bb) | ((with_reducible show wpList _ _ _ (⟨some 4, _, _, _, _, _⟩ :: _) _ _); refine wpList_box_n rfl 28 (.tmp 1) rfl #[.int .u8 (y.a.toNat : Int), .int .u8 (y.b.toNat : Int), .int .u8 (y.c.toNat : Int), .int .u8 (y.d.toNat : Int)] rfl ?_; intro g4 w2 ge lt hh bb; have d_xB_yB := ne_new (hlt hxB) ge; have oyB := Nat.le_trans bel.size ge; replace hxB := blk_u hxB bb; replace bel := bel.trans (bb.mono bel.size); have hyB := hh; clear hh lt ge bb))
  replace bel := bel.drew
  replace hxB : w2.drew.heap[g3]? = _ := hxB
  replace hyB : w2.drew.heap[g4]? = _ := hyB
  refine wp_region_held_drew (S := fun W => W.heap[g3]? = some (.cells #[.int .u8 (x.a.toNat : Int), .int .u8 (x.b.toNat : Int), .int .u8 (x.c.toNat : Int), .int .u8 (x.d.toNat : Int)] 28 (0, 0)) ∧ W.heap[g4]? = some (.cells #[.int .u8 (y.a.toNat : Int), .int .u8 (y.b.toNat : Int), .int .u8 (y.c.toNat : Int), .int .u8 (y.d.toNat : Int)] 28 (0, 0))) (by kernel_rfl) ⟨hxB, hyB⟩ (fun hH => ?_)
  generalize w2.drew = w3 at bel hxB hyB hH ⊢
  refine wpAnyH_take (i := 0) (v := .agg #[.int .u8 (x.a.toNat : Int), .int .u8 (x.b.toNat : Int), .int .u8 (x.c.toNat : Int), .int .u8 (x.d.toNat : Int)]) rfl (by kernel_rfl) (by kernel_rfl) (by kernel_rfl) (fun _ _ _ h => h) (yieldsIf_load_part (by kernel_rfl) 28 _ rfl g3 0 4 rfl _ 28 (0, 0) (fun W hW => hW.1) _ rfl _ Try.underlying28 rfl (by kernel_rfl)) hH ?_
  simp only [Act.put, List.getElem_toArray, List.getElem_cons_zero, List.setIfInBounds_toArray, List.set_cons_zero, List.set_cons_succ]
  refine wpAnyH_take (i := 2) (v := .agg #[.int .u8 (y.a.toNat : Int), .int .u8 (y.b.toNat : Int), .int .u8 (y.c.toNat : Int), .int .u8 (y.d.toNat : Int)]) rfl (by kernel_rfl) (by kernel_rfl) (by kernel_rfl) (fun _ _ _ h => h) (yieldsIf_load_part (by kernel_rfl) 28 _ rfl g4 0 4 rfl _ 28 (0, 0) (fun W hW => hW.2) _ rfl _ Try.underlying28 rfl (by kernel_rfl)) hH ?_
  simp only [sq3, sq4]
  refine wpAnyH_ready (rs := [1]) (by kernel_rfl) (by simp) ?_
  refine AllReadyH.cons (o := _) rfl (fun K hK => ?_) AllReadyH.nil
  simp only [sq3]
  go_simp
  with_reducible refine (num_is _ HXN.out).mono ?_
  rintro e w4 ⟨rfl, b4⟩
  dsimp only
  replace hxB := blk_u hxB b4
  replace hyB := blk_u hyB b4
  replace bel := bel.trans (b4.mono bel.size)
  clear b4
  refine hK.out _ _ ⟨hxB, hyB⟩ (fun hH5 => ?_)
  clear hK K
  refine wpAnyH_ready (rs := [3]) (by kernel_rfl) (by simp) ?_
  refine AllReadyH.cons (o := _) rfl (fun K hK => ?_) AllReadyH.nil
  simp only [sq3]
  go_simp
  with_reducible refine (num_is _ HYN.out).mono ?_
  rintro e w6 ⟨rfl, b6⟩
  dsimp only
  replace hxB := blk_u hxB b6
  replace hyB := blk_u hyB b6
  replace bel := bel.trans (b6.mono bel.size)
  clear b6
  refine hK.out _ _ ⟨hxB, hyB⟩ (fun hH7 => ?_)
  clear hK K
  refine wpAnyH_take (i := 4) (v := ?_) rfl (by kernel_rfl) (by kernel_rfl) (by kernel_rfl) (fun _ _ _ h => h) (Or.inl ⟨by rfl, ?_⟩) hH7 ?_
  rotate_left
  · ((intro W hW; clear hW; go_simp) <;> with_reducible rfl)
  simp only [sq3, sq4]
  refine wpAnyH_take (i := 5) (v := ?_) rfl (by kernel_rfl) (by kernel_rfl) (by kernel_rfl) (fun _ _ _ h => h) (Or.inl ⟨by rfl, ?_⟩) hH7 ?_
  rotate_left
  · ((intro W hW; clear hW; go_simp) <;> with_reducible rfl)
  simp only [sq3, sq4]
  refine wpAnyH_done (by kernel_rfl) ?_ _
  go_wp2_with (first | ((with_reducible show wpList _ _ _ (⟨some 25, _, _, _, _, _⟩ :: _) _ _); refine wpList_makemap_n rfl 81 rfl ?_; intro g25 w80 ge hM_ bb; have ogm := Nat.le_trans bel.size ge; have hM := hM_.lo_le bel.size; replace bel := bel.trans (bb.mono bel.size); clear hM_; replace hxB := blk_u hxB bb; replace hyB := blk_u hyB bb; clear bb ge) | ((with_reducible show wpList _ _ _ (⟨some 27, _, _, _, _, _⟩ :: _) _ _); refine wpList_box_n rfl 84 (.tmp 26) rfl #[.int .i64 0, .map (some g25), .slice none 0 0] rfl ?_; intro g27 w8 ge lt hh bb; have d_xB_tb := ne_new (hlt hxB) ge; have d_yB_tb := ne_new (hlt hyB) ge; have otb := Nat.le_trans bel.size ge; replace hxB := blk_u hxB bb; replace hyB := blk_u hyB bb; replace hM := hM.below bb; replace bel := bel.trans (bb.mono bel.size); have htb := hh; clear hh lt ge bb))
  have BEL_ : Below w.heap.size w w8 := bel
  have OTB_ := Lib.hid otb
  with_reducible refine (preserve_any _ htb otb bel.size hM (HFX.out.below BEL_) HBL.out HN2.out HSL.out HND.out).mono ?_
  rintro e w9 ⟨rfl, A2, c2, htb_, hM_, own_, b9⟩
  replace bel := bel.trans b9
  clear b9 hxB hyB htb hM
  clear BEL_
  have hT : Pl w.heap.size g27 w9 ⟨0, fl.map Le.pr, newL (fl.map slotF) xn 0⟩ := ⟨A2, _, c2, _, htb_, OTB_.out, hM_, own_, slotF_ok HSL.out (by have := HN2.out; have := HLF.out; omega)⟩
  clear htb_ hM_ own_
  go_wp2_with fail
  go_loopg [36] (cnt) (fun gk s36 wr => ∃ k : Nat, gk = cnt - k ∧ k ≤ cnt ∧ Pl w.heap.size g27 wr ⟨0, fl.map Le.pr, newL (fl.map slotF) xn k⟩ ∧ s36 = .int .u32 (k : Int) ∧ Below w.heap.size w wr)
  case atStart => exact ⟨0, Nat.sub_zero _, Nat.zero_le _, hT, rfl, bel⟩
  case round =>
    clear hT bel
    obtain ⟨k, HGK, hkc, hT, rfl, bel⟩ := hrel
    have HGK_ := Lib.hid HGK
    clear HGK
    by_cases h : k < cnt
    rotate_left
    · obtain rfl : k = cnt := by omega
      replace h : decide (k < k) = false := decide_eq_false (by omega)
      go_wp2_with fail
      exact bodyPost_ret (v := .tuple #[.pointer (some ⟨g27, 0, none⟩), .int .i64 0]) (by simp [results, Try.results18, go_sem]) rfl ⟨g27, rfl, (by have h_ := hT; rw [HCNT.out, show q = y.num - x.num by rw [HXN.out, HYN.out]; have := HQ.out; omega, ← HXN.out] at h_; exact h_), OTB_.out, bel⟩
    have k0 : (0 : Int) ≤ k := by omega
    have k64 : (k : Int) < 64 := by omega
    obtain ⟨p, hp⟩ : ∃ p, p = xn + k := ⟨_, rfl⟩
    have hpk : (xn : Int) + (k : Int) = (p : Int) := by omega
    have hp32 : p < 4294967296 := by have := HY2.out; have := HQ.out; have := HCNT.out; omega
    have HP32 := Lib.hid hp32
    have hwp : IntKind.u32.wrap (p : Int) = (p : Int) := IntWalk.u32_in _ (by omega)
    have hwk : IntKind.u32.wrap ((k : Int) + 1) = (k : Int) + 1 := IntWalk.u32_in _ (by omega)
    have HP := Lib.hid hp
    have HLN : Hid ((newL (fl.map slotF) xn k).length < 1000) := Lib.hid (by have h_ := newL_len (fl.map slotF) xn k; rw [List.length_map, HLF.out] at h_; have := HN2.out; have := HCNT.out; omega)
    clear hp hp32
    go_wp2_with fail
    with_reducible refine (aof_ad p _ HP32.out).mono ?_
    rintro e w10 ⟨rfl, b10⟩
    replace hT := hT.below b10
    replace bel := bel.trans (b10.mono bel.size)
    clear b10
    go_wp2_with fail
    with_reducible refine (padd_any (adOf p) _ hT HLN.out).mono ?_
    rintro e w11 ⟨rfl, hT_, k_, bb⟩
    clear hT
    have hT := hT_
    replace bel := bel.trans bb
    clear bb k_ hT_
    go_wp2_with fail
    go_roundg (cnt - (k + 1))
    case measure => have := HGK_.out; omega
    case rel => exact ⟨k + 1, rfl, by omega, (show Pl w.heap.size g27 _ ⟨0, fl.map Le.pr, addL (newL (fl.map slotF) xn k) (adOf (xn + k))⟩ from HP.out ▸ hT), by go_num, bel⟩
open Go.RowKit

theorem Try.info_opt : (Try.prog.info? 49).map (fun i => (i.zero, i.size, i.bytes)) = some (some (.agg #[.int .i64 0, .slice none 0 0]), 2, 32) := by kernel_rfl
/-- What lies in no block of the pool's. -/
def Nt (w : World) (A : Option Addr) (n : Nat) : Prop := 0 < n → ∀ g o p, A = some ⟨g, o, p⟩ → ∃ (c : Array Value) (T : TypeId) (fz : Nat × Nat), w.heap[g]? = some (.cells c T fz) ∧ T ∉ [84, 101]
section
variable {w w' : World} {A : Option Addr} {n c : Nat}
theorem Nt.below (h : Nt w A n) (b : Below w.heap.size w w') : Nt w' A n := fun hn g o p e => by
  obtain ⟨c, T, fz, h1, h2⟩ := h hn g o p e
  exact ⟨c, T, fz, blk_u h1 b, h2⟩
theorem Nt.drew (h : Nt w A n) : Nt w.drew A n := h
theorem Nt.kt (h : Nt w A n) (k : Kt [84, 101] w w') : Nt w' A n := fun hn g o p e => by
  obtain ⟨c, T, fz, h1, h2⟩ := h hn g o p e
  exact ⟨c, T, fz, k.blk h1 h2, h2⟩
theorem Nt.away {q : Nat} (h : Nt w A n) (v : Av A n q) (g : w.grownBy w' (some q)) : Nt w' A n := fun hn b o p e => by
  obtain ⟨c, T, fz, h1, h2⟩ := h hn b o p e
  exact ⟨c, T, fz, blk_a h1 g (Lib.hid (v hn b o p e)), h2⟩
theorem Nt.av {q : Nat} (h : Nt w A n) (hq : w.heap.size ≤ q) : Av A n q := fun hn b o p e => by
  obtain ⟨c, T, fz, h1, h2⟩ := h hn b o p e
  exact Nat.ne_of_lt (Nat.lt_of_lt_of_le (hlt h1) hq)
theorem Nt.of {g : Nat} {o : Nat} {p : Option Nat} {x : Array Value} {T : TypeId} {fz : Nat × Nat} (h : w.heap[g]? = some (.cells x T fz)) (hT : T ∉ [84, 101]) : Nt w (some ⟨g, o, p⟩) n := fun _ g' o' p' e => by
  injection e with e
  injection e with e1
  subst e1
  exact ⟨x, T, fz, h, hT⟩
theorem Nt.row {lo k : Nat} {T : TypeId} {xs : List Value} (h : w.ownsRow lo T k (.slice A n c) n xs) (hT : T ∉ [84, 101]) : Nt w A n := fun hn g o p e => by
  rcases h.2 with ⟨h1, _⟩ | ⟨g2, cap, cur, e2, hb, hh, h2⟩
  · injection h1 with h1
    rw [h1] at e; cases e
  · injection e2 with e2
    rw [e2] at e
    injection e with e
    injection e with e1
    subst e1
    exact ⟨_, _, _, hh, hT⟩
theorem Sl.kt {l : List UInt8} (h : Sl w A n c l) (t : Nt w A n) (k : Kt [84, 101] w w') : Sl w' A n c l :=
  ⟨h.1, h.2.1, h.2.2.1, fun hn => by
    obtain ⟨g, o, e, hc⟩ := h.2.2.2 hn
    obtain ⟨x, T, fz, h1, h2⟩ := t hn g o none e
    exact ⟨g, o, e, fun j b hj => (World.cell?_of_block (w := w) (a := ⟨g, o + j, none⟩) ((k.blk h1 h2).trans h1.symm)).trans (hc j b hj)⟩⟩
theorem Sle.kt {α : Type} {f : α → List Value} {k : Nat} {l : List α} (h : Sle f k w A n c l) (t : Nt w A n) (q : Kt [84, 101] w w') : Sle f k w' A n c l :=
  ⟨h.1, h.2.1, h.2.2.1, fun hn => by
    obtain ⟨g, o, e, hc⟩ := h.2.2.2.1 hn
    obtain ⟨x, T, fz, h1, h2⟩ := t hn g o none e
    exact ⟨g, o, e, fun j b hj => (World.cell?_of_block (w := w) (a := ⟨g, o + j, none⟩) ((q.blk h1 h2).trans h1.symm)).trans (hc j b hj)⟩, h.2.2.2.2⟩
end
/-- An option reads so, apart from the pool's blocks. -/
def Ob (w : World) (x : Oh) (p : Int × List UInt8) : Prop := x.c = p.1 ∧ Sl w x.A x.n x.cp p.2 ∧ Nt w x.A x.n ∧ x.n ≤ 100000
def Obs (w : World) : List Oh → OptL → Prop
  | [], [] => True
  | x :: hs, p :: L => Ob w x p ∧ Obs w hs L
  | _, _ => False
def Opv (w : World) (A : Option Addr) (n c : Nat) (hs : List Oh) (L : OptL) : Prop := Sle opE 2 w A n c hs ∧ Nt w A n ∧ n ≤ 100000 ∧ Obs w hs L
/-- The options lie apart from block q. -/
def Oa (A : Option Addr) (n : Nat) (hs : List Oh) (q : Nat) : Prop := Av A n q ∧ ∀ x ∈ hs, Av x.A x.n q
theorem obs_all {w w' : World} : ∀ {hs : List Oh} {L : OptL}, Obs w hs L → (∀ x ∈ hs, ∀ p, Ob w x p → Ob w' x p) → Obs w' hs L
  | [], [], _, _ => trivial
  | x :: hs, p :: L, h, f => ⟨f x (by simp) p h.1, obs_all h.2 (fun y hy => f y (List.mem_cons_of_mem _ hy))⟩
  | [], _ :: _, h, _ => h.elim
  | _ :: _, [], h, _ => h.elim
theorem obs_bd {w : World} : ∀ {hs : List Oh} {L : OptL}, Obs w hs L → Bd w hs L ∧ ∀ x ∈ hs, x.n ≤ 100000
  | [], [], _ => ⟨Bd.nil w, fun x hx => by simp at hx⟩
  | x :: hs, p :: L, h => by
    obtain ⟨h1, h2⟩ := obs_bd h.2
    refine ⟨⟨by simp [h1.1], fun i y q hy hq => ?_⟩, fun y hy => ?_⟩
    · cases i with
      | zero =>
        simp only [List.getElem?_cons_zero, Option.some.injEq] at hy hq
        subst hy; subst hq
        exact ⟨h.1.1, h.1.2.1⟩
      | succ i =>
        simp only [List.getElem?_cons_succ] at hy hq
        exact h1.2 i y q hy hq
    · rcases List.mem_cons.1 hy with rfl | hy
      · exact h.1.2.2.2
      · exact h2 y hy
  | [], _ :: _, h => h.elim
  | _ :: _, [], h => h.elim
section
variable {w w' : World} {A : Option Addr} {n c : Nat} {hs : List Oh} {L : OptL}
theorem Ob.below {x : Oh} {p : Int × List UInt8} (h : Ob w x p) (b : Below w.heap.size w w') : Ob w' x p := ⟨h.1, h.2.1.below b, h.2.2.1.below b, h.2.2.2⟩
theorem Opv.below (h : Opv w A n c hs L) (b : Below w.heap.size w w') : Opv w' A n c hs L := ⟨h.1.below b, h.2.1.below b, h.2.2.1, obs_all h.2.2.2 fun _ _ _ o => o.below b⟩
theorem Opv.drew (h : Opv w A n c hs L) : Opv w.drew A n c hs L := ⟨h.1.drew, h.2.1, h.2.2.1, obs_all h.2.2.2 fun _ _ _ o => o⟩
theorem Opv.kt (h : Opv w A n c hs L) (k : Kt [84, 101] w w') : Opv w' A n c hs L := ⟨h.1.kt h.2.1 k, h.2.1.kt k, h.2.2.1, obs_all h.2.2.2 fun _ _ _ o => ⟨o.1, o.2.1.kt o.2.2.1 k, o.2.2.1.kt k, o.2.2.2⟩⟩
theorem Opv.away {q : Nat} (h : Opv w A n c hs L) (v : Oa A n hs q) (g : w.grownBy w' (some q)) : Opv w' A n c hs L := ⟨h.1.away v.1 g, h.2.1.away v.1 g, h.2.2.1, obs_all h.2.2.2 fun x hx _ o => ⟨o.1, o.2.1.away (v.2 x hx) g, o.2.2.1.away (v.2 x hx) g, o.2.2.2⟩⟩
theorem Opv.oa {q : Nat} (h : Opv w A n c hs L) (hq : w.heap.size ≤ q) : Oa A n hs q := ⟨h.2.1.av hq, fun x hx => by
  have hb := obs_bd h.2.2.2
  obtain ⟨i, hi⟩ := List.getElem?_of_mem hx
  obtain ⟨l, _, hl⟩ := hb.1.at hi
  exact hl.av_new hq⟩
end
theorem dtype_o {h : Mh} {A : Option Addr} {n c : Nat} {hs : List Oh} {L : OptL} {k : Int} (w : World) (hO : Opv w A n c hs L) (hk : (typeL L : Int) = k) : Calls Try.prog 15 #[.agg #[.int .i64 h.op, .int .i64 h.hops, .int .u32 h.xid, .int .i64 h.secs, .int .i64 h.flags, .int .u8 (h.c0.toNat : Int), .int .u8 (h.c1.toNat : Int), .int .u8 (h.c2.toNat : Int), .int .u8 (h.c3.toNat : Int), .int .u8 (h.y0.toNat : Int), .int .u8 (h.y1.toNat : Int), .int .u8 (h.y2.toNat : Int), .int .u8 (h.y3.toNat : Int), .int .u8 (h.s0.toNat : Int), .int .u8 (h.s1.toNat : Int), .int .u8 (h.s2.toNat : Int), .int .u8 (h.s3.toNat : Int), .int .u8 (h.r0.toNat : Int), .int .u8 (h.r1.toNat : Int), .int .u8 (h.r2.toNat : Int), .int .u8 (h.r3.toNat : Int), .int .u8 (h.m0.toNat : Int), .int .u8 (h.m1.toNat : Int), .int .u8 (h.m2.toNat : Int), .int .u8 (h.m3.toNat : Int), .int .u8 (h.m4.toNat : Int), .int .u8 (h.m5.toNat : Int), .slice A n c]] w fun e w' => e = .returned (.int .i64 k) ∧ Below w.heap.size w w' := by
  subst hk
  exact dtype_any w hO.1 (obs_bd hO.2.2.2).1 hO.2.2.1 (obs_bd hO.2.2.2).2
theorem oaddr_o {A : Option Addr} {n c : Nat} {hs : List Oh} {L : OptL} {code : Int} {a : Ad4} {b : Bool} (w : World) (hO : Opv w A n c hs L) (hf : fourL (findL L code) = (a.l, b)) : Calls Try.prog 42 #[.slice A n c, .int .i64 code] w fun e w' => e = .returned (.tuple #[.agg #[.int .u8 (a.a.toNat : Int), .int .u8 (a.b.toNat : Int), .int .u8 (a.c.toNat : Int), .int .u8 (a.d.toNat : Int)], .bool b]) ∧ Below w.heap.size w w' := by
  refine (oaddr_any w hO.1 (obs_bd hO.2.2.2).1 hO.2.2.1 (obs_bd hO.2.2.2).2).mono ?_
  rintro e w' ⟨x, y, z, u, h1, rfl, h2⟩
  rw [hf] at h1
  have h3 : [a.a, a.b, a.c, a.d] = [x, y, z, u] := h1
  simp only [List.cons.injEq, and_true] at h3
  obtain ⟨h3, h4, h5, h6⟩ := h3
  subst h3; subst h4; subst h5; subst h6
  exact ⟨by rw [hf], h2⟩
/-- What the server knows beside its pool (no address is fixed). -/
structure Sc where
  own : Ad4
  mask : Int
  secs : Int
/-- The server at block gs, its pool at block gp. -/
def Sv (lo gs gp : Nat) (w : World) (k : Sc) (s : St) : Prop := w.heap[gs]? = some (.cells #[.pointer (some ⟨gp, 0, none⟩), .int .u8 (k.own.a.toNat : Int), .int .u8 (k.own.b.toNat : Int), .int .u8 (k.own.c.toNat : Int), .int .u8 (k.own.d.toNat : Int), .int .u32 k.mask, .int .i64 k.secs, .slice none 0 0] 64 (0, 0)) ∧ lo ≤ gs ∧ Pl lo gp w s
section
variable {lo gs gp : Nat} {w w' : World} {k : Sc} {s : St}
theorem Sv.below (h : Sv lo gs gp w k s) (b : Below w.heap.size w w') : Sv lo gs gp w' k s := ⟨blk_u h.1 b, h.2.1, h.2.2.below b⟩
theorem Sv.grown {q : Nat} {c : Array Value} {T : TypeId} {fz : Nat × Nat} (h : Sv lo gs gp w k s) (g : w.grownBy w' (some q)) (hq : w.heap[q]? = some (.cells c T fz)) (h1 : T ∉ [84, 101, 64]) : Sv lo gs gp w' k s := by
  simp only [List.mem_cons, List.not_mem_nil, or_false, not_or] at h1
  have kk : Kt [T] w w' := kt_grown g hq (by simp)
  exact ⟨kk.blk h.1 (by simpa using fun e => h1.2.2 e.symm), h.2.1, h.2.2.grown g hq h1.1 h1.2.1⟩
theorem Sv.lo_mono {lo' : Nat} (h : Sv lo gs gp w k s) (hl : lo' ≤ lo) : Sv lo' gs gp w k s := ⟨h.1, Nat.le_trans hl h.2.1, h.2.2.lo_mono hl⟩
theorem Sv.lo_le (h : Sv lo gs gp w k s) : lo ≤ w.heap.size := Nat.le_trans h.2.1 (Nat.le_of_lt (hlt h.1))
end
end Go.Proofs.Ytapdmlfjohiekaa
