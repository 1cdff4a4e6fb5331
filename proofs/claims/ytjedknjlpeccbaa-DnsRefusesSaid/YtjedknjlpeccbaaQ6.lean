/- Texts put together: Ds2. -/
import Derived.Test.YtjedknjlpeccbaaQ1
import Derived.Test.YtjedknjlpeccbaaQ2
import Derived.Test.YtjedknjlpeccbaaQ3
import Derived.Test.YtjedknjlpeccbaaQ5
namespace Go.Proofs.Ytjedknjlpeccbaa
open Go.RowKit

theorem dn_u16 {g : Nat} {A : Option Addr} {n c : Nat} {l : List UInt8} {s : Bool} {w : World} {y : Int} (hl : 2 ≤ l.length) (hy : Hid (((be (l.take 2) : Nat) : Int) = y)) (h : w.heap[g]? = some (.cells #[.slice A n c, .bool s] 106 (0, 0))) (hs : Sl w A n c l) :
  Calls Try.prog 45 #[.pointer (some ⟨g, 0, none⟩)] w fun e w' => ∃ A' n' c', e = .returned (.int .i64 y) ∧ w'.heap[g]? = some (.cells #[.slice A' n' c', .bool s] 106 (0, 0)) ∧ Sl w' A' n' c' (l.drop 2) ∧ Sub A' n' A n ∧ w.grownBy w' (some g) := by
 have h1 := rd_u16 g A n c l s w h hs
 rw [if_neg (by omega), decide_eq_false (by omega), Bool.or_false, hy.out] at h1
 exact h1
theorem dn_u32 {g : Nat} {A : Option Addr} {n c : Nat} {l : List UInt8} {s : Bool} {w : World} {y : Int} (hl : 4 ≤ l.length) (hy : Hid (((be (l.take 4) : Nat) : Int) = y)) (h : w.heap[g]? = some (.cells #[.slice A n c, .bool s] 106 (0, 0))) (hs : Sl w A n c l) :
  Calls Try.prog 63 #[.pointer (some ⟨g, 0, none⟩)] w fun e w' => ∃ A' n' c', e = .returned (.int .u32 y) ∧ w'.heap[g]? = some (.cells #[.slice A' n' c', .bool s] 106 (0, 0)) ∧ Sl w' A' n' c' (l.drop 4) ∧ Sub A' n' A n ∧ w.grownBy w' (some g) := by
 match l, hl with
 | x :: y1 :: z :: u :: r, _ =>
  have h1 := rd_u32c x y1 z u r g A n c s w h hs
  have e : ((be [x, y1, z, u] : Nat) : Int) = y := by simpa using hy.out
  rw [e] at h1
  simpa using h1
theorem nAt_sub {b : List UInt8} {a k i j : Nat} {t : List UInt8} (h : (b.drop a).take k = t) (hij : i + j ≤ k) : be ((t.drop i).take j) = nAt b (a + i) j := by
 subst h
 unfold nAt
 rw [List.drop_take, List.drop_drop, List.take_take, Nat.min_eq_left (by omega)]
theorem qAt_inv {b : List UInt8} {a a2 : Nat} {q : Qn} (h : qAt b a = .ok (q, a2)) : ∃ nx, getN b (a : Int) = (q.name, nx, 0) ∧ nx + 4 = a2 ∧ a2 ≤ b.length ∧ ((nAt b nx 2 : Nat) : Int) = q.t ∧ ((nAt b (nx + 2) 2 : Nat) : Int) = q.k := by
 by_cases h1 : (getN b a).2.2 = 0
 ·by_cases h2 : b.length < (getN b a).2.1 + 4
  ·rw [qAt_short h1 h2] at h; cases h
  ·rw [qAt_yes h1 h2] at h
   injection h with h
   injection h with h3 h4
   subst h3
   refine ⟨(getN b a).2.1, ?_, h4, by omega, rfl, rfl⟩
   rw [← h1]
 ·rw [qAt_no h1] at h; cases h
theorem qAt_inv_no {b : List UInt8} {a e : Nat} (h : qAt b a = .error e) : (∃ l nx, getN b (a : Int) = (l, nx, e) ∧ e ≠ 0) ∨ (∃ l nx, getN b (a : Int) = (l, nx, 0) ∧ b.length < nx + 4 ∧ e = 3) := by
 by_cases h1 : (getN b a).2.2 = 0
 ·by_cases h2 : b.length < (getN b a).2.1 + 4
  ·rw [qAt_short h1 h2] at h
   injection h with h
   exact .inr ⟨_, _, by rw [← h1], h2, h.symm⟩
  ·rw [qAt_yes h1 h2] at h; cases h
 ·rw [qAt_no h1] at h
  injection h with h
  exact .inl ⟨_, _, by rw [← h], by rw [← h]; exact h1⟩
theorem getF_le : ∀ (k : Nat) (b : List UInt8) (a nx p : Nat) (ls : List (List UInt8)) (sz : Nat), nx ≤ b.length → (getF k b a nx p ls sz).2.1 ≤ b.length
 | 0, _, _, _, _, _, _, _ => Nat.zero_le _
 | k + 1, b, a, nx, p, ls, sz, h => by
  rw [getF]
  split
  ·exact Nat.zero_le _
  ·rename_i c hc
   have ha := (List.getElem?_eq_some_iff.1 hc).1
   split
   ·show (if p = 0 then a + 1 else nx) ≤ b.length
    split <;> omega
   ·split
    ·split
     ·exact Nat.zero_le _
     ·split
      ·exact Nat.zero_le _
      ·exact getF_le k _ _ _ _ _ _ h
    ·split
     ·exact Nat.zero_le _
     ·split
      ·exact Nat.zero_le _
      ·rename_i d hd
       have hb := (List.getElem?_eq_some_iff.1 hd).1
       split
       ·exact Nat.zero_le _
       ·exact getF_le k _ _ _ _ _ _ (by split <;> omega)
theorem getN_le (b : List UInt8) (a : Int) : (getN b a).2.1 ≤ b.length := by
 unfold getN
 split
 ·exact Nat.zero_le _
 ·exact getF_le _ _ _ _ _ _ _ (Nat.zero_le _)
theorem nx_le {b : List UInt8} {a : Int} {l : List (List UInt8)} {nx e : Nat} (h : getN b a = (l, nx, e)) : nx ≤ b.length := by
 have := getN_le b a
 rw [h] at this
 exact this
set_option linter.unusedVariables false in
set_option linter.unusedSimpArgs false in
set_option maxRecDepth 100000 in
set_option maxHeartbeats 16000000 in
theorem dupto_any (m x : Int) (w : World) : Calls Try.prog 21 #[.int .i64 m, .int .i64 x] w fun e w' => e = .returned (.bool (decide (0 ≤ x) && decide (x ≤ m))) ∧ w = w' := by
 have bel := Below.refl w.heap.size w
 go_enter Try.func21, Try.ntmps21
 by_cases h0 : 0 ≤ x
 rotate_left
 ·have HH0 := Lib.hid h0
  replace h0 : decide (0 ≤ x) = false := decide_eq_false h0
  go_wp2_with fail
  go_ret
  exact ⟨rfl, rfl⟩
 by_cases h1 : x ≤ m
 rotate_left
 ·have HH1 := Lib.hid h1
  replace h1 : decide (x ≤ m) = false := decide_eq_false h1
  go_wp2_with fail
  go_ret
  exact ⟨rfl, rfl⟩
 have HH0 := Lib.hid h0
 have HH1 := Lib.hid h1
 go_wp2_with fail
 go_ret
 exact ⟨by rw [decide_eq_true HH0.out, decide_eq_true HH1.out]; rfl, rfl⟩
theorem dupto_16 (x : Int) (w : World) : Calls Try.prog 21 #[.int .i64 65535, .int .i64 x] w fun e w' => e = .returned (.bool (h16 x)) ∧ w = w' := dupto_any 65535 x w
set_option linter.unusedVariables false in
set_option linter.unusedSimpArgs false in
set_option maxRecDepth 100000 in
set_option maxHeartbeats 16000000 in
theorem dleft_any {gx n c : Nat} {A : Option Addr} {b : List UInt8} {a : Nat} (w : World) (hwk : w.heap[gx]? = some (.cells #[.slice A n c, .int .i64 (a : Int)] 53 (0, 0))) (sb : Sl w A n c b) (av_sb_wk : Av A n gx) (hn : n ≤ 100000) (ha : a ≤ 100000) : Calls Try.prog 20 #[.pointer (some ⟨gx, 0, none⟩)] w fun e w' => e = .returned (.int .i64 ((n : Int) - (a : Int))) ∧ Below w.heap.size w w' := by
 have a0 : (0 : Int) ≤ a := by omega
 have a1 : (a : Int) ≤ 100000 := by omega
 have n0 : (0 : Int) ≤ n := by omega
 have n1 : (n : Int) ≤ 100000 := by omega
 have e_na : IntKind.i64.wrap ((n : Int) - (a : Int)) = (n : Int) - (a : Int) := IntWalk.i64_in _ (by omega)
 have bel := Below.refl w.heap.size w
 go_enter Try.func20, Try.ntmps20
 go_wp2_with fail
 replace bel := bel.drew
 replace hwk : w.drew.heap[gx]? = _ := hwk
 replace sb := sb.drew
 refine wp_region_held_drew (S := fun W => W.heap[gx]? = some (.cells #[.slice A n c, .int .i64 (a : Int)] 53 (0, 0))) (by kernel_rfl) hwk (fun hH => ?_)
 generalize w.drew = w1 at bel hwk sb hH ⊢
 refine wpAnyH_take (i := 0) (v := ?_) rfl (by kernel_rfl) (by kernel_rfl) (by kernel_rfl) (fun _ _ _ h => h) (Or.inl ⟨by rfl, ?_⟩) hH ?_
 rotate_left
 ·((intro W hW; clear hW; go_simp) <;> with_reducible rfl)
 simp only [Act.put, List.getElem_toArray, List.getElem_cons_zero, List.setIfInBounds_toArray, List.set_cons_zero, List.set_cons_succ]
 refine wpAnyH_take (i := 1) (v := ?_) rfl (by kernel_rfl) (by kernel_rfl) (by kernel_rfl) (fun _ _ _ h => h) (Or.inl ⟨by rfl, ?_⟩) hH ?_
 rotate_left
 ·((intro W hW; clear hW; go_simp) <;> with_reducible rfl)
 simp only [sq3, sq4]
 refine wpAnyH_take (i := 2) (v := ?_) rfl (by kernel_rfl) (by kernel_rfl) (by kernel_rfl) (fun _ _ _ h => h) (Or.inl ⟨by rfl, ?_⟩) hH ?_
 rotate_left
 ·((intro W hW; clear hW; go_simp) <;> with_reducible rfl)
 simp only [sq3, sq4]
 refine wpAnyH_take (i := 3) (v := ?_) rfl (by kernel_rfl) (by kernel_rfl) (by kernel_rfl) (fun _ _ _ h => h) (Or.inl ⟨by rfl, ?_⟩) hH ?_
 rotate_left
 ·((intro W hW; have hk := cell_lit (hW) 0 _ rfl; clear hW; go_simp) <;> with_reducible rfl)
 simp only [sq3, sq4]
 refine wpAnyH_take (i := 4) (v := ?_) rfl (by kernel_rfl) (by kernel_rfl) (by kernel_rfl) (fun _ _ _ h => h) (Or.inl ⟨by rfl, ?_⟩) hH ?_
 rotate_left
 ·((intro W hW; clear hW; go_simp) <;> with_reducible rfl)
 simp only [sq3, sq4]
 refine wpAnyH_take (i := 5) (v := ?_) rfl (by kernel_rfl) (by kernel_rfl) (by kernel_rfl) (fun _ _ _ h => h) (Or.inl ⟨by rfl, ?_⟩) hH ?_
 rotate_left
 ·((intro W hW; clear hW; go_simp) <;> with_reducible rfl)
 simp only [sq3, sq4]
 refine wpAnyH_take (i := 6) (v := ?_) rfl (by kernel_rfl) (by kernel_rfl) (by kernel_rfl) (fun _ _ _ h => h) (Or.inl ⟨by rfl, ?_⟩) hH ?_
 rotate_left
 ·((intro W hW; clear hW; go_simp) <;> with_reducible rfl)
 simp only [sq3, sq4]
 refine wpAnyH_take (i := 7) (v := ?_) rfl (by kernel_rfl) (by kernel_rfl) (by kernel_rfl) (fun _ _ _ h => h) (Or.inl ⟨by rfl, ?_⟩) hH ?_
 rotate_left
 ·((intro W hW; clear hW; go_simp) <;> with_reducible rfl)
 simp only [sq3, sq4]
 refine wpAnyH_take (i := 8) (v := ?_) rfl (by kernel_rfl) (by kernel_rfl) (by kernel_rfl) (fun _ _ _ h => h) (Or.inl ⟨by rfl, ?_⟩) hH ?_
 rotate_left
 ·((intro W hW; have hk := cell_lit (hW) 1 _ rfl; clear hW; go_simp) <;> with_reducible rfl)
 simp only [sq3, sq4]
 refine wpAnyH_take (i := 9) (v := ?_) rfl (by kernel_rfl) (by kernel_rfl) (by kernel_rfl) (fun _ _ _ h => h) (Or.inl ⟨by rfl, ?_⟩) hH ?_
 rotate_left
 ·((intro W hW; clear hW; go_simp) <;> with_reducible rfl)
 simp only [sq3, sq4]
 refine wpAnyH_take (i := 10) (v := ?_) rfl (by kernel_rfl) (by kernel_rfl) (by kernel_rfl) (fun _ _ _ h => h) (Or.inl ⟨by rfl, ?_⟩) hH ?_
 rotate_left
 ·((intro W hW; clear hW; go_simp) <;> with_reducible rfl)
 simp only [sq3, sq4]
 refine wpAnyH_done (by kernel_rfl) ?_ _
 go_wp2_with fail
 go_ret
 exact ⟨rfl, bel⟩
set_option linter.unusedVariables false in
set_option linter.unusedSimpArgs false in
set_option maxRecDepth 100000 in
set_option maxHeartbeats 16000000 in
theorem dtake_ok {gx n c : Nat} {A : Option Addr} {b : List UInt8} {a : Nat} (w : World) (hwk : w.heap[gx]? = some (.cells #[.slice A n c, .int .i64 (a : Int)] 53 (0, 0))) (sb : Sl w A n c b) (av_sb_wk : Av A n gx) (hn : n ≤ 100000) (ha : a ≤ 100000) (kk : Int) (k a2 : Nat) (hk : (k : Int) = kk) (hk0 : k ≤ 100000) (ha2 : a + k = a2) (hle : a2 ≤ n) : Calls Try.prog 43 #[.pointer (some ⟨gx, 0, none⟩), .int .i64 kk] w fun e w' => ∃ A' c', e = .returned (.tuple #[.slice A' k c', .int .i64 0]) ∧ w'.heap[gx]? = some (.cells #[.slice A n c, .int .i64 (a2 : Int)] 53 (0, 0)) ∧ Sl w' A' k c' ((b.drop a).take k) ∧ Sub A' k A n ∧ w.grownBy w' (some gx) := by
 have hlo := Nat.zero_le w.heap.size
 have owk := Nat.zero_le gx
 have HBL := Lib.hid sb.1
 have a0 : (0 : Int) ≤ a := by omega
 have a1 : (a : Int) ≤ 100000 := by omega
 have n0 : (0 : Int) ≤ n := by omega
 have n1 : (n : Int) ≤ 100000 := by omega
 have hsz := Nat.le_refl w.heap.size
 have fz := fz_refl w (some gx)
 have k0 : (0 : Int) ≤ kk := by omega
 have k1 : (kk : Int) ≤ 100000 := by omega
 have HK := Lib.hid hk
 obtain ⟨A25, c25, r25_, f25, u25⟩ := piece_mid sb (p := a) (k := k) (by omega)
 have r25 : ∀ W, (Instr.slice 30 (.slice A n c) (some (.int .i64 (a : Int))) (some (.int .i64 ((a : Int) + kk))) none).run Try.prog W = .ok (.slice A25 k c25) W := by rw [← hk]; exact r25_
 clear r25_
 have e_ak : IntKind.i64.wrap ((a : Int) + kk) = (a : Int) + kk := IntWalk.i64_in _ (by omega)
 have t1 : decide ((n : Int) - (a : Int) < kk) = false := decide_eq_false (by omega)
 have HA2 : Hid ((a : Int) + kk = (a2 : Int)) := Lib.hid (by omega)
 clear hk ha2
 have bel := Below.refl 0 w
 go_enter Try.func43, Try.ntmps43
 go_wp2_with fail
 with_reducible refine (dleft_any _ hwk sb av_sb_wk hn ha).mono ?_
 rintro e w1 ⟨rfl, b1⟩
 replace hwk := blk_u hwk b1
 replace sb := sb.below b1
 replace fz := gk_under fz b1 hsz
 replace hsz := Nat.le_trans hsz b1.size
 replace bel := bel.trans (b1.mono (Nat.le_trans hlo bel.size))
 clear b1
 go_wp2_with fail
 replace bel := bel.drew
 replace hwk : w1.drew.heap[gx]? = _ := hwk
 replace sb := sb.drew
 replace fz := gk_drew fz
 replace hsz := sz_drew' hsz
 refine wp_region_held_drew (S := fun W => W.heap[gx]? = some (.cells #[.slice A n c, .int .i64 (a : Int)] 53 (0, 0))) (by kernel_rfl) hwk (fun hH => ?_)
 generalize w1.drew = w2 at bel hwk sb fz hsz hH ⊢
 refine wpAnyH_take (i := 0) (v := ?_) rfl (by kernel_rfl) (by kernel_rfl) (by kernel_rfl) (fun _ _ _ h => h) (Or.inl ⟨by rfl, ?_⟩) hH ?_
 rotate_left
 ·((intro W hW; clear hW; go_simp) <;> with_reducible rfl)
 simp only [Act.put, List.getElem_toArray, List.getElem_cons_zero, List.setIfInBounds_toArray, List.set_cons_zero, List.set_cons_succ]
 refine wpAnyH_take (i := 1) (v := ?_) rfl (by kernel_rfl) (by kernel_rfl) (by kernel_rfl) (fun _ _ _ h => h) (Or.inl ⟨by rfl, ?_⟩) hH ?_
 rotate_left
 ·((intro W hW; clear hW; go_simp) <;> with_reducible rfl)
 simp only [sq3, sq4]
 refine wpAnyH_take (i := 2) (v := ?_) rfl (by kernel_rfl) (by kernel_rfl) (by kernel_rfl) (fun _ _ _ h => h) (Or.inl ⟨by rfl, ?_⟩) hH ?_
 rotate_left
 ·((intro W hW; clear hW; go_simp) <;> with_reducible rfl)
 simp only [sq3, sq4]
 refine wpAnyH_take (i := 3) (v := ?_) rfl (by kernel_rfl) (by kernel_rfl) (by kernel_rfl) (fun _ _ _ h => h) (Or.inl ⟨by rfl, ?_⟩) hH ?_
 rotate_left
 ·((intro W hW; have hk := cell_lit (hW) 0 _ rfl; clear hW; go_simp) <;> with_reducible rfl)
 simp only [sq3, sq4]
 refine wpAnyH_take (i := 4) (v := ?_) rfl (by kernel_rfl) (by kernel_rfl) (by kernel_rfl) (fun _ _ _ h => h) (Or.inl ⟨by rfl, ?_⟩) hH ?_
 rotate_left
 ·((intro W hW; clear hW; go_simp) <;> with_reducible rfl)
 simp only [sq3, sq4]
 refine wpAnyH_take (i := 5) (v := ?_) rfl (by kernel_rfl) (by kernel_rfl) (by kernel_rfl) (fun _ _ _ h => h) (Or.inl ⟨by rfl, ?_⟩) hH ?_
 rotate_left
 ·((intro W hW; clear hW; go_simp) <;> with_reducible rfl)
 simp only [sq3, sq4]
 refine wpAnyH_take (i := 6) (v := ?_) rfl (by kernel_rfl) (by kernel_rfl) (by kernel_rfl) (fun _ _ _ h => h) (Or.inl ⟨by rfl, ?_⟩) hH ?_
 rotate_left
 ·((intro W hW; clear hW; go_simp) <;> with_reducible rfl)
 simp only [sq3, sq4]
 refine wpAnyH_take (i := 7) (v := ?_) rfl (by kernel_rfl) (by kernel_rfl) (by kernel_rfl) (fun _ _ _ h => h) (Or.inl ⟨by rfl, ?_⟩) hH ?_
 rotate_left
 ·((intro W hW; have hk := cell_lit (hW) 1 _ rfl; clear hW; go_simp) <;> with_reducible rfl)
 simp only [sq3, sq4]
 refine wpAnyH_take (i := 8) (v := ?_) rfl (by kernel_rfl) (by kernel_rfl) (by kernel_rfl) (fun _ _ _ h => h) (Or.inl ⟨by rfl, ?_⟩) hH ?_
 rotate_left
 ·((intro W hW; clear hW; go_simp) <;> with_reducible rfl)
 simp only [sq3, sq4]
 refine wpAnyH_take (i := 9) (v := ?_) rfl (by kernel_rfl) (by kernel_rfl) (by kernel_rfl) (fun _ _ _ h => h) (Or.inl ⟨by rfl, ?_⟩) hH ?_
 rotate_left
 ·((intro W hW; clear hW; go_simp) <;> with_reducible rfl)
 simp only [sq3, sq4]
 refine wpAnyH_take (i := 10) (v := ?_) rfl (by kernel_rfl) (by kernel_rfl) (by kernel_rfl) (fun _ _ _ h => h) (Or.inl ⟨by rfl, ?_⟩) hH ?_
 rotate_left
 ·((intro W hW; clear hW; go_simp) <;> with_reducible rfl)
 simp only [sq3, sq4]
 refine wpAnyH_take (i := 11) (v := ?_) rfl (by kernel_rfl) (by kernel_rfl) (by kernel_rfl) (fun _ _ _ h => h) (Or.inl ⟨by rfl, ?_⟩) hH ?_
 rotate_left
 ·((intro W hW; have hk := cell_lit (hW) 1 _ rfl; clear hW; go_simp) <;> with_reducible rfl)
 simp only [sq3, sq4]
 refine wpAnyH_take (i := 12) (v := ?_) rfl (by kernel_rfl) (by kernel_rfl) (by kernel_rfl) (fun _ _ _ h => h) (Or.inl ⟨by rfl, ?_⟩) hH ?_
 rotate_left
 ·((intro W hW; clear hW; go_simp) <;> with_reducible rfl)
 simp only [sq3, sq4]
 refine wpAnyH_take (i := 13) (v := ?_) rfl (by kernel_rfl) (by kernel_rfl) (by kernel_rfl) (fun _ _ _ h => h) (Or.inl ⟨by rfl, ?_⟩) hH ?_
 rotate_left
 ·((intro W hW; clear hW; go_simp) <;> with_reducible rfl)
 simp only [sq3, sq4]
 refine wpAnyH_take (i := 14) (v := ?_) rfl (by kernel_rfl) (by kernel_rfl) (by kernel_rfl) (fun _ _ _ h => h) (Or.inl ⟨by rfl, ?_⟩) hH ?_
 rotate_left
 ·((intro W hW; clear hW; go_simp) <;> with_reducible rfl)
 simp only [sq3, sq4]
 refine wpAnyH_take (i := 15) (v := ?_) rfl (by kernel_rfl) (by kernel_rfl) (by kernel_rfl) (fun _ _ _ h => h) (Or.inl ⟨by rfl, ?_⟩) hH ?_
 rotate_left
 ·((intro W hW; clear hW; go_simp) <;> with_reducible rfl)
 simp only [sq3, sq4]
 refine wpAnyH_done (by kernel_rfl) ?_ _
 have sm := f25 _ sb
 have usm := u25
 have av_sm_wk := av_sb_wk.sub u25
 have R29 := cell_lit hwk 1 _ rfl
 go_wp2_with (first | ((with_reducible show wpList _ _ _ (⟨none, Op.store _ (.tmp 33) _, _, _, _, _⟩ :: _) _ _); refine wpList_store_part rfl 3 (.tmp 33) (.tmp 31) rfl gx 1 rfl [.int .i64 ((a : Int) + kk)] rfl [.slice A n c, .int .i64 (a : Int)] 53 hwk (by simp) [.slice A n c, .int .i64 ((a : Int) + kk)] rfl (by kernel_rfl) (by rfl) ?_; intro w3 hq gr; replace sb := sb.away av_sb_wk gr; replace sm := sm.away av_sm_wk gr; replace fz := fz_self fz gr; replace hsz := Nat.le_trans hsz gr.size; replace bel := below_grown bel gr owk (Nat.le_trans hlo bel.size); clear hwk; have hwk := hq; clear hq gr))
 try clear R29
 exact bodyPost_ret (v := .tuple #[.slice A25 k c25, .int .i64 0]) (by simp [results, Try.results43, go_sem]) rfl ⟨_, _, rfl, by rw [← HA2.out]; exact hwk, sm, usm, fz⟩
set_option linter.unusedVariables false in
set_option linter.unusedSimpArgs false in
set_option maxRecDepth 100000 in
set_option maxHeartbeats 16000000 in
theorem dtake_no {gx n c : Nat} {A : Option Addr} {b : List UInt8} {a : Nat} (w : World) (hwk : w.heap[gx]? = some (.cells #[.slice A n c, .int .i64 (a : Int)] 53 (0, 0))) (sb : Sl w A n c b) (av_sb_wk : Av A n gx) (hn : n ≤ 100000) (ha : a ≤ 100000) (kk : Int) (k : Nat) (hk : (k : Int) = kk) (hk0 : k ≤ 100000) (hle : n < a + k) : Calls Try.prog 43 #[.pointer (some ⟨gx, 0, none⟩), .int .i64 kk] w fun e w' => e = .returned (.tuple #[.slice none 0 0, .int .i64 3]) ∧ w'.heap[gx]? = some (.cells #[.slice A n c, .int .i64 (a : Int)] 53 (0, 0)) ∧ w.grownBy w' (some gx) := by
 have hlo := Nat.zero_le w.heap.size
 have owk := Nat.zero_le gx
 have HBL := Lib.hid sb.1
 have a0 : (0 : Int) ≤ a := by omega
 have a1 : (a : Int) ≤ 100000 := by omega
 have n0 : (0 : Int) ≤ n := by omega
 have n1 : (n : Int) ≤ 100000 := by omega
 have hsz := Nat.le_refl w.heap.size
 have fz := fz_refl w (some gx)
 have k0 : (0 : Int) ≤ kk := by omega
 have k1 : (kk : Int) ≤ 100000 := by omega
 have HK := Lib.hid hk
 have t1 : (n : Int) - (a : Int) < kk := by omega
 clear hk
 have bel := Below.refl 0 w
 go_enter Try.func43, Try.ntmps43
 go_wp2_with fail
 with_reducible refine (dleft_any _ hwk sb av_sb_wk hn ha).mono ?_
 rintro e w1 ⟨rfl, b1⟩
 replace hwk := blk_u hwk b1
 replace sb := sb.below b1
 replace fz := gk_under fz b1 hsz
 replace hsz := Nat.le_trans hsz b1.size
 replace bel := bel.trans (b1.mono (Nat.le_trans hlo bel.size))
 clear b1
 go_wp2_with fail
 exact bodyPost_ret (v := .tuple #[.slice none 0 0, .int .i64 3]) (by simp [results, Try.results43, go_sem]) rfl ⟨rfl, hwk, fz⟩
set_option linter.unusedVariables false in
set_option linter.unusedSimpArgs false in
set_option maxRecDepth 100000 in
set_option maxHeartbeats 16000000 in
theorem dlabels_ok {gx n c : Nat} {A : Option Addr} {b : List UInt8} {a : Nat} (w : World) (hwk : w.heap[gx]? = some (.cells #[.slice A n c, .int .i64 (a : Int)] 53 (0, 0))) (sb : Sl w A n c b) (av_sb_wk : Av A n gx) (hn : n ≤ 100000) (ha : a ≤ 100000) {l : List (List UInt8)} {nx : Nat} (hg : getN b (a : Int) = (l, nx, 0)) : Calls Try.prog 62 #[.pointer (some ⟨gx, 0, none⟩)] w fun e w' => ∃ L m cl, e = .returned (.tuple #[.slice L m cl, .int .i64 0]) ∧ w'.ownsRow w.heap.size 9 1 (.slice L m cl) m (l.flatMap stf) ∧ w'.heap[gx]? = some (.cells #[.slice A n c, .int .i64 (nx : Int)] 53 (0, 0)) ∧ w.grownBy w' (some gx) := by
 have hlo := Nat.zero_le w.heap.size
 have owk := Nat.zero_le gx
 have HBL := Lib.hid sb.1
 have a0 : (0 : Int) ≤ a := by omega
 have a1 : (a : Int) ≤ 100000 := by omega
 have n0 : (0 : Int) ≤ n := by omega
 have n1 : (n : Int) ≤ 100000 := by omega
 have hsz := Nat.le_refl w.heap.size
 have fz := fz_refl w (some gx)
 have HG := Lib.hid hg
 clear hg
 obtain ⟨m, HM_⟩ : ∃ u_, l.length = u_ := ⟨_, rfl⟩
 have HM := Lib.hid HM_
 clear HM_
 have bel := Below.refl 0 w
 go_enter Try.func62, Try.ntmps62
 go_wp2_with fail
 replace bel := bel.drew
 replace hwk : w.drew.heap[gx]? = _ := hwk
 replace sb := sb.drew
 replace fz := gk_drew fz
 replace hsz := sz_drew' hsz
 refine wp_region_held_drew (S := fun W => W.heap[gx]? = some (.cells #[.slice A n c, .int .i64 (a : Int)] 53 (0, 0))) (by kernel_rfl) hwk (fun hH => ?_)
 generalize w.drew = w1 at bel hwk sb fz hsz hH ⊢
 refine wpAnyH_take (i := 0) (v := ?_) rfl (by kernel_rfl) (by kernel_rfl) (by kernel_rfl) (fun _ _ _ h => h) (Or.inl ⟨by rfl, ?_⟩) hH ?_
 rotate_left
 ·((intro W hW; clear hW; go_simp) <;> with_reducible rfl)
 simp only [Act.put, List.getElem_toArray, List.getElem_cons_zero, List.setIfInBounds_toArray, List.set_cons_zero, List.set_cons_succ]
 refine wpAnyH_take (i := 1) (v := ?_) rfl (by kernel_rfl) (by kernel_rfl) (by kernel_rfl) (fun _ _ _ h => h) (Or.inl ⟨by rfl, ?_⟩) hH ?_
 rotate_left
 ·((intro W hW; clear hW; go_simp) <;> with_reducible rfl)
 simp only [sq3, sq4]
 refine wpAnyH_take (i := 2) (v := ?_) rfl (by kernel_rfl) (by kernel_rfl) (by kernel_rfl) (fun _ _ _ h => h) (Or.inl ⟨by rfl, ?_⟩) hH ?_
 rotate_left
 ·((intro W hW; clear hW; go_simp) <;> with_reducible rfl)
 simp only [sq3, sq4]
 refine wpAnyH_take (i := 3) (v := ?_) rfl (by kernel_rfl) (by kernel_rfl) (by kernel_rfl) (fun _ _ _ h => h) (Or.inl ⟨by rfl, ?_⟩) hH ?_
 rotate_left
 ·((intro W hW; have hk := cell_lit (hW) 0 _ rfl; clear hW; go_simp) <;> with_reducible rfl)
 simp only [sq3, sq4]
 refine wpAnyH_take (i := 4) (v := ?_) rfl (by kernel_rfl) (by kernel_rfl) (by kernel_rfl) (fun _ _ _ h => h) (Or.inl ⟨by rfl, ?_⟩) hH ?_
 rotate_left
 ·((intro W hW; clear hW; go_simp) <;> with_reducible rfl)
 simp only [sq3, sq4]
 refine wpAnyH_take (i := 5) (v := ?_) rfl (by kernel_rfl) (by kernel_rfl) (by kernel_rfl) (fun _ _ _ h => h) (Or.inl ⟨by rfl, ?_⟩) hH ?_
 rotate_left
 ·((intro W hW; clear hW; go_simp) <;> with_reducible rfl)
 simp only [sq3, sq4]
 refine wpAnyH_take (i := 6) (v := ?_) rfl (by kernel_rfl) (by kernel_rfl) (by kernel_rfl) (fun _ _ _ h => h) (Or.inl ⟨by rfl, ?_⟩) hH ?_
 rotate_left
 ·((intro W hW; clear hW; go_simp) <;> with_reducible rfl)
 simp only [sq3, sq4]
 refine wpAnyH_take (i := 7) (v := ?_) rfl (by kernel_rfl) (by kernel_rfl) (by kernel_rfl) (fun _ _ _ h => h) (Or.inl ⟨by rfl, ?_⟩) hH ?_
 rotate_left
 ·((intro W hW; have hk := cell_lit (hW) 1 _ rfl; clear hW; go_simp) <;> with_reducible rfl)
 simp only [sq3, sq4]
 refine wpAnyH_ready (rs := [8]) (by kernel_rfl) (by simp) ?_
 refine AllReadyH.cons (o := _) rfl (fun K hK => ?_) AllReadyH.nil
 simp only [sq3]
 go_simp
 with_reducible refine (nget_lit (y := 0) _ sb hn HG.out HM.out rfl rfl).mono ?_
 rintro e w2 ⟨v_nm, rfl, nmw, b2⟩
 dsimp only
 have hz_nm := hsz
 have y_nm_wk := Lib.hid (hlt hwk)
 have bl_sb_nm := sb.bl_new
 have nmlo := (Nat.le_trans hlo bel.size)
 have lz_nm := b2.size
 replace hwk := blk_u hwk b2
 replace sb := sb.below b2
 replace fz := gk_under fz b2 hsz
 replace hsz := Nat.le_trans hsz b2.size
 replace bel := bel.trans (b2.mono (Nat.le_trans hlo bel.size))
 clear b2
 obtain ⟨Anm, cnm, rfl⟩ := owk_val nmw
 have nm := (owk_sle (by decide) stf_len nmw).1
 have fr_nm := (owk_sle (by decide) stf_len nmw).2
 have av_nm_wk := fr_nm.av y_nm_wk.out
 refine hK.out _ _ hwk (fun hH3 => ?_)
 clear hK K
 refine wpAnyH_take (i := 9) (v := ?_) rfl (by kernel_rfl) (by kernel_rfl) (by kernel_rfl) (fun _ _ _ h => h) (Or.inl ⟨by rfl, ?_⟩) hH3 ?_
 rotate_left
 ·((intro W hW; clear hW; go_simp) <;> with_reducible rfl)
 simp only [sq3, sq4]
 refine wpAnyH_take (i := 10) (v := ?_) rfl (by kernel_rfl) (by kernel_rfl) (by kernel_rfl) (fun _ _ _ h => h) (Or.inl ⟨by rfl, ?_⟩) hH3 ?_
 rotate_left
 ·((intro W hW; clear hW; go_simp) <;> with_reducible rfl)
 simp only [sq3, sq4]
 refine wpAnyH_take (i := 11) (v := ?_) rfl (by kernel_rfl) (by kernel_rfl) (by kernel_rfl) (fun _ _ _ h => h) (Or.inl ⟨by rfl, ?_⟩) hH3 ?_
 rotate_left
 ·((intro W hW; clear hW; go_simp) <;> with_reducible rfl)
 simp only [sq3, sq4]
 refine wpAnyH_take (i := 12) (v := ?_) rfl (by kernel_rfl) (by kernel_rfl) (by kernel_rfl) (fun _ _ _ h => h) (Or.inl ⟨by rfl, ?_⟩) hH3 ?_
 rotate_left
 ·((intro W hW; clear hW; go_simp) <;> with_reducible rfl)
 simp only [sq3, sq4]
 refine wpAnyH_take (i := 13) (v := ?_) rfl (by kernel_rfl) (by kernel_rfl) (by kernel_rfl) (fun _ _ _ h => h) (Or.inl ⟨by rfl, ?_⟩) hH3 ?_
 rotate_left
 ·((intro W hW; clear hW; go_simp) <;> with_reducible rfl)
 simp only [sq3, sq4]
 refine wpAnyH_take (i := 14) (v := ?_) rfl (by kernel_rfl) (by kernel_rfl) (by kernel_rfl) (fun _ _ _ h => h) (Or.inl ⟨by rfl, ?_⟩) hH3 ?_
 rotate_left
 ·((intro W hW; clear hW; go_simp) <;> with_reducible rfl)
 simp only [sq3, sq4]
 refine wpAnyH_take (i := 15) (v := ?_) rfl (by kernel_rfl) (by kernel_rfl) (by kernel_rfl) (fun _ _ _ h => h) (Or.inl ⟨by rfl, ?_⟩) hH3 ?_
 rotate_left
 ·((intro W hW; clear hW; go_simp) <;> with_reducible rfl)
 simp only [sq3, sq4]
 refine wpAnyH_done (by kernel_rfl) ?_ _
 go_wp2_with (first | ((with_reducible show wpList _ _ _ (⟨none, Op.store _ (.tmp 26) _, _, _, _, _⟩ :: _) _ _); refine wpList_store_part rfl 3 (.tmp 26) (.tmp 24) rfl gx 1 rfl [.int .i64 (nx : Int)] rfl [.slice A n c, .int .i64 (a : Int)] 53 hwk (by simp) [.slice A n c, .int .i64 (nx : Int)] rfl (by kernel_rfl) (by rfl) ?_; intro w4 hq gr; replace sb := sb.away av_sb_wk gr; replace nm := nm.away av_nm_wk gr; replace nmw := owk_away nmw y_nm_wk.out gr; replace lz_nm := Nat.le_trans lz_nm gr.size; replace fz := fz_self fz gr; replace hsz := Nat.le_trans hsz gr.size; replace bel := below_grown bel gr owk (Nat.le_trans hlo bel.size); clear hwk; have hwk := hq; clear hq gr))
 exact bodyPost_ret (v := .tuple #[.slice Anm m cnm, .int .i64 0]) (by simp [results, Try.results62, go_sem]) rfl ⟨_, _, _, rfl, owk_lo nmw hz_nm, hwk, fz⟩
set_option linter.unusedVariables false in
set_option linter.unusedSimpArgs false in
set_option maxRecDepth 100000 in
set_option maxHeartbeats 16000000 in
theorem dlabels_no {gx n c : Nat} {A : Option Addr} {b : List UInt8} {a : Nat} (w : World) (hwk : w.heap[gx]? = some (.cells #[.slice A n c, .int .i64 (a : Int)] 53 (0, 0))) (sb : Sl w A n c b) (av_sb_wk : Av A n gx) (hn : n ≤ 100000) (ha : a ≤ 100000) {l : List (List UInt8)} {nx er : Nat} (hg : getN b (a : Int) = (l, nx, er)) (he : er ≠ 0) (y : Int) (hy : (er : Int) = y) : Calls Try.prog 62 #[.pointer (some ⟨gx, 0, none⟩)] w fun e w' => e = .returned (.tuple #[.slice none 0 0, .int .i64 y]) ∧ w'.heap[gx]? = some (.cells #[.slice A n c, .int .i64 (a : Int)] 53 (0, 0)) ∧ w.grownBy w' (some gx) := by
 have hlo := Nat.zero_le w.heap.size
 have owk := Nat.zero_le gx
 have HBL := Lib.hid sb.1
 have a0 : (0 : Int) ≤ a := by omega
 have a1 : (a : Int) ≤ 100000 := by omega
 have n0 : (0 : Int) ≤ n := by omega
 have n1 : (n : Int) ≤ 100000 := by omega
 have hsz := Nat.le_refl w.heap.size
 have fz := fz_refl w (some gx)
 have HG := Lib.hid hg
 clear hg
 obtain ⟨m, HM_⟩ : ∃ u_, l.length = u_ := ⟨_, rfl⟩
 have HM := Lib.hid HM_
 clear HM_
 have HY := Lib.hid hy
 have y0 : y ≠ 0 := by omega
 have y1 : (y != 0) = true := by simpa using y0
 clear y0
 have bel := Below.refl 0 w
 go_enter Try.func62, Try.ntmps62
 go_wp2_with fail
 replace bel := bel.drew
 replace hwk : w.drew.heap[gx]? = _ := hwk
 replace sb := sb.drew
 replace fz := gk_drew fz
 replace hsz := sz_drew' hsz
 refine wp_region_held_drew (S := fun W => W.heap[gx]? = some (.cells #[.slice A n c, .int .i64 (a : Int)] 53 (0, 0))) (by kernel_rfl) hwk (fun hH => ?_)
 generalize w.drew = w1 at bel hwk sb fz hsz hH ⊢
 refine wpAnyH_take (i := 0) (v := ?_) rfl (by kernel_rfl) (by kernel_rfl) (by kernel_rfl) (fun _ _ _ h => h) (Or.inl ⟨by rfl, ?_⟩) hH ?_
 rotate_left
 ·((intro W hW; clear hW; go_simp) <;> with_reducible rfl)
 simp only [Act.put, List.getElem_toArray, List.getElem_cons_zero, List.setIfInBounds_toArray, List.set_cons_zero, List.set_cons_succ]
 refine wpAnyH_take (i := 1) (v := ?_) rfl (by kernel_rfl) (by kernel_rfl) (by kernel_rfl) (fun _ _ _ h => h) (Or.inl ⟨by rfl, ?_⟩) hH ?_
 rotate_left
 ·((intro W hW; clear hW; go_simp) <;> with_reducible rfl)
 simp only [sq3, sq4]
 refine wpAnyH_take (i := 2) (v := ?_) rfl (by kernel_rfl) (by kernel_rfl) (by kernel_rfl) (fun _ _ _ h => h) (Or.inl ⟨by rfl, ?_⟩) hH ?_
 rotate_left
 ·((intro W hW; clear hW; go_simp) <;> with_reducible rfl)
 simp only [sq3, sq4]
 refine wpAnyH_take (i := 3) (v := ?_) rfl (by kernel_rfl) (by kernel_rfl) (by kernel_rfl) (fun _ _ _ h => h) (Or.inl ⟨by rfl, ?_⟩) hH ?_
 rotate_left
 ·((intro W hW; have hk := cell_lit (hW) 0 _ rfl; clear hW; go_simp) <;> with_reducible rfl)
 simp only [sq3, sq4]
 refine wpAnyH_take (i := 4) (v := ?_) rfl (by kernel_rfl) (by kernel_rfl) (by kernel_rfl) (fun _ _ _ h => h) (Or.inl ⟨by rfl, ?_⟩) hH ?_
 rotate_left
 ·((intro W hW; clear hW; go_simp) <;> with_reducible rfl)
 simp only [sq3, sq4]
 refine wpAnyH_take (i := 5) (v := ?_) rfl (by kernel_rfl) (by kernel_rfl) (by kernel_rfl) (fun _ _ _ h => h) (Or.inl ⟨by rfl, ?_⟩) hH ?_
 rotate_left
 ·((intro W hW; clear hW; go_simp) <;> with_reducible rfl)
 simp only [sq3, sq4]
 refine wpAnyH_take (i := 6) (v := ?_) rfl (by kernel_rfl) (by kernel_rfl) (by kernel_rfl) (fun _ _ _ h => h) (Or.inl ⟨by rfl, ?_⟩) hH ?_
 rotate_left
 ·((intro W hW; clear hW; go_simp) <;> with_reducible rfl)
 simp only [sq3, sq4]
 refine wpAnyH_take (i := 7) (v := ?_) rfl (by kernel_rfl) (by kernel_rfl) (by kernel_rfl) (fun _ _ _ h => h) (Or.inl ⟨by rfl, ?_⟩) hH ?_
 rotate_left
 ·((intro W hW; have hk := cell_lit (hW) 1 _ rfl; clear hW; go_simp) <;> with_reducible rfl)
 simp only [sq3, sq4]
 refine wpAnyH_ready (rs := [8]) (by kernel_rfl) (by simp) ?_
 refine AllReadyH.cons (o := _) rfl (fun K hK => ?_) AllReadyH.nil
 simp only [sq3]
 go_simp
 with_reducible refine (nget_lit (y := y) _ sb hn HG.out HM.out rfl HY.out).mono ?_
 rintro e w2 ⟨v_nm, rfl, nmw, b2⟩
 dsimp only
 have hz_nm := hsz
 have y_nm_wk := Lib.hid (hlt hwk)
 have bl_sb_nm := sb.bl_new
 have nmlo := (Nat.le_trans hlo bel.size)
 have lz_nm := b2.size
 replace hwk := blk_u hwk b2
 replace sb := sb.below b2
 replace fz := gk_under fz b2 hsz
 replace hsz := Nat.le_trans hsz b2.size
 replace bel := bel.trans (b2.mono (Nat.le_trans hlo bel.size))
 clear b2
 obtain ⟨Anm, cnm, rfl⟩ := owk_val nmw
 have nm := (owk_sle (by decide) stf_len nmw).1
 have fr_nm := (owk_sle (by decide) stf_len nmw).2
 have av_nm_wk := fr_nm.av y_nm_wk.out
 refine hK.out _ _ hwk (fun hH3 => ?_)
 clear hK K
 refine wpAnyH_take (i := 9) (v := ?_) rfl (by kernel_rfl) (by kernel_rfl) (by kernel_rfl) (fun _ _ _ h => h) (Or.inl ⟨by rfl, ?_⟩) hH3 ?_
 rotate_left
 ·((intro W hW; clear hW; go_simp) <;> with_reducible rfl)
 simp only [sq3, sq4]
 refine wpAnyH_take (i := 10) (v := ?_) rfl (by kernel_rfl) (by kernel_rfl) (by kernel_rfl) (fun _ _ _ h => h) (Or.inl ⟨by rfl, ?_⟩) hH3 ?_
 rotate_left
 ·((intro W hW; clear hW; go_simp) <;> with_reducible rfl)
 simp only [sq3, sq4]
 refine wpAnyH_take (i := 11) (v := ?_) rfl (by kernel_rfl) (by kernel_rfl) (by kernel_rfl) (fun _ _ _ h => h) (Or.inl ⟨by rfl, ?_⟩) hH3 ?_
 rotate_left
 ·((intro W hW; clear hW; go_simp) <;> with_reducible rfl)
 simp only [sq3, sq4]
 refine wpAnyH_take (i := 12) (v := ?_) rfl (by kernel_rfl) (by kernel_rfl) (by kernel_rfl) (fun _ _ _ h => h) (Or.inl ⟨by rfl, ?_⟩) hH3 ?_
 rotate_left
 ·((intro W hW; clear hW; go_simp) <;> with_reducible rfl)
 simp only [sq3, sq4]
 refine wpAnyH_take (i := 13) (v := ?_) rfl (by kernel_rfl) (by kernel_rfl) (by kernel_rfl) (fun _ _ _ h => h) (Or.inl ⟨by rfl, ?_⟩) hH3 ?_
 rotate_left
 ·((intro W hW; clear hW; go_simp) <;> with_reducible rfl)
 simp only [sq3, sq4]
 refine wpAnyH_take (i := 14) (v := ?_) rfl (by kernel_rfl) (by kernel_rfl) (by kernel_rfl) (fun _ _ _ h => h) (Or.inl ⟨by rfl, ?_⟩) hH3 ?_
 rotate_left
 ·((intro W hW; clear hW; go_simp) <;> with_reducible rfl)
 simp only [sq3, sq4]
 refine wpAnyH_take (i := 15) (v := ?_) rfl (by kernel_rfl) (by kernel_rfl) (by kernel_rfl) (fun _ _ _ h => h) (Or.inl ⟨by rfl, ?_⟩) hH3 ?_
 rotate_left
 ·((intro W hW; clear hW; go_simp) <;> with_reducible rfl)
 simp only [sq3, sq4]
 refine wpAnyH_done (by kernel_rfl) ?_ _
 go_wp2_with fail
 exact bodyPost_ret (v := .tuple #[.slice none 0 0, .int .i64 y]) (by simp [results, Try.results62, go_sem]) rfl ⟨rfl, hwk, fz⟩
set_option linter.unusedVariables false in
set_option linter.unusedSimpArgs false in
set_option maxRecDepth 100000 in
set_option maxHeartbeats 16000000 in
theorem dlayout_any (t : Int) (n : Nat) (w : World) : Calls Try.prog 71 #[.int .i64 t, .int .i64 (n : Int)] w fun e w' => e = .returned (.tuple #[.int .i64 ((lay t n).1 : Int), .int .i64 ((lay t n).2.1 : Int), .int .i64 ((lay t n).2.2 : Int)]) ∧ w = w' := by
 skip
 have bel := Below.refl w.heap.size w
 go_enter Try.func71, Try.ntmps71
 by_cases h2 : t = 2
 ·have HH2 := Lib.hid h2
  have e2_ : (t == 2) = true := by simpa using h2
  clear h2
  have HL : Hid (lay t n = (0, 1, 0)) := Lib.hid (by unfold lay; rw [if_pos (.inl HH2.out)])
  go_wp2_with fail
  exact bodyPost_ret (v := .tuple #[.int .i64 0, .int .i64 1, .int .i64 0]) (by simp [results, Try.results71, go_sem]) rfl ⟨by rw [HL.out]; rfl, rfl⟩
 have HH2 := Lib.hid h2
 have e2_ : (t == 2) = false := by simpa using h2
 clear h2
 by_cases h5 : t = 5
 ·have HH5 := Lib.hid h5
  have e5_ : (t == 5) = true := by simpa using h5
  clear h5
  have HL : Hid (lay t n = (0, 1, 0)) := Lib.hid (by unfold lay; rw [if_pos (.inr (.inl HH5.out))])
  go_wp2_with fail
  exact bodyPost_ret (v := .tuple #[.int .i64 0, .int .i64 1, .int .i64 0]) (by simp [results, Try.results71, go_sem]) rfl ⟨by rw [HL.out]; rfl, rfl⟩
 have HH5 := Lib.hid h5
 have e5_ : (t == 5) = false := by simpa using h5
 clear h5
 by_cases h12 : t = 12
 ·have HH12 := Lib.hid h12
  have e12_ : (t == 12) = true := by simpa using h12
  clear h12
  have HL : Hid (lay t n = (0, 1, 0)) := Lib.hid (by unfold lay; rw [if_pos (.inr (.inr HH12.out))])
  go_wp2_with fail
  exact bodyPost_ret (v := .tuple #[.int .i64 0, .int .i64 1, .int .i64 0]) (by simp [results, Try.results71, go_sem]) rfl ⟨by rw [HL.out]; rfl, rfl⟩
 have HH12 := Lib.hid h12
 have e12_ : (t == 12) = false := by simpa using h12
 clear h12
 by_cases h15 : t = 15
 ·have HH15 := Lib.hid h15
  have e15_ : (t == 15) = true := by simpa using h15
  clear h15
  have HL : Hid (lay t n = (2, 1, 0)) := Lib.hid (by unfold lay; rw [if_neg (by have h2_ := HH2.out; have h5_ := HH5.out; have h12_ := HH12.out; omega), if_pos HH15.out])
  go_wp2_with fail
  exact bodyPost_ret (v := .tuple #[.int .i64 2, .int .i64 1, .int .i64 0]) (by simp [results, Try.results71, go_sem]) rfl ⟨by rw [HL.out]; rfl, rfl⟩
 have HH15 := Lib.hid h15
 have e15_ : (t == 15) = false := by simpa using h15
 clear h15
 by_cases h6 : t = 6
 ·have HH6 := Lib.hid h6
  have e6_ : (t == 6) = true := by simpa using h6
  clear h6
  have HL : Hid (lay t n = (0, 2, 20)) := Lib.hid (by unfold lay; rw [if_neg (by have h2_ := HH2.out; have h5_ := HH5.out; have h12_ := HH12.out; omega), if_neg HH15.out, if_pos HH6.out])
  go_wp2_with fail
  exact bodyPost_ret (v := .tuple #[.int .i64 0, .int .i64 2, .int .i64 20]) (by simp [results, Try.results71, go_sem]) rfl ⟨by rw [HL.out]; rfl, rfl⟩
 have HH6 := Lib.hid h6
 have e6_ : (t == 6) = false := by simpa using h6
 clear h6
 have HL : Hid (lay t n = (n, 0, 0)) := Lib.hid (by unfold lay; rw [if_neg (by have h2_ := HH2.out; have h5_ := HH5.out; have h12_ := HH12.out; omega), if_neg HH15.out, if_neg HH6.out])
 go_wp2_with fail
 exact bodyPost_ret (v := .tuple #[.int .i64 (n : Int), .int .i64 0, .int .i64 0]) (by simp [results, Try.results71, go_sem]) rfl ⟨by rw [HL.out]; rfl, rfl⟩
set_option linter.unusedVariables false in
set_option linter.unusedSimpArgs false in
set_option maxRecDepth 100000 in
set_option maxHeartbeats 16000000 in
theorem dquest_ok {gx n c : Nat} {A : Option Addr} {b : List UInt8} {a : Nat} (w : World) (hwk : w.heap[gx]? = some (.cells #[.slice A n c, .int .i64 (a : Int)] 53 (0, 0))) (sb : Sl w A n c b) (av_sb_wk : Av A n gx) (hn : n ≤ 100000) (ha : a ≤ 100000) {q : Qn} {a2 : Nat} (hq : qAt b a = .ok (q, a2)) : Calls Try.prog 47 #[.pointer (some ⟨gx, 0, none⟩)] w fun e w' => ∃ x : Qh, e = .returned (.tuple #[.agg #[.slice x.A x.n x.c, .int .i64 x.t, .int .i64 x.k], .int .i64 0]) ∧ w'.heap[gx]? = some (.cells #[.slice A n c, .int .i64 (a2 : Int)] 53 (0, 0)) ∧ Qw w.heap.size w' x q ∧ w.grownBy w' (some gx) := by
 have hlo := Nat.zero_le w.heap.size
 have owk := Nat.zero_le gx
 have HBL := Lib.hid sb.1
 have a0 : (0 : Int) ≤ a := by omega
 have a1 : (a : Int) ≤ 100000 := by omega
 have n0 : (0 : Int) ≤ n := by omega
 have n1 : (n : Int) ≤ 100000 := by omega
 have hsz := Nat.le_refl w.heap.size
 have fz := fz_refl w (some gx)
 obtain ⟨nx, hg_, ha2_, hle_, ht_, hk_⟩ := qAt_inv hq
 have HG := Lib.hid hg_
 have HNX := (Lib.hid (by have h_ := nx_le hg_; have h1_ := HBL.out; omega) : Hid (nx ≤ n))
 have HA2 := Lib.hid ha2_
 have HLE : Hid (a2 ≤ n) := Lib.hid (by have h_ := HBL.out; omega)
 have HT := Lib.hid ht_
 have HK := Lib.hid hk_
 clear hg_ ha2_ hle_ ht_ hk_ hq
 have bel := Below.refl 0 w
 go_enter Try.func47, Try.ntmps47
 go_wp2_with (first | ((with_reducible show wpList _ _ _ (⟨some 2, _, _, _, _, _⟩ :: _) _ _); refine wpList_new_a rfl 60 rfl #[.slice none 0 0, .int .i64 0, .int .i64 0] (by kernel_rfl) ?_; intro g2 w1 ge hh bb; have d_wk_b2 := ne_new (hlt hwk) ge; have av_sb_b2 := sb.av_new ge; have ob2 := Nat.le_trans (Nat.le_trans hlo bel.size) ge; have lo_b2 := Nat.le_trans hsz ge; replace hwk := blk_u hwk bb; replace sb := sb.below bb; replace fz := gk_under fz bb hsz; replace hsz := Nat.le_trans hsz bb.size; replace bel := bel.trans (bb.mono (Nat.le_trans hlo bel.size)); have hb2 := hh; clear hh ge bb))
 have HS4 := hsz
 with_reducible refine (dlabels_ok _ hwk sb av_sb_wk hn ha HG.out).mono ?_
 rintro e w2 ⟨Lq, mq, cq, rfl, nmw, hq_, b2⟩
 replace sb := sb.away av_sb_wk b2
 replace hb2 := blk_a hb2 b2 (ne_symm d_wk_b2)
 replace fz := fz_self fz b2
 replace hsz := Nat.le_trans hsz b2.size
 replace bel := below_grown bel b2 owk (Nat.le_trans hlo bel.size)
 clear b2
 clear hwk
 have hwk := hq_
 clear hq_
 replace nmw := owk_lo nmw HS4
 have nx0 : (0 : Int) ≤ nx := by omega
 have nx1 : (nx : Int) ≤ 100000 := by have h_ := HNX.out; omega
 go_wp2_with fail
 with_reducible refine (dtake_ok _ hwk sb av_sb_wk hn (by omega) 4 4 a2 rfl (by decide) HA2.out (by have h_ := HLE.out; omega)).mono ?_
 rintro e w3 ⟨A6, c6, rfl, hq_, tk, u_, b3⟩
 replace sb := sb.away av_sb_wk b3
 replace hb2 := blk_a hb2 b3 (ne_symm d_wk_b2)
 replace fz := fz_self fz b3
 replace hsz := Nat.le_trans hsz b3.size
 replace nmw := owk_off nmw (ofs_type nmw hwk (by decide)) b3
 replace bel := below_grown bel b3 owk (Nat.le_trans hlo bel.size)
 clear b3
 clear hwk
 have hwk := hq_
 clear hq_
 have av_tk_wk := av_sb_wk.sub u_
 have av_tk_b2 := av_sb_b2.sub u_
 clear u_
 have HTL : Hid (((b.drop nx).take 4).length = 4) := Lib.hid tk.1
 have HY1 : Hid (((be (((b.drop nx).take 4).take 2) : Nat) : Int) = q.t) := Lib.hid (by rw [← HT.out]; exact congrArg Int.ofNat (nAt_sub (i := 0) (j := 2) rfl (by decide)))
 have HY2 : Hid (((be ((((b.drop nx).take 4).drop 2).take 2) : Nat) : Int) = q.k) := Lib.hid (by rw [← HK.out]; exact congrArg Int.ofNat (nAt_sub (i := 2) (j := 2) rfl (by decide)))
 go_wp2_with fail
 with_reducible refine (rd_read _ _ _ _ _ tk (by omega)).mono ?_
 rintro e w4 ⟨gr, Ar3, cr3, rfl, ge, hh, rest, frr, avr, b4⟩
 have av_rest_wk := frr.av (hlt hwk)
 have av_rest_b2 := frr.av (hlt hb2)
 have d_wk_r := ne_new (hlt hwk) ge
 have d_b2_r := ne_new (hlt hb2) ge
 have av_sb_r := sb.av_new ge
 have av_tk_r := tk.av_new ge
 have or := Nat.le_trans (Nat.le_trans hlo bel.size) ge
 have lo_r := Nat.le_trans hsz ge
 replace hwk := blk_u hwk b4
 replace hb2 := blk_u hb2 b4
 replace sb := sb.below b4
 replace tk := tk.below b4
 replace fz := gk_under fz b4 hsz
 replace hsz := Nat.le_trans hsz b4.size
 replace nmw := owk_under nmw b4
 replace bel := bel.trans (b4.mono (Nat.le_trans hlo bel.size))
 have hr := hh
 clear hh ge b4
 replace rest : Sl w4 (Ar3) (4) (cr3) ((b.drop nx).take 4) := rest
 go_wp2_with fail
 with_reducible refine (dn_u16 (by have h_ := HTL.out; omega) HY1 hr rest).mono ?_
 rintro e w5 ⟨A4, n4, c4, rfl, hq, sq, uq, b5⟩
 replace sb := sb.away av_sb_r b5
 replace tk := tk.away av_tk_r b5
 replace hwk := blk_a hwk b5 d_wk_r
 replace hb2 := blk_a hb2 b5 d_b2_r
 replace fz := fz_new fz b5 lo_r
 replace hsz := Nat.le_trans hsz b5.size
 replace nmw := owk_off nmw (ofs_type nmw hr (by decide)) b5
 replace bel := below_grown bel b5 or (Nat.le_trans hlo bel.size)
 clear b5
 clear hr rest
 have hr := hq
 have rest := sq
 clear hq sq
 have av4_rest_wk := av_rest_wk.sub uq
 have av4_rest_b2 := av_rest_b2.sub uq
 have av4_rest_r := avr.sub uq
 clear uq
 go_wp2_with fail
 with_reducible refine (dn_u16 (by have h_ := HTL.out; rw [List.length_drop]; omega) HY2 hr rest).mono ?_
 rintro e w6 ⟨A5, n5, c5, rfl, hq, sq, uq, b6⟩
 replace sb := sb.away av_sb_r b6
 replace tk := tk.away av_tk_r b6
 replace hwk := blk_a hwk b6 d_wk_r
 replace hb2 := blk_a hb2 b6 d_b2_r
 replace fz := fz_new fz b6 lo_r
 replace hsz := Nat.le_trans hsz b6.size
 replace nmw := owk_off nmw (ofs_type nmw hr (by decide)) b6
 replace bel := below_grown bel b6 or (Nat.le_trans hlo bel.size)
 clear b6
 clear hr rest
 have hr := hq
 have rest := sq
 clear hq sq
 have av5_rest_wk := av4_rest_wk.sub uq
 have av5_rest_b2 := av4_rest_b2.sub uq
 have av5_rest_r := av4_rest_r.sub uq
 clear uq
 go_wp2_with (first | ((with_reducible show wpList _ _ _ (⟨none, Op.store _ (.tmp 2) _, _, _, _, _⟩ :: _) _ _); refine wpList_store_blk rfl 60 (.tmp 2) (.tmp 33) rfl g2 rfl _ rfl _ 60 hb2 (by rfl) (by kernel_rfl) (by kernel_rfl) ?_; intro w7 hq gr; replace sb := sb.away av_sb_b2 gr; replace tk := tk.away av_tk_b2 gr; replace rest := rest.away av5_rest_b2 gr; replace hwk := blk_a hwk gr d_wk_b2; replace hr := blk_a hr gr (ne_symm d_b2_r); replace fz := fz_new fz gr lo_b2; replace hsz := Nat.le_trans hsz gr.size; replace nmw := owk_off nmw (ofs_type nmw hb2 (by decide)) gr; replace bel := below_grown bel gr ob2 (Nat.le_trans hlo bel.size); clear hb2; have hb2 := hq; clear hq gr))
 exact bodyPost_ret (results_cell_tmp_row rfl _ _ _ _ _ _ _ rfl hb2 Try.underlying60 rfl (by kernel_rfl) (.int .i64 0) rfl) rfl ⟨⟨Lq, mq, cq, q.t, q.k⟩, rfl, hwk, ⟨rfl, rfl, nmw⟩, fz⟩
set_option linter.unusedVariables false in
set_option linter.unusedSimpArgs false in
set_option maxRecDepth 100000 in
set_option maxHeartbeats 16000000 in
theorem dquest_no {gx n c : Nat} {A : Option Addr} {b : List UInt8} {a : Nat} (w : World) (hwk : w.heap[gx]? = some (.cells #[.slice A n c, .int .i64 (a : Int)] 53 (0, 0))) (sb : Sl w A n c b) (av_sb_wk : Av A n gx) (hn : n ≤ 100000) (ha : a ≤ 100000) {er : Nat} (hq : qAt b a = .error er) (y : Int) (hy : (er : Int) = y) : Calls Try.prog 47 #[.pointer (some ⟨gx, 0, none⟩)] w fun e w' => e = .returned (.tuple #[.agg #[.slice none 0 0, .int .i64 0, .int .i64 0], .int .i64 y]) ∧ w.grownBy w' (some gx) := by
 have hlo := Nat.zero_le w.heap.size
 have owk := Nat.zero_le gx
 have HBL := Lib.hid sb.1
 have a0 : (0 : Int) ≤ a := by omega
 have a1 : (a : Int) ≤ 100000 := by omega
 have n0 : (0 : Int) ≤ n := by omega
 have n1 : (n : Int) ≤ 100000 := by omega
 have hsz := Nat.le_refl w.heap.size
 have fz := fz_refl w (some gx)
 have HY := Lib.hid hy
 clear hy
 have bel := Below.refl 0 w
 go_enter Try.func47, Try.ntmps47
 rcases qAt_inv_no hq with ⟨l, nx, hg_, he_⟩ | ⟨l, nx, hg_, hl_, he_⟩
 ·have HG := Lib.hid hg_
  have HE := Lib.hid he_
  clear hg_ he_ hq
  have y0 : y ≠ 0 := by have h_ := HY.out; have h1_ := HE.out; omega
  have y1 : (y != 0) = true := by simpa using y0
  clear y0
  go_wp2_with (first | ((with_reducible show wpList _ _ _ (⟨some 2, _, _, _, _, _⟩ :: _) _ _); refine wpList_new_a rfl 60 rfl #[.slice none 0 0, .int .i64 0, .int .i64 0] (by kernel_rfl) ?_; intro g2 w1 ge hh bb; have d_wk_b2 := ne_new (hlt hwk) ge; have av_sb_b2 := sb.av_new ge; have ob2 := Nat.le_trans (Nat.le_trans hlo bel.size) ge; have lo_b2 := Nat.le_trans hsz ge; replace hwk := blk_u hwk bb; replace sb := sb.below bb; replace fz := gk_under fz bb hsz; replace hsz := Nat.le_trans hsz bb.size; replace bel := bel.trans (bb.mono (Nat.le_trans hlo bel.size)); have hb2 := hh; clear hh ge bb))
  with_reducible refine (dlabels_no _ hwk sb av_sb_wk hn ha HG.out HE.out y HY.out).mono ?_
  rintro e w2 ⟨rfl, hq_, b2⟩
  replace sb := sb.away av_sb_wk b2
  replace hb2 := blk_a hb2 b2 (ne_symm d_wk_b2)
  replace fz := fz_self fz b2
  replace hsz := Nat.le_trans hsz b2.size
  replace bel := below_grown bel b2 owk (Nat.le_trans hlo bel.size)
  clear b2
  clear hwk
  have hwk := hq_
  clear hq_
  go_wp2_with (first | ((with_reducible show wpList _ _ _ (⟨none, Op.store _ (.tmp 2) _, _, _, _, _⟩ :: _) _ _); refine wpList_store_blk rfl 60 (.tmp 2) (.tmp 15) rfl g2 rfl _ rfl _ 60 hb2 (by rfl) (by kernel_rfl) (by kernel_rfl) ?_; intro w3 hq gr; replace sb := sb.away av_sb_b2 gr; replace hwk := blk_a hwk gr d_wk_b2; replace fz := fz_new fz gr lo_b2; replace hsz := Nat.le_trans hsz gr.size; replace bel := below_grown bel gr ob2 (Nat.le_trans hlo bel.size); clear hb2; have hb2 := hq; clear hq gr))
  exact bodyPost_ret (results_cell_tmp_row rfl _ _ _ _ _ _ _ rfl hb2 Try.underlying60 rfl (by kernel_rfl) (.int .i64 y) rfl) rfl ⟨rfl, fz⟩
 have HG := Lib.hid hg_
 have HE := Lib.hid he_
 have HLE : Hid (n < nx + 4) := Lib.hid (by have h1_ := HBL.out; omega)
 have HNX : Hid (nx ≤ n) := Lib.hid (by have h_ := nx_le hg_; have h1_ := HBL.out; omega)
 clear hg_ he_ hq hl_
 go_wp2_with (first | ((with_reducible show wpList _ _ _ (⟨some 2, _, _, _, _, _⟩ :: _) _ _); refine wpList_new_a rfl 60 rfl #[.slice none 0 0, .int .i64 0, .int .i64 0] (by kernel_rfl) ?_; intro g2 w1 ge hh bb; have d_wk_b2 := ne_new (hlt hwk) ge; have av_sb_b2 := sb.av_new ge; have ob2 := Nat.le_trans (Nat.le_trans hlo bel.size) ge; have lo_b2 := Nat.le_trans hsz ge; replace hwk := blk_u hwk bb; replace sb := sb.below bb; replace fz := gk_under fz bb hsz; replace hsz := Nat.le_trans hsz bb.size; replace bel := bel.trans (bb.mono (Nat.le_trans hlo bel.size)); have hb2 := hh; clear hh ge bb))
 have HS4 := hsz
 with_reducible refine (dlabels_ok _ hwk sb av_sb_wk hn ha HG.out).mono ?_
 rintro e w2 ⟨Lq, mq, cq, rfl, nmw, hq_, b2⟩
 replace sb := sb.away av_sb_wk b2
 replace hb2 := blk_a hb2 b2 (ne_symm d_wk_b2)
 replace fz := fz_self fz b2
 replace hsz := Nat.le_trans hsz b2.size
 replace bel := below_grown bel b2 owk (Nat.le_trans hlo bel.size)
 clear b2
 clear hwk
 have hwk := hq_
 clear hq_
 replace nmw := owk_lo nmw HS4
 have nx0 : (0 : Int) ≤ nx := by omega
 have nx1 : (nx : Int) ≤ 100000 := by have h_ := HNX.out; omega
 go_wp2_with fail
 with_reducible refine (dtake_no _ hwk sb av_sb_wk hn (by omega) 4 4 rfl (by decide) (by have h_ := HLE.out; omega)).mono ?_
 rintro e w3 ⟨rfl, hq_, b3⟩
 replace sb := sb.away av_sb_wk b3
 replace hb2 := blk_a hb2 b3 (ne_symm d_wk_b2)
 replace fz := fz_self fz b3
 replace hsz := Nat.le_trans hsz b3.size
 replace nmw := owk_off nmw (ofs_type nmw hwk (by decide)) b3
 replace bel := below_grown bel b3 owk (Nat.le_trans hlo bel.size)
 clear b3
 clear hwk
 have hwk := hq_
 clear hq_
 go_wp2_with (first | ((with_reducible show wpList _ _ _ (⟨none, Op.store _ (.tmp 2) _, _, _, _, _⟩ :: _) _ _); refine wpList_store_blk rfl 60 (.tmp 2) (.tmp 24) rfl g2 rfl _ rfl _ 60 hb2 (by rfl) (by kernel_rfl) (by kernel_rfl) ?_; intro w4 hq gr; replace sb := sb.away av_sb_b2 gr; replace hwk := blk_a hwk gr d_wk_b2; replace fz := fz_new fz gr lo_b2; replace hsz := Nat.le_trans hsz gr.size; replace nmw := owk_off nmw (ofs_type nmw hb2 (by decide)) gr; replace bel := below_grown bel gr ob2 (Nat.le_trans hlo bel.size); clear hb2; have hb2 := hq; clear hq gr))
 exact bodyPost_ret (results_cell_tmp_row rfl _ _ _ _ _ _ _ rfl hb2 Try.underlying60 rfl (by kernel_rfl) (.int .i64 3) rfl) rfl ⟨by rw [← HY.out, HE.out]; rfl, fz⟩
end Go.Proofs.Ytjedknjlpeccbaa
