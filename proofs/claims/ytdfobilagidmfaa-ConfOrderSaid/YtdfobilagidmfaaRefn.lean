/- The contracts of the reference's numbers and nets. -/
import Derived.Test.YtdfobilagidmfaaWalkw
import Derived.Test.YtdfobilagidmfaaNets
import Derived.Test.YtdfobilagidmfaaMemz
import Derived.Lib.Hide
import Derived.Deep.LoopGhost
namespace Go.Proofs.Ytdfobilagidmfaa
open Go.RowKit

/-- An address by its number. -/
def adr (n : Nat) : Value := .agg #[.int .u8 ((n : Int) / 16777216), .int .u8 ((n : Int) / 65536 % 256), .int .u8 ((n : Int) / 256 % 256), .int .u8 ((n : Int) % 256)]

def clamp (b : Int) : Nat := if b < 0 then 0 else if 32 < b then 32 else b.toNat
theorem clamp_le (b : Int) : clamp b ≤ 32 := by unfold clamp; split <;> (try split) <;> omega

theorem rbits_any (b : Int) (w : World) : Calls Try.prog 50 #[.int .i64 b] w fun e w' => e = .returned (.int .i64 (clamp b)) ∧ w = w' := by
  by_cases h0 : b < 0
  · have hc : clamp b = 0 := if_pos h0
    rw [hc]; clear hc
    go_enter Try.func50, Try.ntmps50
    go_wp2
    go_ret
    exact ⟨rfl, rfl⟩
  by_cases h1 : 32 < b
  · have hc : clamp b = 32 := by unfold clamp; rw [if_neg h0, if_pos h1]
    have b0 : 0 ≤ b := by omega
    rw [hc]; clear hc h0
    go_enter Try.func50, Try.ntmps50
    go_wp2
    go_ret
    exact ⟨rfl, rfl⟩
  · have hc : Hid ((clamp b : Int) = b) := Lib.hid (by unfold clamp; rw [if_neg h0, if_neg h1]; omega)
    have b0 : decide (b < 0) = false := decide_eq_false h0
    have b1 : decide (32 < b) = false := decide_eq_false h1
    clear h0 h1
    rw [hc.out]
    go_enter Try.func50, Try.ntmps50
    go_wp2
    go_ret
    exact ⟨rfl, rfl⟩

theorem rof4_any (n : Nat) (w : World) (hn : n < 4294967296) : Calls Try.prog 28 #[.int .u32 (n : Int)] w fun e w' => e = .returned (adr n) ∧ Below w.heap.size w w' := by
  have n0 : (0 : Int) ≤ n := by omega
  have n1 : (n : Int) < 4294967296 := by omega
  go_enter Try.func28, Try.ntmps28
  go_wp2
  exact bodyPost_ret (v := adr n) (by simp [results, Try.results28, go_sem, adr]) rfl ⟨rfl, (Below.refl _ _).alloc (Nat.le_refl _) _⟩

theorem made_abcd (a b c d : UInt8) (w : World) : Sl (w.alloc (.cells #[.int .u8 (a.toNat : Int), .int .u8 (b.toNat : Int), .int .u8 (c.toNat : Int), .int .u8 (d.toNat : Int)] 5)) (some ⟨w.heap.size, 0, none⟩) 4 4 [a, b, c, d] := Sl.made w 5 [a, b, c, d] (by simp [maxLen])

theorem rnum_any (a b c d : UInt8) (w : World) : Calls Try.prog 25 #[.agg #[.int .u8 (a.toNat : Int), .int .u8 (b.toNat : Int), .int .u8 (c.toNat : Int), .int .u8 (d.toNat : Int)]] w fun e w' => e = .returned (.int .u32 (be [a, b, c, d])) ∧ Below w.heap.size w w' := by
  have hm := made_abcd a b c d (w.alloc (.cells #[.int .u8 (a.toNat : Int), .int .u8 (b.toNat : Int), .int .u8 (c.toNat : Int), .int .u8 (d.toNat : Int)] 24))
  have bel := ((Below.refl w.heap.size w).alloc (Nat.le_refl _) (.cells #[.int .u8 (a.toNat : Int), .int .u8 (b.toNat : Int), .int .u8 (c.toNat : Int), .int .u8 (d.toNat : Int)] 24)).alloc (by simp) (.cells #[.int .u8 (a.toNat : Int), .int .u8 (b.toNat : Int), .int .u8 (c.toNat : Int), .int .u8 (d.toNat : Int)] 5)
  have hs : (w.alloc (.cells #[.int .u8 (a.toNat : Int), .int .u8 (b.toNat : Int), .int .u8 (c.toNat : Int), .int .u8 (d.toNat : Int)] 24)).heap.size = w.heap.size + 1 := by simp
  rw [hs] at hm
  have ha := fun W (h : Sl W (some ⟨w.heap.size + 1, 0, none⟩) 4 4 [a, b, c, d]) => at32_any _ 4 4 [a, b, c, d] W h (by omega)
  rw [show ([a, b, c, d] : List UInt8).take 4 = [a, b, c, d] from rfl] at ha
  generalize be [a, b, c, d] = n at *
  have HA := Lib.hid ha
  clear ha hs
  go_enter Try.func25, Try.ntmps25
  go_wp2_with fail
  with_reducible refine (HA.out _ hm).mono ?_
  rintro e w1 ⟨rfl, q, rfl⟩
  go_wp2
  go_ret
  exact ⟨rfl, ⟨bel.os, bel.tape, bel.output, bel.size, bel.block⟩⟩

theorem be_four_lt (a b c d : UInt8) : be [a, b, c, d] < 4294967296 := be_lt 4 [a, b, c, d] rfl

theorem clrN_le (n m k : Nat) (h : m ≤ k) : clrN n m k ≤ n := by
  have : n % 2 ^ (32 - k) ≤ n % 2 ^ (32 - m) := by
    rw [← Nat.mod_mod_of_dvd n (Nat.pow_dvd_pow 2 (by omega : 32 - k ≤ 32 - m))]
    exact Nat.mod_le _ _
  have := Nat.div_add_mod n (2 ^ (32 - m))
  unfold clrN; omega
theorem clr_walk (n m k : Nat) (h : m ≤ k) (hk : k < 32) (hn : n < 4294967296) : bits .andNot .u32 (clrN n m k : Int) ((2 : Int) ^ (31 - k) % 4294967296) = (clrN n m (k + 1) : Int) ∧ clrN n m k < 4294967296 := by
  have hle := clrN_le n m k h
  have hp : (2 : Nat) ^ (31 - k) ≤ 2 ^ 31 := Nat.pow_le_pow_right (by omega) (by omega)
  have e : ((2 : Int) ^ (31 - k) % 4294967296) = ((2 ^ (31 - k) : Nat) : Int) := by
    rw [show (2 : Int) ^ (31 - k) = ((2 ^ (31 - k) : Nat) : Int) by simp]
    generalize (2 : Nat) ^ (31 - k) = R at *
    omega
  rw [e, u32_andNot_nat _ _ (by omega) (by omega), (clrN_step n m k h hk (by omega)).1]
  exact ⟨rfl, by omega⟩

/-- The two blocks that First lays, behind what came later. -/
theorem first_kept {w w3 : World} {a b c d x0 x1 x2 x3 x4 : Value} (h : Below ((w.alloc (.cells #[a, b, c, d, x4] 36)).alloc (.cells #[x0, x1, x2, x3] 24)).heap.size ((w.alloc (.cells #[a, b, c, d, x4] 36)).alloc (.cells #[x0, x1, x2, x3] 24)) w3) :
    w3.cell? ⟨w.heap.size, 4, none⟩ = some x4 ∧ w3.heap[w.heap.size + 1]? = some (.cells #[x0, x1, x2, x3] 24 (0, 0)) ∧ Below w.heap.size w w3 ∧ w.heap.size + 1 < w3.heap.size := by
  have hs := h.size
  simp at hs
  have h1 : w3.heap[w.heap.size + 1]? = some (.cells #[x0, x1, x2, x3] 24 (0, 0)) := (h.block _ (by simp)).trans (by have := heap_alloc_new (w.alloc (.cells #[a, b, c, d, x4] 36)) (.cells #[x0, x1, x2, x3] 24); simpa using this)
  have h0 : w3.heap[w.heap.size]? = some (.cells #[a, b, c, d, x4] 36 (0, 0)) :=
    (h.block _ (by simp; omega)).trans ((Go.heap_alloc_old (w.alloc (.cells #[a, b, c, d, x4] 36)) (.cells #[x0, x1, x2, x3] 24) (r := w.heap.size) (by simp)).trans (heap_alloc_new w _))
  refine ⟨by simp [World.cell?, h0], h1, ?_, by omega⟩
  exact (((Below.refl w.heap.size w).alloc (Nat.le_refl _) _).alloc (by simp) _).trans (h.mono (by simp; omega))

set_option maxHeartbeats 1000000 in
theorem rfirst_any (a b c d : UInt8) (bt : Int) (w : World) :
    Calls Try.prog 26 #[.agg #[.int .u8 (a.toNat : Int), .int .u8 (b.toNat : Int), .int .u8 (c.toNat : Int), .int .u8 (d.toNat : Int), .int .i64 bt]] w fun e w' => e = .returned (adr (firstN (be [a, b, c, d]) (clamp bt))) ∧ Below w.heap.size w w' := by
  have hn := be_four_lt a b c d
  have hml := clamp_le bt
  have hnum := fun W => rnum_any a b c d W
  have hbits := fun W => rbits_any bt W
  generalize be [a, b, c, d] = n at *
  generalize clamp bt = m at *
  have HNUM := Lib.hid hnum
  have HBITS := Lib.hid hbits
  clear hnum hbits
  go_enter Try.func26, Try.ntmps26
  go_wp2_with fail
  with_reducible refine (HNUM.out _).mono ?_
  rintro e w3 ⟨rfl, bel3⟩
  obtain ⟨z4, hb4, bel, hsz⟩ := first_kept bel3
  clear bel3
  go_wp2_with fail
  with_reducible refine (HBITS.out _).mono ?_
  rintro e w4 ⟨rfl, rfl⟩
  have hst := Lib.hid (clrN_start n m)
  go_wp2_with fail
  go_loop [3, 4] (fun v i => ∃ k : Nat, m ≤ k ∧ k ≤ 32 ∧ i = .int .i64 k ∧ v = .int .u32 (clrN n m k)) (fun _ i => 32 - (intOf i).toNat)
  case atStart => exact ⟨m, Nat.le_refl _, hml, rfl, by rw [hst.out]⟩
  case round =>
    obtain ⟨k, hmk, hk, rfl, rfl⟩ := hrel
    by_cases hlt : k < 32
    · obtain ⟨hand, hvl⟩ := clr_walk n m k hmk hlt hn
      have k0 : (0 : Int) ≤ k := by omega
      have k1 : (k : Int) < 32 := by omega
      have v0 : (0 : Int) ≤ clrN n m k := by omega
      have v1 : (clrN n m k : Int) < 4294967296 := by omega
      go_wp2
      go_round
      case rel => exact ⟨k + 1, by omega, by omega, by go_num, rfl⟩
      case measure => simp [intOf]; omega
    · obtain rfl : k = 32 := by omega
      have he := clrN_end n m
      have hfl : firstN n m < 4294967296 := by
        have := clrN_le n m 32 hmk; rw [he] at this; omega
      rw [he]
      clear he
      go_wp2_with fail
      with_reducible refine (rof4_any (firstN n m) _ hfl).mono ?_
      rintro e w5 ⟨rfl, bel5⟩
      have bel6 := bel.trans (bel5.mono bel.size)
      have hb5 := (bel5.block _ hsz).trans hb4
      obtain ⟨⟨q0, q1, q2, q3⟩, f0, f1, f2, f3⟩ := cells4 hb5
      have HB := Lib.hid hb5
      clear hb5 hb4 z4 bel bel5
      simp only [adr]
      go_wp2
      have R4 := put4 (x := .int .u8 ((firstN n m : Int) / 16777216)) (y := .int .u8 ((firstN n m : Int) / 65536 % 256)) (z := .int .u8 ((firstN n m : Int) / 256 % 256)) (u := .int .u8 ((firstN n m : Int) % 256)) HB.out
      obtain ⟨⟨k0, k1, k2, k3⟩, _⟩ := cells4 R4
      clear R4
      exact bodyPost_ret (v := adr (firstN n m)) (by simp [results, Try.results26, go_sem, adr, k0, k1, k2, k3]) rfl ⟨rfl, (((bel6.setCell (by simp) _).setCell (by simp) _).setCell (by simp) _).setCell (by simp) _⟩

theorem set_walk (n m k : Nat) (h : m ≤ k) (hk : k < 32) (hm : m ≤ 32) (hn : n < 4294967296) : bits .or .u32 (setN n m k : Int) ((2 : Int) ^ (31 - k) % 4294967296) = (setN n m (k + 1) : Int) ∧ setN n m k < 4294967296 := by
  obtain ⟨h1, h2⟩ := setN_step n m k h hk hm (by omega)
  have hp : (2 : Nat) ^ (31 - k) ≤ 2 ^ 31 := Nat.pow_le_pow_right (by omega) (by omega)
  have e : ((2 : Int) ^ (31 - k) % 4294967296) = ((2 ^ (31 - k) : Nat) : Int) := by
    rw [show (2 : Int) ^ (31 - k) = ((2 ^ (31 - k) : Nat) : Int) by simp]
    generalize (2 : Nat) ^ (31 - k) = R at *
    omega
  rw [e, u32_or_nat _ _ (by omega) (by omega), h1]
  exact ⟨rfl, by omega⟩

set_option maxHeartbeats 1000000 in
theorem rlast_any (a b c d : UInt8) (bt : Int) (w : World) :
    Calls Try.prog 27 #[.agg #[.int .u8 (a.toNat : Int), .int .u8 (b.toNat : Int), .int .u8 (c.toNat : Int), .int .u8 (d.toNat : Int), .int .i64 bt]] w fun e w' => e = .returned (adr (lastN (be [a, b, c, d]) (clamp bt))) ∧ Below w.heap.size w w' := by
  have hn := be_four_lt a b c d
  have hml := clamp_le bt
  have hnum := fun W => rnum_any a b c d W
  have hbits := fun W => rbits_any bt W
  generalize be [a, b, c, d] = n at *
  generalize clamp bt = m at *
  have HNUM := Lib.hid hnum
  have HBITS := Lib.hid hbits
  clear hnum hbits
  go_enter Try.func27, Try.ntmps27
  go_wp2_with fail
  with_reducible refine (HNUM.out _).mono ?_
  rintro e w3 ⟨rfl, bel3⟩
  obtain ⟨z4, hb4, bel, hsz⟩ := first_kept bel3
  clear bel3
  go_wp2_with fail
  with_reducible refine (HBITS.out _).mono ?_
  rintro e w4 ⟨rfl, rfl⟩
  have hst := Lib.hid (setN_start n m)
  go_wp2_with fail
  go_loop [3, 4] (fun v i => ∃ k : Nat, m ≤ k ∧ k ≤ 32 ∧ i = .int .i64 k ∧ v = .int .u32 (setN n m k)) (fun _ i => 32 - (intOf i).toNat)
  case atStart => exact ⟨m, Nat.le_refl _, hml, rfl, by rw [hst.out]⟩
  case round =>
    obtain ⟨k, hmk, hk, rfl, rfl⟩ := hrel
    by_cases hlt : k < 32
    · obtain ⟨hand, hvl⟩ := set_walk n m k hmk hlt hml hn
      have k0 : (0 : Int) ≤ k := by omega
      have k1 : (k : Int) < 32 := by omega
      have v0 : (0 : Int) ≤ setN n m k := by omega
      have v1 : (setN n m k : Int) < 4294967296 := by omega
      go_wp2
      go_round
      case rel => exact ⟨k + 1, by omega, by omega, by go_num, rfl⟩
      case measure => simp [intOf]; omega
    · obtain rfl : k = 32 := by omega
      have he := setN_end n m
      have hfl : lastN n m < 4294967296 := by
        exact lastN_lt n m hml hn
      rw [he]
      clear he
      go_wp2_with fail
      with_reducible refine (rof4_any (lastN n m) _ hfl).mono ?_
      rintro e w5 ⟨rfl, bel5⟩
      have bel6 := bel.trans (bel5.mono bel.size)
      have hb5 := (bel5.block _ hsz).trans hb4
      obtain ⟨⟨q0, q1, q2, q3⟩, f0, f1, f2, f3⟩ := cells4 hb5
      have HB := Lib.hid hb5
      clear hb5 hb4 z4 bel bel5
      simp only [adr]
      go_wp2
      have R4 := put4 (x := .int .u8 ((lastN n m : Int) / 16777216)) (y := .int .u8 ((lastN n m : Int) / 65536 % 256)) (z := .int .u8 ((lastN n m : Int) / 256 % 256)) (u := .int .u8 ((lastN n m : Int) % 256)) HB.out
      obtain ⟨⟨k0, k1, k2, k3⟩, _⟩ := cells4 R4
      clear R4
      exact bodyPost_ret (v := adr (lastN n m)) (by simp [results, Try.results27, go_sem, adr, k0, k1, k2, k3]) rfl ⟨rfl, (((bel6.setCell (by simp) _).setCell (by simp) _).setCell (by simp) _).setCell (by simp) _⟩
end Go.Proofs.Ytdfobilagidmfaa
