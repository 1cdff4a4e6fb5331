/- The walks of the statements of layer 1. -/
import Derived.Test.YtafiegmmfmcedaaWalkw
namespace Go.Proofs.Ytafiegmmfmcedaa
open Go.RowKit

theorem made9 (w : World) : Sl (w.alloc (.cells #[.int .u8 9] 5)) (some ⟨w.heap.size, 0, none⟩) 1 1 [9] := Sl.made w 5 [9] (by simp [maxLen])

theorem known_walk (w : World) : Calls Try.prog 3 #[] w fun e w' => e = .returned (.bool true) ∧ Below w.heap.size w w' := by
  go_enter Try.func3, Try.ntmps3
  go_wp2_with fail
  refine (awake_any _).mono ?_
  rintro e w1 ⟨rfl, bel1⟩
  have hm1 := made9 w1
  have bel1a := bel1.alloc bel1.size (.cells #[.int .u8 9] 5)
  go_wp2_with fail
  refine (read_any _ 1 1 _ _ hm1 (by omega)).mono ?_
  rintro e w2 ⟨g, rfl, hr2, bel2, hg2⟩
  have bel2a := bel1a.trans (bel2.mono bel1a.size)
  have hgw : w.heap.size ≤ g := Nat.le_trans bel1a.size hg2
  clear hm1 bel1 bel1a bel2 hg2
  go_wp2_with fail
  refine (bytes_no g _ _ (-1) _ hr2 (by omega)).mono ?_
  rintro e w3 ⟨A3, c3, rfl, hx, hr3, hg3⟩
  have bel3 : Below w.heap.size w w3 := bel2a.grown hg3 bel2a.size (fun k h => by cases h; exact hgw)
  have hm3 := made9 w3
  have bel3a := bel3.alloc bel3.size (.cells #[.int .u8 9] 5)
  have bel3b := (Below.refl w3.heap.size w3).alloc (Nat.le_refl _) (.cells #[.int .u8 9] 5)
  clear bel2a hg3 hr2
  go_wp2_with fail
  refine (read_any _ 1 1 _ _ hm3 (by omega)).mono ?_
  rintro e w4 ⟨s, rfl, hs4, bel4, hsg⟩
  have bel4a := bel3a.trans (bel4.mono bel3a.size)
  have hr4 := hr3.below (bel3b.trans (bel4.mono bel3b.size))
  have hsw : w.heap.size ≤ s := Nat.le_trans bel3a.size hsg
  have hne : g ≠ s := by have := hr3.lt; have := bel3b.size; omega
  clear hm3 bel3 bel3a bel3b bel4 hsg hr3
  go_wp2_with fail
  refine (bytes_yes s _ _ 0 _ hs4 (by simp) (by omega)).mono ?_
  rintro e w5 ⟨A5, c5, rfl, hy, hs5, hg5⟩
  have hr5 := hr4.far hs4 hne hg5
  have bel5 : Below w.heap.size w w5 := bel4a.grown hg5 bel4a.size (fun k h => by cases h; exact hsw)
  clear bel4a hg5 hs4 hr4
  go_wp2_with fail
  refine (short_any g _ _ _ hr5).mono ?_
  rintro e w6 ⟨rfl, rfl⟩
  go_wp2_with fail
  refine (short_any s _ _ _ hs5).mono ?_
  rintro e w6 ⟨rfl, rfl⟩
  go_wp2_with fail
  refine (u32_no s _ _ _ hs5 (by simp)).mono ?_
  rintro e w6 ⟨rfl, hs6, hg6⟩
  have bel6 : Below w.heap.size w w6 := bel5.grown hg6 bel5.size (fun k h => by cases h; exact hsw)
  clear bel5 hg6 hs5 hr5
  go_wp2_with fail
  refine (short_any s _ _ _ hs6).mono ?_
  rintro e w7 ⟨rfl, rfl⟩
  go_wp2_with fail
  refine (w16_any none 0 0 [] 65537 _ (Sl.nil _) (by omega)).mono ?_
  rintro e w7 ⟨A7, c7, rfl, h7, bel7⟩
  have bel7a := bel6.trans (bel7.mono bel6.size)
  go_wp2_with fail
  refine (w32_any A7 2 c7 _ 2147483648 _ (by omega) (by omega) h7 (by omega)).mono ?_
  rintro e w8 ⟨A8, c8, rfl, h8, bel8⟩
  have bel8a := bel7a.trans (bel8.mono bel7a.size)
  have hstr := h8.str (P := Try.prog) 25 5 9 Try.underlying25 Try.underlying5 Try.underlying9
  rw [show ([] ++ two 65537 ++ four 2147483648 : List UInt8) = [0, 1, 128, 0, 0, 0] by decide +kernel] at hstr
  clear h8 h7
  go_wp2
  go_ret
  exact ⟨rfl, bel8a⟩

/-- OctetParts. -/
theorem parts_walk (A : Option Addr) (n c : Nat) (l : List UInt8) (k : Int) (w : World) (hl : Sl w A n c l) :
    Calls Try.prog 6 #[.slice A n c, .int .i64 k] w fun e w' => e = .returned (.bool true) ∧ Below w.heap.size w w' := by
  have hlen := hl.1
  have hcm := hl.2.1
  have hmx := hl.2.2.1
  unfold maxLen at hmx
  by_cases hg : n ≤ 300 ∧ 0 ≤ k ∧ k ≤ n
  · obtain ⟨g1, g2, g3⟩ := hg
    obtain ⟨k, rfl⟩ := Int.eq_ofNat_of_zero_le g2
    have b1 : (n : Int) ≤ 300 := by omega
    have b0 : (0 : Int) ≤ n := by omega
    have b2 : 0 ≤ (n : Int) - k := by omega
    clear hcm hmx
    go_enter Try.func6, Try.ntmps6
    go_wp2_with fail
    refine (awake_any _).mono ?_
    rintro e w1 ⟨rfl, bel1⟩
    have hl1 := hl.below bel1
    go_wp2_with fail
    refine (read_any A n c l _ hl1 (by omega)).mono ?_
    rintro e w2 ⟨g, rfl, hr2, bel2, hgs⟩
    have bel2a := bel1.trans (bel2.mono bel1.size)
    have hl2 := hl.below bel2a
    have hgw : w.heap.size ≤ g := Nat.le_trans bel1.size hgs
    clear hl1 hgs bel2 bel1
    go_wp2_with fail
    refine (bytes_yes g _ _ k _ hr2 (by omega) (by omega)).mono ?_
    rintro e w3 ⟨A3, c3, rfl, hx, hr3, hg3⟩
    have hl3 := hl2.far hr2 hg3
    have bel3 : Below w.heap.size w w3 := bel2a.grown hg3 bel2a.size (fun k h => by cases h; exact hgw)
    clear bel2a hg3 hr2 hl2
    go_wp2_with fail
    rw [show (n : Int) - k = ((n - k : Nat) : Int) by omega]
    refine (bytes_yes g _ _ (n - k) _ hr3 (by rw [List.length_drop]; omega) (by omega)).mono ?_
    rintro e w4 ⟨A4, c4, rfl, hy, hr4, hg4⟩
    have hl4 := hl3.far hr3 hg4
    have hx4 := hx.far hr3 hg4
    have bel4 : Below w.heap.size w w4 := bel3.grown hg4 bel3.size (fun k h => by cases h; exact hgw)
    rw [List.take_of_length_le (by rw [List.length_drop]; omega)] at hy
    rw [List.drop_drop, List.drop_of_length_le (by omega)] at hr4
    have s1 := hx4.str (P := Try.prog) 25 5 9 Try.underlying25 Try.underlying5 Try.underlying9
    have s2 := hy.str (P := Try.prog) 25 5 9 Try.underlying25 Try.underlying5 Try.underlying9
    have s3 := hl4.str (P := Try.prog) 25 5 9 Try.underlying25 Try.underlying5 Try.underlying9
    clear hl3 hx hr3 hg4 bel3
    have s4 := cat_bytes (l.take k) (l.drop k)
    rw [List.take_append_drop] at s4
    go_wp2_with fail
    refine (short_any g _ _ _ hr4).mono ?_
    rintro e w5 ⟨rfl, rfl⟩
    go_wp2_with fail
    refine (left_any g _ _ _ hr4).mono ?_
    rintro e w5 ⟨rfl, rfl⟩
    go_wp2_with fail
    refine (u8_no g _ _ _ hr4 (by simp)).mono ?_
    rintro e w5 ⟨rfl, hr5, hg5⟩
    have bel5 : Below w.heap.size w w5 := bel4.grown hg5 bel4.size (fun k h => by cases h; exact hgw)
    clear bel4 hg5 hr4
    go_wp2_with fail
    refine (short_any g _ _ _ hr5).mono ?_
    rintro e w6 ⟨rfl, rfl⟩
    go_wp2
    go_ret
    exact ⟨rfl, bel5⟩
  · clear hcm hlen hl
    by_cases h1 : 300 < n
    · have b1 : (300 : Int) < n := by omega
      go_enter Try.func6, Try.ntmps6
      go_wp2_with fail
      refine (awake_any _).mono ?_
      rintro e w1 ⟨rfl, bel1⟩
      go_wp2
      go_ret
      exact ⟨rfl, bel1⟩
    · have b1 : (n : Int) ≤ 300 := by omega
      by_cases h2 : k < 0
      · clear hg
        go_enter Try.func6, Try.ntmps6
        go_wp2_with fail
        refine (awake_any _).mono ?_
        rintro e w1 ⟨rfl, bel1⟩
        go_wp2
        go_ret
        exact ⟨rfl, bel1⟩
      · have b2 : (n : Int) < k := by omega
        clear hg
        go_enter Try.func6, Try.ntmps6
        go_wp2_with fail
        refine (awake_any _).mono ?_
        rintro e w1 ⟨rfl, bel1⟩
        go_wp2
        go_ret
        exact ⟨rfl, bel1⟩

end Go.Proofs.Ytafiegmmfmcedaa
