/- The walk of SumSays. -/
import Derived.Test.YtbmngljendanlaaSuml
namespace Go.Proofs.Ytbmngljendanlaa
open Go.RowKit

theorem belowN {B : Nat} {a w : World} (h : Below B a w) (q : Nat) : Below B a (w.drewN q) := ⟨h.os, h.tape, h.output, h.size, h.block⟩

/-- Turn and the reference's Turn, whatever the lengths. -/
theorem turn_any (s : Int) (A B : Option Addr) (n c m d : Nat) (o t : List UInt8) (w : World) (hn : n ≤ 1000) (hm : m ≤ 1000) (ho : Sl w A n c o) (ht : Sl w B m d t) :
    Calls Try.prog 13 #[.int .i64 s, .slice A n c, .slice B m d] w fun e w' => e = .returned (.int .i64 (tk s o t)) ∧ Below w.heap.size w w' := by
  by_cases h : n ≠ m ∨ n % 2 = 1
  · have e : tk s o t = s := by unfold tk; rw [if_pos (by have := ho.1; have := ht.1; omega)]
    rw [e]
    refine (turn_off s A B n c m d w (by omega) (by omega) h).mono ?_
    rintro e w1 ⟨rfl, rfl⟩
    exact ⟨rfl, Below.refl _ _⟩
  · obtain rfl : n = m := by omega
    exact turn_on s A B n c d o t w hn ho ht (by omega)
theorem rturn_any (s : Int) (A B : Option Addr) (n c m d : Nat) (o t : List UInt8) (w : World) (hn : n ≤ 1000) (hm : m ≤ 1000) (ho : Sl w A n c o) (ht : Sl w B m d t) :
    Calls Try.prog 18 #[.int .i64 s, .slice A n c, .slice B m d] w fun e w' => e = .returned (.int .i64 (tk s o t)) ∧ ∃ q, w' = w.drewN q := by
  by_cases h : n ≠ m ∨ n % 2 = 1
  · have e : tk s o t = s := by unfold tk; rw [if_pos (by have := ho.1; have := ht.1; omega)]
    rw [e]
    refine (rturn_off s A B n c m d w (by omega) (by omega) h).mono ?_
    rintro e w1 ⟨rfl, rfl⟩
    exact ⟨rfl, 0, rfl⟩
  · obtain rfl : n = m := by omega
    exact rturn_on s A B n c d o t w hn ho ht (by omega)

set_option maxHeartbeats 1000000 in
theorem sumSays_walk (A : Option Addr) (n c : Nat) (la : List UInt8) (B : Option Addr) (m d : Nat) (lb : List UInt8) (C : Option Addr) (k f : Nat) (lc : List UInt8) (s t : Int) (w : World) (ha : Sl w A n c la) (hb : Sl w B m d lb) (hc : Sl w C k f lc) :
    Calls Try.prog 4 #[.slice A n c, .slice B m d, .slice C k f, .int .i64 s, .int .i64 t] w fun e w' => e = .returned (.bool true) ∧ Below w.heap.size w w' := by
  have n0 : (0 : Int) ≤ n := by omega
  have m0 : (0 : Int) ≤ m := by omega
  have k0 : (0 : Int) ≤ k := by omega
  have n9 := ha.2.1
  have n8 := ha.2.2.1
  have m9 := hb.2.1
  have m8 := hb.2.2.1
  have k9 := hc.2.1
  have k8 := hc.2.2.1
  unfold maxLen at n8 m8 k8
  by_cases hg : n ≤ 600 ∧ m ≤ 200 ∧ k ≤ 200
  · obtain ⟨g1, g2, g3⟩ := hg
    have n1 : (n : Int) ≤ 600 := by omega
    have m1 : (m : Int) ≤ 200 := by omega
    have k1 : (k : Int) ≤ 200 := by omega
    have hf : Hid (([la, lb] : List (List UInt8)).flatten = la ++ lb) := Lib.hid (by simp)
    clear n9 n8 m9 m8 k9 k8
    obtain ⟨i, hi, hz0, hz1, hz2⟩ := info_parts Try.info5
    go_enter Try.func4, Try.ntmps4
    go_wp2_with fail
    refine (awake_any _).mono ?_
    rintro e w1 ⟨rfl, bel1⟩
    have hown := own_empty w1
    have bel2 : Below w1.heap.size w1 (w1.alloc (.cells #[] 5)) := (Below.refl _ _).alloc (Nat.le_refl _) _
    have ha2 := (ha.below bel1).below bel2
    have hb2 := (hb.below bel1).below bel2
    go_wp2_with (at_builtin; refine wpList_append_bytes _ rfl (.tmp 27) (.tmp 28) 24 rfl w1.heap.size 5 i (.int .u8 0) Try.underlying24 hi hz0 hz1 hz2 rfl _ 0 [] rfl hown A n c la rfl ha2 ?c1 ?c2 ?_)
    case c1 => omega
    case c2 => exact bel2.size
    intro v3 w3 hown3 hg3 hat3
    have bel3 : Below w1.heap.size w1 w3 := bel2.grown hg3 bel2.size (fun k h => by simp [Value.ownBlock] at h; omega)
    have hv3 : ∀ k, v3.ownBlock = some k → w1.heap.size ≤ k := by
      intro k hk
      rcases hat3 with h | h
      · rw [h] at hk; simp [Value.ownBlock] at hk; omega
      · rw [h] at hk; simp at hk; omega
    have hb3 := (hb.below bel1).below bel3
    clear hat3 hg3 hown ha2 hb2 bel2
    go_wp2_with (at_builtin; refine wpList_append_bytes _ rfl (.tmp 29) (.tmp 30) 24 rfl w1.heap.size 5 i (.int .u8 0) Try.underlying24 hi hz0 hz1 hz2 rfl _ n la rfl hown3 B m d lb rfl hb3 ?c3 ?c4 ?_)
    case c3 => omega
    case c4 => exact bel3.size
    intro v4 w4 hown4 hg4 hat4
    have bel4 : Below w1.heap.size w1 w4 := bel3.grown hg4 bel3.size hv3
    have bel5 := bel1.trans (bel4.mono bel1.size)
    clear hat4 hg4 hv3 hown3 hb3 bel3
    rw [← List.map_append] at hown4
    obtain ⟨D, cd, rfl, hall⟩ := Sl.of_own hown4
    have ha4 := ha.below bel5
    have hb4 := hb.below bel5
    clear hown4 bel4 bel1
    -- Of of a, both
    go_wp2_with fail
    with_reducible refine (of_any A n c la _ ha4).mono ?_
    rintro e w5 ⟨rfl, bw5⟩
    have ha5 := ha4.below bw5
    have hb5 := hb4.below bw5
    have hall5 := hall.below bw5
    have bel6 := bel5.trans (bw5.mono bel5.size)
    clear ha4 hb4 hall bel5 bw5
    go_wp2_with fail
    with_reducible refine (rof_any A n c la _ ha5 (by omega)).mono ?_
    rintro e w6 ⟨rfl, rfl⟩
    -- Many of a and b
    have h7 := Sls.two ha5 hb5
    have bw7 := (Below.refl w5.heap.size w5).alloc (Nat.le_refl _) (.cells #[.slice A n c, .slice B m d] 24)
    have hall7 := hall5.below bw7
    have bel7 := bel6.alloc bel6.size (.cells #[.slice A n c, .slice B m d] 24)
    clear ha5 hb5 hall5 bel6 bw7
    go_wp2_with fail
    with_reducible refine (many_any _ 2 2 _ _ (by unfold maxLen; omega) h7).mono ?_
    rintro e w8 ⟨rfl, rfl⟩
    rw [hf.out]
    go_wp2_with fail
    with_reducible refine (rof_any D (n + m) cd _ _ hall7 (by omega)).mono ?_
    rintro e w9 ⟨rfl, rfl⟩
    clear hall7 h7
    go_wp2_with fail
    with_reducible refine (add_any _ _ _).mono ?_
    rintro e w9 ⟨rfl, rfl⟩
    go_wp2_with fail
    with_reducible refine (radd_any _ _ _).mono ?_
    rintro e w9 ⟨rfl, rfl⟩
    have hb9 := hb.below bel7
    have hc9 := hc.below bel7
    go_wp2_with fail
    with_reducible refine (turn_any s B C m d k f lb lc _ (by omega) (by omega) hb9 hc9).mono ?_
    rintro e w10 ⟨rfl, bw10⟩
    have bel10 := bel7.trans (bw10.mono bel7.size)
    have hb10 := hb.below bel10
    have hc10 := hc.below bel10
    clear hb9 hc9 bel7 bw10
    go_wp2_with fail
    with_reducible refine (rturn_any s B C m d k f lb lc _ (by omega) (by omega) hb10 hc10).mono ?_
    rintro e w11 ⟨rfl, q, rfl⟩
    have bel11 := belowN bel10 q
    have ha11 := ha.below bel11
    clear hb10 hc10 bel10
    by_cases h0 : ck la = 0
    · have h0' := Lib.hid h0
      clear h0
      go_wp2_with fail
      with_reducible refine (fits_yes A n c la _ ha11 h0'.out).mono ?_
      rintro e w12 ⟨rfl, bw12⟩
      have bel12 := bel11.trans (bw12.mono bel11.size)
      have ha12 := ha.below bel12
      go_wp2_with fail
      with_reducible refine (rof_any A n c la _ ha12 (by omega)).mono ?_
      rintro e w13 ⟨rfl, rfl⟩
      rw [h0'.out]
      go_wp2
      go_ret
      exact ⟨rfl, bel12⟩
    · have h0' := Lib.hid h0
      have h1 : ((ck la) == 0) = false := by simpa using h0
      clear h0
      go_wp2_with fail
      with_reducible refine (fits_no A n c la _ ha11 h0'.out).mono ?_
      rintro e w12 ⟨rfl, bw12⟩
      have bel12 := bel11.trans (bw12.mono bel11.size)
      have ha12 := ha.below bel12
      go_wp2_with fail
      with_reducible refine (rof_any A n c la _ ha12 (by omega)).mono ?_
      rintro e w13 ⟨rfl, rfl⟩
      go_wp2
      go_ret
      exact ⟨rfl, bel12⟩
  · clear n9 m9 k9 ha hb hc
    by_cases h1 : 600 < n
    · have b1 : (600 : Int) < n := by omega
      clear hg
      go_enter Try.func4, Try.ntmps4
      go_wp2_with fail
      refine (awake_any _).mono ?_
      rintro e w1 ⟨rfl, bel1⟩
      go_wp2
      go_ret
      exact ⟨rfl, bel1⟩
    · have b1 : (n : Int) ≤ 600 := by omega
      by_cases h2 : 200 < m
      · have b2 : (200 : Int) < m := by omega
        clear hg
        go_enter Try.func4, Try.ntmps4
        go_wp2_with fail
        refine (awake_any _).mono ?_
        rintro e w1 ⟨rfl, bel1⟩
        go_wp2
        go_ret
        exact ⟨rfl, bel1⟩
      · have b2 : (m : Int) ≤ 200 := by omega
        have b3 : (200 : Int) < k := by omega
        clear hg
        go_enter Try.func4, Try.ntmps4
        go_wp2_with fail
        refine (awake_any _).mono ?_
        rintro e w1 ⟨rfl, bel1⟩
        go_wp2
        go_ret
        exact ⟨rfl, bel1⟩
end Go.Proofs.Ytbmngljendanlaa
