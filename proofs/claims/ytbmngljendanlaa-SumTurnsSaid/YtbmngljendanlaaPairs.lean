/- The walk of SumPairs. -/
import Derived.Test.YtbmngljendanlaaSays
import Derived.Test.YtbmngljendanlaaMemz
namespace Go.Proofs.Ytbmngljendanlaa
open Go.RowKit

theorem i64_and1 (n : Int) : bits .and .i64 n 1 = n % 2 := by
  have hm : (BitVec.ofInt 64 1).toNat = 2 ^ 1 - 1 := by decide
  have key : (BitVec.ofInt 64 n &&& BitVec.ofInt 64 1).toNat = (n % ((2 ^ 64 : Nat) : Int)).toNat % 2 ^ 1 := by
    rw [BitVec.toNat_and, BitVec.toNat_ofInt, hm, Nat.and_two_pow_sub_one_eq_mod]
  show IntKind.i64.wrap ((BitVec.ofInt 64 n &&& BitVec.ofInt 64 1).toNat : Nat) = n % 2
  rw [key, IntKind.wrap_i64]
  omega

theorem pairs_sum (a b b' : List UInt8) (ha : a.length % 2 = 0) (hb : ws true b' = ws true b) : addI (65535 - ck a) (65535 - ck b') = nrm (ws true (a ++ b)) := by
  unfold ck
  rw [show (65535 : Int) - (65535 - (nrm (ws true a) : Int)) = (nrm (ws true a) : Nat) by omega, show (65535 : Int) - (65535 - (nrm (ws true b') : Int)) = (nrm (ws true b') : Nat) by omega]
  rw [addI_nrm _ _ (nrm_le _), Nat.add_comm, nrm_add, Nat.add_comm, ws_even a b ha, hb]
theorem ws_nought (b : List UInt8) : ws true (b ++ [0]) = ws true b := by
  rw [ws_append, ws_one]; split <;> simp

set_option maxHeartbeats 1000000 in
theorem pairs_even (A : Option Addr) (n c : Nat) (la : List UInt8) (B : Option Addr) (m d : Nat) (lb : List UInt8) (k : Nat) (w : World) (ha : Sl w A n c la) (hb : Sl w B m d lb)
    (h1 : n % 2 = 0) (h2 : n ≤ 300) (h3 : m ≤ 300) (h4 : k ≤ 50) (h5 : m % 2 = 0) :
    Calls Try.prog 8 #[.slice A n c, .slice B m d, .int .i64 k] w fun e w' => e = .returned (.bool true) ∧ Below w.heap.size w w' := by
  have n0 : (0 : Int) ≤ n := by omega
  have n1 : (n : Int) ≤ 300 := by omega
  have m0 : (0 : Int) ≤ m := by omega
  have m1 : (m : Int) ≤ 300 := by omega
  have k0 : (0 : Int) ≤ k := by omega
  have k1 : (k : Int) ≤ 50 := by omega
  have hn2 : bits .and .i64 (n : Int) 1 = 0 := by rw [i64_and1]; omega
  have hm2 : bits .and .i64 (m : Int) 1 = 0 := by rw [i64_and1]; omega
  have hf : Hid (([la, lb] : List (List UInt8)).flatten = la ++ lb) := Lib.hid (by simp)
  have hla := Lib.hid ha.1
  have hX : Hid (ck (la ++ lb) = 65535 - (nrm (ws true (la ++ lb)) : Int)) := Lib.hid rfl
  have Z : Hid (ck (la ++ List.replicate k 0) = ck la) := Lib.hid (ck_of_ws (by rw [ws_append, ws_noughts]; rfl))
  have q3 := nrm_le (ws true (la ++ lb))
  obtain ⟨i, hi, hz0, hz1, hz2⟩ := info_parts Try.info5
  have H1 := Lib.hid h1
  have H5 := Lib.hid h5
  clear h1 h5
  go_enter Try.func8, Try.ntmps8
  go_wp2_with fail
  refine (awake_any _).mono ?_
  rintro e w1 ⟨rfl, bel1⟩
  have h7 := Sls.two (ha.below bel1) (hb.below bel1)
  have bel2 := bel1.alloc bel1.size (.cells #[.slice A n c, .slice B m d] 24)
  clear bel1
  go_wp2_with fail
  with_reducible refine (many_any _ 2 2 _ _ (by unfold maxLen; omega) h7).mono ?_
  rintro e w2 ⟨rfl, hw2⟩
  rw [hf.out, hX.out]
  rw [hw2] at bel2
  clear h7 hw2
  have bel7 := bel2
  have hb7 := hb.below bel7
  have E : Hid (addI (65535 - ck la) (65535 - ck lb) = nrm (ws true (la ++ lb))) := Lib.hid (pairs_sum la lb lb (by rw [hla.out, H1.out]) rfl)
  clear bel2
  have q1 := ck_bounds la
  have q2 := ck_bounds (lb)
  obtain ⟨q1a, q1b⟩ := q1
  obtain ⟨q2a, q2b⟩ := q2
  have ha7 := ha.below bel7
  go_wp2_with fail
  with_reducible refine (of_any A n c la _ ha7).mono ?_
  rintro e w8 ⟨rfl, bw8⟩
  have hb8 := hb7.below bw8
  have bel8 := bel7.trans (bw8.mono bel7.size)
  clear hb7 bw8 bel7 ha7
  go_wp2_with fail
  with_reducible refine (of_any B m d lb _ hb8).mono ?_
  rintro e w9 ⟨rfl, bw9⟩
  have bel9 := bel8.trans (bw9.mono bel8.size)
  clear hb8 bw9 bel8
  go_wp2_with fail
  with_reducible refine (add_any _ _ _).mono ?_
  rintro e w10 ⟨rfl, rfl⟩
  rw [E.out]
  have hown := own_empty w9
  have bel3 : Below w9.heap.size w9 (w9.alloc (.cells #[] 5)) := (Below.refl _ _).alloc (Nat.le_refl _) _
  have ha3 := (ha.below bel9).below bel3
  go_wp2_with (at_builtin; refine wpList_append_bytes_if _ rfl (.tmp 56) (.tmp 57) 24 rfl w9.heap.size 5 i (.int .u8 0) Try.underlying24 hi hz0 hz1 hz2 rfl _ 0 [] rfl hown A n c la rfl ha3 ?c5 ?c6 ?_)
  case c5 => omega
  case c6 => exact bel3.size
  intro v11 w11 hown11 hg11 hat11
  have bel11 : Below w9.heap.size w9 w11 := bel3.grown hg11 bel3.size (fun k h => by simp [Value.ownBlock] at h; omega)
  have hv11 : ∀ k, v11.ownBlock = some k → w9.heap.size ≤ k := by
    intro k hk
    rcases hat11 with h | h
    · rw [h] at hk; simp [Value.ownBlock] at hk; omega
    · rw [h] at hk; simp at hk; omega
  clear hat11 hg11 hown ha3 bel3
  have hown12 : w11.ownsRow w9.heap.size 5 1 v11 n (la.map u8v) := by simpa using hown11
  clear hown11
  go_wp2_with (at_builtin; refine wpList_append_zeros_if _ rfl (.tmp 58) (.tmp 59) 24 3 rfl w9.heap.size 5 i .i64 Try.underlying24 Try.underlying3 hi hz0 hz1 hz2 _ n la rfl hown12 k rfl ?c7 ?c8 ?_)
  case c7 => omega
  case c8 => exact bel11.size
  intro v13 w13 hown13 hg13 hat13
  have bel13 : Below w9.heap.size w9 w13 := bel11.grown hg13 bel11.size hv11
  have bel14 := bel9.trans (bel13.mono bel9.size)
  clear hat13 hg13 hv11 hown12 bel11 bel13 bel9
  have hown14 : w13.ownsRow w9.heap.size 5 1 v13 (n + k) ((la ++ List.replicate k 0).map u8v) := by rw [List.map_append, List.map_replicate]; exact hown13
  obtain ⟨C, f, rfl, hc14⟩ := Sl.of_own hown14
  clear hown13 hown14
  have ha14 := ha.below bel14
  go_wp2_with fail
  with_reducible refine (of_any C _ f _ _ hc14).mono ?_
  rintro e w15 ⟨rfl, bw15⟩
  have ha15 := ha14.below bw15
  have bel15 := bel14.trans (bw15.mono bel14.size)
  clear ha14 hc14 bw15 bel14
  go_wp2_with fail
  with_reducible refine (of_any A n c la _ ha15).mono ?_
  rintro e w16 ⟨rfl, bw16⟩
  rw [Z.out]
  have bel16 := bel15.trans (bw16.mono bel15.size)
  go_wp2
  go_ret
  exact ⟨rfl, bel16⟩

set_option maxHeartbeats 1000000 in
theorem pairs_odd (A : Option Addr) (n c : Nat) (la : List UInt8) (B : Option Addr) (m d : Nat) (lb : List UInt8) (k : Nat) (w : World) (ha : Sl w A n c la) (hb : Sl w B m d lb)
    (h1 : n % 2 = 0) (h2 : n ≤ 300) (h3 : m ≤ 300) (h4 : k ≤ 50) (h5 : m % 2 = 1) :
    Calls Try.prog 8 #[.slice A n c, .slice B m d, .int .i64 k] w fun e w' => e = .returned (.bool true) ∧ Below w.heap.size w w' := by
  have n0 : (0 : Int) ≤ n := by omega
  have n1 : (n : Int) ≤ 300 := by omega
  have m0 : (0 : Int) ≤ m := by omega
  have m1 : (m : Int) ≤ 300 := by omega
  have k0 : (0 : Int) ≤ k := by omega
  have k1 : (k : Int) ≤ 50 := by omega
  have hn2 : bits .and .i64 (n : Int) 1 = 0 := by rw [i64_and1]; omega
  have hm2 : bits .and .i64 (m : Int) 1 = 1 := by rw [i64_and1]; omega
  have hf : Hid (([la, lb] : List (List UInt8)).flatten = la ++ lb) := Lib.hid (by simp)
  have hla := Lib.hid ha.1
  have hX : Hid (ck (la ++ lb) = 65535 - (nrm (ws true (la ++ lb)) : Int)) := Lib.hid rfl
  have Z : Hid (ck (la ++ List.replicate k 0) = ck la) := Lib.hid (ck_of_ws (by rw [ws_append, ws_noughts]; rfl))
  have q3 := nrm_le (ws true (la ++ lb))
  obtain ⟨i, hi, hz0, hz1, hz2⟩ := info_parts Try.info5
  have H1 := Lib.hid h1
  have H5 := Lib.hid h5
  clear h1 h5
  go_enter Try.func8, Try.ntmps8
  go_wp2_with fail
  refine (awake_any _).mono ?_
  rintro e w1 ⟨rfl, bel1⟩
  have h7 := Sls.two (ha.below bel1) (hb.below bel1)
  have bel2 := bel1.alloc bel1.size (.cells #[.slice A n c, .slice B m d] 24)
  clear bel1
  go_wp2_with fail
  with_reducible refine (many_any _ 2 2 _ _ (by unfold maxLen; omega) h7).mono ?_
  rintro e w2 ⟨rfl, hw2⟩
  rw [hf.out, hX.out]
  rw [hw2] at bel2
  clear h7 hw2
  have hb2 := hb.below bel2
  have hown := own_empty w2
  have bel3 : Below w2.heap.size w2 (w2.alloc (.cells #[] 5)) := (Below.refl _ _).alloc (Nat.le_refl _) _
  have hb3 := hb2.below bel3
  go_wp2_with (at_builtin; refine wpList_append_bytes _ rfl (.tmp 40) (.tmp 41) 24 rfl w2.heap.size 5 i (.int .u8 0) Try.underlying24 hi hz0 hz1 hz2 rfl _ 0 [] rfl hown B m d lb rfl hb3 ?c1 ?c2 ?_)
  case c1 => omega
  case c2 => exact bel3.size
  intro v4 w4 hown4 hg4 hat4
  have bel4 : Below w2.heap.size w2 w4 := bel3.grown hg4 bel3.size (fun k h => by simp [Value.ownBlock] at h; omega)
  have hv4 : ∀ k, v4.ownBlock = some k → w2.heap.size ≤ k := by
    intro k hk
    rcases hat4 with h | h
    · rw [h] at hk; simp [Value.ownBlock] at hk; omega
    · rw [h] at hk; simp at hk; omega
  clear hat4 hg4 hown hb2 hb3 bel3
  have hm := Sl.made w4 5 [0] (by simp [maxLen])
  have hown5 := hown4.alloc (.cells (([0] : List UInt8).map u8v).toArray 5)
  have bel5 := bel4.alloc bel4.size (.cells (([0] : List UInt8).map u8v).toArray 5)
  simp only [List.length_cons, List.length_nil, Nat.zero_add] at hm
  clear hown4 bel4
  go_wp2_with (at_builtin; refine wpList_append_bytes _ rfl (.tmp 42) (.tmp 43) 24 rfl w2.heap.size 5 i (.int .u8 0) Try.underlying24 hi hz0 hz1 hz2 rfl _ m lb rfl hown5 _ 1 1 [0] rfl hm ?c3 ?c4 ?_)
  case c3 => omega
  case c4 => exact bel5.size
  intro v6 w6 hown6 hg6 hat6
  have bel6 : Below w2.heap.size w2 w6 := bel5.grown hg6 bel5.size hv4
  have bel7 := bel2.trans (bel6.mono bel2.size)
  clear hat6 hg6 hv4 hown5 hm bel5 bel6 bel2
  have hown7 : w6.ownsRow w2.heap.size 5 1 v6 (m + 1) ((lb ++ [0]).map u8v) := by rw [List.map_append]; exact hown6
  obtain ⟨B', d', rfl, hb7⟩ := Sl.of_own hown7
  clear hown6 hown7
  have E : Hid (addI (65535 - ck la) (65535 - ck (lb ++ [0])) = nrm (ws true (la ++ lb))) := Lib.hid (pairs_sum la lb (lb ++ [0]) (by rw [hla.out, H1.out]) (ws_nought lb))
  have q1 := ck_bounds la
  have q2 := ck_bounds (lb ++ [0])
  obtain ⟨q1a, q1b⟩ := q1
  obtain ⟨q2a, q2b⟩ := q2
  have ha7 := ha.below bel7
  go_wp2_with fail
  with_reducible refine (of_any A n c la _ ha7).mono ?_
  rintro e w8 ⟨rfl, bw8⟩
  have hb8 := hb7.below bw8
  have bel8 := bel7.trans (bw8.mono bel7.size)
  clear hb7 bw8 bel7 ha7
  go_wp2_with fail
  with_reducible refine (of_any B' (m + 1) d' (lb ++ [0]) _ hb8).mono ?_
  rintro e w9 ⟨rfl, bw9⟩
  have bel9 := bel8.trans (bw9.mono bel8.size)
  clear hb8 bw9 bel8
  go_wp2_with fail
  with_reducible refine (add_any _ _ _).mono ?_
  rintro e w10 ⟨rfl, rfl⟩
  rw [E.out]
  have hown := own_empty w9
  have bel3 : Below w9.heap.size w9 (w9.alloc (.cells #[] 5)) := (Below.refl _ _).alloc (Nat.le_refl _) _
  have ha3 := (ha.below bel9).below bel3
  go_wp2_with (at_builtin; refine wpList_append_bytes_if _ rfl (.tmp 56) (.tmp 57) 24 rfl w9.heap.size 5 i (.int .u8 0) Try.underlying24 hi hz0 hz1 hz2 rfl _ 0 [] rfl hown A n c la rfl ha3 ?c5 ?c6 ?_)
  case c5 => omega
  case c6 => exact bel3.size
  intro v11 w11 hown11 hg11 hat11
  have bel11 : Below w9.heap.size w9 w11 := bel3.grown hg11 bel3.size (fun k h => by simp [Value.ownBlock] at h; omega)
  have hv11 : ∀ k, v11.ownBlock = some k → w9.heap.size ≤ k := by
    intro k hk
    rcases hat11 with h | h
    · rw [h] at hk; simp [Value.ownBlock] at hk; omega
    · rw [h] at hk; simp at hk; omega
  clear hat11 hg11 hown ha3 bel3
  have hown12 : w11.ownsRow w9.heap.size 5 1 v11 n (la.map u8v) := by simpa using hown11
  clear hown11
  go_wp2_with (at_builtin; refine wpList_append_zeros_if _ rfl (.tmp 58) (.tmp 59) 24 3 rfl w9.heap.size 5 i .i64 Try.underlying24 Try.underlying3 hi hz0 hz1 hz2 _ n la rfl hown12 k rfl ?c7 ?c8 ?_)
  case c7 => omega
  case c8 => exact bel11.size
  intro v13 w13 hown13 hg13 hat13
  have bel13 : Below w9.heap.size w9 w13 := bel11.grown hg13 bel11.size hv11
  have bel14 := bel9.trans (bel13.mono bel9.size)
  clear hat13 hg13 hv11 hown12 bel11 bel13 bel9
  have hown14 : w13.ownsRow w9.heap.size 5 1 v13 (n + k) ((la ++ List.replicate k 0).map u8v) := by rw [List.map_append, List.map_replicate]; exact hown13
  obtain ⟨C, f, rfl, hc14⟩ := Sl.of_own hown14
  clear hown13 hown14
  have ha14 := ha.below bel14
  go_wp2_with fail
  with_reducible refine (of_any C _ f _ _ hc14).mono ?_
  rintro e w15 ⟨rfl, bw15⟩
  have ha15 := ha14.below bw15
  have bel15 := bel14.trans (bw15.mono bel14.size)
  clear ha14 hc14 bw15 bel14
  go_wp2_with fail
  with_reducible refine (of_any A n c la _ ha15).mono ?_
  rintro e w16 ⟨rfl, bw16⟩
  rw [Z.out]
  have bel16 := bel15.trans (bw16.mono bel15.size)
  go_wp2
  go_ret
  exact ⟨rfl, bel16⟩


theorem sumPairs_walk (A : Option Addr) (n c : Nat) (la : List UInt8) (B : Option Addr) (m d : Nat) (lb : List UInt8) (k : Int) (w : World) (ha : Sl w A n c la) (hb : Sl w B m d lb) :
    Calls Try.prog 8 #[.slice A n c, .slice B m d, .int .i64 k] w fun e w' => e = .returned (.bool true) ∧ Below w.heap.size w w' := by
  have n0 : (0 : Int) ≤ n := by omega
  have m0 : (0 : Int) ≤ m := by omega
  have n9 := ha.2.1
  have n8 := ha.2.2.1
  have m9 := hb.2.1
  have m8 := hb.2.2.1
  unfold maxLen at n8 m8
  by_cases hg : n % 2 = 0 ∧ n ≤ 300 ∧ m ≤ 300 ∧ 0 ≤ k ∧ k ≤ 50
  · obtain ⟨h1, h2, h3, h4, h5⟩ := hg
    obtain ⟨k, rfl⟩ := Int.eq_ofNat_of_zero_le h4
    rcases Nat.mod_two_eq_zero_or_one m with h | h
    · exact pairs_even A n c la B m d lb k w ha hb h1 h2 h3 (by omega) h
    · exact pairs_odd A n c la B m d lb k w ha hb h1 h2 h3 (by omega) h
  · clear ha hb
    rcases (by omega : n % 2 = 1 ∨ (n % 2 = 0 ∧ 300 < n) ∨ (n % 2 = 0 ∧ n ≤ 300 ∧ 300 < m) ∨ (n % 2 = 0 ∧ n ≤ 300 ∧ m ≤ 300 ∧ k < 0) ∨ (n % 2 = 0 ∧ n ≤ 300 ∧ m ≤ 300 ∧ 0 ≤ k ∧ 50 < k)) with h | h | h | h | h
    · have g1 : bits .and .i64 (n : Int) 1 = 1 := by rw [i64_and1]; omega
      clear hg h n9 n8 m9 m8
      go_enter Try.func8, Try.ntmps8
      go_wp2_with fail
      refine (awake_any _).mono ?_
      rintro e w1 ⟨rfl, bel1⟩
      go_wp2
      go_ret
      exact ⟨rfl, bel1⟩
    · have g1 : bits .and .i64 (n : Int) 1 = 0 := by rw [i64_and1]; omega
      have g2 : (300 : Int) < n := by omega
      clear hg h n9 n8 m9 m8
      go_enter Try.func8, Try.ntmps8
      go_wp2_with fail
      refine (awake_any _).mono ?_
      rintro e w1 ⟨rfl, bel1⟩
      go_wp2
      go_ret
      exact ⟨rfl, bel1⟩
    · have g1 : bits .and .i64 (n : Int) 1 = 0 := by rw [i64_and1]; omega
      have g2 : (n : Int) ≤ 300 := by omega
      have g3 : (300 : Int) < m := by omega
      clear hg h n9 n8 m9 m8
      go_enter Try.func8, Try.ntmps8
      go_wp2_with fail
      refine (awake_any _).mono ?_
      rintro e w1 ⟨rfl, bel1⟩
      go_wp2
      go_ret
      exact ⟨rfl, bel1⟩
    · have g1 : bits .and .i64 (n : Int) 1 = 0 := by rw [i64_and1]; omega
      have g2 : (n : Int) ≤ 300 := by omega
      have g3 : (m : Int) ≤ 300 := by omega
      have g4 : k < 0 := by omega
      clear hg h n9 n8 m9 m8
      go_enter Try.func8, Try.ntmps8
      go_wp2_with fail
      refine (awake_any _).mono ?_
      rintro e w1 ⟨rfl, bel1⟩
      go_wp2
      go_ret
      exact ⟨rfl, bel1⟩
    · have g1 : bits .and .i64 (n : Int) 1 = 0 := by rw [i64_and1]; omega
      have g2 : (n : Int) ≤ 300 := by omega
      have g3 : (m : Int) ≤ 300 := by omega
      have g4 : 0 ≤ k := by omega
      have g5 : 50 < k := by omega
      clear hg h n9 n8 m9 m8
      go_enter Try.func8, Try.ntmps8
      go_wp2_with fail
      refine (awake_any _).mono ?_
      rintro e w1 ⟨rfl, bel1⟩
      go_wp2
      go_ret
      exact ⟨rfl, bel1⟩
end Go.Proofs.Ytbmngljendanlaa
