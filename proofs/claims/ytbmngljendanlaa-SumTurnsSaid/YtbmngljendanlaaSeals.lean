/- The walk of SumSeals. -/
import Derived.Test.YtbmngljendanlaaPairs
namespace Go.Proofs.Ytbmngljendanlaa
open Go.RowKit

theorem i64_and7 (n : Int) : bits .and .i64 n 7 = n % 8 := by
  have hm : (BitVec.ofInt 64 7).toNat = 2 ^ 3 - 1 := by decide
  have key : (BitVec.ofInt 64 n &&& BitVec.ofInt 64 7).toNat = (n % ((2 ^ 64 : Nat) : Int)).toNat % 2 ^ 3 := by
    rw [BitVec.toNat_and, BitVec.toNat_ofInt, hm, Nat.and_two_pow_sub_one_eq_mod]
  show IntKind.i64.wrap ((BitVec.ofInt 64 n &&& BitVec.ofInt 64 7).toNat : Nat) = n % 8
  rw [key, IntKind.wrap_i64]
  omega

theorem xor_u8 (x y : Nat) (hx : x < 256) (hy : y < 256) : bits .xor .u8 (x : Int) (y : Int) = ((x ^^^ y : Nat) : Int) := by
  show IntKind.u8.wrap ((BitVec.ofInt 8 (x : Int) ^^^ BitVec.ofInt 8 (y : Int)).toNat : Int) = _
  rw [BitVec.toNat_xor, BitVec.ofInt_natCast, BitVec.ofInt_natCast, BitVec.toNat_ofNat, BitVec.toNat_ofNat, Nat.mod_eq_of_lt (by omega), Nat.mod_eq_of_lt (by omega)]
  have h : x ^^^ y < 2 ^ 8 := Nat.xor_lt_two_pow (by omega) (by omega)
  generalize x ^^^ y = z at *
  simp [IntKind.wrap, IntKind.signed, IntKind.bits]
  omega
theorem xor_bit (x : UInt8) (r : Nat) (hr : r < 8) : ∃ y : UInt8, y.toNat = x.toNat ^^^ 2 ^ r ∧ bits .xor .u8 (x.toNat : Int) ((2 : Int) ^ r % 256) = (y.toNat : Int) := by
  have hq : (2 : Nat) ^ r < 256 := by
    have : (2 : Nat) ^ r ≤ 2 ^ 7 := Nat.pow_le_pow_right (by omega) (by omega)
    omega
  have h : x.toNat ^^^ 2 ^ r < 2 ^ 8 := Nat.xor_lt_two_pow x.toNat_lt (by omega)
  have e : ((2 : Int) ^ r % 256) = ((2 ^ r : Nat) : Int) := by
    rw [show (2 : Int) ^ r = ((2 ^ r : Nat) : Int) by simp]
    generalize (2 : Nat) ^ r = q at *
    omega
  refine ⟨UInt8.ofNat (x.toNat ^^^ 2 ^ r), by rw [UInt8.toNat_ofNat']; omega, ?_⟩
  rw [e, xor_u8 _ _ x.toNat_lt hq, UInt8.toNat_ofNat', Nat.mod_eq_of_lt h]

set_option maxHeartbeats 1000000 in
theorem seals_in (A : Option Addr) (n c : Nat) (l : List UInt8) (k bit : Nat) (w : World) (hl : Sl w A n c l) (h2 : 2 ≤ n) (h4 : n ≤ 400) (he : k % 2 = 0) (hk : k ≤ n - 2) (hb : bit < 8 * n) :
    Calls Try.prog 6 #[.slice A n c, .int .i64 k, .int .i64 bit] w fun e w' => e = .returned (.bool true) ∧ Below w.heap.size w w' := by
  have n0 : (2 : Int) ≤ n := by omega
  have n1 : (n : Int) ≤ 400 := by omega
  have k0 : (0 : Int) ≤ k := by omega
  have k1 : (k : Int) ≤ n - 2 := by omega
  have k2 : (k : Int) < n := by omega
  have k3 : (k : Int) + 1 < n := by omega
  have c0 : (0 : Int) ≤ bit := by omega
  have c1 : (bit : Int) < 8 * n := by omega
  have hk2 : bits .and .i64 (k : Int) 1 = 0 := by rw [i64_and1]; omega
  have hlen := Lib.hid hl.1
  have HE := Lib.hid he
  clear he
  obtain ⟨i, hi, hz0, hz1, hz2⟩ := info_parts Try.info5
  go_enter Try.func6, Try.ntmps6
  go_wp2_with fail
  refine (awake_any _).mono ?_
  rintro e w1 ⟨rfl, bel1⟩
  have hown := own_empty w1
  have bel2 : Below w1.heap.size w1 (w1.alloc (.cells #[] 5)) := (Below.refl _ _).alloc (Nat.le_refl _) _
  have hl2 := (hl.below bel1).below bel2
  go_wp2_with (at_builtin; refine wpList_append_bytes _ rfl (.tmp 46) (.tmp 47) 24 rfl w1.heap.size 5 i (.int .u8 0) Try.underlying24 hi hz0 hz1 hz2 rfl _ 0 [] rfl hown A n c l rfl hl2 ?c1 ?c2 ?_)
  case c1 => omega
  case c2 => exact bel2.size
  intro v3 w3 hown3 hg3 hat3
  have bel3 : Below w1.heap.size w1 w3 := bel2.grown hg3 bel2.size (fun k h => by simp [Value.ownBlock] at h; omega)
  have bel3a := bel1.trans (bel3.mono bel1.size)
  clear hat3 hg3 hown hl2 bel2
  have hown4 : w3.ownsRow w1.heap.size 5 1 v3 n (l.map u8v) := by simpa using hown3
  obtain ⟨g, cc, rfl, ow, hgb, hnl⟩ := Ow.of_own hown4 (by omega)
  have HNL := Lib.hid hnl
  have hgw : w.heap.size ≤ g := Nat.le_trans bel1.size hgb
  clear hown3 hown4 hnl
  obtain ⟨xa, hxa, ca, fa⟩ := ow.at_ k (by have := HNL.out; omega)
  obtain ⟨xb, hxb, cb, fb⟩ := ow.at_ (k + 1) (by have := HNL.out; omega)
  have hcc : (n : Int) ≤ cc := by have := ow.1; have := HNL.out; omega
  go_wp2_with fail
  have ow4 : Ow 5 ((w3.setCell ⟨g, k, none⟩ (.int .u8 0)).setCell ⟨g, k + 1, none⟩ (.int .u8 0)) g cc ((l.set k 0).set (k + 1) 0) := (ow.set k 0).set (k + 1) 0
  have bel4 : Below w.heap.size w ((w3.setCell ⟨g, k, none⟩ (.int .u8 0)).setCell ⟨g, k + 1, none⟩ (.int .u8 0)) := (bel3a.setCell hgw _).setCell hgw _
  have hl4 : ((l.set k 0).set (k + 1) 0).length = n := by rw [List.length_set, List.length_set]; exact HNL.out.symm
  generalize (w3.setCell ⟨g, k, none⟩ (.int .u8 0)).setCell ⟨g, k + 1, none⟩ (.int .u8 0) = w4 at ow4 bel4 ⊢
  have hs4 := ow4.sl
  rw [hl4] at hs4
  clear ca fa cb fb ow bel3a bel3 bel1
  obtain ⟨s, hs, hs1⟩ : ∃ s : Nat, Hid (ck ((l.set k 0).set (k + 1) 0) = s) ∧ (s : Int) ≤ 65535 :=
    ⟨(ck ((l.set k 0).set (k + 1) 0)).toNat, Lib.hid (by have := ck_bounds ((l.set k 0).set (k + 1) 0); omega), by have := ck_bounds ((l.set k 0).set (k + 1) 0); omega⟩
  have s0 : (0 : Int) ≤ s := by omega
  with_reducible refine (of_any _ n cc _ _ hs4).mono ?_
  rintro e w5 ⟨rfl, bw5⟩
  rw [hs.out]
  have ow5 := ow4.below bw5
  have bel5 := bel4.trans (bw5.mono bel4.size)
  obtain ⟨ya, hya, ca, fa⟩ := ow5.at_ k (by rw [hl4]; omega)
  obtain ⟨yb, hyb, cb, fb⟩ := ow5.at_ (k + 1) (by rw [hl4]; omega)
  have HL4 := Lib.hid hl4
  clear ow4 bel4 bw5 hs4 hl4
  obtain ⟨a, ha⟩ : ∃ a : UInt8, a.toNat = s / 256 := ⟨UInt8.ofNat (s / 256), by rw [UInt8.toNat_ofNat']; omega⟩
  obtain ⟨b, hb'⟩ : ∃ b : UInt8, b.toNat = s % 256 := ⟨UInt8.ofNat (s % 256), by rw [UInt8.toNat_ofNat']; omega⟩
  have ea : u8v a = .int .u8 ((s : Int) / 256) := by unfold u8v; rw [ha]; simp
  have eb : u8v b = .int .u8 ((s : Int) % 256) := by unfold u8v; rw [hb']; simp
  obtain ⟨L0, hL0⟩ : ∃ L0, Hid ((l.set k 0).set (k + 1) 0 = L0) := ⟨_, Lib.hid rfl⟩
  have z0 : L0[k]? = some 0 := by rw [← hL0.out, List.getElem?_set_ne (by omega), List.getElem?_set_self (by have := HNL.out; omega)]
  have z1 : L0[k + 1]? = some 0 := by rw [← hL0.out, List.getElem?_set_self (by rw [List.length_set]; have := HNL.out; omega)]
  rw [hL0.out] at ow5 HL4 hs
  have fit := seal_fits L0 k s a b HE.out z0 z1 hs.out ha hb'
  have ow6 : Ow 5 ((w5.setCell ⟨g, k, none⟩ (.int .u8 ((s : Int) / 256))).setCell ⟨g, k + 1, none⟩ (.int .u8 ((s : Int) % 256))) g cc ((L0.set k a).set (k + 1) b) := by
    rw [← ea, ← eb]; exact (ow5.set k a).set (k + 1) b
  have bel6 : Below w.heap.size w ((w5.setCell ⟨g, k, none⟩ (.int .u8 ((s : Int) / 256))).setCell ⟨g, k + 1, none⟩ (.int .u8 ((s : Int) % 256))) := (bel5.setCell hgw _).setCell hgw _
  obtain ⟨L1, hL1⟩ : ∃ L1, Hid ((L0.set k a).set (k + 1) b = L1) := ⟨_, Lib.hid rfl⟩
  have hl6 : L1.length = n := by rw [← hL1.out, List.length_set, List.length_set]; exact HL4.out
  rw [hL1.out] at ow6 fit
  have FIT := Lib.hid fit
  clear fit z0 z1 hxa hxb ha hb' ea eb hya hyb hs hL0
  go_wp2_with fail
  generalize (w5.setCell ⟨g, k, none⟩ (.int .u8 ((s : Int) / 256))).setCell ⟨g, k + 1, none⟩ (.int .u8 ((s : Int) % 256)) = w6 at ow6 bel6 ⊢
  have hs6 := ow6.sl
  rw [hl6] at hs6
  clear ca fa cb fb ow5 bel5
  with_reducible refine (fits_yes _ n cc _ _ hs6 FIT.out).mono ?_
  rintro e w7 ⟨rfl, bw7⟩
  have ow7 := ow6.below bw7
  have bel7 := bel6.trans (bw7.mono bel6.size)
  obtain ⟨x, hx, cx, fx⟩ := ow7.at_ (bit / 8) (by rw [hl6]; omega)
  have HL6 := Lib.hid hl6
  clear ow6 bel6 bw7 hs6 hl6
  have b8 : (bit : Int) / 8 < n := by omega
  have b9 : 0 ≤ (bit : Int) / 8 := by omega
  have hx0 : (0 : Int) ≤ x.toNat := by omega
  have hx1 : (x.toNat : Int) < 256 := by have := x.toNat_lt; omega
  have h7 := i64_and7 bit
  have r0 : 0 ≤ (bit : Int) % 8 := by omega
  have r1 : (bit : Int) % 8 < 8 := by omega
  obtain ⟨y, hy, hxor⟩ := xor_bit x (bit % 8) (by omega)
  have SP := Lib.hid (seal_spoilt L1 (bit / 8) (bit % 8) x y hx.out (by omega) hy FIT.out)
  have ey : u8v y = .int .u8 (y.toNat : Int) := rfl
  have ow8 := ow7.set (bit / 8) y
  rw [ey] at ow8
  have bel8 := bel7.setCell (p := ⟨g, bit / 8, none⟩) hgw (.int .u8 (y.toNat : Int))
  have hl8 : (L1.set (bit / 8) y).length = n := by rw [List.length_set]; exact HL6.out
  have hs8 := ow8.sl
  rw [hl8] at hs8
  clear hy ey ow7 bel7 ow8 hl8
  go_wp2_with fail
  with_reducible refine (fits_no _ n cc _ _ hs8 SP.out).mono ?_
  rintro e w9 ⟨rfl, bw9⟩
  have bel9 := bel8.trans (bw9.mono bel8.size)
  go_wp2
  go_ret
  exact ⟨rfl, bel9⟩

set_option maxHeartbeats 2000000 in
theorem sumSeals_walk (A : Option Addr) (n c : Nat) (l : List UInt8) (k bit : Int) (w : World) (hl : Sl w A n c l) :
    Calls Try.prog 6 #[.slice A n c, .int .i64 k, .int .i64 bit] w fun e w' => e = .returned (.bool true) ∧ Below w.heap.size w w' := by
  have n0 : (0 : Int) ≤ n := by omega
  have n9 := hl.2.1
  have n8 := hl.2.2.1
  unfold maxLen at n8
  by_cases hg : 2 ≤ n ∧ n ≤ 400 ∧ 0 ≤ k ∧ k % 2 = 0 ∧ k ≤ (n : Int) - 2 ∧ 0 ≤ bit ∧ bit < 8 * (n : Int)
  · obtain ⟨h1, h2, h3, h4, h5, h6, h7⟩ := hg
    obtain ⟨k, rfl⟩ := Int.eq_ofNat_of_zero_le h3
    obtain ⟨bit, rfl⟩ := Int.eq_ofNat_of_zero_le h6
    exact seals_in A n c l k bit w hl h1 h2 (by omega) (by omega) (by omega)
  · clear hl
    rcases (by omega : (n < 2) ∨ (2 ≤ n ∧ 400 < n) ∨ (2 ≤ n ∧ n ≤ 400 ∧ k < 0) ∨ (2 ≤ n ∧ n ≤ 400 ∧ 0 ≤ k ∧ k % 2 = 1) ∨ (2 ≤ n ∧ n ≤ 400 ∧ 0 ≤ k ∧ k % 2 = 0 ∧ (n : Int) - 2 < k) ∨ (2 ≤ n ∧ n ≤ 400 ∧ 0 ≤ k ∧ k % 2 = 0 ∧ k ≤ (n : Int) - 2 ∧ bit < 0) ∨ (2 ≤ n ∧ n ≤ 400 ∧ 0 ≤ k ∧ k % 2 = 0 ∧ k ≤ (n : Int) - 2 ∧ 0 ≤ bit ∧ 8 * (n : Int) ≤ bit)) with h | h | h | h | h | h | h
    · have g0 : (n : Int) < 2 := by omega
      clear hg h n9 n8
      go_enter Try.func6, Try.ntmps6
      go_wp2_with fail
      refine (awake_any _).mono ?_
      rintro e w1 ⟨rfl, bel1⟩
      go_wp2
      go_ret
      exact ⟨rfl, bel1⟩
    · have g0 : (2 : Int) ≤ n := by omega
      have g1 : (400 : Int) < n := by omega
      clear hg h n9 n8
      go_enter Try.func6, Try.ntmps6
      go_wp2_with fail
      refine (awake_any _).mono ?_
      rintro e w1 ⟨rfl, bel1⟩
      go_wp2
      go_ret
      exact ⟨rfl, bel1⟩
    · have g0 : (2 : Int) ≤ n := by omega
      have g1 : (n : Int) ≤ 400 := by omega
      have g2 : k < 0 := by omega
      clear hg h n9 n8
      go_enter Try.func6, Try.ntmps6
      go_wp2_with fail
      refine (awake_any _).mono ?_
      rintro e w1 ⟨rfl, bel1⟩
      go_wp2
      go_ret
      exact ⟨rfl, bel1⟩
    · have g0 : (2 : Int) ≤ n := by omega
      have g1 : (n : Int) ≤ 400 := by omega
      have g2 : 0 ≤ k := by omega
      have g3 : bits .and .i64 k 1 = 1 := by rw [i64_and1]; omega
      clear hg h n9 n8
      go_enter Try.func6, Try.ntmps6
      go_wp2_with fail
      refine (awake_any _).mono ?_
      rintro e w1 ⟨rfl, bel1⟩
      go_wp2
      go_ret
      exact ⟨rfl, bel1⟩
    · have g0 : (2 : Int) ≤ n := by omega
      have g1 : (n : Int) ≤ 400 := by omega
      have g2 : 0 ≤ k := by omega
      have g3 : bits .and .i64 k 1 = 0 := by rw [i64_and1]; omega
      have g4 : (n : Int) - 2 < k := by omega
      clear hg h n9 n8
      go_enter Try.func6, Try.ntmps6
      go_wp2_with fail
      refine (awake_any _).mono ?_
      rintro e w1 ⟨rfl, bel1⟩
      go_wp2
      go_ret
      exact ⟨rfl, bel1⟩
    · have g0 : (2 : Int) ≤ n := by omega
      have g1 : (n : Int) ≤ 400 := by omega
      have g2 : 0 ≤ k := by omega
      have g3 : bits .and .i64 k 1 = 0 := by rw [i64_and1]; omega
      have g4 : k ≤ (n : Int) - 2 := by omega
      have g5 : bit < 0 := by omega
      clear hg h n9 n8
      go_enter Try.func6, Try.ntmps6
      go_wp2_with fail
      refine (awake_any _).mono ?_
      rintro e w1 ⟨rfl, bel1⟩
      go_wp2
      go_ret
      exact ⟨rfl, bel1⟩
    · have g0 : (2 : Int) ≤ n := by omega
      have g1 : (n : Int) ≤ 400 := by omega
      have g2 : 0 ≤ k := by omega
      have g3 : bits .and .i64 k 1 = 0 := by rw [i64_and1]; omega
      have g4 : k ≤ (n : Int) - 2 := by omega
      have g5 : 0 ≤ bit := by omega
      have g6 : 8 * (n : Int) ≤ bit := by omega
      clear hg h n9 n8
      go_enter Try.func6, Try.ntmps6
      go_wp2_with fail
      refine (awake_any _).mono ?_
      rintro e w1 ⟨rfl, bel1⟩
      go_wp2
      go_ret
      exact ⟨rfl, bel1⟩
end Go.Proofs.Ytbmngljendanlaa
