/- The reference's MacText. -/
import Derived.Test.YtppjnhjglhlpkaaDoorRef3
import Derived.Test.YtppjnhjglhlpkaaDoorMemz
import Derived.Deep.QuietTactic
import Derived.BigQuiet
namespace Go.Proofs.YtppjnhjglhlpkaaDoor
open Go.RowKit

/-- A hexadecimal digit's byte. -/
def hexDig (n : Nat) : UInt8 := if n < 10 then UInt8.ofNat (48 + n) else UInt8.ofNat (87 + n)
/-- The text of the first k bytes of a Mac. -/
def macT (l : List UInt8) : Nat → List UInt8
  | 0 => []
  | k + 1 => macT l k ++ (if 0 < k then [58] else []) ++ [hexDig ((l.getD k 0).toNat / 16)] ++ [hexDig ((l.getD k 0).toNat % 16)]
theorem macT_len (l : List UInt8) : ∀ k, (macT l k).length ≤ 3 * k
  | 0 => by simp [macT]
  | k + 1 => by
    have := macT_len l k
    rw [macT]
    split <;> simp <;> omega
def hexRow : List UInt8 := [48, 49, 50, 51, 52, 53, 54, 55, 56, 57, 97, 98, 99, 100, 101, 102]
theorem hexRow_get : ∀ n : Fin 16, (hexRow.drop n.val).take 1 = [hexDig n.val] := by decide +kernel
theorem hexRow_at (n : Nat) (h : n < 16) : ((⟨#[48, 49, 50, 51, 52, 53, 54, 55, 56, 57, 97, 98, 99, 100, 101, 102]⟩ : ByteArray)).extract n (n + 1) = ⟨[hexDig n].toArray⟩ := by
  apply ByteArray.ext
  rw [ByteArray.data_extract]
  apply Array.ext'
  simp only [Array.toList_extract, List.extract_eq_take_drop]
  have := hexRow_get ⟨n, h⟩
  rw [show n + 1 - n = 1 by omega]
  exact this
theorem u8_and15 (x : UInt8) : bits .and .u8 (x.toNat : Int) 15 = ((x.toNat % 16 : Nat) : Int) := by
  have h := u8_and_nat x.toNat 15 x.toNat_lt (by omega)
  rw [show x.toNat &&& 15 = x.toNat % 16 from Nat.and_two_pow_sub_one_eq_mod x.toNat 4] at h
  exact h
theorem str_add (x y : List UInt8) (hx : x.length ≤ 1000) (hy : y.length ≤ 1000) (W : World) : (Op.stringOp .add ⟨x.toArray⟩ ⟨y.toArray⟩).run Tryd.prog W = .ok (.string ⟨(x ++ y).toArray⟩) W := by
  rw [run_string_add_sum W _ _ (by simp [ByteArray.size]; omega), ByteArray.mk_append_mk]

set_option maxHeartbeats 4000000 in
theorem rmactext_any (b0 b1 b2 b3 b4 b5 : UInt8) (w : World) :
    Calls Tryd.prog 27 #[.agg #[.int .u8 (b0.toNat : Int), .int .u8 (b1.toNat : Int), .int .u8 (b2.toNat : Int), .int .u8 (b3.toNat : Int), .int .u8 (b4.toNat : Int), .int .u8 (b5.toNat : Int)]] w
      fun e w' => e = .returned (.string ⟨(macT [b0, b1, b2, b3, b4, b5] 6).toArray⟩) ∧ Below w.heap.size w w' := by
  have hblk := heap_alloc_new w (.cells #[.int .u8 (b0.toNat : Int), .int .u8 (b1.toNat : Int), .int .u8 (b2.toNat : Int), .int .u8 (b3.toNat : Int), .int .u8 (b4.toNat : Int), .int .u8 (b5.toNat : Int)] 33)
  have bel := (Below.refl w.heap.size w).alloc (Nat.le_refl _) (.cells #[.int .u8 (b0.toNat : Int), .int .u8 (b1.toNat : Int), .int .u8 (b2.toNat : Int), .int .u8 (b3.toNat : Int), .int .u8 (b4.toNat : Int), .int .u8 (b5.toNat : Int)] 33)
  have hcell : ∀ j, j < 6 → (w.alloc (.cells #[.int .u8 (b0.toNat : Int), .int .u8 (b1.toNat : Int), .int .u8 (b2.toNat : Int), .int .u8 (b3.toNat : Int), .int .u8 (b4.toNat : Int), .int .u8 (b5.toNat : Int)] 33)).cell? ⟨w.heap.size, j, none⟩ = some (.int .u8 (([b0, b1, b2, b3, b4, b5].getD j 0).toNat : Int)) := by
    intro j hj
    simp only [World.cell?, hblk]
    match j, hj with
    | 0, _ | 1, _ | 2, _ | 3, _ | 4, _ | 5, _ => rfl
  have HC := Lib.hid hcell
  clear hblk hcell
  generalize [b0, b1, b2, b3, b4, b5] = l at HC ⊢
  go_enter Tryd.func27, Tryd.ntmps27
  go_wp2_with fail
  generalize w.alloc (.cells #[.int .u8 (b0.toNat : Int), .int .u8 (b1.toNat : Int), .int .u8 (b2.toNat : Int), .int .u8 (b3.toNat : Int), .int .u8 (b4.toNat : Int), .int .u8 (b5.toNat : Int)] 33) = w1 at HC bel ⊢
  go_loopw [4, 5] (fun v i wr => ∃ k : Nat, k ≤ 6 ∧ i = .int .i64 k ∧ v = .string ⟨(macT l k).toArray⟩ ∧ ∃ q, wr = w1.drewN q) (fun _ i _ => 6 - (intOf i).toNat)
  case atStart => exact ⟨0, by omega, rfl, rfl, 0, rfl⟩
  case round =>
    obtain ⟨k, hk, rfl, rfl, q, rfl⟩ := hrel
    have hlen := macT_len l k
    by_cases hlt : k < 6
    · have hcell := HC.out k hlt
      obtain ⟨x, hx⟩ : ∃ x, Hid (l.getD k 0 = x) := ⟨_, Lib.hid rfl⟩
      rw [hx.out] at hcell
      have hxl := x.toNat_lt
      have k0 : (0 : Int) ≤ k := by omega
      have k6 : (k : Int) < 6 := by omega
      have hq : (x.toNat : Int) / 16 = ((x.toNat / 16 : Nat) : Int) := by omega
      have hand := u8_and15 x
      have hhi : x.toNat / 16 < 16 := by omega
      have hlo : x.toNat % 16 < 16 := by omega
      have HHI : Hid ((l.getD k 0).toNat / 16 = x.toNat / 16) := Lib.hid (by rw [hx.out])
      have HLO : Hid ((l.getD k 0).toNat % 16 = x.toNat % 16) := Lib.hid (by rw [hx.out])
      have x0 : (0 : Int) ≤ x.toNat := by omega
      have x1 : (x.toNat : Int) < 256 := by omega
      generalize x.toNat / 16 = hi at *
      generalize x.toNat % 16 = lo at *
      clear hx hxl
      by_cases kz : 0 < k
      · have A0 := fun W => str_add (macT l k) [58] (by omega) (by simp) W
        have hstep : macT l (k + 1) = (macT l k ++ [58] ++ [hexDig hi]) ++ [hexDig lo] := by rw [macT, HHI.out, HLO.out]; simp [kz]
        have HSTEP := Lib.hid hstep
        have A1 := fun W => str_add (macT l k ++ [58]) [hexDig hi] (by have := hlen; simp; omega) (by simp) W
        have A2 := fun W => str_add (macT l k ++ [58] ++ [hexDig hi]) [hexDig lo] (by have := hlen; simp; omega) (by simp) W
        rw [← hexRow_at hi hhi] at A1
        rw [← hexRow_at lo hlo] at A2
        have t0 : (0 : Int) < (k : Int) := by omega
        generalize macT l k ++ [58] ++ [hexDig hi] ++ [hexDig lo] = s2 at *
        generalize macT l k ++ [58] ++ [hexDig hi] = s1 at *
        generalize macT l k ++ [58] = s0 at *
        generalize macT l k = sk at *
        clear hstep hlen
        have HQ := Lib.hid hq
        have HAND := Lib.hid hand
        have HA1 := Lib.hid A1
        have HA2 := Lib.hid A2
        clear hq hand A1 A2
        go_wp2_with fail
        have hq := HQ.out
        have hand := HAND.out
        have A1 := HA1.out
        have A2 := HA2.out
        have hw1 : IntKind.u8.wrap ((hi : Int) + 1) = hi + 1 := by simp [IntKind.wrap, IntKind.signed, IntKind.bits]; omega
        have hw2 : IntKind.u8.wrap ((lo : Int) + 1) = lo + 1 := by simp [IntKind.wrap, IntKind.signed, IntKind.bits]; omega
        have hw3 : IntKind.u8.wrap (hi : Int) = hi := by simp [IntKind.wrap, IntKind.signed, IntKind.bits]; omega
        have hn1 : ((hi : Int) + 1).toNat = hi + 1 := by omega
        have hn2 : ((lo : Int) + 1).toNat = lo + 1 := by omega
        have g0 : (0 : Int) ≤ hi := by omega
        have g1 : (hi : Int) < 16 := by omega
        have g2 : (0 : Int) ≤ lo := by omega
        have g3 : (lo : Int) < 16 := by omega
        have g4 : (0 : Int) ≤ (hi : Int) + 1 := by omega
        have g5 : (0 : Int) ≤ (lo : Int) + 1 := by omega
        have g6 : (hi : Int) ≤ (hi : Int) + 1 := by omega
        have g7 : (lo : Int) ≤ (lo : Int) + 1 := by omega
        have g8 : (hi : Int) + 1 ≤ 16 := by omega
        have g9 : (lo : Int) + 1 ≤ 16 := by omega
        clear hhi hlo
        go_quiet (fail)
        clear hw1 hw2 hw3 hn1 hn2 g4 g5 g6 g7 g8 g9 A1 A2 hq hand
        go_wp2
        go_roundw
        case rel => exact ⟨k + 1, by omega, by go_num, by rw [HSTEP.out], _, rfl⟩
        case measure => simp [intOf]; omega
      · obtain rfl : k = 0 := by omega
        have hstep : macT l (0 + 1) = (macT l 0 ++ [hexDig hi]) ++ [hexDig lo] := by
          rw [show macT l (0 + 1) = macT l 0 ++ (if 0 < 0 then [58] else []) ++ [hexDig ((l.getD 0 0).toNat / 16)] ++ [hexDig ((l.getD 0 0).toNat % 16)] from rfl, HHI.out, HLO.out]; simp
        have HSTEP := Lib.hid hstep
        have A1 := fun W => str_add (macT l 0) [hexDig hi] (by have := hlen; simp; omega) (by simp) W
        have A2 := fun W => str_add (macT l 0 ++ [hexDig hi]) [hexDig lo] (by have := hlen; simp; omega) (by simp) W
        rw [← hexRow_at hi hhi] at A1
        rw [← hexRow_at lo hlo] at A2
        generalize macT l 0 ++ [hexDig hi] ++ [hexDig lo] = s2 at *
        generalize macT l 0 ++ [hexDig hi] = s1 at *
        generalize macT l 0 = sk at *
        clear hstep kz hlen
        have HQ := Lib.hid hq
        have HAND := Lib.hid hand
        have HA1 := Lib.hid A1
        have HA2 := Lib.hid A2
        clear hq hand A1 A2
        go_wp2_with fail
        have hq := HQ.out
        have hand := HAND.out
        have A1 := HA1.out
        have A2 := HA2.out
        have hw1 : IntKind.u8.wrap ((hi : Int) + 1) = hi + 1 := by simp [IntKind.wrap, IntKind.signed, IntKind.bits]; omega
        have hw2 : IntKind.u8.wrap ((lo : Int) + 1) = lo + 1 := by simp [IntKind.wrap, IntKind.signed, IntKind.bits]; omega
        have hw3 : IntKind.u8.wrap (hi : Int) = hi := by simp [IntKind.wrap, IntKind.signed, IntKind.bits]; omega
        have hn1 : ((hi : Int) + 1).toNat = hi + 1 := by omega
        have hn2 : ((lo : Int) + 1).toNat = lo + 1 := by omega
        have g0 : (0 : Int) ≤ hi := by omega
        have g1 : (hi : Int) < 16 := by omega
        have g2 : (0 : Int) ≤ lo := by omega
        have g3 : (lo : Int) < 16 := by omega
        have g4 : (0 : Int) ≤ (hi : Int) + 1 := by omega
        have g5 : (0 : Int) ≤ (lo : Int) + 1 := by omega
        have g6 : (hi : Int) ≤ (hi : Int) + 1 := by omega
        have g7 : (lo : Int) ≤ (lo : Int) + 1 := by omega
        have g8 : (hi : Int) + 1 ≤ 16 := by omega
        have g9 : (lo : Int) + 1 ≤ 16 := by omega
        clear hhi hlo
        go_quiet (fail)
        clear hw1 hw2 hw3 hn1 hn2 g4 g5 g6 g7 g8 g9 A1 A2 hq hand
        go_wp2
        go_roundw
        case rel => exact ⟨0 + 1, by omega, by go_num, by rw [HSTEP.out], _, rfl⟩
        case measure => simp [intOf]
    · obtain rfl : k = 6 := by omega
      have belq : Below w.heap.size w (w1.drewN q) := ⟨bel.os, bel.tape, bel.output, bel.size, bel.block⟩
      clear hlen
      go_wp2
      go_ret
      exact ⟨rfl, belq⟩
end Go.Proofs.YtppjnhjglhlpkaaDoor
