/- Layer 6: the walk of Ip4Bits. -/
import Derived.Test.YtabogdpjjclapaaLaw6
namespace Go.Proofs.Ytabogdpjjclapaa
open Go.RowKit

theorem i64_and7 (n : Int) : bits .and .i64 n 7 = n % 8 := by
  have hm : (BitVec.ofInt 64 7).toNat = 2 ^ 3 - 1 := by decide
  have key : (BitVec.ofInt 64 n &&& BitVec.ofInt 64 7).toNat = (n % ((2 ^ 64 : Nat) : Int)).toNat % 2 ^ 3 := by
    rw [BitVec.toNat_and, BitVec.toNat_ofInt, hm, Nat.and_two_pow_sub_one_eq_mod]
  show IntKind.i64.wrap ((BitVec.ofInt 64 n &&& BitVec.ofInt 64 7).toNat : Nat) = n % 8
  rw [key, IntKind.wrap_i64]
  omega

theorem xor_u8 (x y : Nat) (hx : x < 256) (hy : y < 256) : bits .xor .u8 (x : Int) (y : Int) = ((x ^^^ y : Nat) : Int) := by
  show IntKind.u8.wrap ((BitVec.ofInt 8 (x : Int) ^^^ BitVec.ofInt 8 (y : Int)).toNat : Int) = _
  rw [BitVec.toNat_xor, BitVec.ofInt_natCast, BitVec.ofInt_natCast, BitVec.toNat_ofNat, BitVec.toNat_ofNat, Nat.mod_eq_of_lt (by omega), Nat.mod_eq_of_lt (by omega)]
  have h : x ^^^ y < 2 ^ 8 := Nat.xor_lt_two_pow (by omega) (by omega)
  generalize x ^^^ y = z at *
  simp [IntKind.wrap, IntKind.signed, IntKind.bits]
  omega
theorem xor_bit (x : UInt8) (r : Nat) (hr : r < 8) : ∃ y : UInt8, y.toNat = x.toNat ^^^ 2 ^ r ∧ bits .xor .u8 (x.toNat : Int) ((2 : Int) ^ r % 256) = (y.toNat : Int) := by
  have hq : (2 : Nat) ^ r < 256 := by
    have : (2 : Nat) ^ r ≤ 2 ^ 7 := Nat.pow_le_pow_right (by omega) (by omega)
    omega
  have h : x.toNat ^^^ 2 ^ r < 2 ^ 8 := Nat.xor_lt_two_pow x.toNat_lt (by omega)
  have e : ((2 : Int) ^ r % 256) = ((2 ^ r : Nat) : Int) := by
    rw [show (2 : Int) ^ r = ((2 ^ r : Nat) : Int) by simp]
    generalize (2 : Nat) ^ r = q at *
    omega
  refine ⟨UInt8.ofNat (x.toNat ^^^ 2 ^ r), by rw [UInt8.toNat_ofNat']; omega, ?_⟩
  rw [e, xor_u8 _ _ x.toNat_lt hq, UInt8.toNat_ofNat', Nat.mod_eq_of_lt h]


theorem er_of {l : List UInt8} {a : (List Int × List UInt8)} {b : (List UInt8 × List UInt8)} {er : Int} (h : (a, b, er) = ipGet l) : er = ipErr l := by
  unfold ipGet at h
  by_cases he : ipErr l = 0
  · rw [if_neg (by rw [he]; simp)] at h
    simp only [Prod.mk.injEq] at h
    rw [he]; exact h.2.2
  · rw [if_pos he] at h
    simp only [Prod.mk.injEq] at h
    exact h.2.2
set_option linter.unusedVariables false in
set_option maxRecDepth 100000 in
set_option maxHeartbeats 16000000 in
theorem ip4Bits_great (tos id fl pt ttl pr : Int) (a0 a1 a2 a3 a4 a5 a6 a7 : UInt8) (So Sb : Option Addr) (co cb : Nat) (lo lb : List UInt8) (bit : Int) (w : World) (ho : Sl w So lo.length co lo) (hb : Sl w Sb lb.length cb lb) (hgr : (decide (1600 < lb.length) || decide (100 < lo.length)) = true) : Calls Try.prog 7 #[.agg #[.int .i64 tos, .int .i64 id, .int .i64 fl, .int .i64 pt, .int .i64 ttl, .int .i64 pr, .int .u8 (a0.toNat : Int), .int .u8 (a1.toNat : Int), .int .u8 (a2.toNat : Int), .int .u8 (a3.toNat : Int), .int .u8 (a4.toNat : Int), .int .u8 (a5.toNat : Int), .int .u8 (a6.toNat : Int), .int .u8 (a7.toNat : Int), .slice So lo.length co, .slice Sb lb.length cb], .int .i64 bit] w fun e w' => e = .returned (.bool true) ∧ Below w.heap.size w w' := by
  have bel := Below.refl w.heap.size w
  have hp : (w.alloc (.cells #[.int .i64 tos, .int .i64 id, .int .i64 fl, .int .i64 pt, .int .i64 ttl, .int .i64 pr, .int .u8 (a0.toNat : Int), .int .u8 (a1.toNat : Int), .int .u8 (a2.toNat : Int), .int .u8 (a3.toNat : Int), .int .u8 (a4.toNat : Int), .int .u8 (a5.toNat : Int), .int .u8 (a6.toNat : Int), .int .u8 (a7.toNat : Int), .slice So lo.length co, .slice Sb lb.length cb] 27)).heap[w.heap.size]? = some (.cells #[.int .i64 tos, .int .i64 id, .int .i64 fl, .int .i64 pt, .int .i64 ttl, .int .i64 pr, .int .u8 (a0.toNat : Int), .int .u8 (a1.toNat : Int), .int .u8 (a2.toNat : Int), .int .u8 (a3.toNat : Int), .int .u8 (a4.toNat : Int), .int .u8 (a5.toNat : Int), .int .u8 (a6.toNat : Int), .int .u8 (a7.toNat : Int), .slice So lo.length co, .slice Sb lb.length cb] 27 (0, 0)) := by have := heap_alloc_new w (.cells #[.int .i64 tos, .int .i64 id, .int .i64 fl, .int .i64 pt, .int .i64 ttl, .int .i64 pr, .int .u8 (a0.toNat : Int), .int .u8 (a1.toNat : Int), .int .u8 (a2.toNat : Int), .int .u8 (a3.toNat : Int), .int .u8 (a4.toNat : Int), .int .u8 (a5.toNat : Int), .int .u8 (a6.toNat : Int), .int .u8 (a7.toNat : Int), .slice So lo.length co, .slice Sb lb.length cb] 27); simpa using this
  have zp : w.heap.size < (w.alloc (.cells #[.int .i64 tos, .int .i64 id, .int .i64 fl, .int .i64 pt, .int .i64 ttl, .int .i64 pr, .int .u8 (a0.toNat : Int), .int .u8 (a1.toNat : Int), .int .u8 (a2.toNat : Int), .int .u8 (a3.toNat : Int), .int .u8 (a4.toNat : Int), .int .u8 (a5.toNat : Int), .int .u8 (a6.toNat : Int), .int .u8 (a7.toNat : Int), .slice So lo.length co, .slice Sb lb.length cb] 27)).heap.size := by simp
  replace bel := bel.alloc bel.size (.cells #[.int .i64 tos, .int .i64 id, .int .i64 fl, .int .i64 pt, .int .i64 ttl, .int .i64 pr, .int .u8 (a0.toNat : Int), .int .u8 (a1.toNat : Int), .int .u8 (a2.toNat : Int), .int .u8 (a3.toNat : Int), .int .u8 (a4.toNat : Int), .int .u8 (a5.toNat : Int), .int .u8 (a6.toNat : Int), .int .u8 (a7.toNat : Int), .slice So lo.length co, .slice Sb lb.length cb] 27)
  
  go_enter Try.func7, Try.ntmps7
  go_wp2_with fail
  with_reducible refine (awake6 _).mono ?_
  rintro e w1 ⟨rfl, b1⟩
  replace hp := (b1.block _ zp).trans hp
  replace zp := Nat.lt_of_lt_of_le zp b1.size
  replace bel := bel.trans (b1.mono bel.size)
  clear b1
  have R2 := Lib.hid (range_lit hp 0 16 [.int .i64 tos, .int .i64 id, .int .i64 fl, .int .i64 pt, .int .i64 ttl, .int .i64 pr, .int .u8 (a0.toNat : Int), .int .u8 (a1.toNat : Int), .int .u8 (a2.toNat : Int), .int .u8 (a3.toNat : Int), .int .u8 (a4.toNat : Int), .int .u8 (a5.toNat : Int), .int .u8 (a6.toNat : Int), .int .u8 (a7.toNat : Int), .slice So lo.length co, .slice Sb lb.length cb] rfl)
  go_wp2_with (first | ((with_reducible show wpList _ _ _ (⟨some 11, _, _, _, _, _⟩ :: _) _ _); refine wpList_load_rng 27 (.tmp 2) rfl (by kernel_rfl) _ _ rfl _ R2.out _ Try.underlying27 rfl (by kernel_rfl) ?_))
  with_reducible refine (great6_any tos id fl pt ttl pr a0 a1 a2 a3 a4 a5 a6 a7 So Sb lo.length co lb.length cb _).mono ?_
  clear R2
  rintro e w2 ⟨rfl, b2⟩
  replace hp := (b2.block _ zp).trans hp
  replace zp := Nat.lt_of_lt_of_le zp b2.size
  replace bel := bel.trans (b2.mono bel.size)
  clear b2
  rw [hgr]
  go_wp2_with fail
  go_ret
  exact ⟨rfl, bel⟩
set_option linter.unusedVariables false in
set_option maxRecDepth 100000 in
set_option maxHeartbeats 16000000 in
theorem ip4Bits_refused (tos id fl pt ttl pr : Int) (a0 a1 a2 a3 a4 a5 a6 a7 : UInt8) (So Sb : Option Addr) (co cb : Nat) (lo lb : List UInt8) (bit : Int) (w : World) (ho : Sl w So lo.length co lo) (hb : Sl w Sb lb.length cb lb) (h1 : lb.length ≤ 1600) (h2 : lo.length ≤ 100) (hne : (ipPut tos id fl pt ttl pr a0 a1 a2 a3 a4 a5 a6 a7 lo lb).2 ≠ 0) : Calls Try.prog 7 #[.agg #[.int .i64 tos, .int .i64 id, .int .i64 fl, .int .i64 pt, .int .i64 ttl, .int .i64 pr, .int .u8 (a0.toNat : Int), .int .u8 (a1.toNat : Int), .int .u8 (a2.toNat : Int), .int .u8 (a3.toNat : Int), .int .u8 (a4.toNat : Int), .int .u8 (a5.toNat : Int), .int .u8 (a6.toNat : Int), .int .u8 (a7.toNat : Int), .slice So lo.length co, .slice Sb lb.length cb], .int .i64 bit] w fun e w' => e = .returned (.bool true) ∧ Below w.heap.size w w' := by
  have bel := Below.refl w.heap.size w
  have hp : (w.alloc (.cells #[.int .i64 tos, .int .i64 id, .int .i64 fl, .int .i64 pt, .int .i64 ttl, .int .i64 pr, .int .u8 (a0.toNat : Int), .int .u8 (a1.toNat : Int), .int .u8 (a2.toNat : Int), .int .u8 (a3.toNat : Int), .int .u8 (a4.toNat : Int), .int .u8 (a5.toNat : Int), .int .u8 (a6.toNat : Int), .int .u8 (a7.toNat : Int), .slice So lo.length co, .slice Sb lb.length cb] 27)).heap[w.heap.size]? = some (.cells #[.int .i64 tos, .int .i64 id, .int .i64 fl, .int .i64 pt, .int .i64 ttl, .int .i64 pr, .int .u8 (a0.toNat : Int), .int .u8 (a1.toNat : Int), .int .u8 (a2.toNat : Int), .int .u8 (a3.toNat : Int), .int .u8 (a4.toNat : Int), .int .u8 (a5.toNat : Int), .int .u8 (a6.toNat : Int), .int .u8 (a7.toNat : Int), .slice So lo.length co, .slice Sb lb.length cb] 27 (0, 0)) := by have := heap_alloc_new w (.cells #[.int .i64 tos, .int .i64 id, .int .i64 fl, .int .i64 pt, .int .i64 ttl, .int .i64 pr, .int .u8 (a0.toNat : Int), .int .u8 (a1.toNat : Int), .int .u8 (a2.toNat : Int), .int .u8 (a3.toNat : Int), .int .u8 (a4.toNat : Int), .int .u8 (a5.toNat : Int), .int .u8 (a6.toNat : Int), .int .u8 (a7.toNat : Int), .slice So lo.length co, .slice Sb lb.length cb] 27); simpa using this
  have zp : w.heap.size < (w.alloc (.cells #[.int .i64 tos, .int .i64 id, .int .i64 fl, .int .i64 pt, .int .i64 ttl, .int .i64 pr, .int .u8 (a0.toNat : Int), .int .u8 (a1.toNat : Int), .int .u8 (a2.toNat : Int), .int .u8 (a3.toNat : Int), .int .u8 (a4.toNat : Int), .int .u8 (a5.toNat : Int), .int .u8 (a6.toNat : Int), .int .u8 (a7.toNat : Int), .slice So lo.length co, .slice Sb lb.length cb] 27)).heap.size := by simp
  replace bel := bel.alloc bel.size (.cells #[.int .i64 tos, .int .i64 id, .int .i64 fl, .int .i64 pt, .int .i64 ttl, .int .i64 pr, .int .u8 (a0.toNat : Int), .int .u8 (a1.toNat : Int), .int .u8 (a2.toNat : Int), .int .u8 (a3.toNat : Int), .int .u8 (a4.toNat : Int), .int .u8 (a5.toNat : Int), .int .u8 (a6.toNat : Int), .int .u8 (a7.toNat : Int), .slice So lo.length co, .slice Sb lb.length cb] 27)
  have hob := ho.below bel
  have hbb := hb.below bel
  have g1 : decide (1600 < lb.length) = false := decide_eq_false (by omega)
  have g2 : decide (100 < lo.length) = false := decide_eq_false (by omega)
  have H2 := Lib.hid h2
  have H1 := Lib.hid h1
  clear h1 h2
  go_enter Try.func7, Try.ntmps7
  go_wp2_with fail
  with_reducible refine (awake6 _).mono ?_
  rintro e w1 ⟨rfl, b1⟩
  replace hp := (b1.block _ zp).trans hp
  replace zp := Nat.lt_of_lt_of_le zp b1.size
  replace hob := hob.below b1
  replace hbb := hbb.below b1
  replace bel := bel.trans (b1.mono bel.size)
  clear b1
  have R2 := Lib.hid (range_lit hp 0 16 [.int .i64 tos, .int .i64 id, .int .i64 fl, .int .i64 pt, .int .i64 ttl, .int .i64 pr, .int .u8 (a0.toNat : Int), .int .u8 (a1.toNat : Int), .int .u8 (a2.toNat : Int), .int .u8 (a3.toNat : Int), .int .u8 (a4.toNat : Int), .int .u8 (a5.toNat : Int), .int .u8 (a6.toNat : Int), .int .u8 (a7.toNat : Int), .slice So lo.length co, .slice Sb lb.length cb] rfl)
  go_wp2_with (first | ((with_reducible show wpList _ _ _ (⟨some 11, _, _, _, _, _⟩ :: _) _ _); refine wpList_load_rng 27 (.tmp 2) rfl (by kernel_rfl) _ _ rfl _ R2.out _ Try.underlying27 rfl (by kernel_rfl) ?_))
  with_reducible refine (great6_any tos id fl pt ttl pr a0 a1 a2 a3 a4 a5 a6 a7 So Sb lo.length co lb.length cb _).mono ?_
  clear R2
  rintro e w2 ⟨rfl, b2⟩
  replace hp := (b2.block _ zp).trans hp
  replace zp := Nat.lt_of_lt_of_le zp b2.size
  replace hob := hob.below b2
  replace hbb := hbb.below b2
  replace bel := bel.trans (b2.mono bel.size)
  clear b2
  rw [g1, g2, Bool.or_false]
  have R2 := Lib.hid (range_lit hp 0 16 [.int .i64 tos, .int .i64 id, .int .i64 fl, .int .i64 pt, .int .i64 ttl, .int .i64 pr, .int .u8 (a0.toNat : Int), .int .u8 (a1.toNat : Int), .int .u8 (a2.toNat : Int), .int .u8 (a3.toNat : Int), .int .u8 (a4.toNat : Int), .int .u8 (a5.toNat : Int), .int .u8 (a6.toNat : Int), .int .u8 (a7.toNat : Int), .slice So lo.length co, .slice Sb lb.length cb] rfl)
  go_wp2_with (first | ((with_reducible show wpList _ _ _ (⟨some 14, _, _, _, _, _⟩ :: _) _ _); refine wpList_load_rng 27 (.tmp 2) rfl (by kernel_rfl) _ _ rfl _ R2.out _ Try.underlying27 rfl (by kernel_rfl) ?_))
  with_reducible refine (ipput_any tos id fl pt ttl pr a0 a1 a2 a3 a4 a5 a6 a7 So Sb lo.length co lb.length cb lo lb _ hob hbb (by have := H1.out; omega)).mono ?_
  clear R2
  rintro e w3 ⟨v, r, er, rfl, hown, b3, hpe⟩
  replace hp := (b3.block _ zp).trans hp
  replace zp := Nat.lt_of_lt_of_le zp b3.size
  replace hob := hob.below b3
  replace hbb := hbb.below b3
  replace bel := bel.trans (b3.mono bel.size)
  clear b3
  have he : er = (ipPut tos id fl pt ttl pr a0 a1 a2 a3 a4 a5 a6 a7 lo lb).2 := congrArg Prod.snd hpe
  have q1 : (er == 0) = false := by rw [he]; simpa using hne
  have q2 : (er != 0) = true := by rw [he]; simpa using hne
  clear he hpe hown
  go_wp2_with fail
  go_ret
  exact ⟨rfl, bel⟩
set_option linter.unusedVariables false in
set_option maxRecDepth 100000 in
set_option maxHeartbeats 16000000 in
theorem ip4Bits_low (tos id fl pt ttl pr : Int) (a0 a1 a2 a3 a4 a5 a6 a7 : UInt8) (So Sb : Option Addr) (co cb : Nat) (lo lb : List UInt8) (bit : Int) (w : World) (ho : Sl w So lo.length co lo) (hb : Sl w Sb lb.length cb lb) (h1 : lb.length ≤ 1600) (h2 : lo.length ≤ 100) (PB : List UInt8) (hput : ipPut tos id fl pt ttl pr a0 a1 a2 a3 a4 a5 a6 a7 lo lb = (PB, 0)) (hc : bit < 8) : Calls Try.prog 7 #[.agg #[.int .i64 tos, .int .i64 id, .int .i64 fl, .int .i64 pt, .int .i64 ttl, .int .i64 pr, .int .u8 (a0.toNat : Int), .int .u8 (a1.toNat : Int), .int .u8 (a2.toNat : Int), .int .u8 (a3.toNat : Int), .int .u8 (a4.toNat : Int), .int .u8 (a5.toNat : Int), .int .u8 (a6.toNat : Int), .int .u8 (a7.toNat : Int), .slice So lo.length co, .slice Sb lb.length cb], .int .i64 bit] w fun e w' => e = .returned (.bool true) ∧ Below w.heap.size w w' := by
  have bel := Below.refl w.heap.size w
  have hp : (w.alloc (.cells #[.int .i64 tos, .int .i64 id, .int .i64 fl, .int .i64 pt, .int .i64 ttl, .int .i64 pr, .int .u8 (a0.toNat : Int), .int .u8 (a1.toNat : Int), .int .u8 (a2.toNat : Int), .int .u8 (a3.toNat : Int), .int .u8 (a4.toNat : Int), .int .u8 (a5.toNat : Int), .int .u8 (a6.toNat : Int), .int .u8 (a7.toNat : Int), .slice So lo.length co, .slice Sb lb.length cb] 27)).heap[w.heap.size]? = some (.cells #[.int .i64 tos, .int .i64 id, .int .i64 fl, .int .i64 pt, .int .i64 ttl, .int .i64 pr, .int .u8 (a0.toNat : Int), .int .u8 (a1.toNat : Int), .int .u8 (a2.toNat : Int), .int .u8 (a3.toNat : Int), .int .u8 (a4.toNat : Int), .int .u8 (a5.toNat : Int), .int .u8 (a6.toNat : Int), .int .u8 (a7.toNat : Int), .slice So lo.length co, .slice Sb lb.length cb] 27 (0, 0)) := by have := heap_alloc_new w (.cells #[.int .i64 tos, .int .i64 id, .int .i64 fl, .int .i64 pt, .int .i64 ttl, .int .i64 pr, .int .u8 (a0.toNat : Int), .int .u8 (a1.toNat : Int), .int .u8 (a2.toNat : Int), .int .u8 (a3.toNat : Int), .int .u8 (a4.toNat : Int), .int .u8 (a5.toNat : Int), .int .u8 (a6.toNat : Int), .int .u8 (a7.toNat : Int), .slice So lo.length co, .slice Sb lb.length cb] 27); simpa using this
  have zp : w.heap.size < (w.alloc (.cells #[.int .i64 tos, .int .i64 id, .int .i64 fl, .int .i64 pt, .int .i64 ttl, .int .i64 pr, .int .u8 (a0.toNat : Int), .int .u8 (a1.toNat : Int), .int .u8 (a2.toNat : Int), .int .u8 (a3.toNat : Int), .int .u8 (a4.toNat : Int), .int .u8 (a5.toNat : Int), .int .u8 (a6.toNat : Int), .int .u8 (a7.toNat : Int), .slice So lo.length co, .slice Sb lb.length cb] 27)).heap.size := by simp
  replace bel := bel.alloc bel.size (.cells #[.int .i64 tos, .int .i64 id, .int .i64 fl, .int .i64 pt, .int .i64 ttl, .int .i64 pr, .int .u8 (a0.toNat : Int), .int .u8 (a1.toNat : Int), .int .u8 (a2.toNat : Int), .int .u8 (a3.toNat : Int), .int .u8 (a4.toNat : Int), .int .u8 (a5.toNat : Int), .int .u8 (a6.toNat : Int), .int .u8 (a7.toNat : Int), .slice So lo.length co, .slice Sb lb.length cb] 27)
  have hob := ho.below bel
  have hbb := hb.below bel
  have g1 : decide (1600 < lb.length) = false := decide_eq_false (by omega)
  have g2 : decide (100 < lo.length) = false := decide_eq_false (by omega)
  have H2 := Lib.hid h2
  have H1 := Lib.hid h1
  clear h1 h2
  go_enter Try.func7, Try.ntmps7
  go_wp2_with fail
  with_reducible refine (awake6 _).mono ?_
  rintro e w1 ⟨rfl, b1⟩
  replace hp := (b1.block _ zp).trans hp
  replace zp := Nat.lt_of_lt_of_le zp b1.size
  replace hob := hob.below b1
  replace hbb := hbb.below b1
  replace bel := bel.trans (b1.mono bel.size)
  clear b1
  have R2 := Lib.hid (range_lit hp 0 16 [.int .i64 tos, .int .i64 id, .int .i64 fl, .int .i64 pt, .int .i64 ttl, .int .i64 pr, .int .u8 (a0.toNat : Int), .int .u8 (a1.toNat : Int), .int .u8 (a2.toNat : Int), .int .u8 (a3.toNat : Int), .int .u8 (a4.toNat : Int), .int .u8 (a5.toNat : Int), .int .u8 (a6.toNat : Int), .int .u8 (a7.toNat : Int), .slice So lo.length co, .slice Sb lb.length cb] rfl)
  go_wp2_with (first | ((with_reducible show wpList _ _ _ (⟨some 11, _, _, _, _, _⟩ :: _) _ _); refine wpList_load_rng 27 (.tmp 2) rfl (by kernel_rfl) _ _ rfl _ R2.out _ Try.underlying27 rfl (by kernel_rfl) ?_))
  with_reducible refine (great6_any tos id fl pt ttl pr a0 a1 a2 a3 a4 a5 a6 a7 So Sb lo.length co lb.length cb _).mono ?_
  clear R2
  rintro e w2 ⟨rfl, b2⟩
  replace hp := (b2.block _ zp).trans hp
  replace zp := Nat.lt_of_lt_of_le zp b2.size
  replace hob := hob.below b2
  replace hbb := hbb.below b2
  replace bel := bel.trans (b2.mono bel.size)
  clear b2
  rw [g1, g2, Bool.or_false]
  have R2 := Lib.hid (range_lit hp 0 16 [.int .i64 tos, .int .i64 id, .int .i64 fl, .int .i64 pt, .int .i64 ttl, .int .i64 pr, .int .u8 (a0.toNat : Int), .int .u8 (a1.toNat : Int), .int .u8 (a2.toNat : Int), .int .u8 (a3.toNat : Int), .int .u8 (a4.toNat : Int), .int .u8 (a5.toNat : Int), .int .u8 (a6.toNat : Int), .int .u8 (a7.toNat : Int), .slice So lo.length co, .slice Sb lb.length cb] rfl)
  go_wp2_with (first | ((with_reducible show wpList _ _ _ (⟨some 14, _, _, _, _, _⟩ :: _) _ _); refine wpList_load_rng 27 (.tmp 2) rfl (by kernel_rfl) _ _ rfl _ R2.out _ Try.underlying27 rfl (by kernel_rfl) ?_))
  with_reducible refine (ipput_any tos id fl pt ttl pr a0 a1 a2 a3 a4 a5 a6 a7 So Sb lo.length co lb.length cb lo lb _ hob hbb (by have := H1.out; omega)).mono ?_
  clear R2
  rintro e w3 ⟨v, r, er, rfl, hown, b3, hpe⟩
  replace hp := (b3.block _ zp).trans hp
  replace zp := Nat.lt_of_lt_of_le zp b3.size
  replace hob := hob.below b3
  replace hbb := hbb.below b3
  replace bel := bel.trans (b3.mono bel.size)
  clear b3
  rw [hput] at hpe
  simp only [Prod.mk.injEq] at hpe
  obtain ⟨q1, rfl⟩ := hpe
  obtain rfl : PB = r := q1.symm
  obtain ⟨A1, c1, ev, hs, hfr⟩ := Sl.of_own_f hown
  subst ev
  clear hown hfr hs
  have R26 := cell_lit hp 14 _ rfl
  go_wp2_with fail
  go_ret
  exact ⟨rfl, bel⟩
set_option linter.unusedVariables false in
set_option maxRecDepth 100000 in
set_option maxHeartbeats 16000000 in
theorem ip4Bits_big (tos id fl pt ttl pr : Int) (a0 a1 a2 a3 a4 a5 a6 a7 : UInt8) (So Sb : Option Addr) (co cb : Nat) (lo lb : List UInt8) (bit : Int) (w : World) (ho : Sl w So lo.length co lo) (hb : Sl w Sb lb.length cb lb) (h1 : lb.length ≤ 1600) (h2 : lo.length ≤ 100) (PB : List UInt8) (hput : ipPut tos id fl pt ttl pr a0 a1 a2 a3 a4 a5 a6 a7 lo lb = (PB, 0)) (hc : 8 * (20 + (lo.length : Int)) ≤ bit) : Calls Try.prog 7 #[.agg #[.int .i64 tos, .int .i64 id, .int .i64 fl, .int .i64 pt, .int .i64 ttl, .int .i64 pr, .int .u8 (a0.toNat : Int), .int .u8 (a1.toNat : Int), .int .u8 (a2.toNat : Int), .int .u8 (a3.toNat : Int), .int .u8 (a4.toNat : Int), .int .u8 (a5.toNat : Int), .int .u8 (a6.toNat : Int), .int .u8 (a7.toNat : Int), .slice So lo.length co, .slice Sb lb.length cb], .int .i64 bit] w fun e w' => e = .returned (.bool true) ∧ Below w.heap.size w w' := by
  have bel := Below.refl w.heap.size w
  have hp : (w.alloc (.cells #[.int .i64 tos, .int .i64 id, .int .i64 fl, .int .i64 pt, .int .i64 ttl, .int .i64 pr, .int .u8 (a0.toNat : Int), .int .u8 (a1.toNat : Int), .int .u8 (a2.toNat : Int), .int .u8 (a3.toNat : Int), .int .u8 (a4.toNat : Int), .int .u8 (a5.toNat : Int), .int .u8 (a6.toNat : Int), .int .u8 (a7.toNat : Int), .slice So lo.length co, .slice Sb lb.length cb] 27)).heap[w.heap.size]? = some (.cells #[.int .i64 tos, .int .i64 id, .int .i64 fl, .int .i64 pt, .int .i64 ttl, .int .i64 pr, .int .u8 (a0.toNat : Int), .int .u8 (a1.toNat : Int), .int .u8 (a2.toNat : Int), .int .u8 (a3.toNat : Int), .int .u8 (a4.toNat : Int), .int .u8 (a5.toNat : Int), .int .u8 (a6.toNat : Int), .int .u8 (a7.toNat : Int), .slice So lo.length co, .slice Sb lb.length cb] 27 (0, 0)) := by have := heap_alloc_new w (.cells #[.int .i64 tos, .int .i64 id, .int .i64 fl, .int .i64 pt, .int .i64 ttl, .int .i64 pr, .int .u8 (a0.toNat : Int), .int .u8 (a1.toNat : Int), .int .u8 (a2.toNat : Int), .int .u8 (a3.toNat : Int), .int .u8 (a4.toNat : Int), .int .u8 (a5.toNat : Int), .int .u8 (a6.toNat : Int), .int .u8 (a7.toNat : Int), .slice So lo.length co, .slice Sb lb.length cb] 27); simpa using this
  have zp : w.heap.size < (w.alloc (.cells #[.int .i64 tos, .int .i64 id, .int .i64 fl, .int .i64 pt, .int .i64 ttl, .int .i64 pr, .int .u8 (a0.toNat : Int), .int .u8 (a1.toNat : Int), .int .u8 (a2.toNat : Int), .int .u8 (a3.toNat : Int), .int .u8 (a4.toNat : Int), .int .u8 (a5.toNat : Int), .int .u8 (a6.toNat : Int), .int .u8 (a7.toNat : Int), .slice So lo.length co, .slice Sb lb.length cb] 27)).heap.size := by simp
  replace bel := bel.alloc bel.size (.cells #[.int .i64 tos, .int .i64 id, .int .i64 fl, .int .i64 pt, .int .i64 ttl, .int .i64 pr, .int .u8 (a0.toNat : Int), .int .u8 (a1.toNat : Int), .int .u8 (a2.toNat : Int), .int .u8 (a3.toNat : Int), .int .u8 (a4.toNat : Int), .int .u8 (a5.toNat : Int), .int .u8 (a6.toNat : Int), .int .u8 (a7.toNat : Int), .slice So lo.length co, .slice Sb lb.length cb] 27)
  have hob := ho.below bel
  have hbb := hb.below bel
  have t2 : decide (bit < 8) = false := decide_eq_false (by omega)
  have ew1 : IntKind.i64.wrap (20 + (lo.length : Int)) = 20 + lo.length := by rw [IntKind.wrap_i64]; omega
  have ew2 : IntKind.i64.wrap (8 * (20 + (lo.length : Int))) = 8 * (20 + lo.length) := by rw [IntKind.wrap_i64]; omega
  have g1 : decide (1600 < lb.length) = false := decide_eq_false (by omega)
  have g2 : decide (100 < lo.length) = false := decide_eq_false (by omega)
  have H2 := Lib.hid h2
  have H1 := Lib.hid h1
  clear h1 h2
  go_enter Try.func7, Try.ntmps7
  go_wp2_with fail
  with_reducible refine (awake6 _).mono ?_
  rintro e w1 ⟨rfl, b1⟩
  replace hp := (b1.block _ zp).trans hp
  replace zp := Nat.lt_of_lt_of_le zp b1.size
  replace hob := hob.below b1
  replace hbb := hbb.below b1
  replace bel := bel.trans (b1.mono bel.size)
  clear b1
  have R2 := Lib.hid (range_lit hp 0 16 [.int .i64 tos, .int .i64 id, .int .i64 fl, .int .i64 pt, .int .i64 ttl, .int .i64 pr, .int .u8 (a0.toNat : Int), .int .u8 (a1.toNat : Int), .int .u8 (a2.toNat : Int), .int .u8 (a3.toNat : Int), .int .u8 (a4.toNat : Int), .int .u8 (a5.toNat : Int), .int .u8 (a6.toNat : Int), .int .u8 (a7.toNat : Int), .slice So lo.length co, .slice Sb lb.length cb] rfl)
  go_wp2_with (first | ((with_reducible show wpList _ _ _ (⟨some 11, _, _, _, _, _⟩ :: _) _ _); refine wpList_load_rng 27 (.tmp 2) rfl (by kernel_rfl) _ _ rfl _ R2.out _ Try.underlying27 rfl (by kernel_rfl) ?_))
  with_reducible refine (great6_any tos id fl pt ttl pr a0 a1 a2 a3 a4 a5 a6 a7 So Sb lo.length co lb.length cb _).mono ?_
  clear R2
  rintro e w2 ⟨rfl, b2⟩
  replace hp := (b2.block _ zp).trans hp
  replace zp := Nat.lt_of_lt_of_le zp b2.size
  replace hob := hob.below b2
  replace hbb := hbb.below b2
  replace bel := bel.trans (b2.mono bel.size)
  clear b2
  rw [g1, g2, Bool.or_false]
  have R2 := Lib.hid (range_lit hp 0 16 [.int .i64 tos, .int .i64 id, .int .i64 fl, .int .i64 pt, .int .i64 ttl, .int .i64 pr, .int .u8 (a0.toNat : Int), .int .u8 (a1.toNat : Int), .int .u8 (a2.toNat : Int), .int .u8 (a3.toNat : Int), .int .u8 (a4.toNat : Int), .int .u8 (a5.toNat : Int), .int .u8 (a6.toNat : Int), .int .u8 (a7.toNat : Int), .slice So lo.length co, .slice Sb lb.length cb] rfl)
  go_wp2_with (first | ((with_reducible show wpList _ _ _ (⟨some 14, _, _, _, _, _⟩ :: _) _ _); refine wpList_load_rng 27 (.tmp 2) rfl (by kernel_rfl) _ _ rfl _ R2.out _ Try.underlying27 rfl (by kernel_rfl) ?_))
  with_reducible refine (ipput_any tos id fl pt ttl pr a0 a1 a2 a3 a4 a5 a6 a7 So Sb lo.length co lb.length cb lo lb _ hob hbb (by have := H1.out; omega)).mono ?_
  clear R2
  rintro e w3 ⟨v, r, er, rfl, hown, b3, hpe⟩
  replace hp := (b3.block _ zp).trans hp
  replace zp := Nat.lt_of_lt_of_le zp b3.size
  replace hob := hob.below b3
  replace hbb := hbb.below b3
  replace bel := bel.trans (b3.mono bel.size)
  clear b3
  rw [hput] at hpe
  simp only [Prod.mk.injEq] at hpe
  obtain ⟨q1, rfl⟩ := hpe
  obtain rfl : PB = r := q1.symm
  obtain ⟨A1, c1, ev, hs, hfr⟩ := Sl.of_own_f hown
  subst ev
  clear hown hfr hs
  have R26 := cell_lit hp 14 _ rfl
  go_wp2_with fail
  go_ret
  exact ⟨rfl, bel⟩
set_option linter.unusedVariables false in
set_option maxRecDepth 100000 in
set_option maxHeartbeats 16000000 in
theorem ip4Bits_in (tos id fl pt ttl pr : Int) (a0 a1 a2 a3 a4 a5 a6 a7 : UInt8) (So Sb : Option Addr) (co cb : Nat) (lo lb : List UInt8) (bit : Nat) (w : World) (ho : Sl w So lo.length co lo) (hb : Sl w Sb lb.length cb lb) (h1 : lb.length ≤ 1600) (h2 : lo.length ≤ 100) (PB : List UInt8) (hput : ipPut tos id fl pt ttl pr a0 a1 a2 a3 a4 a5 a6 a7 lo lb = (PB, 0)) (hpl : 20 ≤ PB.length ∧ PB.length ≤ 1500) (hk1 : 8 ≤ bit) (hk2 : bit < 8 * (20 + lo.length)) (hlo : 20 + lo.length ≤ PB.length) (hck : ck (PB.take (20 + lo.length)) = 0) (hbn : ipErr PB = 0) (hhl : hlen (PB.getD 0 0) = 20 + lo.length) : Calls Try.prog 7 #[.agg #[.int .i64 tos, .int .i64 id, .int .i64 fl, .int .i64 pt, .int .i64 ttl, .int .i64 pr, .int .u8 (a0.toNat : Int), .int .u8 (a1.toNat : Int), .int .u8 (a2.toNat : Int), .int .u8 (a3.toNat : Int), .int .u8 (a4.toNat : Int), .int .u8 (a5.toNat : Int), .int .u8 (a6.toNat : Int), .int .u8 (a7.toNat : Int), .slice So lo.length co, .slice Sb lb.length cb], .int .i64 bit] w fun e w' => e = .returned (.bool true) ∧ Below w.heap.size w w' := by
  have bel := Below.refl w.heap.size w
  have hp : (w.alloc (.cells #[.int .i64 tos, .int .i64 id, .int .i64 fl, .int .i64 pt, .int .i64 ttl, .int .i64 pr, .int .u8 (a0.toNat : Int), .int .u8 (a1.toNat : Int), .int .u8 (a2.toNat : Int), .int .u8 (a3.toNat : Int), .int .u8 (a4.toNat : Int), .int .u8 (a5.toNat : Int), .int .u8 (a6.toNat : Int), .int .u8 (a7.toNat : Int), .slice So lo.length co, .slice Sb lb.length cb] 27)).heap[w.heap.size]? = some (.cells #[.int .i64 tos, .int .i64 id, .int .i64 fl, .int .i64 pt, .int .i64 ttl, .int .i64 pr, .int .u8 (a0.toNat : Int), .int .u8 (a1.toNat : Int), .int .u8 (a2.toNat : Int), .int .u8 (a3.toNat : Int), .int .u8 (a4.toNat : Int), .int .u8 (a5.toNat : Int), .int .u8 (a6.toNat : Int), .int .u8 (a7.toNat : Int), .slice So lo.length co, .slice Sb lb.length cb] 27 (0, 0)) := by have := heap_alloc_new w (.cells #[.int .i64 tos, .int .i64 id, .int .i64 fl, .int .i64 pt, .int .i64 ttl, .int .i64 pr, .int .u8 (a0.toNat : Int), .int .u8 (a1.toNat : Int), .int .u8 (a2.toNat : Int), .int .u8 (a3.toNat : Int), .int .u8 (a4.toNat : Int), .int .u8 (a5.toNat : Int), .int .u8 (a6.toNat : Int), .int .u8 (a7.toNat : Int), .slice So lo.length co, .slice Sb lb.length cb] 27); simpa using this
  have zp : w.heap.size < (w.alloc (.cells #[.int .i64 tos, .int .i64 id, .int .i64 fl, .int .i64 pt, .int .i64 ttl, .int .i64 pr, .int .u8 (a0.toNat : Int), .int .u8 (a1.toNat : Int), .int .u8 (a2.toNat : Int), .int .u8 (a3.toNat : Int), .int .u8 (a4.toNat : Int), .int .u8 (a5.toNat : Int), .int .u8 (a6.toNat : Int), .int .u8 (a7.toNat : Int), .slice So lo.length co, .slice Sb lb.length cb] 27)).heap.size := by simp
  replace bel := bel.alloc bel.size (.cells #[.int .i64 tos, .int .i64 id, .int .i64 fl, .int .i64 pt, .int .i64 ttl, .int .i64 pr, .int .u8 (a0.toNat : Int), .int .u8 (a1.toNat : Int), .int .u8 (a2.toNat : Int), .int .u8 (a3.toNat : Int), .int .u8 (a4.toNat : Int), .int .u8 (a5.toNat : Int), .int .u8 (a6.toNat : Int), .int .u8 (a7.toNat : Int), .slice So lo.length co, .slice Sb lb.length cb] 27)
  have hob := ho.below bel
  have hbb := hb.below bel
  have ew1 : IntKind.i64.wrap (20 + (lo.length : Int)) = 20 + lo.length := by rw [IntKind.wrap_i64]; omega
  have ew2 : IntKind.i64.wrap (8 * (20 + (lo.length : Int))) = 8 * (20 + lo.length) := by rw [IntKind.wrap_i64]; omega
  have t2 : decide ((bit : Int) < 8) = false := decide_eq_false (by omega)
  have t3 : decide (8 * (20 + (lo.length : Int)) ≤ bit) = false := decide_eq_false (by omega)
  have HPL := Lib.hid hpl; have HK1 := Lib.hid hk1; have HK2 := Lib.hid hk2; have HLO := Lib.hid hlo; have HBN := Lib.hid hbn
  clear hpl hk1 hk2 hlo hbn
  have g1 : decide (1600 < lb.length) = false := decide_eq_false (by omega)
  have g2 : decide (100 < lo.length) = false := decide_eq_false (by omega)
  have H2 := Lib.hid h2
  have H1 := Lib.hid h1
  clear h1 h2
  go_enter Try.func7, Try.ntmps7
  go_wp2_with fail
  with_reducible refine (awake6 _).mono ?_
  rintro e w1 ⟨rfl, b1⟩
  replace hp := (b1.block _ zp).trans hp
  replace zp := Nat.lt_of_lt_of_le zp b1.size
  replace hob := hob.below b1
  replace hbb := hbb.below b1
  replace bel := bel.trans (b1.mono bel.size)
  clear b1
  have R2 := Lib.hid (range_lit hp 0 16 [.int .i64 tos, .int .i64 id, .int .i64 fl, .int .i64 pt, .int .i64 ttl, .int .i64 pr, .int .u8 (a0.toNat : Int), .int .u8 (a1.toNat : Int), .int .u8 (a2.toNat : Int), .int .u8 (a3.toNat : Int), .int .u8 (a4.toNat : Int), .int .u8 (a5.toNat : Int), .int .u8 (a6.toNat : Int), .int .u8 (a7.toNat : Int), .slice So lo.length co, .slice Sb lb.length cb] rfl)
  go_wp2_with (first | ((with_reducible show wpList _ _ _ (⟨some 11, _, _, _, _, _⟩ :: _) _ _); refine wpList_load_rng 27 (.tmp 2) rfl (by kernel_rfl) _ _ rfl _ R2.out _ Try.underlying27 rfl (by kernel_rfl) ?_))
  with_reducible refine (great6_any tos id fl pt ttl pr a0 a1 a2 a3 a4 a5 a6 a7 So Sb lo.length co lb.length cb _).mono ?_
  clear R2
  rintro e w2 ⟨rfl, b2⟩
  replace hp := (b2.block _ zp).trans hp
  replace zp := Nat.lt_of_lt_of_le zp b2.size
  replace hob := hob.below b2
  replace hbb := hbb.below b2
  replace bel := bel.trans (b2.mono bel.size)
  clear b2
  rw [g1, g2, Bool.or_false]
  have oz := bel.size
  have R2 := Lib.hid (range_lit hp 0 16 [.int .i64 tos, .int .i64 id, .int .i64 fl, .int .i64 pt, .int .i64 ttl, .int .i64 pr, .int .u8 (a0.toNat : Int), .int .u8 (a1.toNat : Int), .int .u8 (a2.toNat : Int), .int .u8 (a3.toNat : Int), .int .u8 (a4.toNat : Int), .int .u8 (a5.toNat : Int), .int .u8 (a6.toNat : Int), .int .u8 (a7.toNat : Int), .slice So lo.length co, .slice Sb lb.length cb] rfl)
  go_wp2_with (first | ((with_reducible show wpList _ _ _ (⟨some 14, _, _, _, _, _⟩ :: _) _ _); refine wpList_load_rng 27 (.tmp 2) rfl (by kernel_rfl) _ _ rfl _ R2.out _ Try.underlying27 rfl (by kernel_rfl) ?_))
  with_reducible refine (ipput_any tos id fl pt ttl pr a0 a1 a2 a3 a4 a5 a6 a7 So Sb lo.length co lb.length cb lo lb _ hob hbb (by have := H1.out; omega)).mono ?_
  clear R2
  rintro e w3 ⟨v, r, er, rfl, hown, b3, hpe⟩
  replace hp := (b3.block _ zp).trans hp
  replace zp := Nat.lt_of_lt_of_le zp b3.size
  replace hob := hob.below b3
  replace hbb := hbb.below b3
  replace bel := bel.trans (b3.mono bel.size)
  clear b3
  rw [hput] at hpe
  simp only [Prod.mk.injEq] at hpe
  obtain ⟨q1, rfl⟩ := hpe
  obtain rfl : PB = r := q1.symm
  obtain ⟨g, cc, rfl, ow, hgb, hnl⟩ := Ow.of_own hown (by have := HPL.out; omega)
  clear hown hnl
  have hgw : w.heap.size ≤ g := Nat.le_trans oz hgb
  have hsl := ow.sl
  obtain ⟨F, cF, sF, hF⟩ := slice_front hsl (k := 20 + lo.length) (by have := HLO.out; omega)
  rw [show ((20 + lo.length : Nat) : Int) = 20 + (lo.length : Int) by omega] at sF
  have R26 := cell_lit hp 14 _ rfl
  have R34 := cell_lit hp 14 _ rfl
  go_wp2_with fail
  with_reducible refine (rof_b F (20 + lo.length) cF _ _ hF (by have := H2.out; omega)).mono ?_
  clear R26 R34
  rintro e w4 ⟨rfl, b4⟩
  replace hp := (b4.block _ zp).trans hp
  replace zp := Nat.lt_of_lt_of_le zp b4.size
  replace hF := hF.below b4
  replace bel := bel.trans (b4.mono bel.size)
  replace ow := ow.below b4
  clear b4
  rw [hck]
  clear sF hF hsl
  
  obtain ⟨x, hx, cx, fx⟩ := ow.at_ (bit / 8) (by have := HLO.out; have := HK2.out; omega)
  have b8 : (bit : Int) / 8 < PB.length := by have := HLO.out; have := HK2.out; omega
  have b9 : 0 ≤ (bit : Int) / 8 := by omega
  have c0 : (0 : Int) ≤ bit := by omega
  have c1 : (bit : Int) < 1000 := by have := HK2.out; have := H2.out; omega
  have bcc : (PB.length : Int) ≤ cc := by have := ow.1; omega
  have hx0 : (0 : Int) ≤ x.toNat := by omega
  have hx1 : (x.toNat : Int) < 256 := by have := x.toNat_lt; omega
  have h7 := i64_and7 bit
  have r0 : 0 ≤ (bit : Int) % 8 := by omega
  have r1 : (bit : Int) % 8 < 8 := by omega
  obtain ⟨y, hy, hxor⟩ := xor_bit x (bit % 8) (by omega)
  have SP := Lib.hid (bit_none HBN.out (bit / 8) (bit % 8) x y (by have := HK1.out; omega) (by rw [hhl]; have := HK2.out; omega) hx.out (by omega) hy)
  have ey : u8v y = .int .u8 (y.toNat : Int) := rfl
  have ow8 := ow.set (bit / 8) y
  rw [ey] at ow8
  have bel8 := bel.setCell (p := ⟨g, bit / 8, none⟩) hgw (.int .u8 (y.toNat : Int))
  have hs8 := ow8.sl
  rw [List.length_set] at hs8
  clear hy ey ow ow8 hx
  have bel := bel8
  go_wp2_with fail
  with_reducible refine (ipget_any _ PB.length cc _ _ hs8 (by have := HPL.out; omega)).mono ?_
  rintro e w5 ⟨f0, f1, f2, f3, f4, f5, g0, g1, g2, g3, g4, g5, g6, g7, lo1, lb1, Ao1, Ab1, co1, cb1, er1, rfl, _, _, b5, hg1⟩
  replace bel := bel.trans (b5.mono bel.size)
  clear b5
  have e5 := (er_of hg1).trans SP.out
  subst e5
  clear hg1 hs8
  have nq := heap_alloc_new w5 (.cells #[.int .i64 0, .int .i64 0, .int .i64 0, .int .i64 0, .int .i64 0, .int .i64 0, .int .u8 0, .int .u8 0, .int .u8 0, .int .u8 0, .int .u8 0, .int .u8 0, .int .u8 0, .int .u8 0, .slice none 0 0, .slice none 0 0] 27)
  have bqq := (Below.refl w5.heap.size w5).alloc (Nat.le_refl _) (.cells #[.int .i64 0, .int .i64 0, .int .i64 0, .int .i64 0, .int .i64 0, .int .i64 0, .int .u8 0, .int .u8 0, .int .u8 0, .int .u8 0, .int .u8 0, .int .u8 0, .int .u8 0, .int .u8 0, .slice none 0 0, .slice none 0 0] 27)
  go_wp2_with (first | ((with_reducible show wpList _ _ _ (⟨none, Op.store _ _ _, _, _, _, _⟩ :: _) _ _); refine wpList_store_blk rfl 27 _ _ rfl (w5.heap.size) rfl #[.int .i64 f0, .int .i64 f1, .int .i64 f2, .int .i64 f3, .int .i64 f4, .int .i64 f5, .int .u8 (g0.toNat : Int), .int .u8 (g1.toNat : Int), .int .u8 (g2.toNat : Int), .int .u8 (g3.toNat : Int), .int .u8 (g4.toNat : Int), .int .u8 (g5.toNat : Int), .int .u8 (g6.toNat : Int), .int .u8 (g7.toNat : Int), .slice Ao1 lo1.length co1, .slice Ab1 lb1.length cb1] rfl _ 27 nq (by rfl) (by kernel_rfl) (by kernel_rfl) ?_; intro x6 hq gq; have bz := below_grown bqq gq (Nat.le_refl _) bqq.size; replace bel := bel.trans (bz.mono bel.size); have zq := (Array.getElem?_eq_some_iff.1 hq).1; clear nq bqq bz gq))
  go_ret
  exact ⟨rfl, bel⟩

theorem ck_of {l : List UInt8} (h : ipErr l = 0) : ck (l.take (hlen (l.getD 0 0))) = 0 ∧ hlen (l.getD 0 0) ≤ l.length := by
  have h20 : 20 ≤ l.length := Nat.le_of_not_lt fun g => by unfold ipErr at h; rw [if_pos g] at h; cases h
  obtain ⟨h0, h1, h2, h3, h4, h5, h6, h7, h8, h9, h10, h11, h12, h13, h14, h15, h16, h17, h18, h19, r, rfl⟩ := list20 l h20
  exact ⟨(ok_parts h).2.2.2.1, (ok_parts h).2.2.1⟩
theorem ip4Bits_walk (tos id fl pt ttl pr : Int) (a0 a1 a2 a3 a4 a5 a6 a7 : UInt8) (So : Option Addr) (no co : Nat) (lo : List UInt8) (Sb : Option Addr) (nb cb : Nat) (lb : List UInt8) (bit : Int) (w : World) (ho : Sl w So no co lo) (hb : Sl w Sb nb cb lb) :
    Calls Try.prog 7 #[.agg #[.int .i64 tos, .int .i64 id, .int .i64 fl, .int .i64 pt, .int .i64 ttl, .int .i64 pr, .int .u8 (a0.toNat : Int), .int .u8 (a1.toNat : Int), .int .u8 (a2.toNat : Int), .int .u8 (a3.toNat : Int), .int .u8 (a4.toNat : Int), .int .u8 (a5.toNat : Int), .int .u8 (a6.toNat : Int), .int .u8 (a7.toNat : Int), .slice So no co, .slice Sb nb cb], .int .i64 bit] w fun e w' => e = .returned (.bool true) ∧ Below w.heap.size w w' := by
  obtain rfl := ho.1
  obtain rfl := hb.1
  cases hgr : (decide (1600 < lb.length) || decide (100 < lo.length))
  · simp only [Bool.or_eq_false_iff, decide_eq_false_iff_not] at hgr
    have h1 : lb.length ≤ 1600 := by omega
    have h2 : lo.length ≤ 100 := by omega
    rcases put_cases tos id fl pt ttl pr a0 a1 a2 a3 a4 a5 a6 a7 lo lb with he | ⟨hf, hn, hput⟩
    · exact ip4Bits_refused tos id fl pt ttl pr a0 a1 a2 a3 a4 a5 a6 a7 So Sb co cb lo lb bit w ho hb h1 h2 he
    have g := put_good (a0 := a0) (a1 := a1) (a2 := a2) (a3 := a3) (a4 := a4) (a5 := a5) (a6 := a6) (a7 := a7) (body := lb) hf hn []
    rw [List.append_nil] at g
    by_cases c1 : bit < 8
    · exact ip4Bits_low tos id fl pt ttl pr a0 a1 a2 a3 a4 a5 a6 a7 So Sb co cb lo lb bit w ho hb h1 h2 _ hput c1
    by_cases c2 : 8 * (20 + (lo.length : Int)) ≤ bit
    · exact ip4Bits_big tos id fl pt ttl pr a0 a1 a2 a3 a4 a5 a6 a7 So Sb co cb lo lb bit w ho hb h1 h2 _ hput c2
    obtain ⟨k, rfl⟩ : ∃ k : Nat, bit = k := ⟨bit.toNat, by omega⟩
    have q := ck_of g.1
    rw [g.2.2.2.1] at q
    exact ip4Bits_in tos id fl pt ttl pr a0 a1 a2 a3 a4 a5 a6 a7 So Sb co cb lo lb k w ho hb h1 h2 _ hput ⟨by rw [g.2.2.1]; omega, by rw [g.2.2.1]; omega⟩ (by omega) (by omega) q.2 q.1 g.1 g.2.2.2.1
  · exact ip4Bits_great tos id fl pt ttl pr a0 a1 a2 a3 a4 a5 a6 a7 So Sb co cb lo lb bit w ho hb hgr
end Go.Proofs.Ytabogdpjjclapaa
