/- TrackKnown, TrackShakes. -/
import Derived.Test.YtjfkeocdojjpgaaLaw18
namespace Go.Proofs.Ytjfkeocdojjpgaa
open Go.RowKit

def kS (s : Int) (d : Bool) : Ts := ⟨1, [⟨1, atA 1, 80, s, d⟩]⟩
def kS0 : Ts := ⟨1, []⟩
def kS8 : Ts := ⟨1, [⟨2, atA 1, 80, 1, true⟩]⟩
theorem k_1 {lo gt : Nat} (w : World) (hT : Tk lo gt w kS0) : Calls Try.prog 10 #[.pointer (some ⟨gt, 0, none⟩), .int .i64 1, .agg #[.int .u8 ((atA 1).a.toNat : Int), .int .u8 ((atA 1).b.toNat : Int), .int .u8 ((atA 1).c.toNat : Int), .int .u8 ((atA 1).d.toNat : Int)], .int .i64 80, .bool false, .agg #[.int .i64 0, .int .i64 0, .int .u32 0, .int .u32 0, .int .i64 16, .int .i64 0, .int .i64 0, .slice none 0 0, .slice none 0 0]] w fun e w' => e = .returned (.int .i64 0) ∧ Tk lo gt w' kS0 ∧ Fap gt w w' ∧ Below lo w w' := see_none (s := kS0) (y := ⟨1, atA 1, 80, 0, false⟩) w hT (by kernel_rfl) (by kernel_rfl) rfl rfl
theorem k_2 {lo gt : Nat} (w : World) (hT : Tk lo gt w kS0) : Calls Try.prog 10 #[.pointer (some ⟨gt, 0, none⟩), .int .i64 1, .agg #[.int .u8 ((atA 1).a.toNat : Int), .int .u8 ((atA 1).b.toNat : Int), .int .u8 ((atA 1).c.toNat : Int), .int .u8 ((atA 1).d.toNat : Int)], .int .i64 80, .bool false, .agg #[.int .i64 0, .int .i64 0, .int .u32 0, .int .u32 0, .int .i64 2, .int .i64 0, .int .i64 0, .slice none 0 0, .slice none 0 0]] w fun e w' => e = .returned (.int .i64 1) ∧ Tk lo gt w' (kS 1 false) ∧ Fap gt w w' ∧ Below lo w w' := see_new (s := kS0) (s2 := kS 1 false) w hT (by kernel_rfl) (by kernel_rfl) rfl (by decide) (by decide) rfl
theorem k_3 {lo gt : Nat} (w : World) (hT : Tk lo gt w (kS 1 false)) : Calls Try.prog 10 #[.pointer (some ⟨gt, 0, none⟩), .int .i64 1, .agg #[.int .u8 ((atA 1).a.toNat : Int), .int .u8 ((atA 1).b.toNat : Int), .int .u8 ((atA 1).c.toNat : Int), .int .u8 ((atA 1).d.toNat : Int)], .int .i64 80, .bool false, .agg #[.int .i64 0, .int .i64 0, .int .u32 0, .int .u32 0, .int .i64 1, .int .i64 0, .int .i64 0, .slice none 0 0, .slice none 0 0]] w fun e w' => e = .returned (.int .i64 4) ∧ Tk lo gt w' (kS 4 false) ∧ Fap gt w w' ∧ Below lo w w' := see_old (s := kS 1 false) (s2 := kS 4 false) (i := 0) w hT (by kernel_rfl) rfl (by kernel_rfl) rfl rfl
theorem k_4 {lo gt : Nat} (w : World) (hT : Tk lo gt w (kS 4 false)) : Calls Try.prog 10 #[.pointer (some ⟨gt, 0, none⟩), .int .i64 1, .agg #[.int .u8 ((atA 1).a.toNat : Int), .int .u8 ((atA 1).b.toNat : Int), .int .u8 ((atA 1).c.toNat : Int), .int .u8 ((atA 1).d.toNat : Int)], .int .i64 80, .bool false, .agg #[.int .i64 0, .int .i64 0, .int .u32 0, .int .u32 0, .int .i64 1, .int .i64 0, .int .i64 0, .slice none 0 0, .slice none 0 0]] w fun e w' => e = .returned (.int .i64 4) ∧ Tk lo gt w' (kS 4 false) ∧ Fap gt w w' ∧ Below lo w w' := see_old (s := kS 4 false) (s2 := kS 4 false) (i := 0) w hT (by kernel_rfl) rfl (by kernel_rfl) rfl rfl
theorem k_5 {lo gt : Nat} (w : World) (hT : Tk lo gt w (kS 4 false)) : Calls Try.prog 10 #[.pointer (some ⟨gt, 0, none⟩), .int .i64 1, .agg #[.int .u8 ((atA 1).a.toNat : Int), .int .u8 ((atA 1).b.toNat : Int), .int .u8 ((atA 1).c.toNat : Int), .int .u8 ((atA 1).d.toNat : Int)], .int .i64 80, .bool true, .agg #[.int .i64 0, .int .i64 0, .int .u32 0, .int .u32 0, .int .i64 17, .int .i64 0, .int .i64 0, .slice none 0 0, .slice none 0 0]] w fun e w' => e = .returned (.int .i64 5) ∧ Tk lo gt w' (kS 5 false) ∧ Fap gt w w' ∧ Below lo w w' := see_old (s := kS 4 false) (s2 := kS 5 false) (i := 0) w hT (by kernel_rfl) rfl (by kernel_rfl) rfl rfl
theorem k_6 {lo gt : Nat} (w : World) (hT : Tk lo gt w (kS 5 false)) : Calls Try.prog 10 #[.pointer (some ⟨gt, 0, none⟩), .int .i64 1, .agg #[.int .u8 ((atA 1).a.toNat : Int), .int .u8 ((atA 1).b.toNat : Int), .int .u8 ((atA 1).c.toNat : Int), .int .u8 ((atA 1).d.toNat : Int)], .int .i64 80, .bool true, .agg #[.int .i64 0, .int .i64 0, .int .u32 0, .int .u32 0, .int .i64 4, .int .i64 0, .int .i64 0, .slice none 0 0, .slice none 0 0]] w fun e w' => e = .returned (.int .i64 6) ∧ Tk lo gt w' (kS 6 false) ∧ Fap gt w w' ∧ Below lo w w' := see_old (s := kS 5 false) (s2 := kS 6 false) (i := 0) w hT (by kernel_rfl) rfl (by kernel_rfl) rfl rfl
theorem k_7 {lo gt : Nat} (w : World) (hT : Tk lo gt w (kS 6 false)) : Calls Try.prog 10 #[.pointer (some ⟨gt, 0, none⟩), .int .i64 1, .agg #[.int .u8 ((atA 1).a.toNat : Int), .int .u8 ((atA 1).b.toNat : Int), .int .u8 ((atA 1).c.toNat : Int), .int .u8 ((atA 1).d.toNat : Int)], .int .i64 80, .bool true, .agg #[.int .i64 0, .int .i64 0, .int .u32 0, .int .u32 0, .int .i64 2, .int .i64 0, .int .i64 0, .slice none 0 0, .slice none 0 0]] w fun e w' => e = .returned (.int .i64 1) ∧ Tk lo gt w' (kS 1 true) ∧ Fap gt w w' ∧ Below lo w w' := see_old (s := kS 6 false) (s2 := kS 1 true) (i := 0) w hT (by kernel_rfl) rfl (by kernel_rfl) rfl rfl
theorem k_8 {lo gt : Nat} (w : World) (hT : Tk lo gt w (kS 1 true)) : Calls Try.prog 10 #[.pointer (some ⟨gt, 0, none⟩), .int .i64 2, .agg #[.int .u8 ((atA 1).a.toNat : Int), .int .u8 ((atA 1).b.toNat : Int), .int .u8 ((atA 1).c.toNat : Int), .int .u8 ((atA 1).d.toNat : Int)], .int .i64 80, .bool true, .agg #[.int .i64 0, .int .i64 0, .int .u32 0, .int .u32 0, .int .i64 2, .int .i64 0, .int .i64 0, .slice none 0 0, .slice none 0 0]] w fun e w' => e = .returned (.int .i64 1) ∧ Tk lo gt w' kS8 ∧ Fap gt w w' ∧ Below lo w w' := see_full (s := kS 1 true) (s2 := kS8) (y := ⟨2, atA 1, 80, 1, true⟩) w hT (by kernel_rfl) (by kernel_rfl) rfl (by decide) (by decide) (by kernel_rfl)
theorem k_9 {lo gt : Nat} (w : World) (hT : Tk lo gt w kS8) : Calls Try.prog 12 #[.pointer (some ⟨gt, 0, none⟩), .int .i64 1, .agg #[.int .u8 ((atA 1).a.toNat : Int), .int .u8 ((atA 1).b.toNat : Int), .int .u8 ((atA 1).c.toNat : Int), .int .u8 ((atA 1).d.toNat : Int)], .int .i64 80] w fun e w' => e = .returned (.int .i64 0) ∧ Tk lo gt w' kS8 ∧ Fap gt w w' ∧ Below lo w w' := st_no (s := kS8) w hT (by kernel_rfl)
theorem k_10 {lo gt : Nat} (w : World) (hT : Tk lo gt w kS8) : Calls Try.prog 13 #[.pointer (some ⟨gt, 0, none⟩)] w fun e w' => e = .returned (.int .i64 1) ∧ Tk lo gt w' kS8 ∧ Fap gt w w' ∧ Below lo w w' := len_is (s := kS8) w hT rfl
set_option linter.unusedVariables false in
set_option linter.unusedSimpArgs false in
set_option maxRecDepth 100000 in
set_option maxHeartbeats 16000000 in
theorem trackKnown_walk (w : World) : Calls Try.prog 3 #[] w fun e w' => e = .returned (.bool true) ∧ Below w.heap.size w w' := by
  have bel := Below.refl w.heap.size w
  go_enter Try.func3, Try.ntmps3
  go_wp2_with fail
  with_reducible refine (awake_any _).mono ?_
  rintro e w1 ⟨rfl, b1⟩
  replace bel := bel.trans (b1.mono bel.size)
  clear b1
  go_wp2_with fail
  with_reducible refine (tnew_lo (rm := 0) _ (by decide)).mono ?_
  rintro e w2 ⟨rfl, b2⟩
  replace bel := bel.trans (b2.mono bel.size)
  clear b2
  go_wp2_with fail
  have HLO_ := bel.size
  with_reducible refine (tnew_any (rm := 1) _ (by decide) (by decide)).mono ?_
  rintro e w3 ⟨gt, rfl, hT, b3⟩
  replace bel := bel.trans (b3.mono bel.size)
  clear b3
  replace hT : Tk w.heap.size gt w3 kS0 := hT.lo_mono HLO_
  clear HLO_
  go_wp2_with fail
  with_reducible refine (at_k 1 _).mono ?_
  rintro e w4 ⟨rfl, b4⟩
  replace hT := hT.below b4
  replace bel := bel.trans (b4.mono bel.size)
  clear b4
  go_wp2_with fail
  with_reducible refine (k_1 _ hT).mono ?_
  rintro e w5 ⟨rfl, hT_, f_, bb⟩
  clear hT
  have hT := hT_
  replace bel := bel.trans bb
  clear bb f_ hT_
  go_wp2_with fail
  with_reducible refine (at_k 1 _).mono ?_
  rintro e w6 ⟨rfl, b6⟩
  replace hT := hT.below b6
  replace bel := bel.trans (b6.mono bel.size)
  clear b6
  go_wp2_with fail
  with_reducible refine (k_2 _ hT).mono ?_
  rintro e w7 ⟨rfl, hT_, f_, bb⟩
  clear hT
  have hT := hT_
  replace bel := bel.trans bb
  clear bb f_ hT_
  go_wp2_with fail
  with_reducible refine (at_k 1 _).mono ?_
  rintro e w8 ⟨rfl, b8⟩
  replace hT := hT.below b8
  replace bel := bel.trans (b8.mono bel.size)
  clear b8
  go_wp2_with fail
  with_reducible refine (k_3 _ hT).mono ?_
  rintro e w9 ⟨rfl, hT_, f_, bb⟩
  clear hT
  have hT := hT_
  replace bel := bel.trans bb
  clear bb f_ hT_
  go_wp2_with fail
  with_reducible refine (at_k 1 _).mono ?_
  rintro e w10 ⟨rfl, b10⟩
  replace hT := hT.below b10
  replace bel := bel.trans (b10.mono bel.size)
  clear b10
  go_wp2_with fail
  with_reducible refine (k_4 _ hT).mono ?_
  rintro e w11 ⟨rfl, hT_, f_, bb⟩
  clear hT
  have hT := hT_
  replace bel := bel.trans bb
  clear bb f_ hT_
  go_wp2_with fail
  with_reducible refine (at_k 1 _).mono ?_
  rintro e w12 ⟨rfl, b12⟩
  replace hT := hT.below b12
  replace bel := bel.trans (b12.mono bel.size)
  clear b12
  go_wp2_with fail
  with_reducible refine (k_5 _ hT).mono ?_
  rintro e w13 ⟨rfl, hT_, f_, bb⟩
  clear hT
  have hT := hT_
  replace bel := bel.trans bb
  clear bb f_ hT_
  go_wp2_with fail
  with_reducible refine (at_k 1 _).mono ?_
  rintro e w14 ⟨rfl, b14⟩
  replace hT := hT.below b14
  replace bel := bel.trans (b14.mono bel.size)
  clear b14
  go_wp2_with fail
  with_reducible refine (k_6 _ hT).mono ?_
  rintro e w15 ⟨rfl, hT_, f_, bb⟩
  clear hT
  have hT := hT_
  replace bel := bel.trans bb
  clear bb f_ hT_
  go_wp2_with fail
  with_reducible refine (at_k 1 _).mono ?_
  rintro e w16 ⟨rfl, b16⟩
  replace hT := hT.below b16
  replace bel := bel.trans (b16.mono bel.size)
  clear b16
  go_wp2_with fail
  with_reducible refine (k_7 _ hT).mono ?_
  rintro e w17 ⟨rfl, hT_, f_, bb⟩
  clear hT
  have hT := hT_
  replace bel := bel.trans bb
  clear bb f_ hT_
  go_wp2_with fail
  with_reducible refine (at_k 1 _).mono ?_
  rintro e w18 ⟨rfl, b18⟩
  replace hT := hT.below b18
  replace bel := bel.trans (b18.mono bel.size)
  clear b18
  go_wp2_with fail
  with_reducible refine (k_8 _ hT).mono ?_
  rintro e w19 ⟨rfl, hT_, f_, bb⟩
  clear hT
  have hT := hT_
  replace bel := bel.trans bb
  clear bb f_ hT_
  go_wp2_with fail
  with_reducible refine (at_k 1 _).mono ?_
  rintro e w20 ⟨rfl, b20⟩
  replace hT := hT.below b20
  replace bel := bel.trans (b20.mono bel.size)
  clear b20
  go_wp2_with fail
  with_reducible refine (k_9 _ hT).mono ?_
  rintro e w21 ⟨rfl, hT_, f_, bb⟩
  clear hT
  have hT := hT_
  replace bel := bel.trans bb
  clear bb f_ hT_
  go_wp2_with fail
  with_reducible refine (k_10 _ hT).mono ?_
  rintro e w22 ⟨rfl, hT_, f_, bb⟩
  clear hT
  have hT := hT_
  replace bel := bel.trans bb
  clear bb f_ hT_
  go_wp2_with fail
  with_reducible refine (secs_any 6 7200 _).mono ?_
  rintro e _ ⟨rfl, rfl⟩
  rw [show secV 6 7200 = 10 by decide]
  go_wp2_with fail
  with_reducible refine (secs_any 5 9 _).mono ?_
  rintro e _ ⟨rfl, rfl⟩
  rw [show secV 5 9 = 9 by decide]
  go_wp2_with fail
  with_reducible refine (secs_any 0 7200 _).mono ?_
  rintro e _ ⟨rfl, rfl⟩
  rw [show secV 0 7200 = 60 by decide]
  go_wp2_with fail
  go_ret
  exact ⟨rfl, bel⟩
/-- A talk of one kind in a table of four. -/
def hS (s : Int) (d : Bool) : Ts := ⟨4, [⟨1, atA 1, 80, s, d⟩]⟩
def hX (s : Int) (d : Bool) : Cn := ⟨1, atA 1, 80, s, d⟩
theorem sh_or : ∀ i : Fin 51, bits .or .i64 16 (bits .and .i64 (i.val : Int) 8) = 16 ∨ bits .or .i64 16 (bits .and .i64 (i.val : Int) 8) = 24 := by decide +kernel
theorem sh_16 (b d : Bool) : fol (hX 3 d) b 16 = hX 3 d := by cases b <;> cases d <;> kernel_rfl
theorem sh_24 (b d : Bool) : fol (hX 3 d) b 24 = hX 3 d := by cases b <;> cases d <;> kernel_rfl
theorem sh_ack {j f : Int} (h0 : 0 ≤ j) (h1 : j ≤ 50) (hf : bits .or .i64 16 (bits .and .i64 j 8) = f) (b d : Bool) : fol (hX 3 d) b f = hX 3 d := by
  have h := sh_or ⟨j.toNat, by omega⟩
  simp only [Int.toNat_of_nonneg h0, hf] at h
  rcases h with h | h <;> rw [h]
  · exact sh_16 b d
  · exact sh_24 b d
theorem sh_2 (b : Bool) : fol (hX 1 b) (!b) 18 = hX 2 b := by cases b <;> kernel_rfl
theorem sh_3 (b : Bool) : fol (hX 2 b) b 16 = hX 3 b := by cases b <;> kernel_rfl
theorem sh_4 (b c : Bool) : fol (hX 3 b) c 17 = hX 4 c := by cases b <;> cases c <;> kernel_rfl
theorem sh_5 (b : Bool) : fol (hX 4 b) b 17 = hX 4 b := by cases b <;> kernel_rfl
theorem sh_6 (b : Bool) : fol (hX 4 b) (!b) 17 = hX 5 b := by cases b <;> kernel_rfl
theorem sh_new {lo gt : Nat} {b : Bool} (w : World) (hT : Tk lo gt w ⟨4, []⟩) : Calls Try.prog 10 #[.pointer (some ⟨gt, 0, none⟩), .int .i64 1, .agg #[.int .u8 ((atA 1).a.toNat : Int), .int .u8 ((atA 1).b.toNat : Int), .int .u8 ((atA 1).c.toNat : Int), .int .u8 ((atA 1).d.toNat : Int)], .int .i64 80, .bool b, .agg #[.int .i64 0, .int .i64 0, .int .u32 0, .int .u32 0, .int .i64 2, .int .i64 0, .int .i64 0, .slice none 0 0, .slice none 0 0]] w fun e w' => e = .returned (.int .i64 1) ∧ Tk lo gt w' (hS 1 b) ∧ Fap gt w w' ∧ Below lo w w' := see_new (s := ⟨4, []⟩) (s2 := hS 1 b) w hT (by kernel_rfl) (by cases b <;> kernel_rfl : _ = hX 1 b) rfl (by decide) (by decide) rfl
theorem sh_old {lo gt : Nat} {b d d2 : Bool} {s f s2 : Int} (w : World) (hT : Tk lo gt w (hS s d)) (h : fol (hX s d) b f = hX s2 d2) : Calls Try.prog 10 #[.pointer (some ⟨gt, 0, none⟩), .int .i64 1, .agg #[.int .u8 ((atA 1).a.toNat : Int), .int .u8 ((atA 1).b.toNat : Int), .int .u8 ((atA 1).c.toNat : Int), .int .u8 ((atA 1).d.toNat : Int)], .int .i64 80, .bool b, .agg #[.int .i64 0, .int .i64 0, .int .u32 0, .int .u32 0, .int .i64 f, .int .i64 0, .int .i64 0, .slice none 0 0, .slice none 0 0]] w fun e w' => e = .returned (.int .i64 s2) ∧ Tk lo gt w' (hS s2 d2) ∧ Fap gt w w' ∧ Below lo w w' := see_old (s := hS s d) (s2 := hS s2 d2) (i := 0) w hT (by kernel_rfl) rfl h rfl rfl
set_option linter.unusedVariables false in
set_option linter.unusedSimpArgs false in
set_option maxRecDepth 100000 in
set_option maxHeartbeats 16000000 in
theorem trackShakes_walk (b : Bool) (ac : Int) (c : Bool) (w : World) : Calls Try.prog 6 #[.bool b, .int .i64 ac, .bool c] w fun e w' => e = .returned (.bool true) ∧ Below w.heap.size w w' := by
  have bel := Below.refl w.heap.size w
  go_enter Try.func6, Try.ntmps6
  go_wp2_with fail
  with_reducible refine (awake_any _).mono ?_
  rintro e w1 ⟨rfl, b1⟩
  replace bel := bel.trans (b1.mono bel.size)
  clear b1
  by_cases c1 : ac < 0
  · go_wp2_with fail
    go_ret
    exact ⟨rfl, bel⟩
  have Hc1 : Hid (0 ≤ ac) := Lib.hid (by omega)
  replace c1 : decide (ac < 0) = false := decide_eq_false c1
  by_cases c2 : 50 < ac
  · go_wp2_with fail
    go_ret
    exact ⟨rfl, bel⟩
  have Hc2 : Hid (ac ≤ 50) := Lib.hid (by omega)
  replace c2 : decide (50 < ac) = false := decide_eq_false c2
  go_wp2_with fail
  have HLO_ := bel.size
  with_reducible refine (tnew_any (rm := 4) _ (by decide) (by decide)).mono ?_
  rintro e w2 ⟨gt, rfl, hT, b2⟩
  replace bel := bel.trans (b2.mono bel.size)
  clear b2
  replace hT : Tk w.heap.size gt w2 ⟨4, []⟩ := hT.lo_mono HLO_
  clear HLO_
  go_wp2_with fail
  with_reducible refine (at_k 1 _).mono ?_
  rintro e w3 ⟨rfl, b3⟩
  replace hT := hT.below b3
  replace bel := bel.trans (b3.mono bel.size)
  clear b3
  go_wp2_with fail
  with_reducible refine (sh_new _ hT).mono ?_
  rintro e w4 ⟨rfl, hT_, f_, bb⟩
  clear hT
  have hT := hT_
  replace bel := bel.trans bb
  clear bb f_ hT_
  go_wp2_with fail
  with_reducible refine (at_k 1 _).mono ?_
  rintro e w5 ⟨rfl, b5⟩
  replace hT := hT.below b5
  replace bel := bel.trans (b5.mono bel.size)
  clear b5
  go_wp2_with fail
  with_reducible refine (sh_old _ hT (sh_2 b)).mono ?_
  rintro e w6 ⟨rfl, hT_, f_, bb⟩
  clear hT
  have hT := hT_
  replace bel := bel.trans bb
  clear bb f_ hT_
  go_wp2_with fail
  with_reducible refine (at_k 1 _).mono ?_
  rintro e w7 ⟨rfl, b7⟩
  replace hT := hT.below b7
  replace bel := bel.trans (b7.mono bel.size)
  clear b7
  go_wp2_with fail
  with_reducible refine (sh_old _ hT (sh_3 b)).mono ?_
  rintro e w8 ⟨rfl, hT_, f_, bb⟩
  clear hT
  have hT := hT_
  replace bel := bel.trans bb
  clear bb f_ hT_
  go_wp2_with fail
  go_loopg [12] ((ac - 0).toNat) (fun gk s12 wr => ∃ j : Int, gk = (ac - j).toNat ∧ 0 ≤ j ∧ j ≤ ac ∧ Tk w.heap.size gt wr (hS 3 b) ∧ s12 = .int .i64 j ∧ Below w.heap.size w wr)
  case atStart => exact ⟨0, rfl, Int.le_refl _, Hc1.out, hT, rfl, bel⟩
  case round =>
    clear hT bel
    obtain ⟨j, HGK, hj0, hj1, hT, rfl, bel⟩ := hrel
    have HGK_ := Lib.hid HGK
    clear HGK
    by_cases h : j < ac
    · have HJ0 := Lib.hid hj0
      have HJ50 : Hid (j ≤ 50) := Lib.hid (by have := Hc2.out; omega)
      obtain ⟨a, ha⟩ : ∃ a, bits .and .i64 j 1 = a := ⟨_, rfl⟩
      obtain ⟨db, hdb⟩ : ∃ x, (a == 0) = x := ⟨_, rfl⟩
      obtain ⟨f, hf⟩ : ∃ f, bits .or .i64 16 (bits .and .i64 j 8) = f := ⟨_, rfl⟩
      have HF := Lib.hid hf
      have hw : IntKind.i64.wrap (j + 1) = j + 1 := IntWalk.i64_in _ (by have := Hc2.out; omega)
      go_wp2_with fail
      with_reducible refine (at_k 1 _).mono ?_
      rintro e w9 ⟨rfl, b9⟩
      replace hT := hT.below b9
      replace bel := bel.trans (b9.mono bel.size)
      clear b9
      go_wp2_with fail
      with_reducible refine (sh_old _ hT (sh_ack HJ0.out HJ50.out HF.out _ _)).mono ?_
      rintro e w10 ⟨rfl, hT_, f_, bb⟩
      clear hT
      have hT := hT_
      replace bel := bel.trans bb
      clear bb f_ hT_
      go_wp2_with fail
      go_roundg ((ac - (j + 1)).toNat)
      case measure => have := HGK_.out; omega
      case rel => exact ⟨j + 1, rfl, by omega, by omega, hT, by go_num, bel⟩
    replace h : decide (j < ac) = false := decide_eq_false h
    go_wp2_with fail
    with_reducible refine (at_k 1 _).mono ?_
    rintro e w9 ⟨rfl, b9⟩
    replace hT := hT.below b9
    replace bel := bel.trans (b9.mono bel.size)
    clear b9
    go_wp2_with fail
    with_reducible refine (sh_old _ hT (sh_4 b c)).mono ?_
    rintro e w10 ⟨rfl, hT_, f_, bb⟩
    clear hT
    have hT := hT_
    replace bel := bel.trans bb
    clear bb f_ hT_
    go_wp2_with fail
    with_reducible refine (at_k 1 _).mono ?_
    rintro e w11 ⟨rfl, b11⟩
    replace hT := hT.below b11
    replace bel := bel.trans (b11.mono bel.size)
    clear b11
    go_wp2_with fail
    with_reducible refine (sh_old _ hT (sh_5 c)).mono ?_
    rintro e w12 ⟨rfl, hT_, f_, bb⟩
    clear hT
    have hT := hT_
    replace bel := bel.trans bb
    clear bb f_ hT_
    go_wp2_with fail
    with_reducible refine (at_k 1 _).mono ?_
    rintro e w13 ⟨rfl, b13⟩
    replace hT := hT.below b13
    replace bel := bel.trans (b13.mono bel.size)
    clear b13
    go_wp2_with fail
    with_reducible refine (sh_old _ hT (sh_6 c)).mono ?_
    rintro e w14 ⟨rfl, hT_, f_, bb⟩
    clear hT
    have hT := hT_
    replace bel := bel.trans bb
    clear bb f_ hT_
    go_wp2_with fail
    go_ret
    exact ⟨rfl, bel⟩
end Go.Proofs.Ytjfkeocdojjpgaa
