/- The reference's Hop of packets. -/
import Derived.Test.YtfmllopeeiecjaaIpr2
namespace Go.Proofs.Ytfmllopeeiecjaa
open Go.RowKit

theorem tk_bounds (s : Int) (o n : List UInt8) (h : o.length = n.length) (h2 : o.length % 2 = 0) : 0 ≤ tk s o n ∧ tk s o n ≤ 65535 := by
  unfold tk
  rw [if_neg (by omega)]
  have := nrm_le (ts (65535 - (s % 65536).toNat) o n)
  omega
/-- The bytes of a packet that has passed: its total length, its Ttl less by one, its sum turned. -/
def hopSum (l : List UInt8) : Int := tk (be ((l.drop 10).take 2) : Nat) ((l.drop 8).take 2) [byteOf ((l.getD 8 0).toNat - 1 : Int), l.getD 9 0]
def hopped (l : List UInt8) : List UInt8 :=
  (((l.take (be ((l.drop 2).take 2))).set 8 (byteOf ((l.getD 8 0).toNat - 1 : Int))).set 10 (byteOf (hopSum l / 256))).set 11 (byteOf (hopSum l))
def ipHop (l : List UInt8) : List UInt8 × Int :=
  if ipErr l ≠ 0 then ([], ipErr l) else if (l.getD 8 0).toNat < 2 then ([], 11) else (hopped l, 0)
/-- What Hop answers. -/
def HopPost (l : List UInt8) (w : World) (e : Ending) (w' : World) : Prop :=
  ∃ (A' : Option Addr) (c' : Nat) (r : List UInt8) (er : Int), e = .returned (.tuple #[.slice A' r.length c', .int .i64 er]) ∧ Sl w' A' r.length c' r ∧ Below w.heap.size w w' ∧ (r, er) = ipHop l
theorem ok_parts {h0 h1 h2 h3 : UInt8} {r : List UInt8} (h : ipErr (h0 :: h1 :: h2 :: h3 :: r) = 0) :
    h0.toNat / 16 = 4 ∧ 20 ≤ hlen h0 ∧ hlen h0 ≤ (h0 :: h1 :: h2 :: h3 :: r).length ∧ ck ((h0 :: h1 :: h2 :: h3 :: r).take (hlen h0)) = 0 ∧ hlen h0 ≤ be [h2, h3] ∧ be [h2, h3] ≤ (h0 :: h1 :: h2 :: h3 :: r).length := by
  unfold ipErr at h
  split at h; · cases h
  split at h; · cases h
  split at h; · cases h
  split at h; · cases h
  split at h; · cases h
  split at h; · cases h
  rename_i g1 g2 g3 g4 g5 g6
  have e0 : (h0 :: h1 :: h2 :: h3 :: r).getD 0 0 = h0 := rfl
  have e1 : ((h0 :: h1 :: h2 :: h3 :: r).drop 2).take 2 = [h2, h3] := rfl
  rw [e0] at g2 g3 g4 g5
  rw [e1] at g5 g6
  refine ⟨?_, ?_, by omega, ?_, by omega, by omega⟩
  · exact Classical.byContradiction fun h => g2 (.inl h)
  · exact Nat.le_of_not_lt fun h => g2 (.inr h)
  · exact Classical.byContradiction fun h => g4 h
theorem guard4 (op : BinOp) (x y : Operand) (a b : Array Value) (W : World) : (eqGuard op 24 x y (.agg a) (.agg b)).run Try.prog W = .ok () W := run_eqGuard_agg W op 24 x y _ _ (by kernel_rfl)
theorem eql4s (p0 p1 p2 p3 : UInt8) (W : World) : (binOp .eql 24 (.agg #[.int .u8 (p0.toNat : Int), .int .u8 (p1.toNat : Int), .int .u8 (p2.toNat : Int), .int .u8 (p3.toNat : Int)]) (.agg #[.int .u8 (p0.toNat : Int), .int .u8 (p1.toNat : Int), .int .u8 (p2.toNat : Int), .int .u8 (p3.toNat : Int)])).run Try.prog W = .ok (.bool true) W := by
  have h := run_eql_bytes (P := Try.prog) W 24 5 4 (by kernel_rfl) (by kernel_rfl) (fun w => by kernel_rfl) [p0, p1, p2, p3] [p0, p1, p2, p3] rfl rfl
  rw [beq_self_eq_true] at h
  exact h
set_option maxRecDepth 100000 in
set_option maxHeartbeats 16000000 in
theorem same6_true (f0 f1 f2 f3 f4 f5 : Int) (a0 a1 a2 a3 a4 a5 a6 a7 : UInt8) (So Sb To Tb : Option Addr) (no co nb cb dq db : Nat) (lo lb : List UInt8) (w : World) (ho : Sl w So no co lo) (hb : Sl w Sb nb cb lb) (ho2 : Sl w To no dq lo) (hb2 : Sl w Tb nb db lb) :
    Calls Try.prog 25 #[.agg #[.int .i64 f0, .int .i64 f1, .int .i64 f2, .int .i64 f3, .int .i64 f4, .int .i64 f5, .int .u8 (a0.toNat : Int), .int .u8 (a1.toNat : Int), .int .u8 (a2.toNat : Int), .int .u8 (a3.toNat : Int), .int .u8 (a4.toNat : Int), .int .u8 (a5.toNat : Int), .int .u8 (a6.toNat : Int), .int .u8 (a7.toNat : Int), .slice So no co, .slice Sb nb cb], .agg #[.int .i64 f0, .int .i64 f1, .int .i64 f2, .int .i64 f3, .int .i64 f4, .int .i64 f5, .int .u8 (a0.toNat : Int), .int .u8 (a1.toNat : Int), .int .u8 (a2.toNat : Int), .int .u8 (a3.toNat : Int), .int .u8 (a4.toNat : Int), .int .u8 (a5.toNat : Int), .int .u8 (a6.toNat : Int), .int .u8 (a7.toNat : Int), .slice To no dq, .slice Tb nb db]] w fun e w' => e = .returned (.bool true) ∧ Below w.heap.size w w' := by
  have bel := Below.refl w.heap.size w
  have hp : (w.alloc (.cells #[.int .i64 f0, .int .i64 f1, .int .i64 f2, .int .i64 f3, .int .i64 f4, .int .i64 f5, .int .u8 (a0.toNat : Int), .int .u8 (a1.toNat : Int), .int .u8 (a2.toNat : Int), .int .u8 (a3.toNat : Int), .int .u8 (a4.toNat : Int), .int .u8 (a5.toNat : Int), .int .u8 (a6.toNat : Int), .int .u8 (a7.toNat : Int), .slice So no co, .slice Sb nb cb] 45)).heap[w.heap.size]? = some (.cells #[.int .i64 f0, .int .i64 f1, .int .i64 f2, .int .i64 f3, .int .i64 f4, .int .i64 f5, .int .u8 (a0.toNat : Int), .int .u8 (a1.toNat : Int), .int .u8 (a2.toNat : Int), .int .u8 (a3.toNat : Int), .int .u8 (a4.toNat : Int), .int .u8 (a5.toNat : Int), .int .u8 (a6.toNat : Int), .int .u8 (a7.toNat : Int), .slice So no co, .slice Sb nb cb] 45 (0, 0)) := by have := heap_alloc_new w (.cells #[.int .i64 f0, .int .i64 f1, .int .i64 f2, .int .i64 f3, .int .i64 f4, .int .i64 f5, .int .u8 (a0.toNat : Int), .int .u8 (a1.toNat : Int), .int .u8 (a2.toNat : Int), .int .u8 (a3.toNat : Int), .int .u8 (a4.toNat : Int), .int .u8 (a5.toNat : Int), .int .u8 (a6.toNat : Int), .int .u8 (a7.toNat : Int), .slice So no co, .slice Sb nb cb] 45); simpa using this
  have zp : w.heap.size < (w.alloc (.cells #[.int .i64 f0, .int .i64 f1, .int .i64 f2, .int .i64 f3, .int .i64 f4, .int .i64 f5, .int .u8 (a0.toNat : Int), .int .u8 (a1.toNat : Int), .int .u8 (a2.toNat : Int), .int .u8 (a3.toNat : Int), .int .u8 (a4.toNat : Int), .int .u8 (a5.toNat : Int), .int .u8 (a6.toNat : Int), .int .u8 (a7.toNat : Int), .slice So no co, .slice Sb nb cb] 45)).heap.size := by simp
  replace bel := bel.alloc bel.size (.cells #[.int .i64 f0, .int .i64 f1, .int .i64 f2, .int .i64 f3, .int .i64 f4, .int .i64 f5, .int .u8 (a0.toNat : Int), .int .u8 (a1.toNat : Int), .int .u8 (a2.toNat : Int), .int .u8 (a3.toNat : Int), .int .u8 (a4.toNat : Int), .int .u8 (a5.toNat : Int), .int .u8 (a6.toNat : Int), .int .u8 (a7.toNat : Int), .slice So no co, .slice Sb nb cb] 45)
  replace hp := (Go.heap_alloc_old (w.alloc (.cells #[.int .i64 f0, .int .i64 f1, .int .i64 f2, .int .i64 f3, .int .i64 f4, .int .i64 f5, .int .u8 (a0.toNat : Int), .int .u8 (a1.toNat : Int), .int .u8 (a2.toNat : Int), .int .u8 (a3.toNat : Int), .int .u8 (a4.toNat : Int), .int .u8 (a5.toNat : Int), .int .u8 (a6.toNat : Int), .int .u8 (a7.toNat : Int), .slice So no co, .slice Sb nb cb] 45)) (.cells #[.int .i64 f0, .int .i64 f1, .int .i64 f2, .int .i64 f3, .int .i64 f4, .int .i64 f5, .int .u8 (a0.toNat : Int), .int .u8 (a1.toNat : Int), .int .u8 (a2.toNat : Int), .int .u8 (a3.toNat : Int), .int .u8 (a4.toNat : Int), .int .u8 (a5.toNat : Int), .int .u8 (a6.toNat : Int), .int .u8 (a7.toNat : Int), .slice To no dq, .slice Tb nb db] 45) (r := w.heap.size) zp).trans hp
  have hq : ((w.alloc (.cells #[.int .i64 f0, .int .i64 f1, .int .i64 f2, .int .i64 f3, .int .i64 f4, .int .i64 f5, .int .u8 (a0.toNat : Int), .int .u8 (a1.toNat : Int), .int .u8 (a2.toNat : Int), .int .u8 (a3.toNat : Int), .int .u8 (a4.toNat : Int), .int .u8 (a5.toNat : Int), .int .u8 (a6.toNat : Int), .int .u8 (a7.toNat : Int), .slice So no co, .slice Sb nb cb] 45)).alloc (.cells #[.int .i64 f0, .int .i64 f1, .int .i64 f2, .int .i64 f3, .int .i64 f4, .int .i64 f5, .int .u8 (a0.toNat : Int), .int .u8 (a1.toNat : Int), .int .u8 (a2.toNat : Int), .int .u8 (a3.toNat : Int), .int .u8 (a4.toNat : Int), .int .u8 (a5.toNat : Int), .int .u8 (a6.toNat : Int), .int .u8 (a7.toNat : Int), .slice To no dq, .slice Tb nb db] 45)).heap[w.heap.size + 1]? = some (.cells #[.int .i64 f0, .int .i64 f1, .int .i64 f2, .int .i64 f3, .int .i64 f4, .int .i64 f5, .int .u8 (a0.toNat : Int), .int .u8 (a1.toNat : Int), .int .u8 (a2.toNat : Int), .int .u8 (a3.toNat : Int), .int .u8 (a4.toNat : Int), .int .u8 (a5.toNat : Int), .int .u8 (a6.toNat : Int), .int .u8 (a7.toNat : Int), .slice To no dq, .slice Tb nb db] 45 (0, 0)) := by have := heap_alloc_new (w.alloc (.cells #[.int .i64 f0, .int .i64 f1, .int .i64 f2, .int .i64 f3, .int .i64 f4, .int .i64 f5, .int .u8 (a0.toNat : Int), .int .u8 (a1.toNat : Int), .int .u8 (a2.toNat : Int), .int .u8 (a3.toNat : Int), .int .u8 (a4.toNat : Int), .int .u8 (a5.toNat : Int), .int .u8 (a6.toNat : Int), .int .u8 (a7.toNat : Int), .slice So no co, .slice Sb nb cb] 45)) (.cells #[.int .i64 f0, .int .i64 f1, .int .i64 f2, .int .i64 f3, .int .i64 f4, .int .i64 f5, .int .u8 (a0.toNat : Int), .int .u8 (a1.toNat : Int), .int .u8 (a2.toNat : Int), .int .u8 (a3.toNat : Int), .int .u8 (a4.toNat : Int), .int .u8 (a5.toNat : Int), .int .u8 (a6.toNat : Int), .int .u8 (a7.toNat : Int), .slice To no dq, .slice Tb nb db] 45); simpa using this
  replace zp := Nat.lt_trans zp (show (w.alloc (.cells #[.int .i64 f0, .int .i64 f1, .int .i64 f2, .int .i64 f3, .int .i64 f4, .int .i64 f5, .int .u8 (a0.toNat : Int), .int .u8 (a1.toNat : Int), .int .u8 (a2.toNat : Int), .int .u8 (a3.toNat : Int), .int .u8 (a4.toNat : Int), .int .u8 (a5.toNat : Int), .int .u8 (a6.toNat : Int), .int .u8 (a7.toNat : Int), .slice So no co, .slice Sb nb cb] 45)).heap.size < ((w.alloc (.cells #[.int .i64 f0, .int .i64 f1, .int .i64 f2, .int .i64 f3, .int .i64 f4, .int .i64 f5, .int .u8 (a0.toNat : Int), .int .u8 (a1.toNat : Int), .int .u8 (a2.toNat : Int), .int .u8 (a3.toNat : Int), .int .u8 (a4.toNat : Int), .int .u8 (a5.toNat : Int), .int .u8 (a6.toNat : Int), .int .u8 (a7.toNat : Int), .slice So no co, .slice Sb nb cb] 45)).alloc (.cells #[.int .i64 f0, .int .i64 f1, .int .i64 f2, .int .i64 f3, .int .i64 f4, .int .i64 f5, .int .u8 (a0.toNat : Int), .int .u8 (a1.toNat : Int), .int .u8 (a2.toNat : Int), .int .u8 (a3.toNat : Int), .int .u8 (a4.toNat : Int), .int .u8 (a5.toNat : Int), .int .u8 (a6.toNat : Int), .int .u8 (a7.toNat : Int), .slice To no dq, .slice Tb nb db] 45)).heap.size by simp)
  have zq : w.heap.size + 1 < ((w.alloc (.cells #[.int .i64 f0, .int .i64 f1, .int .i64 f2, .int .i64 f3, .int .i64 f4, .int .i64 f5, .int .u8 (a0.toNat : Int), .int .u8 (a1.toNat : Int), .int .u8 (a2.toNat : Int), .int .u8 (a3.toNat : Int), .int .u8 (a4.toNat : Int), .int .u8 (a5.toNat : Int), .int .u8 (a6.toNat : Int), .int .u8 (a7.toNat : Int), .slice So no co, .slice Sb nb cb] 45)).alloc (.cells #[.int .i64 f0, .int .i64 f1, .int .i64 f2, .int .i64 f3, .int .i64 f4, .int .i64 f5, .int .u8 (a0.toNat : Int), .int .u8 (a1.toNat : Int), .int .u8 (a2.toNat : Int), .int .u8 (a3.toNat : Int), .int .u8 (a4.toNat : Int), .int .u8 (a5.toNat : Int), .int .u8 (a6.toNat : Int), .int .u8 (a7.toNat : Int), .slice To no dq, .slice Tb nb db] 45)).heap.size := by simp
  replace bel := bel.alloc bel.size (.cells #[.int .i64 f0, .int .i64 f1, .int .i64 f2, .int .i64 f3, .int .i64 f4, .int .i64 f5, .int .u8 (a0.toNat : Int), .int .u8 (a1.toNat : Int), .int .u8 (a2.toNat : Int), .int .u8 (a3.toNat : Int), .int .u8 (a4.toNat : Int), .int .u8 (a5.toNat : Int), .int .u8 (a6.toNat : Int), .int .u8 (a7.toNat : Int), .slice To no dq, .slice Tb nb db] 45)
  have st0 := (ho.below bel).str (P := Try.prog) 25 5 9 Try.underlying25 Try.underlying5 Try.underlying9
  have st1 := (hb.below bel).str (P := Try.prog) 25 5 9 Try.underlying25 Try.underlying5 Try.underlying9
  have st2 := (ho2.below bel).str (P := Try.prog) 25 5 9 Try.underlying25 Try.underlying5 Try.underlying9
  have st3 := (hb2.below bel).str (P := Try.prog) 25 5 9 Try.underlying25 Try.underlying5 Try.underlying9
  clear ho hb ho2 hb2
  have q4a := eql4s a0 a1 a2 a3
  have q4b := eql4s a4 a5 a6 a7
  have g4 := guard4
  go_enter Try.func25, Try.ntmps25
  have R5 := cell_lit hp 0 _ rfl
  have R7 := cell_lit hq 0 _ rfl
  have R11 := cell_lit hp 1 _ rfl
  have R13 := cell_lit hq 1 _ rfl
  have R18 := cell_lit hp 2 _ rfl
  have R20 := cell_lit hq 2 _ rfl
  have R25 := cell_lit hp 3 _ rfl
  have R27 := cell_lit hq 3 _ rfl
  have R32 := cell_lit hp 4 _ rfl
  have R34 := cell_lit hq 4 _ rfl
  have R39 := cell_lit hp 5 _ rfl
  have R41 := cell_lit hq 5 _ rfl
  have R46 := Lib.hid (range_lit hp 6 4 [.int .u8 (a0.toNat : Int), .int .u8 (a1.toNat : Int), .int .u8 (a2.toNat : Int), .int .u8 (a3.toNat : Int)] rfl)
  have R48 := Lib.hid (range_lit hq 6 4 [.int .u8 (a0.toNat : Int), .int .u8 (a1.toNat : Int), .int .u8 (a2.toNat : Int), .int .u8 (a3.toNat : Int)] rfl)
  have R53 := Lib.hid (range_lit hp 10 4 [.int .u8 (a4.toNat : Int), .int .u8 (a5.toNat : Int), .int .u8 (a6.toNat : Int), .int .u8 (a7.toNat : Int)] rfl)
  have R55 := Lib.hid (range_lit hq 10 4 [.int .u8 (a4.toNat : Int), .int .u8 (a5.toNat : Int), .int .u8 (a6.toNat : Int), .int .u8 (a7.toNat : Int)] rfl)
  have R60 := cell_lit hp 14 _ rfl
  have R63 := cell_lit hq 14 _ rfl
  have R69 := cell_lit hp 15 _ rfl
  have R72 := cell_lit hq 15 _ rfl
  go_wp2_with (first | ((with_reducible show wpList _ _ _ (⟨some 47, _, _, _, _, _⟩ :: _) _ _); refine wpList_load_rng 24 (.tmp 46) rfl (by kernel_rfl) _ _ rfl _ R46.out _ Try.underlying24 rfl (by kernel_rfl) ?_) | ((with_reducible show wpList _ _ _ (⟨some 49, _, _, _, _, _⟩ :: _) _ _); refine wpList_load_rng 24 (.tmp 48) rfl (by kernel_rfl) _ _ rfl _ R48.out _ Try.underlying24 rfl (by kernel_rfl) ?_) | ((with_reducible show wpList _ _ _ (⟨some 54, _, _, _, _, _⟩ :: _) _ _); refine wpList_load_rng 24 (.tmp 53) rfl (by kernel_rfl) _ _ rfl _ R53.out _ Try.underlying24 rfl (by kernel_rfl) ?_) | ((with_reducible show wpList _ _ _ (⟨some 56, _, _, _, _, _⟩ :: _) _ _); refine wpList_load_rng 24 (.tmp 55) rfl (by kernel_rfl) _ _ rfl _ R55.out _ Try.underlying24 rfl (by kernel_rfl) ?_))
  go_ret
  exact ⟨rfl, bel⟩
end Go.Proofs.Ytfmllopeeiecjaa
