/- The reference's Split and ParseNet. -/
import Derived.Test.YtppjnhjglhlpkaaDoorRef3p
import Derived.Test.YtppjnhjglhlpkaaDoorRefn
namespace Go.Proofs.YtppjnhjglhlpkaaDoor
open Go.RowKit

/-- An address and bits, as the reference reads them. -/
def splitA (l : List UInt8) : UInt8 × UInt8 × UInt8 × UInt8 :=
  if 18 < l.length then (0, 0, 0, 0) else match cutF 47 l with
  | [x, _] => (parse4 x).getD (0, 0, 0, 0)
  | _ => (0, 0, 0, 0)
def splitN (l : List UInt8) : Int :=
  if 18 < l.length then 0 else match cutF 47 l with
  | [_, y] => numI y 32
  | _ => 0
def splitOk (l : List UInt8) : Bool :=
  if 18 < l.length then false else match cutF 47 l with
  | [x, y] => (parse4 x).isSome && decide (0 ≤ numI y 32)
  | _ => false
/-- What Split answers. -/
def SplitPost (l : List UInt8) (w : World) (e : Ending) (w' : World) : Prop :=
  e = .returned (.tuple #[addrV (splitA l).1 (splitA l).2.1 (splitA l).2.2.1 (splitA l).2.2.2, .int .i64 (splitN l), .bool (splitOk l)]) ∧ Below w.heap.size w w'

theorem split_long (s : ByteArray) (w : World) (h : 18 < s.size) (hs : s.size ≤ 1000) :
    Calls Tryd.prog 35 #[.string s] w fun e w' => e = .returned (.tuple #[addrV 0 0 0 0, .int .i64 0, .bool false]) ∧ Below w.heap.size w w' := by
  have b1 : (18 : Int) < s.size := by omega
  have s1 : (s.size : Int) ≤ 1000 := by omega
  clear h hs
  go_enter Tryd.func35, Tryd.ntmps35
  go_wp2
  exact bodyPost_ret (v := .tuple #[addrV 0 0 0 0, .int .i64 0, .bool false]) (by simp [results, Tryd.results35, go_sem, addrV, u8v]) rfl ⟨rfl, (Below.refl _ _).alloc (Nat.le_refl _) _⟩

set_option maxHeartbeats 1000000 in
theorem split_pieces (s : ByteArray) (w : World) (hs : s.size ≤ 18) (hp : (cutF 47 s.data.toList).length ≠ 2) :
    Calls Tryd.prog 35 #[.string s] w fun e w' => e = .returned (.tuple #[addrV 0 0 0 0, .int .i64 0, .bool false]) ∧ Below w.heap.size w w' := by
  have b1 : decide ((18 : Int) < s.size) = false := decide_eq_false (by omega)
  go_enter Tryd.func35, Tryd.ntmps35
  go_wp2_with fail
  have hne : (((cutF 47 s.data.toList).length : Int) == 2) = false := beq_eq_false_iff_ne.2 (by omega)
  with_reducible refine (cut_as s 47 47 rfl _ (by omega)).mono ?_
  rintro e w1 ⟨g, cap, rfl, hcap, hg0, hg1, hc, bel1⟩
  have bel := ((Below.refl w.heap.size w).alloc (Nat.le_refl _) (.cells #[.int .u8 0, .int .u8 0, .int .u8 0, .int .u8 0] 24)).trans (bel1.mono (by simp))
  obtain ⟨r0, r1⟩ := old_addr bel1
  obtain ⟨⟨q0, q1, q2, q3⟩, f0, f1, f2, f3⟩ := cells4 r0
  generalize (cutF 47 s.data.toList).length = n at *
  have HP := Lib.hid hp
  clear hp hc hcap hs r0
  go_wp2
  exact bodyPost_ret (v := .tuple #[addrV 0 0 0 0, .int .i64 0, .bool false]) (by simp [results, Tryd.results35, go_sem, addrV, u8v, q0, q1, q2, q3]) rfl ⟨rfl, ((((bel).setCell (Nat.le_refl _) _).setCell (Nat.le_refl _) _).setCell (Nat.le_refl _) _).setCell (Nat.le_refl _) _⟩

/-- Parse, its answer by its parts. -/
theorem parse_parts (s : ByteArray) (w : World) (hs : s.size ≤ 1000) : Calls Tryd.prog 15 #[.string s] w fun e w' =>
    e = .returned (.tuple #[addrV ((parse4 s.data.toList).getD (0, 0, 0, 0)).1 ((parse4 s.data.toList).getD (0, 0, 0, 0)).2.1 ((parse4 s.data.toList).getD (0, 0, 0, 0)).2.2.1 ((parse4 s.data.toList).getD (0, 0, 0, 0)).2.2.2, .bool (parse4 s.data.toList).isSome]) ∧ Below w.heap.size w w' := by
  refine (parse_any s w hs).mono fun e w' h => ?_
  unfold ParsePost at h
  match hp : parse4 s.data.toList with
  | none => rw [hp] at h; exact h
  | some (a, b, c, d) => rw [hp] at h; exact h

set_option maxHeartbeats 2000000 in
theorem split_two (s : ByteArray) (w : World) (x y : List UInt8) (hs : s.size ≤ 18) (hp : cutF 47 s.data.toList = [x, y]) :
    Calls Tryd.prog 35 #[.string s] w fun e w' => e = .returned (.tuple #[addrV ((parse4 x).getD (0, 0, 0, 0)).1 ((parse4 x).getD (0, 0, 0, 0)).2.1 ((parse4 x).getD (0, 0, 0, 0)).2.2.1 ((parse4 x).getD (0, 0, 0, 0)).2.2.2, .int .i64 (numI y 32), .bool ((parse4 x).isSome && decide (0 ≤ numI y 32))]) ∧ Below w.heap.size w w' := by
  have b1 : decide ((18 : Int) < s.size) = false := decide_eq_false (by omega)
  have hpc := cutF_piece 47 s.data.toList
  rw [hp] at hpc
  have lx := hpc x (by simp)
  have ly := hpc y (by simp)
  have hsz : s.data.toList.length ≤ 18 := by simp; omega
  have PX := parse_parts ⟨x.toArray⟩
  have PY := number_any ⟨y.toArray⟩ 32
  rw [size_bs] at PX PY
  have HPX := Lib.hid fun W => PX W (by omega)
  have HPY := Lib.hid fun W => PY W (by unfold maxLen; omega)
  rw [show (⟨x.toArray⟩ : ByteArray).data.toList = x by simp] at HPX
  rw [show (⟨y.toArray⟩ : ByteArray).data.toList = y by simp] at HPY
  have HP := Lib.hid hp
  clear hp hpc PX PY lx ly hsz
  generalize (parse4 x).getD (0, 0, 0, 0) = A at *
  generalize (parse4 x).isSome = ok at *
  generalize numI y 32 = m at *
  obtain ⟨a0, a1, a2, a3⟩ := A
  simp only at HPX ⊢
  go_enter Tryd.func35, Tryd.ntmps35
  go_wp2_with fail
  with_reducible refine (cut_as s 47 47 rfl _ (by omega)).mono ?_
  rintro e w1 ⟨g, cap, rfl, hcap, hg0, hg1, hc, bel1⟩
  have bel := ((Below.refl w.heap.size w).alloc (Nat.le_refl _) (.cells #[.int .u8 0, .int .u8 0, .int .u8 0, .int .u8 0] 24)).trans (bel1.mono (by simp))
  obtain ⟨r0, r1⟩ := old_addr bel1
  rw [HP.out] at hc hcap ⊢
  have p0 := hc 0 x rfl
  have p1 := hc 1 y rfl
  have hcap4 : (2 : Int) ≤ cap := by simp at hcap; omega
  have hgw : g ≠ w.heap.size := by simp at hg0; omega
  have hl4 : ([x, y] : List (List UInt8)).length = 2 := rfl
  rw [hl4]
  clear hc hcap hl4 hg0 hs bel1
  go_wp2_with fail
  with_reducible refine (HPX.out _).mono ?_
  rintro e w2 ⟨rfl, bel2⟩
  have r2 := (bel2.block _ r1).trans r0
  have p12 := (bel2.cell (p := ⟨g, 1, none⟩) hg1).trans p1
  have r1b := Nat.lt_of_lt_of_le r1 bel2.size
  have hg2 := Nat.lt_of_lt_of_le hg1 bel2.size
  have belb := bel.trans (bel2.mono (by omega))
  obtain ⟨⟨q0, q1, q2, q3⟩, f0, f1, f2, f3⟩ := cells4 r2
  have R2 := Lib.hid r2
  have hgb : g ≠ w2.heap.size := by omega
  have hwb : w.heap.size ≠ w2.heap.size := by omega
  clear r0 r2 p0 p1 bel bel2
  simp only [addrV, u8v]
  go_wp2_with fail
  with_reducible refine (HPY.out _).mono ?_
  rintro e w3 ⟨rfl, rfl⟩
  cases ok
  · go_wp2
    have R4 : ((((w2.setCell ⟨w.heap.size, 0, none⟩ (.int .u8 (a0.toNat : Int))).setCell ⟨w.heap.size, 1, none⟩ (.int .u8 (a1.toNat : Int))).setCell ⟨w.heap.size, 2, none⟩ (.int .u8 (a2.toNat : Int))).setCell ⟨w.heap.size, 3, none⟩ (.int .u8 (a3.toNat : Int))).heap[w.heap.size]? = some (.cells #[.int .u8 (a0.toNat : Int), .int .u8 (a1.toNat : Int), .int .u8 (a2.toNat : Int), .int .u8 (a3.toNat : Int)] 24 (0, 0)) := put4 R2.out
    have R5 := (Go.heap_alloc_old ((((w2.setCell ⟨w.heap.size, 0, none⟩ (.int .u8 (a0.toNat : Int))).setCell ⟨w.heap.size, 1, none⟩ (.int .u8 (a1.toNat : Int))).setCell ⟨w.heap.size, 2, none⟩ (.int .u8 (a2.toNat : Int))).setCell ⟨w.heap.size, 3, none⟩ (.int .u8 (a3.toNat : Int))) (.cells #[.int .u8 (a0.toNat : Int), .int .u8 (a1.toNat : Int), .int .u8 (a2.toNat : Int), .int .u8 (a3.toNat : Int)] 24) (r := w.heap.size) (by simp; exact r1b)).trans R4
    obtain ⟨⟨k0, k1, k2, k3⟩, _⟩ := cells4 R5
    clear R4 R5
    exact bodyPost_ret (v := .tuple #[addrV a0 a1 a2 a3, .int .i64 m, .bool (false && decide (0 ≤ m))]) (by simp [results, Tryd.results35, go_sem, addrV, u8v, k0, k1, k2, k3]) rfl ⟨rfl, (((((belb.setCell (Nat.le_refl _) _).setCell (Nat.le_refl _) _).setCell (Nat.le_refl _) _).setCell (Nat.le_refl _) _).alloc (by simp; omega) _)⟩
  · go_wp2
    have R4 : ((((w2.setCell ⟨w.heap.size, 0, none⟩ (.int .u8 (a0.toNat : Int))).setCell ⟨w.heap.size, 1, none⟩ (.int .u8 (a1.toNat : Int))).setCell ⟨w.heap.size, 2, none⟩ (.int .u8 (a2.toNat : Int))).setCell ⟨w.heap.size, 3, none⟩ (.int .u8 (a3.toNat : Int))).heap[w.heap.size]? = some (.cells #[.int .u8 (a0.toNat : Int), .int .u8 (a1.toNat : Int), .int .u8 (a2.toNat : Int), .int .u8 (a3.toNat : Int)] 24 (0, 0)) := put4 R2.out
    have R5 := (Go.heap_alloc_old ((((w2.setCell ⟨w.heap.size, 0, none⟩ (.int .u8 (a0.toNat : Int))).setCell ⟨w.heap.size, 1, none⟩ (.int .u8 (a1.toNat : Int))).setCell ⟨w.heap.size, 2, none⟩ (.int .u8 (a2.toNat : Int))).setCell ⟨w.heap.size, 3, none⟩ (.int .u8 (a3.toNat : Int))) (.cells #[.int .u8 (a0.toNat : Int), .int .u8 (a1.toNat : Int), .int .u8 (a2.toNat : Int), .int .u8 (a3.toNat : Int)] 24) (r := w.heap.size) (by simp; exact r1b)).trans R4
    obtain ⟨⟨k0, k1, k2, k3⟩, _⟩ := cells4 R5
    clear R4 R5
    exact bodyPost_ret (v := .tuple #[addrV a0 a1 a2 a3, .int .i64 m, .bool (true && decide (0 ≤ m))]) (by simp [results, Tryd.results35, go_sem, addrV, u8v, k0, k1, k2, k3]) rfl ⟨rfl, (((((belb.setCell (Nat.le_refl _) _).setCell (Nat.le_refl _) _).setCell (Nat.le_refl _) _).setCell (Nat.le_refl _) _).alloc (by simp; omega) _)⟩

theorem split_any (s : ByteArray) (w : World) (hs : s.size ≤ 1000) : Calls Tryd.prog 35 #[.string s] w (SplitPost s.data.toList w) := by
  have hlen : s.data.toList.length = s.size := by simp
  by_cases h18 : 18 < s.size
  · refine (split_long s w h18 hs).mono fun e w' h => ?_
    unfold SplitPost splitA splitN splitOk
    rw [if_pos (by omega), if_pos (by omega), if_pos (by omega)]
    exact h
  · have c : ¬ 18 < s.data.toList.length := by omega
    match hm : cutF 47 s.data.toList with
    | [x, y] =>
      refine (split_two s w x y (by omega) hm).mono fun e w' h => ?_
      unfold SplitPost splitA splitN splitOk
      rw [if_neg c, if_neg c, if_neg c, hm]
      exact h
    | [] | [_] | _ :: _ :: _ :: _ =>
      refine (split_pieces s w (by omega) (by rw [hm]; simp)).mono fun e w' h => ?_
      unfold SplitPost splitA splitN splitOk
      rw [if_neg c, if_neg c, if_neg c, hm]
      exact h

end Go.Proofs.YtppjnhjglhlpkaaDoor
