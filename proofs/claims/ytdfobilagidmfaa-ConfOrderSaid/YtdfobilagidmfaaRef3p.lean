/- The contracts of the reference's Parse, Split, ParseNet. -/
import Derived.Test.YtdfobilagidmfaaRef3
import Derived.Test.YtdfobilagidmfaaMemz
namespace Go.Proofs.Ytdfobilagidmfaa
open Go.RowKit

/-- An address, as the reference reads it. -/
def parse4 (l : List UInt8) : Option (UInt8 × UInt8 × UInt8 × UInt8) :=
  if 15 < l.length then none else match cutF 46 l with
  | [a, b, c, d] => if 0 ≤ numI a 255 ∧ 0 ≤ numI b 255 ∧ 0 ≤ numI c 255 ∧ 0 ≤ numI d 255 then some (byteOf (numI a 255), byteOf (numI b 255), byteOf (numI c 255), byteOf (numI d 255)) else none
  | _ => none
def addrV (a b c d : UInt8) : Value := .agg #[u8v a, u8v b, u8v c, u8v d]

/-- What Cut gives: a slice of strings of the call's own. -/
theorem cut_as (s : ByteArray) (b : Int) (bb : UInt8) (hb : b = (bb.toNat : Int)) (w : World) (hs : s.size ≤ 1000) :
    Calls Try.prog 43 #[.string s, .int .u8 b] w fun e w' => ∃ g cap, e = .returned (.slice (some ⟨g, 0, none⟩) (cutF bb s.data.toList).length cap) ∧ (cutF bb s.data.toList).length ≤ cap ∧ w.heap.size ≤ g ∧ g < w'.heap.size ∧
      (∀ (j : Nat) (x : List UInt8), (cutF bb s.data.toList)[j]? = some x → w'.cell? ⟨g, j, none⟩ = some (.string ⟨x.toArray⟩)) ∧ Below w.heap.size w w' := by
  subst hb
  refine (cut_any s bb w hs).mono ?_
  rintro e w1 ⟨v, rfl, hown, bel⟩
  have hne := cutF_ne bb s.data.toList
  have hpos : 0 < (cutF bb s.data.toList).length := List.length_pos_iff.2 hne
  generalize cutF bb s.data.toList = ls at *
  rcases hown.2 with ⟨_, h0⟩ | ⟨g, cap, _, rfl, hgb, hh, hcap, _⟩
  · omega
  refine ⟨g, cap, rfl, hcap, hgb, (Array.getElem?_eq_some_iff.1 hh).1, fun j x hj => ?_, bel⟩
  have hjl : j < ls.length := (List.getElem?_eq_some_iff.1 hj).1
  rw [hown.cellAt j (by omega), List.getElem?_map, hj]
  rfl

theorem u8v_byteOf {x : Int} (h0 : 0 ≤ x) (h1 : x ≤ 255) : u8v (byteOf x) = .int .u8 x := by
  unfold u8v; rw [byteOf_val]; congr 1; omega
theorem size_bs (l : List UInt8) : (⟨l.toArray⟩ : ByteArray).size = l.length := by simp [ByteArray.size]
/-- The result's block behind a call: as it was laid. -/
theorem old_addr {w w1 : World} (h : Below (w.alloc (.cells #[.int .u8 0, .int .u8 0, .int .u8 0, .int .u8 0] 24)).heap.size (w.alloc (.cells #[.int .u8 0, .int .u8 0, .int .u8 0, .int .u8 0] 24)) w1) :
    w1.heap[w.heap.size]? = some (.cells #[.int .u8 0, .int .u8 0, .int .u8 0, .int .u8 0] 24 (0, 0)) ∧ w.heap.size < w1.heap.size := by
  have hs := h.size
  simp at hs
  exact ⟨(h.block _ (by simp)).trans (heap_alloc_new w _), by omega⟩

theorem parse_long (s : ByteArray) (w : World) (h : 15 < s.size) (hs : s.size ≤ 100000) :
    Calls Try.prog 45 #[.string s] w fun e w' => e = .returned (.tuple #[addrV 0 0 0 0, .bool false]) ∧ Below w.heap.size w w' := by
  have b1 : (15 : Int) < s.size := by omega
  have s1 : (s.size : Int) ≤ 100000 := by omega
  clear h hs
  go_enter Try.func45, Try.ntmps45
  go_wp2
  exact bodyPost_ret (v := .tuple #[addrV 0 0 0 0, .bool false]) (by simp [results, Try.results45, go_sem, addrV, u8v]) rfl ⟨rfl, (Below.refl _ _).alloc (Nat.le_refl _) _⟩

set_option maxHeartbeats 1000000 in
theorem parse_pieces (s : ByteArray) (w : World) (hs : s.size ≤ 15) (hp : (cutF 46 s.data.toList).length ≠ 4) :
    Calls Try.prog 45 #[.string s] w fun e w' => e = .returned (.tuple #[addrV 0 0 0 0, .bool false]) ∧ Below w.heap.size w w' := by
  have b1 : (s.size : Int) ≤ 15 := by omega
  go_enter Try.func45, Try.ntmps45
  go_wp2_with fail
  have hne : (((cutF 46 s.data.toList).length : Int) == 4) = false := beq_eq_false_iff_ne.2 (by omega)
  with_reducible refine (cut_as s 46 46 rfl _ (by omega)).mono ?_
  rintro e w1 ⟨g, cap, rfl, hcap, hg0, hg1, hc, bel1⟩
  have bel := ((Below.refl w.heap.size w).alloc (Nat.le_refl _) (.cells #[.int .u8 0, .int .u8 0, .int .u8 0, .int .u8 0] 24)).trans (bel1.mono (by simp))
  obtain ⟨r0, r1⟩ := old_addr bel1
  obtain ⟨⟨q0, q1, q2, q3⟩, f0, f1, f2, f3⟩ := cells4 r0
  generalize (cutF 46 s.data.toList).length = n at *
  have HP := Lib.hid hp
  clear hp hc hcap hs r0
  go_wp2
  exact bodyPost_ret (v := .tuple #[addrV 0 0 0 0, .bool false]) (by simp [results, Try.results45, go_sem, addrV, u8v, q0, q1, q2, q3]) rfl ⟨rfl, ((((bel).setCell (Nat.le_refl _) _).setCell (Nat.le_refl _) _).setCell (Nat.le_refl _) _).setCell (Nat.le_refl _) _⟩

set_option maxHeartbeats 4000000 in
theorem parse_at0 (s : ByteArray) (w : World) (a b c d : List UInt8) (hs : s.size ≤ 15) (hp : cutF 46 s.data.toList = [a, b, c, d])  (ha : numI a 255 < 0) :
    Calls Try.prog 45 #[.string s] w fun e w' => e = .returned (.tuple #[addrV 0 0 0 0, .bool false]) ∧ Below w.heap.size w w' := by
  have b1 : (s.size : Int) ≤ 15 := by omega
  have hpc := cutF_piece 46 s.data.toList
  rw [hp] at hpc
  have HPC := Lib.hid hpc
  have HP := Lib.hid hp
  clear hp hpc
  go_enter Try.func45, Try.ntmps45
  go_wp2_with fail
  with_reducible refine (cut_as s 46 46 rfl _ (by omega)).mono ?_
  rintro e w1 ⟨g, cap, rfl, hcap, hg0, hg1, hc, bel1⟩
  have bel := ((Below.refl w.heap.size w).alloc (Nat.le_refl _) (.cells #[.int .u8 0, .int .u8 0, .int .u8 0, .int .u8 0] 24)).trans (bel1.mono (by simp))
  obtain ⟨r0, r1⟩ := old_addr bel1
  obtain ⟨⟨q0, q1, q2, q3⟩, f0, f1, f2, f3⟩ := cells4 r0
  rw [HP.out] at hc hcap ⊢
  have p0 := hc 0 a rfl
  have p1 := hc 1 b rfl
  have p2 := hc 2 c rfl
  have p3 := hc 3 d rfl
  have hcap4 : (4 : Int) ≤ cap := by simp at hcap; omega
  have hgw : g ≠ w.heap.size := by simp at hg0; omega
  have hgb : g ≠ w1.heap.size := by omega
  have hwb : w.heap.size ≠ w1.heap.size := by omega
  have hl4 : ([a, b, c, d] : List (List UInt8)).length = 4 := rfl
  rw [hl4]
  have hsz : s.data.toList.length ≤ 15 := by simp; omega
  have HSZ := Lib.hid hsz
  have HR0 := Lib.hid r0
  clear hc hcap r0 hl4 hg0 hs hsz
  go_wp2_with fail
  refine wp_loop_rounds 5 ?_
  rw [rounds_succ]
  go_wp2_with fail
  with_reducible refine (number_any ⟨a.toArray⟩ 255 _ (by rw [size_bs]; have := HPC.out a (by simp); have := HSZ.out; unfold maxLen; omega)).mono ?_
  rintro e w2 ⟨rfl, rfl⟩
  rw [show (⟨a.toArray⟩ : ByteArray).data.toList = a by simp]
  go_wp2
  have R4 : ((((w1.setCell ⟨w.heap.size, 0, none⟩ (.int .u8 0)).setCell ⟨w.heap.size, 1, none⟩ (.int .u8 0)).setCell ⟨w.heap.size, 2, none⟩ (.int .u8 0)).setCell ⟨w.heap.size, 3, none⟩ (.int .u8 0)).heap[w.heap.size]? = some (.cells #[.int .u8 0, .int .u8 0, .int .u8 0, .int .u8 0] 24 (0, 0)) := put4 HR0.out
  have R5 := (Go.heap_alloc_old ((((w1.setCell ⟨w.heap.size, 0, none⟩ (.int .u8 0)).setCell ⟨w.heap.size, 1, none⟩ (.int .u8 0)).setCell ⟨w.heap.size, 2, none⟩ (.int .u8 0)).setCell ⟨w.heap.size, 3, none⟩ (.int .u8 0)) (.cells #[.int .u8 0, .int .u8 0, .int .u8 0, .int .u8 0] 24) (r := w.heap.size) (by simp; exact r1)).trans R4
  obtain ⟨⟨k0, k1, k2, k3⟩, _⟩ := cells4 R5
  clear R4 R5
  exact bodyPost_ret (v := .tuple #[addrV 0 0 0 0, .bool false]) (by simp [results, Try.results45, go_sem, addrV, u8v, k0, k1, k2, k3]) rfl ⟨rfl, (((((bel.setCell (Nat.le_refl _) _).setCell (Nat.le_refl _) _).setCell (Nat.le_refl _) _).setCell (Nat.le_refl _) _).alloc (by simp; omega) _)⟩

set_option maxHeartbeats 4000000 in
theorem parse_at1 (s : ByteArray) (w : World) (a b c d : List UInt8) (hs : s.size ≤ 15) (hp : cutF 46 s.data.toList = [a, b, c, d]) (ha : 0 ≤ numI a 255) (hb : numI b 255 < 0) :
    Calls Try.prog 45 #[.string s] w fun e w' => e = .returned (.tuple #[addrV 0 0 0 0, .bool false]) ∧ Below w.heap.size w w' := by
  have b1 : (s.size : Int) ≤ 15 := by omega
  have hpc := cutF_piece 46 s.data.toList
  rw [hp] at hpc
  have HPC := Lib.hid hpc
  have HP := Lib.hid hp
  clear hp hpc
  have ra := numI_range a 255
  have ra1 : numI a 255 ≤ 255 := by omega
  clear ra
  go_enter Try.func45, Try.ntmps45
  go_wp2_with fail
  with_reducible refine (cut_as s 46 46 rfl _ (by omega)).mono ?_
  rintro e w1 ⟨g, cap, rfl, hcap, hg0, hg1, hc, bel1⟩
  have bel := ((Below.refl w.heap.size w).alloc (Nat.le_refl _) (.cells #[.int .u8 0, .int .u8 0, .int .u8 0, .int .u8 0] 24)).trans (bel1.mono (by simp))
  obtain ⟨r0, r1⟩ := old_addr bel1
  obtain ⟨⟨q0, q1, q2, q3⟩, f0, f1, f2, f3⟩ := cells4 r0
  rw [HP.out] at hc hcap ⊢
  have p0 := hc 0 a rfl
  have p1 := hc 1 b rfl
  have p2 := hc 2 c rfl
  have p3 := hc 3 d rfl
  have hcap4 : (4 : Int) ≤ cap := by simp at hcap; omega
  have hgw : g ≠ w.heap.size := by simp at hg0; omega
  have hgb : g ≠ w1.heap.size := by omega
  have hwb : w.heap.size ≠ w1.heap.size := by omega
  have hl4 : ([a, b, c, d] : List (List UInt8)).length = 4 := rfl
  rw [hl4]
  have hsz : s.data.toList.length ≤ 15 := by simp; omega
  have HSZ := Lib.hid hsz
  have HR0 := Lib.hid r0
  clear hc hcap r0 hl4 hg0 hs hsz
  go_wp2_with fail
  refine wp_loop_rounds 5 ?_
  rw [rounds_succ]
  go_wp2_with fail
  with_reducible refine (number_any ⟨a.toArray⟩ 255 _ (by rw [size_bs]; have := HPC.out a (by simp); have := HSZ.out; unfold maxLen; omega)).mono ?_
  rintro e w2 ⟨rfl, rfl⟩
  rw [show (⟨a.toArray⟩ : ByteArray).data.toList = a by simp]
  go_wp2_with fail
  rw [rounds_succ]
  go_wp2_with fail
  with_reducible refine (number_any ⟨b.toArray⟩ 255 _ (by rw [size_bs]; have := HPC.out b (by simp); have := HSZ.out; unfold maxLen; omega)).mono ?_
  rintro e w2 ⟨rfl, rfl⟩
  rw [show (⟨b.toArray⟩ : ByteArray).data.toList = b by simp]
  go_wp2
  have R4 : ((((w1.setCell ⟨w.heap.size, 0, none⟩ (.int .u8 0)).setCell ⟨w.heap.size, 1, none⟩ (.int .u8 0)).setCell ⟨w.heap.size, 2, none⟩ (.int .u8 0)).setCell ⟨w.heap.size, 3, none⟩ (.int .u8 0)).heap[w.heap.size]? = some (.cells #[.int .u8 0, .int .u8 0, .int .u8 0, .int .u8 0] 24 (0, 0)) := put4 HR0.out
  have R5 := (Go.heap_alloc_old ((((w1.setCell ⟨w.heap.size, 0, none⟩ (.int .u8 0)).setCell ⟨w.heap.size, 1, none⟩ (.int .u8 0)).setCell ⟨w.heap.size, 2, none⟩ (.int .u8 0)).setCell ⟨w.heap.size, 3, none⟩ (.int .u8 0)) (.cells #[.int .u8 (numI a 255), .int .u8 0, .int .u8 0, .int .u8 0] 24) (r := w.heap.size) (by simp; exact r1)).trans R4
  obtain ⟨⟨k0, k1, k2, k3⟩, _⟩ := cells4 R5
  clear R4 R5
  exact bodyPost_ret (v := .tuple #[addrV 0 0 0 0, .bool false]) (by simp [results, Try.results45, go_sem, addrV, u8v, k0, k1, k2, k3]) rfl ⟨rfl, (((((bel.setCell (Nat.le_refl _) _).setCell (Nat.le_refl _) _).setCell (Nat.le_refl _) _).setCell (Nat.le_refl _) _).alloc (by simp; omega) _)⟩

set_option maxHeartbeats 4000000 in
theorem parse_at2 (s : ByteArray) (w : World) (a b c d : List UInt8) (hs : s.size ≤ 15) (hp : cutF 46 s.data.toList = [a, b, c, d]) (ha : 0 ≤ numI a 255) (hb : 0 ≤ numI b 255) (hc : numI c 255 < 0) :
    Calls Try.prog 45 #[.string s] w fun e w' => e = .returned (.tuple #[addrV 0 0 0 0, .bool false]) ∧ Below w.heap.size w w' := by
  have b1 : (s.size : Int) ≤ 15 := by omega
  have hpc := cutF_piece 46 s.data.toList
  rw [hp] at hpc
  have HPC := Lib.hid hpc
  have HP := Lib.hid hp
  clear hp hpc
  have ra := numI_range a 255
  have ra1 : numI a 255 ≤ 255 := by omega
  clear ra
  have rb := numI_range b 255
  have rb1 : numI b 255 ≤ 255 := by omega
  clear rb
  go_enter Try.func45, Try.ntmps45
  go_wp2_with fail
  with_reducible refine (cut_as s 46 46 rfl _ (by omega)).mono ?_
  rintro e w1 ⟨g, cap, rfl, hcap, hg0, hg1, hc, bel1⟩
  have bel := ((Below.refl w.heap.size w).alloc (Nat.le_refl _) (.cells #[.int .u8 0, .int .u8 0, .int .u8 0, .int .u8 0] 24)).trans (bel1.mono (by simp))
  obtain ⟨r0, r1⟩ := old_addr bel1
  obtain ⟨⟨q0, q1, q2, q3⟩, f0, f1, f2, f3⟩ := cells4 r0
  rw [HP.out] at hc hcap ⊢
  have p0 := hc 0 a rfl
  have p1 := hc 1 b rfl
  have p2 := hc 2 c rfl
  have p3 := hc 3 d rfl
  have hcap4 : (4 : Int) ≤ cap := by simp at hcap; omega
  have hgw : g ≠ w.heap.size := by simp at hg0; omega
  have hgb : g ≠ w1.heap.size := by omega
  have hwb : w.heap.size ≠ w1.heap.size := by omega
  have hl4 : ([a, b, c, d] : List (List UInt8)).length = 4 := rfl
  rw [hl4]
  have hsz : s.data.toList.length ≤ 15 := by simp; omega
  have HSZ := Lib.hid hsz
  have HR0 := Lib.hid r0
  clear hc hcap r0 hl4 hg0 hs hsz
  go_wp2_with fail
  refine wp_loop_rounds 5 ?_
  rw [rounds_succ]
  go_wp2_with fail
  with_reducible refine (number_any ⟨a.toArray⟩ 255 _ (by rw [size_bs]; have := HPC.out a (by simp); have := HSZ.out; unfold maxLen; omega)).mono ?_
  rintro e w2 ⟨rfl, rfl⟩
  rw [show (⟨a.toArray⟩ : ByteArray).data.toList = a by simp]
  go_wp2_with fail
  rw [rounds_succ]
  go_wp2_with fail
  with_reducible refine (number_any ⟨b.toArray⟩ 255 _ (by rw [size_bs]; have := HPC.out b (by simp); have := HSZ.out; unfold maxLen; omega)).mono ?_
  rintro e w2 ⟨rfl, rfl⟩
  rw [show (⟨b.toArray⟩ : ByteArray).data.toList = b by simp]
  go_wp2_with fail
  rw [rounds_succ]
  go_wp2_with fail
  with_reducible refine (number_any ⟨c.toArray⟩ 255 _ (by rw [size_bs]; have := HPC.out c (by simp); have := HSZ.out; unfold maxLen; omega)).mono ?_
  rintro e w2 ⟨rfl, rfl⟩
  rw [show (⟨c.toArray⟩ : ByteArray).data.toList = c by simp]
  go_wp2
  have R4 : ((((w1.setCell ⟨w.heap.size, 0, none⟩ (.int .u8 0)).setCell ⟨w.heap.size, 1, none⟩ (.int .u8 0)).setCell ⟨w.heap.size, 2, none⟩ (.int .u8 0)).setCell ⟨w.heap.size, 3, none⟩ (.int .u8 0)).heap[w.heap.size]? = some (.cells #[.int .u8 0, .int .u8 0, .int .u8 0, .int .u8 0] 24 (0, 0)) := put4 HR0.out
  have R5 := (Go.heap_alloc_old ((((w1.setCell ⟨w.heap.size, 0, none⟩ (.int .u8 0)).setCell ⟨w.heap.size, 1, none⟩ (.int .u8 0)).setCell ⟨w.heap.size, 2, none⟩ (.int .u8 0)).setCell ⟨w.heap.size, 3, none⟩ (.int .u8 0)) (.cells #[.int .u8 (numI a 255), .int .u8 (numI b 255), .int .u8 0, .int .u8 0] 24) (r := w.heap.size) (by simp; exact r1)).trans R4
  obtain ⟨⟨k0, k1, k2, k3⟩, _⟩ := cells4 R5
  clear R4 R5
  exact bodyPost_ret (v := .tuple #[addrV 0 0 0 0, .bool false]) (by simp [results, Try.results45, go_sem, addrV, u8v, k0, k1, k2, k3]) rfl ⟨rfl, (((((bel.setCell (Nat.le_refl _) _).setCell (Nat.le_refl _) _).setCell (Nat.le_refl _) _).setCell (Nat.le_refl _) _).alloc (by simp; omega) _)⟩

set_option maxHeartbeats 4000000 in
theorem parse_at3 (s : ByteArray) (w : World) (a b c d : List UInt8) (hs : s.size ≤ 15) (hp : cutF 46 s.data.toList = [a, b, c, d]) (ha : 0 ≤ numI a 255) (hb : 0 ≤ numI b 255) (hc : 0 ≤ numI c 255) (hd : numI d 255 < 0) :
    Calls Try.prog 45 #[.string s] w fun e w' => e = .returned (.tuple #[addrV 0 0 0 0, .bool false]) ∧ Below w.heap.size w w' := by
  have b1 : (s.size : Int) ≤ 15 := by omega
  have hpc := cutF_piece 46 s.data.toList
  rw [hp] at hpc
  have HPC := Lib.hid hpc
  have HP := Lib.hid hp
  clear hp hpc
  have ra := numI_range a 255
  have ra1 : numI a 255 ≤ 255 := by omega
  clear ra
  have rb := numI_range b 255
  have rb1 : numI b 255 ≤ 255 := by omega
  clear rb
  have rc := numI_range c 255
  have rc1 : numI c 255 ≤ 255 := by omega
  clear rc
  go_enter Try.func45, Try.ntmps45
  go_wp2_with fail
  with_reducible refine (cut_as s 46 46 rfl _ (by omega)).mono ?_
  rintro e w1 ⟨g, cap, rfl, hcap, hg0, hg1, hc, bel1⟩
  have bel := ((Below.refl w.heap.size w).alloc (Nat.le_refl _) (.cells #[.int .u8 0, .int .u8 0, .int .u8 0, .int .u8 0] 24)).trans (bel1.mono (by simp))
  obtain ⟨r0, r1⟩ := old_addr bel1
  obtain ⟨⟨q0, q1, q2, q3⟩, f0, f1, f2, f3⟩ := cells4 r0
  rw [HP.out] at hc hcap ⊢
  have p0 := hc 0 a rfl
  have p1 := hc 1 b rfl
  have p2 := hc 2 c rfl
  have p3 := hc 3 d rfl
  have hcap4 : (4 : Int) ≤ cap := by simp at hcap; omega
  have hgw : g ≠ w.heap.size := by simp at hg0; omega
  have hgb : g ≠ w1.heap.size := by omega
  have hwb : w.heap.size ≠ w1.heap.size := by omega
  have hl4 : ([a, b, c, d] : List (List UInt8)).length = 4 := rfl
  rw [hl4]
  have hsz : s.data.toList.length ≤ 15 := by simp; omega
  have HSZ := Lib.hid hsz
  have HR0 := Lib.hid r0
  clear hc hcap r0 hl4 hg0 hs hsz
  go_wp2_with fail
  refine wp_loop_rounds 5 ?_
  rw [rounds_succ]
  go_wp2_with fail
  with_reducible refine (number_any ⟨a.toArray⟩ 255 _ (by rw [size_bs]; have := HPC.out a (by simp); have := HSZ.out; unfold maxLen; omega)).mono ?_
  rintro e w2 ⟨rfl, rfl⟩
  rw [show (⟨a.toArray⟩ : ByteArray).data.toList = a by simp]
  go_wp2_with fail
  rw [rounds_succ]
  go_wp2_with fail
  with_reducible refine (number_any ⟨b.toArray⟩ 255 _ (by rw [size_bs]; have := HPC.out b (by simp); have := HSZ.out; unfold maxLen; omega)).mono ?_
  rintro e w2 ⟨rfl, rfl⟩
  rw [show (⟨b.toArray⟩ : ByteArray).data.toList = b by simp]
  go_wp2_with fail
  rw [rounds_succ]
  go_wp2_with fail
  with_reducible refine (number_any ⟨c.toArray⟩ 255 _ (by rw [size_bs]; have := HPC.out c (by simp); have := HSZ.out; unfold maxLen; omega)).mono ?_
  rintro e w2 ⟨rfl, rfl⟩
  rw [show (⟨c.toArray⟩ : ByteArray).data.toList = c by simp]
  go_wp2_with fail
  rw [rounds_succ]
  go_wp2_with fail
  with_reducible refine (number_any ⟨d.toArray⟩ 255 _ (by rw [size_bs]; have := HPC.out d (by simp); have := HSZ.out; unfold maxLen; omega)).mono ?_
  rintro e w2 ⟨rfl, rfl⟩
  rw [show (⟨d.toArray⟩ : ByteArray).data.toList = d by simp]
  go_wp2
  have R4 : ((((w1.setCell ⟨w.heap.size, 0, none⟩ (.int .u8 0)).setCell ⟨w.heap.size, 1, none⟩ (.int .u8 0)).setCell ⟨w.heap.size, 2, none⟩ (.int .u8 0)).setCell ⟨w.heap.size, 3, none⟩ (.int .u8 0)).heap[w.heap.size]? = some (.cells #[.int .u8 0, .int .u8 0, .int .u8 0, .int .u8 0] 24 (0, 0)) := put4 HR0.out
  have R5 := (Go.heap_alloc_old ((((w1.setCell ⟨w.heap.size, 0, none⟩ (.int .u8 0)).setCell ⟨w.heap.size, 1, none⟩ (.int .u8 0)).setCell ⟨w.heap.size, 2, none⟩ (.int .u8 0)).setCell ⟨w.heap.size, 3, none⟩ (.int .u8 0)) (.cells #[.int .u8 (numI a 255), .int .u8 (numI b 255), .int .u8 (numI c 255), .int .u8 0] 24) (r := w.heap.size) (by simp; exact r1)).trans R4
  obtain ⟨⟨k0, k1, k2, k3⟩, _⟩ := cells4 R5
  clear R4 R5
  exact bodyPost_ret (v := .tuple #[addrV 0 0 0 0, .bool false]) (by simp [results, Try.results45, go_sem, addrV, u8v, k0, k1, k2, k3]) rfl ⟨rfl, (((((bel.setCell (Nat.le_refl _) _).setCell (Nat.le_refl _) _).setCell (Nat.le_refl _) _).setCell (Nat.le_refl _) _).alloc (by simp; omega) _)⟩

set_option maxHeartbeats 4000000 in
theorem parse_at4 (s : ByteArray) (w : World) (a b c d : List UInt8) (hs : s.size ≤ 15) (hp : cutF 46 s.data.toList = [a, b, c, d]) (ha : 0 ≤ numI a 255) (hb : 0 ≤ numI b 255) (hc : 0 ≤ numI c 255) (hd : 0 ≤ numI d 255) :
    Calls Try.prog 45 #[.string s] w fun e w' => e = .returned (.tuple #[addrV (byteOf (numI a 255)) (byteOf (numI b 255)) (byteOf (numI c 255)) (byteOf (numI d 255)), .bool true]) ∧ Below w.heap.size w w' := by
  have b1 : (s.size : Int) ≤ 15 := by omega
  have hpc := cutF_piece 46 s.data.toList
  rw [hp] at hpc
  have HPC := Lib.hid hpc
  have HP := Lib.hid hp
  clear hp hpc
  have ra := numI_range a 255
  have ra1 : numI a 255 ≤ 255 := by omega
  clear ra
  have rb := numI_range b 255
  have rb1 : numI b 255 ≤ 255 := by omega
  clear rb
  have rc := numI_range c 255
  have rc1 : numI c 255 ≤ 255 := by omega
  clear rc
  have rd := numI_range d 255
  have rd1 : numI d 255 ≤ 255 := by omega
  clear rd
  go_enter Try.func45, Try.ntmps45
  go_wp2_with fail
  with_reducible refine (cut_as s 46 46 rfl _ (by omega)).mono ?_
  rintro e w1 ⟨g, cap, rfl, hcap, hg0, hg1, hc, bel1⟩
  have bel := ((Below.refl w.heap.size w).alloc (Nat.le_refl _) (.cells #[.int .u8 0, .int .u8 0, .int .u8 0, .int .u8 0] 24)).trans (bel1.mono (by simp))
  obtain ⟨r0, r1⟩ := old_addr bel1
  obtain ⟨⟨q0, q1, q2, q3⟩, f0, f1, f2, f3⟩ := cells4 r0
  rw [HP.out] at hc hcap ⊢
  have p0 := hc 0 a rfl
  have p1 := hc 1 b rfl
  have p2 := hc 2 c rfl
  have p3 := hc 3 d rfl
  have hcap4 : (4 : Int) ≤ cap := by simp at hcap; omega
  have hgw : g ≠ w.heap.size := by simp at hg0; omega
  have hgb : g ≠ w1.heap.size := by omega
  have hwb : w.heap.size ≠ w1.heap.size := by omega
  have hl4 : ([a, b, c, d] : List (List UInt8)).length = 4 := rfl
  rw [hl4]
  have hsz : s.data.toList.length ≤ 15 := by simp; omega
  have HSZ := Lib.hid hsz
  have HR0 := Lib.hid r0
  clear hc hcap r0 hl4 hg0 hs hsz
  go_wp2_with fail
  refine wp_loop_rounds 5 ?_
  rw [rounds_succ]
  go_wp2_with fail
  with_reducible refine (number_any ⟨a.toArray⟩ 255 _ (by rw [size_bs]; have := HPC.out a (by simp); have := HSZ.out; unfold maxLen; omega)).mono ?_
  rintro e w2 ⟨rfl, rfl⟩
  rw [show (⟨a.toArray⟩ : ByteArray).data.toList = a by simp]
  go_wp2_with fail
  rw [rounds_succ]
  go_wp2_with fail
  with_reducible refine (number_any ⟨b.toArray⟩ 255 _ (by rw [size_bs]; have := HPC.out b (by simp); have := HSZ.out; unfold maxLen; omega)).mono ?_
  rintro e w2 ⟨rfl, rfl⟩
  rw [show (⟨b.toArray⟩ : ByteArray).data.toList = b by simp]
  go_wp2_with fail
  rw [rounds_succ]
  go_wp2_with fail
  with_reducible refine (number_any ⟨c.toArray⟩ 255 _ (by rw [size_bs]; have := HPC.out c (by simp); have := HSZ.out; unfold maxLen; omega)).mono ?_
  rintro e w2 ⟨rfl, rfl⟩
  rw [show (⟨c.toArray⟩ : ByteArray).data.toList = c by simp]
  go_wp2_with fail
  rw [rounds_succ]
  go_wp2_with fail
  with_reducible refine (number_any ⟨d.toArray⟩ 255 _ (by rw [size_bs]; have := HPC.out d (by simp); have := HSZ.out; unfold maxLen; omega)).mono ?_
  rintro e w2 ⟨rfl, rfl⟩
  rw [show (⟨d.toArray⟩ : ByteArray).data.toList = d by simp]
  go_wp2_with fail
  rw [rounds_succ]
  go_wp2
  have ea : u8v (byteOf (numI a 255)) = .int .u8 (numI a 255) := u8v_byteOf ha ra1
  have eb : u8v (byteOf (numI b 255)) = .int .u8 (numI b 255) := u8v_byteOf hb rb1
  have ec : u8v (byteOf (numI c 255)) = .int .u8 (numI c 255) := u8v_byteOf hc rc1
  have ed : u8v (byteOf (numI d 255)) = .int .u8 (numI d 255) := u8v_byteOf hd rd1
  have R4 : ((((w1.setCell ⟨w.heap.size, 0, none⟩ (.int .u8 (numI a 255))).setCell ⟨w.heap.size, 1, none⟩ (.int .u8 (numI b 255))).setCell ⟨w.heap.size, 2, none⟩ (.int .u8 (numI c 255))).setCell ⟨w.heap.size, 3, none⟩ (.int .u8 (numI d 255))).heap[w.heap.size]? = some (.cells #[.int .u8 (numI a 255), .int .u8 (numI b 255), .int .u8 (numI c 255), .int .u8 (numI d 255)] 24 (0, 0)) := put4 HR0.out
  have R5 := (Go.heap_alloc_old ((((w1.setCell ⟨w.heap.size, 0, none⟩ (.int .u8 (numI a 255))).setCell ⟨w.heap.size, 1, none⟩ (.int .u8 (numI b 255))).setCell ⟨w.heap.size, 2, none⟩ (.int .u8 (numI c 255))).setCell ⟨w.heap.size, 3, none⟩ (.int .u8 (numI d 255))) (.cells #[.int .u8 (numI a 255), .int .u8 (numI b 255), .int .u8 (numI c 255), .int .u8 (numI d 255)] 24) (r := w.heap.size) (by simp; exact r1)).trans R4
  obtain ⟨⟨k0, k1, k2, k3⟩, _⟩ := cells4 R5
  clear R4 R5
  exact bodyPost_ret (v := .tuple #[addrV (byteOf (numI a 255)) (byteOf (numI b 255)) (byteOf (numI c 255)) (byteOf (numI d 255)), .bool true]) (by simp [results, Try.results45, go_sem, addrV, ea, eb, ec, ed, k0, k1, k2, k3]) rfl ⟨rfl, (((((bel.setCell (Nat.le_refl _) _).setCell (Nat.le_refl _) _).setCell (Nat.le_refl _) _).setCell (Nat.le_refl _) _).alloc (by simp; omega) _)⟩

/-- What Parse answers. -/
def ParsePost (l : List UInt8) (w : World) (e : Ending) (w' : World) : Prop :=
  (match parse4 l with
   | none => e = .returned (.tuple #[addrV 0 0 0 0, .bool false])
   | some (a, b, c, d) => e = .returned (.tuple #[addrV a b c d, .bool true])) ∧ Below w.heap.size w w'
theorem parse_any (s : ByteArray) (w : World) (hs : s.size ≤ 100000) : Calls Try.prog 45 #[.string s] w (ParsePost s.data.toList w) := by
  have hlen : s.data.toList.length = s.size := by simp
  by_cases h15 : 15 < s.size
  · refine (parse_long s w h15 hs).mono fun e w' h => ?_
    unfold ParsePost parse4
    rw [if_pos (by omega)]
    exact h
  · have hu : parse4 s.data.toList = match cutF 46 s.data.toList with
      | [a, b, c, d] => if 0 ≤ numI a 255 ∧ 0 ≤ numI b 255 ∧ 0 ≤ numI c 255 ∧ 0 ≤ numI d 255 then some (byteOf (numI a 255), byteOf (numI b 255), byteOf (numI c 255), byteOf (numI d 255)) else none
      | _ => none := if_neg (by omega)
    match hm : cutF 46 s.data.toList with
    | [a, b, c, d] =>
      rw [hm] at hu
      simp only at hu
      by_cases ha : 0 ≤ numI a 255
      · by_cases hb : 0 ≤ numI b 255
        · by_cases hc : 0 ≤ numI c 255
          · by_cases hd : 0 ≤ numI d 255
            · refine (parse_at4 s w a b c d (by omega) hm ha hb hc hd).mono fun e w' h => ?_
              unfold ParsePost; rw [hu, if_pos ⟨ha, hb, hc, hd⟩]; exact h
            · refine (parse_at3 s w a b c d (by omega) hm ha hb hc (by omega)).mono fun e w' h => ?_
              unfold ParsePost; rw [hu, if_neg (fun k => hd k.2.2.2)]; exact h
          · refine (parse_at2 s w a b c d (by omega) hm ha hb (by omega)).mono fun e w' h => ?_
            unfold ParsePost; rw [hu, if_neg (fun k => hc k.2.2.1)]; exact h
        · refine (parse_at1 s w a b c d (by omega) hm ha (by omega)).mono fun e w' h => ?_
          unfold ParsePost; rw [hu, if_neg (fun k => hb k.2.1)]; exact h
      · refine (parse_at0 s w a b c d (by omega) hm (by omega)).mono fun e w' h => ?_
        unfold ParsePost; rw [hu, if_neg (fun k => ha k.1)]; exact h
    | [] | [_] | [_, _] | [_, _, _] | _ :: _ :: _ :: _ :: _ :: _ =>
      rw [hm] at hu
      refine (parse_pieces s w (by omega) (by rw [hm]; simp)).mono fun e w' h => ?_
      unfold ParsePost; rw [hu]; exact h

end Go.Proofs.Ytdfobilagidmfaa
