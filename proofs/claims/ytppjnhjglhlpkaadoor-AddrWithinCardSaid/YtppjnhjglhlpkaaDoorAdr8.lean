/- The contract of addr's ParseNet. -/
import Derived.Test.YtppjnhjglhlpkaaDoorAdr4
import Derived.Test.YtppjnhjglhlpkaaDoorAdr7
namespace Go.Proofs.YtppjnhjglhlpkaaDoor
open Go.RowKit

theorem numI_len2 {l : List UInt8} {most : Int} (h : 0 ≤ numI l most) (hm : most < 100) : l.length ≤ 2 := by
  have hs : ¬ (l.length < 1 ∨ 9 < l.length ∨ (1 < l.length ∧ l[0]? = some 48)) := fun hs => by rw [numI_shape most hs] at h; omega
  match hg : numGo l 0 with
  | none => rw [numI_none most hg] at h; omega
  | some n =>
    rw [numI_some most n hs hg] at h
    have hn : (n : Int) ≤ most := by split at h <;> omega
    cases l with
    | nil => simp at hs
    | cons c t =>
      rw [numGo] at hg
      split at hg
      · cases hg
      rename_i hd
      by_cases ht : t.length ≤ 1
      · rw [List.length_cons]; omega
      exfalso
      have h0 : c.toNat ≠ 48 := fun e => hs (.inr (.inr ⟨by rw [List.length_cons]; omega, by
        rw [List.getElem?_cons_zero]; congr 1; exact UInt8.toNat_inj.1 e⟩))
      have h1 := numGo_ge t _ n hg
      have h2 : (10 : Nat) ^ 2 ≤ 10 ^ t.length := Nat.pow_le_pow_right (by omega) (by omega)
      have h3 : 1 * 10 ^ t.length ≤ (10 * 0 + (c.toNat - 48)) * 10 ^ t.length := Nat.mul_le_mul_right _ (by omega)
      omega
theorem parse4_len {l : List UInt8} (h : parse4 l ≠ none) : l.length ≤ 15 := by
  by_cases hl : 15 < l.length
  · exact absurd (by unfold parse4; rw [if_pos hl]) h
  · omega
/-- Split, with no bound on the length. -/
theorem splitOk_cut {l x y : List UInt8} (h : cutF 47 l = [x, y]) : splitOk l = ((parse4 x).isSome && decide (0 ≤ numI y 32)) := by
  unfold splitOk
  by_cases hk : parse4 x ≠ none ∧ 0 ≤ numI y 32
  · have h1 := parse4_len hk.1
    have h2 := numI_len2 hk.2 (by omega)
    have hj := joinF_cut 47 l
    rw [h] at hj
    have hl : l.length ≤ 18 := by
      rw [← hj]; simp only [joinF, List.length_append, List.length_singleton]; omega
    rw [if_neg (by omega), h]
  · have hr : ((parse4 x).isSome && decide (0 ≤ numI y 32)) = false := by
      by_cases h1 : parse4 x = none
      · rw [h1]; rfl
      · have : ¬ 0 ≤ numI y 32 := fun h2 => hk ⟨h1, h2⟩
        rw [decide_eq_false this, Bool.and_false]
    rw [hr]
    split
    · rfl
    · rw [h]; exact hr
theorem splitOk_not {l : List UInt8} (h : (cutF 47 l).length ≠ 2) : splitOk l = false := by
  unfold splitOk
  split
  · rfl
  · match hm : cutF 47 l with
    | [x, y] => rw [hm] at h; exact absurd rfl h
    | [] | [_] | _ :: _ :: _ :: _ => rfl
theorem netE_no {l : List UInt8} (h : splitOk l = false) : netE l = 9 ∧ netA l = (0, 0, 0, 0) ∧ netN l = 0 := by
  have hE : netE l = 9 := by unfold netE; rw [if_pos h]
  refine ⟨hE, ?_, ?_⟩
  · unfold netA; rw [hE, if_neg (by omega)]
  · unfold netN; rw [hE, if_neg (by omega)]
theorem split_vals {l x y : List UInt8} {a b c d : UInt8} (h : cutF 47 l = [x, y]) (hp : parse4 x = some (a, b, c, d)) (hn : 0 ≤ numI y 32) : splitOk l = true ∧ splitA l = (a, b, c, d) ∧ splitN l = numI y 32 := by
  have h1 := parse4_len (by rw [hp]; simp : parse4 x ≠ none)
  have h2 := numI_len2 hn (by omega)
  have hj := joinF_cut 47 l
  rw [h] at hj
  have hl : ¬ 18 < l.length := by
    rw [← hj]; simp only [joinF, List.length_append, List.length_singleton]; omega
  refine ⟨by rw [splitOk_cut h, hp, decide_eq_true hn]; rfl, ?_, ?_⟩
  · unfold splitA; rw [if_neg hl, h]; simp only; rw [hp]; rfl
  · unfold splitN; rw [if_neg hl, h]

/-- What ParseNet answers. -/
def ANetPost (l : List UInt8) (w : World) (e : Ending) (w' : World) : Prop :=
  e = .returned (.tuple #[netV (netA l).1 (netA l).2.1 (netA l).2.2.1 (netA l).2.2.2 (netN l), .int .i64 (netE l)]) ∧ Below w.heap.size w w'
theorem anet_no {l : List UInt8} {w w' : World} (h : splitOk l = false) (hb : Below w.heap.size w w') : ANetPost l w (.returned (.tuple #[netV 0 0 0 0 0, .int .i64 9])) w' := by
  obtain ⟨h1, h2, h3⟩ := netE_no h
  unfold ANetPost; rw [h1, h2, h3]; exact ⟨rfl, hb⟩
theorem aparse_none (s : ByteArray) (w : World) (hs : s.size ≤ 140737488355328) (h : parse4 s.data.toList = none) : Calls Tryd.prog 10 #[.string s] w fun e w' => e = .returned (.tuple #[.agg #[.int .u8 0, .int .u8 0, .int .u8 0, .int .u8 0], .int .i64 9]) ∧ Below w.heap.size w w' :=
  (aparse_any s w hs).mono fun e w' hh => by unfold AParsePost at hh; rw [h] at hh; exact hh
theorem aparse_some (s : ByteArray) (w : World) (hs : s.size ≤ 140737488355328) (a b c d : UInt8) (h : parse4 s.data.toList = some (a, b, c, d)) : Calls Tryd.prog 10 #[.string s] w fun e w' => e = .returned (.tuple #[.agg #[.int .u8 (a.toNat : Int), .int .u8 (b.toNat : Int), .int .u8 (c.toNat : Int), .int .u8 (d.toNat : Int)], .int .i64 0]) ∧ Below w.heap.size w w' :=
  (aparse_any s w hs).mono fun e w' hh => by unfold AParsePost at hh; rw [h] at hh; exact hh
theorem old_anet {w w1 : World} (h : Below (w.alloc (.cells #[.int .u8 0, .int .u8 0, .int .u8 0, .int .u8 0, .int .i64 0] 29)).heap.size (w.alloc (.cells #[.int .u8 0, .int .u8 0, .int .u8 0, .int .u8 0, .int .i64 0] 29)) w1) :
    w1.heap[w.heap.size]? = some (.cells #[.int .u8 0, .int .u8 0, .int .u8 0, .int .u8 0, .int .i64 0] 29 (0, 0)) ∧ w.heap.size < w1.heap.size ∧ Below w.heap.size w w1 := by
  have hs := h.size
  simp at hs
  exact ⟨(h.block _ (by simp)).trans (heap_alloc_new w _), by omega, ((Below.refl w.heap.size w).alloc (Nat.le_refl _) _).trans (h.mono (by simp))⟩

set_option maxRecDepth 100000 in
set_option maxHeartbeats 4000000 in
theorem anet_pieces (s : ByteArray) (w : World) (hs : s.size ≤ 140737488355328) (h : (cutF 47 s.data.toList).length ≠ 2) : Calls Tryd.prog 11 #[.string s] w (ANetPost s.data.toList w) := by
  have NO := Lib.hid (splitOk_not h)
  have SP := Lib.hid fun W => asplit_no s 47 2 47 2 rfl rfl (by decide) (by omega) (by omega) W hs h
  clear h hs
  go_enter Tryd.func11, Tryd.ntmps11
  go_wp2_with fail
  with_reducible refine (SP.out _).mono ?_
  rintro e w1 ⟨rfl, bel1⟩
  obtain ⟨r0, r1, bel⟩ := old_anet bel1
  obtain ⟨⟨q0, q1, q2, q3, q4⟩, f0, f1, f2, f3, f4⟩ := cells5 r0
  have R0 := Lib.hid r0
  clear r0 bel1
  go_wp2
  have R4 := put5 (x := .int .u8 0) (y := .int .u8 0) (z := .int .u8 0) (u := .int .u8 0) (v := .int .i64 0) R0.out
  obtain ⟨⟨k0, k1, k2, k3, k4⟩, _⟩ := cells5 R4
  clear R4
  exact bodyPost_ret (v := .tuple #[netV 0 0 0 0 0, .int .i64 9]) (by simp [results, Tryd.results11, go_sem, netV, k0, k1, k2, k3, k4]) rfl (anet_no NO.out (((((bel.setCell (Nat.le_refl _) _).setCell (Nat.le_refl _) _).setCell (Nat.le_refl _) _).setCell (Nat.le_refl _) _).setCell (Nat.le_refl _) _))

set_option maxRecDepth 100000 in
set_option maxHeartbeats 4000000 in
theorem anet_noaddr (s : ByteArray) (w : World) (hs : s.size ≤ 140737488355328) (x y : List UInt8) (h : cutF 47 s.data.toList = [x, y]) (hp : parse4 x = none) : Calls Tryd.prog 11 #[.string s] w (ANetPost s.data.toList w) := by
  have hpc := cutF_piece 47 s.data.toList
  rw [h] at hpc
  have lx := hpc x (by simp)
  have ly := hpc y (by simp)
  have hlen : s.data.toList.length = s.size := by simp
  have DX : (⟨x.toArray⟩ : ByteArray).data.toList = x := by simp
  have DY : (⟨y.toArray⟩ : ByteArray).data.toList = y := by simp
  have sx : (⟨x.toArray⟩ : ByteArray).size ≤ 140737488355328 := by rw [size_bs]; omega
  have sy : (⟨y.toArray⟩ : ByteArray).size ≤ 140737488355328 := by rw [size_bs]; omega
  have SP := fun W => asplit_yes s 47 2 47 2 rfl rfl (by decide) (by omega) (by omega) W hs (by rw [h]; rfl)
  rw [h] at SP
  have SPH := Lib.hid SP
  have PX := Lib.hid fun W => aparse_none ⟨x.toArray⟩ W sx (by rw [DX]; exact hp)
  have NO : Hid (splitOk s.data.toList = false) := Lib.hid (by rw [splitOk_cut h, hp]; rfl)
  clear SP hpc hs h lx ly hlen DX DY sx sy hp
  go_enter Tryd.func11, Tryd.ntmps11
  go_wp2_with fail
  with_reducible refine (SPH.out _).mono ?_
  rintro e w1 ⟨g, cap, rfl, hcap, hg0, hg1, hc, bel1⟩
  obtain ⟨r0, r1, bel⟩ := old_anet bel1
  have hgw : g ≠ w.heap.size := by simp at hg0; omega
  have p0 := hc 0 x rfl
  have p1 := hc 1 y rfl
  have hcap' : (2 : Int) ≤ cap := by omega
  clear hc bel1 hg0 hcap
  go_wp2_with fail
  with_reducible refine (PX.out _).mono ?_
  rintro e w2 ⟨rfl, bel2⟩
  have r0b := (bel2.block _ r1).trans r0
  have p1b := (bel2.cell (p := ⟨g, 1, none⟩) hg1).trans p1
  have r1b := Nat.lt_of_lt_of_le r1 bel2.size
  have hg1b := Nat.lt_of_lt_of_le hg1 bel2.size
  have belb := bel.trans (bel2.mono (by omega))
  have R0 := Lib.hid r0b
  clear r0 p0 p1 r1 hg1 bel bel2
  obtain ⟨⟨q0, q1, q2, q3, q4⟩, f0, f1, f2, f3, f4⟩ := cells5 r0b
  have hwb : w.heap.size ≠ w2.heap.size := by omega
  clear r0b p1b
  go_wp2
  have R4 : (((((w2.setCell ⟨w.heap.size, 0, none⟩ (.int .u8 0)).setCell ⟨w.heap.size, 1, none⟩ (.int .u8 0)).setCell ⟨w.heap.size, 2, none⟩ (.int .u8 0)).setCell ⟨w.heap.size, 3, none⟩ (.int .u8 0)).setCell ⟨w.heap.size, 4, none⟩ (.int .i64 0)).heap[w.heap.size]? = some (.cells #[.int .u8 0, .int .u8 0, .int .u8 0, .int .u8 0, .int .i64 0] 29 (0, 0)) := put5 R0.out
  have R5 := (Go.heap_alloc_old (((((w2.setCell ⟨w.heap.size, 0, none⟩ (.int .u8 0)).setCell ⟨w.heap.size, 1, none⟩ (.int .u8 0)).setCell ⟨w.heap.size, 2, none⟩ (.int .u8 0)).setCell ⟨w.heap.size, 3, none⟩ (.int .u8 0)).setCell ⟨w.heap.size, 4, none⟩ (.int .i64 0)) (.cells #[.int .u8 0, .int .u8 0, .int .u8 0, .int .u8 0] 24) (r := w.heap.size) (by simp; exact r1b)).trans R4
  obtain ⟨⟨k0, k1, k2, k3, k4⟩, _⟩ := cells5 R5
  clear R4 R5
  exact bodyPost_ret (v := .tuple #[netV 0 0 0 0 0, .int .i64 9]) (by simp [results, Tryd.results11, go_sem, netV, k0, k1, k2, k3, k4]) rfl (anet_no NO.out ((((((belb.setCell (Nat.le_refl _) _).setCell (Nat.le_refl _) _).setCell (Nat.le_refl _) _).setCell (Nat.le_refl _) _).setCell (Nat.le_refl _) _).alloc (by simp; omega) _))

set_option maxRecDepth 100000 in
set_option maxHeartbeats 4000000 in
theorem anet_nonum (s : ByteArray) (w : World) (hs : s.size ≤ 140737488355328) (x y : List UInt8) (a b c d : UInt8) (h : cutF 47 s.data.toList = [x, y]) (hp : parse4 x = some (a, b, c, d)) (hn : numI y 32 = -1) : Calls Tryd.prog 11 #[.string s] w (ANetPost s.data.toList w) := by
  have hpc := cutF_piece 47 s.data.toList
  rw [h] at hpc
  have lx := hpc x (by simp)
  have ly := hpc y (by simp)
  have hlen : s.data.toList.length = s.size := by simp
  have DX : (⟨x.toArray⟩ : ByteArray).data.toList = x := by simp
  have DY : (⟨y.toArray⟩ : ByteArray).data.toList = y := by simp
  have sx : (⟨x.toArray⟩ : ByteArray).size ≤ 140737488355328 := by rw [size_bs]; omega
  have sy : (⟨y.toArray⟩ : ByteArray).size ≤ 140737488355328 := by rw [size_bs]; omega
  have SP := fun W => asplit_yes s 47 2 47 2 rfl rfl (by decide) (by omega) (by omega) W hs (by rw [h]; rfl)
  rw [h] at SP
  have SPH := Lib.hid SP
  have PX := Lib.hid fun W => aparse_some ⟨x.toArray⟩ W sx a b c d (by rw [DX]; exact hp)
  have PY := Lib.hid fun W => decimal_no ⟨y.toArray⟩ 32 W sy (by omega) (by omega) (by rw [DY]; exact hn)
  have NO : Hid (splitOk s.data.toList = false) := Lib.hid (by rw [splitOk_cut h, hn]; simp)
  clear SP hpc hs h lx ly hlen DX DY sx sy hp hn
  go_enter Tryd.func11, Tryd.ntmps11
  go_wp2_with fail
  with_reducible refine (SPH.out _).mono ?_
  rintro e w1 ⟨g, cap, rfl, hcap, hg0, hg1, hc, bel1⟩
  obtain ⟨r0, r1, bel⟩ := old_anet bel1
  have hgw : g ≠ w.heap.size := by simp at hg0; omega
  have p0 := hc 0 x rfl
  have p1 := hc 1 y rfl
  have hcap' : (2 : Int) ≤ cap := by omega
  clear hc bel1 hg0 hcap
  go_wp2_with fail
  with_reducible refine (PX.out _).mono ?_
  rintro e w2 ⟨rfl, bel2⟩
  have r0b := (bel2.block _ r1).trans r0
  have p1b := (bel2.cell (p := ⟨g, 1, none⟩) hg1).trans p1
  have r1b := Nat.lt_of_lt_of_le r1 bel2.size
  have hg1b := Nat.lt_of_lt_of_le hg1 bel2.size
  have belb := bel.trans (bel2.mono (by omega))
  have R0 := Lib.hid r0b
  clear r0 p0 p1 r1 hg1 bel bel2
  have R0a := (Go.heap_alloc_old w2 (.cells #[.int .u8 (a.toNat : Int), .int .u8 (b.toNat : Int), .int .u8 (c.toNat : Int), .int .u8 (d.toNat : Int)] 24) (r := w.heap.size) r1b).trans R0.out
  have bela := belb.alloc (by omega) (.cells #[.int .u8 (a.toNat : Int), .int .u8 (b.toNat : Int), .int .u8 (c.toNat : Int), .int .u8 (d.toNat : Int)] 24)
  have zb := heap_alloc_new w2 (.cells #[.int .u8 (a.toNat : Int), .int .u8 (b.toNat : Int), .int .u8 (c.toNat : Int), .int .u8 (d.toNat : Int)] 24)
  have hz : w2.heap.size < (w2.alloc (.cells #[.int .u8 (a.toNat : Int), .int .u8 (b.toNat : Int), .int .u8 (c.toNat : Int), .int .u8 (d.toNat : Int)] 24)).heap.size := by simp
  have hzw : w.heap.size < (w2.alloc (.cells #[.int .u8 (a.toNat : Int), .int .u8 (b.toNat : Int), .int .u8 (c.toNat : Int), .int .u8 (d.toNat : Int)] 24)).heap.size := by simp; omega
  have hgb : g ≠ w2.heap.size := by omega
  have hwb : w.heap.size ≠ w2.heap.size := by omega
  clear R0 r0b
  go_wp2_with fail
  with_reducible refine (PY.out _).mono ?_
  rintro e w3 ⟨rfl, b3⟩
  have R0b := (b3.block _ hzw).trans R0a
  have z3 := (b3.block _ hz).trans zb
  have belc := bela.trans (b3.mono bela.size)
  have hz3 := Nat.lt_of_lt_of_le hz b3.size
  have hzw3 := Nat.lt_of_lt_of_le hzw b3.size
  clear R0a zb bela b3 hz hzw p1b
  have R0 := Lib.hid R0b
  obtain ⟨⟨q0, q1, q2, q3, q4⟩, f0, f1, f2, f3, f4⟩ := cells5 R0b
  clear R0b z3
  go_wp2
  have R4 := put5 (x := .int .u8 0) (y := .int .u8 0) (z := .int .u8 0) (u := .int .u8 0) (v := .int .i64 0) R0.out
  obtain ⟨⟨k0, k1, k2, k3, k4⟩, _⟩ := cells5 R4
  clear R4
  exact bodyPost_ret (v := .tuple #[netV 0 0 0 0 0, .int .i64 9]) (by simp [results, Tryd.results11, go_sem, netV, k0, k1, k2, k3, k4]) rfl (anet_no NO.out (((((belc.setCell (Nat.le_refl _) _).setCell (Nat.le_refl _) _).setCell (Nat.le_refl _) _).setCell (Nat.le_refl _) _).setCell (Nat.le_refl _) _))

set_option maxRecDepth 100000 in
set_option maxHeartbeats 4000000 in
theorem anet_arg (s : ByteArray) (w : World) (hs : s.size ≤ 140737488355328) (x y : List UInt8) (a b c d : UInt8) (n : Int) (h : cutF 47 s.data.toList = [x, y]) (hp : parse4 x = some (a, b, c, d)) (hn : numI y 32 = n) (hn0 : 0 ≤ n) (hf : firstN (be [a, b, c, d]) (clamp n) ≠ be [a, b, c, d]) : Calls Tryd.prog 11 #[.string s] w (ANetPost s.data.toList w) := by
  have hpc := cutF_piece 47 s.data.toList
  rw [h] at hpc
  have lx := hpc x (by simp)
  have ly := hpc y (by simp)
  have hlen : s.data.toList.length = s.size := by simp
  have DX : (⟨x.toArray⟩ : ByteArray).data.toList = x := by simp
  have DY : (⟨y.toArray⟩ : ByteArray).data.toList = y := by simp
  have sx : (⟨x.toArray⟩ : ByteArray).size ≤ 140737488355328 := by rw [size_bs]; omega
  have sy : (⟨y.toArray⟩ : ByteArray).size ≤ 140737488355328 := by rw [size_bs]; omega
  have SP := fun W => asplit_yes s 47 2 47 2 rfl rfl (by decide) (by omega) (by omega) W hs (by rw [h]; rfl)
  rw [h] at SP
  have SPH := Lib.hid SP
  have PX := Lib.hid fun W => aparse_some ⟨x.toArray⟩ W sx a b c d (by rw [DX]; exact hp)
  have PY' := fun W => decimal_yes ⟨y.toArray⟩ 32 W sy (by omega) (by omega) (by rw [DY, hn]; exact hn0)
  rw [DY, hn] at PY'
  have PY := Lib.hid PY'
  have POST : Hid (netE s.data.toList = 1 ∧ netA s.data.toList = (0, 0, 0, 0) ∧ netN s.data.toList = 0) := Lib.hid (by
    obtain ⟨hO, hA, hN⟩ := split_vals h hp (by rw [hn]; exact hn0)
    have hE : netE s.data.toList = 1 := by unfold netE; rw [hO, hA, hN, hn]; simp only [Bool.true_eq_false, if_false]; exact if_neg hf
    refine ⟨hE, ?_, ?_⟩
    · unfold netA; rw [hE, if_neg (by omega)]
    · unfold netN; rw [hE, if_neg (by omega)])
  have hlt4 := be_four_lt a b c d
  have hfl := firstN_le (be [a, b, c, d]) (clamp n)
  have hne := fun W => neq_adr (firstN (be [a, b, c, d]) (clamp n)) (be [a, b, c, d]) (by omega) hlt4 W
  have hgd := fun op x y W => guard_adr op x y (firstN (be [a, b, c, d]) (clamp n)) (be [a, b, c, d]) W
  have HF := Lib.hid fun W => afirst_any a b c d n W
  rw [adr_be] at hne
  simp only [adr_be] at hgd
  rw [show (firstN (be [a, b, c, d]) (clamp n) == be [a, b, c, d]) = false by simpa using hf] at hne
  generalize adr (firstN (be [a, b, c, d]) (clamp n)) = fv at *
  clear hlt4 hfl hf PY'
  clear SP hpc hs h lx ly hlen DX DY sx sy hp hn
  go_enter Tryd.func11, Tryd.ntmps11
  go_wp2_with fail
  with_reducible refine (SPH.out _).mono ?_
  rintro e w1 ⟨g, cap, rfl, hcap, hg0, hg1, hc, bel1⟩
  obtain ⟨r0, r1, bel⟩ := old_anet bel1
  have hgw : g ≠ w.heap.size := by simp at hg0; omega
  have p0 := hc 0 x rfl
  have p1 := hc 1 y rfl
  have hcap' : (2 : Int) ≤ cap := by omega
  clear hc bel1 hg0 hcap
  go_wp2_with fail
  with_reducible refine (PX.out _).mono ?_
  rintro e w2 ⟨rfl, bel2⟩
  have r0b := (bel2.block _ r1).trans r0
  have p1b := (bel2.cell (p := ⟨g, 1, none⟩) hg1).trans p1
  have r1b := Nat.lt_of_lt_of_le r1 bel2.size
  have hg1b := Nat.lt_of_lt_of_le hg1 bel2.size
  have belb := bel.trans (bel2.mono (by omega))
  have R0 := Lib.hid r0b
  clear r0 p0 p1 r1 hg1 bel bel2
  have R0a := (Go.heap_alloc_old w2 (.cells #[.int .u8 (a.toNat : Int), .int .u8 (b.toNat : Int), .int .u8 (c.toNat : Int), .int .u8 (d.toNat : Int)] 24) (r := w.heap.size) r1b).trans R0.out
  have bela := belb.alloc (by omega) (.cells #[.int .u8 (a.toNat : Int), .int .u8 (b.toNat : Int), .int .u8 (c.toNat : Int), .int .u8 (d.toNat : Int)] 24)
  have zb := heap_alloc_new w2 (.cells #[.int .u8 (a.toNat : Int), .int .u8 (b.toNat : Int), .int .u8 (c.toNat : Int), .int .u8 (d.toNat : Int)] 24)
  have hz : w2.heap.size < (w2.alloc (.cells #[.int .u8 (a.toNat : Int), .int .u8 (b.toNat : Int), .int .u8 (c.toNat : Int), .int .u8 (d.toNat : Int)] 24)).heap.size := by simp
  have hzw : w.heap.size < (w2.alloc (.cells #[.int .u8 (a.toNat : Int), .int .u8 (b.toNat : Int), .int .u8 (c.toNat : Int), .int .u8 (d.toNat : Int)] 24)).heap.size := by simp; omega
  have hgb : g ≠ w2.heap.size := by omega
  have hwb : w.heap.size ≠ w2.heap.size := by omega
  clear R0 r0b
  go_wp2_with fail
  with_reducible refine (PY.out _).mono ?_
  rintro e w3 ⟨rfl, b3⟩
  have R0b := (b3.block _ hzw).trans R0a
  have z3 := (b3.block _ hz).trans zb
  have belc := bela.trans (b3.mono bela.size)
  have hz3 := Nat.lt_of_lt_of_le hz b3.size
  have hzw3 := Nat.lt_of_lt_of_le hzw b3.size
  clear R0a zb bela b3 hz hzw p1b
  obtain ⟨⟨z0, z1, z2, z3'⟩, _⟩ := cells4 z3
  go_wp2_with fail
  have nb := heap_alloc_new w3 (.cells #[.int .u8 (a.toNat : Int), .int .u8 (b.toNat : Int), .int .u8 (c.toNat : Int), .int .u8 (d.toNat : Int), .int .i64 n] 29)
  have z4 := (Go.heap_alloc_old w3 (.cells #[.int .u8 (a.toNat : Int), .int .u8 (b.toNat : Int), .int .u8 (c.toNat : Int), .int .u8 (d.toNat : Int), .int .i64 n] 29) (r := w2.heap.size) hz3).trans z3
  have R4 := (Go.heap_alloc_old w3 (.cells #[.int .u8 (a.toNat : Int), .int .u8 (b.toNat : Int), .int .u8 (c.toNat : Int), .int .u8 (d.toNat : Int), .int .i64 n] 29) (r := w.heap.size) hzw3).trans R0b
  have beld := belc.alloc (by omega) (.cells #[.int .u8 (a.toNat : Int), .int .u8 (b.toNat : Int), .int .u8 (c.toNat : Int), .int .u8 (d.toNat : Int), .int .i64 n] 29)
  have hz0 : w3.heap.size < (w3.alloc (.cells #[.int .u8 (a.toNat : Int), .int .u8 (b.toNat : Int), .int .u8 (c.toNat : Int), .int .u8 (d.toNat : Int), .int .i64 n] 29)).heap.size := by simp
  have hz1 : w2.heap.size < (w3.alloc (.cells #[.int .u8 (a.toNat : Int), .int .u8 (b.toNat : Int), .int .u8 (c.toNat : Int), .int .u8 (d.toNat : Int), .int .i64 n] 29)).heap.size := by simp; omega
  have hzr : w.heap.size < (w3.alloc (.cells #[.int .u8 (a.toNat : Int), .int .u8 (b.toNat : Int), .int .u8 (c.toNat : Int), .int .u8 (d.toNat : Int), .int .i64 n] 29)).heap.size := by simp; omega
  obtain ⟨⟨s0, s1, s2, s3, s4⟩, _⟩ := cells5 nb
  obtain ⟨⟨s5, s6, s7, s8⟩, _⟩ := cells4 z4
  have hwn : w.heap.size ≠ w3.heap.size := by omega
  generalize w3.alloc (.cells #[.int .u8 (a.toNat : Int), .int .u8 (b.toNat : Int), .int .u8 (c.toNat : Int), .int .u8 (d.toNat : Int), .int .i64 n] 29) = w4 at nb z4 R4 beld hz0 hz1 hzr s0 s1 s2 s3 s4 s5 s6 s7 s8 ⊢
  clear z0 z1 z2 z3' z3 z4 R0b belc
  refine wp_region_held_drew (S := fun W => W.cell? ⟨w3.heap.size, 0, none⟩ = some (.int .u8 (a.toNat : Int)) ∧ W.cell? ⟨w3.heap.size, 1, none⟩ = some (.int .u8 (b.toNat : Int)) ∧ W.cell? ⟨w3.heap.size, 2, none⟩ = some (.int .u8 (c.toNat : Int)) ∧ W.cell? ⟨w3.heap.size, 3, none⟩ = some (.int .u8 (d.toNat : Int)) ∧ W.cell? ⟨w3.heap.size, 4, none⟩ = some (.int .i64 n) ∧ W.cell? ⟨w2.heap.size, 0, none⟩ = some (.int .u8 (a.toNat : Int)) ∧ W.cell? ⟨w2.heap.size, 1, none⟩ = some (.int .u8 (b.toNat : Int)) ∧ W.cell? ⟨w2.heap.size, 2, none⟩ = some (.int .u8 (c.toNat : Int)) ∧ W.cell? ⟨w2.heap.size, 3, none⟩ = some (.int .u8 (d.toNat : Int))) (by kernel_rfl) ⟨s0, s1, s2, s3, s4, s5, s6, s7, s8⟩ (fun hH => ?_)
  refine wpAnyH_take (i := 0) (v := ?_) rfl (by kernel_rfl) (by kernel_rfl) (by kernel_rfl) (fun _ _ _ h => h) (Or.inl ⟨by rfl, ?_⟩) hH ?_
  rotate_left
  · ((intro W hW; obtain ⟨s0, s1, s2, s3, s4, s5, s6, s7, s8⟩ := hW; go_simp) <;> with_reducible rfl)
  simp only [Act.put, List.getElem_toArray, List.getElem_cons_zero, List.setIfInBounds_toArray, List.set_cons_zero, List.set_cons_succ]
  refine wpAnyH_take (i := 2) (v := ?_) rfl (by kernel_rfl) (by kernel_rfl) (by kernel_rfl) (fun _ _ _ h => h) (Or.inl ⟨by rfl, ?_⟩) hH ?_
  rotate_left
  · ((intro W hW; obtain ⟨s0, s1, s2, s3, s4, s5, s6, s7, s8⟩ := hW; go_simp) <;> with_reducible rfl)
  simp only [Act.put, List.getElem_toArray, List.getElem_cons_zero, List.getElem_cons_succ, List.setIfInBounds_toArray, List.set_cons_zero, List.set_cons_succ]
  refine wpAnyH_ready (rs := [1]) (by kernel_rfl) (by simp) ?_
  refine AllReadyH.cons (o := _) rfl (fun K hK => ?_) AllReadyH.nil
  simp only [List.getElem_toArray, List.getElem_cons_zero, List.getElem_cons_succ]
  go_simp
  with_reducible refine (HF.out _).mono ?_
  rintro e v1 ⟨rfl, b1⟩
  dsimp only
  have bel1 := beld.drew.trans (b1.mono beld.size)
  have nb1 := (b1.block _ hz0).trans nb
  have R1 := (b1.block _ hzr).trans R4
  refine hK.out _ _ ⟨(b1.cell (p := ⟨_, 0, none⟩) hz0).trans hH.1, (b1.cell (p := ⟨_, 1, none⟩) hz0).trans hH.2.1, (b1.cell (p := ⟨_, 2, none⟩) hz0).trans hH.2.2.1, (b1.cell (p := ⟨_, 3, none⟩) hz0).trans hH.2.2.2.1, (b1.cell (p := ⟨_, 4, none⟩) hz0).trans hH.2.2.2.2.1, (b1.cell (p := ⟨_, 0, none⟩) hz1).trans hH.2.2.2.2.2.1, (b1.cell (p := ⟨_, 1, none⟩) hz1).trans hH.2.2.2.2.2.2.1, (b1.cell (p := ⟨_, 2, none⟩) hz1).trans hH.2.2.2.2.2.2.2.1, (b1.cell (p := ⟨_, 3, none⟩) hz1).trans hH.2.2.2.2.2.2.2.2⟩ (fun hH1 => ?_)
  clear hK K
  replace hz0 := Nat.lt_of_lt_of_le hz0 b1.size
  replace hz1 := Nat.lt_of_lt_of_le hz1 b1.size
  refine wpAnyH_take (i := 3) (v := ?_) rfl (by kernel_rfl) (by kernel_rfl) (by kernel_rfl) (fun _ _ _ h => h) (Or.inl ⟨by rfl, ?_⟩) hH1 ?_
  rotate_left
  · ((intro W hW; obtain ⟨s0, s1, s2, s3, s4, s5, s6, s7, s8⟩ := hW; go_simp) <;> with_reducible rfl)
  simp only [Act.put, List.getElem_toArray, List.getElem_cons_zero, List.getElem_cons_succ, List.setIfInBounds_toArray, List.set_cons_zero, List.set_cons_succ]
  refine wpAnyH_done (by kernel_rfl) ?_ _
  clear nb R4 b1 hne hgd
  obtain ⟨⟨y0, y1, y2, y3, y4⟩, _⟩ := cells5 nb1
  obtain ⟨⟨q0, q1, q2, q3, q4⟩, f0, f1, f2, f3, f4⟩ := cells5 R1
  have R0 := Lib.hid R1
  clear nb1 R1
  go_wp2
  have R4 := put5 (x := .int .u8 0) (y := .int .u8 0) (z := .int .u8 0) (u := .int .u8 0) (v := .int .i64 0) R0.out
  obtain ⟨⟨k0, k1, k2, k3, k4⟩, _⟩ := cells5 R4
  clear R4
  refine bodyPost_ret (v := .tuple #[netV 0 0 0 0 0, .int .i64 1]) (by simp [results, Tryd.results11, go_sem, netV, k0, k1, k2, k3, k4]) rfl ?_
  unfold ANetPost
  rw [POST.out.1, POST.out.2.1, POST.out.2.2]
  exact ⟨rfl, ((((bel1.setCell (Nat.le_refl _) _).setCell (Nat.le_refl _) _).setCell (Nat.le_refl _) _).setCell (Nat.le_refl _) _).setCell (Nat.le_refl _) _⟩

set_option maxRecDepth 100000 in
set_option maxHeartbeats 4000000 in
theorem anet_ok (s : ByteArray) (w : World) (hs : s.size ≤ 140737488355328) (x y : List UInt8) (a b c d : UInt8) (n : Int) (h : cutF 47 s.data.toList = [x, y]) (hp : parse4 x = some (a, b, c, d)) (hn : numI y 32 = n) (hn0 : 0 ≤ n) (hf : firstN (be [a, b, c, d]) (clamp n) = be [a, b, c, d]) : Calls Tryd.prog 11 #[.string s] w (ANetPost s.data.toList w) := by
  have hpc := cutF_piece 47 s.data.toList
  rw [h] at hpc
  have lx := hpc x (by simp)
  have ly := hpc y (by simp)
  have hlen : s.data.toList.length = s.size := by simp
  have DX : (⟨x.toArray⟩ : ByteArray).data.toList = x := by simp
  have DY : (⟨y.toArray⟩ : ByteArray).data.toList = y := by simp
  have sx : (⟨x.toArray⟩ : ByteArray).size ≤ 140737488355328 := by rw [size_bs]; omega
  have sy : (⟨y.toArray⟩ : ByteArray).size ≤ 140737488355328 := by rw [size_bs]; omega
  have SP := fun W => asplit_yes s 47 2 47 2 rfl rfl (by decide) (by omega) (by omega) W hs (by rw [h]; rfl)
  rw [h] at SP
  have SPH := Lib.hid SP
  have PX := Lib.hid fun W => aparse_some ⟨x.toArray⟩ W sx a b c d (by rw [DX]; exact hp)
  have PY' := fun W => decimal_yes ⟨y.toArray⟩ 32 W sy (by omega) (by omega) (by rw [DY, hn]; exact hn0)
  rw [DY, hn] at PY'
  have PY := Lib.hid PY'
  have POST : Hid (netE s.data.toList = 0 ∧ netA s.data.toList = (a, b, c, d) ∧ netN s.data.toList = n) := Lib.hid (by
    obtain ⟨hO, hA, hN⟩ := split_vals h hp (by rw [hn]; exact hn0)
    have hE : netE s.data.toList = 0 := by unfold netE; rw [hO, hA, hN, hn]; simp only [Bool.true_eq_false, if_false]; exact if_pos hf
    refine ⟨hE, ?_, ?_⟩
    · unfold netA; rw [hE, if_pos rfl, hA]
    · unfold netN; rw [hE, if_pos rfl, hN, hn])
  have hlt4 := be_four_lt a b c d
  have hfl := firstN_le (be [a, b, c, d]) (clamp n)
  have hne := fun W => neq_adr (firstN (be [a, b, c, d]) (clamp n)) (be [a, b, c, d]) (by omega) hlt4 W
  have hgd := fun op x y W => guard_adr op x y (firstN (be [a, b, c, d]) (clamp n)) (be [a, b, c, d]) W
  have HF := Lib.hid fun W => afirst_any a b c d n W
  rw [adr_be] at hne
  simp only [adr_be] at hgd
  rw [show (firstN (be [a, b, c, d]) (clamp n) == be [a, b, c, d]) = true by simpa using hf] at hne
  generalize adr (firstN (be [a, b, c, d]) (clamp n)) = fv at *
  clear hlt4 hfl hf PY'
  clear SP hpc hs h lx ly hlen DX DY sx sy hp hn
  go_enter Tryd.func11, Tryd.ntmps11
  go_wp2_with fail
  with_reducible refine (SPH.out _).mono ?_
  rintro e w1 ⟨g, cap, rfl, hcap, hg0, hg1, hc, bel1⟩
  obtain ⟨r0, r1, bel⟩ := old_anet bel1
  have hgw : g ≠ w.heap.size := by simp at hg0; omega
  have p0 := hc 0 x rfl
  have p1 := hc 1 y rfl
  have hcap' : (2 : Int) ≤ cap := by omega
  clear hc bel1 hg0 hcap
  go_wp2_with fail
  with_reducible refine (PX.out _).mono ?_
  rintro e w2 ⟨rfl, bel2⟩
  have r0b := (bel2.block _ r1).trans r0
  have p1b := (bel2.cell (p := ⟨g, 1, none⟩) hg1).trans p1
  have r1b := Nat.lt_of_lt_of_le r1 bel2.size
  have hg1b := Nat.lt_of_lt_of_le hg1 bel2.size
  have belb := bel.trans (bel2.mono (by omega))
  have R0 := Lib.hid r0b
  clear r0 p0 p1 r1 hg1 bel bel2
  have R0a := (Go.heap_alloc_old w2 (.cells #[.int .u8 (a.toNat : Int), .int .u8 (b.toNat : Int), .int .u8 (c.toNat : Int), .int .u8 (d.toNat : Int)] 24) (r := w.heap.size) r1b).trans R0.out
  have bela := belb.alloc (by omega) (.cells #[.int .u8 (a.toNat : Int), .int .u8 (b.toNat : Int), .int .u8 (c.toNat : Int), .int .u8 (d.toNat : Int)] 24)
  have zb := heap_alloc_new w2 (.cells #[.int .u8 (a.toNat : Int), .int .u8 (b.toNat : Int), .int .u8 (c.toNat : Int), .int .u8 (d.toNat : Int)] 24)
  have hz : w2.heap.size < (w2.alloc (.cells #[.int .u8 (a.toNat : Int), .int .u8 (b.toNat : Int), .int .u8 (c.toNat : Int), .int .u8 (d.toNat : Int)] 24)).heap.size := by simp
  have hzw : w.heap.size < (w2.alloc (.cells #[.int .u8 (a.toNat : Int), .int .u8 (b.toNat : Int), .int .u8 (c.toNat : Int), .int .u8 (d.toNat : Int)] 24)).heap.size := by simp; omega
  have hgb : g ≠ w2.heap.size := by omega
  have hwb : w.heap.size ≠ w2.heap.size := by omega
  clear R0 r0b
  go_wp2_with fail
  with_reducible refine (PY.out _).mono ?_
  rintro e w3 ⟨rfl, b3⟩
  have R0b := (b3.block _ hzw).trans R0a
  have z3 := (b3.block _ hz).trans zb
  have belc := bela.trans (b3.mono bela.size)
  have hz3 := Nat.lt_of_lt_of_le hz b3.size
  have hzw3 := Nat.lt_of_lt_of_le hzw b3.size
  clear R0a zb bela b3 hz hzw p1b
  obtain ⟨⟨z0, z1, z2, z3'⟩, _⟩ := cells4 z3
  go_wp2_with fail
  have nb := heap_alloc_new w3 (.cells #[.int .u8 (a.toNat : Int), .int .u8 (b.toNat : Int), .int .u8 (c.toNat : Int), .int .u8 (d.toNat : Int), .int .i64 n] 29)
  have z4 := (Go.heap_alloc_old w3 (.cells #[.int .u8 (a.toNat : Int), .int .u8 (b.toNat : Int), .int .u8 (c.toNat : Int), .int .u8 (d.toNat : Int), .int .i64 n] 29) (r := w2.heap.size) hz3).trans z3
  have R4 := (Go.heap_alloc_old w3 (.cells #[.int .u8 (a.toNat : Int), .int .u8 (b.toNat : Int), .int .u8 (c.toNat : Int), .int .u8 (d.toNat : Int), .int .i64 n] 29) (r := w.heap.size) hzw3).trans R0b
  have beld := belc.alloc (by omega) (.cells #[.int .u8 (a.toNat : Int), .int .u8 (b.toNat : Int), .int .u8 (c.toNat : Int), .int .u8 (d.toNat : Int), .int .i64 n] 29)
  have hz0 : w3.heap.size < (w3.alloc (.cells #[.int .u8 (a.toNat : Int), .int .u8 (b.toNat : Int), .int .u8 (c.toNat : Int), .int .u8 (d.toNat : Int), .int .i64 n] 29)).heap.size := by simp
  have hz1 : w2.heap.size < (w3.alloc (.cells #[.int .u8 (a.toNat : Int), .int .u8 (b.toNat : Int), .int .u8 (c.toNat : Int), .int .u8 (d.toNat : Int), .int .i64 n] 29)).heap.size := by simp; omega
  have hzr : w.heap.size < (w3.alloc (.cells #[.int .u8 (a.toNat : Int), .int .u8 (b.toNat : Int), .int .u8 (c.toNat : Int), .int .u8 (d.toNat : Int), .int .i64 n] 29)).heap.size := by simp; omega
  obtain ⟨⟨s0, s1, s2, s3, s4⟩, _⟩ := cells5 nb
  obtain ⟨⟨s5, s6, s7, s8⟩, _⟩ := cells4 z4
  have hwn : w.heap.size ≠ w3.heap.size := by omega
  generalize w3.alloc (.cells #[.int .u8 (a.toNat : Int), .int .u8 (b.toNat : Int), .int .u8 (c.toNat : Int), .int .u8 (d.toNat : Int), .int .i64 n] 29) = w4 at nb z4 R4 beld hz0 hz1 hzr s0 s1 s2 s3 s4 s5 s6 s7 s8 ⊢
  clear z0 z1 z2 z3' z3 z4 R0b belc
  refine wp_region_held_drew (S := fun W => W.cell? ⟨w3.heap.size, 0, none⟩ = some (.int .u8 (a.toNat : Int)) ∧ W.cell? ⟨w3.heap.size, 1, none⟩ = some (.int .u8 (b.toNat : Int)) ∧ W.cell? ⟨w3.heap.size, 2, none⟩ = some (.int .u8 (c.toNat : Int)) ∧ W.cell? ⟨w3.heap.size, 3, none⟩ = some (.int .u8 (d.toNat : Int)) ∧ W.cell? ⟨w3.heap.size, 4, none⟩ = some (.int .i64 n) ∧ W.cell? ⟨w2.heap.size, 0, none⟩ = some (.int .u8 (a.toNat : Int)) ∧ W.cell? ⟨w2.heap.size, 1, none⟩ = some (.int .u8 (b.toNat : Int)) ∧ W.cell? ⟨w2.heap.size, 2, none⟩ = some (.int .u8 (c.toNat : Int)) ∧ W.cell? ⟨w2.heap.size, 3, none⟩ = some (.int .u8 (d.toNat : Int))) (by kernel_rfl) ⟨s0, s1, s2, s3, s4, s5, s6, s7, s8⟩ (fun hH => ?_)
  refine wpAnyH_take (i := 0) (v := ?_) rfl (by kernel_rfl) (by kernel_rfl) (by kernel_rfl) (fun _ _ _ h => h) (Or.inl ⟨by rfl, ?_⟩) hH ?_
  rotate_left
  · ((intro W hW; obtain ⟨s0, s1, s2, s3, s4, s5, s6, s7, s8⟩ := hW; go_simp) <;> with_reducible rfl)
  simp only [Act.put, List.getElem_toArray, List.getElem_cons_zero, List.setIfInBounds_toArray, List.set_cons_zero, List.set_cons_succ]
  refine wpAnyH_take (i := 2) (v := ?_) rfl (by kernel_rfl) (by kernel_rfl) (by kernel_rfl) (fun _ _ _ h => h) (Or.inl ⟨by rfl, ?_⟩) hH ?_
  rotate_left
  · ((intro W hW; obtain ⟨s0, s1, s2, s3, s4, s5, s6, s7, s8⟩ := hW; go_simp) <;> with_reducible rfl)
  simp only [Act.put, List.getElem_toArray, List.getElem_cons_zero, List.getElem_cons_succ, List.setIfInBounds_toArray, List.set_cons_zero, List.set_cons_succ]
  refine wpAnyH_ready (rs := [1]) (by kernel_rfl) (by simp) ?_
  refine AllReadyH.cons (o := _) rfl (fun K hK => ?_) AllReadyH.nil
  simp only [List.getElem_toArray, List.getElem_cons_zero, List.getElem_cons_succ]
  go_simp
  with_reducible refine (HF.out _).mono ?_
  rintro e v1 ⟨rfl, b1⟩
  dsimp only
  have bel1 := beld.drew.trans (b1.mono beld.size)
  have nb1 := (b1.block _ hz0).trans nb
  have R1 := (b1.block _ hzr).trans R4
  refine hK.out _ _ ⟨(b1.cell (p := ⟨_, 0, none⟩) hz0).trans hH.1, (b1.cell (p := ⟨_, 1, none⟩) hz0).trans hH.2.1, (b1.cell (p := ⟨_, 2, none⟩) hz0).trans hH.2.2.1, (b1.cell (p := ⟨_, 3, none⟩) hz0).trans hH.2.2.2.1, (b1.cell (p := ⟨_, 4, none⟩) hz0).trans hH.2.2.2.2.1, (b1.cell (p := ⟨_, 0, none⟩) hz1).trans hH.2.2.2.2.2.1, (b1.cell (p := ⟨_, 1, none⟩) hz1).trans hH.2.2.2.2.2.2.1, (b1.cell (p := ⟨_, 2, none⟩) hz1).trans hH.2.2.2.2.2.2.2.1, (b1.cell (p := ⟨_, 3, none⟩) hz1).trans hH.2.2.2.2.2.2.2.2⟩ (fun hH1 => ?_)
  clear hK K
  replace hz0 := Nat.lt_of_lt_of_le hz0 b1.size
  replace hz1 := Nat.lt_of_lt_of_le hz1 b1.size
  refine wpAnyH_take (i := 3) (v := ?_) rfl (by kernel_rfl) (by kernel_rfl) (by kernel_rfl) (fun _ _ _ h => h) (Or.inl ⟨by rfl, ?_⟩) hH1 ?_
  rotate_left
  · ((intro W hW; obtain ⟨s0, s1, s2, s3, s4, s5, s6, s7, s8⟩ := hW; go_simp) <;> with_reducible rfl)
  simp only [Act.put, List.getElem_toArray, List.getElem_cons_zero, List.getElem_cons_succ, List.setIfInBounds_toArray, List.set_cons_zero, List.set_cons_succ]
  refine wpAnyH_done (by kernel_rfl) ?_ _
  clear nb R4 b1 hne hgd
  obtain ⟨⟨y0, y1, y2, y3, y4⟩, _⟩ := cells5 nb1
  obtain ⟨⟨q0, q1, q2, q3, q4⟩, f0, f1, f2, f3, f4⟩ := cells5 R1
  have R0 := Lib.hid R1
  clear nb1 R1
  go_wp2
  have R4 := put5 (x := .int .u8 (a.toNat : Int)) (y := .int .u8 (b.toNat : Int)) (z := .int .u8 (c.toNat : Int)) (u := .int .u8 (d.toNat : Int)) (v := .int .i64 n) R0.out
  obtain ⟨⟨k0, k1, k2, k3, k4⟩, _⟩ := cells5 R4
  clear R4
  refine bodyPost_ret (v := .tuple #[netV a b c d n, .int .i64 0]) (by simp [results, Tryd.results11, go_sem, netV, k0, k1, k2, k3, k4]) rfl ?_
  unfold ANetPost
  rw [POST.out.1, POST.out.2.1, POST.out.2.2]
  exact ⟨rfl, ((((bel1.setCell (Nat.le_refl _) _).setCell (Nat.le_refl _) _).setCell (Nat.le_refl _) _).setCell (Nat.le_refl _) _).setCell (Nat.le_refl _) _⟩

theorem anet_any (s : ByteArray) (w : World) (hs : s.size ≤ 140737488355328) : Calls Tryd.prog 11 #[.string s] w (ANetPost s.data.toList w) := by
  match hm : cutF 47 s.data.toList with
  | [x, y] =>
    match hp : parse4 x with
    | none => exact anet_noaddr s w hs x y hm hp
    | some (a, b, c, d) =>
      rcases numI_range y 32 with hn | hn
      · exact anet_nonum s w hs x y a b c d hm hp hn
      · by_cases hf : firstN (be [a, b, c, d]) (clamp (numI y 32)) = be [a, b, c, d]
        · exact anet_ok s w hs x y a b c d _ hm hp rfl hn.1 hf
        · exact anet_arg s w hs x y a b c d _ hm hp rfl hn.1 hf
  | [] | [_] | _ :: _ :: _ :: _ => exact anet_pieces s w hs (by rw [hm]; simp)
end Go.Proofs.YtppjnhjglhlpkaaDoor
