/- The reference's ParseMac. -/
import Derived.Test.YtdfobilagidmfaaRef3
import Derived.Test.YtdfobilagidmfaaMemz
import Derived.Deep.QuietTactic
import Derived.BigQuiet
namespace Go.Proofs.Ytdfobilagidmfaa
open Go.RowKit

theorem rhex_eq (c : UInt8) (w : World) : Calls Try.prog 71 #[.int .u8 (c.toNat : Int)] w fun e w' => e = .returned (.int .i64 (hexI c)) ∧ w' = w :=
  (rhex_any c w).mono fun _ _ h => ⟨h.1, h.2.symm⟩

/-- The i-th byte of a Mac's text; -1: none. -/
def macB (l : List UInt8) (i : Nat) : Int :=
  if hexI (l.getD (3 * i) 0) < 0 ∨ hexI (l.getD (3 * i + 1) 0) < 0 ∨ (i < 5 ∧ l.getD (3 * i + 2) 0 ≠ 58) then -1 else 16 * hexI (l.getD (3 * i) 0) + hexI (l.getD (3 * i + 1) 0)
theorem macB_range (l : List UInt8) (i : Nat) : macB l i = -1 ∨ (0 ≤ macB l i ∧ macB l i ≤ 255) := by
  have h1 := hexI_range (l.getD (3 * i) 0)
  have h2 := hexI_range (l.getD (3 * i + 1) 0)
  unfold macB
  split
  · exact .inl rfl
  · right; omega
def macBs (l : List UInt8) (k : Nat) : List UInt8 := (List.range 6).map fun i => if i < k then byteOf (macB l i) else 0
theorem macBs_len (l : List UInt8) (k : Nat) : (macBs l k).length = 6 := by simp [macBs]
theorem macBs_zero (l : List UInt8) : macBs l 0 = [0, 0, 0, 0, 0, 0] := by simp [macBs, List.range, List.range.loop]
theorem macBs_set (l : List UInt8) (k : Nat) : (macBs l k).set k (byteOf (macB l k)) = macBs l (k + 1) := by
  apply List.ext_getElem
  · simp [macBs]
  · intro i h1 h2
    rw [List.getElem_set]
    simp only [macBs, List.getElem_map, List.getElem_range]
    by_cases e : k = i
    · subst e; simp
    · rw [if_neg e]
      by_cases e2 : i < k
      · rw [if_pos e2, if_pos (by omega)]
      · rw [if_neg e2, if_neg (by omega)]
def macOk (l : List UInt8) : Prop := l.length = 17 ∧ ∀ i, i < 6 → 0 ≤ macB l i
theorem getD_str (s : ByteArray) (k : Nat) (h : k < s.size) : s.data.toList.getD k 0 = s[k] := by
  rw [List.getD_eq_getElem?_getD, List.getElem?_eq_getElem (by simpa using h)]; rfl
def mac0 : Value := .agg #[.int .u8 0, .int .u8 0, .int .u8 0, .int .u8 0, .int .u8 0, .int .u8 0]
theorem cells6 {w : World} {k : Nat} {a b c d e f : Value} {T : TypeId} (h : w.heap[k]? = some (.cells #[a, b, c, d, e, f] T (0, 0))) :
    (w.cell? ⟨k, 0, none⟩ = some a ∧ w.cell? ⟨k, 1, none⟩ = some b ∧ w.cell? ⟨k, 2, none⟩ = some c ∧ w.cell? ⟨k, 3, none⟩ = some d ∧ w.cell? ⟨k, 4, none⟩ = some e ∧ w.cell? ⟨k, 5, none⟩ = some f) ∧
    (w.frozen? ⟨k, 0, none⟩ = false ∧ w.frozen? ⟨k, 1, none⟩ = false ∧ w.frozen? ⟨k, 2, none⟩ = false ∧ w.frozen? ⟨k, 3, none⟩ = false ∧ w.frozen? ⟨k, 4, none⟩ = false ∧ w.frozen? ⟨k, 5, none⟩ = false) := by
  simp [World.cell?, World.frozen?, h]
theorem put6 {w : World} {k : Nat} {a b c d e f x y z u v t : Value} {T : TypeId} (h : w.heap[k]? = some (.cells #[a, b, c, d, e, f] T (0, 0))) :
    ((((((w.setCell ⟨k, 0, none⟩ x).setCell ⟨k, 1, none⟩ y).setCell ⟨k, 2, none⟩ z).setCell ⟨k, 3, none⟩ u).setCell ⟨k, 4, none⟩ v).setCell ⟨k, 5, none⟩ t).heap[k]? = some (.cells #[x, y, z, u, v, t] T (0, 0)) := by
  simp [World.setCell, Array.getElem?_modify, h]

theorem mac_short (s : ByteArray) (w : World) (h : s.size ≠ 17) :
    Calls Try.prog 47 #[.string s] w fun e w' => e = .returned (.tuple #[mac0, .bool false]) ∧ Below w.heap.size w w' := by
  have b1 : ((s.size : Int) == 17) = false := beq_eq_false_iff_ne.2 (by omega)
  have b2 : ((s.size : Int) != 17) = true := by simp [bne, b1]
  have H := Lib.hid h
  clear h
  go_enter Try.func47, Try.ntmps47
  go_wp2
  exact bodyPost_ret (v := .tuple #[mac0, .bool false]) (by simp [results, Try.results47, go_sem, mac0]) rfl ⟨rfl, (Below.refl _ _).alloc (Nat.le_refl _) _⟩

/-- What ParseMac answers: the value's bytes are macBs. -/
def MacPost (l : List UInt8) (w : World) (e : Ending) (w' : World) : Prop :=
  (macOk l ∧ e = .returned (.tuple #[.agg ((macBs l 6).map u8v).toArray, .bool true]) ∨ ¬ macOk l ∧ e = .returned (.tuple #[mac0, .bool false])) ∧ Below w.heap.size w w'

set_option maxHeartbeats 400000 in
theorem mac_17 (s : ByteArray) (w : World) (h : s.size = 17) : Calls Try.prog 47 #[.string s] w (MacPost s.data.toList w) := by
  have b1 : (s.size : Int) = 17 := by omega
  have hL : s.data.toList.length = 17 := by simp; exact h
  have HL := Lib.hid hL
  have H := Lib.hid h
  clear h hL
  go_enter Try.func47, Try.ntmps47
  go_wp2_with fail
  clear b1
  go_loopw [5] (fun i wr => ∃ k : Nat, k ≤ 6 ∧ i = .int .i64 k ∧ (∀ j, j < k → 0 ≤ macB s.data.toList j) ∧ wr.heap[w.heap.size]? = some (.cells #[.int .u8 0, .int .u8 0, .int .u8 0, .int .u8 0, .int .u8 0, .int .u8 0] 28 (0, 0)) ∧ Ow 28 wr (w.heap.size + 1) 6 (macBs s.data.toList k) ∧ Below w.heap.size w wr) (fun i _ => 6 - (intOf i).toNat)
  case atStart =>
    have h0 : ((w.alloc (.cells #[.int .u8 0, .int .u8 0, .int .u8 0, .int .u8 0, .int .u8 0, .int .u8 0] 28)).alloc (.cells #[.int .u8 0, .int .u8 0, .int .u8 0, .int .u8 0, .int .u8 0, .int .u8 0] 28)).heap[w.heap.size]? = some (.cells #[.int .u8 0, .int .u8 0, .int .u8 0, .int .u8 0, .int .u8 0, .int .u8 0] 28 (0, 0)) :=
      (Go.heap_alloc_old (w.alloc (.cells #[.int .u8 0, .int .u8 0, .int .u8 0, .int .u8 0, .int .u8 0, .int .u8 0] 28)) (.cells #[.int .u8 0, .int .u8 0, .int .u8 0, .int .u8 0, .int .u8 0, .int .u8 0] 28) (r := w.heap.size) (by simp)).trans (heap_alloc_new w _)
    have h1 : ((w.alloc (.cells #[.int .u8 0, .int .u8 0, .int .u8 0, .int .u8 0, .int .u8 0, .int .u8 0] 28)).alloc (.cells #[.int .u8 0, .int .u8 0, .int .u8 0, .int .u8 0, .int .u8 0, .int .u8 0] 28)).heap[w.heap.size + 1]? = some (.cells #[.int .u8 0, .int .u8 0, .int .u8 0, .int .u8 0, .int .u8 0, .int .u8 0] 28 (0, 0)) := by
      have := heap_alloc_new (w.alloc (.cells #[.int .u8 0, .int .u8 0, .int .u8 0, .int .u8 0, .int .u8 0, .int .u8 0] 28)) (.cells #[.int .u8 0, .int .u8 0, .int .u8 0, .int .u8 0, .int .u8 0, .int .u8 0] 28); simpa using this
    refine ⟨0, by omega, rfl, fun j hj => by omega, h0, ?_, ((Below.refl _ w).alloc (Nat.le_refl _) _).alloc (by simp) _⟩
    rw [macBs_zero]
    refine ⟨by simp, by unfold maxLen; omega, _, h1, fun j b hj => ?_⟩
    match j, hj with
    | 0, hj | 1, hj | 2, hj | 3, hj | 4, hj | 5, hj => simp at hj; subst hj; rfl
    | j + 6, hj => simp at hj
  case round =>
    obtain ⟨k, hk, rfl, hall, hz, hb, bel⟩ := hrel
    obtain ⟨⟨q0, q1, q2, q3, q4, q5⟩, f0, f1, f2, f3, f4, f5⟩ := cells6 hz
    have HZ := Lib.hid hz
    have HALL := Lib.hid hall
    have hzl : w.heap.size < wr.heap.size := (Array.getElem?_eq_some_iff.1 hz).1
    clear hz hall
    by_cases hlt : k < 6
    · obtain ⟨c0, hc0⟩ : ∃ c, Hid (s[3 * k]'(by have := H.out; omega) = c) := ⟨_, Lib.hid rfl⟩
      obtain ⟨c1, hc1⟩ : ∃ c, Hid (s[3 * k + 1]'(by have := H.out; omega) = c) := ⟨_, Lib.hid rfl⟩
      have g0 : s.data.toList.getD (3 * k) 0 = c0 := (getD_str s _ (by have := H.out; omega)).trans hc0.out
      have g1 : s.data.toList.getD (3 * k + 1) 0 = c1 := (getD_str s _ (by have := H.out; omega)).trans hc1.out
      have k0 : (0 : Int) ≤ k := by omega
      have k6 : (k : Int) < 6 := by omega
      have i0 : 3 * (k : Int) < s.size := by have := H.out; omega
      have i1 : 3 * (k : Int) + 1 < s.size := by have := H.out; omega
      have e0 := hc0.out
      have e1 := hc1.out
      have hB : macB s.data.toList k = if hexI c0 < 0 ∨ hexI c1 < 0 ∨ (k < 5 ∧ s.data.toList.getD (3 * k + 2) 0 ≠ 58) then -1 else 16 * hexI c0 + hexI c1 := by
        unfold macB; rw [g0, g1]
      have hr0 := hexI_range c0
      have hr1 := hexI_range c1
      clear g0 g1
      have bad : macB s.data.toList k < 0 → ∀ (wf : World), ¬ macOk s.data.toList := fun h _ hm => by have := hm.2 k hlt; omega
      by_cases h0 : hexI c0 < 0
      · have NO := Lib.hid (bad (by rw [hB, if_pos (.inl h0)]; omega) wr)
        have t0 : decide (hexI c0 < 0) = true := decide_eq_true h0
        clear h0
        clear hB hr0 hr1 bad hc0 hc1
        have w3 : IntKind.i64.wrap (3 * (k : Int)) = 3 * k := IntWalk.i64_in _ (by omega)
        have w31 : IntKind.i64.wrap (3 * (k : Int) + 1) = 3 * k + 1 := IntWalk.i64_in _ (by omega)
        have n3 : (0 : Int) ≤ 3 * (k : Int) := by omega
        have n31 : (0 : Int) ≤ 3 * (k : Int) + 1 := by omega
        have m3 : (3 * (k : Int)).toNat = 3 * k := by omega
        have m31 : (3 * (k : Int) + 1).toNat = 3 * k + 1 := by omega
        go_wp2_with fail
        go_quiet ((go_at_call 71; exact (rhex_eq _ _).mono fun _ _ h => ⟨h.1, _, h.2⟩))
        have HZd : (wr.drewN nq).heap[w.heap.size]? = some (.cells #[.int .u8 0, .int .u8 0, .int .u8 0, .int .u8 0, .int .u8 0, .int .u8 0] 28 (0, 0)) := HZ.out
        have OWd : Ow 28 (wr.drewN nq) (w.heap.size + 1) 6 (macBs s.data.toList k) := hb
        have BEd : Below w.heap.size w (wr.drewN nq) := ⟨bel.os, bel.tape, bel.output, bel.size, bel.block⟩
        generalize wr.drewN nq = wd at HZd OWd BEd ⊢
        clear q0 q1 q2 q3 q4 q5 f0 f1 f2 f3 f4 f5 HZ hb bel w3 w31 m3 m31 hzl
        obtain ⟨⟨q0, q1, q2, q3, q4, q5⟩, f0, f1, f2, f3, f4, f5⟩ := cells6 HZd
        have HZ := Lib.hid HZd
        clear HZd
        go_wp2
        have R4 := put6 (x := .int .u8 0) (y := .int .u8 0) (z := .int .u8 0) (u := .int .u8 0) (v := .int .u8 0) (t := .int .u8 0) HZ.out
        obtain ⟨⟨k0', k1', k2', k3', k4', k5'⟩, _⟩ := cells6 R4
        clear R4
        exact bodyPost_ret (v := .tuple #[mac0, .bool false]) (by simp [results, Try.results47, go_sem, mac0, k0', k1', k2', k3', k4', k5']) rfl ⟨.inr ⟨NO.out, rfl⟩, (((((BEd.setCell (Nat.le_refl _) _).setCell (Nat.le_refl _) _).setCell (Nat.le_refl _) _).setCell (Nat.le_refl _) _).setCell (Nat.le_refl _) _).setCell (Nat.le_refl _) _⟩
      by_cases h1 : hexI c1 < 0
      · have NO := Lib.hid (bad (by rw [hB, if_pos (.inr (.inl h1))]; omega) wr)
        have t0 : decide (hexI c0 < 0) = false := decide_eq_false h0
        have t1 : decide (hexI c1 < 0) = true := decide_eq_true h1
        clear h0 h1
        clear hB hr0 hr1 bad hc0 hc1
        have w3 : IntKind.i64.wrap (3 * (k : Int)) = 3 * k := IntWalk.i64_in _ (by omega)
        have w31 : IntKind.i64.wrap (3 * (k : Int) + 1) = 3 * k + 1 := IntWalk.i64_in _ (by omega)
        have n3 : (0 : Int) ≤ 3 * (k : Int) := by omega
        have n31 : (0 : Int) ≤ 3 * (k : Int) + 1 := by omega
        have m3 : (3 * (k : Int)).toNat = 3 * k := by omega
        have m31 : (3 * (k : Int) + 1).toNat = 3 * k + 1 := by omega
        go_wp2_with fail
        go_quiet ((go_at_call 71; exact (rhex_eq _ _).mono fun _ _ h => ⟨h.1, _, h.2⟩))
        have HZd : (wr.drewN nq).heap[w.heap.size]? = some (.cells #[.int .u8 0, .int .u8 0, .int .u8 0, .int .u8 0, .int .u8 0, .int .u8 0] 28 (0, 0)) := HZ.out
        have OWd : Ow 28 (wr.drewN nq) (w.heap.size + 1) 6 (macBs s.data.toList k) := hb
        have BEd : Below w.heap.size w (wr.drewN nq) := ⟨bel.os, bel.tape, bel.output, bel.size, bel.block⟩
        generalize wr.drewN nq = wd at HZd OWd BEd ⊢
        clear q0 q1 q2 q3 q4 q5 f0 f1 f2 f3 f4 f5 HZ hb bel w3 w31 m3 m31 hzl
        obtain ⟨⟨q0, q1, q2, q3, q4, q5⟩, f0, f1, f2, f3, f4, f5⟩ := cells6 HZd
        have HZ := Lib.hid HZd
        clear HZd
        go_wp2
        have R4 := put6 (x := .int .u8 0) (y := .int .u8 0) (z := .int .u8 0) (u := .int .u8 0) (v := .int .u8 0) (t := .int .u8 0) HZ.out
        obtain ⟨⟨k0', k1', k2', k3', k4', k5'⟩, _⟩ := cells6 R4
        clear R4
        exact bodyPost_ret (v := .tuple #[mac0, .bool false]) (by simp [results, Try.results47, go_sem, mac0, k0', k1', k2', k3', k4', k5']) rfl ⟨.inr ⟨NO.out, rfl⟩, (((((BEd.setCell (Nat.le_refl _) _).setCell (Nat.le_refl _) _).setCell (Nat.le_refl _) _).setCell (Nat.le_refl _) _).setCell (Nat.le_refl _) _).setCell (Nat.le_refl _) _⟩
      by_cases h5 : k < 5
      · obtain ⟨c2, hc2⟩ : ∃ c, Hid (s[3 * k + 2]'(by have := H.out; omega) = c) := ⟨_, Lib.hid rfl⟩
        have g2 : s.data.toList.getD (3 * k + 2) 0 = c2 := (getD_str s _ (by have := H.out; omega)).trans hc2.out
        have i2 : 3 * (k : Int) + 2 < s.size := by have := H.out; omega
        have e2 := hc2.out
        have t5 : decide ((k : Int) < 5) = true := decide_eq_true (by omega)
        by_cases h2 : c2 = 58
        · have hv : macB s.data.toList k = 16 * hexI c0 + hexI c1 := by
            rw [hB, if_neg (by
              rintro (h | h | h)
              · exact h0 h
              · exact h1 h
              · exact h.2 (g2.trans h2))]
          have ALL : Hid (∀ j, j < k + 1 → 0 ≤ macB s.data.toList j) := Lib.hid fun j hj => by
            by_cases e : j = k
            · subst e; rw [hv]; omega
            · exact HALL.out j (by omega)
          have MS : Hid ((macBs s.data.toList k).set k (byteOf (macB s.data.toList k)) = macBs s.data.toList (k + 1)) := Lib.hid (macBs_set _ _)
          have UB : Hid (u8v (byteOf (macB s.data.toList k)) = .int .u8 (16 * hexI c0 + hexI c1)) := Lib.hid (by
            rw [hv]; unfold u8v; rw [byteOf_val]; congr 1; omega)
          have v0 : (0 : Int) ≤ 16 * hexI c0 + hexI c1 := by omega
          have v1 : 16 * hexI c0 + hexI c1 < 256 := by omega
          have x0 : (0 : Int) ≤ hexI c0 := by omega
          have x1 : hexI c0 < 16 := by omega
          have x2 : (0 : Int) ≤ hexI c1 := by omega
          have x3 : hexI c1 < 16 := by omega
          have t0 : decide (hexI c0 < 0) = false := decide_eq_false h0
          have t1 : decide (hexI c1 < 0) = false := decide_eq_false h1
          subst h2
          clear hB hr0 hr1 bad hc0 hc1 hc2 g2 hv h0 h1
          have w3 : IntKind.i64.wrap (3 * (k : Int)) = 3 * k := IntWalk.i64_in _ (by omega)
          have w31 : IntKind.i64.wrap (3 * (k : Int) + 1) = 3 * k + 1 := IntWalk.i64_in _ (by omega)
          have n3 : (0 : Int) ≤ 3 * (k : Int) := by omega
          have n31 : (0 : Int) ≤ 3 * (k : Int) + 1 := by omega
          have m3 : (3 * (k : Int)).toNat = 3 * k := by omega
          have m31 : (3 * (k : Int) + 1).toNat = 3 * k + 1 := by omega
          go_wp2_with fail
          go_quiet ((go_at_call 71; exact (rhex_eq _ _).mono fun _ _ h => ⟨h.1, _, h.2⟩))
          have HZd : (wr.drewN nq).heap[w.heap.size]? = some (.cells #[.int .u8 0, .int .u8 0, .int .u8 0, .int .u8 0, .int .u8 0, .int .u8 0] 28 (0, 0)) := HZ.out
          have OWd : Ow 28 (wr.drewN nq) (w.heap.size + 1) 6 (macBs s.data.toList k) := hb
          have BEd : Below w.heap.size w (wr.drewN nq) := ⟨bel.os, bel.tape, bel.output, bel.size, bel.block⟩
          generalize wr.drewN nq = wd at HZd OWd BEd ⊢
          clear q0 q1 q2 q3 q4 q5 f0 f1 f2 f3 f4 f5 HZ hb bel w3 w31 m3 m31 hzl
          obtain ⟨⟨q0, q1, q2, q3, q4, q5⟩, f0, f1, f2, f3, f4, f5⟩ := cells6 HZd
          have HZ := Lib.hid HZd
          clear HZd
          obtain ⟨_, _, cb, fb⟩ := OWd.at_ k (by rw [macBs_len]; exact hlt)
          go_wp2
          have OW2 := OWd.set k (byteOf (macB s.data.toList k))
          rw [UB.out, MS.out] at OW2
          have HZ2 := (Below.heap_setCell wd ⟨w.heap.size + 1, k, none⟩ (.int .u8 (16 * hexI c0 + hexI c1)) w.heap.size (by simp)).trans HZ.out
          have BE2 := BEd.setCell (p := ⟨w.heap.size + 1, k, none⟩) (by simp) (.int .u8 (16 * hexI c0 + hexI c1))
          go_roundw
          case rel => exact ⟨k + 1, by omega, by go_num, ALL.out, HZ2, OW2, BE2⟩
          case measure => simp [intOf]; omega
        · have NO := Lib.hid (bad (by rw [hB, if_pos (.inr (.inr ⟨h5, by rw [g2]; exact h2⟩))]; omega) wr)
          have t0 : decide (hexI c0 < 0) = false := decide_eq_false h0
          have t1 : decide (hexI c1 < 0) = false := decide_eq_false h1
          have t2 : ((c2.toNat : Int) == 58) = false := beq_eq_false_iff_ne.2 (fun h => h2 (UInt8.toNat_inj.1 (by show c2.toNat = 58; omega)))
          have t3 : ((c2.toNat : Int) != 58) = true := by simp [bne, t2]
          clear h0 h1 h2 hc2 g2
          clear hB hr0 hr1 bad hc0 hc1
          have w3 : IntKind.i64.wrap (3 * (k : Int)) = 3 * k := IntWalk.i64_in _ (by omega)
          have w31 : IntKind.i64.wrap (3 * (k : Int) + 1) = 3 * k + 1 := IntWalk.i64_in _ (by omega)
          have n3 : (0 : Int) ≤ 3 * (k : Int) := by omega
          have n31 : (0 : Int) ≤ 3 * (k : Int) + 1 := by omega
          have m3 : (3 * (k : Int)).toNat = 3 * k := by omega
          have m31 : (3 * (k : Int) + 1).toNat = 3 * k + 1 := by omega
          go_wp2_with fail
          go_quiet ((go_at_call 71; exact (rhex_eq _ _).mono fun _ _ h => ⟨h.1, _, h.2⟩))
          have HZd : (wr.drewN nq).heap[w.heap.size]? = some (.cells #[.int .u8 0, .int .u8 0, .int .u8 0, .int .u8 0, .int .u8 0, .int .u8 0] 28 (0, 0)) := HZ.out
          have OWd : Ow 28 (wr.drewN nq) (w.heap.size + 1) 6 (macBs s.data.toList k) := hb
          have BEd : Below w.heap.size w (wr.drewN nq) := ⟨bel.os, bel.tape, bel.output, bel.size, bel.block⟩
          generalize wr.drewN nq = wd at HZd OWd BEd ⊢
          clear q0 q1 q2 q3 q4 q5 f0 f1 f2 f3 f4 f5 HZ hb bel w3 w31 m3 m31 hzl
          obtain ⟨⟨q0, q1, q2, q3, q4, q5⟩, f0, f1, f2, f3, f4, f5⟩ := cells6 HZd
          have HZ := Lib.hid HZd
          clear HZd
          go_wp2
          have R4 := put6 (x := .int .u8 0) (y := .int .u8 0) (z := .int .u8 0) (u := .int .u8 0) (v := .int .u8 0) (t := .int .u8 0) HZ.out
          obtain ⟨⟨k0', k1', k2', k3', k4', k5'⟩, _⟩ := cells6 R4
          clear R4
          exact bodyPost_ret (v := .tuple #[mac0, .bool false]) (by simp [results, Try.results47, go_sem, mac0, k0', k1', k2', k3', k4', k5']) rfl ⟨.inr ⟨NO.out, rfl⟩, (((((BEd.setCell (Nat.le_refl _) _).setCell (Nat.le_refl _) _).setCell (Nat.le_refl _) _).setCell (Nat.le_refl _) _).setCell (Nat.le_refl _) _).setCell (Nat.le_refl _) _⟩
      · have hv : macB s.data.toList k = 16 * hexI c0 + hexI c1 := by rw [hB, if_neg (by omega)]
        have t5 : decide ((k : Int) < 5) = false := decide_eq_false (by omega)
        have ALL : Hid (∀ j, j < k + 1 → 0 ≤ macB s.data.toList j) := Lib.hid fun j hj => by
          by_cases e : j = k
          · subst e; rw [hv]; omega
          · exact HALL.out j (by omega)
        have MS : Hid ((macBs s.data.toList k).set k (byteOf (macB s.data.toList k)) = macBs s.data.toList (k + 1)) := Lib.hid (macBs_set _ _)
        have UB : Hid (u8v (byteOf (macB s.data.toList k)) = .int .u8 (16 * hexI c0 + hexI c1)) := Lib.hid (by
          rw [hv]; unfold u8v; rw [byteOf_val]; congr 1; omega)
        have v0 : (0 : Int) ≤ 16 * hexI c0 + hexI c1 := by omega
        have v1 : 16 * hexI c0 + hexI c1 < 256 := by omega
        have x0 : (0 : Int) ≤ hexI c0 := by omega
        have x1 : hexI c0 < 16 := by omega
        have x2 : (0 : Int) ≤ hexI c1 := by omega
        have x3 : hexI c1 < 16 := by omega
        have t0 : decide (hexI c0 < 0) = false := decide_eq_false h0
        have t1 : decide (hexI c1 < 0) = false := decide_eq_false h1
        clear hB hr0 hr1 bad hc0 hc1 hv h0 h1 h5
        have w3 : IntKind.i64.wrap (3 * (k : Int)) = 3 * k := IntWalk.i64_in _ (by omega)
        have w31 : IntKind.i64.wrap (3 * (k : Int) + 1) = 3 * k + 1 := IntWalk.i64_in _ (by omega)
        have n3 : (0 : Int) ≤ 3 * (k : Int) := by omega
        have n31 : (0 : Int) ≤ 3 * (k : Int) + 1 := by omega
        have m3 : (3 * (k : Int)).toNat = 3 * k := by omega
        have m31 : (3 * (k : Int) + 1).toNat = 3 * k + 1 := by omega
        go_wp2_with fail
        go_quiet ((go_at_call 71; exact (rhex_eq _ _).mono fun _ _ h => ⟨h.1, _, h.2⟩))
        have HZd : (wr.drewN nq).heap[w.heap.size]? = some (.cells #[.int .u8 0, .int .u8 0, .int .u8 0, .int .u8 0, .int .u8 0, .int .u8 0] 28 (0, 0)) := HZ.out
        have OWd : Ow 28 (wr.drewN nq) (w.heap.size + 1) 6 (macBs s.data.toList k) := hb
        have BEd : Below w.heap.size w (wr.drewN nq) := ⟨bel.os, bel.tape, bel.output, bel.size, bel.block⟩
        generalize wr.drewN nq = wd at HZd OWd BEd ⊢
        clear q0 q1 q2 q3 q4 q5 f0 f1 f2 f3 f4 f5 HZ hb bel w3 w31 m3 m31 hzl
        obtain ⟨⟨q0, q1, q2, q3, q4, q5⟩, f0, f1, f2, f3, f4, f5⟩ := cells6 HZd
        have HZ := Lib.hid HZd
        clear HZd
        obtain ⟨_, _, cb, fb⟩ := OWd.at_ k (by rw [macBs_len]; exact hlt)
        go_wp2
        have OW2 := OWd.set k (byteOf (macB s.data.toList k))
        rw [UB.out, MS.out] at OW2
        have HZ2 := (Below.heap_setCell wd ⟨w.heap.size + 1, k, none⟩ (.int .u8 (16 * hexI c0 + hexI c1)) w.heap.size (by simp)).trans HZ.out
        have BE2 := BEd.setCell (p := ⟨w.heap.size + 1, k, none⟩) (by simp) (.int .u8 (16 * hexI c0 + hexI c1))
        go_roundw
        case rel => exact ⟨k + 1, by omega, by go_num, ALL.out, HZ2, OW2, BE2⟩
        case measure => simp [intOf]; omega
    · obtain rfl : k = 6 := by omega
      have OK : Hid (macOk s.data.toList) := Lib.hid ⟨HL.out, HALL.out⟩
      obtain ⟨b0, b1, b2, b3, b4, b5, hbs⟩ : ∃ b0 b1 b2 b3 b4 b5, Hid (macBs s.data.toList 6 = [b0, b1, b2, b3, b4, b5]) := ⟨_, _, _, _, _, _, Lib.hid rfl⟩
      rw [hbs.out] at hb
      obtain ⟨p0, _⟩ := hb.cell 0 (by simp)
      obtain ⟨p1, _⟩ := hb.cell 1 (by simp)
      obtain ⟨p2, _⟩ := hb.cell 2 (by simp)
      obtain ⟨p3, _⟩ := hb.cell 3 (by simp)
      obtain ⟨p4, _⟩ := hb.cell 4 (by simp)
      obtain ⟨p5, _⟩ := hb.cell 5 (by simp)
      simp only [List.getElem_cons_zero, List.getElem_cons_succ] at p0 p1 p2 p3 p4 p5
      clear hb HALL
      go_wp2
      have R4 := put6 (x := .int .u8 (b0.toNat : Int)) (y := .int .u8 (b1.toNat : Int)) (z := .int .u8 (b2.toNat : Int)) (u := .int .u8 (b3.toNat : Int)) (v := .int .u8 (b4.toNat : Int)) (t := .int .u8 (b5.toNat : Int)) HZ.out
      obtain ⟨⟨k0', k1', k2', k3', k4', k5'⟩, _⟩ := cells6 R4
      clear R4
      refine bodyPost_ret (v := .tuple #[.agg #[.int .u8 (b0.toNat : Int), .int .u8 (b1.toNat : Int), .int .u8 (b2.toNat : Int), .int .u8 (b3.toNat : Int), .int .u8 (b4.toNat : Int), .int .u8 (b5.toNat : Int)], .bool true]) (by simp [results, Try.results47, go_sem, k0', k1', k2', k3', k4', k5']) rfl ⟨.inl ⟨OK.out, ?_⟩, (((((bel.setCell (Nat.le_refl _) _).setCell (Nat.le_refl _) _).setCell (Nat.le_refl _) _).setCell (Nat.le_refl _) _).setCell (Nat.le_refl _) _).setCell (Nat.le_refl _) _⟩
      rw [hbs.out]; rfl
theorem mac_any (s : ByteArray) (w : World) : Calls Try.prog 47 #[.string s] w (MacPost s.data.toList w) := by
  by_cases h : s.size = 17
  · exact mac_17 s w h
  · refine (mac_short s w h).mono fun e w' hh => ?_
    exact ⟨.inr ⟨fun hm => h (by have := hm.1; simpa using this), hh.1⟩, hh.2⟩
end Go.Proofs.Ytdfobilagidmfaa
