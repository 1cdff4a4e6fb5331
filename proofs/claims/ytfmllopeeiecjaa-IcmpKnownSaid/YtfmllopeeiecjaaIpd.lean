/- Layer 6: ip4's upTo, fits, Whole. -/
import Derived.Test.YtfmllopeeiecjaaIpa
import Derived.Test.YtfmllopeeiecjaaStp
namespace Go.Proofs.Ytfmllopeeiecjaa
open Go.RowKit

/-- A slice of numbers. -/
def Si (w : World) (A : Option Addr) (n : Nat) (l : List Int) : Prop :=
  l.length = n ∧ n ≤ 1000 ∧ (0 < n → ∃ g o, A = some ⟨g, o, none⟩ ∧ ∀ j v, l[j]? = some v → w.cell? ⟨g, o + j, none⟩ = some (.int .i64 v))
theorem Si.made1 (w : World) (T : TypeId) (a : Int) : Si (w.alloc (.cells #[.int .i64 a] T)) (some ⟨w.heap.size, 0, none⟩) 1 [a] := by
  have h := heap_alloc_new w (.cells #[.int .i64 a] T)
  refine ⟨rfl, by omega, fun _ => ⟨_, _, rfl, fun j v hj => ?_⟩⟩
  match j, hj with
  | 0, hj => simp at hj; subst hj; exact cell_lit h 0 _ rfl
  | j + 1, hj => simp at hj
theorem Si.made3 (w : World) (T : TypeId) (a b c : Int) : Si (w.alloc (.cells #[.int .i64 a, .int .i64 b, .int .i64 c] T)) (some ⟨w.heap.size, 0, none⟩) 3 [a, b, c] := by
  have h := heap_alloc_new w (.cells #[.int .i64 a, .int .i64 b, .int .i64 c] T)
  refine ⟨rfl, by omega, fun _ => ⟨_, _, rfl, fun j v hj => ?_⟩⟩
  match j, hj with
  | 0, hj => simp at hj; subst hj; exact cell_lit h 0 _ rfl
  | 1, hj => simp at hj; subst hj; exact cell_lit h 1 _ rfl
  | 2, hj => simp at hj; subst hj; exact cell_lit h 2 _ rfl
  | j + 3, hj => simp at hj
/-- All from 0 to m. -/
def upTo (m : Int) (l : List Int) : Bool := l.all fun v => decide (0 ≤ v) && decide (v ≤ m)
theorem upto_bad {m : Int} {l : List Int} {k : Nat} {v : Int} (hk : l[k]? = some v) (h : v < 0 ∨ m < v) : upTo m l = false := by
  unfold upTo
  rw [List.all_eq_false]
  refine ⟨v, List.mem_of_getElem? hk, ?_⟩
  simp only [Bool.and_eq_true, decide_eq_true_eq]
  omega
theorem upto_good {m : Int} {l : List Int} (h : ∀ (j : Nat) (v : Int), l[j]? = some v → 0 ≤ v ∧ v ≤ m) : upTo m l = true := by
  unfold upTo
  rw [List.all_eq_true]
  intro v hv
  obtain ⟨j, hj⟩ := List.getElem?_of_mem hv
  have := h j v hj
  simp only [Bool.and_eq_true, decide_eq_true_eq]
  exact this
set_option maxRecDepth 100000 in
set_option maxHeartbeats 1000000 in
theorem upto_any (m : Int) (A : Option Addr) (n c : Nat) (l : List Int) (w : World) (hl : Si w A n l) :
    Calls Try.prog 54 #[.int .i64 m, .slice A n c] w fun e w' => e = .returned (.bool (upTo m l)) ∧ w = w' := by
  obtain ⟨hlen, hn, hc⟩ := hl
  go_enter Try.func54, Try.ntmps54
  go_wp2
  go_loop [9] (fun i => ∃ k : Nat, k ≤ n ∧ i = .int .i64 k ∧ ∀ j v, j < k → l[j]? = some v → 0 ≤ v ∧ v ≤ m) (fun i => n - (intOf i).toNat)
  case atStart => exact ⟨0, by omega, rfl, fun j v hj => by omega⟩
  case round =>
    obtain ⟨k, hk, rfl, hall⟩ := hrel
    have b0 : (0 : Int) ≤ k := by omega
    have b1 : (n : Int) ≤ 1000 := by omega
    by_cases hlt : k < n
    · obtain ⟨g, o, rfl, hcell⟩ := hc (by omega)
      have hkl : k < l.length := by omega
      have hv := List.getElem?_eq_getElem hkl
      generalize l[k] = v at hv
      have kc := hcell k v hv
      have t0 : (k : Int) < n := by omega
      have HA := Lib.hid hall
      have HV := Lib.hid hv
      clear hall hv hcell hc hlen hkl
      by_cases h0 : v < 0
      · go_wp2
        go_ret
        exact ⟨by rw [upto_bad HV.out (.inl h0)]; rfl, rfl⟩
      have t1 : decide (v < 0) = false := decide_eq_false h0
      have g0 : 0 ≤ v := by omega
      by_cases h1 : m < v
      · clear h0
        go_wp2
        go_ret
        exact ⟨by rw [upto_bad HV.out (.inr h1)]; rfl, rfl⟩
      have t2 : decide (m < v) = false := decide_eq_false h1
      have H1 := Lib.hid h1
      clear h0 h1
      go_wp2
      go_round
      case rel => exact ⟨k + 1, by omega, by go_num, fun j u hj hu => by
        by_cases e : j = k
        · subst e
          obtain rfl := Option.some.inj (HV.out.symm.trans hu)
          exact ⟨g0, Int.not_lt.1 H1.out⟩
        · exact HA.out j u (by omega) hu⟩
      case measure => simp [intOf]; omega
    · obtain rfl : k = n := by omega
      have HA := Lib.hid (upto_good (m := m) (l := l) (fun j v hj => hall j v (by have := (List.getElem?_eq_some_iff.1 hj).1; omega) hj))
      clear hall hc hlen hlt
      go_wp2
      go_ret
      exact ⟨by rw [HA.out]; rfl, rfl⟩

set_option maxRecDepth 100000 in
set_option maxHeartbeats 16000000 in
theorem fits_w0 (tos id fl pt ttl pr : Int) (a0 a1 a2 a3 a4 a5 a6 a7 : UInt8) (So Sb : Option Addr) (no co nb cb : Nat) (w : World) (H0 : Hid (upTo 255 [tos, ttl, pr] = false)) : Calls Try.prog 30 #[.agg #[.int .i64 tos, .int .i64 id, .int .i64 fl, .int .i64 pt, .int .i64 ttl, .int .i64 pr, .int .u8 (a0.toNat : Int), .int .u8 (a1.toNat : Int), .int .u8 (a2.toNat : Int), .int .u8 (a3.toNat : Int), .int .u8 (a4.toNat : Int), .int .u8 (a5.toNat : Int), .int .u8 (a6.toNat : Int), .int .u8 (a7.toNat : Int), .slice So no co, .slice Sb nb cb]] w fun e w' => e = .returned (.bool false) ∧ Below w.heap.size w w' := by
  have bel := Below.refl w.heap.size w
  have hp : (w.alloc (.cells #[.int .i64 tos, .int .i64 id, .int .i64 fl, .int .i64 pt, .int .i64 ttl, .int .i64 pr, .int .u8 (a0.toNat : Int), .int .u8 (a1.toNat : Int), .int .u8 (a2.toNat : Int), .int .u8 (a3.toNat : Int), .int .u8 (a4.toNat : Int), .int .u8 (a5.toNat : Int), .int .u8 (a6.toNat : Int), .int .u8 (a7.toNat : Int), .slice So no co, .slice Sb nb cb] 27)).heap[w.heap.size]? = some (.cells #[.int .i64 tos, .int .i64 id, .int .i64 fl, .int .i64 pt, .int .i64 ttl, .int .i64 pr, .int .u8 (a0.toNat : Int), .int .u8 (a1.toNat : Int), .int .u8 (a2.toNat : Int), .int .u8 (a3.toNat : Int), .int .u8 (a4.toNat : Int), .int .u8 (a5.toNat : Int), .int .u8 (a6.toNat : Int), .int .u8 (a7.toNat : Int), .slice So no co, .slice Sb nb cb] 27 (0, 0)) := by have := heap_alloc_new w (.cells #[.int .i64 tos, .int .i64 id, .int .i64 fl, .int .i64 pt, .int .i64 ttl, .int .i64 pr, .int .u8 (a0.toNat : Int), .int .u8 (a1.toNat : Int), .int .u8 (a2.toNat : Int), .int .u8 (a3.toNat : Int), .int .u8 (a4.toNat : Int), .int .u8 (a5.toNat : Int), .int .u8 (a6.toNat : Int), .int .u8 (a7.toNat : Int), .slice So no co, .slice Sb nb cb] 27); simpa using this
  have zp : w.heap.size < (w.alloc (.cells #[.int .i64 tos, .int .i64 id, .int .i64 fl, .int .i64 pt, .int .i64 ttl, .int .i64 pr, .int .u8 (a0.toNat : Int), .int .u8 (a1.toNat : Int), .int .u8 (a2.toNat : Int), .int .u8 (a3.toNat : Int), .int .u8 (a4.toNat : Int), .int .u8 (a5.toNat : Int), .int .u8 (a6.toNat : Int), .int .u8 (a7.toNat : Int), .slice So no co, .slice Sb nb cb] 27)).heap.size := by simp
  replace bel := bel.alloc bel.size (.cells #[.int .i64 tos, .int .i64 id, .int .i64 fl, .int .i64 pt, .int .i64 ttl, .int .i64 pr, .int .u8 (a0.toNat : Int), .int .u8 (a1.toNat : Int), .int .u8 (a2.toNat : Int), .int .u8 (a3.toNat : Int), .int .u8 (a4.toNat : Int), .int .u8 (a5.toNat : Int), .int .u8 (a6.toNat : Int), .int .u8 (a7.toNat : Int), .slice So no co, .slice Sb nb cb] 27)
  go_enter Try.func30, Try.ntmps30
  have R3 := cell_lit hp 0 _ rfl
  have R5 := cell_lit hp 4 _ rfl
  have R7 := cell_lit hp 5 _ rfl
  have R12 := cell_lit hp 1 _ rfl
  have R18 := cell_lit hp 2 _ rfl
  have R24 := cell_lit hp 3 _ rfl
  have R30 := cell_lit hp 14 _ rfl
  have R36 := cell_lit hp 14 _ rfl
  have sm := Si.made3 (w.alloc (.cells #[.int .i64 tos, .int .i64 id, .int .i64 fl, .int .i64 pt, .int .i64 ttl, .int .i64 pr, .int .u8 (a0.toNat : Int), .int .u8 (a1.toNat : Int), .int .u8 (a2.toNat : Int), .int .u8 (a3.toNat : Int), .int .u8 (a4.toNat : Int), .int .u8 (a5.toNat : Int), .int .u8 (a6.toNat : Int), .int .u8 (a7.toNat : Int), .slice So no co, .slice Sb nb cb] 27)) 3 tos ttl pr
  rw [show (w.alloc (.cells #[.int .i64 tos, .int .i64 id, .int .i64 fl, .int .i64 pt, .int .i64 ttl, .int .i64 pr, .int .u8 (a0.toNat : Int), .int .u8 (a1.toNat : Int), .int .u8 (a2.toNat : Int), .int .u8 (a3.toNat : Int), .int .u8 (a4.toNat : Int), .int .u8 (a5.toNat : Int), .int .u8 (a6.toNat : Int), .int .u8 (a7.toNat : Int), .slice So no co, .slice Sb nb cb] 27)).heap.size = w.heap.size + 1 by simp] at sm
  replace hp := (Go.heap_alloc_old (w.alloc (.cells #[.int .i64 tos, .int .i64 id, .int .i64 fl, .int .i64 pt, .int .i64 ttl, .int .i64 pr, .int .u8 (a0.toNat : Int), .int .u8 (a1.toNat : Int), .int .u8 (a2.toNat : Int), .int .u8 (a3.toNat : Int), .int .u8 (a4.toNat : Int), .int .u8 (a5.toNat : Int), .int .u8 (a6.toNat : Int), .int .u8 (a7.toNat : Int), .slice So no co, .slice Sb nb cb] 27)) (.cells #[.int .i64 tos, .int .i64 ttl, .int .i64 pr] 3) (r := w.heap.size) zp).trans hp
  replace zp := Nat.lt_trans zp (show (w.alloc (.cells #[.int .i64 tos, .int .i64 id, .int .i64 fl, .int .i64 pt, .int .i64 ttl, .int .i64 pr, .int .u8 (a0.toNat : Int), .int .u8 (a1.toNat : Int), .int .u8 (a2.toNat : Int), .int .u8 (a3.toNat : Int), .int .u8 (a4.toNat : Int), .int .u8 (a5.toNat : Int), .int .u8 (a6.toNat : Int), .int .u8 (a7.toNat : Int), .slice So no co, .slice Sb nb cb] 27)).heap.size < ((w.alloc (.cells #[.int .i64 tos, .int .i64 id, .int .i64 fl, .int .i64 pt, .int .i64 ttl, .int .i64 pr, .int .u8 (a0.toNat : Int), .int .u8 (a1.toNat : Int), .int .u8 (a2.toNat : Int), .int .u8 (a3.toNat : Int), .int .u8 (a4.toNat : Int), .int .u8 (a5.toNat : Int), .int .u8 (a6.toNat : Int), .int .u8 (a7.toNat : Int), .slice So no co, .slice Sb nb cb] 27)).alloc (.cells #[.int .i64 tos, .int .i64 ttl, .int .i64 pr] 3)).heap.size by simp)
  replace bel := bel.alloc bel.size (.cells #[.int .i64 tos, .int .i64 ttl, .int .i64 pr] 3)
  go_wp2_with fail
  with_reducible refine (upto_any 255 _ 3 3 [tos, ttl, pr] _ sm).mono ?_
  rintro e _ ⟨rfl, rfl⟩
  rw [H0.out]
  clear sm R3 R5 R7 R12 R18 R24 R30 R36
  go_wp2
  go_ret
  exact ⟨rfl, bel⟩
set_option maxRecDepth 100000 in
set_option maxHeartbeats 16000000 in
theorem fits_w1 (tos id fl pt ttl pr : Int) (a0 a1 a2 a3 a4 a5 a6 a7 : UInt8) (So Sb : Option Addr) (no co nb cb : Nat) (w : World) (H0 : Hid (upTo 255 [tos, ttl, pr] = true)) (H1 : Hid (upTo 65535 [id] = false)) : Calls Try.prog 30 #[.agg #[.int .i64 tos, .int .i64 id, .int .i64 fl, .int .i64 pt, .int .i64 ttl, .int .i64 pr, .int .u8 (a0.toNat : Int), .int .u8 (a1.toNat : Int), .int .u8 (a2.toNat : Int), .int .u8 (a3.toNat : Int), .int .u8 (a4.toNat : Int), .int .u8 (a5.toNat : Int), .int .u8 (a6.toNat : Int), .int .u8 (a7.toNat : Int), .slice So no co, .slice Sb nb cb]] w fun e w' => e = .returned (.bool false) ∧ Below w.heap.size w w' := by
  have bel := Below.refl w.heap.size w
  have hp : (w.alloc (.cells #[.int .i64 tos, .int .i64 id, .int .i64 fl, .int .i64 pt, .int .i64 ttl, .int .i64 pr, .int .u8 (a0.toNat : Int), .int .u8 (a1.toNat : Int), .int .u8 (a2.toNat : Int), .int .u8 (a3.toNat : Int), .int .u8 (a4.toNat : Int), .int .u8 (a5.toNat : Int), .int .u8 (a6.toNat : Int), .int .u8 (a7.toNat : Int), .slice So no co, .slice Sb nb cb] 27)).heap[w.heap.size]? = some (.cells #[.int .i64 tos, .int .i64 id, .int .i64 fl, .int .i64 pt, .int .i64 ttl, .int .i64 pr, .int .u8 (a0.toNat : Int), .int .u8 (a1.toNat : Int), .int .u8 (a2.toNat : Int), .int .u8 (a3.toNat : Int), .int .u8 (a4.toNat : Int), .int .u8 (a5.toNat : Int), .int .u8 (a6.toNat : Int), .int .u8 (a7.toNat : Int), .slice So no co, .slice Sb nb cb] 27 (0, 0)) := by have := heap_alloc_new w (.cells #[.int .i64 tos, .int .i64 id, .int .i64 fl, .int .i64 pt, .int .i64 ttl, .int .i64 pr, .int .u8 (a0.toNat : Int), .int .u8 (a1.toNat : Int), .int .u8 (a2.toNat : Int), .int .u8 (a3.toNat : Int), .int .u8 (a4.toNat : Int), .int .u8 (a5.toNat : Int), .int .u8 (a6.toNat : Int), .int .u8 (a7.toNat : Int), .slice So no co, .slice Sb nb cb] 27); simpa using this
  have zp : w.heap.size < (w.alloc (.cells #[.int .i64 tos, .int .i64 id, .int .i64 fl, .int .i64 pt, .int .i64 ttl, .int .i64 pr, .int .u8 (a0.toNat : Int), .int .u8 (a1.toNat : Int), .int .u8 (a2.toNat : Int), .int .u8 (a3.toNat : Int), .int .u8 (a4.toNat : Int), .int .u8 (a5.toNat : Int), .int .u8 (a6.toNat : Int), .int .u8 (a7.toNat : Int), .slice So no co, .slice Sb nb cb] 27)).heap.size := by simp
  replace bel := bel.alloc bel.size (.cells #[.int .i64 tos, .int .i64 id, .int .i64 fl, .int .i64 pt, .int .i64 ttl, .int .i64 pr, .int .u8 (a0.toNat : Int), .int .u8 (a1.toNat : Int), .int .u8 (a2.toNat : Int), .int .u8 (a3.toNat : Int), .int .u8 (a4.toNat : Int), .int .u8 (a5.toNat : Int), .int .u8 (a6.toNat : Int), .int .u8 (a7.toNat : Int), .slice So no co, .slice Sb nb cb] 27)
  go_enter Try.func30, Try.ntmps30
  have R3 := cell_lit hp 0 _ rfl
  have R5 := cell_lit hp 4 _ rfl
  have R7 := cell_lit hp 5 _ rfl
  have R12 := cell_lit hp 1 _ rfl
  have R18 := cell_lit hp 2 _ rfl
  have R24 := cell_lit hp 3 _ rfl
  have R30 := cell_lit hp 14 _ rfl
  have R36 := cell_lit hp 14 _ rfl
  have sm := Si.made3 (w.alloc (.cells #[.int .i64 tos, .int .i64 id, .int .i64 fl, .int .i64 pt, .int .i64 ttl, .int .i64 pr, .int .u8 (a0.toNat : Int), .int .u8 (a1.toNat : Int), .int .u8 (a2.toNat : Int), .int .u8 (a3.toNat : Int), .int .u8 (a4.toNat : Int), .int .u8 (a5.toNat : Int), .int .u8 (a6.toNat : Int), .int .u8 (a7.toNat : Int), .slice So no co, .slice Sb nb cb] 27)) 3 tos ttl pr
  rw [show (w.alloc (.cells #[.int .i64 tos, .int .i64 id, .int .i64 fl, .int .i64 pt, .int .i64 ttl, .int .i64 pr, .int .u8 (a0.toNat : Int), .int .u8 (a1.toNat : Int), .int .u8 (a2.toNat : Int), .int .u8 (a3.toNat : Int), .int .u8 (a4.toNat : Int), .int .u8 (a5.toNat : Int), .int .u8 (a6.toNat : Int), .int .u8 (a7.toNat : Int), .slice So no co, .slice Sb nb cb] 27)).heap.size = w.heap.size + 1 by simp] at sm
  replace hp := (Go.heap_alloc_old (w.alloc (.cells #[.int .i64 tos, .int .i64 id, .int .i64 fl, .int .i64 pt, .int .i64 ttl, .int .i64 pr, .int .u8 (a0.toNat : Int), .int .u8 (a1.toNat : Int), .int .u8 (a2.toNat : Int), .int .u8 (a3.toNat : Int), .int .u8 (a4.toNat : Int), .int .u8 (a5.toNat : Int), .int .u8 (a6.toNat : Int), .int .u8 (a7.toNat : Int), .slice So no co, .slice Sb nb cb] 27)) (.cells #[.int .i64 tos, .int .i64 ttl, .int .i64 pr] 3) (r := w.heap.size) zp).trans hp
  replace zp := Nat.lt_trans zp (show (w.alloc (.cells #[.int .i64 tos, .int .i64 id, .int .i64 fl, .int .i64 pt, .int .i64 ttl, .int .i64 pr, .int .u8 (a0.toNat : Int), .int .u8 (a1.toNat : Int), .int .u8 (a2.toNat : Int), .int .u8 (a3.toNat : Int), .int .u8 (a4.toNat : Int), .int .u8 (a5.toNat : Int), .int .u8 (a6.toNat : Int), .int .u8 (a7.toNat : Int), .slice So no co, .slice Sb nb cb] 27)).heap.size < ((w.alloc (.cells #[.int .i64 tos, .int .i64 id, .int .i64 fl, .int .i64 pt, .int .i64 ttl, .int .i64 pr, .int .u8 (a0.toNat : Int), .int .u8 (a1.toNat : Int), .int .u8 (a2.toNat : Int), .int .u8 (a3.toNat : Int), .int .u8 (a4.toNat : Int), .int .u8 (a5.toNat : Int), .int .u8 (a6.toNat : Int), .int .u8 (a7.toNat : Int), .slice So no co, .slice Sb nb cb] 27)).alloc (.cells #[.int .i64 tos, .int .i64 ttl, .int .i64 pr] 3)).heap.size by simp)
  replace bel := bel.alloc bel.size (.cells #[.int .i64 tos, .int .i64 ttl, .int .i64 pr] 3)
  go_wp2_with fail
  with_reducible refine (upto_any 255 _ 3 3 [tos, ttl, pr] _ sm).mono ?_
  rintro e _ ⟨rfl, rfl⟩
  rw [H0.out]
  clear sm R3 R5 R7 R12 R18 R24 R30 R36
  generalize ((w.alloc (.cells #[.int .i64 tos, .int .i64 id, .int .i64 fl, .int .i64 pt, .int .i64 ttl, .int .i64 pr, .int .u8 (a0.toNat : Int), .int .u8 (a1.toNat : Int), .int .u8 (a2.toNat : Int), .int .u8 (a3.toNat : Int), .int .u8 (a4.toNat : Int), .int .u8 (a5.toNat : Int), .int .u8 (a6.toNat : Int), .int .u8 (a7.toNat : Int), .slice So no co, .slice Sb nb cb] 27)).alloc (.cells #[.int .i64 tos, .int .i64 ttl, .int .i64 pr] 3)) = v1 at hp zp bel ⊢
  have R3 := cell_lit hp 0 _ rfl
  have R5 := cell_lit hp 4 _ rfl
  have R7 := cell_lit hp 5 _ rfl
  have R12 := cell_lit hp 1 _ rfl
  have R18 := cell_lit hp 2 _ rfl
  have R24 := cell_lit hp 3 _ rfl
  have R30 := cell_lit hp 14 _ rfl
  have R36 := cell_lit hp 14 _ rfl
  have sm := Si.made1 v1 3 id
  replace hp := (Go.heap_alloc_old v1 (.cells #[.int .i64 id] 3) (r := w.heap.size) zp).trans hp
  replace zp := Nat.lt_trans zp (show v1.heap.size < (v1.alloc (.cells #[.int .i64 id] 3)).heap.size by simp)
  replace bel := bel.alloc bel.size (.cells #[.int .i64 id] 3)
  go_wp2_with fail
  with_reducible refine (upto_any 65535 _ 1 1 [id] _ sm).mono ?_
  rintro e _ ⟨rfl, rfl⟩
  rw [H1.out]
  clear sm R3 R5 R7 R12 R18 R24 R30 R36
  go_wp2
  go_ret
  exact ⟨rfl, bel⟩
set_option maxRecDepth 100000 in
set_option maxHeartbeats 16000000 in
theorem fits_w2 (tos id fl pt ttl pr : Int) (a0 a1 a2 a3 a4 a5 a6 a7 : UInt8) (So Sb : Option Addr) (no co nb cb : Nat) (w : World) (H0 : Hid (upTo 255 [tos, ttl, pr] = true)) (H1 : Hid (upTo 65535 [id] = true)) (H2 : Hid (upTo 7 [fl] = false)) : Calls Try.prog 30 #[.agg #[.int .i64 tos, .int .i64 id, .int .i64 fl, .int .i64 pt, .int .i64 ttl, .int .i64 pr, .int .u8 (a0.toNat : Int), .int .u8 (a1.toNat : Int), .int .u8 (a2.toNat : Int), .int .u8 (a3.toNat : Int), .int .u8 (a4.toNat : Int), .int .u8 (a5.toNat : Int), .int .u8 (a6.toNat : Int), .int .u8 (a7.toNat : Int), .slice So no co, .slice Sb nb cb]] w fun e w' => e = .returned (.bool false) ∧ Below w.heap.size w w' := by
  have bel := Below.refl w.heap.size w
  have hp : (w.alloc (.cells #[.int .i64 tos, .int .i64 id, .int .i64 fl, .int .i64 pt, .int .i64 ttl, .int .i64 pr, .int .u8 (a0.toNat : Int), .int .u8 (a1.toNat : Int), .int .u8 (a2.toNat : Int), .int .u8 (a3.toNat : Int), .int .u8 (a4.toNat : Int), .int .u8 (a5.toNat : Int), .int .u8 (a6.toNat : Int), .int .u8 (a7.toNat : Int), .slice So no co, .slice Sb nb cb] 27)).heap[w.heap.size]? = some (.cells #[.int .i64 tos, .int .i64 id, .int .i64 fl, .int .i64 pt, .int .i64 ttl, .int .i64 pr, .int .u8 (a0.toNat : Int), .int .u8 (a1.toNat : Int), .int .u8 (a2.toNat : Int), .int .u8 (a3.toNat : Int), .int .u8 (a4.toNat : Int), .int .u8 (a5.toNat : Int), .int .u8 (a6.toNat : Int), .int .u8 (a7.toNat : Int), .slice So no co, .slice Sb nb cb] 27 (0, 0)) := by have := heap_alloc_new w (.cells #[.int .i64 tos, .int .i64 id, .int .i64 fl, .int .i64 pt, .int .i64 ttl, .int .i64 pr, .int .u8 (a0.toNat : Int), .int .u8 (a1.toNat : Int), .int .u8 (a2.toNat : Int), .int .u8 (a3.toNat : Int), .int .u8 (a4.toNat : Int), .int .u8 (a5.toNat : Int), .int .u8 (a6.toNat : Int), .int .u8 (a7.toNat : Int), .slice So no co, .slice Sb nb cb] 27); simpa using this
  have zp : w.heap.size < (w.alloc (.cells #[.int .i64 tos, .int .i64 id, .int .i64 fl, .int .i64 pt, .int .i64 ttl, .int .i64 pr, .int .u8 (a0.toNat : Int), .int .u8 (a1.toNat : Int), .int .u8 (a2.toNat : Int), .int .u8 (a3.toNat : Int), .int .u8 (a4.toNat : Int), .int .u8 (a5.toNat : Int), .int .u8 (a6.toNat : Int), .int .u8 (a7.toNat : Int), .slice So no co, .slice Sb nb cb] 27)).heap.size := by simp
  replace bel := bel.alloc bel.size (.cells #[.int .i64 tos, .int .i64 id, .int .i64 fl, .int .i64 pt, .int .i64 ttl, .int .i64 pr, .int .u8 (a0.toNat : Int), .int .u8 (a1.toNat : Int), .int .u8 (a2.toNat : Int), .int .u8 (a3.toNat : Int), .int .u8 (a4.toNat : Int), .int .u8 (a5.toNat : Int), .int .u8 (a6.toNat : Int), .int .u8 (a7.toNat : Int), .slice So no co, .slice Sb nb cb] 27)
  go_enter Try.func30, Try.ntmps30
  have R3 := cell_lit hp 0 _ rfl
  have R5 := cell_lit hp 4 _ rfl
  have R7 := cell_lit hp 5 _ rfl
  have R12 := cell_lit hp 1 _ rfl
  have R18 := cell_lit hp 2 _ rfl
  have R24 := cell_lit hp 3 _ rfl
  have R30 := cell_lit hp 14 _ rfl
  have R36 := cell_lit hp 14 _ rfl
  have sm := Si.made3 (w.alloc (.cells #[.int .i64 tos, .int .i64 id, .int .i64 fl, .int .i64 pt, .int .i64 ttl, .int .i64 pr, .int .u8 (a0.toNat : Int), .int .u8 (a1.toNat : Int), .int .u8 (a2.toNat : Int), .int .u8 (a3.toNat : Int), .int .u8 (a4.toNat : Int), .int .u8 (a5.toNat : Int), .int .u8 (a6.toNat : Int), .int .u8 (a7.toNat : Int), .slice So no co, .slice Sb nb cb] 27)) 3 tos ttl pr
  rw [show (w.alloc (.cells #[.int .i64 tos, .int .i64 id, .int .i64 fl, .int .i64 pt, .int .i64 ttl, .int .i64 pr, .int .u8 (a0.toNat : Int), .int .u8 (a1.toNat : Int), .int .u8 (a2.toNat : Int), .int .u8 (a3.toNat : Int), .int .u8 (a4.toNat : Int), .int .u8 (a5.toNat : Int), .int .u8 (a6.toNat : Int), .int .u8 (a7.toNat : Int), .slice So no co, .slice Sb nb cb] 27)).heap.size = w.heap.size + 1 by simp] at sm
  replace hp := (Go.heap_alloc_old (w.alloc (.cells #[.int .i64 tos, .int .i64 id, .int .i64 fl, .int .i64 pt, .int .i64 ttl, .int .i64 pr, .int .u8 (a0.toNat : Int), .int .u8 (a1.toNat : Int), .int .u8 (a2.toNat : Int), .int .u8 (a3.toNat : Int), .int .u8 (a4.toNat : Int), .int .u8 (a5.toNat : Int), .int .u8 (a6.toNat : Int), .int .u8 (a7.toNat : Int), .slice So no co, .slice Sb nb cb] 27)) (.cells #[.int .i64 tos, .int .i64 ttl, .int .i64 pr] 3) (r := w.heap.size) zp).trans hp
  replace zp := Nat.lt_trans zp (show (w.alloc (.cells #[.int .i64 tos, .int .i64 id, .int .i64 fl, .int .i64 pt, .int .i64 ttl, .int .i64 pr, .int .u8 (a0.toNat : Int), .int .u8 (a1.toNat : Int), .int .u8 (a2.toNat : Int), .int .u8 (a3.toNat : Int), .int .u8 (a4.toNat : Int), .int .u8 (a5.toNat : Int), .int .u8 (a6.toNat : Int), .int .u8 (a7.toNat : Int), .slice So no co, .slice Sb nb cb] 27)).heap.size < ((w.alloc (.cells #[.int .i64 tos, .int .i64 id, .int .i64 fl, .int .i64 pt, .int .i64 ttl, .int .i64 pr, .int .u8 (a0.toNat : Int), .int .u8 (a1.toNat : Int), .int .u8 (a2.toNat : Int), .int .u8 (a3.toNat : Int), .int .u8 (a4.toNat : Int), .int .u8 (a5.toNat : Int), .int .u8 (a6.toNat : Int), .int .u8 (a7.toNat : Int), .slice So no co, .slice Sb nb cb] 27)).alloc (.cells #[.int .i64 tos, .int .i64 ttl, .int .i64 pr] 3)).heap.size by simp)
  replace bel := bel.alloc bel.size (.cells #[.int .i64 tos, .int .i64 ttl, .int .i64 pr] 3)
  go_wp2_with fail
  with_reducible refine (upto_any 255 _ 3 3 [tos, ttl, pr] _ sm).mono ?_
  rintro e _ ⟨rfl, rfl⟩
  rw [H0.out]
  clear sm R3 R5 R7 R12 R18 R24 R30 R36
  generalize ((w.alloc (.cells #[.int .i64 tos, .int .i64 id, .int .i64 fl, .int .i64 pt, .int .i64 ttl, .int .i64 pr, .int .u8 (a0.toNat : Int), .int .u8 (a1.toNat : Int), .int .u8 (a2.toNat : Int), .int .u8 (a3.toNat : Int), .int .u8 (a4.toNat : Int), .int .u8 (a5.toNat : Int), .int .u8 (a6.toNat : Int), .int .u8 (a7.toNat : Int), .slice So no co, .slice Sb nb cb] 27)).alloc (.cells #[.int .i64 tos, .int .i64 ttl, .int .i64 pr] 3)) = v1 at hp zp bel ⊢
  have R3 := cell_lit hp 0 _ rfl
  have R5 := cell_lit hp 4 _ rfl
  have R7 := cell_lit hp 5 _ rfl
  have R12 := cell_lit hp 1 _ rfl
  have R18 := cell_lit hp 2 _ rfl
  have R24 := cell_lit hp 3 _ rfl
  have R30 := cell_lit hp 14 _ rfl
  have R36 := cell_lit hp 14 _ rfl
  have sm := Si.made1 v1 3 id
  replace hp := (Go.heap_alloc_old v1 (.cells #[.int .i64 id] 3) (r := w.heap.size) zp).trans hp
  replace zp := Nat.lt_trans zp (show v1.heap.size < (v1.alloc (.cells #[.int .i64 id] 3)).heap.size by simp)
  replace bel := bel.alloc bel.size (.cells #[.int .i64 id] 3)
  go_wp2_with fail
  with_reducible refine (upto_any 65535 _ 1 1 [id] _ sm).mono ?_
  rintro e _ ⟨rfl, rfl⟩
  rw [H1.out]
  clear sm R3 R5 R7 R12 R18 R24 R30 R36
  generalize (v1.alloc (.cells #[.int .i64 id] 3)) = v2 at hp zp bel ⊢
  have R3 := cell_lit hp 0 _ rfl
  have R5 := cell_lit hp 4 _ rfl
  have R7 := cell_lit hp 5 _ rfl
  have R12 := cell_lit hp 1 _ rfl
  have R18 := cell_lit hp 2 _ rfl
  have R24 := cell_lit hp 3 _ rfl
  have R30 := cell_lit hp 14 _ rfl
  have R36 := cell_lit hp 14 _ rfl
  have sm := Si.made1 v2 3 fl
  replace hp := (Go.heap_alloc_old v2 (.cells #[.int .i64 fl] 3) (r := w.heap.size) zp).trans hp
  replace zp := Nat.lt_trans zp (show v2.heap.size < (v2.alloc (.cells #[.int .i64 fl] 3)).heap.size by simp)
  replace bel := bel.alloc bel.size (.cells #[.int .i64 fl] 3)
  go_wp2_with fail
  with_reducible refine (upto_any 7 _ 1 1 [fl] _ sm).mono ?_
  rintro e _ ⟨rfl, rfl⟩
  rw [H2.out]
  clear sm R3 R5 R7 R12 R18 R24 R30 R36
  go_wp2
  go_ret
  exact ⟨rfl, bel⟩
set_option maxRecDepth 100000 in
set_option maxHeartbeats 16000000 in
theorem fits_w3 (tos id fl pt ttl pr : Int) (a0 a1 a2 a3 a4 a5 a6 a7 : UInt8) (So Sb : Option Addr) (no co nb cb : Nat) (w : World) (H0 : Hid (upTo 255 [tos, ttl, pr] = true)) (H1 : Hid (upTo 65535 [id] = true)) (H2 : Hid (upTo 7 [fl] = true)) (H3 : Hid (upTo 8191 [pt] = false)) : Calls Try.prog 30 #[.agg #[.int .i64 tos, .int .i64 id, .int .i64 fl, .int .i64 pt, .int .i64 ttl, .int .i64 pr, .int .u8 (a0.toNat : Int), .int .u8 (a1.toNat : Int), .int .u8 (a2.toNat : Int), .int .u8 (a3.toNat : Int), .int .u8 (a4.toNat : Int), .int .u8 (a5.toNat : Int), .int .u8 (a6.toNat : Int), .int .u8 (a7.toNat : Int), .slice So no co, .slice Sb nb cb]] w fun e w' => e = .returned (.bool false) ∧ Below w.heap.size w w' := by
  have bel := Below.refl w.heap.size w
  have hp : (w.alloc (.cells #[.int .i64 tos, .int .i64 id, .int .i64 fl, .int .i64 pt, .int .i64 ttl, .int .i64 pr, .int .u8 (a0.toNat : Int), .int .u8 (a1.toNat : Int), .int .u8 (a2.toNat : Int), .int .u8 (a3.toNat : Int), .int .u8 (a4.toNat : Int), .int .u8 (a5.toNat : Int), .int .u8 (a6.toNat : Int), .int .u8 (a7.toNat : Int), .slice So no co, .slice Sb nb cb] 27)).heap[w.heap.size]? = some (.cells #[.int .i64 tos, .int .i64 id, .int .i64 fl, .int .i64 pt, .int .i64 ttl, .int .i64 pr, .int .u8 (a0.toNat : Int), .int .u8 (a1.toNat : Int), .int .u8 (a2.toNat : Int), .int .u8 (a3.toNat : Int), .int .u8 (a4.toNat : Int), .int .u8 (a5.toNat : Int), .int .u8 (a6.toNat : Int), .int .u8 (a7.toNat : Int), .slice So no co, .slice Sb nb cb] 27 (0, 0)) := by have := heap_alloc_new w (.cells #[.int .i64 tos, .int .i64 id, .int .i64 fl, .int .i64 pt, .int .i64 ttl, .int .i64 pr, .int .u8 (a0.toNat : Int), .int .u8 (a1.toNat : Int), .int .u8 (a2.toNat : Int), .int .u8 (a3.toNat : Int), .int .u8 (a4.toNat : Int), .int .u8 (a5.toNat : Int), .int .u8 (a6.toNat : Int), .int .u8 (a7.toNat : Int), .slice So no co, .slice Sb nb cb] 27); simpa using this
  have zp : w.heap.size < (w.alloc (.cells #[.int .i64 tos, .int .i64 id, .int .i64 fl, .int .i64 pt, .int .i64 ttl, .int .i64 pr, .int .u8 (a0.toNat : Int), .int .u8 (a1.toNat : Int), .int .u8 (a2.toNat : Int), .int .u8 (a3.toNat : Int), .int .u8 (a4.toNat : Int), .int .u8 (a5.toNat : Int), .int .u8 (a6.toNat : Int), .int .u8 (a7.toNat : Int), .slice So no co, .slice Sb nb cb] 27)).heap.size := by simp
  replace bel := bel.alloc bel.size (.cells #[.int .i64 tos, .int .i64 id, .int .i64 fl, .int .i64 pt, .int .i64 ttl, .int .i64 pr, .int .u8 (a0.toNat : Int), .int .u8 (a1.toNat : Int), .int .u8 (a2.toNat : Int), .int .u8 (a3.toNat : Int), .int .u8 (a4.toNat : Int), .int .u8 (a5.toNat : Int), .int .u8 (a6.toNat : Int), .int .u8 (a7.toNat : Int), .slice So no co, .slice Sb nb cb] 27)
  go_enter Try.func30, Try.ntmps30
  have R3 := cell_lit hp 0 _ rfl
  have R5 := cell_lit hp 4 _ rfl
  have R7 := cell_lit hp 5 _ rfl
  have R12 := cell_lit hp 1 _ rfl
  have R18 := cell_lit hp 2 _ rfl
  have R24 := cell_lit hp 3 _ rfl
  have R30 := cell_lit hp 14 _ rfl
  have R36 := cell_lit hp 14 _ rfl
  have sm := Si.made3 (w.alloc (.cells #[.int .i64 tos, .int .i64 id, .int .i64 fl, .int .i64 pt, .int .i64 ttl, .int .i64 pr, .int .u8 (a0.toNat : Int), .int .u8 (a1.toNat : Int), .int .u8 (a2.toNat : Int), .int .u8 (a3.toNat : Int), .int .u8 (a4.toNat : Int), .int .u8 (a5.toNat : Int), .int .u8 (a6.toNat : Int), .int .u8 (a7.toNat : Int), .slice So no co, .slice Sb nb cb] 27)) 3 tos ttl pr
  rw [show (w.alloc (.cells #[.int .i64 tos, .int .i64 id, .int .i64 fl, .int .i64 pt, .int .i64 ttl, .int .i64 pr, .int .u8 (a0.toNat : Int), .int .u8 (a1.toNat : Int), .int .u8 (a2.toNat : Int), .int .u8 (a3.toNat : Int), .int .u8 (a4.toNat : Int), .int .u8 (a5.toNat : Int), .int .u8 (a6.toNat : Int), .int .u8 (a7.toNat : Int), .slice So no co, .slice Sb nb cb] 27)).heap.size = w.heap.size + 1 by simp] at sm
  replace hp := (Go.heap_alloc_old (w.alloc (.cells #[.int .i64 tos, .int .i64 id, .int .i64 fl, .int .i64 pt, .int .i64 ttl, .int .i64 pr, .int .u8 (a0.toNat : Int), .int .u8 (a1.toNat : Int), .int .u8 (a2.toNat : Int), .int .u8 (a3.toNat : Int), .int .u8 (a4.toNat : Int), .int .u8 (a5.toNat : Int), .int .u8 (a6.toNat : Int), .int .u8 (a7.toNat : Int), .slice So no co, .slice Sb nb cb] 27)) (.cells #[.int .i64 tos, .int .i64 ttl, .int .i64 pr] 3) (r := w.heap.size) zp).trans hp
  replace zp := Nat.lt_trans zp (show (w.alloc (.cells #[.int .i64 tos, .int .i64 id, .int .i64 fl, .int .i64 pt, .int .i64 ttl, .int .i64 pr, .int .u8 (a0.toNat : Int), .int .u8 (a1.toNat : Int), .int .u8 (a2.toNat : Int), .int .u8 (a3.toNat : Int), .int .u8 (a4.toNat : Int), .int .u8 (a5.toNat : Int), .int .u8 (a6.toNat : Int), .int .u8 (a7.toNat : Int), .slice So no co, .slice Sb nb cb] 27)).heap.size < ((w.alloc (.cells #[.int .i64 tos, .int .i64 id, .int .i64 fl, .int .i64 pt, .int .i64 ttl, .int .i64 pr, .int .u8 (a0.toNat : Int), .int .u8 (a1.toNat : Int), .int .u8 (a2.toNat : Int), .int .u8 (a3.toNat : Int), .int .u8 (a4.toNat : Int), .int .u8 (a5.toNat : Int), .int .u8 (a6.toNat : Int), .int .u8 (a7.toNat : Int), .slice So no co, .slice Sb nb cb] 27)).alloc (.cells #[.int .i64 tos, .int .i64 ttl, .int .i64 pr] 3)).heap.size by simp)
  replace bel := bel.alloc bel.size (.cells #[.int .i64 tos, .int .i64 ttl, .int .i64 pr] 3)
  go_wp2_with fail
  with_reducible refine (upto_any 255 _ 3 3 [tos, ttl, pr] _ sm).mono ?_
  rintro e _ ⟨rfl, rfl⟩
  rw [H0.out]
  clear sm R3 R5 R7 R12 R18 R24 R30 R36
  generalize ((w.alloc (.cells #[.int .i64 tos, .int .i64 id, .int .i64 fl, .int .i64 pt, .int .i64 ttl, .int .i64 pr, .int .u8 (a0.toNat : Int), .int .u8 (a1.toNat : Int), .int .u8 (a2.toNat : Int), .int .u8 (a3.toNat : Int), .int .u8 (a4.toNat : Int), .int .u8 (a5.toNat : Int), .int .u8 (a6.toNat : Int), .int .u8 (a7.toNat : Int), .slice So no co, .slice Sb nb cb] 27)).alloc (.cells #[.int .i64 tos, .int .i64 ttl, .int .i64 pr] 3)) = v1 at hp zp bel ⊢
  have R3 := cell_lit hp 0 _ rfl
  have R5 := cell_lit hp 4 _ rfl
  have R7 := cell_lit hp 5 _ rfl
  have R12 := cell_lit hp 1 _ rfl
  have R18 := cell_lit hp 2 _ rfl
  have R24 := cell_lit hp 3 _ rfl
  have R30 := cell_lit hp 14 _ rfl
  have R36 := cell_lit hp 14 _ rfl
  have sm := Si.made1 v1 3 id
  replace hp := (Go.heap_alloc_old v1 (.cells #[.int .i64 id] 3) (r := w.heap.size) zp).trans hp
  replace zp := Nat.lt_trans zp (show v1.heap.size < (v1.alloc (.cells #[.int .i64 id] 3)).heap.size by simp)
  replace bel := bel.alloc bel.size (.cells #[.int .i64 id] 3)
  go_wp2_with fail
  with_reducible refine (upto_any 65535 _ 1 1 [id] _ sm).mono ?_
  rintro e _ ⟨rfl, rfl⟩
  rw [H1.out]
  clear sm R3 R5 R7 R12 R18 R24 R30 R36
  generalize (v1.alloc (.cells #[.int .i64 id] 3)) = v2 at hp zp bel ⊢
  have R3 := cell_lit hp 0 _ rfl
  have R5 := cell_lit hp 4 _ rfl
  have R7 := cell_lit hp 5 _ rfl
  have R12 := cell_lit hp 1 _ rfl
  have R18 := cell_lit hp 2 _ rfl
  have R24 := cell_lit hp 3 _ rfl
  have R30 := cell_lit hp 14 _ rfl
  have R36 := cell_lit hp 14 _ rfl
  have sm := Si.made1 v2 3 fl
  replace hp := (Go.heap_alloc_old v2 (.cells #[.int .i64 fl] 3) (r := w.heap.size) zp).trans hp
  replace zp := Nat.lt_trans zp (show v2.heap.size < (v2.alloc (.cells #[.int .i64 fl] 3)).heap.size by simp)
  replace bel := bel.alloc bel.size (.cells #[.int .i64 fl] 3)
  go_wp2_with fail
  with_reducible refine (upto_any 7 _ 1 1 [fl] _ sm).mono ?_
  rintro e _ ⟨rfl, rfl⟩
  rw [H2.out]
  clear sm R3 R5 R7 R12 R18 R24 R30 R36
  generalize (v2.alloc (.cells #[.int .i64 fl] 3)) = v3 at hp zp bel ⊢
  have R3 := cell_lit hp 0 _ rfl
  have R5 := cell_lit hp 4 _ rfl
  have R7 := cell_lit hp 5 _ rfl
  have R12 := cell_lit hp 1 _ rfl
  have R18 := cell_lit hp 2 _ rfl
  have R24 := cell_lit hp 3 _ rfl
  have R30 := cell_lit hp 14 _ rfl
  have R36 := cell_lit hp 14 _ rfl
  have sm := Si.made1 v3 3 pt
  replace hp := (Go.heap_alloc_old v3 (.cells #[.int .i64 pt] 3) (r := w.heap.size) zp).trans hp
  replace zp := Nat.lt_trans zp (show v3.heap.size < (v3.alloc (.cells #[.int .i64 pt] 3)).heap.size by simp)
  replace bel := bel.alloc bel.size (.cells #[.int .i64 pt] 3)
  go_wp2_with fail
  with_reducible refine (upto_any 8191 _ 1 1 [pt] _ sm).mono ?_
  rintro e _ ⟨rfl, rfl⟩
  rw [H3.out]
  clear sm R3 R5 R7 R12 R18 R24 R30 R36
  go_wp2
  go_ret
  exact ⟨rfl, bel⟩
set_option maxRecDepth 100000 in
set_option maxHeartbeats 16000000 in
theorem fits_w4 (tos id fl pt ttl pr : Int) (a0 a1 a2 a3 a4 a5 a6 a7 : UInt8) (So Sb : Option Addr) (no co nb cb : Nat) (w : World) (H0 : Hid (upTo 255 [tos, ttl, pr] = true)) (H1 : Hid (upTo 65535 [id] = true)) (H2 : Hid (upTo 7 [fl] = true)) (H3 : Hid (upTo 8191 [pt] = true)) (h5 : 40 < no) : Calls Try.prog 30 #[.agg #[.int .i64 tos, .int .i64 id, .int .i64 fl, .int .i64 pt, .int .i64 ttl, .int .i64 pr, .int .u8 (a0.toNat : Int), .int .u8 (a1.toNat : Int), .int .u8 (a2.toNat : Int), .int .u8 (a3.toNat : Int), .int .u8 (a4.toNat : Int), .int .u8 (a5.toNat : Int), .int .u8 (a6.toNat : Int), .int .u8 (a7.toNat : Int), .slice So no co, .slice Sb nb cb]] w fun e w' => e = .returned (.bool false) ∧ Below w.heap.size w w' := by
  have t5 : decide ((no : Int) ≤ 40) = false := decide_eq_false (by omega)
  clear h5
  have bel := Below.refl w.heap.size w
  have hp : (w.alloc (.cells #[.int .i64 tos, .int .i64 id, .int .i64 fl, .int .i64 pt, .int .i64 ttl, .int .i64 pr, .int .u8 (a0.toNat : Int), .int .u8 (a1.toNat : Int), .int .u8 (a2.toNat : Int), .int .u8 (a3.toNat : Int), .int .u8 (a4.toNat : Int), .int .u8 (a5.toNat : Int), .int .u8 (a6.toNat : Int), .int .u8 (a7.toNat : Int), .slice So no co, .slice Sb nb cb] 27)).heap[w.heap.size]? = some (.cells #[.int .i64 tos, .int .i64 id, .int .i64 fl, .int .i64 pt, .int .i64 ttl, .int .i64 pr, .int .u8 (a0.toNat : Int), .int .u8 (a1.toNat : Int), .int .u8 (a2.toNat : Int), .int .u8 (a3.toNat : Int), .int .u8 (a4.toNat : Int), .int .u8 (a5.toNat : Int), .int .u8 (a6.toNat : Int), .int .u8 (a7.toNat : Int), .slice So no co, .slice Sb nb cb] 27 (0, 0)) := by have := heap_alloc_new w (.cells #[.int .i64 tos, .int .i64 id, .int .i64 fl, .int .i64 pt, .int .i64 ttl, .int .i64 pr, .int .u8 (a0.toNat : Int), .int .u8 (a1.toNat : Int), .int .u8 (a2.toNat : Int), .int .u8 (a3.toNat : Int), .int .u8 (a4.toNat : Int), .int .u8 (a5.toNat : Int), .int .u8 (a6.toNat : Int), .int .u8 (a7.toNat : Int), .slice So no co, .slice Sb nb cb] 27); simpa using this
  have zp : w.heap.size < (w.alloc (.cells #[.int .i64 tos, .int .i64 id, .int .i64 fl, .int .i64 pt, .int .i64 ttl, .int .i64 pr, .int .u8 (a0.toNat : Int), .int .u8 (a1.toNat : Int), .int .u8 (a2.toNat : Int), .int .u8 (a3.toNat : Int), .int .u8 (a4.toNat : Int), .int .u8 (a5.toNat : Int), .int .u8 (a6.toNat : Int), .int .u8 (a7.toNat : Int), .slice So no co, .slice Sb nb cb] 27)).heap.size := by simp
  replace bel := bel.alloc bel.size (.cells #[.int .i64 tos, .int .i64 id, .int .i64 fl, .int .i64 pt, .int .i64 ttl, .int .i64 pr, .int .u8 (a0.toNat : Int), .int .u8 (a1.toNat : Int), .int .u8 (a2.toNat : Int), .int .u8 (a3.toNat : Int), .int .u8 (a4.toNat : Int), .int .u8 (a5.toNat : Int), .int .u8 (a6.toNat : Int), .int .u8 (a7.toNat : Int), .slice So no co, .slice Sb nb cb] 27)
  go_enter Try.func30, Try.ntmps30
  have R3 := cell_lit hp 0 _ rfl
  have R5 := cell_lit hp 4 _ rfl
  have R7 := cell_lit hp 5 _ rfl
  have R12 := cell_lit hp 1 _ rfl
  have R18 := cell_lit hp 2 _ rfl
  have R24 := cell_lit hp 3 _ rfl
  have R30 := cell_lit hp 14 _ rfl
  have R36 := cell_lit hp 14 _ rfl
  have sm := Si.made3 (w.alloc (.cells #[.int .i64 tos, .int .i64 id, .int .i64 fl, .int .i64 pt, .int .i64 ttl, .int .i64 pr, .int .u8 (a0.toNat : Int), .int .u8 (a1.toNat : Int), .int .u8 (a2.toNat : Int), .int .u8 (a3.toNat : Int), .int .u8 (a4.toNat : Int), .int .u8 (a5.toNat : Int), .int .u8 (a6.toNat : Int), .int .u8 (a7.toNat : Int), .slice So no co, .slice Sb nb cb] 27)) 3 tos ttl pr
  rw [show (w.alloc (.cells #[.int .i64 tos, .int .i64 id, .int .i64 fl, .int .i64 pt, .int .i64 ttl, .int .i64 pr, .int .u8 (a0.toNat : Int), .int .u8 (a1.toNat : Int), .int .u8 (a2.toNat : Int), .int .u8 (a3.toNat : Int), .int .u8 (a4.toNat : Int), .int .u8 (a5.toNat : Int), .int .u8 (a6.toNat : Int), .int .u8 (a7.toNat : Int), .slice So no co, .slice Sb nb cb] 27)).heap.size = w.heap.size + 1 by simp] at sm
  replace hp := (Go.heap_alloc_old (w.alloc (.cells #[.int .i64 tos, .int .i64 id, .int .i64 fl, .int .i64 pt, .int .i64 ttl, .int .i64 pr, .int .u8 (a0.toNat : Int), .int .u8 (a1.toNat : Int), .int .u8 (a2.toNat : Int), .int .u8 (a3.toNat : Int), .int .u8 (a4.toNat : Int), .int .u8 (a5.toNat : Int), .int .u8 (a6.toNat : Int), .int .u8 (a7.toNat : Int), .slice So no co, .slice Sb nb cb] 27)) (.cells #[.int .i64 tos, .int .i64 ttl, .int .i64 pr] 3) (r := w.heap.size) zp).trans hp
  replace zp := Nat.lt_trans zp (show (w.alloc (.cells #[.int .i64 tos, .int .i64 id, .int .i64 fl, .int .i64 pt, .int .i64 ttl, .int .i64 pr, .int .u8 (a0.toNat : Int), .int .u8 (a1.toNat : Int), .int .u8 (a2.toNat : Int), .int .u8 (a3.toNat : Int), .int .u8 (a4.toNat : Int), .int .u8 (a5.toNat : Int), .int .u8 (a6.toNat : Int), .int .u8 (a7.toNat : Int), .slice So no co, .slice Sb nb cb] 27)).heap.size < ((w.alloc (.cells #[.int .i64 tos, .int .i64 id, .int .i64 fl, .int .i64 pt, .int .i64 ttl, .int .i64 pr, .int .u8 (a0.toNat : Int), .int .u8 (a1.toNat : Int), .int .u8 (a2.toNat : Int), .int .u8 (a3.toNat : Int), .int .u8 (a4.toNat : Int), .int .u8 (a5.toNat : Int), .int .u8 (a6.toNat : Int), .int .u8 (a7.toNat : Int), .slice So no co, .slice Sb nb cb] 27)).alloc (.cells #[.int .i64 tos, .int .i64 ttl, .int .i64 pr] 3)).heap.size by simp)
  replace bel := bel.alloc bel.size (.cells #[.int .i64 tos, .int .i64 ttl, .int .i64 pr] 3)
  go_wp2_with fail
  with_reducible refine (upto_any 255 _ 3 3 [tos, ttl, pr] _ sm).mono ?_
  rintro e _ ⟨rfl, rfl⟩
  rw [H0.out]
  clear sm R3 R5 R7 R12 R18 R24 R30 R36
  generalize ((w.alloc (.cells #[.int .i64 tos, .int .i64 id, .int .i64 fl, .int .i64 pt, .int .i64 ttl, .int .i64 pr, .int .u8 (a0.toNat : Int), .int .u8 (a1.toNat : Int), .int .u8 (a2.toNat : Int), .int .u8 (a3.toNat : Int), .int .u8 (a4.toNat : Int), .int .u8 (a5.toNat : Int), .int .u8 (a6.toNat : Int), .int .u8 (a7.toNat : Int), .slice So no co, .slice Sb nb cb] 27)).alloc (.cells #[.int .i64 tos, .int .i64 ttl, .int .i64 pr] 3)) = v1 at hp zp bel ⊢
  have R3 := cell_lit hp 0 _ rfl
  have R5 := cell_lit hp 4 _ rfl
  have R7 := cell_lit hp 5 _ rfl
  have R12 := cell_lit hp 1 _ rfl
  have R18 := cell_lit hp 2 _ rfl
  have R24 := cell_lit hp 3 _ rfl
  have R30 := cell_lit hp 14 _ rfl
  have R36 := cell_lit hp 14 _ rfl
  have sm := Si.made1 v1 3 id
  replace hp := (Go.heap_alloc_old v1 (.cells #[.int .i64 id] 3) (r := w.heap.size) zp).trans hp
  replace zp := Nat.lt_trans zp (show v1.heap.size < (v1.alloc (.cells #[.int .i64 id] 3)).heap.size by simp)
  replace bel := bel.alloc bel.size (.cells #[.int .i64 id] 3)
  go_wp2_with fail
  with_reducible refine (upto_any 65535 _ 1 1 [id] _ sm).mono ?_
  rintro e _ ⟨rfl, rfl⟩
  rw [H1.out]
  clear sm R3 R5 R7 R12 R18 R24 R30 R36
  generalize (v1.alloc (.cells #[.int .i64 id] 3)) = v2 at hp zp bel ⊢
  have R3 := cell_lit hp 0 _ rfl
  have R5 := cell_lit hp 4 _ rfl
  have R7 := cell_lit hp 5 _ rfl
  have R12 := cell_lit hp 1 _ rfl
  have R18 := cell_lit hp 2 _ rfl
  have R24 := cell_lit hp 3 _ rfl
  have R30 := cell_lit hp 14 _ rfl
  have R36 := cell_lit hp 14 _ rfl
  have sm := Si.made1 v2 3 fl
  replace hp := (Go.heap_alloc_old v2 (.cells #[.int .i64 fl] 3) (r := w.heap.size) zp).trans hp
  replace zp := Nat.lt_trans zp (show v2.heap.size < (v2.alloc (.cells #[.int .i64 fl] 3)).heap.size by simp)
  replace bel := bel.alloc bel.size (.cells #[.int .i64 fl] 3)
  go_wp2_with fail
  with_reducible refine (upto_any 7 _ 1 1 [fl] _ sm).mono ?_
  rintro e _ ⟨rfl, rfl⟩
  rw [H2.out]
  clear sm R3 R5 R7 R12 R18 R24 R30 R36
  generalize (v2.alloc (.cells #[.int .i64 fl] 3)) = v3 at hp zp bel ⊢
  have R3 := cell_lit hp 0 _ rfl
  have R5 := cell_lit hp 4 _ rfl
  have R7 := cell_lit hp 5 _ rfl
  have R12 := cell_lit hp 1 _ rfl
  have R18 := cell_lit hp 2 _ rfl
  have R24 := cell_lit hp 3 _ rfl
  have R30 := cell_lit hp 14 _ rfl
  have R36 := cell_lit hp 14 _ rfl
  have sm := Si.made1 v3 3 pt
  replace hp := (Go.heap_alloc_old v3 (.cells #[.int .i64 pt] 3) (r := w.heap.size) zp).trans hp
  replace zp := Nat.lt_trans zp (show v3.heap.size < (v3.alloc (.cells #[.int .i64 pt] 3)).heap.size by simp)
  replace bel := bel.alloc bel.size (.cells #[.int .i64 pt] 3)
  go_wp2_with fail
  with_reducible refine (upto_any 8191 _ 1 1 [pt] _ sm).mono ?_
  rintro e _ ⟨rfl, rfl⟩
  rw [H3.out]
  clear sm R3 R5 R7 R12 R18 R24 R30 R36
  generalize (v3.alloc (.cells #[.int .i64 pt] 3)) = v5 at hp zp bel ⊢
  have R3 := cell_lit hp 0 _ rfl
  have R5 := cell_lit hp 4 _ rfl
  have R7 := cell_lit hp 5 _ rfl
  have R12 := cell_lit hp 1 _ rfl
  have R18 := cell_lit hp 2 _ rfl
  have R24 := cell_lit hp 3 _ rfl
  have R30 := cell_lit hp 14 _ rfl
  have R36 := cell_lit hp 14 _ rfl
  go_wp2
  go_ret
  exact ⟨rfl, bel⟩
set_option maxRecDepth 100000 in
set_option maxHeartbeats 16000000 in
theorem fits_w5 (tos id fl pt ttl pr : Int) (a0 a1 a2 a3 a4 a5 a6 a7 : UInt8) (So Sb : Option Addr) (no co nb cb : Nat) (w : World) (H0 : Hid (upTo 255 [tos, ttl, pr] = true)) (H1 : Hid (upTo 65535 [id] = true)) (H2 : Hid (upTo 7 [fl] = true)) (H3 : Hid (upTo 8191 [pt] = true)) (h5 : no ≤ 40) (h6 : no % 4 ≠ 0) : Calls Try.prog 30 #[.agg #[.int .i64 tos, .int .i64 id, .int .i64 fl, .int .i64 pt, .int .i64 ttl, .int .i64 pr, .int .u8 (a0.toNat : Int), .int .u8 (a1.toNat : Int), .int .u8 (a2.toNat : Int), .int .u8 (a3.toNat : Int), .int .u8 (a4.toNat : Int), .int .u8 (a5.toNat : Int), .int .u8 (a6.toNat : Int), .int .u8 (a7.toNat : Int), .slice So no co, .slice Sb nb cb]] w fun e w' => e = .returned (.bool false) ∧ Below w.heap.size w w' := by
  have t5 : (no : Int) ≤ 40 := by omega
  have t6 : ((no : Int) % 4 == 0) = false := by simp; omega
  have n0 : (0 : Int) ≤ no := by omega
  clear h5 h6
  have bel := Below.refl w.heap.size w
  have hp : (w.alloc (.cells #[.int .i64 tos, .int .i64 id, .int .i64 fl, .int .i64 pt, .int .i64 ttl, .int .i64 pr, .int .u8 (a0.toNat : Int), .int .u8 (a1.toNat : Int), .int .u8 (a2.toNat : Int), .int .u8 (a3.toNat : Int), .int .u8 (a4.toNat : Int), .int .u8 (a5.toNat : Int), .int .u8 (a6.toNat : Int), .int .u8 (a7.toNat : Int), .slice So no co, .slice Sb nb cb] 27)).heap[w.heap.size]? = some (.cells #[.int .i64 tos, .int .i64 id, .int .i64 fl, .int .i64 pt, .int .i64 ttl, .int .i64 pr, .int .u8 (a0.toNat : Int), .int .u8 (a1.toNat : Int), .int .u8 (a2.toNat : Int), .int .u8 (a3.toNat : Int), .int .u8 (a4.toNat : Int), .int .u8 (a5.toNat : Int), .int .u8 (a6.toNat : Int), .int .u8 (a7.toNat : Int), .slice So no co, .slice Sb nb cb] 27 (0, 0)) := by have := heap_alloc_new w (.cells #[.int .i64 tos, .int .i64 id, .int .i64 fl, .int .i64 pt, .int .i64 ttl, .int .i64 pr, .int .u8 (a0.toNat : Int), .int .u8 (a1.toNat : Int), .int .u8 (a2.toNat : Int), .int .u8 (a3.toNat : Int), .int .u8 (a4.toNat : Int), .int .u8 (a5.toNat : Int), .int .u8 (a6.toNat : Int), .int .u8 (a7.toNat : Int), .slice So no co, .slice Sb nb cb] 27); simpa using this
  have zp : w.heap.size < (w.alloc (.cells #[.int .i64 tos, .int .i64 id, .int .i64 fl, .int .i64 pt, .int .i64 ttl, .int .i64 pr, .int .u8 (a0.toNat : Int), .int .u8 (a1.toNat : Int), .int .u8 (a2.toNat : Int), .int .u8 (a3.toNat : Int), .int .u8 (a4.toNat : Int), .int .u8 (a5.toNat : Int), .int .u8 (a6.toNat : Int), .int .u8 (a7.toNat : Int), .slice So no co, .slice Sb nb cb] 27)).heap.size := by simp
  replace bel := bel.alloc bel.size (.cells #[.int .i64 tos, .int .i64 id, .int .i64 fl, .int .i64 pt, .int .i64 ttl, .int .i64 pr, .int .u8 (a0.toNat : Int), .int .u8 (a1.toNat : Int), .int .u8 (a2.toNat : Int), .int .u8 (a3.toNat : Int), .int .u8 (a4.toNat : Int), .int .u8 (a5.toNat : Int), .int .u8 (a6.toNat : Int), .int .u8 (a7.toNat : Int), .slice So no co, .slice Sb nb cb] 27)
  go_enter Try.func30, Try.ntmps30
  have R3 := cell_lit hp 0 _ rfl
  have R5 := cell_lit hp 4 _ rfl
  have R7 := cell_lit hp 5 _ rfl
  have R12 := cell_lit hp 1 _ rfl
  have R18 := cell_lit hp 2 _ rfl
  have R24 := cell_lit hp 3 _ rfl
  have R30 := cell_lit hp 14 _ rfl
  have R36 := cell_lit hp 14 _ rfl
  have sm := Si.made3 (w.alloc (.cells #[.int .i64 tos, .int .i64 id, .int .i64 fl, .int .i64 pt, .int .i64 ttl, .int .i64 pr, .int .u8 (a0.toNat : Int), .int .u8 (a1.toNat : Int), .int .u8 (a2.toNat : Int), .int .u8 (a3.toNat : Int), .int .u8 (a4.toNat : Int), .int .u8 (a5.toNat : Int), .int .u8 (a6.toNat : Int), .int .u8 (a7.toNat : Int), .slice So no co, .slice Sb nb cb] 27)) 3 tos ttl pr
  rw [show (w.alloc (.cells #[.int .i64 tos, .int .i64 id, .int .i64 fl, .int .i64 pt, .int .i64 ttl, .int .i64 pr, .int .u8 (a0.toNat : Int), .int .u8 (a1.toNat : Int), .int .u8 (a2.toNat : Int), .int .u8 (a3.toNat : Int), .int .u8 (a4.toNat : Int), .int .u8 (a5.toNat : Int), .int .u8 (a6.toNat : Int), .int .u8 (a7.toNat : Int), .slice So no co, .slice Sb nb cb] 27)).heap.size = w.heap.size + 1 by simp] at sm
  replace hp := (Go.heap_alloc_old (w.alloc (.cells #[.int .i64 tos, .int .i64 id, .int .i64 fl, .int .i64 pt, .int .i64 ttl, .int .i64 pr, .int .u8 (a0.toNat : Int), .int .u8 (a1.toNat : Int), .int .u8 (a2.toNat : Int), .int .u8 (a3.toNat : Int), .int .u8 (a4.toNat : Int), .int .u8 (a5.toNat : Int), .int .u8 (a6.toNat : Int), .int .u8 (a7.toNat : Int), .slice So no co, .slice Sb nb cb] 27)) (.cells #[.int .i64 tos, .int .i64 ttl, .int .i64 pr] 3) (r := w.heap.size) zp).trans hp
  replace zp := Nat.lt_trans zp (show (w.alloc (.cells #[.int .i64 tos, .int .i64 id, .int .i64 fl, .int .i64 pt, .int .i64 ttl, .int .i64 pr, .int .u8 (a0.toNat : Int), .int .u8 (a1.toNat : Int), .int .u8 (a2.toNat : Int), .int .u8 (a3.toNat : Int), .int .u8 (a4.toNat : Int), .int .u8 (a5.toNat : Int), .int .u8 (a6.toNat : Int), .int .u8 (a7.toNat : Int), .slice So no co, .slice Sb nb cb] 27)).heap.size < ((w.alloc (.cells #[.int .i64 tos, .int .i64 id, .int .i64 fl, .int .i64 pt, .int .i64 ttl, .int .i64 pr, .int .u8 (a0.toNat : Int), .int .u8 (a1.toNat : Int), .int .u8 (a2.toNat : Int), .int .u8 (a3.toNat : Int), .int .u8 (a4.toNat : Int), .int .u8 (a5.toNat : Int), .int .u8 (a6.toNat : Int), .int .u8 (a7.toNat : Int), .slice So no co, .slice Sb nb cb] 27)).alloc (.cells #[.int .i64 tos, .int .i64 ttl, .int .i64 pr] 3)).heap.size by simp)
  replace bel := bel.alloc bel.size (.cells #[.int .i64 tos, .int .i64 ttl, .int .i64 pr] 3)
  go_wp2_with fail
  with_reducible refine (upto_any 255 _ 3 3 [tos, ttl, pr] _ sm).mono ?_
  rintro e _ ⟨rfl, rfl⟩
  rw [H0.out]
  clear sm R3 R5 R7 R12 R18 R24 R30 R36
  generalize ((w.alloc (.cells #[.int .i64 tos, .int .i64 id, .int .i64 fl, .int .i64 pt, .int .i64 ttl, .int .i64 pr, .int .u8 (a0.toNat : Int), .int .u8 (a1.toNat : Int), .int .u8 (a2.toNat : Int), .int .u8 (a3.toNat : Int), .int .u8 (a4.toNat : Int), .int .u8 (a5.toNat : Int), .int .u8 (a6.toNat : Int), .int .u8 (a7.toNat : Int), .slice So no co, .slice Sb nb cb] 27)).alloc (.cells #[.int .i64 tos, .int .i64 ttl, .int .i64 pr] 3)) = v1 at hp zp bel ⊢
  have R3 := cell_lit hp 0 _ rfl
  have R5 := cell_lit hp 4 _ rfl
  have R7 := cell_lit hp 5 _ rfl
  have R12 := cell_lit hp 1 _ rfl
  have R18 := cell_lit hp 2 _ rfl
  have R24 := cell_lit hp 3 _ rfl
  have R30 := cell_lit hp 14 _ rfl
  have R36 := cell_lit hp 14 _ rfl
  have sm := Si.made1 v1 3 id
  replace hp := (Go.heap_alloc_old v1 (.cells #[.int .i64 id] 3) (r := w.heap.size) zp).trans hp
  replace zp := Nat.lt_trans zp (show v1.heap.size < (v1.alloc (.cells #[.int .i64 id] 3)).heap.size by simp)
  replace bel := bel.alloc bel.size (.cells #[.int .i64 id] 3)
  go_wp2_with fail
  with_reducible refine (upto_any 65535 _ 1 1 [id] _ sm).mono ?_
  rintro e _ ⟨rfl, rfl⟩
  rw [H1.out]
  clear sm R3 R5 R7 R12 R18 R24 R30 R36
  generalize (v1.alloc (.cells #[.int .i64 id] 3)) = v2 at hp zp bel ⊢
  have R3 := cell_lit hp 0 _ rfl
  have R5 := cell_lit hp 4 _ rfl
  have R7 := cell_lit hp 5 _ rfl
  have R12 := cell_lit hp 1 _ rfl
  have R18 := cell_lit hp 2 _ rfl
  have R24 := cell_lit hp 3 _ rfl
  have R30 := cell_lit hp 14 _ rfl
  have R36 := cell_lit hp 14 _ rfl
  have sm := Si.made1 v2 3 fl
  replace hp := (Go.heap_alloc_old v2 (.cells #[.int .i64 fl] 3) (r := w.heap.size) zp).trans hp
  replace zp := Nat.lt_trans zp (show v2.heap.size < (v2.alloc (.cells #[.int .i64 fl] 3)).heap.size by simp)
  replace bel := bel.alloc bel.size (.cells #[.int .i64 fl] 3)
  go_wp2_with fail
  with_reducible refine (upto_any 7 _ 1 1 [fl] _ sm).mono ?_
  rintro e _ ⟨rfl, rfl⟩
  rw [H2.out]
  clear sm R3 R5 R7 R12 R18 R24 R30 R36
  generalize (v2.alloc (.cells #[.int .i64 fl] 3)) = v3 at hp zp bel ⊢
  have R3 := cell_lit hp 0 _ rfl
  have R5 := cell_lit hp 4 _ rfl
  have R7 := cell_lit hp 5 _ rfl
  have R12 := cell_lit hp 1 _ rfl
  have R18 := cell_lit hp 2 _ rfl
  have R24 := cell_lit hp 3 _ rfl
  have R30 := cell_lit hp 14 _ rfl
  have R36 := cell_lit hp 14 _ rfl
  have sm := Si.made1 v3 3 pt
  replace hp := (Go.heap_alloc_old v3 (.cells #[.int .i64 pt] 3) (r := w.heap.size) zp).trans hp
  replace zp := Nat.lt_trans zp (show v3.heap.size < (v3.alloc (.cells #[.int .i64 pt] 3)).heap.size by simp)
  replace bel := bel.alloc bel.size (.cells #[.int .i64 pt] 3)
  go_wp2_with fail
  with_reducible refine (upto_any 8191 _ 1 1 [pt] _ sm).mono ?_
  rintro e _ ⟨rfl, rfl⟩
  rw [H3.out]
  clear sm R3 R5 R7 R12 R18 R24 R30 R36
  generalize (v3.alloc (.cells #[.int .i64 pt] 3)) = v5 at hp zp bel ⊢
  have R3 := cell_lit hp 0 _ rfl
  have R5 := cell_lit hp 4 _ rfl
  have R7 := cell_lit hp 5 _ rfl
  have R12 := cell_lit hp 1 _ rfl
  have R18 := cell_lit hp 2 _ rfl
  have R24 := cell_lit hp 3 _ rfl
  have R30 := cell_lit hp 14 _ rfl
  have R36 := cell_lit hp 14 _ rfl
  go_wp2
  go_ret
  exact ⟨rfl, bel⟩
set_option maxRecDepth 100000 in
set_option maxHeartbeats 16000000 in
theorem fits_w6 (tos id fl pt ttl pr : Int) (a0 a1 a2 a3 a4 a5 a6 a7 : UInt8) (So Sb : Option Addr) (no co nb cb : Nat) (w : World) (H0 : Hid (upTo 255 [tos, ttl, pr] = true)) (H1 : Hid (upTo 65535 [id] = true)) (H2 : Hid (upTo 7 [fl] = true)) (H3 : Hid (upTo 8191 [pt] = true)) (h5 : no ≤ 40) (h6 : no % 4 = 0) : Calls Try.prog 30 #[.agg #[.int .i64 tos, .int .i64 id, .int .i64 fl, .int .i64 pt, .int .i64 ttl, .int .i64 pr, .int .u8 (a0.toNat : Int), .int .u8 (a1.toNat : Int), .int .u8 (a2.toNat : Int), .int .u8 (a3.toNat : Int), .int .u8 (a4.toNat : Int), .int .u8 (a5.toNat : Int), .int .u8 (a6.toNat : Int), .int .u8 (a7.toNat : Int), .slice So no co, .slice Sb nb cb]] w fun e w' => e = .returned (.bool true) ∧ Below w.heap.size w w' := by
  have t5 : (no : Int) ≤ 40 := by omega
  have t6 : (no : Int) % 4 = 0 := by omega
  have n0 : (0 : Int) ≤ no := by omega
  clear h5 h6
  have bel := Below.refl w.heap.size w
  have hp : (w.alloc (.cells #[.int .i64 tos, .int .i64 id, .int .i64 fl, .int .i64 pt, .int .i64 ttl, .int .i64 pr, .int .u8 (a0.toNat : Int), .int .u8 (a1.toNat : Int), .int .u8 (a2.toNat : Int), .int .u8 (a3.toNat : Int), .int .u8 (a4.toNat : Int), .int .u8 (a5.toNat : Int), .int .u8 (a6.toNat : Int), .int .u8 (a7.toNat : Int), .slice So no co, .slice Sb nb cb] 27)).heap[w.heap.size]? = some (.cells #[.int .i64 tos, .int .i64 id, .int .i64 fl, .int .i64 pt, .int .i64 ttl, .int .i64 pr, .int .u8 (a0.toNat : Int), .int .u8 (a1.toNat : Int), .int .u8 (a2.toNat : Int), .int .u8 (a3.toNat : Int), .int .u8 (a4.toNat : Int), .int .u8 (a5.toNat : Int), .int .u8 (a6.toNat : Int), .int .u8 (a7.toNat : Int), .slice So no co, .slice Sb nb cb] 27 (0, 0)) := by have := heap_alloc_new w (.cells #[.int .i64 tos, .int .i64 id, .int .i64 fl, .int .i64 pt, .int .i64 ttl, .int .i64 pr, .int .u8 (a0.toNat : Int), .int .u8 (a1.toNat : Int), .int .u8 (a2.toNat : Int), .int .u8 (a3.toNat : Int), .int .u8 (a4.toNat : Int), .int .u8 (a5.toNat : Int), .int .u8 (a6.toNat : Int), .int .u8 (a7.toNat : Int), .slice So no co, .slice Sb nb cb] 27); simpa using this
  have zp : w.heap.size < (w.alloc (.cells #[.int .i64 tos, .int .i64 id, .int .i64 fl, .int .i64 pt, .int .i64 ttl, .int .i64 pr, .int .u8 (a0.toNat : Int), .int .u8 (a1.toNat : Int), .int .u8 (a2.toNat : Int), .int .u8 (a3.toNat : Int), .int .u8 (a4.toNat : Int), .int .u8 (a5.toNat : Int), .int .u8 (a6.toNat : Int), .int .u8 (a7.toNat : Int), .slice So no co, .slice Sb nb cb] 27)).heap.size := by simp
  replace bel := bel.alloc bel.size (.cells #[.int .i64 tos, .int .i64 id, .int .i64 fl, .int .i64 pt, .int .i64 ttl, .int .i64 pr, .int .u8 (a0.toNat : Int), .int .u8 (a1.toNat : Int), .int .u8 (a2.toNat : Int), .int .u8 (a3.toNat : Int), .int .u8 (a4.toNat : Int), .int .u8 (a5.toNat : Int), .int .u8 (a6.toNat : Int), .int .u8 (a7.toNat : Int), .slice So no co, .slice Sb nb cb] 27)
  go_enter Try.func30, Try.ntmps30
  have R3 := cell_lit hp 0 _ rfl
  have R5 := cell_lit hp 4 _ rfl
  have R7 := cell_lit hp 5 _ rfl
  have R12 := cell_lit hp 1 _ rfl
  have R18 := cell_lit hp 2 _ rfl
  have R24 := cell_lit hp 3 _ rfl
  have R30 := cell_lit hp 14 _ rfl
  have R36 := cell_lit hp 14 _ rfl
  have sm := Si.made3 (w.alloc (.cells #[.int .i64 tos, .int .i64 id, .int .i64 fl, .int .i64 pt, .int .i64 ttl, .int .i64 pr, .int .u8 (a0.toNat : Int), .int .u8 (a1.toNat : Int), .int .u8 (a2.toNat : Int), .int .u8 (a3.toNat : Int), .int .u8 (a4.toNat : Int), .int .u8 (a5.toNat : Int), .int .u8 (a6.toNat : Int), .int .u8 (a7.toNat : Int), .slice So no co, .slice Sb nb cb] 27)) 3 tos ttl pr
  rw [show (w.alloc (.cells #[.int .i64 tos, .int .i64 id, .int .i64 fl, .int .i64 pt, .int .i64 ttl, .int .i64 pr, .int .u8 (a0.toNat : Int), .int .u8 (a1.toNat : Int), .int .u8 (a2.toNat : Int), .int .u8 (a3.toNat : Int), .int .u8 (a4.toNat : Int), .int .u8 (a5.toNat : Int), .int .u8 (a6.toNat : Int), .int .u8 (a7.toNat : Int), .slice So no co, .slice Sb nb cb] 27)).heap.size = w.heap.size + 1 by simp] at sm
  replace hp := (Go.heap_alloc_old (w.alloc (.cells #[.int .i64 tos, .int .i64 id, .int .i64 fl, .int .i64 pt, .int .i64 ttl, .int .i64 pr, .int .u8 (a0.toNat : Int), .int .u8 (a1.toNat : Int), .int .u8 (a2.toNat : Int), .int .u8 (a3.toNat : Int), .int .u8 (a4.toNat : Int), .int .u8 (a5.toNat : Int), .int .u8 (a6.toNat : Int), .int .u8 (a7.toNat : Int), .slice So no co, .slice Sb nb cb] 27)) (.cells #[.int .i64 tos, .int .i64 ttl, .int .i64 pr] 3) (r := w.heap.size) zp).trans hp
  replace zp := Nat.lt_trans zp (show (w.alloc (.cells #[.int .i64 tos, .int .i64 id, .int .i64 fl, .int .i64 pt, .int .i64 ttl, .int .i64 pr, .int .u8 (a0.toNat : Int), .int .u8 (a1.toNat : Int), .int .u8 (a2.toNat : Int), .int .u8 (a3.toNat : Int), .int .u8 (a4.toNat : Int), .int .u8 (a5.toNat : Int), .int .u8 (a6.toNat : Int), .int .u8 (a7.toNat : Int), .slice So no co, .slice Sb nb cb] 27)).heap.size < ((w.alloc (.cells #[.int .i64 tos, .int .i64 id, .int .i64 fl, .int .i64 pt, .int .i64 ttl, .int .i64 pr, .int .u8 (a0.toNat : Int), .int .u8 (a1.toNat : Int), .int .u8 (a2.toNat : Int), .int .u8 (a3.toNat : Int), .int .u8 (a4.toNat : Int), .int .u8 (a5.toNat : Int), .int .u8 (a6.toNat : Int), .int .u8 (a7.toNat : Int), .slice So no co, .slice Sb nb cb] 27)).alloc (.cells #[.int .i64 tos, .int .i64 ttl, .int .i64 pr] 3)).heap.size by simp)
  replace bel := bel.alloc bel.size (.cells #[.int .i64 tos, .int .i64 ttl, .int .i64 pr] 3)
  go_wp2_with fail
  with_reducible refine (upto_any 255 _ 3 3 [tos, ttl, pr] _ sm).mono ?_
  rintro e _ ⟨rfl, rfl⟩
  rw [H0.out]
  clear sm R3 R5 R7 R12 R18 R24 R30 R36
  generalize ((w.alloc (.cells #[.int .i64 tos, .int .i64 id, .int .i64 fl, .int .i64 pt, .int .i64 ttl, .int .i64 pr, .int .u8 (a0.toNat : Int), .int .u8 (a1.toNat : Int), .int .u8 (a2.toNat : Int), .int .u8 (a3.toNat : Int), .int .u8 (a4.toNat : Int), .int .u8 (a5.toNat : Int), .int .u8 (a6.toNat : Int), .int .u8 (a7.toNat : Int), .slice So no co, .slice Sb nb cb] 27)).alloc (.cells #[.int .i64 tos, .int .i64 ttl, .int .i64 pr] 3)) = v1 at hp zp bel ⊢
  have R3 := cell_lit hp 0 _ rfl
  have R5 := cell_lit hp 4 _ rfl
  have R7 := cell_lit hp 5 _ rfl
  have R12 := cell_lit hp 1 _ rfl
  have R18 := cell_lit hp 2 _ rfl
  have R24 := cell_lit hp 3 _ rfl
  have R30 := cell_lit hp 14 _ rfl
  have R36 := cell_lit hp 14 _ rfl
  have sm := Si.made1 v1 3 id
  replace hp := (Go.heap_alloc_old v1 (.cells #[.int .i64 id] 3) (r := w.heap.size) zp).trans hp
  replace zp := Nat.lt_trans zp (show v1.heap.size < (v1.alloc (.cells #[.int .i64 id] 3)).heap.size by simp)
  replace bel := bel.alloc bel.size (.cells #[.int .i64 id] 3)
  go_wp2_with fail
  with_reducible refine (upto_any 65535 _ 1 1 [id] _ sm).mono ?_
  rintro e _ ⟨rfl, rfl⟩
  rw [H1.out]
  clear sm R3 R5 R7 R12 R18 R24 R30 R36
  generalize (v1.alloc (.cells #[.int .i64 id] 3)) = v2 at hp zp bel ⊢
  have R3 := cell_lit hp 0 _ rfl
  have R5 := cell_lit hp 4 _ rfl
  have R7 := cell_lit hp 5 _ rfl
  have R12 := cell_lit hp 1 _ rfl
  have R18 := cell_lit hp 2 _ rfl
  have R24 := cell_lit hp 3 _ rfl
  have R30 := cell_lit hp 14 _ rfl
  have R36 := cell_lit hp 14 _ rfl
  have sm := Si.made1 v2 3 fl
  replace hp := (Go.heap_alloc_old v2 (.cells #[.int .i64 fl] 3) (r := w.heap.size) zp).trans hp
  replace zp := Nat.lt_trans zp (show v2.heap.size < (v2.alloc (.cells #[.int .i64 fl] 3)).heap.size by simp)
  replace bel := bel.alloc bel.size (.cells #[.int .i64 fl] 3)
  go_wp2_with fail
  with_reducible refine (upto_any 7 _ 1 1 [fl] _ sm).mono ?_
  rintro e _ ⟨rfl, rfl⟩
  rw [H2.out]
  clear sm R3 R5 R7 R12 R18 R24 R30 R36
  generalize (v2.alloc (.cells #[.int .i64 fl] 3)) = v3 at hp zp bel ⊢
  have R3 := cell_lit hp 0 _ rfl
  have R5 := cell_lit hp 4 _ rfl
  have R7 := cell_lit hp 5 _ rfl
  have R12 := cell_lit hp 1 _ rfl
  have R18 := cell_lit hp 2 _ rfl
  have R24 := cell_lit hp 3 _ rfl
  have R30 := cell_lit hp 14 _ rfl
  have R36 := cell_lit hp 14 _ rfl
  have sm := Si.made1 v3 3 pt
  replace hp := (Go.heap_alloc_old v3 (.cells #[.int .i64 pt] 3) (r := w.heap.size) zp).trans hp
  replace zp := Nat.lt_trans zp (show v3.heap.size < (v3.alloc (.cells #[.int .i64 pt] 3)).heap.size by simp)
  replace bel := bel.alloc bel.size (.cells #[.int .i64 pt] 3)
  go_wp2_with fail
  with_reducible refine (upto_any 8191 _ 1 1 [pt] _ sm).mono ?_
  rintro e _ ⟨rfl, rfl⟩
  rw [H3.out]
  clear sm R3 R5 R7 R12 R18 R24 R30 R36
  generalize (v3.alloc (.cells #[.int .i64 pt] 3)) = v5 at hp zp bel ⊢
  have R3 := cell_lit hp 0 _ rfl
  have R5 := cell_lit hp 4 _ rfl
  have R7 := cell_lit hp 5 _ rfl
  have R12 := cell_lit hp 1 _ rfl
  have R18 := cell_lit hp 2 _ rfl
  have R24 := cell_lit hp 3 _ rfl
  have R30 := cell_lit hp 14 _ rfl
  have R36 := cell_lit hp 14 _ rfl
  go_wp2
  go_ret
  exact ⟨rfl, bel⟩
theorem upto_1 (m v : Int) : (upTo m [v] = true) = (0 ≤ v ∧ v ≤ m) := by simp [upTo]
theorem upto_3 (m u v x : Int) : (upTo m [u, v, x] = true) = ((0 ≤ u ∧ u ≤ m) ∧ (0 ≤ v ∧ v ≤ m) ∧ (0 ≤ x ∧ x ≤ m)) := by simp [upTo]
theorem fits_any (tos id fl pt ttl pr : Int) (a0 a1 a2 a3 a4 a5 a6 a7 : UInt8) (So Sb : Option Addr) (no co nb cb : Nat) (lo : List UInt8) (w : World) (hlo : lo.length = no) : Calls Try.prog 30 #[.agg #[.int .i64 tos, .int .i64 id, .int .i64 fl, .int .i64 pt, .int .i64 ttl, .int .i64 pr, .int .u8 (a0.toNat : Int), .int .u8 (a1.toNat : Int), .int .u8 (a2.toNat : Int), .int .u8 (a3.toNat : Int), .int .u8 (a4.toNat : Int), .int .u8 (a5.toNat : Int), .int .u8 (a6.toNat : Int), .int .u8 (a7.toNat : Int), .slice So no co, .slice Sb nb cb]] w fun e w' => e = .returned (.bool (ipFits tos id fl pt ttl pr lo)) ∧ Below w.heap.size w w' := by
  have no_ : ∀ {p : Prop} [Decidable p], ¬ p → decide p = false := fun h => decide_eq_false h
  have tf : ∀ b : Bool, b = true ∨ b = false := by decide
  have e1 := upto_3 255 tos ttl pr
  have e2 := upto_1 65535 id
  have e3 := upto_1 7 fl
  have e4 := upto_1 8191 pt
  unfold ipFits
  rw [hlo]
  rcases tf (upTo 255 [tos, ttl, pr]) with c1 | c1
  · rcases tf (upTo 65535 [id]) with c2 | c2
    · rcases tf (upTo 7 [fl]) with c3 | c3
      · rcases tf (upTo 8191 [pt]) with c4 | c4
        · rw [e1] at c1; rw [e2] at c2; rw [e3] at c3; rw [e4] at c4
          by_cases c5 : no ≤ 40
          · by_cases c6 : no % 4 = 0
            · rw [decide_eq_true (by exact ⟨c1.1, c2, c3, c4, c1.2.1, c1.2.2, c5, c6⟩)]
              exact fits_w6 tos id fl pt ttl pr a0 a1 a2 a3 a4 a5 a6 a7 So Sb no co nb cb w (Lib.hid (e1 ▸ c1)) (Lib.hid (e2 ▸ c2)) (Lib.hid (e3 ▸ c3)) (Lib.hid (e4 ▸ c4)) c5 c6
            · rw [no_ (fun h => c6 h.2.2.2.2.2.2.2)]
              exact fits_w5 tos id fl pt ttl pr a0 a1 a2 a3 a4 a5 a6 a7 So Sb no co nb cb w (Lib.hid (e1 ▸ c1)) (Lib.hid (e2 ▸ c2)) (Lib.hid (e3 ▸ c3)) (Lib.hid (e4 ▸ c4)) c5 c6
          · rw [no_ (fun h => c5 h.2.2.2.2.2.2.1)]
            exact fits_w4 tos id fl pt ttl pr a0 a1 a2 a3 a4 a5 a6 a7 So Sb no co nb cb w (Lib.hid (e1 ▸ c1)) (Lib.hid (e2 ▸ c2)) (Lib.hid (e3 ▸ c3)) (Lib.hid (e4 ▸ c4)) (by omega)
        · rw [no_ (fun h => by have := e4.symm ▸ h.2.2.2.1; rw [c4] at this; cases this)]
          exact fits_w3 tos id fl pt ttl pr a0 a1 a2 a3 a4 a5 a6 a7 So Sb no co nb cb w (Lib.hid c1) (Lib.hid c2) (Lib.hid c3) (Lib.hid c4)
      · rw [no_ (fun h => by have := e3.symm ▸ h.2.2.1; rw [c3] at this; cases this)]
        exact fits_w2 tos id fl pt ttl pr a0 a1 a2 a3 a4 a5 a6 a7 So Sb no co nb cb w (Lib.hid c1) (Lib.hid c2) (Lib.hid c3)
    · rw [no_ (fun h => by have := e2.symm ▸ h.2.1; rw [c2] at this; cases this)]
      exact fits_w1 tos id fl pt ttl pr a0 a1 a2 a3 a4 a5 a6 a7 So Sb no co nb cb w (Lib.hid c1) (Lib.hid c2)
  · rw [no_ (fun h => by have : upTo 255 [tos, ttl, pr] = true := e1.symm ▸ ⟨h.1, h.2.2.2.2.1, h.2.2.2.2.2.1⟩; rw [c1] at this; cases this)]
    exact fits_w0 tos id fl pt ttl pr a0 a1 a2 a3 a4 a5 a6 a7 So Sb no co nb cb w (Lib.hid c1)
theorem and1_i64 (n : Int) : bits .and .i64 n 1 = n % 2 := by
  show IntKind.i64.wrap ((BitVec.ofInt 64 n &&& BitVec.ofInt 64 1).toNat : Int) = _
  rw [BitVec.toNat_and, show (BitVec.ofInt 64 1).toNat = 2 ^ 1 - 1 from rfl, Nat.and_two_pow_sub_one_eq_mod, BitVec.toNat_ofInt]
  rw [IntKind.wrap_i64]
  omega
set_option maxRecDepth 100000 in
set_option maxHeartbeats 16000000 in
theorem whole_p (tos id fl pt ttl pr : Int) (a0 a1 a2 a3 a4 a5 a6 a7 : UInt8) (So Sb : Option Addr) (no co nb cb : Nat) (w : World) (hp0 : pt ≠ 0) : Calls Try.prog 26 #[.agg #[.int .i64 tos, .int .i64 id, .int .i64 fl, .int .i64 pt, .int .i64 ttl, .int .i64 pr, .int .u8 (a0.toNat : Int), .int .u8 (a1.toNat : Int), .int .u8 (a2.toNat : Int), .int .u8 (a3.toNat : Int), .int .u8 (a4.toNat : Int), .int .u8 (a5.toNat : Int), .int .u8 (a6.toNat : Int), .int .u8 (a7.toNat : Int), .slice So no co, .slice Sb nb cb]] w fun e w' => e = .returned (.bool false) ∧ Below w.heap.size w w' := by
  have t0 : (pt == 0) = false := by simpa using hp0
  clear hp0
  have bel := Below.refl w.heap.size w
  have hp : (w.alloc (.cells #[.int .i64 tos, .int .i64 id, .int .i64 fl, .int .i64 pt, .int .i64 ttl, .int .i64 pr, .int .u8 (a0.toNat : Int), .int .u8 (a1.toNat : Int), .int .u8 (a2.toNat : Int), .int .u8 (a3.toNat : Int), .int .u8 (a4.toNat : Int), .int .u8 (a5.toNat : Int), .int .u8 (a6.toNat : Int), .int .u8 (a7.toNat : Int), .slice So no co, .slice Sb nb cb] 27)).heap[w.heap.size]? = some (.cells #[.int .i64 tos, .int .i64 id, .int .i64 fl, .int .i64 pt, .int .i64 ttl, .int .i64 pr, .int .u8 (a0.toNat : Int), .int .u8 (a1.toNat : Int), .int .u8 (a2.toNat : Int), .int .u8 (a3.toNat : Int), .int .u8 (a4.toNat : Int), .int .u8 (a5.toNat : Int), .int .u8 (a6.toNat : Int), .int .u8 (a7.toNat : Int), .slice So no co, .slice Sb nb cb] 27 (0, 0)) := by have := heap_alloc_new w (.cells #[.int .i64 tos, .int .i64 id, .int .i64 fl, .int .i64 pt, .int .i64 ttl, .int .i64 pr, .int .u8 (a0.toNat : Int), .int .u8 (a1.toNat : Int), .int .u8 (a2.toNat : Int), .int .u8 (a3.toNat : Int), .int .u8 (a4.toNat : Int), .int .u8 (a5.toNat : Int), .int .u8 (a6.toNat : Int), .int .u8 (a7.toNat : Int), .slice So no co, .slice Sb nb cb] 27); simpa using this
  have zp : w.heap.size < (w.alloc (.cells #[.int .i64 tos, .int .i64 id, .int .i64 fl, .int .i64 pt, .int .i64 ttl, .int .i64 pr, .int .u8 (a0.toNat : Int), .int .u8 (a1.toNat : Int), .int .u8 (a2.toNat : Int), .int .u8 (a3.toNat : Int), .int .u8 (a4.toNat : Int), .int .u8 (a5.toNat : Int), .int .u8 (a6.toNat : Int), .int .u8 (a7.toNat : Int), .slice So no co, .slice Sb nb cb] 27)).heap.size := by simp
  replace bel := bel.alloc bel.size (.cells #[.int .i64 tos, .int .i64 id, .int .i64 fl, .int .i64 pt, .int .i64 ttl, .int .i64 pr, .int .u8 (a0.toNat : Int), .int .u8 (a1.toNat : Int), .int .u8 (a2.toNat : Int), .int .u8 (a3.toNat : Int), .int .u8 (a4.toNat : Int), .int .u8 (a5.toNat : Int), .int .u8 (a6.toNat : Int), .int .u8 (a7.toNat : Int), .slice So no co, .slice Sb nb cb] 27)
  go_enter Try.func26, Try.ntmps26
  have R3 := cell_lit hp 3 _ rfl
  have R7 := cell_lit hp 2 _ rfl
  go_wp2
  go_ret
  exact ⟨rfl, bel⟩
set_option maxRecDepth 100000 in
set_option maxHeartbeats 16000000 in
theorem whole_f (tos id fl pt ttl pr : Int) (a0 a1 a2 a3 a4 a5 a6 a7 : UInt8) (So Sb : Option Addr) (no co nb cb : Nat) (w : World) (hp0 : pt = 0) (hf0 : fl % 2 ≠ 0) : Calls Try.prog 26 #[.agg #[.int .i64 tos, .int .i64 id, .int .i64 fl, .int .i64 pt, .int .i64 ttl, .int .i64 pr, .int .u8 (a0.toNat : Int), .int .u8 (a1.toNat : Int), .int .u8 (a2.toNat : Int), .int .u8 (a3.toNat : Int), .int .u8 (a4.toNat : Int), .int .u8 (a5.toNat : Int), .int .u8 (a6.toNat : Int), .int .u8 (a7.toNat : Int), .slice So no co, .slice Sb nb cb]] w fun e w' => e = .returned (.bool false) ∧ Below w.heap.size w w' := by
  have t0 : (pt == 0) = true := by simpa using hp0
  clear hp0
  have ea := and1_i64 fl
  have t1 : (fl % 2 == 0) = false := by simpa using hf0
  clear hf0
  have bel := Below.refl w.heap.size w
  have hp : (w.alloc (.cells #[.int .i64 tos, .int .i64 id, .int .i64 fl, .int .i64 pt, .int .i64 ttl, .int .i64 pr, .int .u8 (a0.toNat : Int), .int .u8 (a1.toNat : Int), .int .u8 (a2.toNat : Int), .int .u8 (a3.toNat : Int), .int .u8 (a4.toNat : Int), .int .u8 (a5.toNat : Int), .int .u8 (a6.toNat : Int), .int .u8 (a7.toNat : Int), .slice So no co, .slice Sb nb cb] 27)).heap[w.heap.size]? = some (.cells #[.int .i64 tos, .int .i64 id, .int .i64 fl, .int .i64 pt, .int .i64 ttl, .int .i64 pr, .int .u8 (a0.toNat : Int), .int .u8 (a1.toNat : Int), .int .u8 (a2.toNat : Int), .int .u8 (a3.toNat : Int), .int .u8 (a4.toNat : Int), .int .u8 (a5.toNat : Int), .int .u8 (a6.toNat : Int), .int .u8 (a7.toNat : Int), .slice So no co, .slice Sb nb cb] 27 (0, 0)) := by have := heap_alloc_new w (.cells #[.int .i64 tos, .int .i64 id, .int .i64 fl, .int .i64 pt, .int .i64 ttl, .int .i64 pr, .int .u8 (a0.toNat : Int), .int .u8 (a1.toNat : Int), .int .u8 (a2.toNat : Int), .int .u8 (a3.toNat : Int), .int .u8 (a4.toNat : Int), .int .u8 (a5.toNat : Int), .int .u8 (a6.toNat : Int), .int .u8 (a7.toNat : Int), .slice So no co, .slice Sb nb cb] 27); simpa using this
  have zp : w.heap.size < (w.alloc (.cells #[.int .i64 tos, .int .i64 id, .int .i64 fl, .int .i64 pt, .int .i64 ttl, .int .i64 pr, .int .u8 (a0.toNat : Int), .int .u8 (a1.toNat : Int), .int .u8 (a2.toNat : Int), .int .u8 (a3.toNat : Int), .int .u8 (a4.toNat : Int), .int .u8 (a5.toNat : Int), .int .u8 (a6.toNat : Int), .int .u8 (a7.toNat : Int), .slice So no co, .slice Sb nb cb] 27)).heap.size := by simp
  replace bel := bel.alloc bel.size (.cells #[.int .i64 tos, .int .i64 id, .int .i64 fl, .int .i64 pt, .int .i64 ttl, .int .i64 pr, .int .u8 (a0.toNat : Int), .int .u8 (a1.toNat : Int), .int .u8 (a2.toNat : Int), .int .u8 (a3.toNat : Int), .int .u8 (a4.toNat : Int), .int .u8 (a5.toNat : Int), .int .u8 (a6.toNat : Int), .int .u8 (a7.toNat : Int), .slice So no co, .slice Sb nb cb] 27)
  go_enter Try.func26, Try.ntmps26
  have R3 := cell_lit hp 3 _ rfl
  have R7 := cell_lit hp 2 _ rfl
  go_wp2
  go_ret
  exact ⟨rfl, bel⟩
set_option maxRecDepth 100000 in
set_option maxHeartbeats 16000000 in
theorem whole_y (tos id fl pt ttl pr : Int) (a0 a1 a2 a3 a4 a5 a6 a7 : UInt8) (So Sb : Option Addr) (no co nb cb : Nat) (w : World) (hp0 : pt = 0) (hf0 : fl % 2 = 0) : Calls Try.prog 26 #[.agg #[.int .i64 tos, .int .i64 id, .int .i64 fl, .int .i64 pt, .int .i64 ttl, .int .i64 pr, .int .u8 (a0.toNat : Int), .int .u8 (a1.toNat : Int), .int .u8 (a2.toNat : Int), .int .u8 (a3.toNat : Int), .int .u8 (a4.toNat : Int), .int .u8 (a5.toNat : Int), .int .u8 (a6.toNat : Int), .int .u8 (a7.toNat : Int), .slice So no co, .slice Sb nb cb]] w fun e w' => e = .returned (.bool true) ∧ Below w.heap.size w w' := by
  have t0 : (pt == 0) = true := by simpa using hp0
  have ea := and1_i64 fl
  have t1 : (fl % 2 == 0) = true := by simpa using hf0
  clear hf0 hp0
  have bel := Below.refl w.heap.size w
  have hp : (w.alloc (.cells #[.int .i64 tos, .int .i64 id, .int .i64 fl, .int .i64 pt, .int .i64 ttl, .int .i64 pr, .int .u8 (a0.toNat : Int), .int .u8 (a1.toNat : Int), .int .u8 (a2.toNat : Int), .int .u8 (a3.toNat : Int), .int .u8 (a4.toNat : Int), .int .u8 (a5.toNat : Int), .int .u8 (a6.toNat : Int), .int .u8 (a7.toNat : Int), .slice So no co, .slice Sb nb cb] 27)).heap[w.heap.size]? = some (.cells #[.int .i64 tos, .int .i64 id, .int .i64 fl, .int .i64 pt, .int .i64 ttl, .int .i64 pr, .int .u8 (a0.toNat : Int), .int .u8 (a1.toNat : Int), .int .u8 (a2.toNat : Int), .int .u8 (a3.toNat : Int), .int .u8 (a4.toNat : Int), .int .u8 (a5.toNat : Int), .int .u8 (a6.toNat : Int), .int .u8 (a7.toNat : Int), .slice So no co, .slice Sb nb cb] 27 (0, 0)) := by have := heap_alloc_new w (.cells #[.int .i64 tos, .int .i64 id, .int .i64 fl, .int .i64 pt, .int .i64 ttl, .int .i64 pr, .int .u8 (a0.toNat : Int), .int .u8 (a1.toNat : Int), .int .u8 (a2.toNat : Int), .int .u8 (a3.toNat : Int), .int .u8 (a4.toNat : Int), .int .u8 (a5.toNat : Int), .int .u8 (a6.toNat : Int), .int .u8 (a7.toNat : Int), .slice So no co, .slice Sb nb cb] 27); simpa using this
  have zp : w.heap.size < (w.alloc (.cells #[.int .i64 tos, .int .i64 id, .int .i64 fl, .int .i64 pt, .int .i64 ttl, .int .i64 pr, .int .u8 (a0.toNat : Int), .int .u8 (a1.toNat : Int), .int .u8 (a2.toNat : Int), .int .u8 (a3.toNat : Int), .int .u8 (a4.toNat : Int), .int .u8 (a5.toNat : Int), .int .u8 (a6.toNat : Int), .int .u8 (a7.toNat : Int), .slice So no co, .slice Sb nb cb] 27)).heap.size := by simp
  replace bel := bel.alloc bel.size (.cells #[.int .i64 tos, .int .i64 id, .int .i64 fl, .int .i64 pt, .int .i64 ttl, .int .i64 pr, .int .u8 (a0.toNat : Int), .int .u8 (a1.toNat : Int), .int .u8 (a2.toNat : Int), .int .u8 (a3.toNat : Int), .int .u8 (a4.toNat : Int), .int .u8 (a5.toNat : Int), .int .u8 (a6.toNat : Int), .int .u8 (a7.toNat : Int), .slice So no co, .slice Sb nb cb] 27)
  go_enter Try.func26, Try.ntmps26
  have R3 := cell_lit hp 3 _ rfl
  have R7 := cell_lit hp 2 _ rfl
  go_wp2
  go_ret
  exact ⟨rfl, bel⟩
theorem ipwhole_any (tos id fl pt ttl pr : Int) (a0 a1 a2 a3 a4 a5 a6 a7 : UInt8) (So Sb : Option Addr) (no co nb cb : Nat) (w : World) : Calls Try.prog 26 #[.agg #[.int .i64 tos, .int .i64 id, .int .i64 fl, .int .i64 pt, .int .i64 ttl, .int .i64 pr, .int .u8 (a0.toNat : Int), .int .u8 (a1.toNat : Int), .int .u8 (a2.toNat : Int), .int .u8 (a3.toNat : Int), .int .u8 (a4.toNat : Int), .int .u8 (a5.toNat : Int), .int .u8 (a6.toNat : Int), .int .u8 (a7.toNat : Int), .slice So no co, .slice Sb nb cb]] w fun e w' => e = .returned (.bool (decide (pt = 0) && decide (fl % 2 = 0))) ∧ Below w.heap.size w w' := by
  by_cases h : pt = 0
  · by_cases h2 : fl % 2 = 0
    · rw [decide_eq_true h, decide_eq_true h2]; exact whole_y tos id fl pt ttl pr a0 a1 a2 a3 a4 a5 a6 a7 So Sb no co nb cb w h h2
    · rw [decide_eq_true h, decide_eq_false h2]; exact whole_f tos id fl pt ttl pr a0 a1 a2 a3 a4 a5 a6 a7 So Sb no co nb cb w h h2
  · rw [decide_eq_false h]; exact whole_p tos id fl pt ttl pr a0 a1 a2 a3 a4 a5 a6 a7 So Sb no co nb cb w h
end Go.Proofs.Ytfmllopeeiecjaa
