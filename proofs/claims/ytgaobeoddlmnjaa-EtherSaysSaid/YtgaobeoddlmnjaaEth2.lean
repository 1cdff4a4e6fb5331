/- The contract of ether's mac: six bytes out of a Reader. -/
import Derived.Test.YtgaobeoddlmnjaaRdb
import Derived.Test.YtgaobeoddlmnjaaEth1
import Derived.Test.YtgaobeoddlmnjaaOpen
namespace Go.Proofs.Ytgaobeoddlmnjaa
open Go.RowKit

theorem Ow.grown {T : TypeId} {w w' : World} {q c : Nat} {l : List UInt8} {row : Option Nat} (h : Ow T w q c l) (hg : w.grownBy w' row) (hne : some q ≠ row) : Ow T w' q c l := by
  have hlt := h.lt
  obtain ⟨h1, h2, cur, hh, hc⟩ := h
  exact ⟨h1, h2, cur, (hg.block q hlt hne).trans hh, hc⟩
/-- The first k bytes of six. -/
def mk6 (l : List UInt8) (k : Nat) : List UInt8 := l.take k ++ List.replicate (6 - k) 0
theorem mk6_len (l : List UInt8) (k : Nat) (h : k ≤ l.length) (hk : k ≤ 6) : (mk6 l k).length = 6 := by simp [mk6]; omega
theorem mk6_set (l : List UInt8) (k : Nat) (h : k < l.length) (hk : k < 6) : (mk6 l k).set k l[k] = mk6 l (k + 1) := by
  unfold mk6
  obtain ⟨m, hm⟩ : ∃ m, 6 - k = m + 1 := ⟨5 - k, by omega⟩
  rw [hm, show 6 - (k + 1) = m by omega, List.take_succ_eq_append_getElem h, List.set_append_right _ _ (by simp; omega), List.length_take, Nat.min_eq_left (by omega), Nat.sub_self, List.replicate_succ, List.set_cons_zero, List.append_assoc]
  rfl
theorem be_one (x : UInt8) : be [x] = x.toNat := by simp [be]

set_option maxRecDepth 100000 in
set_option maxHeartbeats 1000000 in
theorem emac_any (g : Nat) (AA : List UInt8) (r : List UInt8) (s : Bool) (w : World) (hr : Rd w 56 g (AA ++ r) s) (hA : AA.length = 6) :
    Calls Try.prog 21 #[.pointer (some ⟨g, 0, none⟩)] w fun e w' => e = .returned (.agg (AA.map u8v).toArray) ∧ Rd w' 56 g r s ∧ w.grownBy w' (some g) := by
  have hR := hr.rb
  have hg := hr.lt
  have HL := Lib.hid hA
  have HR : Hid (r = (AA ++ r).drop 6) := Lib.hid (by rw [← hA, List.drop_left])
  have HLL : Hid ((AA ++ r).length = 6 + r.length) := Lib.hid (by simp; omega)
  have HAA : Hid (AA = (AA ++ r).take 6) := Lib.hid (by rw [← hA, List.take_left])
  clear hA
  generalize AA ++ r = L at *
  have h0 : ((w.alloc (.cells #[.int .u8 0, .int .u8 0, .int .u8 0, .int .u8 0, .int .u8 0, .int .u8 0] 24)).alloc (.cells #[.int .u8 0, .int .u8 0, .int .u8 0, .int .u8 0, .int .u8 0, .int .u8 0] 24)).heap[w.heap.size]? = some (.cells #[.int .u8 0, .int .u8 0, .int .u8 0, .int .u8 0, .int .u8 0, .int .u8 0] 24 (0, 0)) := (Go.heap_alloc_old (w.alloc (.cells #[.int .u8 0, .int .u8 0, .int .u8 0, .int .u8 0, .int .u8 0, .int .u8 0] 24)) (.cells #[.int .u8 0, .int .u8 0, .int .u8 0, .int .u8 0, .int .u8 0, .int .u8 0] 24) (r := w.heap.size) (by simp)).trans (heap_alloc_new w _)
  have h1 : ((w.alloc (.cells #[.int .u8 0, .int .u8 0, .int .u8 0, .int .u8 0, .int .u8 0, .int .u8 0] 24)).alloc (.cells #[.int .u8 0, .int .u8 0, .int .u8 0, .int .u8 0, .int .u8 0, .int .u8 0] 24)).heap[w.heap.size + 1]? = some (.cells #[.int .u8 0, .int .u8 0, .int .u8 0, .int .u8 0, .int .u8 0, .int .u8 0] 24 (0, 0)) := by
    have := heap_alloc_new (w.alloc (.cells #[.int .u8 0, .int .u8 0, .int .u8 0, .int .u8 0, .int .u8 0, .int .u8 0] 24)) (.cells #[.int .u8 0, .int .u8 0, .int .u8 0, .int .u8 0, .int .u8 0, .int .u8 0] 24); simpa using this
  have bel : Below w.heap.size w ((w.alloc (.cells #[.int .u8 0, .int .u8 0, .int .u8 0, .int .u8 0, .int .u8 0, .int .u8 0] 24)).alloc (.cells #[.int .u8 0, .int .u8 0, .int .u8 0, .int .u8 0, .int .u8 0, .int .u8 0] 24)) := ((Below.refl _ w).alloc (Nat.le_refl _) _).alloc (by simp) _
  have hR2 := hR.below bel
  have hgr := grown_of_below (row := some g) bel
  have how : Ow 24 ((w.alloc (.cells #[.int .u8 0, .int .u8 0, .int .u8 0, .int .u8 0, .int .u8 0, .int .u8 0] 24)).alloc (.cells #[.int .u8 0, .int .u8 0, .int .u8 0, .int .u8 0, .int .u8 0, .int .u8 0] 24)) (w.heap.size + 1) 6 (mk6 L 0) := by
    refine ⟨by simp [mk6], by unfold maxLen; omega, _, h1, fun j b hj => ?_⟩
    match j, hj with
    | 0, hj | 1, hj | 2, hj | 3, hj | 4, hj | 5, hj => simp [mk6] at hj; subst hj; rfl
    | j + 6, hj => simp [mk6] at hj
  clear h1 bel hr hR
  have HG := Lib.hid hg
  clear hg
  go_enter Try.func21, Try.ntmps21
  go_wp2_with fail
  go_loopw [5] (fun i wr => ∃ k : Nat, k ≤ 6 ∧ i = .int .i64 k ∧ wr.heap[w.heap.size]? = some (.cells #[.int .u8 0, .int .u8 0, .int .u8 0, .int .u8 0, .int .u8 0, .int .u8 0] 24 (0, 0)) ∧ Ow 24 wr (w.heap.size + 1) 6 (mk6 L k) ∧ Rb wr 56 g w.heap.size (L.drop k) s ∧ w.grownBy wr (some g)) (fun i _ => 6 - (intOf i).toNat)
  case atStart => exact ⟨0, by omega, rfl, h0, how, by simpa using hR2, hgr⟩
  case round =>
    clear h0 how hR2 hgr
    obtain ⟨k, hk, rfl, hz, how, hR, hgr⟩ := hrel
    have HZ := Lib.hid hz
    have hzl : w.heap.size < wr.heap.size := (Array.getElem?_eq_some_iff.1 hz).1
    by_cases hlt : k < 6
    · clear hz
      have hkl : k < L.length := by have := HLL.out; omega
      have k0 : (0 : Int) ≤ k := by omega
      have k6 : (k : Int) < 6 := by omega
      obtain ⟨x, hx⟩ : ∃ x, Hid (L[k] = x) := ⟨_, Lib.hid rfl⟩
      have hc := u8_yes_b g w.heap.size (L.drop k) s wr hR (by rw [List.length_drop]; omega)
      rw [List.drop_eq_getElem_cons hkl, hx.out, List.take_succ_cons, List.take_zero, List.drop_succ_cons, List.drop_zero, be_one] at hc
      have HC := Lib.hid hc
      have hxl := x.toNat_lt
      have x0 : (0 : Int) ≤ x.toNat := by omega
      have x1 : (x.toNat : Int) < 256 := by omega
      clear hc hxl hR
      go_wp2_with fail
      refine HC.out.mono ?_
      rintro e w2 ⟨rfl, hR2, hg2⟩
      have how2 := how.grown hg2 (by have := HG.out; simp; omega)
      have hz2 := (hg2.block w.heap.size hzl (by have := HG.out; simp; omega)).trans HZ.out
      have hgr2 := hgr.trans hg2
      obtain ⟨y, _, cy, fy⟩ := how2.at_ k (by rw [mk6_len L k (by omega) (by omega)]; exact hlt)
      have how3 := how2.set k x
      have hz3 : (w2.setCell ⟨w.heap.size + 1, k, none⟩ (.int .u8 (x.toNat : Int))).heap[w.heap.size]? = some (.cells #[.int .u8 0, .int .u8 0, .int .u8 0, .int .u8 0, .int .u8 0, .int .u8 0] 24 (0, 0)) := (Below.heap_setCell w2 ⟨w.heap.size + 1, k, none⟩ _ w.heap.size (by simp)).trans hz2
      have hR3 := hR2.setCell (q := w.heap.size + 1) (by omega) (by have := HG.out; omega) k (.int .u8 (x.toNat : Int))
      have hgr3 := grown_setCell hgr2 (k := w.heap.size + 1) (by omega) k (.int .u8 (x.toNat : Int))
      rw [← hx.out, mk6_set L k hkl hlt, hx.out] at how3
      clear hR2 hg2 how2 hz2 hgr2 hzl
      go_wp2
      go_roundw
      case rel => exact ⟨k + 1, by omega, by go_num, hz3, how3, hR3, hgr3⟩
      case measure => simp [intOf]; omega
    · obtain rfl : k = 6 := by omega
      have e6 : mk6 L 6 = AA := by simp [mk6, HAA.out.symm]
      rw [e6] at how
      obtain ⟨a0, a1, a2, a3, a4, a5, rfl⟩ := list6 AA HL.out
      obtain ⟨p0, _⟩ := how.cell 0 (by simp)
      obtain ⟨p1, _⟩ := how.cell 1 (by simp)
      obtain ⟨p2, _⟩ := how.cell 2 (by simp)
      obtain ⟨p3, _⟩ := how.cell 3 (by simp)
      obtain ⟨p4, _⟩ := how.cell 4 (by simp)
      obtain ⟨p5, _⟩ := how.cell 5 (by simp)
      simp only [List.getElem_cons_zero, List.getElem_cons_succ] at p0 p1 p2 p3 p4 p5
      rw [← HR.out] at hR
      have hne : w.heap.size ≠ g := by have := HG.out; omega
      obtain ⟨⟨q0, q1, q2, q3, q4, q5⟩, f0, f1, f2, f3, f4, f5⟩ := cells6 hz
      clear hz how HAA HR e6 HLL HL
      go_wp2
      have R4 := put6 (y0 := .int .u8 (a0.toNat : Int)) (y1 := .int .u8 (a1.toNat : Int)) (y2 := .int .u8 (a2.toNat : Int)) (y3 := .int .u8 (a3.toNat : Int)) (y4 := .int .u8 (a4.toNat : Int)) (y5 := .int .u8 (a5.toNat : Int)) HZ.out
      obtain ⟨⟨k0', k1', k2', k3', k4', k5'⟩, _⟩ := cells6 R4
      clear R4
      exact bodyPost_ret (v := .agg #[.int .u8 (a0.toNat : Int), .int .u8 (a1.toNat : Int), .int .u8 (a2.toNat : Int), .int .u8 (a3.toNat : Int), .int .u8 (a4.toNat : Int), .int .u8 (a5.toNat : Int)]) (by simp [results, Try.results21, go_sem, k0', k1', k2', k3', k4', k5']) rfl ⟨rfl, ((((((hR.setCell (Nat.le_refl _) hne _ _).setCell (Nat.le_refl _) hne _ _).setCell (Nat.le_refl _) hne _ _).setCell (Nat.le_refl _) hne _ _).setCell (Nat.le_refl _) hne _ _).setCell (Nat.le_refl _) hne _ _).rd, (grown_setCell (grown_setCell (grown_setCell (grown_setCell (grown_setCell (grown_setCell hgr (Nat.le_refl _) _ _) (Nat.le_refl _) _ _) (Nat.le_refl _) _ _) (Nat.le_refl _) _ _) (Nat.le_refl _) _ _) (Nat.le_refl _) _ _)⟩
end Go.Proofs.Ytgaobeoddlmnjaa
