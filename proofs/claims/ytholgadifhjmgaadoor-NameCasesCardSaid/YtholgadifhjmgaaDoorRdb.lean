/- The Reader's contracts with a bound on where its rest lies: for callers that write into blocks of their own between two calls. -/
import Derived.Test.YtholgadifhjmgaaDoorWalks
namespace Go.Proofs.YtholgadifhjmgaaDoor
open Go.RowKit

/-- A Reader at block g whose rest, where it is not empty, lies in a block below B. -/
def Rb (w : World) (T : TypeId) (g B : Nat) (l : List UInt8) (s : Bool) : Prop :=
  ∃ A n c, w.heap[g]? = some (.cells #[.slice A n c, .bool s] T (0, 0)) ∧ Sl w A n c l ∧ (0 < n → ∃ a o, A = some ⟨a, o, none⟩ ∧ a < B)
theorem Rb.rd {w : World} {T : TypeId} {g B : Nat} {l : List UInt8} {s : Bool} (h : Rb w T g B l s) : Rd w T g l s := by
  obtain ⟨A, n, c, h1, h2, _⟩ := h
  exact ⟨A, n, c, h1, h2⟩
theorem Rd.rb {w : World} {T : TypeId} {g : Nat} {l : List UInt8} {s : Bool} (h : Rd w T g l s) : Rb w T g w.heap.size l s := by
  obtain ⟨A, n, c, h1, h2⟩ := h
  refine ⟨A, n, c, h1, h2, fun hn => ?_⟩
  obtain ⟨a, o, e, hc⟩ := h2.2.2.2 hn
  have h0 : 0 < l.length := by have := h2.1; omega
  exact ⟨a, o, e, cell_lt (hc 0 _ (List.getElem?_eq_getElem h0))⟩
theorem Rb.below {w w' : World} {T : TypeId} {g B : Nat} {l : List UInt8} {s : Bool} (h : Rb w T g B l s) (hb : Below w.heap.size w w') : Rb w' T g B l s := by
  have hlt := h.rd.lt
  obtain ⟨A, n, c, h1, h2, h3⟩ := h
  exact ⟨A, n, c, (hb.block g hlt).trans h1, h2.below hb, h3⟩
/-- A store into a block that is neither the Reader's nor below the bound. -/
theorem Rb.setCell {w : World} {T : TypeId} {g B q : Nat} {l : List UInt8} {s : Bool} (h : Rb w T g B l s) (hq : B ≤ q) (hne : q ≠ g) (i : Nat) (u : Value) : Rb (w.setCell ⟨q, i, none⟩ u) T g B l s := by
  obtain ⟨A, n, c, h1, h2, h3⟩ := h
  have other : ∀ k, k ≠ q → (w.setCell ⟨q, i, none⟩ u).heap[k]? = w.heap[k]? := fun k hk => Below.heap_setCell w ⟨q, i, none⟩ u k (fun e => hk (by rw [e]))
  refine ⟨A, n, c, (other g (Ne.symm hne)).trans h1, ⟨h2.1, h2.2.1, h2.2.2.1, fun hn => ?_⟩, h3⟩
  obtain ⟨a, o, e, hc⟩ := h2.2.2.2 hn
  obtain ⟨a', o', e', hlt⟩ := h3 hn
  rw [e] at e'
  obtain ⟨rfl, rfl⟩ : a = a' ∧ o = o' := by injection e' with e'; injection e' with e1 e2; exact ⟨e1, e2⟩
  refine ⟨a, o, e, fun j b hj => ?_⟩
  exact (World.cell?_of_block (w := w) (other a (by omega))).trans (hc j b hj)
theorem Rb.set {w w' : World} {T : TypeId} {g B : Nat} {l l' : List UInt8} {s s' : Bool} {A : Option Addr} {n c : Nat} (hr : Rb w T g B l s) (hg : w.grownBy w' (some g)) (hb : w'.heap[g]? = some (.cells #[.slice A n c, .bool s'] T (0, 0)))
    (hs : Sl w A n c l') (hB : 0 < n → ∃ a o, A = some ⟨a, o, none⟩ ∧ a < B) : Rb w' T g B l' s' := ⟨A, n, c, hb, hs.far hr.rd hg, hB⟩
/-- Stores into new blocks, and calls that write a Reader alone. -/
theorem grown_setCell {a w : World} {row : Option Nat} (h : a.grownBy w row) {k : Nat} (hk : a.heap.size ≤ k) (i : Nat) (u : Value) : a.grownBy (w.setCell ⟨k, i, none⟩ u) row :=
  ⟨h.os, h.tape, h.output, by simpa [World.setCell] using h.size, fun j hj hne => (Below.heap_setCell w ⟨k, i, none⟩ u j (fun e => by have h2 : j = k := e; omega)).trans (h.block j hj hne)⟩

theorem take_yes_b (g B : Nat) (l : List UInt8) (s : Bool) (k : Nat) (w : World) (hr : Rb w 67 g B l s) (hk : k ≤ l.length) :
    Calls Tryd.prog 49 #[.pointer (some ⟨g, 0, none⟩), .int .i64 k] w fun e w' => ∃ A c, e = .returned (.slice A k c) ∧ Sl w' A k c (l.take k) ∧ Rb w' 67 g B (l.drop k) s ∧ w.grownBy w' (some g) := by
  have hr' := hr
  obtain ⟨A, n, c, hb, hsl, hB⟩ := hr'
  have hn := hsl.1
  obtain ⟨hc0, hc1⟩ := cell_of_rd hb
  have hf0 : w.frozen? ⟨g, 0, none⟩ = false := by simp [World.frozen?, hb]
  have hf1 : w.frozen? ⟨g, 1, none⟩ = false := by simp [World.frozen?, hb]
  have hcap := hsl.2.1
  have b0 : (0 : Int) ≤ k := by omega
  have b1 : (k : Int) ≤ n := by omega
  have b2 : (n : Int) ≤ c := by omega
  have b3 : k ≤ n := by omega
  have hd := hsl.drop b3
  have ht := hsl.take b3
  by_cases hck : c = k
  · rw [if_pos hck] at hd
    have hg : w.grownBy (w.setCell ⟨g, 0, none⟩ (.slice A (n - k) (c - k))) (some g) := grown_set (World.grownBy.refl w _) 0 _
    have R : Rb (w.setCell ⟨g, 0, none⟩ (.slice A (n - k) (c - k))) 67 g B (l.drop k) s := hr.set hg (set_first hb) hd (fun h => hB (by omega))
    have T := ht.far hr.rd hg
    clear hn hb hd ht hsl hB
    subst hck
    have b4 : n = c := by omega
    subst b4
    simp only [Nat.sub_self] at R T hg
    go_enter Tryd.func49, Tryd.ntmps49
    go_wp2
    go_ret
    exact ⟨A, n, rfl, T, R, hg⟩
  · rw [if_neg hck] at hd
    simp only [Nat.mul_one] at hd
    have hg : w.grownBy (w.setCell ⟨g, 0, none⟩ (.slice (A.map fun x => x.add k) (n - k) (c - k))) (some g) := grown_set (World.grownBy.refl w _) 0 _
    have R : Rb (w.setCell ⟨g, 0, none⟩ (.slice (A.map fun x => x.add k) (n - k) (c - k))) 67 g B (l.drop k) s := hr.set hg (set_first hb) hd (fun h => by
      obtain ⟨a, o, rfl, hlt⟩ := hB (by omega)
      exact ⟨a, o + k, by simp [Addr.add_lit], hlt⟩)
    have T := ht.far hr.rd hg
    clear hn hb hd ht hsl hB
    have h0 : ¬ k = c := fun e => hck e.symm
    go_enter Tryd.func49, Tryd.ntmps49
    go_wp2
    all_goals (go_ret; exact ⟨A, c, rfl, T, R, hg⟩)

theorem number_yes_b (g B : Nat) (l : List UInt8) (s : Bool) (k : Nat) (w : World) (hr : Rb w 67 g B l s) (hk : k ≤ l.length) (h4 : k ≤ 4) (h0 : 0 < k) :
    Calls Tryd.prog 43 #[.pointer (some ⟨g, 0, none⟩), .int .i64 k] w fun e w' => e = .returned (.int .u32 (be (l.take k))) ∧ Rb w' 67 g B (l.drop k) s ∧ w.grownBy w' (some g) := by
  go_enter Tryd.func43, Tryd.ntmps43
  go_wp2_with (go_at_call 49; refine (take_yes_b g B l s k _ hr hk).mono ?_; rintro e w1 ⟨A, c, rfl, hsl, hr1, hg1⟩)
  obtain ⟨d, o, rfl, hc⟩ := hsl.2.2.2 h0
  have hlen := hsl.1
  obtain ⟨t, HT⟩ : ∃ t, Hid (l.take k = t) := ⟨_, rfl⟩
  rw [HT.out] at hc hlen
  clear hsl
  go_loop [5, 12] (fun v i => ∃ j : Nat, j ≤ k ∧ i = .int .i64 j ∧ v = .int .u32 (be (t.take j))) (fun _ i => k - (intOf i).toNat)
  case atStart => exact ⟨0, by omega, rfl, rfl⟩
  case round =>
    obtain ⟨j, hj, rfl, rfl⟩ := hrel
    have b0 : (0 : Int) ≤ k := by omega
    have b1 : (k : Int) ≤ 4 := by omega
    have b2 : (0 : Int) ≤ j := by omega
    by_cases hlt : j < k
    · have hjl : j < t.length := by omega
      have hcell := hc j _ (List.getElem?_eq_getElem hjl)
      have hbe : be (t.take (j + 1)) = be (t.take j) * 256 + t[j].toNat := by
        rw [List.take_succ_eq_append_getElem hjl, be_snoc]
      have hv : be (t.take j) < 256 ^ j := be_lt j _ (by rw [List.length_take]; omega)
      have hv' : (256 : Nat) ^ j ≤ 256 ^ 3 := Nat.pow_le_pow_right (by omega) (by omega)
      have hu := t[j].toNat_lt
      unfold u8v at hcell
      generalize t[j].toNat = u at *
      clear hc hlen hr1 hr hg1
      have HBE : Hid (be (t.take (j + 1)) = be (t.take j) * 256 + u) := hbe
      clear hbe
      generalize be (t.take j) = v at *
      have b3 : (0 : Int) ≤ v := by omega
      have b4 : (v : Int) < 16777216 := by omega
      have b5 : (0 : Int) ≤ u := by omega
      have b6 : (u : Int) < 256 := by omega
      clear hv hv'
      have hor := or_u32 v u (by omega) (by omega)
      go_wp2
      go_round
      case rel => exact ⟨j + 1, by omega, by go_num, by rw [HBE.out]; go_num⟩
      case measure => simp [intOf]; omega
    · go_wp2
      obtain rfl : j = k := by omega
      go_ret
      refine ⟨?_, hr1, hg1⟩
      rw [HT.out]
      show Ending.returned (.int .u32 (be (t.take j))) = _
      rw [List.take_of_length_le (by omega)]

theorem u8_yes_b (g B : Nat) (l : List UInt8) (s : Bool) (w : World) (hr : Rb w 67 g B l s) (hk : 1 ≤ l.length) :
    Calls Tryd.prog 34 #[.pointer (some ⟨g, 0, none⟩)] w fun e w' => e = .returned (.int .i64 (be (l.take 1))) ∧ Rb w' 67 g B (l.drop 1) s ∧ w.grownBy w' (some g) := by
  have hlt := be_lt 1 (l.take 1) (by rw [List.length_take]; omega)
  have b1 : (be (l.take 1) : Int) < 256 := by omega
  have b0 : 0 ≤ (be (l.take 1) : Int) := by omega
  go_enter Tryd.func34, Tryd.ntmps34
  go_wp2_with (go_at_call 43; refine (number_yes_b g B l s 1 _ hr hk (by omega) (by omega)).mono ?_; rintro e w1 ⟨rfl, hr1, hg1⟩)
  go_ret
  exact ⟨rfl, hr1, hg1⟩
end Go.Proofs.YtholgadifhjmgaaDoor
