/- What octet makes is new memory: the contracts of join, Read and Bytes once more, with the place of what they make. -/
import Derived.Test.YtholgadifhjmgaaDoorWalks
import Derived.Test.YtholgadifhjmgaaDoorRdb
namespace Go.Proofs.YtholgadifhjmgaaDoor
open Go.RowKit

/-- What is not empty lies in a block from B on. -/
def Fr (B : Nat) (A : Option Addr) (n : Nat) : Prop := 0 < n → ∃ a o, A = some ⟨a, o, none⟩ ∧ B ≤ a
theorem Fr.mono {B C : Nat} {A : Option Addr} {n : Nat} (h : Fr B A n) (hc : C ≤ B) : Fr C A n := fun hn => by
  obtain ⟨a, o, e, hb⟩ := h hn
  exact ⟨a, o, e, Nat.le_trans hc hb⟩
theorem Sl.of_own_f {w : World} {base : Nat} {e : TypeId} {v : Value} {l : List UInt8} {n : Nat} (h : w.ownsRow base e 1 v n (l.map u8v)) : ∃ A c, v = .slice A n c ∧ Sl w A n c l ∧ Fr base A n := by
  obtain ⟨A, c, rfl, hs⟩ := Sl.of_own h
  refine ⟨A, c, rfl, hs, fun hn => ?_⟩
  rcases h.2 with ⟨e1, rfl⟩ | ⟨g, cap, cur, e1, hb, _⟩
  · omega
  · injection e1 with e2
    exact ⟨g, 0, e2, hb⟩
/-- A store elsewhere. -/
theorem Sl.setCell {w : World} {A : Option Addr} {n c : Nat} {l : List UInt8} {B k : Nat} (h : Sl w A n c l) (hf : Fr B A n) (hk : k < B) (i : Nat) (u : Value) : Sl (w.setCell ⟨k, i, none⟩ u) A n c l := by
  refine ⟨h.1, h.2.1, h.2.2.1, fun hn => ?_⟩
  obtain ⟨a, o, e, hc⟩ := h.2.2.2 hn
  obtain ⟨a', o', e', hlt⟩ := hf hn
  rw [e] at e'
  obtain ⟨rfl, rfl⟩ : a = a' ∧ o = o' := by injection e' with e'; injection e' with e1 e2; exact ⟨e1, e2⟩
  refine ⟨a, o, e, fun j b hj => ?_⟩
  exact (World.cell?_of_block (w := w) (Below.heap_setCell w ⟨k, i, none⟩ u a (by show a ≠ k; omega))).trans (hc j b hj)
theorem Sl.grown {w w' : World} {A : Option Addr} {n c : Nat} {l : List UInt8} {B g : Nat} (h : Sl w A n c l) (hf : Fr B A n) (hg : w.grownBy w' (some g)) (hk : g < B) : Sl w' A n c l := by
  refine ⟨h.1, h.2.1, h.2.2.1, fun hn => ?_⟩
  obtain ⟨a, o, e, hc⟩ := h.2.2.2 hn
  obtain ⟨a', o', e', hlt⟩ := hf hn
  rw [e] at e'
  obtain ⟨rfl, rfl⟩ : a = a' ∧ o = o' := by injection e' with e'; injection e' with e1 e2; exact ⟨e1, e2⟩
  refine ⟨a, o, e, fun j b hj => ?_⟩
  have hne : (some a : Option Nat) ≠ some g := fun h => by injection h with h; omega
  exact (World.cell?_of_block (w := w) (hg.block a (cell_lt (hc j b hj)) hne)).trans (hc j b hj)

set_option maxHeartbeats 400000 in
theorem join_f (A B : Option Addr) (n c m d : Nat) (l t : List UInt8) (w : World) (hl : Sl w A n c l) (ht : Sl w B m d t) (hs : n + m ≤ 140737488355328) :
    Calls Tryd.prog 48 #[.slice A n c, .slice B m d] w fun e w' => ∃ A' c', e = .returned (.slice A' (n + m) c') ∧ Sl w' A' (n + m) c' (l ++ t) ∧ Below w.heap.size w w' ∧ Fr w.heap.size A' (n + m) := by
  obtain ⟨i, hi, hz0, hz1, hz2⟩ := info_parts Tryd.info5
  have hb1 : (0 : Int) ≤ n := by omega
  have hb2 : (0 : Int) ≤ m := by omega
  have hb3 : (n : Int) + m ≤ 140737488355328 := by omega
  go_enter Tryd.func48, Tryd.ntmps48
  go_wp2_with (at_make; refine wpList_make_own _ rfl _ _ 27 rfl w.heap.size 5 i (.int .u8 0) 1 Tryd.underlying27 hi hz0 hz1 _ _ _ (n + m) rfl rfl ?b1 ?b2 ?b3 (Nat.le_refl _) ?_)
  case b1 => simp
  case b2 => rw [hz2]; omega
  case b3 => unfold maxLen; omega
  intro w1 hown hg1
  have bel1 : Below w.heap.size w w1 := (Below.refl _ _).grown hg1 (Nat.le_refl _) (fun k h => by cases h)
  have hsz : w.heap.size ≤ w1.heap.size := bel1.size
  go_wp2_with (at_builtin; refine wpList_append_bytes w1 rfl (.tmp 12) (.tmp 13) 27 rfl w.heap.size 5 i (.int .u8 0) Tryd.underlying27 hi hz0 hz1 hz2 rfl _ 0 [] rfl hown A n c l rfl (hl.below bel1) ?c1 ?c2 ?_)
  case c1 => omega
  case c2 => exact hsz
  intro v2 w2 hown2 hg2 hat2
  have bel2 : Below w.heap.size w w2 := bel1.grown hg2 hsz (fun k h => by simp [Value.ownBlock] at h; omega)
  have hv2 : ∀ k, v2.ownBlock = some k → w.heap.size ≤ k := by
    intro k hk
    rcases hat2 with h | h
    · rw [h] at hk; simp [Value.ownBlock] at hk; omega
    · rw [h] at hk; simp at hk; omega
  clear hat2
  go_wp2_with (at_builtin; refine wpList_append_bytes w2 rfl (.tmp 15) (.tmp 16) 27 rfl w.heap.size 5 i (.int .u8 0) Tryd.underlying27 hi hz0 hz1 hz2 rfl _ n l rfl hown2 B m d t rfl (ht.below bel2) ?c1 ?c2 ?_)
  case c1 => omega
  case c2 => exact bel2.size
  intro v3 w3 hown3 hg3 hat3
  have bel3 : Below w.heap.size w w3 := bel2.grown hg3 bel2.size hv2
  clear hat3 hv2
  rw [← List.map_append] at hown3
  obtain ⟨A', c', rfl, hsl, hfr⟩ := Sl.of_own_f hown3
  go_wp2
  go_ret
  exact ⟨A', c', rfl, hsl, bel3, hfr⟩

theorem bytes_f (g : Nat) (l : List UInt8) (s : Bool) (k : Nat) (w : World) (hr : Rd w 67 g l s) (hk : k ≤ l.length) (hs : k ≤ 140737488355328) :
    Calls Tryd.prog 44 #[.pointer (some ⟨g, 0, none⟩), .int .i64 k] w fun e w' => ∃ A c, e = .returned (.slice A k c) ∧ Sl w' A k c (l.take k) ∧ Rd w' 67 g (l.drop k) s ∧ w.grownBy w' (some g) ∧ Fr w.heap.size A k := by
  go_enter Tryd.func44, Tryd.ntmps44
  go_wp2_with (go_at_call 49; refine (take_yes g l s k _ hr hk).mono ?_; rintro e w1 ⟨A, c, rfl, hsl, hr1, hg1⟩)
  go_wp2_with (go_at_call 48; refine (join_f A none k c 0 0 _ [] w1 hsl (Sl.nil w1) (by omega)).mono ?_; rintro e w2 ⟨A', c', rfl, hsl2, bel, hfr⟩)
  go_ret
  simp only [Nat.add_zero, List.append_nil] at hsl2 hfr
  exact ⟨A', c', rfl, hsl2, hr1.below bel, hg1.trans (grown_of_below bel), hfr.mono hg1.size⟩
end Go.Proofs.YtholgadifhjmgaaDoor
