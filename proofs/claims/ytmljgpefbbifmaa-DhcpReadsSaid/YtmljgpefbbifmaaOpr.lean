/- Readers of whom it is told that their rest lies below a bound; Bytes as a row of the call's own. -/
import Derived.Test.YtmljgpefbbifmaaOpa
import Derived.Test.YtmljgpefbbifmaaRd2
namespace Go.Proofs.Ytmljgpefbbifmaa
open Go.RowKit

set_option maxHeartbeats 400000 in
theorem join_o (A B : Option Addr) (n c m d : Nat) (l t : List UInt8) (w : World) (hl : Sl w A n c l) (ht : Sl w B m d t) (hs : n + m ≤ 140737488355328) :
    Calls Try.prog 39 #[.slice A n c, .slice B m d] w fun e w' => ∃ v, e = .returned v ∧ w'.ownsRow w.heap.size 5 1 v (n + m) ((l ++ t).map u8v) ∧ Below w.heap.size w w' := by
  obtain ⟨i, hi, hz0, hz1, hz2⟩ := info_parts Try.info5
  have hb1 : (0 : Int) ≤ n := by omega
  have hb2 : (0 : Int) ≤ m := by omega
  have hb3 : (n : Int) + m ≤ 140737488355328 := by omega
  go_enter Try.func39, Try.ntmps39
  go_wp2_with (at_make; refine wpList_make_own _ rfl _ _ 34 rfl w.heap.size 5 i (.int .u8 0) 1 Try.underlying34 hi hz0 hz1 _ _ _ (n + m) rfl rfl ?b1 ?b2 ?b3 (Nat.le_refl _) ?_)
  case b1 => simp
  case b2 => rw [hz2]; omega
  case b3 => unfold maxLen; omega
  intro w1 hown hg1
  have bel1 : Below w.heap.size w w1 := (Below.refl _ _).grown hg1 (Nat.le_refl _) (fun k h => by cases h)
  have hsz : w.heap.size ≤ w1.heap.size := bel1.size
  go_wp2_with (at_builtin; refine wpList_append_bytes w1 rfl (.tmp 12) (.tmp 13) 34 rfl w.heap.size 5 i (.int .u8 0) Try.underlying34 hi hz0 hz1 hz2 rfl _ 0 [] rfl hown A n c l rfl (hl.below bel1) ?c1 ?c2 ?_)
  case c1 => omega
  case c2 => exact hsz
  intro v2 w2 hown2 hg2 hat2
  have bel2 : Below w.heap.size w w2 := bel1.grown hg2 hsz (fun k h => by simp [Value.ownBlock] at h; omega)
  have hv2 : ∀ k, v2.ownBlock = some k → w.heap.size ≤ k := by
    intro k hk
    rcases hat2 with h | h
    · rw [h] at hk; simp [Value.ownBlock] at hk; omega
    · rw [h] at hk; simp at hk; omega
  clear hat2
  go_wp2_with (at_builtin; refine wpList_append_bytes w2 rfl (.tmp 15) (.tmp 16) 34 rfl w.heap.size 5 i (.int .u8 0) Try.underlying34 hi hz0 hz1 hz2 rfl _ n l rfl hown2 B m d t rfl (ht.below bel2) ?c1 ?c2 ?_)
  case c1 => omega
  case c2 => exact bel2.size
  intro v3 w3 hown3 hg3 hat3
  have bel3 : Below w.heap.size w w3 := bel2.grown hg3 bel2.size hv2
  clear hat3 hv2
  rw [← List.map_append] at hown3
  go_wp2
  go_ret
  exact ⟨v3, rfl, hown3, bel3⟩


/-- A Reader and its rest lie below lo. -/
def Rs (lo gr : Nat) (w : World) (l : List UInt8) (s : Bool) : Prop := Ro w 79 gr (fun a => a < lo) l s ∧ gr < lo
theorem Rs.under {lo gr B : Nat} {w w' : World} {l : List UInt8} {s : Bool} (h : Rs lo gr w l s) (b : Below B w w') (hB : lo ≤ B) : Rs lo gr w' l s := by
  obtain ⟨⟨A, n, c, h1, h2, h3⟩, hg⟩ := h
  refine ⟨⟨A, n, c, (b.block gr (Nat.lt_of_lt_of_le hg hB)).trans h1, h2.under (lo := lo) (fun hn a o p e => ?_) (b.mono hB), h3⟩, hg⟩
  obtain ⟨a', o', e', ha⟩ := h3 hn
  rw [e] at e'
  injection e' with e'
  injection e' with e1 e2
  subst e1
  exact ha
theorem Rs.below {lo gr : Nat} {w w' : World} {l : List UInt8} {s : Bool} (h : Rs lo gr w l s) (b : Below w.heap.size w w') : Rs lo gr w' l s := ⟨h.1.below b, h.2⟩
theorem Rs.drew {lo gr : Nat} {w : World} {l : List UInt8} {s : Bool} (h : Rs lo gr w l s) : Rs lo gr w.drew l s := ⟨h.1.drew, h.2⟩
theorem Rs.away {lo gr q : Nat} {w w' : World} {l : List UInt8} {s : Bool} (h : Rs lo gr w l s) (g : w.grownBy w' (some q)) (hq : lo ≤ q) : Rs lo gr w' l s := ⟨h.1.grown g (by omega) (by have := h.2; omega), h.2⟩
theorem Rs.row {lo gr B k n : Nat} {T : TypeId} {w w' : World} {l : List UInt8} {s : Bool} {v : Value} {xs : List Value} (h : Rs lo gr w l s) (g : w.grownBy w' v.ownBlock) (ho : w.ownsRow B T k v n xs) (hB : lo ≤ B) : Rs lo gr w' l s := by
  cases hv : v.ownBlock with
  | none =>
    rw [hv] at g
    obtain ⟨⟨A, n, c, h1, h2, h3⟩, hg⟩ := h
    refine ⟨⟨A, n, c, (g.block gr (hlt h1) (by simp)).trans h1, h2.keep fun a o b hc => ?_, h3⟩, hg⟩
    exact (World.cell?_of_block (g.block a (cell_lt hc) (by simp))).trans hc
  | some q => rw [hv] at g; exact h.away g (Nat.le_trans hB (ho.lt q hv).1)
theorem Rs.kt {lo gr : Nat} {w w' : World} {l : List UInt8} {s : Bool} (h : Rs lo gr w l s) (g : w.grownBy w' (some gr)) : Kt [79] w w' := by
  obtain ⟨⟨A, n, c, h1, h2, h3⟩, hg⟩ := h
  exact kt_grown g h1 (by simp)
theorem Rs.len {lo gr : Nat} {w : World} {l : List UInt8} {s : Bool} (h : Rs lo gr w l s) : l.length ≤ maxLen := by
  obtain ⟨⟨A, n, c, h1, h2, h3⟩, hg⟩ := h
  have := h2.1; have := h2.2.1; have := h2.2.2.1; omega
theorem rs_u8 {lo gr : Nat} {x : UInt8} {r : List UInt8} {s : Bool} (w : World) (h : Rs lo gr w (x :: r) s) : Calls Try.prog 33 #[.pointer (some ⟨gr, 0, none⟩)] w fun e w' => e = .returned (.int .i64 (x.toNat : Int)) ∧ Rs lo gr w' r s ∧ w.grownBy w' (some gr) ∧ Kt [79] w w' := by
  refine (u8_q1 gr _ x r s w h.1).mono ?_
  rintro e w' ⟨rfl, h1, h2⟩
  exact ⟨rfl, ⟨h1, h.2⟩, h2, h.kt h2⟩
theorem rs_no {lo gr : Nat} {w w' : World} {l : List UInt8} {s : Bool} (h : Rs lo gr w l s) (hr : Rd w' 79 gr [] true) : Rs lo gr w' [] true := by
  obtain ⟨A, n, c, h1, h2⟩ := hr
  exact ⟨⟨A, n, c, h1, h2, fun hn => by have := h2.1; simp at this; omega⟩, h.2⟩
theorem rs_u8e {lo gr : Nat} {s : Bool} (w : World) (h : Rs lo gr w [] s) : Calls Try.prog 33 #[.pointer (some ⟨gr, 0, none⟩)] w fun e w' => e = .returned (.int .i64 0) ∧ Rs lo gr w' [] true ∧ w.grownBy w' (some gr) ∧ Kt [79] w w' := by
  refine (u8_no gr [] s w h.1.rd (by simp)).mono ?_
  rintro e w' ⟨rfl, h1, h2⟩
  exact ⟨rfl, rs_no h h1, h2, h.kt h2⟩
theorem rs_short {lo gr : Nat} {l : List UInt8} {s : Bool} (w : World) (h : Rs lo gr w l s) : Calls Try.prog 40 #[.pointer (some ⟨gr, 0, none⟩)] w fun e w' => e = .returned (.bool s) ∧ w = w' := by
  obtain ⟨⟨A, n, c, h1, h2, h3⟩, hg⟩ := h
  exact rd_short gr A n c l s w h1 h2
set_option maxHeartbeats 1000000 in
theorem bytes_o (g : Nat) (ok : Nat → Prop) (l : List UInt8) (s : Bool) (k : Nat) (w : World) (hr : Ro w 79 g ok l s) (hk : k ≤ l.length) (hs : k ≤ 140737488355328) :
    Calls Try.prog 37 #[.pointer (some ⟨g, 0, none⟩), .int .i64 k] w fun e w' => ∃ A c, e = .returned (.slice A k c) ∧ w'.ownsRow w.heap.size 5 1 (.slice A k c) k ((l.take k).map u8v) ∧ Ro w' 79 g ok (l.drop k) s ∧ w.grownBy w' (some g) := by
  go_enter Try.func37, Try.ntmps37
  go_wp2_with (go_at_call 50; refine (take_yes_q g ok l s k _ hr hk).mono ?_; rintro e w1 ⟨A, c, rfl, hsl, hr1, hg1⟩)
  go_wp2_with (go_at_call 39; refine (join_o A none k c 0 0 _ [] w1 hsl (Sl.nil w1) (by omega)).mono ?_; rintro e w2 ⟨v, rfl, own, bel⟩)
  go_ret
  simp only [Nat.add_zero, List.append_nil] at own
  obtain ⟨A', c', rfl⟩ := own_val own
  exact ⟨A', c', rfl, ownsRow_mono own hg1.size, hr1.below bel, hg1.trans (grown_of_below bel)⟩
set_option maxHeartbeats 1000000 in
theorem bytes_n (g : Nat) (l : List UInt8) (s : Bool) (k : Int) (w : World) (hr : Rd w 79 g l s) (hk : k < 0 ∨ l.length < k) :
    Calls Try.prog 37 #[.pointer (some ⟨g, 0, none⟩), .int .i64 k] w fun e w' => ∃ A c, e = .returned (.slice A 0 c) ∧ w'.ownsRow w.heap.size 5 1 (.slice A 0 c) 0 (([] : List UInt8).map u8v) ∧ Rd w' 79 g [] true ∧ w.grownBy w' (some g) := by
  go_enter Try.func37, Try.ntmps37
  go_wp2_with (go_at_call 50; refine (take_no g l s k _ hr hk).mono ?_; rintro e w1 ⟨rfl, hr1, hg1⟩)
  go_wp2_with (go_at_call 39; refine (join_o none none 0 0 0 0 _ [] w1 (Sl.nil w1) (Sl.nil w1) (by omega)).mono ?_; rintro e w2 ⟨v, rfl, own, bel⟩)
  go_ret
  simp only [Nat.add_zero, List.append_nil] at own
  obtain ⟨A', c', rfl⟩ := own_val own
  exact ⟨A', c', rfl, ownsRow_mono own hg1.size, hr1.below bel, hg1.trans (grown_of_below bel)⟩
theorem rs_bytes {lo gr k : Nat} {l : List UInt8} {s : Bool} (w : World) (h : Rs lo gr w l s) (hk : k ≤ l.length) (hs : k ≤ 1000000) : Calls Try.prog 37 #[.pointer (some ⟨gr, 0, none⟩), .int .i64 (k : Int)] w fun e w' => ∃ A c, e = .returned (.slice A k c) ∧ w'.ownsRow w.heap.size 5 1 (.slice A k c) k ((l.take k).map u8v) ∧ Rs lo gr w' (l.drop k) s ∧ w.grownBy w' (some gr) ∧ Kt [79] w w' := by
  refine (bytes_o gr _ l s k w h.1 hk (by omega)).mono ?_
  rintro e w' ⟨A, c, rfl, h0, h1, h2⟩
  exact ⟨A, c, rfl, h0, ⟨h1, h.2⟩, h2, h.kt h2⟩
theorem rs_bytes0 {lo gr : Nat} {l : List UInt8} {s : Bool} (w : World) (h : Rs lo gr w l s) : Calls Try.prog 37 #[.pointer (some ⟨gr, 0, none⟩), .int .i64 0] w fun e w' => ∃ A c, e = .returned (.slice A 0 c) ∧ w'.ownsRow w.heap.size 5 1 (.slice A 0 c) 0 ((l.take 0).map u8v) ∧ Rs lo gr w' (l.drop 0) s ∧ w.grownBy w' (some gr) ∧ Kt [79] w w' := rs_bytes (k := 0) w h (Nat.zero_le _) (by decide)
theorem rs_bytesn {lo gr k : Nat} {l : List UInt8} {s : Bool} (w : World) (h : Rs lo gr w l s) (hk : l.length < k) : Calls Try.prog 37 #[.pointer (some ⟨gr, 0, none⟩), .int .i64 (k : Int)] w fun e w' => ∃ A c, e = .returned (.slice A 0 c) ∧ w'.ownsRow w.heap.size 5 1 (.slice A 0 c) 0 (([] : List UInt8).map u8v) ∧ Rs lo gr w' [] true ∧ w.grownBy w' (some gr) ∧ Kt [79] w w' := by
  refine (bytes_n gr l s k w h.1.rd (by omega)).mono ?_
  rintro e w' ⟨A, c, rfl, h0, h1, h2⟩
  exact ⟨A, c, rfl, h0, rs_no h h1, h2, h.kt h2⟩
theorem rs_read (A : Option Addr) (n c : Nat) (l : List UInt8) (w : World) (hl : Sl w A n c l) (hs : n ≤ 1000000) : Calls Try.prog 18 #[.slice A n c] w fun e w' => ∃ g, e = .returned (.pointer (some ⟨g, 0, none⟩)) ∧ w.heap.size ≤ g ∧ Rs w'.heap.size g w' l false ∧ Below w.heap.size w w' := by
  refine (read_q A n c l w hl (by omega)).mono ?_
  rintro e w' ⟨g, rfl, ⟨A', n', c', h1, h2, h3⟩, hb, hg⟩
  refine ⟨g, rfl, hg, ⟨⟨A', n', c', h1, h2, fun hn => ?_⟩, hlt h1⟩, hb⟩
  obtain ⟨a, o, e, ha⟩ := h3 hn
  exact ⟨a, o, e, h2.at0 hn e⟩
end Go.Proofs.Ytmljgpefbbifmaa
