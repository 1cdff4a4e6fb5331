/- The contract of ether's Put. -/
import Derived.Test.YtfmllopeeiecjaaRdf
import Derived.Test.YtfmllopeeiecjaaEth1
namespace Go.Proofs.Ytfmllopeeiecjaa
open Go.RowKit

/-- Some cells of a block of any type read as bytes. -/
theorem sl_block {w : World} {k o n : Nat} {T : TypeId} {cur : Array Value} {l : List UInt8} (h : w.heap[k]? = some (.cells cur T (0, 0))) (hn : l.length = n) (hm : n ≤ 1000) (hc : ∀ (j : Nat) (b : UInt8), l[j]? = some b → cur[o + j]? = some (u8v b)) : Sl w (some ⟨k, o, none⟩) n n l :=
  ⟨hn, Nat.le_refl _, by unfold maxLen; omega, fun _ => ⟨k, o, rfl, fun j b hj => by simp [World.cell?, h, hc j b hj]⟩⟩
theorem sl_six {w : World} {k o : Nat} {T : TypeId} {cur : Array Value} (a0 a1 a2 a3 a4 a5 : UInt8) (h : w.heap[k]? = some (.cells cur T (0, 0))) (h0 : cur[o]? = some (u8v a0)) (h1 : cur[o + 1]? = some (u8v a1)) (h2 : cur[o + 2]? = some (u8v a2)) (h3 : cur[o + 3]? = some (u8v a3)) (h4 : cur[o + 4]? = some (u8v a4)) (h5 : cur[o + 5]? = some (u8v a5)) : Sl w (some ⟨k, o, none⟩) 6 6 [a0, a1, a2, a3, a4, a5] :=
  sl_block h rfl (by omega) (fun j b hj => by
    match j, hj with
    | 0, hj | 1, hj | 2, hj | 3, hj | 4, hj | 5, hj => simp at hj; subst hj; assumption
    | j + 6, hj => simp at hj)
theorem sl_four {w : World} {k o : Nat} {T : TypeId} {cur : Array Value} (a0 a1 a2 a3 : UInt8) (h : w.heap[k]? = some (.cells cur T (0, 0))) (h0 : cur[o]? = some (u8v a0)) (h1 : cur[o + 1]? = some (u8v a1)) (h2 : cur[o + 2]? = some (u8v a2)) (h3 : cur[o + 3]? = some (u8v a3)) : Sl w (some ⟨k, o, none⟩) 4 4 [a0, a1, a2, a3] :=
  sl_block h rfl (by omega) (fun j b hj => by
    match j, hj with
    | 0, hj | 1, hj | 2, hj | 3, hj => simp at hj; subst hj; assumption
    | j + 4, hj => simp at hj)

set_option maxHeartbeats 400000 in
theorem join_o (A B : Option Addr) (n c m d : Nat) (l t : List UInt8) (w : World) (hl : Sl w A n c l) (ht : Sl w B m d t) (hs : n + m ≤ 140737488355328) :
    Calls Try.prog 59 #[.slice A n c, .slice B m d] w fun e w' => ∃ v, e = .returned v ∧ w'.ownsRow w.heap.size 5 1 v (n + m) ((l ++ t).map u8v) ∧ Below w.heap.size w w' := by
  obtain ⟨i, hi, hz0, hz1, hz2⟩ := info_parts Try.info5
  have hb1 : (0 : Int) ≤ n := by omega
  have hb2 : (0 : Int) ≤ m := by omega
  have hb3 : (n : Int) + m ≤ 140737488355328 := by omega
  go_enter Try.func59, Try.ntmps59
  go_wp2_with (at_make; refine wpList_make_own _ rfl _ _ 25 rfl w.heap.size 5 i (.int .u8 0) 1 Try.underlying25 hi hz0 hz1 _ _ _ (n + m) rfl rfl ?b1 ?b2 ?b3 (Nat.le_refl _) ?_)
  case b1 => simp
  case b2 => rw [hz2]; omega
  case b3 => unfold maxLen; omega
  intro w1 hown hg1
  have bel1 : Below w.heap.size w w1 := (Below.refl _ _).grown hg1 (Nat.le_refl _) (fun k h => by cases h)
  have hsz : w.heap.size ≤ w1.heap.size := bel1.size
  go_wp2_with (at_builtin; refine wpList_append_bytes w1 rfl (.tmp 12) (.tmp 13) 25 rfl w.heap.size 5 i (.int .u8 0) Try.underlying25 hi hz0 hz1 hz2 rfl _ 0 [] rfl hown A n c l rfl (hl.below bel1) ?c1 ?c2 ?_)
  case c1 => omega
  case c2 => exact hsz
  intro v2 w2 hown2 hg2 hat2
  have bel2 : Below w.heap.size w w2 := bel1.grown hg2 hsz (fun k h => by simp [Value.ownBlock] at h; omega)
  have hv2 : ∀ k, v2.ownBlock = some k → w.heap.size ≤ k := by
    intro k hk
    rcases hat2 with h | h
    · rw [h] at hk; simp [Value.ownBlock] at hk; omega
    · rw [h] at hk; simp at hk; omega
  clear hat2
  go_wp2_with (at_builtin; refine wpList_append_bytes w2 rfl (.tmp 15) (.tmp 16) 25 rfl w.heap.size 5 i (.int .u8 0) Try.underlying25 hi hz0 hz1 hz2 rfl _ n l rfl hown2 B m d t rfl (ht.below bel2) ?c1 ?c2 ?_)
  case c1 => omega
  case c2 => exact bel2.size
  intro v3 w3 hown3 hg3 hat3
  have bel3 : Below w.heap.size w w3 := bel2.grown hg3 bel2.size hv2
  clear hat3 hv2
  rw [← List.map_append] at hown3
  go_wp2
  go_ret
  exact ⟨v3, rfl, hown3, bel3⟩

theorem w16_o (A : Option Addr) (n c : Nat) (l : List UInt8) (v0 : Int) (w : World) (hl : Sl w A n c l) (hs : n + 2 ≤ 140737488355328) :
    Calls Try.prog 53 #[.slice A n c, .int .i64 v0] w fun e w' => ∃ v, e = .returned v ∧ w'.ownsRow w.heap.size 5 1 v (n + 2) ((l ++ two v0).map u8v) ∧ Below w.heap.size w w' := by
  have hm := made2 v0 w
  have bel := (Below.refl w.heap.size w).alloc (Nat.le_refl _) (.cells #[.int .u8 (v0 / 256 % 256), .int .u8 (v0 % 256)] 5)
  have hl1 := hl.below bel
  go_enter Try.func53, Try.ntmps53
  go_wp2_with (go_at_call 59; refine (join_o A _ n c 2 2 l (two v0) _ hl1 hm hs).mono ?_; rintro e w1 ⟨v, rfl, hown, bel1⟩)
  go_ret
  exact ⟨v, rfl, ⟨hown.1, by rcases hown.2 with h | ⟨g, cap, cur, e, hb, h⟩; exact .inl h; exact .inr ⟨g, cap, cur, e, Nat.le_trans bel.size hb, h⟩⟩, bel.trans (bel1.mono bel.size)⟩

end Go.Proofs.Ytfmllopeeiecjaa
