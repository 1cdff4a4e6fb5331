/- The contract of ether's Put. -/
import Derived.Test.YtgaobeoddlmnjaaRdf
import Derived.Test.YtgaobeoddlmnjaaEth1
namespace Go.Proofs.Ytgaobeoddlmnjaa
open Go.RowKit

/-- Some cells of a block of any type read as bytes. -/
theorem sl_block {w : World} {k o n : Nat} {T : TypeId} {cur : Array Value} {l : List UInt8} (h : w.heap[k]? = some (.cells cur T (0, 0))) (hn : l.length = n) (hm : n ≤ 1000) (hc : ∀ (j : Nat) (b : UInt8), l[j]? = some b → cur[o + j]? = some (u8v b)) : Sl w (some ⟨k, o, none⟩) n n l :=
  ⟨hn, Nat.le_refl _, by unfold maxLen; omega, fun _ => ⟨k, o, rfl, fun j b hj => by simp [World.cell?, h, hc j b hj]⟩⟩
theorem sl_six {w : World} {k o : Nat} {T : TypeId} {cur : Array Value} (a0 a1 a2 a3 a4 a5 : UInt8) (h : w.heap[k]? = some (.cells cur T (0, 0))) (h0 : cur[o]? = some (u8v a0)) (h1 : cur[o + 1]? = some (u8v a1)) (h2 : cur[o + 2]? = some (u8v a2)) (h3 : cur[o + 3]? = some (u8v a3)) (h4 : cur[o + 4]? = some (u8v a4)) (h5 : cur[o + 5]? = some (u8v a5)) : Sl w (some ⟨k, o, none⟩) 6 6 [a0, a1, a2, a3, a4, a5] :=
  sl_block h rfl (by omega) (fun j b hj => by
    match j, hj with
    | 0, hj | 1, hj | 2, hj | 3, hj | 4, hj | 5, hj => simp at hj; subst hj; assumption
    | j + 6, hj => simp at hj)
theorem sl_four {w : World} {k o : Nat} {T : TypeId} {cur : Array Value} (a0 a1 a2 a3 : UInt8) (h : w.heap[k]? = some (.cells cur T (0, 0))) (h0 : cur[o]? = some (u8v a0)) (h1 : cur[o + 1]? = some (u8v a1)) (h2 : cur[o + 2]? = some (u8v a2)) (h3 : cur[o + 3]? = some (u8v a3)) : Sl w (some ⟨k, o, none⟩) 4 4 [a0, a1, a2, a3] :=
  sl_block h rfl (by omega) (fun j b hj => by
    match j, hj with
    | 0, hj | 1, hj | 2, hj | 3, hj => simp at hj; subst hj; assumption
    | j + 4, hj => simp at hj)

set_option maxHeartbeats 400000 in
theorem join_o (A B : Option Addr) (n c m d : Nat) (l t : List UInt8) (w : World) (hl : Sl w A n c l) (ht : Sl w B m d t) (hs : n + m ≤ 140737488355328) :
    Calls Try.prog 30 #[.slice A n c, .slice B m d] w fun e w' => ∃ v, e = .returned v ∧ w'.ownsRow w.heap.size 5 1 v (n + m) ((l ++ t).map u8v) ∧ Below w.heap.size w w' := by
  obtain ⟨i, hi, hz0, hz1, hz2⟩ := info_parts Try.info5
  have hb1 : (0 : Int) ≤ n := by omega
  have hb2 : (0 : Int) ≤ m := by omega
  have hb3 : (n : Int) + m ≤ 140737488355328 := by omega
  go_enter Try.func30, Try.ntmps30
  go_wp2_with (at_make; refine wpList_make_own _ rfl _ _ 25 rfl w.heap.size 5 i (.int .u8 0) 1 Try.underlying25 hi hz0 hz1 _ _ _ (n + m) rfl rfl ?b1 ?b2 ?b3 (Nat.le_refl _) ?_)
  case b1 => simp
  case b2 => rw [hz2]; omega
  case b3 => unfold maxLen; omega
  intro w1 hown hg1
  have bel1 : Below w.heap.size w w1 := (Below.refl _ _).grown hg1 (Nat.le_refl _) (fun k h => by cases h)
  have hsz : w.heap.size ≤ w1.heap.size := bel1.size
  go_wp2_with (at_builtin; refine wpList_append_bytes w1 rfl (.tmp 12) (.tmp 13) 25 rfl w.heap.size 5 i (.int .u8 0) Try.underlying25 hi hz0 hz1 hz2 rfl _ 0 [] rfl hown A n c l rfl (hl.below bel1) ?c1 ?c2 ?_)
  case c1 => omega
  case c2 => exact hsz
  intro v2 w2 hown2 hg2 hat2
  have bel2 : Below w.heap.size w w2 := bel1.grown hg2 hsz (fun k h => by simp [Value.ownBlock] at h; omega)
  have hv2 : ∀ k, v2.ownBlock = some k → w.heap.size ≤ k := by
    intro k hk
    rcases hat2 with h | h
    · rw [h] at hk; simp [Value.ownBlock] at hk; omega
    · rw [h] at hk; simp at hk; omega
  clear hat2
  go_wp2_with (at_builtin; refine wpList_append_bytes w2 rfl (.tmp 15) (.tmp 16) 25 rfl w.heap.size 5 i (.int .u8 0) Try.underlying25 hi hz0 hz1 hz2 rfl _ n l rfl hown2 B m d t rfl (ht.below bel2) ?c1 ?c2 ?_)
  case c1 => omega
  case c2 => exact bel2.size
  intro v3 w3 hown3 hg3 hat3
  have bel3 : Below w.heap.size w w3 := bel2.grown hg3 bel2.size hv2
  clear hat3 hv2
  rw [← List.map_append] at hown3
  go_wp2
  go_ret
  exact ⟨v3, rfl, hown3, bel3⟩

theorem w16_o (A : Option Addr) (n c : Nat) (l : List UInt8) (v0 : Int) (w : World) (hl : Sl w A n c l) (hs : n + 2 ≤ 140737488355328) :
    Calls Try.prog 25 #[.slice A n c, .int .i64 v0] w fun e w' => ∃ v, e = .returned v ∧ w'.ownsRow w.heap.size 5 1 v (n + 2) ((l ++ two v0).map u8v) ∧ Below w.heap.size w w' := by
  have hm := made2 v0 w
  have bel := (Below.refl w.heap.size w).alloc (Nat.le_refl _) (.cells #[.int .u8 (v0 / 256 % 256), .int .u8 (v0 % 256)] 5)
  have hl1 := hl.below bel
  go_enter Try.func25, Try.ntmps25
  go_wp2_with (go_at_call 30; refine (join_o A _ n c 2 2 l (two v0) _ hl1 hm hs).mono ?_; rintro e w1 ⟨v, rfl, hown, bel1⟩)
  go_ret
  exact ⟨v, rfl, ⟨hown.1, by rcases hown.2 with h | ⟨g, cap, cur, e, hb, h⟩; exact .inl h; exact .inr ⟨g, cap, cur, e, Nat.le_trans bel.size hb, h⟩⟩, bel.trans (bel1.mono bel.size)⟩

set_option maxRecDepth 100000 in
theorem eput_long (a0 a1 a2 a3 a4 a5 b0 b1 b2 b3 b4 b5 : UInt8) (t : Int) (S : Option Addr) (n c : Nat) (w : World) (h : 1500 < n) : Calls Try.prog 10 #[.agg #[.int .u8 (a0.toNat : Int), .int .u8 (a1.toNat : Int), .int .u8 (a2.toNat : Int), .int .u8 (a3.toNat : Int), .int .u8 (a4.toNat : Int), .int .u8 (a5.toNat : Int), .int .u8 (b0.toNat : Int), .int .u8 (b1.toNat : Int), .int .u8 (b2.toNat : Int), .int .u8 (b3.toNat : Int), .int .u8 (b4.toNat : Int), .int .u8 (b5.toNat : Int), .int .i64 t, .slice S n c]] w fun e w' => e = .returned (.tuple #[.slice none 0 0, .int .i64 2]) ∧ Below w.heap.size w w' := by
  have hp := heap_alloc_new w (.cells #[.int .u8 (a0.toNat : Int), .int .u8 (a1.toNat : Int), .int .u8 (a2.toNat : Int), .int .u8 (a3.toNat : Int), .int .u8 (a4.toNat : Int), .int .u8 (a5.toNat : Int), .int .u8 (b0.toNat : Int), .int .u8 (b1.toNat : Int), .int .u8 (b2.toNat : Int), .int .u8 (b3.toNat : Int), .int .u8 (b4.toNat : Int), .int .u8 (b5.toNat : Int), .int .i64 t, .slice S n c] 27)
  have bel := (Below.refl w.heap.size w).alloc (Nat.le_refl _) (.cells #[.int .u8 (a0.toNat : Int), .int .u8 (a1.toNat : Int), .int .u8 (a2.toNat : Int), .int .u8 (a3.toNat : Int), .int .u8 (a4.toNat : Int), .int .u8 (a5.toNat : Int), .int .u8 (b0.toNat : Int), .int .u8 (b1.toNat : Int), .int .u8 (b2.toNat : Int), .int .u8 (b3.toNat : Int), .int .u8 (b4.toNat : Int), .int .u8 (b5.toNat : Int), .int .i64 t, .slice S n c] 27)
  have t1 : (1500 : Int) < n := by omega
  clear h
  obtain ⟨⟨k0, k1, k2, k3, k4, k5, k6, k7, k8, k9, k10, k11, k12, k13⟩, _⟩ := cells14 hp
  clear hp
  go_enter Try.func10, Try.ntmps10
  go_wp2
  exact bodyPost_ret (v := .tuple #[.slice none 0 0, .int .i64 2]) (by simp [results, Try.results10, go_sem]) rfl ⟨rfl, bel⟩

set_option maxRecDepth 100000 in
theorem eput_neg (a0 a1 a2 a3 a4 a5 b0 b1 b2 b3 b4 b5 : UInt8) (t : Int) (S : Option Addr) (n c : Nat) (w : World) (h : n ≤ 1500) (ht : t < 0) : Calls Try.prog 10 #[.agg #[.int .u8 (a0.toNat : Int), .int .u8 (a1.toNat : Int), .int .u8 (a2.toNat : Int), .int .u8 (a3.toNat : Int), .int .u8 (a4.toNat : Int), .int .u8 (a5.toNat : Int), .int .u8 (b0.toNat : Int), .int .u8 (b1.toNat : Int), .int .u8 (b2.toNat : Int), .int .u8 (b3.toNat : Int), .int .u8 (b4.toNat : Int), .int .u8 (b5.toNat : Int), .int .i64 t, .slice S n c]] w fun e w' => e = .returned (.tuple #[.slice none 0 0, .int .i64 1]) ∧ Below w.heap.size w w' := by
  have hp := heap_alloc_new w (.cells #[.int .u8 (a0.toNat : Int), .int .u8 (a1.toNat : Int), .int .u8 (a2.toNat : Int), .int .u8 (a3.toNat : Int), .int .u8 (a4.toNat : Int), .int .u8 (a5.toNat : Int), .int .u8 (b0.toNat : Int), .int .u8 (b1.toNat : Int), .int .u8 (b2.toNat : Int), .int .u8 (b3.toNat : Int), .int .u8 (b4.toNat : Int), .int .u8 (b5.toNat : Int), .int .i64 t, .slice S n c] 27)
  have bel := (Below.refl w.heap.size w).alloc (Nat.le_refl _) (.cells #[.int .u8 (a0.toNat : Int), .int .u8 (a1.toNat : Int), .int .u8 (a2.toNat : Int), .int .u8 (a3.toNat : Int), .int .u8 (a4.toNat : Int), .int .u8 (a5.toNat : Int), .int .u8 (b0.toNat : Int), .int .u8 (b1.toNat : Int), .int .u8 (b2.toNat : Int), .int .u8 (b3.toNat : Int), .int .u8 (b4.toNat : Int), .int .u8 (b5.toNat : Int), .int .i64 t, .slice S n c] 27)
  have t1 : decide ((1500 : Int) < n) = false := decide_eq_false (by omega)
  clear h
  obtain ⟨⟨k0, k1, k2, k3, k4, k5, k6, k7, k8, k9, k10, k11, k12, k13⟩, _⟩ := cells14 hp
  clear hp
  go_enter Try.func10, Try.ntmps10
  go_wp2
  exact bodyPost_ret (v := .tuple #[.slice none 0 0, .int .i64 1]) (by simp [results, Try.results10, go_sem]) rfl ⟨rfl, bel⟩

set_option maxRecDepth 100000 in
theorem eput_big (a0 a1 a2 a3 a4 a5 b0 b1 b2 b3 b4 b5 : UInt8) (t : Int) (S : Option Addr) (n c : Nat) (w : World) (h : n ≤ 1500) (ht : 65535 < t) : Calls Try.prog 10 #[.agg #[.int .u8 (a0.toNat : Int), .int .u8 (a1.toNat : Int), .int .u8 (a2.toNat : Int), .int .u8 (a3.toNat : Int), .int .u8 (a4.toNat : Int), .int .u8 (a5.toNat : Int), .int .u8 (b0.toNat : Int), .int .u8 (b1.toNat : Int), .int .u8 (b2.toNat : Int), .int .u8 (b3.toNat : Int), .int .u8 (b4.toNat : Int), .int .u8 (b5.toNat : Int), .int .i64 t, .slice S n c]] w fun e w' => e = .returned (.tuple #[.slice none 0 0, .int .i64 1]) ∧ Below w.heap.size w w' := by
  have hp := heap_alloc_new w (.cells #[.int .u8 (a0.toNat : Int), .int .u8 (a1.toNat : Int), .int .u8 (a2.toNat : Int), .int .u8 (a3.toNat : Int), .int .u8 (a4.toNat : Int), .int .u8 (a5.toNat : Int), .int .u8 (b0.toNat : Int), .int .u8 (b1.toNat : Int), .int .u8 (b2.toNat : Int), .int .u8 (b3.toNat : Int), .int .u8 (b4.toNat : Int), .int .u8 (b5.toNat : Int), .int .i64 t, .slice S n c] 27)
  have bel := (Below.refl w.heap.size w).alloc (Nat.le_refl _) (.cells #[.int .u8 (a0.toNat : Int), .int .u8 (a1.toNat : Int), .int .u8 (a2.toNat : Int), .int .u8 (a3.toNat : Int), .int .u8 (a4.toNat : Int), .int .u8 (a5.toNat : Int), .int .u8 (b0.toNat : Int), .int .u8 (b1.toNat : Int), .int .u8 (b2.toNat : Int), .int .u8 (b3.toNat : Int), .int .u8 (b4.toNat : Int), .int .u8 (b5.toNat : Int), .int .i64 t, .slice S n c] 27)
  have t1 : decide ((1500 : Int) < n) = false := decide_eq_false (by omega)
  have t2 : decide (t < 0) = false := decide_eq_false (by omega)
  clear h
  obtain ⟨⟨k0, k1, k2, k3, k4, k5, k6, k7, k8, k9, k10, k11, k12, k13⟩, _⟩ := cells14 hp
  clear hp
  go_enter Try.func10, Try.ntmps10
  go_wp2
  exact bodyPost_ret (v := .tuple #[.slice none 0 0, .int .i64 1]) (by simp [results, Try.results10, go_sem]) rfl ⟨rfl, bel⟩

set_option maxRecDepth 100000 in
set_option maxHeartbeats 4000000 in
theorem eput_ok (a0 a1 a2 a3 a4 a5 b0 b1 b2 b3 b4 b5 : UInt8) (t : Int) (S : Option Addr) (n c : Nat) (l : List UInt8) (w : World) (hl : Sl w S n c l) (h : n ≤ 1500) (ht0 : 0 ≤ t) (ht1 : t ≤ 65535) :
    Calls Try.prog 10 #[.agg #[.int .u8 (a0.toNat : Int), .int .u8 (a1.toNat : Int), .int .u8 (a2.toNat : Int), .int .u8 (a3.toNat : Int), .int .u8 (a4.toNat : Int), .int .u8 (a5.toNat : Int), .int .u8 (b0.toNat : Int), .int .u8 (b1.toNat : Int), .int .u8 (b2.toNat : Int), .int .u8 (b3.toNat : Int), .int .u8 (b4.toNat : Int), .int .u8 (b5.toNat : Int), .int .i64 t, .slice S n c]] w fun e w' => ∃ A' c', e = .returned (.tuple #[.slice A' (14 + n) c', .int .i64 0]) ∧ Sl w' A' (14 + n) c' ([a0, a1, a2, a3, a4, a5] ++ ([b0, b1, b2, b3, b4, b5] ++ (two t ++ l))) ∧ Below w.heap.size w w' := by
  obtain ⟨ii, hii, hz0, hz1, hz2⟩ := info_parts Try.info5
  have t1 : decide ((1500 : Int) < n) = false := decide_eq_false (by omega)
  have t2 : decide (t < 0) = false := decide_eq_false (by omega)
  have t3 : decide (65535 < t) = false := decide_eq_false (by omega)
  have HN := Lib.hid h
  clear h ht0 ht1
  have hp := heap_alloc_new w (.cells #[.int .u8 (a0.toNat : Int), .int .u8 (a1.toNat : Int), .int .u8 (a2.toNat : Int), .int .u8 (a3.toNat : Int), .int .u8 (a4.toNat : Int), .int .u8 (a5.toNat : Int), .int .u8 (b0.toNat : Int), .int .u8 (b1.toNat : Int), .int .u8 (b2.toNat : Int), .int .u8 (b3.toNat : Int), .int .u8 (b4.toNat : Int), .int .u8 (b5.toNat : Int), .int .i64 t, .slice S n c] 27)
  have bel := (Below.refl w.heap.size w).alloc (Nat.le_refl _) (.cells #[.int .u8 (a0.toNat : Int), .int .u8 (a1.toNat : Int), .int .u8 (a2.toNat : Int), .int .u8 (a3.toNat : Int), .int .u8 (a4.toNat : Int), .int .u8 (a5.toNat : Int), .int .u8 (b0.toNat : Int), .int .u8 (b1.toNat : Int), .int .u8 (b2.toNat : Int), .int .u8 (b3.toNat : Int), .int .u8 (b4.toNat : Int), .int .u8 (b5.toNat : Int), .int .i64 t, .slice S n c] 27)
  have zp : w.heap.size < (w.alloc (.cells #[.int .u8 (a0.toNat : Int), .int .u8 (a1.toNat : Int), .int .u8 (a2.toNat : Int), .int .u8 (a3.toNat : Int), .int .u8 (a4.toNat : Int), .int .u8 (a5.toNat : Int), .int .u8 (b0.toNat : Int), .int .u8 (b1.toNat : Int), .int .u8 (b2.toNat : Int), .int .u8 (b3.toNat : Int), .int .u8 (b4.toNat : Int), .int .u8 (b5.toNat : Int), .int .i64 t, .slice S n c] 27)).heap.size := by simp
  have hl1 := hl.below bel
  obtain ⟨⟨k0, k1, k2, k3, k4, k5, k6, k7, k8, k9, k10, k11, k12, k13⟩, _⟩ := cells14 hp
  go_enter Try.func10, Try.ntmps10
  have hp2 := (Go.heap_alloc_old (w.alloc (.cells #[.int .u8 (a0.toNat : Int), .int .u8 (a1.toNat : Int), .int .u8 (a2.toNat : Int), .int .u8 (a3.toNat : Int), .int .u8 (a4.toNat : Int), .int .u8 (a5.toNat : Int), .int .u8 (b0.toNat : Int), .int .u8 (b1.toNat : Int), .int .u8 (b2.toNat : Int), .int .u8 (b3.toNat : Int), .int .u8 (b4.toNat : Int), .int .u8 (b5.toNat : Int), .int .i64 t, .slice S n c] 27)) (.cells #[] 5) (r := w.heap.size) zp).trans hp
  have hown := own_empty (w.alloc (.cells #[.int .u8 (a0.toNat : Int), .int .u8 (a1.toNat : Int), .int .u8 (a2.toNat : Int), .int .u8 (a3.toNat : Int), .int .u8 (a4.toNat : Int), .int .u8 (a5.toNat : Int), .int .u8 (b0.toNat : Int), .int .u8 (b1.toNat : Int), .int .u8 (b2.toNat : Int), .int .u8 (b3.toNat : Int), .int .u8 (b4.toNat : Int), .int .u8 (b5.toNat : Int), .int .i64 t, .slice S n c] 27))
  rw [show (w.alloc (.cells #[.int .u8 (a0.toNat : Int), .int .u8 (a1.toNat : Int), .int .u8 (a2.toNat : Int), .int .u8 (a3.toNat : Int), .int .u8 (a4.toNat : Int), .int .u8 (a5.toNat : Int), .int .u8 (b0.toNat : Int), .int .u8 (b1.toNat : Int), .int .u8 (b2.toNat : Int), .int .u8 (b3.toNat : Int), .int .u8 (b4.toNat : Int), .int .u8 (b5.toNat : Int), .int .i64 t, .slice S n c] 27)).heap.size = w.heap.size + 1 by simp] at hown
  have bel2 := bel.alloc bel.size (.cells #[] 5)
  have hl2 := hl.below bel2
  have hA := sl_six (o := 0) a0 a1 a2 a3 a4 a5 hp2 rfl rfl rfl rfl rfl rfl
  have zp2 : w.heap.size < ((w.alloc (.cells #[.int .u8 (a0.toNat : Int), .int .u8 (a1.toNat : Int), .int .u8 (a2.toNat : Int), .int .u8 (a3.toNat : Int), .int .u8 (a4.toNat : Int), .int .u8 (a5.toNat : Int), .int .u8 (b0.toNat : Int), .int .u8 (b1.toNat : Int), .int .u8 (b2.toNat : Int), .int .u8 (b3.toNat : Int), .int .u8 (b4.toNat : Int), .int .u8 (b5.toNat : Int), .int .i64 t, .slice S n c] 27)).alloc (.cells #[] 5)).heap.size := by simp; omega
  have HP2 := Lib.hid hp2
  clear hp2 hp
  go_wp2_with (at_builtin; refine wpList_append_bytes _ rfl (.tmp 17) (.tmp 19) 25 rfl (w.heap.size + 1) 5 ii (.int .u8 0) Try.underlying25 hii hz0 hz1 hz2 rfl _ 0 [] rfl hown _ 6 6 [a0, a1, a2, a3, a4, a5] rfl hA ?c1 ?c2 ?_)
  case c1 => omega
  case c2 => simp
  intro v2 w2 hown2 hg2 hat2
  have zb : w.heap.size + 1 ≤ ((w.alloc (.cells #[.int .u8 (a0.toNat : Int), .int .u8 (a1.toNat : Int), .int .u8 (a2.toNat : Int), .int .u8 (a3.toNat : Int), .int .u8 (a4.toNat : Int), .int .u8 (a5.toNat : Int), .int .u8 (b0.toNat : Int), .int .u8 (b1.toNat : Int), .int .u8 (b2.toNat : Int), .int .u8 (b3.toNat : Int), .int .u8 (b4.toNat : Int), .int .u8 (b5.toNat : Int), .int .i64 t, .slice S n c] 27)).alloc (.cells #[] 5)).heap.size := by simp
  have g2 := (World.grownBy.refl (w.alloc (.cells #[.int .u8 (a0.toNat : Int), .int .u8 (a1.toNat : Int), .int .u8 (a2.toNat : Int), .int .u8 (a3.toNat : Int), .int .u8 (a4.toNat : Int), .int .u8 (a5.toNat : Int), .int .u8 (b0.toNat : Int), .int .u8 (b1.toNat : Int), .int .u8 (b2.toNat : Int), .int .u8 (b3.toNat : Int), .int .u8 (b4.toNat : Int), .int .u8 (b5.toNat : Int), .int .i64 t, .slice S n c] 27)) none)
  obtain ⟨bel3, hsz3, hv2⟩ := own_grown (B := w.heap.size) bel2 bel2.size (fun k h => by simp [Value.ownBlock] at h; omega) hg2 (by simpa using hat2)
  have HP3 := Lib.hid ((hg2.block w.heap.size zp2 (by simp [Value.ownBlock])).trans HP2.out)
  have zp3 := Nat.lt_of_lt_of_le zp2 hg2.size
  have hv2' : ∀ k, v2.ownBlock = some k → w.heap.size + 1 ≤ k := by
    intro k hk
    rcases hat2 with h | h
    · rw [h] at hk; simp [Value.ownBlock] at hk; omega
    · rw [h] at hk; simp at hk; omega
  have hB := sl_six (o := 6) b0 b1 b2 b3 b4 b5 HP3.out rfl rfl rfl rfl rfl rfl
  have hsz3' : w.heap.size + 1 ≤ w2.heap.size := by omega
  clear hat2 hg2 hown hA hv2 HP2 zp2 zb g2 bel2 hl2 k0 k1 k2 k3 k4 k5 k6 k7 k8 k9 k10 k11 k12 k13
  go_wp2_with (at_builtin; refine wpList_append_bytes _ rfl (.tmp 21) (.tmp 23) 25 rfl (w.heap.size + 1) 5 ii (.int .u8 0) Try.underlying25 hii hz0 hz1 hz2 rfl _ 6 [a0, a1, a2, a3, a4, a5] rfl hown2 _ 6 6 [b0, b1, b2, b3, b4, b5] rfl hB ?c1 ?c2 ?_)
  case c1 => omega
  case c2 => omega
  intro v3 w3 hown3 hg3 hat3
  obtain ⟨bel4, hsz4, _⟩ := own_grown bel3 hsz3 (fun k h => by have := hv2' k h; omega) hg3 (by simpa using hat3)
  have HP4 := Lib.hid ((hg3.block w.heap.size zp3 (by intro e; have := hv2' _ e.symm; omega)).trans HP3.out)
  have zp4 := Nat.lt_of_lt_of_le zp3 hg3.size
  replace hown3 : w3.ownsRow (w.heap.size + 1) 5 1 v3 12 (([a0, a1, a2, a3, a4, a5] ++ [b0, b1, b2, b3, b4, b5]).map u8v) := by rw [List.map_append]; exact hown3
  obtain ⟨A3, c3, rfl, hs3⟩ := Sl.of_own hown3
  clear hat3 hg3 hown3 hown2 hB HP3 zp3 hv2' hsz3' bel3 hsz3
  obtain ⟨⟨k0, k1, k2, k3, k4, k5, k6, k7, k8, k9, k10, k11, k12, k13⟩, _⟩ := cells14 HP4.out
  go_wp2_with fail
  with_reducible refine (w16_o A3 12 c3 ([a0, a1, a2, a3, a4, a5] ++ [b0, b1, b2, b3, b4, b5]) t w3 hs3 (by omega)).mono ?_
  rintro e w5 ⟨v5, rfl, hown5, bz⟩
  have HP5 := Lib.hid ((bz.block _ zp4).trans HP4.out)
  have bel5 := bel4.trans (bz.mono bel4.size)
  have hl5 := hl.below bel5
  have hsz5 := bz.size
  replace hown5 : w5.ownsRow w3.heap.size 5 1 v5 14 (([a0, a1, a2, a3, a4, a5] ++ [b0, b1, b2, b3, b4, b5] ++ two t).map u8v) := hown5
  clear HP4 zp4 hs3 bz k0 k1 k2 k3 k4 k5 k6 k7 k8 k9 k10 k11 k12 k13
  obtain ⟨⟨k0, k1, k2, k3, k4, k5, k6, k7, k8, k9, k10, k11, k12, k13⟩, _⟩ := cells14 HP5.out
  go_wp2_with (at_builtin; refine wpList_append_bytes _ rfl (.tmp 29) (.tmp 31) 25 rfl w3.heap.size 5 ii (.int .u8 0) Try.underlying25 hii hz0 hz1 hz2 rfl _ 14 ([a0, a1, a2, a3, a4, a5] ++ [b0, b1, b2, b3, b4, b5] ++ two t) rfl hown5 S n c l rfl hl5 ?c1 ?c2 ?_)
  case c1 => have := HN.out; omega
  case c2 => exact hsz5
  intro v6 w6 hown6 hg6 hat6
  obtain ⟨bel6, _, _⟩ := own_grown bel5 (Nat.le_trans hsz4 hsz5) (fun k h => Nat.le_trans hsz4 (hown5.lt k h).1) hg6 (by simpa using hat6)
  replace hown6 : w6.ownsRow w3.heap.size 5 1 v6 (14 + n) (([a0, a1, a2, a3, a4, a5] ++ [b0, b1, b2, b3, b4, b5] ++ two t ++ l).map u8v) := by rw [List.map_append]; exact hown6
  obtain ⟨A6, c6, rfl, hs6⟩ := Sl.of_own hown6
  clear hat6 hg6 hown6 hown5
  go_wp2
  rw [List.append_assoc, List.append_assoc] at hs6
  exact bodyPost_ret (v := .tuple #[.slice A6 (14 + n) c6, .int .i64 0]) (by simp [results, Try.results10, go_sem]) rfl ⟨A6, c6, rfl, hs6, bel6⟩
end Go.Proofs.Ytgaobeoddlmnjaa
