/- Texts put together: Ipe, Ipf, Ud1. -/
import Derived.Test.YtbdaejodbcjmfaaGreatQ1
import Derived.Test.YtbdaejodbcjmfaaGreatQ8
import Derived.Deep.RegionHeld3
namespace Go.Proofs.YtbdaejodbcjmfaaGreat
open Go.RowKit

theorem w32_o (A : Option Addr) (n c : Nat) (l : List UInt8) (v0 : Int) (w : World) (h0 : 0 ≤ v0) (h1 : v0 < 4294967296) (hl : Sl w A n c l) (hs : n + 4 ≤ 140737488355328) :
    Calls Tryz.prog 78 #[.slice A n c, .int .u32 v0] w fun e w' => ∃ v, e = .returned v ∧ w'.ownsRow w.heap.size 5 1 v (n + 4) ((l ++ four v0).map u8v) ∧ Below w.heap.size w w' := by
  have hm := made4 v0 w h0 h1
  have bel := (Below.refl w.heap.size w).alloc (Nat.le_refl _) (.cells #[.int .u8 (v0 / 16777216), .int .u8 (v0 / 65536 % 256), .int .u8 (v0 / 256 % 256), .int .u8 (v0 % 256)] 5)
  have hl1 := hl.below bel
  go_enter Tryz.func78, Tryz.ntmps78
  go_wp2_with (go_at_call 81; refine (join_o A _ n c 4 4 l (four v0) _ hl1 hm hs).mono ?_; rintro e w1 ⟨v, rfl, hown, bel1⟩)
  go_ret
  exact ⟨v, rfl, ownsRow_mono hown bel.size, bel.trans (bel1.mono bel.size)⟩
theorem four_be (p0 p1 p2 p3 : UInt8) : four (be [p0, p1, p2, p3] : Nat) = [p0, p1, p2, p3] := by
  obtain ⟨e0, e1, e2, e3⟩ := four_of p0 p1 p2 p3
  unfold four
  have b : ∀ (x : Int) (p : UInt8), x % 256 = (p.toNat : Int) → byteOf x = p := by
    intro x p h
    have := byteOf_val x
    rw [h] at this
    exact UInt8.toNat_inj.1 (by omega)
  rw [b _ p0 (by have := p0.toNat_lt; omega), b _ p1 e1, b _ p2 e2, b _ p3 e3]
theorem u32_first (p0 p1 p2 p3 : UInt8) (w : World) : Calls Tryz.prog 78 #[.slice none 0 0, .int .u32 (be [p0, p1, p2, p3] : Nat)] w fun e w' => ∃ A c, e = .returned (.slice A 4 c) ∧ Sl w' A 4 c [p0, p1, p2, p3] ∧ Below w.heap.size w w' := by
  have hb := be_lt 4 [p0, p1, p2, p3] rfl
  have h := w32_any none 0 0 [] (be [p0, p1, p2, p3] : Nat) w (by omega) (by omega) (Sl.nil w) (by omega)
  rw [four_be] at h
  exact h
theorem u32_then (A : Option Addr) (c : Nat) (l : List UInt8) (p0 p1 p2 p3 : UInt8) (w : World) (hl : Sl w A 4 c l) : Calls Tryz.prog 78 #[.slice A 4 c, .int .u32 (be [p0, p1, p2, p3] : Nat)] w fun e w' => ∃ v, e = .returned v ∧ w'.ownsRow w.heap.size 5 1 v 8 ((l ++ [p0, p1, p2, p3]).map u8v) ∧ Below w.heap.size w w' := by
  have hb := be_lt 4 [p0, p1, p2, p3] rfl
  have h := w32_o A 4 c l (be [p0, p1, p2, p3] : Nat) w (by omega) (by omega) hl (by omega)
  rw [four_be] at h
  exact h
set_option maxRecDepth 100000 in
set_option maxHeartbeats 16000000 in
theorem ends_o (tos id fl pt ttl pr : Int) (a0 a1 a2 a3 a4 a5 a6 a7 : UInt8) (So Sb : Option Addr) (no co nb cb : Nat) (w : World) : Calls Tryz.prog 86 #[.agg #[.int .i64 tos, .int .i64 id, .int .i64 fl, .int .i64 pt, .int .i64 ttl, .int .i64 pr, .int .u8 (a0.toNat : Int), .int .u8 (a1.toNat : Int), .int .u8 (a2.toNat : Int), .int .u8 (a3.toNat : Int), .int .u8 (a4.toNat : Int), .int .u8 (a5.toNat : Int), .int .u8 (a6.toNat : Int), .int .u8 (a7.toNat : Int), .slice So no co, .slice Sb nb cb]] w fun e w' => ∃ v, e = .returned v ∧ w'.ownsRow w.heap.size 5 1 v 8 ([a0, a1, a2, a3, a4, a5, a6, a7].map u8v) ∧ Below w.heap.size w w' := by
  have bel := Below.refl w.heap.size w
  have hp : (w.alloc (.cells #[.int .i64 tos, .int .i64 id, .int .i64 fl, .int .i64 pt, .int .i64 ttl, .int .i64 pr, .int .u8 (a0.toNat : Int), .int .u8 (a1.toNat : Int), .int .u8 (a2.toNat : Int), .int .u8 (a3.toNat : Int), .int .u8 (a4.toNat : Int), .int .u8 (a5.toNat : Int), .int .u8 (a6.toNat : Int), .int .u8 (a7.toNat : Int), .slice So no co, .slice Sb nb cb] 38)).heap[w.heap.size]? = some (.cells #[.int .i64 tos, .int .i64 id, .int .i64 fl, .int .i64 pt, .int .i64 ttl, .int .i64 pr, .int .u8 (a0.toNat : Int), .int .u8 (a1.toNat : Int), .int .u8 (a2.toNat : Int), .int .u8 (a3.toNat : Int), .int .u8 (a4.toNat : Int), .int .u8 (a5.toNat : Int), .int .u8 (a6.toNat : Int), .int .u8 (a7.toNat : Int), .slice So no co, .slice Sb nb cb] 38 (0, 0)) := by have := heap_alloc_new w (.cells #[.int .i64 tos, .int .i64 id, .int .i64 fl, .int .i64 pt, .int .i64 ttl, .int .i64 pr, .int .u8 (a0.toNat : Int), .int .u8 (a1.toNat : Int), .int .u8 (a2.toNat : Int), .int .u8 (a3.toNat : Int), .int .u8 (a4.toNat : Int), .int .u8 (a5.toNat : Int), .int .u8 (a6.toNat : Int), .int .u8 (a7.toNat : Int), .slice So no co, .slice Sb nb cb] 38); simpa using this
  have zp : w.heap.size < (w.alloc (.cells #[.int .i64 tos, .int .i64 id, .int .i64 fl, .int .i64 pt, .int .i64 ttl, .int .i64 pr, .int .u8 (a0.toNat : Int), .int .u8 (a1.toNat : Int), .int .u8 (a2.toNat : Int), .int .u8 (a3.toNat : Int), .int .u8 (a4.toNat : Int), .int .u8 (a5.toNat : Int), .int .u8 (a6.toNat : Int), .int .u8 (a7.toNat : Int), .slice So no co, .slice Sb nb cb] 38)).heap.size := by simp
  replace bel := bel.alloc bel.size (.cells #[.int .i64 tos, .int .i64 id, .int .i64 fl, .int .i64 pt, .int .i64 ttl, .int .i64 pr, .int .u8 (a0.toNat : Int), .int .u8 (a1.toNat : Int), .int .u8 (a2.toNat : Int), .int .u8 (a3.toNat : Int), .int .u8 (a4.toNat : Int), .int .u8 (a5.toNat : Int), .int .u8 (a6.toNat : Int), .int .u8 (a7.toNat : Int), .slice So no co, .slice Sb nb cb] 38)
  go_enter Tryz.func86, Tryz.ntmps86
  go_wp2_with fail
  replace bel := bel.drew
  replace hp : (w.alloc (.cells #[.int .i64 tos, .int .i64 id, .int .i64 fl, .int .i64 pt, .int .i64 ttl, .int .i64 pr, .int .u8 (a0.toNat : Int), .int .u8 (a1.toNat : Int), .int .u8 (a2.toNat : Int), .int .u8 (a3.toNat : Int), .int .u8 (a4.toNat : Int), .int .u8 (a5.toNat : Int), .int .u8 (a6.toNat : Int), .int .u8 (a7.toNat : Int), .slice So no co, .slice Sb nb cb] 38)).drew.heap[w.heap.size]? = some (.cells #[.int .i64 tos, .int .i64 id, .int .i64 fl, .int .i64 pt, .int .i64 ttl, .int .i64 pr, .int .u8 (a0.toNat : Int), .int .u8 (a1.toNat : Int), .int .u8 (a2.toNat : Int), .int .u8 (a3.toNat : Int), .int .u8 (a4.toNat : Int), .int .u8 (a5.toNat : Int), .int .u8 (a6.toNat : Int), .int .u8 (a7.toNat : Int), .slice So no co, .slice Sb nb cb] 38 (0, 0)) := hp
  replace zp : w.heap.size < (w.alloc (.cells #[.int .i64 tos, .int .i64 id, .int .i64 fl, .int .i64 pt, .int .i64 ttl, .int .i64 pr, .int .u8 (a0.toNat : Int), .int .u8 (a1.toNat : Int), .int .u8 (a2.toNat : Int), .int .u8 (a3.toNat : Int), .int .u8 (a4.toNat : Int), .int .u8 (a5.toNat : Int), .int .u8 (a6.toNat : Int), .int .u8 (a7.toNat : Int), .slice So no co, .slice Sb nb cb] 38)).drew.heap.size := zp
  refine wp_region_held_drew (S := fun W => W.heap[w.heap.size]? = some (.cells #[.int .i64 tos, .int .i64 id, .int .i64 fl, .int .i64 pt, .int .i64 ttl, .int .i64 pr, .int .u8 (a0.toNat : Int), .int .u8 (a1.toNat : Int), .int .u8 (a2.toNat : Int), .int .u8 (a3.toNat : Int), .int .u8 (a4.toNat : Int), .int .u8 (a5.toNat : Int), .int .u8 (a6.toNat : Int), .int .u8 (a7.toNat : Int), .slice So no co, .slice Sb nb cb] 38 (0, 0))) (by kernel_rfl) hp (fun hH => ?_)
  generalize (w.alloc (.cells #[.int .i64 tos, .int .i64 id, .int .i64 fl, .int .i64 pt, .int .i64 ttl, .int .i64 pr, .int .u8 (a0.toNat : Int), .int .u8 (a1.toNat : Int), .int .u8 (a2.toNat : Int), .int .u8 (a3.toNat : Int), .int .u8 (a4.toNat : Int), .int .u8 (a5.toNat : Int), .int .u8 (a6.toNat : Int), .int .u8 (a7.toNat : Int), .slice So no co, .slice Sb nb cb] 38)).drew = vd at bel hp zp hH ⊢
  refine wpAnyH_take (i := 0) (v := ?_) rfl (by kernel_rfl) (by kernel_rfl) (by kernel_rfl) (fun _ _ _ h => h) (Or.inl ⟨by rfl, ?_⟩) hH ?_
  rotate_left
  · ((intro W hW; clear hW; go_simp) <;> with_reducible rfl)
  simp only [Act.put, List.getElem_toArray, List.getElem_cons_zero, List.setIfInBounds_toArray, List.set_cons_zero, List.set_cons_succ]
  refine wpAnyH_take (i := 1) (v := .agg #[.int .u8 (a0.toNat : Int), .int .u8 (a1.toNat : Int), .int .u8 (a2.toNat : Int), .int .u8 (a3.toNat : Int)]) rfl (by kernel_rfl) (by kernel_rfl) (by kernel_rfl) (fun _ _ _ h => h) (yieldsIf_load_part (by kernel_rfl) 35 _ rfl (w.heap.size) 6 4 rfl [.int .i64 tos, .int .i64 id, .int .i64 fl, .int .i64 pt, .int .i64 ttl, .int .i64 pr, .int .u8 (a0.toNat : Int), .int .u8 (a1.toNat : Int), .int .u8 (a2.toNat : Int), .int .u8 (a3.toNat : Int), .int .u8 (a4.toNat : Int), .int .u8 (a5.toNat : Int), .int .u8 (a6.toNat : Int), .int .u8 (a7.toNat : Int), .slice So no co, .slice Sb nb cb] 38 (0, 0) (fun W hW => hW) [.int .u8 (a0.toNat : Int), .int .u8 (a1.toNat : Int), .int .u8 (a2.toNat : Int), .int .u8 (a3.toNat : Int)] rfl _ Tryz.underlying35 rfl (by kernel_rfl)) hH ?_
  simp only [sq3, sq4]
  refine wpAnyH_take (i := 4) (v := ?_) rfl (by kernel_rfl) (by kernel_rfl) (by kernel_rfl) (fun _ _ _ h => h) (Or.inl ⟨by rfl, ?_⟩) hH ?_
  rotate_left
  · ((intro W hW; clear hW; go_simp) <;> with_reducible rfl)
  simp only [sq3, sq4]
  refine wpAnyH_take (i := 5) (v := .agg #[.int .u8 (a4.toNat : Int), .int .u8 (a5.toNat : Int), .int .u8 (a6.toNat : Int), .int .u8 (a7.toNat : Int)]) rfl (by kernel_rfl) (by kernel_rfl) (by kernel_rfl) (fun _ _ _ h => h) (yieldsIf_load_part (by kernel_rfl) 35 _ rfl (w.heap.size) 10 4 rfl [.int .i64 tos, .int .i64 id, .int .i64 fl, .int .i64 pt, .int .i64 ttl, .int .i64 pr, .int .u8 (a0.toNat : Int), .int .u8 (a1.toNat : Int), .int .u8 (a2.toNat : Int), .int .u8 (a3.toNat : Int), .int .u8 (a4.toNat : Int), .int .u8 (a5.toNat : Int), .int .u8 (a6.toNat : Int), .int .u8 (a7.toNat : Int), .slice So no co, .slice Sb nb cb] 38 (0, 0) (fun W hW => hW) [.int .u8 (a4.toNat : Int), .int .u8 (a5.toNat : Int), .int .u8 (a6.toNat : Int), .int .u8 (a7.toNat : Int)] rfl _ Tryz.underlying35 rfl (by kernel_rfl)) hH ?_
  simp only [sq3, sq4]
  refine wpAnyH_ready (rs := [2]) (by kernel_rfl) (by simp) ?_
  refine AllReadyH.cons (o := _) rfl (fun K hK => ?_) AllReadyH.nil
  simp only [sq3]
  go_simp
  with_reducible refine (anum_any a0 a1 a2 a3 _).mono ?_
  rintro e v11 ⟨rfl, b11⟩
  dsimp only
  replace bel := bel.trans (b11.mono bel.size)
  replace hp := (b11.block _ zp).trans hp
  replace zp := Nat.lt_of_lt_of_le zp b11.size
  refine hK.out _ _ hp (fun hH11 => ?_)
  clear hK K
  refine wpAnyH_ready (rs := [3]) (by kernel_rfl) (by simp) ?_
  refine AllReadyH.cons (o := _) rfl (fun K hK => ?_) AllReadyH.nil
  simp only [sq3]
  go_simp
  with_reducible refine (u32_first a0 a1 a2 a3 _).mono ?_
  rintro e v12 ⟨A1, c1, rfl, hs1, b12⟩
  dsimp only
  replace bel := bel.trans (b12.mono bel.size)
  replace hp := (b12.block _ zp).trans hp
  replace zp := Nat.lt_of_lt_of_le zp b12.size
  refine hK.out _ _ hp (fun hH12 => ?_)
  clear hK K
  refine wpAnyH_ready (rs := [6]) (by kernel_rfl) (by simp) ?_
  refine AllReadyH.cons (o := _) rfl (fun K hK => ?_) AllReadyH.nil
  simp only [sq3]
  go_simp
  with_reducible refine (anum_any a4 a5 a6 a7 _).mono ?_
  rintro e v13 ⟨rfl, b13⟩
  dsimp only
  replace bel := bel.trans (b13.mono bel.size)
  replace hp := (b13.block _ zp).trans hp
  replace zp := Nat.lt_of_lt_of_le zp b13.size
  replace hs1 := hs1.below b13
  have zs := bel.size
  refine hK.out _ _ hp (fun hH13 => ?_)
  clear hK K
  refine wpAnyH_ready (rs := [7]) (by kernel_rfl) (by simp) ?_
  refine AllReadyH.cons (o := _) rfl (fun K hK => ?_) AllReadyH.nil
  simp only [sq3]
  go_simp
  with_reducible refine (u32_then A1 c1 _ a4 a5 a6 a7 _ hs1).mono ?_
  rintro e v14 ⟨v, rfl, hown, b14⟩
  dsimp only
  replace bel := bel.trans (b14.mono bel.size)
  replace hp := (b14.block _ zp).trans hp
  replace zp := Nat.lt_of_lt_of_le zp b14.size
  replace hown := ownsRow_mono (B := w.heap.size) hown zs
  refine hK.out _ _ hp (fun hH14 => ?_)
  clear hK K
  refine wpAnyH_take (i := 8) (v := ?_) rfl (by kernel_rfl) (by kernel_rfl) (by kernel_rfl) (fun _ _ _ h => h) (Or.inl ⟨by rfl, ?_⟩) hH14 ?_
  rotate_left
  · ((intro W hW; clear hW; go_simp) <;> with_reducible rfl)
  simp only [sq3, sq4]
  refine wpAnyH_done (by kernel_rfl) ?_ _
  go_wp2
  go_ret
  exact ⟨v, rfl, hown, bel⟩
theorem own_below {w w' : World} {B : Nat} {e : TypeId} {v : Value} {n : Nat} {xs : List Value} (h : w.ownsRow B e 1 v n xs) (hb : Below w.heap.size w w') : w'.ownsRow B e 1 v n xs := by
  refine ⟨h.1, ?_⟩
  rcases h.2 with h | ⟨g, cap, cur, e, hg, hh, h⟩
  · exact .inl h
  · exact .inr ⟨g, cap, cur, e, hg, (hb.block g (Array.getElem?_eq_some_iff.1 hh).1).trans hh, h⟩
theorem made_0b (y : Int) (w : World) : Sl (w.alloc (.cells #[.int .u8 0, .int .u8 (y % 256)] 5)) (some ⟨w.heap.size, 0, none⟩) 2 2 [0, byteOf y] := by
  have h := Sl.made w 5 [0, byteOf y] (by simp [maxLen])
  simpa [u8v, byteOf_val] using h
theorem u8_wrap (x : Int) : IntKind.u8.wrap x = x % 256 := by simp [IntKind.wrap, IntKind.signed, IntKind.bits]
set_option maxRecDepth 100000 in
set_option maxHeartbeats 16000000 in
theorem ippseudo_o (tos id fl pt ttl pr : Int) (a0 a1 a2 a3 a4 a5 a6 a7 : UInt8) (So Sb : Option Addr) (no co nb cb : Nat) (k : Int) (w : World) : Calls Tryz.prog 91 #[.agg #[.int .i64 tos, .int .i64 id, .int .i64 fl, .int .i64 pt, .int .i64 ttl, .int .i64 pr, .int .u8 (a0.toNat : Int), .int .u8 (a1.toNat : Int), .int .u8 (a2.toNat : Int), .int .u8 (a3.toNat : Int), .int .u8 (a4.toNat : Int), .int .u8 (a5.toNat : Int), .int .u8 (a6.toNat : Int), .int .u8 (a7.toNat : Int), .slice So no co, .slice Sb nb cb], .int .i64 k] w fun e w' => ∃ v, e = .returned v ∧ w'.ownsRow w.heap.size 5 1 v 12 (([a0, a1, a2, a3, a4, a5, a6, a7] ++ [0, byteOf pr] ++ two k).map u8v) ∧ Below w.heap.size w w' := by
  obtain ⟨ii, hii, hz0, hz1, hz2⟩ := info_parts Tryz.info5
  have ew := u8_wrap pr
  have bel := Below.refl w.heap.size w
  have hp : (w.alloc (.cells #[.int .i64 tos, .int .i64 id, .int .i64 fl, .int .i64 pt, .int .i64 ttl, .int .i64 pr, .int .u8 (a0.toNat : Int), .int .u8 (a1.toNat : Int), .int .u8 (a2.toNat : Int), .int .u8 (a3.toNat : Int), .int .u8 (a4.toNat : Int), .int .u8 (a5.toNat : Int), .int .u8 (a6.toNat : Int), .int .u8 (a7.toNat : Int), .slice So no co, .slice Sb nb cb] 38)).heap[w.heap.size]? = some (.cells #[.int .i64 tos, .int .i64 id, .int .i64 fl, .int .i64 pt, .int .i64 ttl, .int .i64 pr, .int .u8 (a0.toNat : Int), .int .u8 (a1.toNat : Int), .int .u8 (a2.toNat : Int), .int .u8 (a3.toNat : Int), .int .u8 (a4.toNat : Int), .int .u8 (a5.toNat : Int), .int .u8 (a6.toNat : Int), .int .u8 (a7.toNat : Int), .slice So no co, .slice Sb nb cb] 38 (0, 0)) := by have := heap_alloc_new w (.cells #[.int .i64 tos, .int .i64 id, .int .i64 fl, .int .i64 pt, .int .i64 ttl, .int .i64 pr, .int .u8 (a0.toNat : Int), .int .u8 (a1.toNat : Int), .int .u8 (a2.toNat : Int), .int .u8 (a3.toNat : Int), .int .u8 (a4.toNat : Int), .int .u8 (a5.toNat : Int), .int .u8 (a6.toNat : Int), .int .u8 (a7.toNat : Int), .slice So no co, .slice Sb nb cb] 38); simpa using this
  have zp : w.heap.size < (w.alloc (.cells #[.int .i64 tos, .int .i64 id, .int .i64 fl, .int .i64 pt, .int .i64 ttl, .int .i64 pr, .int .u8 (a0.toNat : Int), .int .u8 (a1.toNat : Int), .int .u8 (a2.toNat : Int), .int .u8 (a3.toNat : Int), .int .u8 (a4.toNat : Int), .int .u8 (a5.toNat : Int), .int .u8 (a6.toNat : Int), .int .u8 (a7.toNat : Int), .slice So no co, .slice Sb nb cb] 38)).heap.size := by simp
  replace bel := bel.alloc bel.size (.cells #[.int .i64 tos, .int .i64 id, .int .i64 fl, .int .i64 pt, .int .i64 ttl, .int .i64 pr, .int .u8 (a0.toNat : Int), .int .u8 (a1.toNat : Int), .int .u8 (a2.toNat : Int), .int .u8 (a3.toNat : Int), .int .u8 (a4.toNat : Int), .int .u8 (a5.toNat : Int), .int .u8 (a6.toNat : Int), .int .u8 (a7.toNat : Int), .slice So no co, .slice Sb nb cb] 38)
  go_enter Tryz.func91, Tryz.ntmps91
  go_wp2_with fail
  replace bel := bel.drew
  replace hp : (w.alloc (.cells #[.int .i64 tos, .int .i64 id, .int .i64 fl, .int .i64 pt, .int .i64 ttl, .int .i64 pr, .int .u8 (a0.toNat : Int), .int .u8 (a1.toNat : Int), .int .u8 (a2.toNat : Int), .int .u8 (a3.toNat : Int), .int .u8 (a4.toNat : Int), .int .u8 (a5.toNat : Int), .int .u8 (a6.toNat : Int), .int .u8 (a7.toNat : Int), .slice So no co, .slice Sb nb cb] 38)).drew.heap[w.heap.size]? = some (.cells #[.int .i64 tos, .int .i64 id, .int .i64 fl, .int .i64 pt, .int .i64 ttl, .int .i64 pr, .int .u8 (a0.toNat : Int), .int .u8 (a1.toNat : Int), .int .u8 (a2.toNat : Int), .int .u8 (a3.toNat : Int), .int .u8 (a4.toNat : Int), .int .u8 (a5.toNat : Int), .int .u8 (a6.toNat : Int), .int .u8 (a7.toNat : Int), .slice So no co, .slice Sb nb cb] 38 (0, 0)) := hp
  replace zp : w.heap.size < (w.alloc (.cells #[.int .i64 tos, .int .i64 id, .int .i64 fl, .int .i64 pt, .int .i64 ttl, .int .i64 pr, .int .u8 (a0.toNat : Int), .int .u8 (a1.toNat : Int), .int .u8 (a2.toNat : Int), .int .u8 (a3.toNat : Int), .int .u8 (a4.toNat : Int), .int .u8 (a5.toNat : Int), .int .u8 (a6.toNat : Int), .int .u8 (a7.toNat : Int), .slice So no co, .slice Sb nb cb] 38)).drew.heap.size := zp
  refine wp_region_held_drew (S := fun W => W.heap[w.heap.size]? = some (.cells #[.int .i64 tos, .int .i64 id, .int .i64 fl, .int .i64 pt, .int .i64 ttl, .int .i64 pr, .int .u8 (a0.toNat : Int), .int .u8 (a1.toNat : Int), .int .u8 (a2.toNat : Int), .int .u8 (a3.toNat : Int), .int .u8 (a4.toNat : Int), .int .u8 (a5.toNat : Int), .int .u8 (a6.toNat : Int), .int .u8 (a7.toNat : Int), .slice So no co, .slice Sb nb cb] 38 (0, 0))) (by kernel_rfl) hp (fun hH => ?_)
  generalize (w.alloc (.cells #[.int .i64 tos, .int .i64 id, .int .i64 fl, .int .i64 pt, .int .i64 ttl, .int .i64 pr, .int .u8 (a0.toNat : Int), .int .u8 (a1.toNat : Int), .int .u8 (a2.toNat : Int), .int .u8 (a3.toNat : Int), .int .u8 (a4.toNat : Int), .int .u8 (a5.toNat : Int), .int .u8 (a6.toNat : Int), .int .u8 (a7.toNat : Int), .slice So no co, .slice Sb nb cb] 38)).drew = vd at bel hp zp hH ⊢
  refine wpAnyH_take (i := 0) (v := .agg #[.int .i64 tos, .int .i64 id, .int .i64 fl, .int .i64 pt, .int .i64 ttl, .int .i64 pr, .int .u8 (a0.toNat : Int), .int .u8 (a1.toNat : Int), .int .u8 (a2.toNat : Int), .int .u8 (a3.toNat : Int), .int .u8 (a4.toNat : Int), .int .u8 (a5.toNat : Int), .int .u8 (a6.toNat : Int), .int .u8 (a7.toNat : Int), .slice So no co, .slice Sb nb cb]) rfl (by kernel_rfl) (by kernel_rfl) (by kernel_rfl) (fun _ _ _ h => h) (yieldsIf_load_part (by kernel_rfl) 38 _ rfl (w.heap.size) 0 16 rfl [.int .i64 tos, .int .i64 id, .int .i64 fl, .int .i64 pt, .int .i64 ttl, .int .i64 pr, .int .u8 (a0.toNat : Int), .int .u8 (a1.toNat : Int), .int .u8 (a2.toNat : Int), .int .u8 (a3.toNat : Int), .int .u8 (a4.toNat : Int), .int .u8 (a5.toNat : Int), .int .u8 (a6.toNat : Int), .int .u8 (a7.toNat : Int), .slice So no co, .slice Sb nb cb] 38 (0, 0) (fun W hW => hW) [.int .i64 tos, .int .i64 id, .int .i64 fl, .int .i64 pt, .int .i64 ttl, .int .i64 pr, .int .u8 (a0.toNat : Int), .int .u8 (a1.toNat : Int), .int .u8 (a2.toNat : Int), .int .u8 (a3.toNat : Int), .int .u8 (a4.toNat : Int), .int .u8 (a5.toNat : Int), .int .u8 (a6.toNat : Int), .int .u8 (a7.toNat : Int), .slice So no co, .slice Sb nb cb] rfl _ Tryz.underlying38 rfl (by kernel_rfl)) hH ?_
  simp only [Act.put, List.getElem_toArray, List.getElem_cons_zero, List.setIfInBounds_toArray, List.set_cons_zero, List.set_cons_succ]
  refine wpAnyH_take (i := 2) (v := ?_) rfl (by kernel_rfl) (by kernel_rfl) (by kernel_rfl) (fun _ _ _ h => h) (Or.inl ⟨by rfl, ?_⟩) hH ?_
  rotate_left
  · ((intro W hW; clear hW; go_simp) <;> with_reducible rfl)
  simp only [sq3, sq4]
  refine wpAnyH_take (i := 3) (v := ?_) rfl (by kernel_rfl) (by kernel_rfl) (by kernel_rfl) (fun _ _ _ h => h) (Or.inl ⟨by rfl, ?_⟩) hH ?_
  rotate_left
  · ((intro W hW; have hk := cell_lit (hW) 5 _ rfl; clear hW; go_simp) <;> with_reducible rfl)
  simp only [sq3, sq4]
  refine wpAnyH_take (i := 4) (v := ?_) rfl (by kernel_rfl) (by kernel_rfl) (by kernel_rfl) (fun _ _ _ h => h) (Or.inl ⟨by rfl, ?_⟩) hH ?_
  rotate_left
  · ((intro W hW; clear hW; go_simp) <;> with_reducible rfl)
  simp only [sq3, sq4]
  refine wpAnyH_take (i := 7) (v := ?_) rfl (by kernel_rfl) (by kernel_rfl) (by kernel_rfl) (fun _ _ _ h => h) (Or.inl ⟨by rfl, ?_⟩) hH ?_
  rotate_left
  · ((intro W hW; clear hW; go_simp) <;> with_reducible rfl)
  simp only [sq3, sq4]
  refine wpAnyH_ready (rs := [1, 5]) (by kernel_rfl) (by simp) ?_
  refine AllReadyH.cons (o := _) rfl (fun K hK => ?_) (AllReadyH.cons (o := _) rfl (fun K hK => ?_) AllReadyH.nil)
  · have mkzp := zp
    have mkw := bel.size
    simp only [sq3]
    go_simp
    with_reducible refine (ends_o tos id fl pt ttl pr a0 a1 a2 a3 a4 a5 a6 a7 So Sb no co nb cb _).mono ?_
    rintro e v11 ⟨v, rfl, hown, b11⟩
    dsimp only
    replace bel := bel.trans (b11.mono bel.size)
    replace hp := (b11.block _ zp).trans hp
    replace zp := Nat.lt_of_lt_of_le zp b11.size
    have mk := b11.size
    have mkb := b11
    refine hK.out _ _ hp (fun hH11 => ?_)
    clear hK K
    refine wpAnyH_ready (rs := [5]) (by kernel_rfl) (by simp) ?_
    refine AllReadyH.cons (o := _) rfl (fun K hK => ?_) AllReadyH.nil
    simp only [sq3]
    go_simp
    have ba := (Below.refl v11.heap.size v11).alloc (Nat.le_refl _) (.cells #[.int .u8 0, .int .u8 (pr % 256)] 5)
    replace mkb := mkb.trans (ba.mono mk)
    replace mk := Nat.le_trans mk ba.size
    have hm := made_0b pr v11
    replace bel := bel.trans (ba.mono bel.size)
    replace hp := (ba.block _ zp).trans hp
    replace zp := Nat.lt_of_lt_of_le zp ba.size
    replace hown := own_below hown ba
    generalize v11.alloc (.cells #[.int .u8 0, .int .u8 (pr % 256)] 5) = v12 at bel hp zp hown hm mk mkb ba ⊢
    refine hK.out _ _ hp (fun hH12 => ?_)
    clear hK K ba
    refine wpAnyH_ready (rs := [6]) (by kernel_rfl) (by simp) ?_
    refine AllReadyH.cons (o := _) rfl (fun K hK => ?_) AllReadyH.nil
    simp only [sq3]
    rw [if_pos (by rfl)]
    refine wp_append_bb (.tmp 6) (.tmp 10) 36 rfl (vd.heap.size) 5 ii (.int .u8 0) Tryz.underlying36 hii hz0 hz1 hz2 rfl v (8) ([a0, a1, a2, a3, a4, a5, a6, a7]) rfl hown (_) (2) (2) ([0, byteOf pr]) rfl hm (by omega) (by omega) ?_
    intro r13 v13 hown2_ bb
    replace hp := (bb.block _ mkzp).trans hp
    replace zp := Nat.lt_of_lt_of_le zp bb.size
    replace bel := bel.trans (bb.mono mkw)
    clear hown
    replace mkb := mkb.trans bb
    replace mk := Nat.le_trans mk bb.size
    clear bb
    clear hm
    have hown2 := hown2_
    clear hown2_
    refine hK.out _ _ hp (fun hH13 => ?_)
    clear hK K
    have zw := bel.size
    obtain ⟨A3, c3, rfl, hs3⟩ := Sl.of_own hown2
    clear hown2
    refine wpAnyH_ready (rs := [8]) (by kernel_rfl) (by simp) ?_
    refine AllReadyH.cons (o := _) rfl (fun K hK => ?_) AllReadyH.nil
    simp only [sq3]
    go_simp
    with_reducible refine (w16_o A3 10 c3 ([a0, a1, a2, a3, a4, a5, a6, a7] ++ [0, byteOf pr]) k _ hs3 (by omega)).mono ?_
    rintro e v14 ⟨v4, rfl, hwo, b14⟩
    dsimp only
    replace bel := bel.trans (b14.mono bel.size)
    replace hp := (b14.block _ zp).trans hp
    replace zp := Nat.lt_of_lt_of_le zp b14.size
    replace mkb := mkb.trans (b14.mono mk)
    replace mk := Nat.le_trans mk b14.size
    refine hK.out _ _ hp (fun hH14 => ?_)
    clear hK K
    refine wpAnyH_take (i := 9) (v := ?_) rfl (by kernel_rfl) (by kernel_rfl) (by kernel_rfl) (fun _ _ _ h => h) (Or.inl ⟨by rfl, ?_⟩) hH14 ?_
    rotate_left
    · ((intro W hW; clear hW; go_simp) <;> with_reducible rfl)
    simp only [sq3, sq4]
    refine wpAnyH_done (by kernel_rfl) ?_ _
    go_wp2
    go_ret
    exact ⟨v4, rfl, ownsRow_mono hwo zw, bel⟩
  · simp only [sq3]
    go_simp
    have ba := (Below.refl vd.heap.size vd).alloc (Nat.le_refl _) (.cells #[.int .u8 0, .int .u8 (pr % 256)] 5)
    have hm := made_0b pr vd
    replace bel := bel.trans (ba.mono bel.size)
    replace hp := (ba.block _ zp).trans hp
    replace zp := Nat.lt_of_lt_of_le zp ba.size
    generalize vd.alloc (.cells #[.int .u8 0, .int .u8 (pr % 256)] 5) = v11 at bel hp zp hm ba ⊢
    refine hK.out _ _ hp (fun hH11 => ?_)
    clear hK K ba
    have mkzp := zp
    have mkshm := hm
    have mkw := bel.size
    refine wpAnyH_ready (rs := [1]) (by kernel_rfl) (by simp) ?_
    refine AllReadyH.cons (o := _) rfl (fun K hK => ?_) AllReadyH.nil
    simp only [sq3]
    go_simp
    with_reducible refine (ends_o tos id fl pt ttl pr a0 a1 a2 a3 a4 a5 a6 a7 So Sb no co nb cb _).mono ?_
    rintro e v12 ⟨v, rfl, hown, b12⟩
    dsimp only
    replace bel := bel.trans (b12.mono bel.size)
    replace hp := (b12.block _ zp).trans hp
    replace zp := Nat.lt_of_lt_of_le zp b12.size
    have mk := b12.size
    have mkb := b12
    replace hm := hm.below b12
    refine hK.out _ _ hp (fun hH12 => ?_)
    clear hK K
    refine wpAnyH_ready (rs := [6]) (by kernel_rfl) (by simp) ?_
    refine AllReadyH.cons (o := _) rfl (fun K hK => ?_) AllReadyH.nil
    simp only [sq3]
    rw [if_pos (by rfl)]
    refine wp_append_bb (.tmp 6) (.tmp 10) 36 rfl (v11.heap.size) 5 ii (.int .u8 0) Tryz.underlying36 hii hz0 hz1 hz2 rfl v (8) ([a0, a1, a2, a3, a4, a5, a6, a7]) rfl hown (_) (2) (2) ([0, byteOf pr]) rfl hm (by omega) (by omega) ?_
    intro r13 v13 hown2_ bb
    replace hp := (bb.block _ mkzp).trans hp
    replace zp := Nat.lt_of_lt_of_le zp bb.size
    replace bel := bel.trans (bb.mono mkw)
    clear hown
    replace mkb := mkb.trans bb
    replace mk := Nat.le_trans mk bb.size
    clear bb
    clear hm
    have hown2 := hown2_
    clear hown2_
    refine hK.out _ _ hp (fun hH13 => ?_)
    clear hK K
    have zw := bel.size
    obtain ⟨A3, c3, rfl, hs3⟩ := Sl.of_own hown2
    clear hown2
    refine wpAnyH_ready (rs := [8]) (by kernel_rfl) (by simp) ?_
    refine AllReadyH.cons (o := _) rfl (fun K hK => ?_) AllReadyH.nil
    simp only [sq3]
    go_simp
    with_reducible refine (w16_o A3 10 c3 ([a0, a1, a2, a3, a4, a5, a6, a7] ++ [0, byteOf pr]) k _ hs3 (by omega)).mono ?_
    rintro e v14 ⟨v4, rfl, hwo, b14⟩
    dsimp only
    replace bel := bel.trans (b14.mono bel.size)
    replace hp := (b14.block _ zp).trans hp
    replace zp := Nat.lt_of_lt_of_le zp b14.size
    replace mkb := mkb.trans (b14.mono mk)
    replace mk := Nat.le_trans mk b14.size
    refine hK.out _ _ hp (fun hH14 => ?_)
    clear hK K
    refine wpAnyH_take (i := 9) (v := ?_) rfl (by kernel_rfl) (by kernel_rfl) (by kernel_rfl) (fun _ _ _ h => h) (Or.inl ⟨by rfl, ?_⟩) hH14 ?_
    rotate_left
    · ((intro W hW; clear hW; go_simp) <;> with_reducible rfl)
    simp only [sq3, sq4]
    refine wpAnyH_done (by kernel_rfl) ?_ _
    go_wp2
    go_ret
    exact ⟨v4, rfl, ownsRow_mono hwo zw, bel⟩
theorem ippseudo_any (tos id fl pt ttl pr : Int) (a0 a1 a2 a3 a4 a5 a6 a7 : UInt8) (So Sb : Option Addr) (no co nb cb : Nat) (k : Int) (w : World) : Calls Tryz.prog 91 #[.agg #[.int .i64 tos, .int .i64 id, .int .i64 fl, .int .i64 pt, .int .i64 ttl, .int .i64 pr, .int .u8 (a0.toNat : Int), .int .u8 (a1.toNat : Int), .int .u8 (a2.toNat : Int), .int .u8 (a3.toNat : Int), .int .u8 (a4.toNat : Int), .int .u8 (a5.toNat : Int), .int .u8 (a6.toNat : Int), .int .u8 (a7.toNat : Int), .slice So no co, .slice Sb nb cb], .int .i64 k] w fun e w' => ∃ A c, e = .returned (.slice A 12 c) ∧ Sl w' A 12 c ([a0, a1, a2, a3, a4, a5, a6, a7] ++ [0, byteOf pr] ++ two k) ∧ Below w.heap.size w w' := by
  refine (ippseudo_o tos id fl pt ttl pr a0 a1 a2 a3 a4 a5 a6 a7 So Sb no co nb cb k w).mono ?_
  rintro e w' ⟨v, rfl, hown, bel⟩
  obtain ⟨A, c, rfl, hs⟩ := Sl.of_own hown
  exact ⟨A, c, rfl, hs, bel⟩
open Go.RowKit

theorem w16_oto (A : Option Addr) (n m c : Nat) (l : List UInt8) (v0 : Int) (w : World) (hm : n + 2 = m) (hl : Sl w A n c l) (hs : n + 2 ≤ 140737488355328) :
    Calls Tryz.prog 80 #[.slice A n c, .int .i64 v0] w fun e w' => ∃ v, e = .returned v ∧ w'.ownsRow w.heap.size 5 1 v m ((l ++ two v0).map u8v) ∧ Below w.heap.size w w' := by
  subst hm; exact w16_o A n c l v0 w hl hs
open Go.RowKit

theorem Sls.three {w : World} {A B D : Option Addr} {n c m d k q g : Nat} {l t u : List UInt8} {T : TypeId} (h : Sl w A n c l) (h2 : Sl w B m d t) (h3 : Sl w D k q u) (hg : w.heap[g]? = some (.cells #[.slice A n c, .slice B m d, .slice D k q] T (0, 0))) : Sls w (some ⟨g, 0, none⟩) 3 [l, t, u] := by
  refine ⟨rfl, fun _ => ⟨_, _, rfl, fun j x hj => ?_⟩⟩
  match j, hj with
  | 0, hj =>
    obtain rfl : l = x := by simpa using hj
    exact ⟨A, n, c, by simp only [World.cell?, hg]; simp, h⟩
  | 1, hj =>
    obtain rfl : t = x := by simpa using hj
    exact ⟨B, m, d, by simp only [World.cell?, hg]; simp, h2⟩
  | 2, hj =>
    obtain rfl : u = x := by simpa using hj
    exact ⟨D, k, q, by simp only [World.cell?, hg]; simp, h3⟩
  | j + 3, hj => simp at hj
set_option maxRecDepth 100000 in
set_option maxHeartbeats 16000000 in
theorem port_any (v : Int) (w : World) : Calls Tryz.prog 54 #[.int .i64 v] w fun e w' => e = .returned (.bool (portOk v)) ∧ w = w' := by
  unfold portOk
  by_cases h0 : 0 ≤ v
  · rw [decide_eq_true h0, Bool.true_and]
    by_cases h1 : v ≤ 65535
    · rw [decide_eq_true h1]
      go_enter Tryz.func54, Tryz.ntmps54
      go_wp2
      go_ret
      exact ⟨rfl, rfl⟩
    · have h2 : decide (v ≤ 65535) = false := decide_eq_false h1
      rw [h2]
      clear h1
      go_enter Tryz.func54, Tryz.ntmps54
      go_wp2
      go_ret
      exact ⟨rfl, rfl⟩
  · have h2 : decide (0 ≤ v) = false := decide_eq_false h0
    rw [h2, Bool.false_and]
    clear h0
    go_enter Tryz.func54, Tryz.ntmps54
    go_wp2
    go_ret
    exact ⟨rfl, rfl⟩
theorem fitsd (A : Option Addr) (n c : Nat) (l : List UInt8) (w : World) (hl : Sl w A n c l) : Calls Tryz.prog 46 #[.slice A n c] w fun e w' => e = .returned (.bool (decide (ck l = 0))) ∧ Below w.heap.size w w' := by
  by_cases h : ck l = 0
  · rw [decide_eq_true h]
    exact fits_yes A n c l w hl h
  · rw [decide_eq_false h]
    exact fits_no A n c l w hl h
set_option maxRecDepth 100000 in
set_option maxHeartbeats 16000000 in
theorem udfits_any (tos id fl pt ttl pr : Int) (a0 a1 a2 a3 a4 a5 a6 a7 : UInt8) (So Sb : Option Addr) (no co nb cb : Nat) (k : Nat) (lb : List UInt8) (w : World) (hb : Sl w Sb nb cb lb) (hk : k ≤ nb) (hm : nb ≤ 100000) : Calls Tryz.prog 53 #[.agg #[.int .i64 tos, .int .i64 id, .int .i64 fl, .int .i64 pt, .int .i64 ttl, .int .i64 pr, .int .u8 (a0.toNat : Int), .int .u8 (a1.toNat : Int), .int .u8 (a2.toNat : Int), .int .u8 (a3.toNat : Int), .int .u8 (a4.toNat : Int), .int .u8 (a5.toNat : Int), .int .u8 (a6.toNat : Int), .int .u8 (a7.toNat : Int), .slice So no co, .slice Sb nb cb], .int .i64 (k : Int)] w fun e w' => e = .returned (.bool (decide (ck (l4Ps a0 a1 a2 a3 a4 a5 a6 a7 pr (k : Int) ++ lb.take k) = 0))) ∧ Below w.heap.size w w' := by
  obtain ⟨ii, hii, hz0, hz1, hz2⟩ := info_parts Tryz.info5
  have n0 : (0 : Int) ≤ k := by omega
  have n1 : (k : Int) ≤ nb := by omega
  have n2 : (nb : Int) ≤ 100000 := by omega
  have bel := Below.refl w.heap.size w
  go_enter Tryz.func53, Tryz.ntmps53
  go_wp2_with (first | ((with_reducible show wpList _ _ _ (⟨some 2, _, _, _, _, _⟩ :: _) _ _); refine wpList_box_n rfl 38 (.tmp 0) rfl #[.int .i64 tos, .int .i64 id, .int .i64 fl, .int .i64 pt, .int .i64 ttl, .int .i64 pr, .int .u8 (a0.toNat : Int), .int .u8 (a1.toNat : Int), .int .u8 (a2.toNat : Int), .int .u8 (a3.toNat : Int), .int .u8 (a4.toNat : Int), .int .u8 (a5.toNat : Int), .int .u8 (a6.toNat : Int), .int .u8 (a7.toNat : Int), .slice So no co, .slice Sb nb cb] rfl ?_; intro g2 w1 ge lt hh bb; have av_hb_p := hb.av_new ge; have op := Nat.le_trans bel.size ge; replace hb := hb.below bb; replace bel := bel.trans (bb.mono bel.size); have hp := hh; clear hh lt ge bb))
  replace bel := bel.drew
  replace hp : w1.drew.heap[g2]? = _ := hp
  replace hb := hb.drew
  refine wp_region_held_drew (S := fun W => W.heap[g2]? = some (.cells #[.int .i64 tos, .int .i64 id, .int .i64 fl, .int .i64 pt, .int .i64 ttl, .int .i64 pr, .int .u8 (a0.toNat : Int), .int .u8 (a1.toNat : Int), .int .u8 (a2.toNat : Int), .int .u8 (a3.toNat : Int), .int .u8 (a4.toNat : Int), .int .u8 (a5.toNat : Int), .int .u8 (a6.toNat : Int), .int .u8 (a7.toNat : Int), .slice So no co, .slice Sb nb cb] 38 (0, 0))) (by kernel_rfl) hp (fun hH => ?_)
  generalize w1.drew = w2 at bel hp hb hH ⊢
  refine wpAnyH_take (i := 0) (v := .agg #[.int .i64 tos, .int .i64 id, .int .i64 fl, .int .i64 pt, .int .i64 ttl, .int .i64 pr, .int .u8 (a0.toNat : Int), .int .u8 (a1.toNat : Int), .int .u8 (a2.toNat : Int), .int .u8 (a3.toNat : Int), .int .u8 (a4.toNat : Int), .int .u8 (a5.toNat : Int), .int .u8 (a6.toNat : Int), .int .u8 (a7.toNat : Int), .slice So no co, .slice Sb nb cb]) rfl (by kernel_rfl) (by kernel_rfl) (by kernel_rfl) (fun _ _ _ h => h) (yieldsIf_load_part (by kernel_rfl) 38 _ rfl g2 0 16 rfl _ 38 (0, 0) (fun W hW => hW) _ rfl _ Tryz.underlying38 rfl (by kernel_rfl)) hH ?_
  simp only [Act.put, List.getElem_toArray, List.getElem_cons_zero, List.setIfInBounds_toArray, List.set_cons_zero, List.set_cons_succ]
  refine wpAnyH_take (i := 1) (v := ?_) rfl (by kernel_rfl) (by kernel_rfl) (by kernel_rfl) (fun _ _ _ h => h) (Or.inl ⟨by rfl, ?_⟩) hH ?_
  rotate_left
  · ((intro W hW; clear hW; go_simp) <;> with_reducible rfl)
  simp only [sq3, sq4]
  refine wpAnyH_take (i := 3) (v := ?_) rfl (by kernel_rfl) (by kernel_rfl) (by kernel_rfl) (fun _ _ _ h => h) (Or.inl ⟨by rfl, ?_⟩) hH ?_
  rotate_left
  · ((intro W hW; clear hW; go_simp) <;> with_reducible rfl)
  simp only [sq3, sq4]
  refine wpAnyH_take (i := 4) (v := ?_) rfl (by kernel_rfl) (by kernel_rfl) (by kernel_rfl) (fun _ _ _ h => h) (Or.inl ⟨by rfl, ?_⟩) hH ?_
  rotate_left
  · ((intro W hW; have hk := cell_lit (hW) 15 _ rfl; clear hW; go_simp) <;> with_reducible rfl)
  simp only [sq3, sq4]
  refine wpAnyH_take (i := 5) (v := ?_) rfl (by kernel_rfl) (by kernel_rfl) (by kernel_rfl) (fun _ _ _ h => h) (Or.inl ⟨by rfl, ?_⟩) hH ?_
  rotate_left
  · ((intro W hW; clear hW; go_simp) <;> with_reducible rfl)
  simp only [sq3, sq4]
  obtain ⟨A11, c11, r11, f11, u11⟩ := piece_front hb (k := k) hk
  have pc := f11 _ hb
  have av_pc_p := av_hb_p.sub u11
  clear f11 u11
  refine wpAnyH_take (i := 6) (v := ?_) rfl (by kernel_rfl) (by kernel_rfl) (by kernel_rfl) (fun _ _ _ h => h) (Or.inl ⟨by rfl, ?_⟩) hH ?_
  rotate_left
  · ((intro W hW; clear hW; go_simp) <;> with_reducible rfl)
  simp only [sq3, sq4]
  refine wpAnyH_ready (rs := [2]) (by kernel_rfl) (by simp) ?_
  refine AllReadyH.cons (o := _) rfl (fun K hK => ?_) AllReadyH.nil
  simp only [sq3]
  go_simp
  with_reducible refine (ippseudo_o _ _ _ _ _ _ _ _ _ _ _ _ _ _ _ _ _ _ _ _ _ _).mono ?_
  rintro e w3 ⟨v, rfl, psw, b3⟩
  dsimp only
  have y_ps_p := Lib.hid (hlt hp)
  have bl_hb_ps := hb.bl_new
  have bl_pc_ps := pc.bl_new
  have pslo := bel.size
  have lz_ps := b3.size
  replace hp := blk_u hp b3
  replace hb := hb.below b3
  replace pc := pc.below b3
  replace bel := bel.trans (b3.mono bel.size)
  clear b3
  obtain ⟨Aps, cps, rfl⟩ := own_val psw
  have ps := (own_sl psw).1
  have fr_ps := (own_sl psw).2
  have av_ps_p := fr_ps.av y_ps_p.out
  refine hK.out _ _ hp (fun hH4 => ?_)
  clear hK K
  refine wpAnyH_ready (rs := [7]) (by kernel_rfl) (by simp) ?_
  refine AllReadyH.cons (o := _) rfl (fun K hK => ?_) AllReadyH.nil
  simp only [sq3]
  rw [if_pos (by rfl)]
  refine wp_append_bb (.tmp 7) (.tmp 11) 36 rfl (w2.heap.size) 5 ii (.int .u8 0) Tryz.underlying36 hii hz0 hz1 hz2 rfl _ (12) (l4Ps a0 a1 a2 a3 a4 a5 a6 a7 pr (k : Int)) rfl psw (A11) (k) (c11) ((lb).take (k)) rfl pc (by have := hk; have := hm; omega) lz_ps ?_
  intro v12 w5 own_ bb
  replace hb := hb.under bl_hb_ps bb
  replace pc := pc.under bl_pc_ps bb
  replace hp := blk_under hp bb y_ps_p.out
  replace bel := bel.trans (bb.mono pslo)
  have lz_s12 := Nat.le_trans lz_ps bb.size
  clear bb
  clear ps psw lz_ps
  replace own_ : w5.ownsRow (w2.heap.size) 5 1 v12 (12 + k) ((l4Ps a0 a1 a2 a3 a4 a5 a6 a7 pr (k : Int) ++ ((lb).take (k)) : List UInt8).map u8v) := own_
  obtain ⟨A12, c12, rfl⟩ := own_val own_
  have s12w := own_
  have s12 := (own_sl own_).1
  have fr_s12 := (own_sl own_).2
  clear own_
  have av_s12_p := fr_s12.av y_ps_p.out
  refine hK.out _ _ hp (fun hH6 => ?_)
  clear hK K
  simp only [sq4]
  refine wpAnyH_ready (rs := [8]) (by kernel_rfl) (by simp) ?_
  refine AllReadyH.cons (o := _) rfl (fun K hK => ?_) AllReadyH.nil
  simp only [sq3]
  go_simp
  with_reducible refine (fitsd _ _ _ _ _ s12).mono ?_
  rintro e w7 ⟨rfl, b7⟩
  dsimp only
  replace hp := blk_u hp b7
  replace hb := hb.below b7
  replace pc := pc.below b7
  replace s12 := s12.below b7
  replace s12w := own_under s12w b7
  replace lz_s12 := Nat.le_trans lz_s12 b7.size
  replace bel := bel.trans (b7.mono bel.size)
  clear b7
  refine hK.out _ _ hp (fun hH8 => ?_)
  clear hK K
  refine wpAnyH_take (i := 9) (v := ?_) rfl (by kernel_rfl) (by kernel_rfl) (by kernel_rfl) (fun _ _ _ h => h) (Or.inl ⟨by rfl, ?_⟩) hH8 ?_
  rotate_left
  · ((intro W hW; clear hW; go_simp) <;> with_reducible rfl)
  simp only [sq3, sq4]
  refine wpAnyH_done (by kernel_rfl) ?_ _
  go_wp2_with fail
  go_ret
  exact ⟨rfl, bel⟩
set_option maxRecDepth 100000 in
set_option maxHeartbeats 16000000 in
theorem udwrite_z (tos id fl pt ttl pr : Int) (a0 a1 a2 a3 a4 a5 a6 a7 : UInt8) (So Sb : Option Addr) (no co nb cb : Nat) (df dt : Int) (D : Option Addr) (nd cd : Nat) (ld : List UInt8) (sm : Int) (w : World) (hb : Sl w D nd cd ld) (hm : nd ≤ 1472) (hsm : ck [l4Ps a0 a1 a2 a3 a4 a5 a6 a7 pr (8 + (nd : Int)), [] ++ two df ++ two dt ++ two (8 + (nd : Int)), ld].flatten = sm) (hz : sm = 0) : Calls Tryz.prog 55 #[.agg #[.int .i64 tos, .int .i64 id, .int .i64 fl, .int .i64 pt, .int .i64 ttl, .int .i64 pr, .int .u8 (a0.toNat : Int), .int .u8 (a1.toNat : Int), .int .u8 (a2.toNat : Int), .int .u8 (a3.toNat : Int), .int .u8 (a4.toNat : Int), .int .u8 (a5.toNat : Int), .int .u8 (a6.toNat : Int), .int .u8 (a7.toNat : Int), .slice So no co, .slice Sb nb cb], .agg #[.int .i64 df, .int .i64 dt, .slice D nd cd]] w fun e w' => ∃ v, e = .returned v ∧ w'.ownsRow w.heap.size 5 1 v (8 + nd) (([] ++ two df ++ two dt ++ two (8 + (nd : Int)) ++ two 65535 ++ ld).map u8v) ∧ Below w.heap.size w w' := by
  have HS : Hid (ck [l4Ps a0 a1 a2 a3 a4 a5 a6 a7 pr (8 + (nd : Int)), [] ++ two df ++ two dt ++ two (8 + (nd : Int)), ld].flatten = sm) := Lib.hid hsm
  have n0 : (0 : Int) ≤ nd := by omega
  have n1 : (nd : Int) ≤ 1472 := by omega
  clear hsm
  have t0 : (sm == 0) = true := by rw [hz]; rfl
  clear hz
  obtain ⟨ii, hii, hz0, hz1, hz2⟩ := info_parts Tryz.info5
  have bel := Below.refl w.heap.size w
  go_enter Tryz.func55, Tryz.ntmps55
  go_wp2_with (first | ((with_reducible show wpList _ _ _ (⟨some 2, _, _, _, _, _⟩ :: _) _ _); refine wpList_box_n rfl 38 (.tmp 0) rfl #[.int .i64 tos, .int .i64 id, .int .i64 fl, .int .i64 pt, .int .i64 ttl, .int .i64 pr, .int .u8 (a0.toNat : Int), .int .u8 (a1.toNat : Int), .int .u8 (a2.toNat : Int), .int .u8 (a3.toNat : Int), .int .u8 (a4.toNat : Int), .int .u8 (a5.toNat : Int), .int .u8 (a6.toNat : Int), .int .u8 (a7.toNat : Int), .slice So no co, .slice Sb nb cb] rfl ?_; intro g2 w1 ge lt hh bb; have av_hb_p := hb.av_new ge; have op := Nat.le_trans bel.size ge; replace hb := hb.below bb; replace bel := bel.trans (bb.mono bel.size); have hp := hh; clear hh lt ge bb) | ((with_reducible show wpList _ _ _ (⟨some 3, _, _, _, _, _⟩ :: _) _ _); refine wpList_box_n rfl 54 (.tmp 1) rfl #[.int .i64 df, .int .i64 dt, .slice D nd cd] rfl ?_; intro g3 w2 ge lt hh bb; have d_p_d := ne_new (hlt hp) ge; have av_hb_d := hb.av_new ge; have od := Nat.le_trans bel.size ge; replace hp := blk_u hp bb; replace hb := hb.below bb; replace bel := bel.trans (bb.mono bel.size); have hd := hh; clear hh lt ge bb; have R9 := cell_lit hd 2 _ rfl; have R13 := cell_lit hd 0 _ rfl))
  try clear R9
  try clear R13
  with_reducible refine (w16_oto _ 0 2 _ _ _ _ rfl (Sl.nil _) (by omega)).mono ?_
  rintro e w3 ⟨v, rfl, h1w, b3⟩
  have y_h1_p := Lib.hid (hlt hp)
  have y_h1_d := Lib.hid (hlt hd)
  have bl_hb_h1 := hb.bl_new
  have h1lo := bel.size
  have lz_h1 := b3.size
  replace hp := blk_u hp b3
  replace hd := blk_u hd b3
  replace hb := hb.below b3
  replace bel := bel.trans (b3.mono bel.size)
  clear b3
  obtain ⟨Ah1, ch1, rfl⟩ := own_val h1w
  have h1 := (own_sl h1w).1
  have fr_h1 := (own_sl h1w).2
  have av_h1_p := fr_h1.av y_h1_p.out
  have av_h1_d := fr_h1.av y_h1_d.out
  have R17 := cell_lit hd 1 _ rfl
  go_wp2_with fail
  clear R17
  with_reducible refine (w16_oto _ 2 4 _ _ _ _ rfl h1 (by omega)).mono ?_
  rintro e w4 ⟨v, rfl, h2w, b4⟩
  have y_h2_p := Lib.hid (hlt hp)
  have y_h2_d := Lib.hid (hlt hd)
  have bl_hb_h2 := hb.bl_new
  have bl_h1_h2 := h1.bl_new
  have h2lo := bel.size
  have lz_h2 := b4.size
  replace hp := blk_u hp b4
  replace hd := blk_u hd b4
  replace hb := hb.below b4
  replace h1 := h1.below b4
  replace h1w := own_under h1w b4
  replace lz_h1 := Nat.le_trans lz_h1 b4.size
  replace bel := bel.trans (b4.mono bel.size)
  clear b4
  obtain ⟨Ah2, ch2, rfl⟩ := own_val h2w
  have h2 := (own_sl h2w).1
  have fr_h2 := (own_sl h2w).2
  have av_h2_p := fr_h2.av y_h2_p.out
  have av_h2_d := fr_h2.av y_h2_d.out
  go_wp2_with fail
  with_reducible refine (w16_oto _ 4 6 _ _ _ _ rfl h2 (by omega)).mono ?_
  rintro e w5 ⟨v, rfl, h3w, b5⟩
  have y_h3_p := Lib.hid (hlt hp)
  have y_h3_d := Lib.hid (hlt hd)
  have bl_hb_h3 := hb.bl_new
  have bl_h1_h3 := h1.bl_new
  have bl_h2_h3 := h2.bl_new
  have h3lo := bel.size
  have lz_h3 := b5.size
  replace hp := blk_u hp b5
  replace hd := blk_u hd b5
  replace hb := hb.below b5
  replace h1 := h1.below b5
  replace h1w := own_under h1w b5
  replace h2 := h2.below b5
  replace h2w := own_under h2w b5
  replace lz_h1 := Nat.le_trans lz_h1 b5.size
  replace lz_h2 := Nat.le_trans lz_h2 b5.size
  replace bel := bel.trans (b5.mono bel.size)
  clear b5
  obtain ⟨Ah3, ch3, rfl⟩ := own_val h3w
  have h3 := (own_sl h3w).1
  have fr_h3 := (own_sl h3w).2
  have av_h3_p := fr_h3.av y_h3_p.out
  have av_h3_d := fr_h3.av y_h3_d.out
  go_wp2_with fail
  replace bel := bel.drew
  replace hp : w5.drew.heap[g2]? = _ := hp
  replace hd : w5.drew.heap[g3]? = _ := hd
  replace hb := hb.drew
  replace h1 := h1.drew
  replace h1w : w5.drew.ownsRow _ _ _ _ _ _ := h1w
  replace lz_h1 : _ ≤ w5.drew.heap.size := lz_h1
  replace h2 := h2.drew
  replace h2w : w5.drew.ownsRow _ _ _ _ _ _ := h2w
  replace lz_h2 : _ ≤ w5.drew.heap.size := lz_h2
  replace h3 := h3.drew
  replace h3w : w5.drew.ownsRow _ _ _ _ _ _ := h3w
  replace lz_h3 : _ ≤ w5.drew.heap.size := lz_h3
  refine wp_region_held_drew (S := fun W => W.heap[g2]? = some (.cells #[.int .i64 tos, .int .i64 id, .int .i64 fl, .int .i64 pt, .int .i64 ttl, .int .i64 pr, .int .u8 (a0.toNat : Int), .int .u8 (a1.toNat : Int), .int .u8 (a2.toNat : Int), .int .u8 (a3.toNat : Int), .int .u8 (a4.toNat : Int), .int .u8 (a5.toNat : Int), .int .u8 (a6.toNat : Int), .int .u8 (a7.toNat : Int), .slice So no co, .slice Sb nb cb] 38 (0, 0)) ∧ W.heap[g3]? = some (.cells #[.int .i64 df, .int .i64 dt, .slice D nd cd] 54 (0, 0))) (by kernel_rfl) ⟨hp, hd⟩ (fun hH => ?_)
  generalize w5.drew = w6 at bel hp hd hb h1 h2 h3 h1w h2w h3w lz_h1 lz_h2 lz_h3 hH ⊢
  refine wpAnyH_take (i := 0) (v := .agg #[.int .i64 tos, .int .i64 id, .int .i64 fl, .int .i64 pt, .int .i64 ttl, .int .i64 pr, .int .u8 (a0.toNat : Int), .int .u8 (a1.toNat : Int), .int .u8 (a2.toNat : Int), .int .u8 (a3.toNat : Int), .int .u8 (a4.toNat : Int), .int .u8 (a5.toNat : Int), .int .u8 (a6.toNat : Int), .int .u8 (a7.toNat : Int), .slice So no co, .slice Sb nb cb]) rfl (by kernel_rfl) (by kernel_rfl) (by kernel_rfl) (fun _ _ _ h => h) (yieldsIf_load_part (by kernel_rfl) 38 _ rfl g2 0 16 rfl _ 38 (0, 0) (fun W hW => hW.1) _ rfl _ Tryz.underlying38 rfl (by kernel_rfl)) hH ?_
  simp only [Act.put, List.getElem_toArray, List.getElem_cons_zero, List.setIfInBounds_toArray, List.set_cons_zero, List.set_cons_succ]
  refine wpAnyH_take (i := 1) (v := ?_) rfl (by kernel_rfl) (by kernel_rfl) (by kernel_rfl) (fun _ _ _ h => h) (Or.inl ⟨by rfl, ?_⟩) hH ?_
  rotate_left
  · ((intro W hW; clear hW; go_simp) <;> with_reducible rfl)
  simp only [sq3, sq4]
  refine wpAnyH_take (i := 3) (v := ?_) rfl (by kernel_rfl) (by kernel_rfl) (by kernel_rfl) (fun _ _ _ h => h) (Or.inl ⟨by rfl, ?_⟩) hH ?_
  rotate_left
  · ((intro W hW; clear hW; go_simp) <;> with_reducible rfl)
  simp only [sq3, sq4]
  refine wpAnyH_take (i := 4) (v := ?_) rfl (by kernel_rfl) (by kernel_rfl) (by kernel_rfl) (fun _ _ _ h => h) (Or.inl ⟨by rfl, ?_⟩) hH ?_
  rotate_left
  · ((intro W hW; clear hW; go_simp) <;> with_reducible rfl)
  simp only [sq3, sq4]
  refine wpAnyH_take (i := 5) (v := ?_) rfl (by kernel_rfl) (by kernel_rfl) (by kernel_rfl) (fun _ _ _ h => h) (Or.inl ⟨by rfl, ?_⟩) hH ?_
  rotate_left
  · ((intro W hW; have hk := cell_lit (hW.2) 2 _ rfl; clear hW; go_simp) <;> with_reducible rfl)
  simp only [sq3, sq4]
  refine wpAnyH_ready (rs := [2]) (by kernel_rfl) (by simp) ?_
  refine AllReadyH.cons (o := _) rfl (fun K hK => ?_) AllReadyH.nil
  simp only [sq3]
  go_simp
  with_reducible refine (ippseudo_any _ _ _ _ _ _ _ _ _ _ _ _ _ _ _ _ _ _ _ _ _ _).mono ?_
  rintro e w7 ⟨Ap, cp, rfl, ps, b7⟩
  dsimp only
  replace hp := blk_u hp b7
  replace hd := blk_u hd b7
  replace hb := hb.below b7
  replace h1 := h1.below b7
  replace h1w := own_under h1w b7
  replace h2 := h2.below b7
  replace h2w := own_under h2w b7
  replace h3 := h3.below b7
  replace h3w := own_under h3w b7
  replace lz_h1 := Nat.le_trans lz_h1 b7.size
  replace lz_h2 := Nat.le_trans lz_h2 b7.size
  replace lz_h3 := Nat.le_trans lz_h3 b7.size
  replace bel := bel.trans (b7.mono bel.size)
  clear b7
  replace ps : Sl w7 (Ap) (12) (cp) (l4Ps a0 a1 a2 a3 a4 a5 a6 a7 pr (8 + (nd : Int))) := ps
  clear h1 h1w lz_h1
  clear h2 h2w lz_h2
  refine hK.out _ _ ⟨hp, hd⟩ (fun hH8 => ?_)
  clear hK K
  refine wpAnyH_ready (rs := [6]) (by kernel_rfl) (by simp) ?_
  refine AllReadyH.cons (o := _) rfl (fun K hK => ?_) AllReadyH.nil
  simp only [sq3]
  rw [if_pos (by rfl)]
  refine wp_lit_n 173 36 3 _ rfl #[.slice Ap 12 cp, .slice Ah3 6 ch3, .slice D nd cd] (.slice none 0 0) Tryz.underlying173 (by kernel_rfl) 1 (by kernel_rfl) (by decide) (by kernel_rfl) ?_
  intro g28 w9 ge lt hh bb
  have d_p_b28 := ne_new (hlt hp) ge
  have d_d_b28 := ne_new (hlt hd) ge
  have av_hb_b28 := hb.av_new ge
  have av_h3_b28 := h3.av_new ge
  have of_h3_b28 := own_new h3w ge
  have av_ps_b28 := ps.av_new ge
  have ob28 := Nat.le_trans bel.size ge
  replace hp := blk_u hp bb
  replace hd := blk_u hd bb
  replace hb := hb.below bb
  replace h3 := h3.below bb
  replace h3w := own_under h3w bb
  replace ps := ps.below bb
  replace lz_h3 := Nat.le_trans lz_h3 bb.size
  replace bel := bel.trans (bb.mono bel.size)
  have hb28 := hh
  clear hh lt ge bb
  have hs3 : Sls w9 (some ⟨g28, 0, none⟩) 3 [l4Ps a0 a1 a2 a3 a4 a5 a6 a7 pr (8 + (nd : Int)), [] ++ two df ++ two dt ++ two (8 + (nd : Int)), ld] := Sls.three ps h3 hb hb28
  refine hK.out _ _ ⟨hp, hd⟩ (fun hH10 => ?_)
  clear hK K
  simp only [sq4]
  refine wpAnyH_ready (rs := [7]) (by kernel_rfl) (by simp) ?_
  refine AllReadyH.cons (o := _) rfl (fun K hK => ?_) AllReadyH.nil
  simp only [sq3]
  go_simp
  with_reducible refine (many_any _ 3 3 _ _ (by unfold maxLen; omega) hs3).mono ?_
  rintro e _ ⟨rfl, rfl⟩
  dsimp only
  rw [HS.out]
  clear hs3
  refine hK.out _ _ ⟨hp, hd⟩ (fun hH11 => ?_)
  clear hK K
  refine wpAnyH_take (i := 8) (v := ?_) rfl (by kernel_rfl) (by kernel_rfl) (by kernel_rfl) (fun _ _ _ h => h) (Or.inl ⟨by rfl, ?_⟩) hH11 ?_
  rotate_left
  · ((intro W hW; clear hW; go_simp) <;> with_reducible rfl)
  simp only [sq3, sq4]
  refine wpAnyH_done (by kernel_rfl) ?_ _
  go_wp2_with fail
  replace bel := bel.drew
  replace hp : w9.drew.heap[g2]? = _ := hp
  replace hd : w9.drew.heap[g3]? = _ := hd
  replace hb28 : w9.drew.heap[g28]? = _ := hb28
  replace hb := hb.drew
  replace h3 := h3.drew
  replace h3w : w9.drew.ownsRow _ _ _ _ _ _ := h3w
  replace lz_h3 : _ ≤ w9.drew.heap.size := lz_h3
  replace ps := ps.drew
  refine wp_region_held_drew (S := fun W => W.heap[g3]? = some (.cells #[.int .i64 df, .int .i64 dt, .slice D nd cd] 54 (0, 0))) (by kernel_rfl) hd (fun hH => ?_)
  generalize w9.drew = w12 at bel hp hd hb28 hb h3 ps h3w lz_h3 hH ⊢
  refine wpAnyH_take (i := 0) (v := ?_) rfl (by kernel_rfl) (by kernel_rfl) (by kernel_rfl) (fun _ _ _ h => h) (Or.inl ⟨by rfl, ?_⟩) hH ?_
  rotate_left
  · ((intro W hW; clear hW; go_simp) <;> with_reducible rfl)
  simp only [Act.put, List.getElem_toArray, List.getElem_cons_zero, List.setIfInBounds_toArray, List.set_cons_zero, List.set_cons_succ]
  refine wpAnyH_take (i := 1) (v := ?_) rfl (by kernel_rfl) (by kernel_rfl) (by kernel_rfl) (fun _ _ _ h => h) (Or.inl ⟨by rfl, ?_⟩) hH ?_
  rotate_left
  · ((intro W hW; clear hW; go_simp) <;> with_reducible rfl)
  simp only [sq3, sq4]
  refine wpAnyH_take (i := 3) (v := ?_) rfl (by kernel_rfl) (by kernel_rfl) (by kernel_rfl) (fun _ _ _ h => h) (Or.inl ⟨by rfl, ?_⟩) hH ?_
  rotate_left
  · ((intro W hW; clear hW; go_simp) <;> with_reducible rfl)
  simp only [sq3, sq4]
  refine wpAnyH_take (i := 4) (v := ?_) rfl (by kernel_rfl) (by kernel_rfl) (by kernel_rfl) (fun _ _ _ h => h) (Or.inl ⟨by rfl, ?_⟩) hH ?_
  rotate_left
  · ((intro W hW; have hk := cell_lit (hW) 2 _ rfl; clear hW; go_simp) <;> with_reducible rfl)
  simp only [sq3, sq4]
  refine wpAnyH_ready (rs := [2]) (by kernel_rfl) (by simp) ?_
  refine AllReadyH.cons (o := _) rfl (fun K hK => ?_) AllReadyH.nil
  simp only [sq3]
  go_simp
  with_reducible refine (w16_oto _ 6 8 _ _ _ _ rfl h3 (by omega)).mono ?_
  rintro e w13 ⟨v, rfl, h4w, b13⟩
  dsimp only
  have y_h4_p := Lib.hid (hlt hp)
  have y_h4_d := Lib.hid (hlt hd)
  have y_h4_b28 := Lib.hid (hlt hb28)
  have bl_hb_h4 := hb.bl_new
  have bl_h3_h4 := h3.bl_new
  have bl_ps_h4 := ps.bl_new
  have h4lo := bel.size
  have lz_h4 := b13.size
  replace hp := blk_u hp b13
  replace hd := blk_u hd b13
  replace hb28 := blk_u hb28 b13
  replace hb := hb.below b13
  replace h3 := h3.below b13
  replace h3w := own_under h3w b13
  replace ps := ps.below b13
  replace lz_h3 := Nat.le_trans lz_h3 b13.size
  replace bel := bel.trans (b13.mono bel.size)
  clear b13
  obtain ⟨Ah4, ch4, rfl⟩ := own_val h4w
  have h4 := (own_sl h4w).1
  have fr_h4 := (own_sl h4w).2
  have av_h4_p := fr_h4.av y_h4_p.out
  have av_h4_d := fr_h4.av y_h4_d.out
  have av_h4_b28 := fr_h4.av y_h4_b28.out
  refine hK.out _ _ hd (fun hH14 => ?_)
  clear hK K
  refine wpAnyH_ready (rs := [5]) (by kernel_rfl) (by simp) ?_
  refine AllReadyH.cons (o := _) rfl (fun K hK => ?_) AllReadyH.nil
  simp only [sq3]
  rw [if_pos (by rfl)]
  refine wp_append_bb (.tmp 34) (.tmp 36) 36 rfl (w12.heap.size) 5 ii (.int .u8 0) Tryz.underlying36 hii hz0 hz1 hz2 rfl _ (8) ([] ++ two df ++ two dt ++ two (8 + (nd : Int)) ++ two 65535) rfl h4w (D) (nd) (cd) (ld) rfl hb (by omega) lz_h4 ?_
  intro v37 w15 own_ bb
  replace hb := hb.under bl_hb_h4 bb
  replace h3 := h3.under bl_h3_h4 bb
  clear h3w lz_h3
  replace ps := ps.under bl_ps_h4 bb
  replace hp := blk_under hp bb y_h4_p.out
  replace hd := blk_under hd bb y_h4_d.out
  replace hb28 := blk_under hb28 bb y_h4_b28.out
  replace bel := bel.trans (bb.mono h4lo)
  have lz_out := Nat.le_trans lz_h4 bb.size
  clear bb
  clear h4 h4w lz_h4
  replace own_ : w15.ownsRow (w12.heap.size) 5 1 v37 (8 + nd) (([] ++ two df ++ two dt ++ two (8 + (nd : Int)) ++ two 65535 ++ ld : List UInt8).map u8v) := own_
  obtain ⟨A37, c37, rfl⟩ := own_val own_
  have outw := own_
  have out := (own_sl own_).1
  have fr_out := (own_sl own_).2
  clear own_
  have av_out_p := fr_out.av y_h4_p.out
  have av_out_d := fr_out.av y_h4_d.out
  have av_out_b28 := fr_out.av y_h4_b28.out
  refine hK.out _ _ hd (fun hH16 => ?_)
  clear hK K
  simp only [sq4]
  refine wpAnyH_take (i := 6) (v := ?_) rfl (by kernel_rfl) (by kernel_rfl) (by kernel_rfl) (fun _ _ _ h => h) (Or.inl ⟨by rfl, ?_⟩) hH16 ?_
  rotate_left
  · ((intro W hW; clear hW; go_simp) <;> with_reducible rfl)
  simp only [sq3, sq4]
  refine wpAnyH_done (by kernel_rfl) ?_ _
  go_wp2_with fail
  go_ret
  exact ⟨_, rfl, ownsRow_mono outw (Nat.le_trans h4lo (Nat.le_refl _)), bel⟩
set_option maxRecDepth 100000 in
set_option maxHeartbeats 16000000 in
theorem udwrite_n (tos id fl pt ttl pr : Int) (a0 a1 a2 a3 a4 a5 a6 a7 : UInt8) (So Sb : Option Addr) (no co nb cb : Nat) (df dt : Int) (D : Option Addr) (nd cd : Nat) (ld : List UInt8) (sm : Int) (w : World) (hb : Sl w D nd cd ld) (hm : nd ≤ 1472) (hsm : ck [l4Ps a0 a1 a2 a3 a4 a5 a6 a7 pr (8 + (nd : Int)), [] ++ two df ++ two dt ++ two (8 + (nd : Int)), ld].flatten = sm) (hz : sm ≠ 0) : Calls Tryz.prog 55 #[.agg #[.int .i64 tos, .int .i64 id, .int .i64 fl, .int .i64 pt, .int .i64 ttl, .int .i64 pr, .int .u8 (a0.toNat : Int), .int .u8 (a1.toNat : Int), .int .u8 (a2.toNat : Int), .int .u8 (a3.toNat : Int), .int .u8 (a4.toNat : Int), .int .u8 (a5.toNat : Int), .int .u8 (a6.toNat : Int), .int .u8 (a7.toNat : Int), .slice So no co, .slice Sb nb cb], .agg #[.int .i64 df, .int .i64 dt, .slice D nd cd]] w fun e w' => ∃ v, e = .returned v ∧ w'.ownsRow w.heap.size 5 1 v (8 + nd) (([] ++ two df ++ two dt ++ two (8 + (nd : Int)) ++ two sm ++ ld).map u8v) ∧ Below w.heap.size w w' := by
  have HS : Hid (ck [l4Ps a0 a1 a2 a3 a4 a5 a6 a7 pr (8 + (nd : Int)), [] ++ two df ++ two dt ++ two (8 + (nd : Int)), ld].flatten = sm) := Lib.hid hsm
  have n0 : (0 : Int) ≤ nd := by omega
  have n1 : (nd : Int) ≤ 1472 := by omega
  clear hsm
  have t0 : (sm == 0) = false := by simpa using hz
  clear hz
  obtain ⟨ii, hii, hz0, hz1, hz2⟩ := info_parts Tryz.info5
  have bel := Below.refl w.heap.size w
  go_enter Tryz.func55, Tryz.ntmps55
  go_wp2_with (first | ((with_reducible show wpList _ _ _ (⟨some 2, _, _, _, _, _⟩ :: _) _ _); refine wpList_box_n rfl 38 (.tmp 0) rfl #[.int .i64 tos, .int .i64 id, .int .i64 fl, .int .i64 pt, .int .i64 ttl, .int .i64 pr, .int .u8 (a0.toNat : Int), .int .u8 (a1.toNat : Int), .int .u8 (a2.toNat : Int), .int .u8 (a3.toNat : Int), .int .u8 (a4.toNat : Int), .int .u8 (a5.toNat : Int), .int .u8 (a6.toNat : Int), .int .u8 (a7.toNat : Int), .slice So no co, .slice Sb nb cb] rfl ?_; intro g2 w1 ge lt hh bb; have av_hb_p := hb.av_new ge; have op := Nat.le_trans bel.size ge; replace hb := hb.below bb; replace bel := bel.trans (bb.mono bel.size); have hp := hh; clear hh lt ge bb) | ((with_reducible show wpList _ _ _ (⟨some 3, _, _, _, _, _⟩ :: _) _ _); refine wpList_box_n rfl 54 (.tmp 1) rfl #[.int .i64 df, .int .i64 dt, .slice D nd cd] rfl ?_; intro g3 w2 ge lt hh bb; have d_p_d := ne_new (hlt hp) ge; have av_hb_d := hb.av_new ge; have od := Nat.le_trans bel.size ge; replace hp := blk_u hp bb; replace hb := hb.below bb; replace bel := bel.trans (bb.mono bel.size); have hd := hh; clear hh lt ge bb; have R9 := cell_lit hd 2 _ rfl; have R13 := cell_lit hd 0 _ rfl))
  try clear R9
  try clear R13
  with_reducible refine (w16_oto _ 0 2 _ _ _ _ rfl (Sl.nil _) (by omega)).mono ?_
  rintro e w3 ⟨v, rfl, h1w, b3⟩
  have y_h1_p := Lib.hid (hlt hp)
  have y_h1_d := Lib.hid (hlt hd)
  have bl_hb_h1 := hb.bl_new
  have h1lo := bel.size
  have lz_h1 := b3.size
  replace hp := blk_u hp b3
  replace hd := blk_u hd b3
  replace hb := hb.below b3
  replace bel := bel.trans (b3.mono bel.size)
  clear b3
  obtain ⟨Ah1, ch1, rfl⟩ := own_val h1w
  have h1 := (own_sl h1w).1
  have fr_h1 := (own_sl h1w).2
  have av_h1_p := fr_h1.av y_h1_p.out
  have av_h1_d := fr_h1.av y_h1_d.out
  have R17 := cell_lit hd 1 _ rfl
  go_wp2_with fail
  clear R17
  with_reducible refine (w16_oto _ 2 4 _ _ _ _ rfl h1 (by omega)).mono ?_
  rintro e w4 ⟨v, rfl, h2w, b4⟩
  have y_h2_p := Lib.hid (hlt hp)
  have y_h2_d := Lib.hid (hlt hd)
  have bl_hb_h2 := hb.bl_new
  have bl_h1_h2 := h1.bl_new
  have h2lo := bel.size
  have lz_h2 := b4.size
  replace hp := blk_u hp b4
  replace hd := blk_u hd b4
  replace hb := hb.below b4
  replace h1 := h1.below b4
  replace h1w := own_under h1w b4
  replace lz_h1 := Nat.le_trans lz_h1 b4.size
  replace bel := bel.trans (b4.mono bel.size)
  clear b4
  obtain ⟨Ah2, ch2, rfl⟩ := own_val h2w
  have h2 := (own_sl h2w).1
  have fr_h2 := (own_sl h2w).2
  have av_h2_p := fr_h2.av y_h2_p.out
  have av_h2_d := fr_h2.av y_h2_d.out
  go_wp2_with fail
  with_reducible refine (w16_oto _ 4 6 _ _ _ _ rfl h2 (by omega)).mono ?_
  rintro e w5 ⟨v, rfl, h3w, b5⟩
  have y_h3_p := Lib.hid (hlt hp)
  have y_h3_d := Lib.hid (hlt hd)
  have bl_hb_h3 := hb.bl_new
  have bl_h1_h3 := h1.bl_new
  have bl_h2_h3 := h2.bl_new
  have h3lo := bel.size
  have lz_h3 := b5.size
  replace hp := blk_u hp b5
  replace hd := blk_u hd b5
  replace hb := hb.below b5
  replace h1 := h1.below b5
  replace h1w := own_under h1w b5
  replace h2 := h2.below b5
  replace h2w := own_under h2w b5
  replace lz_h1 := Nat.le_trans lz_h1 b5.size
  replace lz_h2 := Nat.le_trans lz_h2 b5.size
  replace bel := bel.trans (b5.mono bel.size)
  clear b5
  obtain ⟨Ah3, ch3, rfl⟩ := own_val h3w
  have h3 := (own_sl h3w).1
  have fr_h3 := (own_sl h3w).2
  have av_h3_p := fr_h3.av y_h3_p.out
  have av_h3_d := fr_h3.av y_h3_d.out
  go_wp2_with fail
  replace bel := bel.drew
  replace hp : w5.drew.heap[g2]? = _ := hp
  replace hd : w5.drew.heap[g3]? = _ := hd
  replace hb := hb.drew
  replace h1 := h1.drew
  replace h1w : w5.drew.ownsRow _ _ _ _ _ _ := h1w
  replace lz_h1 : _ ≤ w5.drew.heap.size := lz_h1
  replace h2 := h2.drew
  replace h2w : w5.drew.ownsRow _ _ _ _ _ _ := h2w
  replace lz_h2 : _ ≤ w5.drew.heap.size := lz_h2
  replace h3 := h3.drew
  replace h3w : w5.drew.ownsRow _ _ _ _ _ _ := h3w
  replace lz_h3 : _ ≤ w5.drew.heap.size := lz_h3
  refine wp_region_held_drew (S := fun W => W.heap[g2]? = some (.cells #[.int .i64 tos, .int .i64 id, .int .i64 fl, .int .i64 pt, .int .i64 ttl, .int .i64 pr, .int .u8 (a0.toNat : Int), .int .u8 (a1.toNat : Int), .int .u8 (a2.toNat : Int), .int .u8 (a3.toNat : Int), .int .u8 (a4.toNat : Int), .int .u8 (a5.toNat : Int), .int .u8 (a6.toNat : Int), .int .u8 (a7.toNat : Int), .slice So no co, .slice Sb nb cb] 38 (0, 0)) ∧ W.heap[g3]? = some (.cells #[.int .i64 df, .int .i64 dt, .slice D nd cd] 54 (0, 0))) (by kernel_rfl) ⟨hp, hd⟩ (fun hH => ?_)
  generalize w5.drew = w6 at bel hp hd hb h1 h2 h3 h1w h2w h3w lz_h1 lz_h2 lz_h3 hH ⊢
  refine wpAnyH_take (i := 0) (v := .agg #[.int .i64 tos, .int .i64 id, .int .i64 fl, .int .i64 pt, .int .i64 ttl, .int .i64 pr, .int .u8 (a0.toNat : Int), .int .u8 (a1.toNat : Int), .int .u8 (a2.toNat : Int), .int .u8 (a3.toNat : Int), .int .u8 (a4.toNat : Int), .int .u8 (a5.toNat : Int), .int .u8 (a6.toNat : Int), .int .u8 (a7.toNat : Int), .slice So no co, .slice Sb nb cb]) rfl (by kernel_rfl) (by kernel_rfl) (by kernel_rfl) (fun _ _ _ h => h) (yieldsIf_load_part (by kernel_rfl) 38 _ rfl g2 0 16 rfl _ 38 (0, 0) (fun W hW => hW.1) _ rfl _ Tryz.underlying38 rfl (by kernel_rfl)) hH ?_
  simp only [Act.put, List.getElem_toArray, List.getElem_cons_zero, List.setIfInBounds_toArray, List.set_cons_zero, List.set_cons_succ]
  refine wpAnyH_take (i := 1) (v := ?_) rfl (by kernel_rfl) (by kernel_rfl) (by kernel_rfl) (fun _ _ _ h => h) (Or.inl ⟨by rfl, ?_⟩) hH ?_
  rotate_left
  · ((intro W hW; clear hW; go_simp) <;> with_reducible rfl)
  simp only [sq3, sq4]
  refine wpAnyH_take (i := 3) (v := ?_) rfl (by kernel_rfl) (by kernel_rfl) (by kernel_rfl) (fun _ _ _ h => h) (Or.inl ⟨by rfl, ?_⟩) hH ?_
  rotate_left
  · ((intro W hW; clear hW; go_simp) <;> with_reducible rfl)
  simp only [sq3, sq4]
  refine wpAnyH_take (i := 4) (v := ?_) rfl (by kernel_rfl) (by kernel_rfl) (by kernel_rfl) (fun _ _ _ h => h) (Or.inl ⟨by rfl, ?_⟩) hH ?_
  rotate_left
  · ((intro W hW; clear hW; go_simp) <;> with_reducible rfl)
  simp only [sq3, sq4]
  refine wpAnyH_take (i := 5) (v := ?_) rfl (by kernel_rfl) (by kernel_rfl) (by kernel_rfl) (fun _ _ _ h => h) (Or.inl ⟨by rfl, ?_⟩) hH ?_
  rotate_left
  · ((intro W hW; have hk := cell_lit (hW.2) 2 _ rfl; clear hW; go_simp) <;> with_reducible rfl)
  simp only [sq3, sq4]
  refine wpAnyH_ready (rs := [2]) (by kernel_rfl) (by simp) ?_
  refine AllReadyH.cons (o := _) rfl (fun K hK => ?_) AllReadyH.nil
  simp only [sq3]
  go_simp
  with_reducible refine (ippseudo_any _ _ _ _ _ _ _ _ _ _ _ _ _ _ _ _ _ _ _ _ _ _).mono ?_
  rintro e w7 ⟨Ap, cp, rfl, ps, b7⟩
  dsimp only
  replace hp := blk_u hp b7
  replace hd := blk_u hd b7
  replace hb := hb.below b7
  replace h1 := h1.below b7
  replace h1w := own_under h1w b7
  replace h2 := h2.below b7
  replace h2w := own_under h2w b7
  replace h3 := h3.below b7
  replace h3w := own_under h3w b7
  replace lz_h1 := Nat.le_trans lz_h1 b7.size
  replace lz_h2 := Nat.le_trans lz_h2 b7.size
  replace lz_h3 := Nat.le_trans lz_h3 b7.size
  replace bel := bel.trans (b7.mono bel.size)
  clear b7
  replace ps : Sl w7 (Ap) (12) (cp) (l4Ps a0 a1 a2 a3 a4 a5 a6 a7 pr (8 + (nd : Int))) := ps
  clear h1 h1w lz_h1
  clear h2 h2w lz_h2
  refine hK.out _ _ ⟨hp, hd⟩ (fun hH8 => ?_)
  clear hK K
  refine wpAnyH_ready (rs := [6]) (by kernel_rfl) (by simp) ?_
  refine AllReadyH.cons (o := _) rfl (fun K hK => ?_) AllReadyH.nil
  simp only [sq3]
  rw [if_pos (by rfl)]
  refine wp_lit_n 173 36 3 _ rfl #[.slice Ap 12 cp, .slice Ah3 6 ch3, .slice D nd cd] (.slice none 0 0) Tryz.underlying173 (by kernel_rfl) 1 (by kernel_rfl) (by decide) (by kernel_rfl) ?_
  intro g28 w9 ge lt hh bb
  have d_p_b28 := ne_new (hlt hp) ge
  have d_d_b28 := ne_new (hlt hd) ge
  have av_hb_b28 := hb.av_new ge
  have av_h3_b28 := h3.av_new ge
  have of_h3_b28 := own_new h3w ge
  have av_ps_b28 := ps.av_new ge
  have ob28 := Nat.le_trans bel.size ge
  replace hp := blk_u hp bb
  replace hd := blk_u hd bb
  replace hb := hb.below bb
  replace h3 := h3.below bb
  replace h3w := own_under h3w bb
  replace ps := ps.below bb
  replace lz_h3 := Nat.le_trans lz_h3 bb.size
  replace bel := bel.trans (bb.mono bel.size)
  have hb28 := hh
  clear hh lt ge bb
  have hs3 : Sls w9 (some ⟨g28, 0, none⟩) 3 [l4Ps a0 a1 a2 a3 a4 a5 a6 a7 pr (8 + (nd : Int)), [] ++ two df ++ two dt ++ two (8 + (nd : Int)), ld] := Sls.three ps h3 hb hb28
  refine hK.out _ _ ⟨hp, hd⟩ (fun hH10 => ?_)
  clear hK K
  simp only [sq4]
  refine wpAnyH_ready (rs := [7]) (by kernel_rfl) (by simp) ?_
  refine AllReadyH.cons (o := _) rfl (fun K hK => ?_) AllReadyH.nil
  simp only [sq3]
  go_simp
  with_reducible refine (many_any _ 3 3 _ _ (by unfold maxLen; omega) hs3).mono ?_
  rintro e _ ⟨rfl, rfl⟩
  dsimp only
  rw [HS.out]
  clear hs3
  refine hK.out _ _ ⟨hp, hd⟩ (fun hH11 => ?_)
  clear hK K
  refine wpAnyH_take (i := 8) (v := ?_) rfl (by kernel_rfl) (by kernel_rfl) (by kernel_rfl) (fun _ _ _ h => h) (Or.inl ⟨by rfl, ?_⟩) hH11 ?_
  rotate_left
  · ((intro W hW; clear hW; go_simp) <;> with_reducible rfl)
  simp only [sq3, sq4]
  refine wpAnyH_done (by kernel_rfl) ?_ _
  go_wp2_with fail
  replace bel := bel.drew
  replace hp : w9.drew.heap[g2]? = _ := hp
  replace hd : w9.drew.heap[g3]? = _ := hd
  replace hb28 : w9.drew.heap[g28]? = _ := hb28
  replace hb := hb.drew
  replace h3 := h3.drew
  replace h3w : w9.drew.ownsRow _ _ _ _ _ _ := h3w
  replace lz_h3 : _ ≤ w9.drew.heap.size := lz_h3
  replace ps := ps.drew
  refine wp_region_held_drew (S := fun W => W.heap[g3]? = some (.cells #[.int .i64 df, .int .i64 dt, .slice D nd cd] 54 (0, 0))) (by kernel_rfl) hd (fun hH => ?_)
  generalize w9.drew = w12 at bel hp hd hb28 hb h3 ps h3w lz_h3 hH ⊢
  refine wpAnyH_take (i := 0) (v := ?_) rfl (by kernel_rfl) (by kernel_rfl) (by kernel_rfl) (fun _ _ _ h => h) (Or.inl ⟨by rfl, ?_⟩) hH ?_
  rotate_left
  · ((intro W hW; clear hW; go_simp) <;> with_reducible rfl)
  simp only [Act.put, List.getElem_toArray, List.getElem_cons_zero, List.setIfInBounds_toArray, List.set_cons_zero, List.set_cons_succ]
  refine wpAnyH_take (i := 1) (v := ?_) rfl (by kernel_rfl) (by kernel_rfl) (by kernel_rfl) (fun _ _ _ h => h) (Or.inl ⟨by rfl, ?_⟩) hH ?_
  rotate_left
  · ((intro W hW; clear hW; go_simp) <;> with_reducible rfl)
  simp only [sq3, sq4]
  refine wpAnyH_take (i := 3) (v := ?_) rfl (by kernel_rfl) (by kernel_rfl) (by kernel_rfl) (fun _ _ _ h => h) (Or.inl ⟨by rfl, ?_⟩) hH ?_
  rotate_left
  · ((intro W hW; clear hW; go_simp) <;> with_reducible rfl)
  simp only [sq3, sq4]
  refine wpAnyH_take (i := 4) (v := ?_) rfl (by kernel_rfl) (by kernel_rfl) (by kernel_rfl) (fun _ _ _ h => h) (Or.inl ⟨by rfl, ?_⟩) hH ?_
  rotate_left
  · ((intro W hW; have hk := cell_lit (hW) 2 _ rfl; clear hW; go_simp) <;> with_reducible rfl)
  simp only [sq3, sq4]
  refine wpAnyH_ready (rs := [2]) (by kernel_rfl) (by simp) ?_
  refine AllReadyH.cons (o := _) rfl (fun K hK => ?_) AllReadyH.nil
  simp only [sq3]
  go_simp
  with_reducible refine (w16_oto _ 6 8 _ _ _ _ rfl h3 (by omega)).mono ?_
  rintro e w13 ⟨v, rfl, h4w, b13⟩
  dsimp only
  have y_h4_p := Lib.hid (hlt hp)
  have y_h4_d := Lib.hid (hlt hd)
  have y_h4_b28 := Lib.hid (hlt hb28)
  have bl_hb_h4 := hb.bl_new
  have bl_h3_h4 := h3.bl_new
  have bl_ps_h4 := ps.bl_new
  have h4lo := bel.size
  have lz_h4 := b13.size
  replace hp := blk_u hp b13
  replace hd := blk_u hd b13
  replace hb28 := blk_u hb28 b13
  replace hb := hb.below b13
  replace h3 := h3.below b13
  replace h3w := own_under h3w b13
  replace ps := ps.below b13
  replace lz_h3 := Nat.le_trans lz_h3 b13.size
  replace bel := bel.trans (b13.mono bel.size)
  clear b13
  obtain ⟨Ah4, ch4, rfl⟩ := own_val h4w
  have h4 := (own_sl h4w).1
  have fr_h4 := (own_sl h4w).2
  have av_h4_p := fr_h4.av y_h4_p.out
  have av_h4_d := fr_h4.av y_h4_d.out
  have av_h4_b28 := fr_h4.av y_h4_b28.out
  refine hK.out _ _ hd (fun hH14 => ?_)
  clear hK K
  refine wpAnyH_ready (rs := [5]) (by kernel_rfl) (by simp) ?_
  refine AllReadyH.cons (o := _) rfl (fun K hK => ?_) AllReadyH.nil
  simp only [sq3]
  rw [if_pos (by rfl)]
  refine wp_append_bb (.tmp 34) (.tmp 36) 36 rfl (w12.heap.size) 5 ii (.int .u8 0) Tryz.underlying36 hii hz0 hz1 hz2 rfl _ (8) ([] ++ two df ++ two dt ++ two (8 + (nd : Int)) ++ two sm) rfl h4w (D) (nd) (cd) (ld) rfl hb (by omega) lz_h4 ?_
  intro v37 w15 own_ bb
  replace hb := hb.under bl_hb_h4 bb
  replace h3 := h3.under bl_h3_h4 bb
  clear h3w lz_h3
  replace ps := ps.under bl_ps_h4 bb
  replace hp := blk_under hp bb y_h4_p.out
  replace hd := blk_under hd bb y_h4_d.out
  replace hb28 := blk_under hb28 bb y_h4_b28.out
  replace bel := bel.trans (bb.mono h4lo)
  have lz_out := Nat.le_trans lz_h4 bb.size
  clear bb
  clear h4 h4w lz_h4
  replace own_ : w15.ownsRow (w12.heap.size) 5 1 v37 (8 + nd) (([] ++ two df ++ two dt ++ two (8 + (nd : Int)) ++ two sm ++ ld : List UInt8).map u8v) := own_
  obtain ⟨A37, c37, rfl⟩ := own_val own_
  have outw := own_
  have out := (own_sl own_).1
  have fr_out := (own_sl own_).2
  clear own_
  have av_out_p := fr_out.av y_h4_p.out
  have av_out_d := fr_out.av y_h4_d.out
  have av_out_b28 := fr_out.av y_h4_b28.out
  refine hK.out _ _ hd (fun hH16 => ?_)
  clear hK K
  simp only [sq4]
  refine wpAnyH_take (i := 6) (v := ?_) rfl (by kernel_rfl) (by kernel_rfl) (by kernel_rfl) (fun _ _ _ h => h) (Or.inl ⟨by rfl, ?_⟩) hH16 ?_
  rotate_left
  · ((intro W hW; clear hW; go_simp) <;> with_reducible rfl)
  simp only [sq3, sq4]
  refine wpAnyH_done (by kernel_rfl) ?_ _
  go_wp2_with fail
  go_ret
  exact ⟨_, rfl, ownsRow_mono outw (Nat.le_trans h4lo (Nat.le_refl _)), bel⟩
theorem udwrite_any (tos id fl pt ttl : Int) (a0 a1 a2 a3 a4 a5 a6 a7 : UInt8) (So Sb : Option Addr) (no co nb cb : Nat) (df dt : Int) (D : Option Addr) (nd cd : Nat) (ld : List UInt8) (w : World) (hb : Sl w D nd cd ld) (hm : nd ≤ 1472) : Calls Tryz.prog 55 #[.agg #[.int .i64 tos, .int .i64 id, .int .i64 fl, .int .i64 pt, .int .i64 ttl, .int .i64 17, .int .u8 (a0.toNat : Int), .int .u8 (a1.toNat : Int), .int .u8 (a2.toNat : Int), .int .u8 (a3.toNat : Int), .int .u8 (a4.toNat : Int), .int .u8 (a5.toNat : Int), .int .u8 (a6.toNat : Int), .int .u8 (a7.toNat : Int), .slice So no co, .slice Sb nb cb], .agg #[.int .i64 df, .int .i64 dt, .slice D nd cd]] w fun e w' => ∃ v, e = .returned v ∧ w'.ownsRow w.heap.size 5 1 v (8 + nd) ((udBytes a0 a1 a2 a3 a4 a5 a6 a7 df dt ld).map u8v) ∧ Below w.heap.size w w' := by
  have hl := hb.1
  subst hl
  by_cases hz : ck [l4Ps a0 a1 a2 a3 a4 a5 a6 a7 17 (8 + (ld.length : Int)), [] ++ two df ++ two dt ++ two (8 + (ld.length : Int)), ld].flatten = 0
  · refine (udwrite_z tos id fl pt ttl 17 a0 a1 a2 a3 a4 a5 a6 a7 So Sb no co nb cb df dt D _ cd ld _ w hb hm rfl hz).mono ?_
    rintro e w' ⟨v, rfl, ho, bel⟩
    refine ⟨v, rfl, ?_, bel⟩
    have e1 : udSum a0 a1 a2 a3 a4 a5 a6 a7 df dt ld = 65535 := if_pos hz
    unfold udBytes
    rw [e1]
    exact ho
  · refine (udwrite_n tos id fl pt ttl 17 a0 a1 a2 a3 a4 a5 a6 a7 So Sb no co nb cb df dt D _ cd ld _ w hb hm rfl hz).mono ?_
    rintro e w' ⟨v, rfl, ho, bel⟩
    refine ⟨v, rfl, ?_, bel⟩
    have e1 : udSum a0 a1 a2 a3 a4 a5 a6 a7 df dt ld = ck [l4Ps a0 a1 a2 a3 a4 a5 a6 a7 17 (8 + (ld.length : Int)), [] ++ two df ++ two dt ++ two (8 + (ld.length : Int)), ld].flatten := if_neg hz
    unfold udBytes
    rw [e1]
    exact ho
set_option maxRecDepth 100000 in
set_option maxHeartbeats 16000000 in
theorem udput_ok (tos id fl pt ttl pr : Int) (a0 a1 a2 a3 a4 a5 a6 a7 : UInt8) (So Sb : Option Addr) (no co nb cb : Nat) (df dt : Int) (D : Option Addr) (nd cd : Nat) (lo ld : List UInt8) (w : World) (ho : Sl w So no co lo) (hb : Sl w D nd cd ld) (h1 : portOk df = true) (h2 : portOk dt = true) (hn : nd ≤ 1472) (hno : no ≤ 100000) : Calls Tryz.prog 25 #[.agg #[.int .i64 tos, .int .i64 id, .int .i64 fl, .int .i64 pt, .int .i64 ttl, .int .i64 pr, .int .u8 (a0.toNat : Int), .int .u8 (a1.toNat : Int), .int .u8 (a2.toNat : Int), .int .u8 (a3.toNat : Int), .int .u8 (a4.toNat : Int), .int .u8 (a5.toNat : Int), .int .u8 (a6.toNat : Int), .int .u8 (a7.toNat : Int), .slice So no co, .slice Sb nb cb], .agg #[.int .i64 df, .int .i64 dt, .slice D nd cd]] w (PkPost (udPut tos id fl pt ttl a0 a1 a2 a3 a4 a5 a6 a7 lo df dt ld) w) := by
  obtain ⟨ii, hii, hz0, hz1, hz2⟩ := info_parts Tryz.info5
  have H1 := Lib.hid h1
  have H2 := Lib.hid h2
  have HL1 := Lib.hid ho.1
  have HL2 : Hid ((udBytes a0 a1 a2 a3 a4 a5 a6 a7 df dt ld).length = 8 + nd) := Lib.hid (by rw [udBytes_len, hb.1])
  have HP : Hid (udPut tos id fl pt ttl a0 a1 a2 a3 a4 a5 a6 a7 lo df dt ld = (([tos, id, fl, pt, ttl, 17], [a0, a1, a2, a3, a4, a5, a6, a7]), (lo, udBytes a0 a1 a2 a3 a4 a5 a6 a7 df dt ld), 0)) := Lib.hid (by unfold udPut; rw [if_neg (by rw [h1, h2]; decide), if_neg (by rw [hb.1]; omega)])
  have t0 : decide ((1472 : Int) < nd) = false := decide_eq_false (by omega)
  have HN := Lib.hid hn
  have HNO := Lib.hid hno
  clear h1 h2 hn hno
  have bel := Below.refl w.heap.size w
  go_enter Tryz.func25, Tryz.ntmps25
  go_wp2_with (first | ((with_reducible show wpList _ _ _ (⟨some 2, _, _, _, _, _⟩ :: _) _ _); refine wpList_box_n rfl 38 (.tmp 0) rfl #[.int .i64 tos, .int .i64 id, .int .i64 fl, .int .i64 pt, .int .i64 ttl, .int .i64 pr, .int .u8 (a0.toNat : Int), .int .u8 (a1.toNat : Int), .int .u8 (a2.toNat : Int), .int .u8 (a3.toNat : Int), .int .u8 (a4.toNat : Int), .int .u8 (a5.toNat : Int), .int .u8 (a6.toNat : Int), .int .u8 (a7.toNat : Int), .slice So no co, .slice Sb nb cb] rfl ?_; intro g2 w1 ge lt hh bb; have av_ho_p := ho.av_new ge; have av_hb_p := hb.av_new ge; have op := Nat.le_trans bel.size ge; replace ho := ho.below bb; replace hb := hb.below bb; replace bel := bel.trans (bb.mono bel.size); have hp := hh; clear hh lt ge bb) | ((with_reducible show wpList _ _ _ (⟨some 3, _, _, _, _, _⟩ :: _) _ _); refine wpList_box_n rfl 54 (.tmp 1) rfl #[.int .i64 df, .int .i64 dt, .slice D nd cd] rfl ?_; intro g3 w2 ge lt hh bb; have d_p_d := ne_new (hlt hp) ge; have av_ho_d := ho.av_new ge; have av_hb_d := hb.av_new ge; have od := Nat.le_trans bel.size ge; replace hp := blk_u hp bb; replace ho := ho.below bb; replace hb := hb.below bb; replace bel := bel.trans (bb.mono bel.size); have hd := hh; clear hh lt ge bb) | ((with_reducible show wpList _ _ _ (⟨some 4, _, _, _, _, _⟩ :: _) _ _); refine wpList_new_a rfl 38 rfl #[.int .i64 0, .int .i64 0, .int .i64 0, .int .i64 0, .int .i64 0, .int .i64 0, .int .u8 0, .int .u8 0, .int .u8 0, .int .u8 0, .int .u8 0, .int .u8 0, .int .u8 0, .int .u8 0, .slice none 0 0, .slice none 0 0] (by kernel_rfl) ?_; intro g4 w3 ge hh bb; have d_p_z := ne_new (hlt hp) ge; have d_d_z := ne_new (hlt hd) ge; have av_ho_z := ho.av_new ge; have av_hb_z := hb.av_new ge; have oz := Nat.le_trans bel.size ge; replace hp := blk_u hp bb; replace hd := blk_u hd bb; replace ho := ho.below bb; replace hb := hb.below bb; replace bel := bel.trans (bb.mono bel.size); have hz := hh; clear hh ge bb; have R7 := cell_lit hd 0 _ rfl))
  try clear R7
  with_reducible refine (port_any _ _).mono ?_
  rintro e _ ⟨rfl, rfl⟩
  rw [H1.out]
  have R12 := cell_lit hd 1 _ rfl
  go_wp2_with fail
  clear R12
  with_reducible refine (port_any _ _).mono ?_
  rintro e _ ⟨rfl, rfl⟩
  rw [H2.out]
  have R18 := cell_lit hd 2 _ rfl
  go_wp2_with (first | ((with_reducible show wpList _ _ _ (⟨none, Op.store _ (.tmp 22) _, _, _, _, _⟩ :: _) _ _); refine wpList_store_part rfl 3 (.tmp 22) (.const (.int .i64 17)) rfl g2 5 rfl [.int .i64 17] rfl [.int .i64 tos, .int .i64 id, .int .i64 fl, .int .i64 pt, .int .i64 ttl, .int .i64 pr, .int .u8 (a0.toNat : Int), .int .u8 (a1.toNat : Int), .int .u8 (a2.toNat : Int), .int .u8 (a3.toNat : Int), .int .u8 (a4.toNat : Int), .int .u8 (a5.toNat : Int), .int .u8 (a6.toNat : Int), .int .u8 (a7.toNat : Int), .slice So no co, .slice Sb nb cb] 38 hp (by simp) [.int .i64 tos, .int .i64 id, .int .i64 fl, .int .i64 pt, .int .i64 ttl, .int .i64 17, .int .u8 (a0.toNat : Int), .int .u8 (a1.toNat : Int), .int .u8 (a2.toNat : Int), .int .u8 (a3.toNat : Int), .int .u8 (a4.toNat : Int), .int .u8 (a5.toNat : Int), .int .u8 (a6.toNat : Int), .int .u8 (a7.toNat : Int), .slice So no co, .slice Sb nb cb] rfl (by kernel_rfl) (by rfl) ?_; intro w4 hq gr; replace ho := ho.away av_ho_p gr; replace hb := hb.away av_hb_p gr; replace hd := blk_a hd gr (ne_symm d_p_d); replace hz := blk_a hz gr (ne_symm d_p_z); replace bel := below_grown bel gr op bel.size; clear hp; have hp := hq; clear hq gr) | ((with_reducible show wpList _ _ _ (⟨some 23, _, _, _, _, _⟩ :: _) _ _); refine wpList_lit_n rfl 36 5 0 _ rfl #[] (.int .u8 0) Tryz.underlying36 (by kernel_rfl) 1 (by kernel_rfl) (by decide) (by kernel_rfl) ?_; intro g23 w5 ge lt hh bb; have hl : w5.heap[g23]? = some (.cells (([] : List UInt8).map u8v).toArray 5 (0, 0)) := (by simpa [u8v, byteOf_val] using hh); have e0w := own_lit (B := w4.heap.size) ([]) hl ge 0 rfl (by simp [maxLen]); have e0 := (own_sl e0w).1; have e0lo := bel.size; clear hl; have e0ge := ge; have lz_e0 := bb.size; have y_e0_p := Lib.hid (hlt hp); have y_e0_d := Lib.hid (hlt hd); have y_e0_z := Lib.hid (hlt hz); have bl_ho_e0 := ho.bl_new; have bl_hb_e0 := hb.bl_new; replace hp := blk_u hp bb; replace hd := blk_u hd bb; replace hz := blk_u hz bb; replace ho := ho.below bb; replace hb := hb.below bb; replace bel := bel.trans (bb.mono bel.size); clear hh lt ge bb; have av_e0_p := (own_sl e0w).2.av y_e0_p.out; have av_e0_d := (own_sl e0w).2.av y_e0_d.out; have av_e0_z := (own_sl e0w).2.av y_e0_z.out; have R25 := cell_lit hp 14 _ rfl) | ((with_reducible show wpList _ _ _ (⟨some 26, _, _, _, _, _⟩ :: _) _ _); refine wpList_append_bb _ rfl (.tmp 23) (.tmp 25) 36 rfl (w4.heap.size) 5 ii (.int .u8 0) Tryz.underlying36 hii hz0 hz1 hz2 rfl _ (0) ([]) rfl e0w (So) (no) (co) (lo) rfl ho (by have := HNO.out; omega) lz_e0 ?_; intro v26 w6 own_ bb; replace ho := ho.under bl_ho_e0 bb; replace hb := hb.under bl_hb_e0 bb; replace hp := blk_under hp bb y_e0_p.out; replace hd := blk_under hd bb y_e0_d.out; replace hz := blk_under hz bb y_e0_z.out; replace bel := bel.trans (bb.mono e0lo); have lz_so := Nat.le_trans lz_e0 bb.size; clear bb; clear e0 e0w lz_e0; replace own_ : w6.ownsRow (w4.heap.size) 5 1 v26 (no) ((lo : List UInt8).map u8v) := (by simpa using own_); obtain ⟨A26, c26, rfl⟩ := own_val own_; have sow := own_; have so := (own_sl own_).1; have fr_so := (own_sl own_).2; clear own_; have av_so_p := fr_so.av y_e0_p.out; have av_so_d := fr_so.av y_e0_d.out; have av_so_z := fr_so.av y_e0_z.out) | ((with_reducible show wpList _ _ _ (⟨none, Op.store _ (.tmp 27) _, _, _, _, _⟩ :: _) _ _); refine wpList_store_part rfl 36 (.tmp 27) (.tmp 26) rfl g2 14 rfl [.slice A26 no c26] rfl [.int .i64 tos, .int .i64 id, .int .i64 fl, .int .i64 pt, .int .i64 ttl, .int .i64 17, .int .u8 (a0.toNat : Int), .int .u8 (a1.toNat : Int), .int .u8 (a2.toNat : Int), .int .u8 (a3.toNat : Int), .int .u8 (a4.toNat : Int), .int .u8 (a5.toNat : Int), .int .u8 (a6.toNat : Int), .int .u8 (a7.toNat : Int), .slice So no co, .slice Sb nb cb] 38 hp (by simp) [.int .i64 tos, .int .i64 id, .int .i64 fl, .int .i64 pt, .int .i64 ttl, .int .i64 17, .int .u8 (a0.toNat : Int), .int .u8 (a1.toNat : Int), .int .u8 (a2.toNat : Int), .int .u8 (a3.toNat : Int), .int .u8 (a4.toNat : Int), .int .u8 (a5.toNat : Int), .int .u8 (a6.toNat : Int), .int .u8 (a7.toNat : Int), .slice A26 no c26, .slice Sb nb cb] rfl (by kernel_rfl) (by rfl) ?_; intro w7 hq gr; replace ho := ho.away av_ho_p gr; replace hb := hb.away av_hb_p gr; replace so := so.away av_so_p gr; replace sow := own_away sow y_e0_p.out gr; replace lz_so := Nat.le_trans lz_so gr.size; replace hd := blk_a hd gr (ne_symm d_p_d); replace hz := blk_a hz gr (ne_symm d_p_z); replace bel := below_grown bel gr op bel.size; clear hp; have hp := hq; clear hq gr; have R28 := Lib.hid (range_lit hp 0 16 [.int .i64 tos, .int .i64 id, .int .i64 fl, .int .i64 pt, .int .i64 ttl, .int .i64 17, .int .u8 (a0.toNat : Int), .int .u8 (a1.toNat : Int), .int .u8 (a2.toNat : Int), .int .u8 (a3.toNat : Int), .int .u8 (a4.toNat : Int), .int .u8 (a5.toNat : Int), .int .u8 (a6.toNat : Int), .int .u8 (a7.toNat : Int), .slice A26 no c26, .slice Sb nb cb] rfl)) | ((with_reducible show wpList _ _ _ (⟨some 28, _, _, _, _, _⟩ :: _) _ _); refine wpList_load_rng 38 (.tmp 2) rfl (by kernel_rfl) _ _ rfl _ R28.out _ Tryz.underlying38 rfl (by kernel_rfl) ?_; have R29 := Lib.hid (range_lit hd 0 3 [.int .i64 df, .int .i64 dt, .slice D nd cd] rfl)) | ((with_reducible show wpList _ _ _ (⟨some 29, _, _, _, _, _⟩ :: _) _ _); refine wpList_load_rng 54 (.tmp 3) rfl (by kernel_rfl) _ _ rfl _ R29.out _ Tryz.underlying54 rfl (by kernel_rfl) ?_))
  try clear R18
  try clear R25
  try clear R28
  try clear R29
  with_reducible refine (udwrite_any _ _ _ _ _ _ _ _ _ _ _ _ _ _ _ _ _ _ _ _ _ _ _ _ ld _ hb HN.out).mono ?_
  rintro e w8 ⟨v, rfl, sbw, b8⟩
  have y_sb_p := Lib.hid (hlt hp)
  have y_sb_d := Lib.hid (hlt hd)
  have y_sb_z := Lib.hid (hlt hz)
  have bl_ho_sb := ho.bl_new
  have bl_hb_sb := hb.bl_new
  have bl_so_sb := so.bl_new
  have sblo := bel.size
  have lz_sb := b8.size
  replace hp := blk_u hp b8
  replace hd := blk_u hd b8
  replace hz := blk_u hz b8
  replace ho := ho.below b8
  replace hb := hb.below b8
  replace so := so.below b8
  replace sow := own_under sow b8
  replace lz_so := Nat.le_trans lz_so b8.size
  replace bel := bel.trans (b8.mono bel.size)
  clear b8
  obtain ⟨Asb, csb, rfl⟩ := own_val sbw
  have sb := (own_sl sbw).1
  have fr_sb := (own_sl sbw).2
  have av_sb_p := fr_sb.av y_sb_p.out
  have av_sb_d := fr_sb.av y_sb_d.out
  have av_sb_z := fr_sb.av y_sb_z.out
  go_wp2_with (first | ((with_reducible show wpList _ _ _ (⟨none, Op.store _ (.tmp 31) _, _, _, _, _⟩ :: _) _ _); refine wpList_store_part rfl 36 (.tmp 31) (.tmp 30) rfl g2 15 rfl [.slice Asb (8 + nd) csb] rfl [.int .i64 tos, .int .i64 id, .int .i64 fl, .int .i64 pt, .int .i64 ttl, .int .i64 17, .int .u8 (a0.toNat : Int), .int .u8 (a1.toNat : Int), .int .u8 (a2.toNat : Int), .int .u8 (a3.toNat : Int), .int .u8 (a4.toNat : Int), .int .u8 (a5.toNat : Int), .int .u8 (a6.toNat : Int), .int .u8 (a7.toNat : Int), .slice A26 no c26, .slice Sb nb cb] 38 hp (by simp) [.int .i64 tos, .int .i64 id, .int .i64 fl, .int .i64 pt, .int .i64 ttl, .int .i64 17, .int .u8 (a0.toNat : Int), .int .u8 (a1.toNat : Int), .int .u8 (a2.toNat : Int), .int .u8 (a3.toNat : Int), .int .u8 (a4.toNat : Int), .int .u8 (a5.toNat : Int), .int .u8 (a6.toNat : Int), .int .u8 (a7.toNat : Int), .slice A26 no c26, .slice Asb (8 + nd) csb] rfl (by kernel_rfl) (by rfl) ?_; intro w9 hq gr; replace ho := ho.away av_ho_p gr; replace hb := hb.away av_hb_p gr; replace so := so.away av_so_p gr; replace sow := own_away sow y_e0_p.out gr; replace sb := sb.away av_sb_p gr; replace sbw := own_away sbw y_sb_p.out gr; replace lz_so := Nat.le_trans lz_so gr.size; replace lz_sb := Nat.le_trans lz_sb gr.size; replace hd := blk_a hd gr (ne_symm d_p_d); replace hz := blk_a hz gr (ne_symm d_p_z); replace bel := below_grown bel gr op bel.size; clear hp; have hp := hq; clear hq gr; have R32 := Lib.hid (range_lit hp 0 16 [.int .i64 tos, .int .i64 id, .int .i64 fl, .int .i64 pt, .int .i64 ttl, .int .i64 17, .int .u8 (a0.toNat : Int), .int .u8 (a1.toNat : Int), .int .u8 (a2.toNat : Int), .int .u8 (a3.toNat : Int), .int .u8 (a4.toNat : Int), .int .u8 (a5.toNat : Int), .int .u8 (a6.toNat : Int), .int .u8 (a7.toNat : Int), .slice A26 no c26, .slice Asb (8 + nd) csb] rfl)) | ((with_reducible show wpList _ _ _ (⟨some 32, _, _, _, _, _⟩ :: _) _ _); refine wpList_load_rng 38 (.tmp 2) rfl (by kernel_rfl) _ _ rfl _ R32.out _ Tryz.underlying38 rfl (by kernel_rfl) ?_) | ((with_reducible show wpList _ _ _ (⟨none, Op.store _ (.tmp 4) _, _, _, _, _⟩ :: _) _ _); refine wpList_store_blk rfl 38 (.tmp 4) (.tmp 32) rfl g4 rfl _ rfl _ 38 hz (by rfl) (by kernel_rfl) (by kernel_rfl) ?_; intro w10 hq gr; replace ho := ho.away av_ho_z gr; replace hb := hb.away av_hb_z gr; replace so := so.away av_so_z gr; replace sow := own_away sow y_e0_z.out gr; replace sb := sb.away av_sb_z gr; replace sbw := own_away sbw y_sb_z.out gr; replace lz_so := Nat.le_trans lz_so gr.size; replace lz_sb := Nat.le_trans lz_sb gr.size; replace hp := blk_a hp gr d_p_z; replace hd := blk_a hd gr d_d_z; replace bel := below_grown bel gr oz bel.size; clear hz; have hz := hq; clear hq gr))
  try clear R32
  exact bodyPost_ret (results_cell_tmp_row rfl _ _ _ _ _ _ _ rfl hz Tryz.underlying38 rfl (by kernel_rfl) _ rfl) rfl ⟨tos, id, fl, pt, ttl, 17, a0, a1, a2, a3, a4, a5, a6, a7, lo, udBytes a0 a1 a2 a3 a4 a5 a6 a7 df dt ld, A26, Asb, c26, csb, 0, by rw [HL1.out, HL2.out]; rfl, by rw [HL1.out]; exact so, by rw [HL2.out]; exact sb, by rw [HL1.out]; exact fr_so.mono e0lo, by rw [HL2.out]; exact fr_sb.mono sblo, bel, HP.out.symm⟩
end Go.Proofs.YtbdaejodbcjmfaaGreat
