/- Layer 6: ip4's ends, Pseudo. -/
import Derived.Test.YtfmllopeeiecjaaIpd
import Derived.Test.YtfmllopeeiecjaaEth4
import Derived.Deep.RegionHeld3
namespace Go.Proofs.Ytfmllopeeiecjaa
open Go.RowKit

theorem w32_o (A : Option Addr) (n c : Nat) (l : List UInt8) (v0 : Int) (w : World) (h0 : 0 ≤ v0) (h1 : v0 < 4294967296) (hl : Sl w A n c l) (hs : n + 4 ≤ 140737488355328) :
    Calls Try.prog 51 #[.slice A n c, .int .u32 v0] w fun e w' => ∃ v, e = .returned v ∧ w'.ownsRow w.heap.size 5 1 v (n + 4) ((l ++ four v0).map u8v) ∧ Below w.heap.size w w' := by
  have hm := made4 v0 w h0 h1
  have bel := (Below.refl w.heap.size w).alloc (Nat.le_refl _) (.cells #[.int .u8 (v0 / 16777216), .int .u8 (v0 / 65536 % 256), .int .u8 (v0 / 256 % 256), .int .u8 (v0 % 256)] 5)
  have hl1 := hl.below bel
  go_enter Try.func51, Try.ntmps51
  go_wp2_with (go_at_call 59; refine (join_o A _ n c 4 4 l (four v0) _ hl1 hm hs).mono ?_; rintro e w1 ⟨v, rfl, hown, bel1⟩)
  go_ret
  exact ⟨v, rfl, ownsRow_mono hown bel.size, bel.trans (bel1.mono bel.size)⟩
theorem four_be (p0 p1 p2 p3 : UInt8) : four (be [p0, p1, p2, p3] : Nat) = [p0, p1, p2, p3] := by
  obtain ⟨e0, e1, e2, e3⟩ := four_of p0 p1 p2 p3
  unfold four
  have b : ∀ (x : Int) (p : UInt8), x % 256 = (p.toNat : Int) → byteOf x = p := by
    intro x p h
    have := byteOf_val x
    rw [h] at this
    exact UInt8.toNat_inj.1 (by omega)
  rw [b _ p0 (by have := p0.toNat_lt; omega), b _ p1 e1, b _ p2 e2, b _ p3 e3]
theorem u32_first (p0 p1 p2 p3 : UInt8) (w : World) : Calls Try.prog 51 #[.slice none 0 0, .int .u32 (be [p0, p1, p2, p3] : Nat)] w fun e w' => ∃ A c, e = .returned (.slice A 4 c) ∧ Sl w' A 4 c [p0, p1, p2, p3] ∧ Below w.heap.size w w' := by
  have hb := be_lt 4 [p0, p1, p2, p3] rfl
  have h := w32_any none 0 0 [] (be [p0, p1, p2, p3] : Nat) w (by omega) (by omega) (Sl.nil w) (by omega)
  rw [four_be] at h
  exact h
theorem u32_then (A : Option Addr) (c : Nat) (l : List UInt8) (p0 p1 p2 p3 : UInt8) (w : World) (hl : Sl w A 4 c l) : Calls Try.prog 51 #[.slice A 4 c, .int .u32 (be [p0, p1, p2, p3] : Nat)] w fun e w' => ∃ v, e = .returned v ∧ w'.ownsRow w.heap.size 5 1 v 8 ((l ++ [p0, p1, p2, p3]).map u8v) ∧ Below w.heap.size w w' := by
  have hb := be_lt 4 [p0, p1, p2, p3] rfl
  have h := w32_o A 4 c l (be [p0, p1, p2, p3] : Nat) w (by omega) (by omega) hl (by omega)
  rw [four_be] at h
  exact h
set_option maxRecDepth 100000 in
set_option maxHeartbeats 16000000 in
theorem ends_o (tos id fl pt ttl pr : Int) (a0 a1 a2 a3 a4 a5 a6 a7 : UInt8) (So Sb : Option Addr) (no co nb cb : Nat) (w : World) : Calls Try.prog 55 #[.agg #[.int .i64 tos, .int .i64 id, .int .i64 fl, .int .i64 pt, .int .i64 ttl, .int .i64 pr, .int .u8 (a0.toNat : Int), .int .u8 (a1.toNat : Int), .int .u8 (a2.toNat : Int), .int .u8 (a3.toNat : Int), .int .u8 (a4.toNat : Int), .int .u8 (a5.toNat : Int), .int .u8 (a6.toNat : Int), .int .u8 (a7.toNat : Int), .slice So no co, .slice Sb nb cb]] w fun e w' => ∃ v, e = .returned v ∧ w'.ownsRow w.heap.size 5 1 v 8 ([a0, a1, a2, a3, a4, a5, a6, a7].map u8v) ∧ Below w.heap.size w w' := by
  have bel := Below.refl w.heap.size w
  have hp : (w.alloc (.cells #[.int .i64 tos, .int .i64 id, .int .i64 fl, .int .i64 pt, .int .i64 ttl, .int .i64 pr, .int .u8 (a0.toNat : Int), .int .u8 (a1.toNat : Int), .int .u8 (a2.toNat : Int), .int .u8 (a3.toNat : Int), .int .u8 (a4.toNat : Int), .int .u8 (a5.toNat : Int), .int .u8 (a6.toNat : Int), .int .u8 (a7.toNat : Int), .slice So no co, .slice Sb nb cb] 27)).heap[w.heap.size]? = some (.cells #[.int .i64 tos, .int .i64 id, .int .i64 fl, .int .i64 pt, .int .i64 ttl, .int .i64 pr, .int .u8 (a0.toNat : Int), .int .u8 (a1.toNat : Int), .int .u8 (a2.toNat : Int), .int .u8 (a3.toNat : Int), .int .u8 (a4.toNat : Int), .int .u8 (a5.toNat : Int), .int .u8 (a6.toNat : Int), .int .u8 (a7.toNat : Int), .slice So no co, .slice Sb nb cb] 27 (0, 0)) := by have := heap_alloc_new w (.cells #[.int .i64 tos, .int .i64 id, .int .i64 fl, .int .i64 pt, .int .i64 ttl, .int .i64 pr, .int .u8 (a0.toNat : Int), .int .u8 (a1.toNat : Int), .int .u8 (a2.toNat : Int), .int .u8 (a3.toNat : Int), .int .u8 (a4.toNat : Int), .int .u8 (a5.toNat : Int), .int .u8 (a6.toNat : Int), .int .u8 (a7.toNat : Int), .slice So no co, .slice Sb nb cb] 27); simpa using this
  have zp : w.heap.size < (w.alloc (.cells #[.int .i64 tos, .int .i64 id, .int .i64 fl, .int .i64 pt, .int .i64 ttl, .int .i64 pr, .int .u8 (a0.toNat : Int), .int .u8 (a1.toNat : Int), .int .u8 (a2.toNat : Int), .int .u8 (a3.toNat : Int), .int .u8 (a4.toNat : Int), .int .u8 (a5.toNat : Int), .int .u8 (a6.toNat : Int), .int .u8 (a7.toNat : Int), .slice So no co, .slice Sb nb cb] 27)).heap.size := by simp
  replace bel := bel.alloc bel.size (.cells #[.int .i64 tos, .int .i64 id, .int .i64 fl, .int .i64 pt, .int .i64 ttl, .int .i64 pr, .int .u8 (a0.toNat : Int), .int .u8 (a1.toNat : Int), .int .u8 (a2.toNat : Int), .int .u8 (a3.toNat : Int), .int .u8 (a4.toNat : Int), .int .u8 (a5.toNat : Int), .int .u8 (a6.toNat : Int), .int .u8 (a7.toNat : Int), .slice So no co, .slice Sb nb cb] 27)
  go_enter Try.func55, Try.ntmps55
  go_wp2_with fail
  replace bel := bel.drew
  replace hp : (w.alloc (.cells #[.int .i64 tos, .int .i64 id, .int .i64 fl, .int .i64 pt, .int .i64 ttl, .int .i64 pr, .int .u8 (a0.toNat : Int), .int .u8 (a1.toNat : Int), .int .u8 (a2.toNat : Int), .int .u8 (a3.toNat : Int), .int .u8 (a4.toNat : Int), .int .u8 (a5.toNat : Int), .int .u8 (a6.toNat : Int), .int .u8 (a7.toNat : Int), .slice So no co, .slice Sb nb cb] 27)).drew.heap[w.heap.size]? = some (.cells #[.int .i64 tos, .int .i64 id, .int .i64 fl, .int .i64 pt, .int .i64 ttl, .int .i64 pr, .int .u8 (a0.toNat : Int), .int .u8 (a1.toNat : Int), .int .u8 (a2.toNat : Int), .int .u8 (a3.toNat : Int), .int .u8 (a4.toNat : Int), .int .u8 (a5.toNat : Int), .int .u8 (a6.toNat : Int), .int .u8 (a7.toNat : Int), .slice So no co, .slice Sb nb cb] 27 (0, 0)) := hp
  replace zp : w.heap.size < (w.alloc (.cells #[.int .i64 tos, .int .i64 id, .int .i64 fl, .int .i64 pt, .int .i64 ttl, .int .i64 pr, .int .u8 (a0.toNat : Int), .int .u8 (a1.toNat : Int), .int .u8 (a2.toNat : Int), .int .u8 (a3.toNat : Int), .int .u8 (a4.toNat : Int), .int .u8 (a5.toNat : Int), .int .u8 (a6.toNat : Int), .int .u8 (a7.toNat : Int), .slice So no co, .slice Sb nb cb] 27)).drew.heap.size := zp
  refine wp_region_held_drew (S := fun W => W.heap[w.heap.size]? = some (.cells #[.int .i64 tos, .int .i64 id, .int .i64 fl, .int .i64 pt, .int .i64 ttl, .int .i64 pr, .int .u8 (a0.toNat : Int), .int .u8 (a1.toNat : Int), .int .u8 (a2.toNat : Int), .int .u8 (a3.toNat : Int), .int .u8 (a4.toNat : Int), .int .u8 (a5.toNat : Int), .int .u8 (a6.toNat : Int), .int .u8 (a7.toNat : Int), .slice So no co, .slice Sb nb cb] 27 (0, 0))) (by kernel_rfl) hp (fun hH => ?_)
  generalize (w.alloc (.cells #[.int .i64 tos, .int .i64 id, .int .i64 fl, .int .i64 pt, .int .i64 ttl, .int .i64 pr, .int .u8 (a0.toNat : Int), .int .u8 (a1.toNat : Int), .int .u8 (a2.toNat : Int), .int .u8 (a3.toNat : Int), .int .u8 (a4.toNat : Int), .int .u8 (a5.toNat : Int), .int .u8 (a6.toNat : Int), .int .u8 (a7.toNat : Int), .slice So no co, .slice Sb nb cb] 27)).drew = vd at bel hp zp hH ⊢
  refine wpAnyH_take (i := 0) (v := ?_) rfl (by kernel_rfl) (by kernel_rfl) (by kernel_rfl) (fun _ _ _ h => h) (Or.inl ⟨by rfl, ?_⟩) hH ?_
  rotate_left
  · ((intro W hW; clear hW; go_simp) <;> with_reducible rfl)
  simp only [Act.put, List.getElem_toArray, List.getElem_cons_zero, List.setIfInBounds_toArray, List.set_cons_zero, List.set_cons_succ]
  refine wpAnyH_take (i := 1) (v := .agg #[.int .u8 (a0.toNat : Int), .int .u8 (a1.toNat : Int), .int .u8 (a2.toNat : Int), .int .u8 (a3.toNat : Int)]) rfl (by kernel_rfl) (by kernel_rfl) (by kernel_rfl) (fun _ _ _ h => h) (yieldsIf_load_part (by kernel_rfl) 24 _ rfl (w.heap.size) 6 4 rfl [.int .i64 tos, .int .i64 id, .int .i64 fl, .int .i64 pt, .int .i64 ttl, .int .i64 pr, .int .u8 (a0.toNat : Int), .int .u8 (a1.toNat : Int), .int .u8 (a2.toNat : Int), .int .u8 (a3.toNat : Int), .int .u8 (a4.toNat : Int), .int .u8 (a5.toNat : Int), .int .u8 (a6.toNat : Int), .int .u8 (a7.toNat : Int), .slice So no co, .slice Sb nb cb] 27 (0, 0) (fun W hW => hW) [.int .u8 (a0.toNat : Int), .int .u8 (a1.toNat : Int), .int .u8 (a2.toNat : Int), .int .u8 (a3.toNat : Int)] rfl _ Try.underlying24 rfl (by kernel_rfl)) hH ?_
  simp only [Act.put, List.getElem_toArray, List.getElem_cons_zero, List.getElem_cons_succ, List.setIfInBounds_toArray, List.set_cons_zero, List.set_cons_succ]
  refine wpAnyH_take (i := 4) (v := ?_) rfl (by kernel_rfl) (by kernel_rfl) (by kernel_rfl) (fun _ _ _ h => h) (Or.inl ⟨by rfl, ?_⟩) hH ?_
  rotate_left
  · ((intro W hW; clear hW; go_simp) <;> with_reducible rfl)
  simp only [Act.put, List.getElem_toArray, List.getElem_cons_zero, List.getElem_cons_succ, List.setIfInBounds_toArray, List.set_cons_zero, List.set_cons_succ]
  refine wpAnyH_take (i := 5) (v := .agg #[.int .u8 (a4.toNat : Int), .int .u8 (a5.toNat : Int), .int .u8 (a6.toNat : Int), .int .u8 (a7.toNat : Int)]) rfl (by kernel_rfl) (by kernel_rfl) (by kernel_rfl) (fun _ _ _ h => h) (yieldsIf_load_part (by kernel_rfl) 24 _ rfl (w.heap.size) 10 4 rfl [.int .i64 tos, .int .i64 id, .int .i64 fl, .int .i64 pt, .int .i64 ttl, .int .i64 pr, .int .u8 (a0.toNat : Int), .int .u8 (a1.toNat : Int), .int .u8 (a2.toNat : Int), .int .u8 (a3.toNat : Int), .int .u8 (a4.toNat : Int), .int .u8 (a5.toNat : Int), .int .u8 (a6.toNat : Int), .int .u8 (a7.toNat : Int), .slice So no co, .slice Sb nb cb] 27 (0, 0) (fun W hW => hW) [.int .u8 (a4.toNat : Int), .int .u8 (a5.toNat : Int), .int .u8 (a6.toNat : Int), .int .u8 (a7.toNat : Int)] rfl _ Try.underlying24 rfl (by kernel_rfl)) hH ?_
  simp only [Act.put, List.getElem_toArray, List.getElem_cons_zero, List.getElem_cons_succ, List.setIfInBounds_toArray, List.set_cons_zero, List.set_cons_succ]
  refine wpAnyH_ready (rs := [2]) (by kernel_rfl) (by simp) ?_
  refine AllReadyH.cons (o := _) rfl (fun K hK => ?_) AllReadyH.nil
  simp only [List.getElem_toArray, List.getElem_cons_zero, List.getElem_cons_succ]
  go_simp
  with_reducible refine (anum_any a0 a1 a2 a3 _).mono ?_
  rintro e v11 ⟨rfl, b11⟩
  dsimp only
  replace bel := bel.trans (b11.mono bel.size)
  replace hp := (b11.block _ zp).trans hp
  replace zp := Nat.lt_of_lt_of_le zp b11.size
  refine hK.out _ _ hp (fun hH11 => ?_)
  clear hK K
  refine wpAnyH_ready (rs := [3]) (by kernel_rfl) (by simp) ?_
  refine AllReadyH.cons (o := _) rfl (fun K hK => ?_) AllReadyH.nil
  simp only [List.getElem_toArray, List.getElem_cons_zero, List.getElem_cons_succ]
  go_simp
  with_reducible refine (u32_first a0 a1 a2 a3 _).mono ?_
  rintro e v12 ⟨A1, c1, rfl, hs1, b12⟩
  dsimp only
  replace bel := bel.trans (b12.mono bel.size)
  replace hp := (b12.block _ zp).trans hp
  replace zp := Nat.lt_of_lt_of_le zp b12.size
  refine hK.out _ _ hp (fun hH12 => ?_)
  clear hK K
  refine wpAnyH_ready (rs := [6]) (by kernel_rfl) (by simp) ?_
  refine AllReadyH.cons (o := _) rfl (fun K hK => ?_) AllReadyH.nil
  simp only [List.getElem_toArray, List.getElem_cons_zero, List.getElem_cons_succ]
  go_simp
  with_reducible refine (anum_any a4 a5 a6 a7 _).mono ?_
  rintro e v13 ⟨rfl, b13⟩
  dsimp only
  replace bel := bel.trans (b13.mono bel.size)
  replace hp := (b13.block _ zp).trans hp
  replace zp := Nat.lt_of_lt_of_le zp b13.size
  replace hs1 := hs1.below b13
  have zs := bel.size
  refine hK.out _ _ hp (fun hH13 => ?_)
  clear hK K
  refine wpAnyH_ready (rs := [7]) (by kernel_rfl) (by simp) ?_
  refine AllReadyH.cons (o := _) rfl (fun K hK => ?_) AllReadyH.nil
  simp only [List.getElem_toArray, List.getElem_cons_zero, List.getElem_cons_succ]
  go_simp
  with_reducible refine (u32_then A1 c1 _ a4 a5 a6 a7 _ hs1).mono ?_
  rintro e v14 ⟨v, rfl, hown, b14⟩
  dsimp only
  replace bel := bel.trans (b14.mono bel.size)
  replace hp := (b14.block _ zp).trans hp
  replace zp := Nat.lt_of_lt_of_le zp b14.size
  replace hown := ownsRow_mono (B := w.heap.size) hown zs
  refine hK.out _ _ hp (fun hH14 => ?_)
  clear hK K
  refine wpAnyH_take (i := 8) (v := ?_) rfl (by kernel_rfl) (by kernel_rfl) (by kernel_rfl) (fun _ _ _ h => h) (Or.inl ⟨by rfl, ?_⟩) hH14 ?_
  rotate_left
  · ((intro W hW; clear hW; go_simp) <;> with_reducible rfl)
  simp only [Act.put, List.getElem_toArray, List.getElem_cons_zero, List.getElem_cons_succ, List.setIfInBounds_toArray, List.set_cons_zero, List.set_cons_succ]
  refine wpAnyH_done (by kernel_rfl) ?_ _
  go_wp2
  go_ret
  exact ⟨v, rfl, hown, bel⟩
theorem own_below {w w' : World} {B : Nat} {e : TypeId} {v : Value} {n : Nat} {xs : List Value} (h : w.ownsRow B e 1 v n xs) (hb : Below w.heap.size w w') : w'.ownsRow B e 1 v n xs := by
  refine ⟨h.1, ?_⟩
  rcases h.2 with h | ⟨g, cap, cur, e, hg, hh, h⟩
  · exact .inl h
  · exact .inr ⟨g, cap, cur, e, hg, (hb.block g (Array.getElem?_eq_some_iff.1 hh).1).trans hh, h⟩
theorem made_0b (y : Int) (w : World) : Sl (w.alloc (.cells #[.int .u8 0, .int .u8 (y % 256)] 5)) (some ⟨w.heap.size, 0, none⟩) 2 2 [0, byteOf y] := by
  have h := Sl.made w 5 [0, byteOf y] (by simp [maxLen])
  simpa [u8v, byteOf_val] using h
theorem u8_wrap (x : Int) : IntKind.u8.wrap x = x % 256 := by simp [IntKind.wrap, IntKind.signed, IntKind.bits]
theorem made_b2 (x y : Int) (w : World) : Sl (w.alloc (.cells #[.int .u8 (x % 256), .int .u8 (y % 256)] 5)) (some ⟨w.heap.size, 0, none⟩) 2 2 [byteOf x, byteOf y] := by
  have h := Sl.made w 5 [byteOf x, byteOf y] (by simp [maxLen])
  simpa [u8v, byteOf_val] using h
end Go.Proofs.Ytfmllopeeiecjaa
