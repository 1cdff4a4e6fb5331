/- Layer 6: ip4's ends, Pseudo. -/
import Derived.Test.YtkmihoijnjdbnaaIpd
import Derived.Test.YtkmihoijnjdbnaaEth4
import Derived.Deep.RegionHeld3
namespace Go.Proofs.Ytkmihoijnjdbnaa
open Go.RowKit

theorem w32_o (A : Option Addr) (n c : Nat) (l : List UInt8) (v0 : Int) (w : World) (h0 : 0 ≤ v0) (h1 : v0 < 4294967296) (hl : Sl w A n c l) (hs : n + 4 ≤ 140737488355328) :
    Calls Try.prog 38 #[.slice A n c, .int .u32 v0] w fun e w' => ∃ v, e = .returned v ∧ w'.ownsRow w.heap.size 5 1 v (n + 4) ((l ++ four v0).map u8v) ∧ Below w.heap.size w w' := by
  have hm := made4 v0 w h0 h1
  have bel := (Below.refl w.heap.size w).alloc (Nat.le_refl _) (.cells #[.int .u8 (v0 / 16777216), .int .u8 (v0 / 65536 % 256), .int .u8 (v0 / 256 % 256), .int .u8 (v0 % 256)] 5)
  have hl1 := hl.below bel
  go_enter Try.func38, Try.ntmps38
  go_wp2_with (go_at_call 41; refine (join_o A _ n c 4 4 l (four v0) _ hl1 hm hs).mono ?_; rintro e w1 ⟨v, rfl, hown, bel1⟩)
  go_ret
  exact ⟨v, rfl, ownsRow_mono hown bel.size, bel.trans (bel1.mono bel.size)⟩
theorem four_be (p0 p1 p2 p3 : UInt8) : four (be [p0, p1, p2, p3] : Nat) = [p0, p1, p2, p3] := by
  obtain ⟨e0, e1, e2, e3⟩ := four_of p0 p1 p2 p3
  unfold four
  have b : ∀ (x : Int) (p : UInt8), x % 256 = (p.toNat : Int) → byteOf x = p := by
    intro x p h
    have := byteOf_val x
    rw [h] at this
    exact UInt8.toNat_inj.1 (by omega)
  rw [b _ p0 (by have := p0.toNat_lt; omega), b _ p1 e1, b _ p2 e2, b _ p3 e3]
theorem u32_first (p0 p1 p2 p3 : UInt8) (w : World) : Calls Try.prog 38 #[.slice none 0 0, .int .u32 (be [p0, p1, p2, p3] : Nat)] w fun e w' => ∃ A c, e = .returned (.slice A 4 c) ∧ Sl w' A 4 c [p0, p1, p2, p3] ∧ Below w.heap.size w w' := by
  have hb := be_lt 4 [p0, p1, p2, p3] rfl
  have h := w32_any none 0 0 [] (be [p0, p1, p2, p3] : Nat) w (by omega) (by omega) (Sl.nil w) (by omega)
  rw [four_be] at h
  exact h
theorem u32_then (A : Option Addr) (c : Nat) (l : List UInt8) (p0 p1 p2 p3 : UInt8) (w : World) (hl : Sl w A 4 c l) : Calls Try.prog 38 #[.slice A 4 c, .int .u32 (be [p0, p1, p2, p3] : Nat)] w fun e w' => ∃ v, e = .returned v ∧ w'.ownsRow w.heap.size 5 1 v 8 ((l ++ [p0, p1, p2, p3]).map u8v) ∧ Below w.heap.size w w' := by
  have hb := be_lt 4 [p0, p1, p2, p3] rfl
  have h := w32_o A 4 c l (be [p0, p1, p2, p3] : Nat) w (by omega) (by omega) hl (by omega)
  rw [four_be] at h
  exact h
set_option maxRecDepth 100000 in
set_option maxHeartbeats 16000000 in
theorem ends_o (tos id fl pt ttl pr : Int) (a0 a1 a2 a3 a4 a5 a6 a7 : UInt8) (So Sb : Option Addr) (no co nb cb : Nat) (w : World) : Calls Try.prog 48 #[.agg #[.int .i64 tos, .int .i64 id, .int .i64 fl, .int .i64 pt, .int .i64 ttl, .int .i64 pr, .int .u8 (a0.toNat : Int), .int .u8 (a1.toNat : Int), .int .u8 (a2.toNat : Int), .int .u8 (a3.toNat : Int), .int .u8 (a4.toNat : Int), .int .u8 (a5.toNat : Int), .int .u8 (a6.toNat : Int), .int .u8 (a7.toNat : Int), .slice So no co, .slice Sb nb cb]] w fun e w' => ∃ v, e = .returned v ∧ w'.ownsRow w.heap.size 5 1 v 8 ([a0, a1, a2, a3, a4, a5, a6, a7].map u8v) ∧ Below w.heap.size w w' := by
  have bel := Below.refl w.heap.size w
  have hp : (w.alloc (.cells #[.int .i64 tos, .int .i64 id, .int .i64 fl, .int .i64 pt, .int .i64 ttl, .int .i64 pr, .int .u8 (a0.toNat : Int), .int .u8 (a1.toNat : Int), .int .u8 (a2.toNat : Int), .int .u8 (a3.toNat : Int), .int .u8 (a4.toNat : Int), .int .u8 (a5.toNat : Int), .int .u8 (a6.toNat : Int), .int .u8 (a7.toNat : Int), .slice So no co, .slice Sb nb cb] 27)).heap[w.heap.size]? = some (.cells #[.int .i64 tos, .int .i64 id, .int .i64 fl, .int .i64 pt, .int .i64 ttl, .int .i64 pr, .int .u8 (a0.toNat : Int), .int .u8 (a1.toNat : Int), .int .u8 (a2.toNat : Int), .int .u8 (a3.toNat : Int), .int .u8 (a4.toNat : Int), .int .u8 (a5.toNat : Int), .int .u8 (a6.toNat : Int), .int .u8 (a7.toNat : Int), .slice So no co, .slice Sb nb cb] 27 (0, 0)) := by have := heap_alloc_new w (.cells #[.int .i64 tos, .int .i64 id, .int .i64 fl, .int .i64 pt, .int .i64 ttl, .int .i64 pr, .int .u8 (a0.toNat : Int), .int .u8 (a1.toNat : Int), .int .u8 (a2.toNat : Int), .int .u8 (a3.toNat : Int), .int .u8 (a4.toNat : Int), .int .u8 (a5.toNat : Int), .int .u8 (a6.toNat : Int), .int .u8 (a7.toNat : Int), .slice So no co, .slice Sb nb cb] 27); simpa using this
  have zp : w.heap.size < (w.alloc (.cells #[.int .i64 tos, .int .i64 id, .int .i64 fl, .int .i64 pt, .int .i64 ttl, .int .i64 pr, .int .u8 (a0.toNat : Int), .int .u8 (a1.toNat : Int), .int .u8 (a2.toNat : Int), .int .u8 (a3.toNat : Int), .int .u8 (a4.toNat : Int), .int .u8 (a5.toNat : Int), .int .u8 (a6.toNat : Int), .int .u8 (a7.toNat : Int), .slice So no co, .slice Sb nb cb] 27)).heap.size := by simp
  replace bel := bel.alloc bel.size (.cells #[.int .i64 tos, .int .i64 id, .int .i64 fl, .int .i64 pt, .int .i64 ttl, .int .i64 pr, .int .u8 (a0.toNat : Int), .int .u8 (a1.toNat : Int), .int .u8 (a2.toNat : Int), .int .u8 (a3.toNat : Int), .int .u8 (a4.toNat : Int), .int .u8 (a5.toNat : Int), .int .u8 (a6.toNat : Int), .int .u8 (a7.toNat : Int), .slice So no co, .slice Sb nb cb] 27)
  go_enter Try.func48, Try.ntmps48
  go_wp2_with fail
  replace bel := bel.drew
  replace hp : (w.alloc (.cells #[.int .i64 tos, .int .i64 id, .int .i64 fl, .int .i64 pt, .int .i64 ttl, .int .i64 pr, .int .u8 (a0.toNat : Int), .int .u8 (a1.toNat : Int), .int .u8 (a2.toNat : Int), .int .u8 (a3.toNat : Int), .int .u8 (a4.toNat : Int), .int .u8 (a5.toNat : Int), .int .u8 (a6.toNat : Int), .int .u8 (a7.toNat : Int), .slice So no co, .slice Sb nb cb] 27)).drew.heap[w.heap.size]? = some (.cells #[.int .i64 tos, .int .i64 id, .int .i64 fl, .int .i64 pt, .int .i64 ttl, .int .i64 pr, .int .u8 (a0.toNat : Int), .int .u8 (a1.toNat : Int), .int .u8 (a2.toNat : Int), .int .u8 (a3.toNat : Int), .int .u8 (a4.toNat : Int), .int .u8 (a5.toNat : Int), .int .u8 (a6.toNat : Int), .int .u8 (a7.toNat : Int), .slice So no co, .slice Sb nb cb] 27 (0, 0)) := hp
  replace zp : w.heap.size < (w.alloc (.cells #[.int .i64 tos, .int .i64 id, .int .i64 fl, .int .i64 pt, .int .i64 ttl, .int .i64 pr, .int .u8 (a0.toNat : Int), .int .u8 (a1.toNat : Int), .int .u8 (a2.toNat : Int), .int .u8 (a3.toNat : Int), .int .u8 (a4.toNat : Int), .int .u8 (a5.toNat : Int), .int .u8 (a6.toNat : Int), .int .u8 (a7.toNat : Int), .slice So no co, .slice Sb nb cb] 27)).drew.heap.size := zp
  refine wp_region_held_drew (S := fun W => W.heap[w.heap.size]? = some (.cells #[.int .i64 tos, .int .i64 id, .int .i64 fl, .int .i64 pt, .int .i64 ttl, .int .i64 pr, .int .u8 (a0.toNat : Int), .int .u8 (a1.toNat : Int), .int .u8 (a2.toNat : Int), .int .u8 (a3.toNat : Int), .int .u8 (a4.toNat : Int), .int .u8 (a5.toNat : Int), .int .u8 (a6.toNat : Int), .int .u8 (a7.toNat : Int), .slice So no co, .slice Sb nb cb] 27 (0, 0))) (by kernel_rfl) hp (fun hH => ?_)
  generalize (w.alloc (.cells #[.int .i64 tos, .int .i64 id, .int .i64 fl, .int .i64 pt, .int .i64 ttl, .int .i64 pr, .int .u8 (a0.toNat : Int), .int .u8 (a1.toNat : Int), .int .u8 (a2.toNat : Int), .int .u8 (a3.toNat : Int), .int .u8 (a4.toNat : Int), .int .u8 (a5.toNat : Int), .int .u8 (a6.toNat : Int), .int .u8 (a7.toNat : Int), .slice So no co, .slice Sb nb cb] 27)).drew = vd at bel hp zp hH ⊢
  refine wpAnyH_take (i := 0) (v := ?_) rfl (by kernel_rfl) (by kernel_rfl) (by kernel_rfl) (fun _ _ _ h => h) (Or.inl ⟨by rfl, ?_⟩) hH ?_
  rotate_left
  · ((intro W hW; clear hW; go_simp) <;> with_reducible rfl)
  simp only [Act.put, List.getElem_toArray, List.getElem_cons_zero, List.setIfInBounds_toArray, List.set_cons_zero, List.set_cons_succ]
  refine wpAnyH_take (i := 1) (v := .agg #[.int .u8 (a0.toNat : Int), .int .u8 (a1.toNat : Int), .int .u8 (a2.toNat : Int), .int .u8 (a3.toNat : Int)]) rfl (by kernel_rfl) (by kernel_rfl) (by kernel_rfl) (fun _ _ _ h => h) (yieldsIf_load_part (by kernel_rfl) 24 _ rfl (w.heap.size) 6 4 rfl [.int .i64 tos, .int .i64 id, .int .i64 fl, .int .i64 pt, .int .i64 ttl, .int .i64 pr, .int .u8 (a0.toNat : Int), .int .u8 (a1.toNat : Int), .int .u8 (a2.toNat : Int), .int .u8 (a3.toNat : Int), .int .u8 (a4.toNat : Int), .int .u8 (a5.toNat : Int), .int .u8 (a6.toNat : Int), .int .u8 (a7.toNat : Int), .slice So no co, .slice Sb nb cb] 27 (0, 0) (fun W hW => hW) [.int .u8 (a0.toNat : Int), .int .u8 (a1.toNat : Int), .int .u8 (a2.toNat : Int), .int .u8 (a3.toNat : Int)] rfl _ Try.underlying24 rfl (by kernel_rfl)) hH ?_
  simp only [Act.put, List.getElem_toArray, List.getElem_cons_zero, List.getElem_cons_succ, List.setIfInBounds_toArray, List.set_cons_zero, List.set_cons_succ]
  refine wpAnyH_take (i := 4) (v := ?_) rfl (by kernel_rfl) (by kernel_rfl) (by kernel_rfl) (fun _ _ _ h => h) (Or.inl ⟨by rfl, ?_⟩) hH ?_
  rotate_left
  · ((intro W hW; clear hW; go_simp) <;> with_reducible rfl)
  simp only [Act.put, List.getElem_toArray, List.getElem_cons_zero, List.getElem_cons_succ, List.setIfInBounds_toArray, List.set_cons_zero, List.set_cons_succ]
  refine wpAnyH_take (i := 5) (v := .agg #[.int .u8 (a4.toNat : Int), .int .u8 (a5.toNat : Int), .int .u8 (a6.toNat : Int), .int .u8 (a7.toNat : Int)]) rfl (by kernel_rfl) (by kernel_rfl) (by kernel_rfl) (fun _ _ _ h => h) (yieldsIf_load_part (by kernel_rfl) 24 _ rfl (w.heap.size) 10 4 rfl [.int .i64 tos, .int .i64 id, .int .i64 fl, .int .i64 pt, .int .i64 ttl, .int .i64 pr, .int .u8 (a0.toNat : Int), .int .u8 (a1.toNat : Int), .int .u8 (a2.toNat : Int), .int .u8 (a3.toNat : Int), .int .u8 (a4.toNat : Int), .int .u8 (a5.toNat : Int), .int .u8 (a6.toNat : Int), .int .u8 (a7.toNat : Int), .slice So no co, .slice Sb nb cb] 27 (0, 0) (fun W hW => hW) [.int .u8 (a4.toNat : Int), .int .u8 (a5.toNat : Int), .int .u8 (a6.toNat : Int), .int .u8 (a7.toNat : Int)] rfl _ Try.underlying24 rfl (by kernel_rfl)) hH ?_
  simp only [Act.put, List.getElem_toArray, List.getElem_cons_zero, List.getElem_cons_succ, List.setIfInBounds_toArray, List.set_cons_zero, List.set_cons_succ]
  refine wpAnyH_ready (rs := [2]) (by kernel_rfl) (by simp) ?_
  refine AllReadyH.cons (o := _) rfl (fun K hK => ?_) AllReadyH.nil
  simp only [List.getElem_toArray, List.getElem_cons_zero, List.getElem_cons_succ]
  go_simp
  with_reducible refine (anum_any a0 a1 a2 a3 _).mono ?_
  rintro e v11 ⟨rfl, b11⟩
  dsimp only
  replace bel := bel.trans (b11.mono bel.size)
  replace hp := (b11.block _ zp).trans hp
  replace zp := Nat.lt_of_lt_of_le zp b11.size
  refine hK.out _ _ hp (fun hH11 => ?_)
  clear hK K
  refine wpAnyH_ready (rs := [3]) (by kernel_rfl) (by simp) ?_
  refine AllReadyH.cons (o := _) rfl (fun K hK => ?_) AllReadyH.nil
  simp only [List.getElem_toArray, List.getElem_cons_zero, List.getElem_cons_succ]
  go_simp
  with_reducible refine (u32_first a0 a1 a2 a3 _).mono ?_
  rintro e v12 ⟨A1, c1, rfl, hs1, b12⟩
  dsimp only
  replace bel := bel.trans (b12.mono bel.size)
  replace hp := (b12.block _ zp).trans hp
  replace zp := Nat.lt_of_lt_of_le zp b12.size
  refine hK.out _ _ hp (fun hH12 => ?_)
  clear hK K
  refine wpAnyH_ready (rs := [6]) (by kernel_rfl) (by simp) ?_
  refine AllReadyH.cons (o := _) rfl (fun K hK => ?_) AllReadyH.nil
  simp only [List.getElem_toArray, List.getElem_cons_zero, List.getElem_cons_succ]
  go_simp
  with_reducible refine (anum_any a4 a5 a6 a7 _).mono ?_
  rintro e v13 ⟨rfl, b13⟩
  dsimp only
  replace bel := bel.trans (b13.mono bel.size)
  replace hp := (b13.block _ zp).trans hp
  replace zp := Nat.lt_of_lt_of_le zp b13.size
  replace hs1 := hs1.below b13
  have zs := bel.size
  refine hK.out _ _ hp (fun hH13 => ?_)
  clear hK K
  refine wpAnyH_ready (rs := [7]) (by kernel_rfl) (by simp) ?_
  refine AllReadyH.cons (o := _) rfl (fun K hK => ?_) AllReadyH.nil
  simp only [List.getElem_toArray, List.getElem_cons_zero, List.getElem_cons_succ]
  go_simp
  with_reducible refine (u32_then A1 c1 _ a4 a5 a6 a7 _ hs1).mono ?_
  rintro e v14 ⟨v, rfl, hown, b14⟩
  dsimp only
  replace bel := bel.trans (b14.mono bel.size)
  replace hp := (b14.block _ zp).trans hp
  replace zp := Nat.lt_of_lt_of_le zp b14.size
  replace hown := ownsRow_mono (B := w.heap.size) hown zs
  refine hK.out _ _ hp (fun hH14 => ?_)
  clear hK K
  refine wpAnyH_take (i := 8) (v := ?_) rfl (by kernel_rfl) (by kernel_rfl) (by kernel_rfl) (fun _ _ _ h => h) (Or.inl ⟨by rfl, ?_⟩) hH14 ?_
  rotate_left
  · ((intro W hW; clear hW; go_simp) <;> with_reducible rfl)
  simp only [Act.put, List.getElem_toArray, List.getElem_cons_zero, List.getElem_cons_succ, List.setIfInBounds_toArray, List.set_cons_zero, List.set_cons_succ]
  refine wpAnyH_done (by kernel_rfl) ?_ _
  go_wp2
  go_ret
  exact ⟨v, rfl, hown, bel⟩
theorem own_below {w w' : World} {B : Nat} {e : TypeId} {v : Value} {n : Nat} {xs : List Value} (h : w.ownsRow B e 1 v n xs) (hb : Below w.heap.size w w') : w'.ownsRow B e 1 v n xs := by
  refine ⟨h.1, ?_⟩
  rcases h.2 with h | ⟨g, cap, cur, e, hg, hh, h⟩
  · exact .inl h
  · exact .inr ⟨g, cap, cur, e, hg, (hb.block g (Array.getElem?_eq_some_iff.1 hh).1).trans hh, h⟩
theorem made_0b (y : Int) (w : World) : Sl (w.alloc (.cells #[.int .u8 0, .int .u8 (y % 256)] 5)) (some ⟨w.heap.size, 0, none⟩) 2 2 [0, byteOf y] := by
  have h := Sl.made w 5 [0, byteOf y] (by simp [maxLen])
  simpa [u8v, byteOf_val] using h
theorem u8_wrap (x : Int) : IntKind.u8.wrap x = x % 256 := by simp [IntKind.wrap, IntKind.signed, IntKind.bits]
theorem made_b2 (x y : Int) (w : World) : Sl (w.alloc (.cells #[.int .u8 (x % 256), .int .u8 (y % 256)] 5)) (some ⟨w.heap.size, 0, none⟩) 2 2 [byteOf x, byteOf y] := by
  have h := Sl.made w 5 [byteOf x, byteOf y] (by simp [maxLen])
  simpa [u8v, byteOf_val] using h
set_option maxRecDepth 100000 in
set_option maxHeartbeats 16000000 in
theorem ippseudo_o (tos id fl pt ttl pr : Int) (a0 a1 a2 a3 a4 a5 a6 a7 : UInt8) (So Sb : Option Addr) (no co nb cb : Nat) (k : Int) (w : World) : Calls Try.prog 40 #[.agg #[.int .i64 tos, .int .i64 id, .int .i64 fl, .int .i64 pt, .int .i64 ttl, .int .i64 pr, .int .u8 (a0.toNat : Int), .int .u8 (a1.toNat : Int), .int .u8 (a2.toNat : Int), .int .u8 (a3.toNat : Int), .int .u8 (a4.toNat : Int), .int .u8 (a5.toNat : Int), .int .u8 (a6.toNat : Int), .int .u8 (a7.toNat : Int), .slice So no co, .slice Sb nb cb], .int .i64 k] w fun e w' => ∃ v, e = .returned v ∧ w'.ownsRow w.heap.size 5 1 v 12 (([a0, a1, a2, a3, a4, a5, a6, a7] ++ [0, byteOf pr] ++ two k).map u8v) ∧ Below w.heap.size w w' := by
  obtain ⟨ii, hii, hz0, hz1, hz2⟩ := info_parts Try.info5
  have ew := u8_wrap pr
  have bel := Below.refl w.heap.size w
  have hp : (w.alloc (.cells #[.int .i64 tos, .int .i64 id, .int .i64 fl, .int .i64 pt, .int .i64 ttl, .int .i64 pr, .int .u8 (a0.toNat : Int), .int .u8 (a1.toNat : Int), .int .u8 (a2.toNat : Int), .int .u8 (a3.toNat : Int), .int .u8 (a4.toNat : Int), .int .u8 (a5.toNat : Int), .int .u8 (a6.toNat : Int), .int .u8 (a7.toNat : Int), .slice So no co, .slice Sb nb cb] 27)).heap[w.heap.size]? = some (.cells #[.int .i64 tos, .int .i64 id, .int .i64 fl, .int .i64 pt, .int .i64 ttl, .int .i64 pr, .int .u8 (a0.toNat : Int), .int .u8 (a1.toNat : Int), .int .u8 (a2.toNat : Int), .int .u8 (a3.toNat : Int), .int .u8 (a4.toNat : Int), .int .u8 (a5.toNat : Int), .int .u8 (a6.toNat : Int), .int .u8 (a7.toNat : Int), .slice So no co, .slice Sb nb cb] 27 (0, 0)) := by have := heap_alloc_new w (.cells #[.int .i64 tos, .int .i64 id, .int .i64 fl, .int .i64 pt, .int .i64 ttl, .int .i64 pr, .int .u8 (a0.toNat : Int), .int .u8 (a1.toNat : Int), .int .u8 (a2.toNat : Int), .int .u8 (a3.toNat : Int), .int .u8 (a4.toNat : Int), .int .u8 (a5.toNat : Int), .int .u8 (a6.toNat : Int), .int .u8 (a7.toNat : Int), .slice So no co, .slice Sb nb cb] 27); simpa using this
  have zp : w.heap.size < (w.alloc (.cells #[.int .i64 tos, .int .i64 id, .int .i64 fl, .int .i64 pt, .int .i64 ttl, .int .i64 pr, .int .u8 (a0.toNat : Int), .int .u8 (a1.toNat : Int), .int .u8 (a2.toNat : Int), .int .u8 (a3.toNat : Int), .int .u8 (a4.toNat : Int), .int .u8 (a5.toNat : Int), .int .u8 (a6.toNat : Int), .int .u8 (a7.toNat : Int), .slice So no co, .slice Sb nb cb] 27)).heap.size := by simp
  replace bel := bel.alloc bel.size (.cells #[.int .i64 tos, .int .i64 id, .int .i64 fl, .int .i64 pt, .int .i64 ttl, .int .i64 pr, .int .u8 (a0.toNat : Int), .int .u8 (a1.toNat : Int), .int .u8 (a2.toNat : Int), .int .u8 (a3.toNat : Int), .int .u8 (a4.toNat : Int), .int .u8 (a5.toNat : Int), .int .u8 (a6.toNat : Int), .int .u8 (a7.toNat : Int), .slice So no co, .slice Sb nb cb] 27)
  go_enter Try.func40, Try.ntmps40
  go_wp2_with fail
  replace bel := bel.drew
  replace hp : (w.alloc (.cells #[.int .i64 tos, .int .i64 id, .int .i64 fl, .int .i64 pt, .int .i64 ttl, .int .i64 pr, .int .u8 (a0.toNat : Int), .int .u8 (a1.toNat : Int), .int .u8 (a2.toNat : Int), .int .u8 (a3.toNat : Int), .int .u8 (a4.toNat : Int), .int .u8 (a5.toNat : Int), .int .u8 (a6.toNat : Int), .int .u8 (a7.toNat : Int), .slice So no co, .slice Sb nb cb] 27)).drew.heap[w.heap.size]? = some (.cells #[.int .i64 tos, .int .i64 id, .int .i64 fl, .int .i64 pt, .int .i64 ttl, .int .i64 pr, .int .u8 (a0.toNat : Int), .int .u8 (a1.toNat : Int), .int .u8 (a2.toNat : Int), .int .u8 (a3.toNat : Int), .int .u8 (a4.toNat : Int), .int .u8 (a5.toNat : Int), .int .u8 (a6.toNat : Int), .int .u8 (a7.toNat : Int), .slice So no co, .slice Sb nb cb] 27 (0, 0)) := hp
  replace zp : w.heap.size < (w.alloc (.cells #[.int .i64 tos, .int .i64 id, .int .i64 fl, .int .i64 pt, .int .i64 ttl, .int .i64 pr, .int .u8 (a0.toNat : Int), .int .u8 (a1.toNat : Int), .int .u8 (a2.toNat : Int), .int .u8 (a3.toNat : Int), .int .u8 (a4.toNat : Int), .int .u8 (a5.toNat : Int), .int .u8 (a6.toNat : Int), .int .u8 (a7.toNat : Int), .slice So no co, .slice Sb nb cb] 27)).drew.heap.size := zp
  refine wp_region_held_drew (S := fun W => W.heap[w.heap.size]? = some (.cells #[.int .i64 tos, .int .i64 id, .int .i64 fl, .int .i64 pt, .int .i64 ttl, .int .i64 pr, .int .u8 (a0.toNat : Int), .int .u8 (a1.toNat : Int), .int .u8 (a2.toNat : Int), .int .u8 (a3.toNat : Int), .int .u8 (a4.toNat : Int), .int .u8 (a5.toNat : Int), .int .u8 (a6.toNat : Int), .int .u8 (a7.toNat : Int), .slice So no co, .slice Sb nb cb] 27 (0, 0))) (by kernel_rfl) hp (fun hH => ?_)
  generalize (w.alloc (.cells #[.int .i64 tos, .int .i64 id, .int .i64 fl, .int .i64 pt, .int .i64 ttl, .int .i64 pr, .int .u8 (a0.toNat : Int), .int .u8 (a1.toNat : Int), .int .u8 (a2.toNat : Int), .int .u8 (a3.toNat : Int), .int .u8 (a4.toNat : Int), .int .u8 (a5.toNat : Int), .int .u8 (a6.toNat : Int), .int .u8 (a7.toNat : Int), .slice So no co, .slice Sb nb cb] 27)).drew = vd at bel hp zp hH ⊢
  refine wpAnyH_take (i := 0) (v := .agg #[.int .i64 tos, .int .i64 id, .int .i64 fl, .int .i64 pt, .int .i64 ttl, .int .i64 pr, .int .u8 (a0.toNat : Int), .int .u8 (a1.toNat : Int), .int .u8 (a2.toNat : Int), .int .u8 (a3.toNat : Int), .int .u8 (a4.toNat : Int), .int .u8 (a5.toNat : Int), .int .u8 (a6.toNat : Int), .int .u8 (a7.toNat : Int), .slice So no co, .slice Sb nb cb]) rfl (by kernel_rfl) (by kernel_rfl) (by kernel_rfl) (fun _ _ _ h => h) (yieldsIf_load_part (by kernel_rfl) 27 _ rfl (w.heap.size) 0 16 rfl [.int .i64 tos, .int .i64 id, .int .i64 fl, .int .i64 pt, .int .i64 ttl, .int .i64 pr, .int .u8 (a0.toNat : Int), .int .u8 (a1.toNat : Int), .int .u8 (a2.toNat : Int), .int .u8 (a3.toNat : Int), .int .u8 (a4.toNat : Int), .int .u8 (a5.toNat : Int), .int .u8 (a6.toNat : Int), .int .u8 (a7.toNat : Int), .slice So no co, .slice Sb nb cb] 27 (0, 0) (fun W hW => hW) [.int .i64 tos, .int .i64 id, .int .i64 fl, .int .i64 pt, .int .i64 ttl, .int .i64 pr, .int .u8 (a0.toNat : Int), .int .u8 (a1.toNat : Int), .int .u8 (a2.toNat : Int), .int .u8 (a3.toNat : Int), .int .u8 (a4.toNat : Int), .int .u8 (a5.toNat : Int), .int .u8 (a6.toNat : Int), .int .u8 (a7.toNat : Int), .slice So no co, .slice Sb nb cb] rfl _ Try.underlying27 rfl (by kernel_rfl)) hH ?_
  simp only [Act.put, List.getElem_toArray, List.getElem_cons_zero, List.setIfInBounds_toArray, List.set_cons_zero, List.set_cons_succ]
  refine wpAnyH_take (i := 2) (v := ?_) rfl (by kernel_rfl) (by kernel_rfl) (by kernel_rfl) (fun _ _ _ h => h) (Or.inl ⟨by rfl, ?_⟩) hH ?_
  rotate_left
  · ((intro W hW; clear hW; go_simp) <;> with_reducible rfl)
  simp only [Act.put, List.getElem_toArray, List.getElem_cons_zero, List.getElem_cons_succ, List.setIfInBounds_toArray, List.set_cons_zero, List.set_cons_succ]
  refine wpAnyH_take (i := 3) (v := ?_) rfl (by kernel_rfl) (by kernel_rfl) (by kernel_rfl) (fun _ _ _ h => h) (Or.inl ⟨by rfl, ?_⟩) hH ?_
  rotate_left
  · ((intro W hW; have hk := cell_lit (hW) 5 _ rfl; clear hW; go_simp) <;> with_reducible rfl)
  simp only [Act.put, List.getElem_toArray, List.getElem_cons_zero, List.getElem_cons_succ, List.setIfInBounds_toArray, List.set_cons_zero, List.set_cons_succ]
  refine wpAnyH_take (i := 4) (v := ?_) rfl (by kernel_rfl) (by kernel_rfl) (by kernel_rfl) (fun _ _ _ h => h) (Or.inl ⟨by rfl, ?_⟩) hH ?_
  rotate_left
  · ((intro W hW; clear hW; go_simp) <;> with_reducible rfl)
  simp only [Act.put, List.getElem_toArray, List.getElem_cons_zero, List.getElem_cons_succ, List.setIfInBounds_toArray, List.set_cons_zero, List.set_cons_succ]
  refine wpAnyH_take (i := 7) (v := ?_) rfl (by kernel_rfl) (by kernel_rfl) (by kernel_rfl) (fun _ _ _ h => h) (Or.inl ⟨by rfl, ?_⟩) hH ?_
  rotate_left
  · ((intro W hW; clear hW; go_simp) <;> with_reducible rfl)
  simp only [Act.put, List.getElem_toArray, List.getElem_cons_zero, List.getElem_cons_succ, List.setIfInBounds_toArray, List.set_cons_zero, List.set_cons_succ]
  refine wpAnyH_ready (rs := [1, 5]) (by kernel_rfl) (by simp) ?_
  refine AllReadyH.cons (o := _) rfl (fun K hK => ?_) (AllReadyH.cons (o := _) rfl (fun K hK => ?_) AllReadyH.nil)
  · have mkzp := zp
    have mkw := bel.size
    simp only [List.getElem_toArray, List.getElem_cons_zero, List.getElem_cons_succ]
    go_simp
    with_reducible refine (ends_o tos id fl pt ttl pr a0 a1 a2 a3 a4 a5 a6 a7 So Sb no co nb cb _).mono ?_
    rintro e v11 ⟨v, rfl, hown, b11⟩
    dsimp only
    replace bel := bel.trans (b11.mono bel.size)
    replace hp := (b11.block _ zp).trans hp
    replace zp := Nat.lt_of_lt_of_le zp b11.size
    have mk := b11.size
    have mkb := b11
    refine hK.out _ _ hp (fun hH11 => ?_)
    clear hK K
    refine wpAnyH_ready (rs := [5]) (by kernel_rfl) (by simp) ?_
    refine AllReadyH.cons (o := _) rfl (fun K hK => ?_) AllReadyH.nil
    simp only [List.getElem_toArray, List.getElem_cons_zero, List.getElem_cons_succ]
    go_simp
    have ba := (Below.refl v11.heap.size v11).alloc (Nat.le_refl _) (.cells #[.int .u8 0, .int .u8 (pr % 256)] 5)
    replace mkb := mkb.trans (ba.mono mk)
    replace mk := Nat.le_trans mk ba.size
    have hm := made_0b pr v11
    replace bel := bel.trans (ba.mono bel.size)
    replace hp := (ba.block _ zp).trans hp
    replace zp := Nat.lt_of_lt_of_le zp ba.size
    replace hown := own_below hown ba
    generalize v11.alloc (.cells #[.int .u8 0, .int .u8 (pr % 256)] 5) = v12 at bel hp zp hown hm mk mkb ba ⊢
    refine hK.out _ _ hp (fun hH12 => ?_)
    clear hK K ba
    refine wpAnyH_ready (rs := [6]) (by kernel_rfl) (by simp) ?_
    refine AllReadyH.cons (o := _) rfl (fun K hK => ?_) AllReadyH.nil
    simp only [List.getElem_toArray, List.getElem_cons_zero, List.getElem_cons_succ]
    rw [if_pos (by rfl)]
    refine wp_append_bb (.tmp 6) (.tmp 10) 25 rfl (vd.heap.size) 5 ii (.int .u8 0) Try.underlying25 hii hz0 hz1 hz2 rfl v (8) ([a0, a1, a2, a3, a4, a5, a6, a7]) rfl hown (_) (2) (2) ([0, byteOf pr]) rfl hm (by omega) (by omega) ?_
    intro r13 v13 hown2_ bb
    replace hp := (bb.block _ mkzp).trans hp
    replace zp := Nat.lt_of_lt_of_le zp bb.size
    replace bel := bel.trans (bb.mono mkw)
    clear hown
    replace mkb := mkb.trans bb
    replace mk := Nat.le_trans mk bb.size
    clear bb
    clear hm
    have hown2 := hown2_
    clear hown2_
    refine hK.out _ _ hp (fun hH13 => ?_)
    clear hK K
    have zw := bel.size
    obtain ⟨A3, c3, rfl, hs3⟩ := Sl.of_own hown2
    clear hown2
    refine wpAnyH_ready (rs := [8]) (by kernel_rfl) (by simp) ?_
    refine AllReadyH.cons (o := _) rfl (fun K hK => ?_) AllReadyH.nil
    simp only [List.getElem_toArray, List.getElem_cons_zero, List.getElem_cons_succ]
    go_simp
    with_reducible refine (w16_o A3 10 c3 ([a0, a1, a2, a3, a4, a5, a6, a7] ++ [0, byteOf pr]) k _ hs3 (by omega)).mono ?_
    rintro e v14 ⟨v4, rfl, hwo, b14⟩
    dsimp only
    replace bel := bel.trans (b14.mono bel.size)
    replace hp := (b14.block _ zp).trans hp
    replace zp := Nat.lt_of_lt_of_le zp b14.size
    replace mkb := mkb.trans (b14.mono mk)
    replace mk := Nat.le_trans mk b14.size
    refine hK.out _ _ hp (fun hH14 => ?_)
    clear hK K
    refine wpAnyH_take (i := 9) (v := ?_) rfl (by kernel_rfl) (by kernel_rfl) (by kernel_rfl) (fun _ _ _ h => h) (Or.inl ⟨by rfl, ?_⟩) hH14 ?_
    rotate_left
    · ((intro W hW; clear hW; go_simp) <;> with_reducible rfl)
    simp only [Act.put, List.getElem_toArray, List.getElem_cons_zero, List.getElem_cons_succ, List.setIfInBounds_toArray, List.set_cons_zero, List.set_cons_succ]
    refine wpAnyH_done (by kernel_rfl) ?_ _
    go_wp2
    go_ret
    exact ⟨v4, rfl, ownsRow_mono hwo zw, bel⟩
  · simp only [List.getElem_toArray, List.getElem_cons_zero, List.getElem_cons_succ]
    go_simp
    have ba := (Below.refl vd.heap.size vd).alloc (Nat.le_refl _) (.cells #[.int .u8 0, .int .u8 (pr % 256)] 5)
    have hm := made_0b pr vd
    replace bel := bel.trans (ba.mono bel.size)
    replace hp := (ba.block _ zp).trans hp
    replace zp := Nat.lt_of_lt_of_le zp ba.size
    generalize vd.alloc (.cells #[.int .u8 0, .int .u8 (pr % 256)] 5) = v11 at bel hp zp hm ba ⊢
    refine hK.out _ _ hp (fun hH11 => ?_)
    clear hK K ba
    have mkzp := zp
    have mkshm := hm
    have mkw := bel.size
    refine wpAnyH_ready (rs := [1]) (by kernel_rfl) (by simp) ?_
    refine AllReadyH.cons (o := _) rfl (fun K hK => ?_) AllReadyH.nil
    simp only [List.getElem_toArray, List.getElem_cons_zero, List.getElem_cons_succ]
    go_simp
    with_reducible refine (ends_o tos id fl pt ttl pr a0 a1 a2 a3 a4 a5 a6 a7 So Sb no co nb cb _).mono ?_
    rintro e v12 ⟨v, rfl, hown, b12⟩
    dsimp only
    replace bel := bel.trans (b12.mono bel.size)
    replace hp := (b12.block _ zp).trans hp
    replace zp := Nat.lt_of_lt_of_le zp b12.size
    have mk := b12.size
    have mkb := b12
    replace hm := hm.below b12
    refine hK.out _ _ hp (fun hH12 => ?_)
    clear hK K
    refine wpAnyH_ready (rs := [6]) (by kernel_rfl) (by simp) ?_
    refine AllReadyH.cons (o := _) rfl (fun K hK => ?_) AllReadyH.nil
    simp only [List.getElem_toArray, List.getElem_cons_zero, List.getElem_cons_succ]
    rw [if_pos (by rfl)]
    refine wp_append_bb (.tmp 6) (.tmp 10) 25 rfl (v11.heap.size) 5 ii (.int .u8 0) Try.underlying25 hii hz0 hz1 hz2 rfl v (8) ([a0, a1, a2, a3, a4, a5, a6, a7]) rfl hown (_) (2) (2) ([0, byteOf pr]) rfl hm (by omega) (by omega) ?_
    intro r13 v13 hown2_ bb
    replace hp := (bb.block _ mkzp).trans hp
    replace zp := Nat.lt_of_lt_of_le zp bb.size
    replace bel := bel.trans (bb.mono mkw)
    clear hown
    replace mkb := mkb.trans bb
    replace mk := Nat.le_trans mk bb.size
    clear bb
    clear hm
    have hown2 := hown2_
    clear hown2_
    refine hK.out _ _ hp (fun hH13 => ?_)
    clear hK K
    have zw := bel.size
    obtain ⟨A3, c3, rfl, hs3⟩ := Sl.of_own hown2
    clear hown2
    refine wpAnyH_ready (rs := [8]) (by kernel_rfl) (by simp) ?_
    refine AllReadyH.cons (o := _) rfl (fun K hK => ?_) AllReadyH.nil
    simp only [List.getElem_toArray, List.getElem_cons_zero, List.getElem_cons_succ]
    go_simp
    with_reducible refine (w16_o A3 10 c3 ([a0, a1, a2, a3, a4, a5, a6, a7] ++ [0, byteOf pr]) k _ hs3 (by omega)).mono ?_
    rintro e v14 ⟨v4, rfl, hwo, b14⟩
    dsimp only
    replace bel := bel.trans (b14.mono bel.size)
    replace hp := (b14.block _ zp).trans hp
    replace zp := Nat.lt_of_lt_of_le zp b14.size
    replace mkb := mkb.trans (b14.mono mk)
    replace mk := Nat.le_trans mk b14.size
    refine hK.out _ _ hp (fun hH14 => ?_)
    clear hK K
    refine wpAnyH_take (i := 9) (v := ?_) rfl (by kernel_rfl) (by kernel_rfl) (by kernel_rfl) (fun _ _ _ h => h) (Or.inl ⟨by rfl, ?_⟩) hH14 ?_
    rotate_left
    · ((intro W hW; clear hW; go_simp) <;> with_reducible rfl)
    simp only [Act.put, List.getElem_toArray, List.getElem_cons_zero, List.getElem_cons_succ, List.setIfInBounds_toArray, List.set_cons_zero, List.set_cons_succ]
    refine wpAnyH_done (by kernel_rfl) ?_ _
    go_wp2
    go_ret
    exact ⟨v4, rfl, ownsRow_mono hwo zw, bel⟩
theorem ippseudo_any (tos id fl pt ttl pr : Int) (a0 a1 a2 a3 a4 a5 a6 a7 : UInt8) (So Sb : Option Addr) (no co nb cb : Nat) (k : Int) (w : World) : Calls Try.prog 40 #[.agg #[.int .i64 tos, .int .i64 id, .int .i64 fl, .int .i64 pt, .int .i64 ttl, .int .i64 pr, .int .u8 (a0.toNat : Int), .int .u8 (a1.toNat : Int), .int .u8 (a2.toNat : Int), .int .u8 (a3.toNat : Int), .int .u8 (a4.toNat : Int), .int .u8 (a5.toNat : Int), .int .u8 (a6.toNat : Int), .int .u8 (a7.toNat : Int), .slice So no co, .slice Sb nb cb], .int .i64 k] w fun e w' => ∃ A c, e = .returned (.slice A 12 c) ∧ Sl w' A 12 c ([a0, a1, a2, a3, a4, a5, a6, a7] ++ [0, byteOf pr] ++ two k) ∧ Below w.heap.size w w' := by
  refine (ippseudo_o tos id fl pt ttl pr a0 a1 a2 a3 a4 a5 a6 a7 So Sb no co nb cb k w).mono ?_
  rintro e w' ⟨v, rfl, hown, bel⟩
  obtain ⟨A, c, rfl, hs⟩ := Sl.of_own hown
  exact ⟨A, c, rfl, hs, bel⟩
end Go.Proofs.Ytkmihoijnjdbnaa
