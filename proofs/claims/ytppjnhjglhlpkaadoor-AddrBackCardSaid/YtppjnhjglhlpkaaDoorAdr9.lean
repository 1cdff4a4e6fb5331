/- The contract of addr's MacText. -/
import Derived.Test.YtppjnhjglhlpkaaDoorAdr3
import Derived.Test.YtppjnhjglhlpkaaDoorRef3x
import Derived.Deep.RegionHeld3
namespace Go.Proofs.YtppjnhjglhlpkaaDoor
open Go.RowKit

theorem idx6 (b0 b1 b2 b3 b4 b5 : UInt8) (k : Nat) (hk : k < 6) (W : World) : (Instr.index 33 (.agg #[.int .u8 (b0.toNat : Int), .int .u8 (b1.toNat : Int), .int .u8 (b2.toNat : Int), .int .u8 (b3.toNat : Int), .int .u8 (b4.toNat : Int), .int .u8 (b5.toNat : Int)]) (.int .i64 (k : Int))).run Tryd.prog W = .ok (.int .u8 (([b0, b1, b2, b3, b4, b5].getD k 0).toNat : Int)) W := by
  rcases (by omega : k = 0 ∨ k = 1 ∨ k = 2 ∨ k = 3 ∨ k = 4 ∨ k = 5) with rfl | rfl | rfl | rfl | rfl | rfl <;>
    simp [Instr.index, run_underlying Tryd.underlying33, asIntOf, go_sem]
theorem ret_s {a b : List UInt8} (h : a = b) : Ending.returned (.string ⟨a.toArray⟩) = .returned (.string ⟨b.toArray⟩) := by rw [h]
abbrev hexBs : ByteArray := ⟨#[48, 49, 50, 51, 52, 53, 54, 55, 56, 57, 97, 98, 99, 100, 101, 102]⟩
theorem hexBs_get : ∀ n : Fin 16, hexBs[n.val]'(by have := n.isLt; show n.val < 16; omega) = hexDig n.val := by decide +kernel
theorem idx_hex (n : Nat) (h : n < 16) (W : World) : (Instr.index 9 (.string hexBs) (.int .u8 (n : Int))).run Tryd.prog W = .ok (.int .u8 ((hexDig n).toNat : Int)) W := by
  have hs : hexBs.size = 16 := rfl
  rw [run_index_string (h := Tryd.underlying9), dif_pos (by rw [hs]; omega)]
  have e : hexBs[((n : Int)).toNat]'(by rw [hs]; omega) = hexDig n := hexBs_get ⟨n, h⟩
  rw [e]
theorem Tryd.info_u8 : (Tryd.prog.info? 5).map (fun i => (i.zero, i.size, i.bytes)) = some (some (.int .u8 0), 1, 1) := by kernel_rfl
theorem made_two (x y : UInt8) (w : World) : Sl (w.alloc (.cells #[.int .u8 (x.toNat : Int), .int .u8 (y.toNat : Int)] 5)) (some ⟨w.heap.size, 0, none⟩) 2 2 [x, y] := Sl.made w 5 [x, y] (by simp [maxLen])
theorem made_one (x : UInt8) (w : World) : Sl (w.alloc (.cells #[.int .u8 (x.toNat : Int)] 5)) (some ⟨w.heap.size, 0, none⟩) 1 1 [x] := Sl.made w 5 [x] (by simp [maxLen])

set_option maxRecDepth 100000 in
set_option maxHeartbeats 4000000 in
theorem amactext_any (b0 b1 b2 b3 b4 b5 : UInt8) (w : World) :
    Calls Tryd.prog 26 #[.agg #[.int .u8 (b0.toNat : Int), .int .u8 (b1.toNat : Int), .int .u8 (b2.toNat : Int), .int .u8 (b3.toNat : Int), .int .u8 (b4.toNat : Int), .int .u8 (b5.toNat : Int)]] w fun e w' => e = .returned (.string ⟨(macT [b0, b1, b2, b3, b4, b5] 6).toArray⟩) ∧ Below w.heap.size w w' := by
  obtain ⟨ii, hii, hz0, hz1, hz2⟩ := info_parts Tryd.info_u8
  have bel0 := (Below.refl w.heap.size w).alloc (Nat.le_refl _) (.cells #[.int .u8 (b0.toNat : Int), .int .u8 (b1.toNat : Int), .int .u8 (b2.toNat : Int), .int .u8 (b3.toNat : Int), .int .u8 (b4.toNat : Int), .int .u8 (b5.toNat : Int)] 33)
  have IX := Lib.hid fun k hk W => idx6 b0 b1 b2 b3 b4 b5 k hk W
  obtain ⟨l, hl⟩ : ∃ l, Hid ([b0, b1, b2, b3, b4, b5] = l) := ⟨_, Lib.hid rfl⟩
  rw [hl.out] at IX ⊢
  go_enter Tryd.func26, Tryd.ntmps26
  go_wp2
  go_loopw [3, 7] (fun v i wr => ∃ (k : Nat) (j : Int) (v0 : Value), v0 = v ∧ k ≤ 6 ∧ i = .int .i64 j ∧ j = (k : Int) ∧ wr.ownsRow w.heap.size 5 1 v (macT l k).length ((macT l k).map u8v) ∧ Below w.heap.size w wr) (fun _ i _ => 6 - (intOf i).toNat)
  case atStart => exact ⟨0, 0, _, rfl, by omega, rfl, rfl, World.ownsRow_nil _ _ _ _, bel0⟩
  case round =>
    obtain ⟨k, j, v, rfl, hk, rfl, hj, hown, bel⟩ := hrel
    have HJ := Lib.hid hj
    by_cases hlt : k < 6
    · have ix := IX.out k hlt
      rw [← hj] at ix
      have j6 : j < 6 := by omega
      have j0 : 0 ≤ j := by omega
      have hln := macT_len l k
      obtain ⟨x, hx⟩ : ∃ x, Hid (l.getD k 0 = x) := ⟨_, Lib.hid rfl⟩
      rw [hx.out] at ix
      have hm1 : Hid (macT l (k + 1) = macT l k ++ (if k > 0 then [58] else []) ++ [hexDig (x.toNat / 16), hexDig (x.toNat % 16)]) := Lib.hid (by rw [← hx.out]; rw [macT, List.append_assoc _ [_] [_]]; rfl)
      have hxl := x.toNat_lt
      have x1 := fun W => idx_hex (x.toNat / 16) (by omega) W
      have x2 := fun W => idx_hex (x.toNat % 16) (by omega) W
      have h15 := u8_and15 x
      have c0 : (0 : Int) ≤ x.toNat := by omega
      have c1 : (x.toNat : Int) < 256 := by omega
      have e16 : ((x.toNat / 16 : Nat) : Int) = (x.toNat : Int) / 16 := by omega
      have e15 : ((x.toNat % 16 : Nat) : Int) = (x.toNat : Int) % 16 := by omega
      rw [e16] at x1
      rw [e15] at x2 h15
      generalize macT l k = L at *
      obtain ⟨d1, hd1⟩ : ∃ d, Hid (hexDig (x.toNat / 16) = d) := ⟨_, Lib.hid rfl⟩
      obtain ⟨d2, hd2⟩ : ∃ d, Hid (hexDig (x.toNat % 16) = d) := ⟨_, Lib.hid rfl⟩
      rw [hd1.out] at x1 hm1
      rw [hd2.out] at x2 hm1
      by_cases hp : k = 0
      · subst hp
        obtain rfl : j = 0 := by omega
        clear hj j6 j0
        have hm2 : Hid (macT l 1 = L ++ [d1, d2]) := Lib.hid (by have := hm1.out; simpa using this)
        clear hm1 e16 e15
        go_wp2_with fail
        refine wp_region_held_drew (S := fun _ => True) (by kernel_rfl) trivial (fun hH => ?_)
        refine wpAnyH_take (i := 0) (v := ?_) rfl (by kernel_rfl) (by kernel_rfl) (by kernel_rfl) (fun _ _ _ h => h) (Or.inl ⟨by rfl, ?_⟩) hH ?_
        rotate_left
        · ((intro w hw; clear hw; go_simp) <;> with_reducible rfl)
        simp only [Act.put, List.getElem_toArray, List.getElem_cons_zero, List.setIfInBounds_toArray, List.set_cons_zero, List.set_cons_succ]
        refine wpAnyH_take (i := 1) (v := ?_) rfl (by kernel_rfl) (by kernel_rfl) (by kernel_rfl) (fun _ _ _ h => h) (Or.inl ⟨by rfl, ?_⟩) hH ?_
        rotate_left
        · ((intro w hw; clear hw; go_simp) <;> with_reducible rfl)
        simp only [Act.put, List.getElem_toArray, List.getElem_cons_zero, List.getElem_cons_succ, List.setIfInBounds_toArray, List.set_cons_zero, List.set_cons_succ]
        refine wpAnyH_take (i := 2) (v := ?_) rfl (by kernel_rfl) (by kernel_rfl) (by kernel_rfl) (fun _ _ _ h => h) (Or.inl ⟨by rfl, ?_⟩) hH ?_
        rotate_left
        · ((intro w hw; clear hw; go_simp) <;> with_reducible rfl)
        simp only [Act.put, List.getElem_toArray, List.getElem_cons_zero, List.getElem_cons_succ, List.setIfInBounds_toArray, List.set_cons_zero, List.set_cons_succ]
        refine wpAnyH_take (i := 3) (v := ?_) rfl (by kernel_rfl) (by kernel_rfl) (by kernel_rfl) (fun _ _ _ h => h) (Or.inl ⟨by rfl, ?_⟩) hH ?_
        rotate_left
        · ((intro w hw; clear hw; go_simp) <;> with_reducible rfl)
        simp only [Act.put, List.getElem_toArray, List.getElem_cons_zero, List.getElem_cons_succ, List.setIfInBounds_toArray, List.set_cons_zero, List.set_cons_succ]
        refine wpAnyH_take (i := 4) (v := ?_) rfl (by kernel_rfl) (by kernel_rfl) (by kernel_rfl) (fun _ _ _ h => h) (Or.inl ⟨by rfl, ?_⟩) hH ?_
        rotate_left
        · ((intro w hw; clear hw; go_simp) <;> with_reducible rfl)
        simp only [Act.put, List.getElem_toArray, List.getElem_cons_zero, List.getElem_cons_succ, List.setIfInBounds_toArray, List.set_cons_zero, List.set_cons_succ]
        refine wpAnyH_take (i := 5) (v := ?_) rfl (by kernel_rfl) (by kernel_rfl) (by kernel_rfl) (fun _ _ _ h => h) (Or.inl ⟨by rfl, ?_⟩) hH ?_
        rotate_left
        · ((intro w hw; clear hw; go_simp) <;> with_reducible rfl)
        simp only [Act.put, List.getElem_toArray, List.getElem_cons_zero, List.getElem_cons_succ, List.setIfInBounds_toArray, List.set_cons_zero, List.set_cons_succ]
        refine wpAnyH_take (i := 6) (v := ?_) rfl (by kernel_rfl) (by kernel_rfl) (by kernel_rfl) (fun _ _ _ h => h) (Or.inl ⟨by rfl, ?_⟩) hH ?_
        rotate_left
        · ((intro w hw; clear hw; go_simp) <;> with_reducible rfl)
        simp only [Act.put, List.getElem_toArray, List.getElem_cons_zero, List.getElem_cons_succ, List.setIfInBounds_toArray, List.set_cons_zero, List.set_cons_succ]
        refine wpAnyH_ready (rs := [7]) (by kernel_rfl) (by simp) ?_
        refine AllReadyH.cons (o := _) rfl (fun K hK => ?_) AllReadyH.nil
        simp only [List.getElem_toArray, List.getElem_cons_zero, List.getElem_cons_succ]
        go_simp
        have m2 := (made_two d1 d2 wr)
        have hown2 := hown.alloc (.cells #[.int .u8 (d1.toNat : Int), .int .u8 (d2.toNat : Int)] 5)
        have bel2 := bel.alloc bel.size (.cells #[.int .u8 (d1.toNat : Int), .int .u8 (d2.toNat : Int)] 5)
        refine hK.out _ _ trivial (fun _ => ?_)
        clear hK K
        refine wpAnyH_ready (rs := [8]) (by kernel_rfl) (by simp) ?_
        refine AllReadyH.cons (o := _) rfl (fun K hK => ?_) AllReadyH.nil
        simp only [List.getElem_toArray, List.getElem_cons_zero, List.getElem_cons_succ]
        rw [if_pos (by rfl)]
        refine wp_append_bytes (.tmp 16) (.tmp 23) 72 rfl w.heap.size 5 ii (.int .u8 0) Tryd.underlying72 hii hz0 hz1 hz2 rfl v _ (L) rfl hown2.drew (some ⟨wr.heap.size, 0, none⟩) 2 2 [d1, d2] rfl (m2.keep fun _ _ _ h => h) ?_ ?_ ?_
        · omega
        · have := bel2.size; simpa using this
        intro v3 w3 hown3 hg3 hat3
        obtain ⟨bel3, _, _⟩ := own_grown bel2.drew (by have := bel2.size; simpa using this) (fun k h => (hown2.lt k h).1) hg3 (by simpa using hat3)
        refine hK.out _ _ trivial (fun _ => ?_)
        clear hK K hg3 hat3 hown2 m2
        refine wpAnyH_take (i := 9) (v := ?_) rfl (by kernel_rfl) (by kernel_rfl) (by kernel_rfl) (fun _ _ _ h => h) (Or.inl ⟨by rfl, ?_⟩) hH ?_
        rotate_left
        · ((intro w hw; clear hw; go_simp) <;> with_reducible rfl)
        simp only [Act.put, List.getElem_toArray, List.getElem_cons_zero, List.getElem_cons_succ, List.setIfInBounds_toArray, List.set_cons_zero, List.set_cons_succ]
        refine wpAnyH_done (by kernel_rfl) ?_ _
        go_wp2
        go_roundw
        case rel => exact ⟨1, _, _, rfl, by omega, rfl, by have := HJ.out; omega, by rw [hm2.out]; simpa using hown3, bel3⟩
        case measure => simp [intOf]
      · have z1 : (0 : Int) < j := by omega
        clear hj
        have hm2 : Hid (macT l (k + 1) = (L ++ [58]) ++ [d1, d2]) := Lib.hid (by have := hm1.out; rw [if_pos (by omega)] at this; exact this)
        clear hm1 e16 e15
        have m1 := made_one 58 wr
        go_wp2_with (at_builtin; refine wpList_append_bytes _ rfl (.tmp 13) (.tmp 14) 72 rfl w.heap.size 5 ii (.int .u8 0) Tryd.underlying72 hii hz0 hz1 hz2 rfl _ _ L rfl (hown.alloc _) _ 1 1 [58] rfl m1 (by omega) (by have := bel.size; simp; omega) ?_)
        intro v' w1 hown1 hg1 hat1
        replace hown1 : w1.ownsRow w.heap.size 5 1 v' (L.length + 1) ((L ++ [58]).map u8v) := by rw [List.map_append]; exact hown1
        obtain ⟨bel1, _, _⟩ := own_grown (bel.alloc bel.size _) (by have := bel.size; simp; omega) (fun k h => (hown.lt k h).1) hg1 (by simpa using hat1)
        clear hown hg1 hat1 bel m1
        go_wp2_with fail
        refine wp_region_held_drew (S := fun _ => True) (by kernel_rfl) trivial (fun hH => ?_)
        refine wpAnyH_take (i := 0) (v := ?_) rfl (by kernel_rfl) (by kernel_rfl) (by kernel_rfl) (fun _ _ _ h => h) (Or.inl ⟨by rfl, ?_⟩) hH ?_
        rotate_left
        · ((intro w hw; clear hw; go_simp) <;> with_reducible rfl)
        simp only [Act.put, List.getElem_toArray, List.getElem_cons_zero, List.setIfInBounds_toArray, List.set_cons_zero, List.set_cons_succ]
        refine wpAnyH_take (i := 1) (v := ?_) rfl (by kernel_rfl) (by kernel_rfl) (by kernel_rfl) (fun _ _ _ h => h) (Or.inl ⟨by rfl, ?_⟩) hH ?_
        rotate_left
        · ((intro w hw; clear hw; go_simp) <;> with_reducible rfl)
        simp only [Act.put, List.getElem_toArray, List.getElem_cons_zero, List.getElem_cons_succ, List.setIfInBounds_toArray, List.set_cons_zero, List.set_cons_succ]
        refine wpAnyH_take (i := 2) (v := ?_) rfl (by kernel_rfl) (by kernel_rfl) (by kernel_rfl) (fun _ _ _ h => h) (Or.inl ⟨by rfl, ?_⟩) hH ?_
        rotate_left
        · ((intro w hw; clear hw; go_simp) <;> with_reducible rfl)
        simp only [Act.put, List.getElem_toArray, List.getElem_cons_zero, List.getElem_cons_succ, List.setIfInBounds_toArray, List.set_cons_zero, List.set_cons_succ]
        refine wpAnyH_take (i := 3) (v := ?_) rfl (by kernel_rfl) (by kernel_rfl) (by kernel_rfl) (fun _ _ _ h => h) (Or.inl ⟨by rfl, ?_⟩) hH ?_
        rotate_left
        · ((intro w hw; clear hw; go_simp) <;> with_reducible rfl)
        simp only [Act.put, List.getElem_toArray, List.getElem_cons_zero, List.getElem_cons_succ, List.setIfInBounds_toArray, List.set_cons_zero, List.set_cons_succ]
        refine wpAnyH_take (i := 4) (v := ?_) rfl (by kernel_rfl) (by kernel_rfl) (by kernel_rfl) (fun _ _ _ h => h) (Or.inl ⟨by rfl, ?_⟩) hH ?_
        rotate_left
        · ((intro w hw; clear hw; go_simp) <;> with_reducible rfl)
        simp only [Act.put, List.getElem_toArray, List.getElem_cons_zero, List.getElem_cons_succ, List.setIfInBounds_toArray, List.set_cons_zero, List.set_cons_succ]
        refine wpAnyH_take (i := 5) (v := ?_) rfl (by kernel_rfl) (by kernel_rfl) (by kernel_rfl) (fun _ _ _ h => h) (Or.inl ⟨by rfl, ?_⟩) hH ?_
        rotate_left
        · ((intro w hw; clear hw; go_simp) <;> with_reducible rfl)
        simp only [Act.put, List.getElem_toArray, List.getElem_cons_zero, List.getElem_cons_succ, List.setIfInBounds_toArray, List.set_cons_zero, List.set_cons_succ]
        refine wpAnyH_take (i := 6) (v := ?_) rfl (by kernel_rfl) (by kernel_rfl) (by kernel_rfl) (fun _ _ _ h => h) (Or.inl ⟨by rfl, ?_⟩) hH ?_
        rotate_left
        · ((intro w hw; clear hw; go_simp) <;> with_reducible rfl)
        simp only [Act.put, List.getElem_toArray, List.getElem_cons_zero, List.getElem_cons_succ, List.setIfInBounds_toArray, List.set_cons_zero, List.set_cons_succ]
        refine wpAnyH_ready (rs := [7]) (by kernel_rfl) (by simp) ?_
        refine AllReadyH.cons (o := _) rfl (fun K hK => ?_) AllReadyH.nil
        simp only [List.getElem_toArray, List.getElem_cons_zero, List.getElem_cons_succ]
        go_simp
        have m2 := (made_two d1 d2 w1)
        have hown2 := hown1.alloc (.cells #[.int .u8 (d1.toNat : Int), .int .u8 (d2.toNat : Int)] 5)
        have bel2 := bel1.alloc bel1.size (.cells #[.int .u8 (d1.toNat : Int), .int .u8 (d2.toNat : Int)] 5)
        refine hK.out _ _ trivial (fun _ => ?_)
        clear hK K
        refine wpAnyH_ready (rs := [8]) (by kernel_rfl) (by simp) ?_
        refine AllReadyH.cons (o := _) rfl (fun K hK => ?_) AllReadyH.nil
        simp only [List.getElem_toArray, List.getElem_cons_zero, List.getElem_cons_succ]
        rw [if_pos (by rfl)]
        refine wp_append_bytes (.tmp 16) (.tmp 23) 72 rfl w.heap.size 5 ii (.int .u8 0) Tryd.underlying72 hii hz0 hz1 hz2 rfl v' _ (L ++ [58]) rfl hown2.drew (some ⟨w1.heap.size, 0, none⟩) 2 2 [d1, d2] rfl (m2.keep fun _ _ _ h => h) ?_ ?_ ?_
        · omega
        · have := bel2.size; simpa using this
        intro v3 w3 hown3 hg3 hat3
        obtain ⟨bel3, _, _⟩ := own_grown bel2.drew (by have := bel2.size; simpa using this) (fun k h => (hown2.lt k h).1) hg3 (by simpa using hat3)
        refine hK.out _ _ trivial (fun _ => ?_)
        clear hK K hg3 hat3 hown2 m2
        refine wpAnyH_take (i := 9) (v := ?_) rfl (by kernel_rfl) (by kernel_rfl) (by kernel_rfl) (fun _ _ _ h => h) (Or.inl ⟨by rfl, ?_⟩) hH ?_
        rotate_left
        · ((intro w hw; clear hw; go_simp) <;> with_reducible rfl)
        simp only [Act.put, List.getElem_toArray, List.getElem_cons_zero, List.getElem_cons_succ, List.setIfInBounds_toArray, List.set_cons_zero, List.set_cons_succ]
        refine wpAnyH_done (by kernel_rfl) ?_ _
        go_wp2
        go_roundw
        case rel => exact ⟨k + 1, _, _, rfl, by omega, rfl, by have := HJ.out; omega, by rw [hm2.out]; simpa using hown3, bel3⟩
        case measure => simp [intOf]; omega
    · obtain rfl : k = 6 := by omega
      obtain rfl : j = 6 := hj
      have hln := macT_len l 6
      obtain ⟨A, c, rfl, hsl⟩ := Sl.of_own hown
      have st := hsl.str (P := Tryd.prog) 72 5 9 Tryd.underlying72 Tryd.underlying5 Tryd.underlying9
      clear hown hsl hln
      go_wp2
      go_ret
      exact ⟨rfl, bel⟩
end Go.Proofs.YtppjnhjglhlpkaaDoor
