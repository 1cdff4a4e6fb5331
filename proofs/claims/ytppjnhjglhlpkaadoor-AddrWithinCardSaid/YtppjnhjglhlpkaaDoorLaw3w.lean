/- Layer 3: AddrWithin's walk. -/
import Derived.Test.YtppjnhjglhlpkaaDoorLaw3m
namespace Go.Proofs.YtppjnhjglhlpkaaDoor
open Go.RowKit

set_option maxRecDepth 100000 in
set_option maxHeartbeats 16000000 in
theorem addrWithin_in (a b c d : UInt8) (bt : Int) (p1 p2 p3 p4 : UInt8) (w : World) (hT : Tab w) (hin : firstN (be [a, b, c, d]) (clamp bt) ≤ be [p1, p2, p3, p4] ∧ be [p1, p2, p3, p4] ≤ lastN (be [a, b, c, d]) (clamp bt)) : Calls Tryd.prog 7 #[.agg #[.int .u8 (a.toNat : Int), .int .u8 (b.toNat : Int), .int .u8 (c.toNat : Int), .int .u8 (d.toNat : Int)], .int .i64 bt, .agg #[.int .u8 (p1.toNat : Int), .int .u8 (p2.toNat : Int), .int .u8 (p3.toNat : Int), .int .u8 (p4.toNat : Int)]] w fun e w' => e = .returned (.bool true) ∧ Below w.heap.size w w' := by
  have bel := Below.refl w.heap.size w
  have HT := Lib.hid hT
  clear hT
  have hn := be_four_lt a b c d
  have hk := be_four_lt p1 p2 p3 p4
  have hml := clamp_le bt
  have hb := has_between (be [a, b, c, d]) (be [p1, p2, p3, p4]) (clamp bt)
  have H1 := fun W => ahas_any a b c d p1 p2 p3 p4 bt W
  rw [show (firstN (be [a, b, c, d]) (clamp bt) == firstN (be [p1, p2, p3, p4]) (clamp bt)) = true by rw [beq_iff_eq]; exact hb.2 hin] at H1
  have N0 := fun W => anum_any p1 p2 p3 p4 W
  have H2 := fun W => ahas_any a b c d a b c d bt W
  rw [beq_self_eq_true] at H2
  have H4 := fun W => afirst_any a b c d bt W
  have H5 := fun W => alast_any a b c d bt W
  have fl := first_last (be [a, b, c, d]) (clamp bt)
  have lf := firstN_le (be [a, b, c, d]) (clamp bt)
  have ll := lastN_lt (be [a, b, c, d]) (clamp bt) hml hn
  have N4 := fun W => num_adr (firstN (be [a, b, c, d]) (clamp bt)) (by omega) W
  have N5 := fun W => num_adr (lastN (be [a, b, c, d]) (clamp bt)) ll W
  have H6 := fun W => has_adr a b c d (firstN (be [a, b, c, d]) (clamp bt)) (by omega) bt W
  rw [show (firstN (be [a, b, c, d]) (clamp bt) == firstN (firstN (be [a, b, c, d]) (clamp bt)) (clamp bt)) = true by rw [beq_iff_eq]; exact (has_between _ _ _).2 ⟨by omega, by omega⟩] at H6
  have H7 := fun W => has_adr a b c d (lastN (be [a, b, c, d]) (clamp bt)) ll bt W
  rw [show (firstN (be [a, b, c, d]) (clamp bt) == firstN (lastN (be [a, b, c, d]) (clamp bt)) (clamp bt)) = true by rw [beq_iff_eq]; exact (has_between _ _ _).2 ⟨by omega, by omega⟩] at H7
  generalize adr (firstN (be [a, b, c, d]) (clamp bt)) = v4 at H4 N4 H6
  generalize adr (lastN (be [a, b, c, d]) (clamp bt)) = v5 at H5 N5 H7
  clear hb fl hml
  generalize firstN (be [a, b, c, d]) (clamp bt) = F at *
  generalize lastN (be [a, b, c, d]) (clamp bt) = L at *
  generalize be [p1, p2, p3, p4] = X at *
  generalize be [a, b, c, d] = N at *
  have c1 : (F : Int) ≤ X := by omega
  have c2 : (X : Int) ≤ L := by omega
  clear hin
  have f0 : (0 : Int) ≤ F := by omega
  have f1 : (F : Int) < 4294967296 := by omega
  have l0 : (0 : Int) ≤ L := by omega
  have l1 : (L : Int) < 4294967296 := by omega
  have x0 : (0 : Int) ≤ X := by omega
  have x1 : (X : Int) < 4294967296 := by omega
  have K0 := Lib.hid N0; have K1 := Lib.hid H1; have K2 := Lib.hid H2; have K4 := Lib.hid H4; have K5 := Lib.hid H5; have K6 := Lib.hid H6; have K7 := Lib.hid H7
  have J4 := Lib.hid N4; have J5 := Lib.hid N5
  clear N0 H1 H2 H4 H5 H6 H7 N4 N5 hn hk lf ll
  have ha := heap_alloc_new w (.cells #[.int .u8 (a.toNat : Int), .int .u8 (b.toNat : Int), .int .u8 (c.toNat : Int), .int .u8 (d.toNat : Int)] 24)
  have za : w.heap.size < (w.alloc (.cells #[.int .u8 (a.toNat : Int), .int .u8 (b.toNat : Int), .int .u8 (c.toNat : Int), .int .u8 (d.toNat : Int)] 24)).heap.size := by simp
  replace bel := bel.alloc bel.size (.cells #[.int .u8 (a.toNat : Int), .int .u8 (b.toNat : Int), .int .u8 (c.toNat : Int), .int .u8 (d.toNat : Int)] 24)
  replace ha := (Go.heap_alloc_old (w.alloc (.cells #[.int .u8 (a.toNat : Int), .int .u8 (b.toNat : Int), .int .u8 (c.toNat : Int), .int .u8 (d.toNat : Int)] 24)) (.cells #[.int .u8 (p1.toNat : Int), .int .u8 (p2.toNat : Int), .int .u8 (p3.toNat : Int), .int .u8 (p4.toNat : Int)] 24) (r := w.heap.size) za).trans ha
  have hb : ((w.alloc (.cells #[.int .u8 (a.toNat : Int), .int .u8 (b.toNat : Int), .int .u8 (c.toNat : Int), .int .u8 (d.toNat : Int)] 24)).alloc (.cells #[.int .u8 (p1.toNat : Int), .int .u8 (p2.toNat : Int), .int .u8 (p3.toNat : Int), .int .u8 (p4.toNat : Int)] 24)).heap[w.heap.size + 1]? = some (.cells #[.int .u8 (p1.toNat : Int), .int .u8 (p2.toNat : Int), .int .u8 (p3.toNat : Int), .int .u8 (p4.toNat : Int)] 24 (0, 0)) := by have := heap_alloc_new (w.alloc (.cells #[.int .u8 (a.toNat : Int), .int .u8 (b.toNat : Int), .int .u8 (c.toNat : Int), .int .u8 (d.toNat : Int)] 24)) (.cells #[.int .u8 (p1.toNat : Int), .int .u8 (p2.toNat : Int), .int .u8 (p3.toNat : Int), .int .u8 (p4.toNat : Int)] 24); simpa using this
  replace za := Nat.lt_trans za (show (w.alloc (.cells #[.int .u8 (a.toNat : Int), .int .u8 (b.toNat : Int), .int .u8 (c.toNat : Int), .int .u8 (d.toNat : Int)] 24)).heap.size < ((w.alloc (.cells #[.int .u8 (a.toNat : Int), .int .u8 (b.toNat : Int), .int .u8 (c.toNat : Int), .int .u8 (d.toNat : Int)] 24)).alloc (.cells #[.int .u8 (p1.toNat : Int), .int .u8 (p2.toNat : Int), .int .u8 (p3.toNat : Int), .int .u8 (p4.toNat : Int)] 24)).heap.size by simp)
  have zb : w.heap.size + 1 < ((w.alloc (.cells #[.int .u8 (a.toNat : Int), .int .u8 (b.toNat : Int), .int .u8 (c.toNat : Int), .int .u8 (d.toNat : Int)] 24)).alloc (.cells #[.int .u8 (p1.toNat : Int), .int .u8 (p2.toNat : Int), .int .u8 (p3.toNat : Int), .int .u8 (p4.toNat : Int)] 24)).heap.size := by simp
  replace bel := bel.alloc bel.size (.cells #[.int .u8 (p1.toNat : Int), .int .u8 (p2.toNat : Int), .int .u8 (p3.toNat : Int), .int .u8 (p4.toNat : Int)] 24)
  go_enter Tryd.func7, Tryd.ntmps7
  go_wp2_with fail
  with_reducible refine (awake3 _ (HT.out.below bel)).mono ?_
  rintro e w1 ⟨rfl, b1⟩
  replace ha := (b1.block _ za).trans ha
  replace za := Nat.lt_of_lt_of_le za b1.size
  replace hb := (b1.block _ zb).trans hb
  replace zb := Nat.lt_of_lt_of_le zb b1.size
  replace bel := bel.trans (b1.mono bel.size)
  clear b1
  obtain ⟨⟨ca0, ca1, ca2, ca3⟩, _⟩ := cells4 ha
  obtain ⟨⟨cb0, cb1, cb2, cb3⟩, _⟩ := cells4 hb
  have ya := za
  have yb := zb
  replace ha := (Go.heap_alloc_old w1 (.cells #[.int .u8 (a.toNat : Int), .int .u8 (b.toNat : Int), .int .u8 (c.toNat : Int), .int .u8 (d.toNat : Int), .int .i64 bt] 29) (r := w.heap.size) za).trans ha
  replace hb := (Go.heap_alloc_old w1 (.cells #[.int .u8 (a.toNat : Int), .int .u8 (b.toNat : Int), .int .u8 (c.toNat : Int), .int .u8 (d.toNat : Int), .int .i64 bt] 29) (r := w.heap.size + 1) zb).trans hb
  have hn := heap_alloc_new w1 (.cells #[.int .u8 (a.toNat : Int), .int .u8 (b.toNat : Int), .int .u8 (c.toNat : Int), .int .u8 (d.toNat : Int), .int .i64 bt] 29)
  replace za := Nat.lt_trans za (show w1.heap.size < (w1.alloc (.cells #[.int .u8 (a.toNat : Int), .int .u8 (b.toNat : Int), .int .u8 (c.toNat : Int), .int .u8 (d.toNat : Int), .int .i64 bt] 29)).heap.size by simp)
  replace zb := Nat.lt_trans zb (show w1.heap.size < (w1.alloc (.cells #[.int .u8 (a.toNat : Int), .int .u8 (b.toNat : Int), .int .u8 (c.toNat : Int), .int .u8 (d.toNat : Int), .int .i64 bt] 29)).heap.size by simp)
  have zn : w1.heap.size < (w1.alloc (.cells #[.int .u8 (a.toNat : Int), .int .u8 (b.toNat : Int), .int .u8 (c.toNat : Int), .int .u8 (d.toNat : Int), .int .i64 bt] 29)).heap.size := by simp
  replace bel := bel.alloc bel.size (.cells #[.int .u8 (a.toNat : Int), .int .u8 (b.toNat : Int), .int .u8 (c.toNat : Int), .int .u8 (d.toNat : Int), .int .i64 bt] 29)
  go_wp2_with fail
  with_reducible refine (K0.out _).mono ?_
  rintro e w2 ⟨rfl, b2⟩
  replace ha := (b2.block _ za).trans ha
  replace za := Nat.lt_of_lt_of_le za b2.size
  replace hb := (b2.block _ zb).trans hb
  replace zb := Nat.lt_of_lt_of_le zb b2.size
  replace hn := (b2.block _ zn).trans hn
  replace zn := Nat.lt_of_lt_of_le zn b2.size
  replace bel := bel.trans (b2.mono bel.size)
  clear b2
  clear ya yb ca0 ca1 ca2 ca3 cb0 cb1 cb2 cb3
  obtain ⟨⟨ca0, ca1, ca2, ca3⟩, _⟩ := cells4 ha
  obtain ⟨⟨cb0, cb1, cb2, cb3⟩, _⟩ := cells4 hb
  obtain ⟨⟨cn0, cn1, cn2, cn3, cn4⟩, _⟩ := cells5 hn
  clear ha hb hn
  go_wp2_with fail
  refine wp_region_held_drew (S := fun W => W.cell? ⟨w.heap.size, 0, none⟩ = some (.int .u8 (a.toNat : Int)) ∧ W.cell? ⟨w.heap.size, 1, none⟩ = some (.int .u8 (b.toNat : Int)) ∧ W.cell? ⟨w.heap.size, 2, none⟩ = some (.int .u8 (c.toNat : Int)) ∧ W.cell? ⟨w.heap.size, 3, none⟩ = some (.int .u8 (d.toNat : Int)) ∧ W.cell? ⟨w.heap.size + 1, 0, none⟩ = some (.int .u8 (p1.toNat : Int)) ∧ W.cell? ⟨w.heap.size + 1, 1, none⟩ = some (.int .u8 (p2.toNat : Int)) ∧ W.cell? ⟨w.heap.size + 1, 2, none⟩ = some (.int .u8 (p3.toNat : Int)) ∧ W.cell? ⟨w.heap.size + 1, 3, none⟩ = some (.int .u8 (p4.toNat : Int)) ∧ W.cell? ⟨w1.heap.size, 0, none⟩ = some (.int .u8 (a.toNat : Int)) ∧ W.cell? ⟨w1.heap.size, 1, none⟩ = some (.int .u8 (b.toNat : Int)) ∧ W.cell? ⟨w1.heap.size, 2, none⟩ = some (.int .u8 (c.toNat : Int)) ∧ W.cell? ⟨w1.heap.size, 3, none⟩ = some (.int .u8 (d.toNat : Int)) ∧ W.cell? ⟨w1.heap.size, 4, none⟩ = some (.int .i64 bt)) (by kernel_rfl) ⟨ca0, ca1, ca2, ca3, cb0, cb1, cb2, cb3, cn0, cn1, cn2, cn3, cn4⟩ (fun hH => ?_)
  refine wpAnyH_take (i := 0) (v := ?_) rfl (by kernel_rfl) (by kernel_rfl) (by kernel_rfl) (fun _ _ _ h => h) (Or.inl ⟨by rfl, ?_⟩) hH ?_
  rotate_left
  · ((intro W hW; obtain ⟨s0, s1, s2, s3, s4, s5, s6, s7, s8, s9, s10, s11, s12⟩ := hW; go_simp) <;> with_reducible rfl)
  simp only [Act.put, List.getElem_toArray, List.getElem_cons_zero, List.setIfInBounds_toArray, List.set_cons_zero, List.set_cons_succ]
  refine wpAnyH_take (i := 1) (v := ?_) rfl (by kernel_rfl) (by kernel_rfl) (by kernel_rfl) (fun _ _ _ h => h) (Or.inl ⟨by rfl, ?_⟩) hH ?_
  rotate_left
  · ((intro W hW; obtain ⟨s0, s1, s2, s3, s4, s5, s6, s7, s8, s9, s10, s11, s12⟩ := hW; go_simp) <;> with_reducible rfl)
  simp only [Act.put, List.getElem_toArray, List.getElem_cons_zero, List.getElem_cons_succ, List.setIfInBounds_toArray, List.set_cons_zero, List.set_cons_succ]
  refine wpAnyH_take (i := 3) (v := ?_) rfl (by kernel_rfl) (by kernel_rfl) (by kernel_rfl) (fun _ _ _ h => h) (Or.inl ⟨by rfl, ?_⟩) hH ?_
  rotate_left
  · ((intro W hW; obtain ⟨s0, s1, s2, s3, s4, s5, s6, s7, s8, s9, s10, s11, s12⟩ := hW; go_simp) <;> with_reducible rfl)
  simp only [Act.put, List.getElem_toArray, List.getElem_cons_zero, List.getElem_cons_succ, List.setIfInBounds_toArray, List.set_cons_zero, List.set_cons_succ]
  refine wpAnyH_take (i := 4) (v := ?_) rfl (by kernel_rfl) (by kernel_rfl) (by kernel_rfl) (fun _ _ _ h => h) (Or.inl ⟨by rfl, ?_⟩) hH ?_
  rotate_left
  · ((intro W hW; obtain ⟨s0, s1, s2, s3, s4, s5, s6, s7, s8, s9, s10, s11, s12⟩ := hW; go_simp) <;> with_reducible rfl)
  simp only [Act.put, List.getElem_toArray, List.getElem_cons_zero, List.getElem_cons_succ, List.setIfInBounds_toArray, List.set_cons_zero, List.set_cons_succ]
  refine wpAnyH_ready (rs := [2]) (by kernel_rfl) (by simp) ?_
  refine AllReadyH.cons (o := _) rfl (fun K hK => ?_) AllReadyH.nil
  simp only [List.getElem_toArray, List.getElem_cons_zero, List.getElem_cons_succ]
  go_simp
  with_reducible refine (K1.out _).mono ?_
  rintro e v11 ⟨rfl, b11⟩
  dsimp only
  have bel11 := bel.drew.trans (b11.mono bel.size)
  refine hK.out _ _ ⟨(b11.cell (p := ⟨_, 0, none⟩) za).trans hH.1, (b11.cell (p := ⟨_, 1, none⟩) za).trans hH.2.1, (b11.cell (p := ⟨_, 2, none⟩) za).trans hH.2.2.1, (b11.cell (p := ⟨_, 3, none⟩) za).trans hH.2.2.2.1, (b11.cell (p := ⟨_, 0, none⟩) zb).trans hH.2.2.2.2.1, (b11.cell (p := ⟨_, 1, none⟩) zb).trans hH.2.2.2.2.2.1, (b11.cell (p := ⟨_, 2, none⟩) zb).trans hH.2.2.2.2.2.2.1, (b11.cell (p := ⟨_, 3, none⟩) zb).trans hH.2.2.2.2.2.2.2.1, (b11.cell (p := ⟨_, 0, none⟩) zn).trans hH.2.2.2.2.2.2.2.2.1, (b11.cell (p := ⟨_, 1, none⟩) zn).trans hH.2.2.2.2.2.2.2.2.2.1, (b11.cell (p := ⟨_, 2, none⟩) zn).trans hH.2.2.2.2.2.2.2.2.2.2.1, (b11.cell (p := ⟨_, 3, none⟩) zn).trans hH.2.2.2.2.2.2.2.2.2.2.2.1, (b11.cell (p := ⟨_, 4, none⟩) zn).trans hH.2.2.2.2.2.2.2.2.2.2.2.2⟩ (fun hH11 => ?_)
  clear hK K
  replace za := Nat.lt_of_lt_of_le za b11.size
  replace zb := Nat.lt_of_lt_of_le zb b11.size
  replace zn := Nat.lt_of_lt_of_le zn b11.size
  refine wpAnyH_ready (rs := [5]) (by kernel_rfl) (by simp) ?_
  refine AllReadyH.cons (o := _) rfl (fun K hK => ?_) AllReadyH.nil
  simp only [List.getElem_toArray, List.getElem_cons_zero, List.getElem_cons_succ]
  go_simp
  with_reducible refine (K4.out _).mono ?_
  rintro e v12 ⟨rfl, b12⟩
  dsimp only
  have bel12 := bel11.trans (b12.mono bel11.size)
  refine hK.out _ _ ⟨(b12.cell (p := ⟨_, 0, none⟩) za).trans hH11.1, (b12.cell (p := ⟨_, 1, none⟩) za).trans hH11.2.1, (b12.cell (p := ⟨_, 2, none⟩) za).trans hH11.2.2.1, (b12.cell (p := ⟨_, 3, none⟩) za).trans hH11.2.2.2.1, (b12.cell (p := ⟨_, 0, none⟩) zb).trans hH11.2.2.2.2.1, (b12.cell (p := ⟨_, 1, none⟩) zb).trans hH11.2.2.2.2.2.1, (b12.cell (p := ⟨_, 2, none⟩) zb).trans hH11.2.2.2.2.2.2.1, (b12.cell (p := ⟨_, 3, none⟩) zb).trans hH11.2.2.2.2.2.2.2.1, (b12.cell (p := ⟨_, 0, none⟩) zn).trans hH11.2.2.2.2.2.2.2.2.1, (b12.cell (p := ⟨_, 1, none⟩) zn).trans hH11.2.2.2.2.2.2.2.2.2.1, (b12.cell (p := ⟨_, 2, none⟩) zn).trans hH11.2.2.2.2.2.2.2.2.2.2.1, (b12.cell (p := ⟨_, 3, none⟩) zn).trans hH11.2.2.2.2.2.2.2.2.2.2.2.1, (b12.cell (p := ⟨_, 4, none⟩) zn).trans hH11.2.2.2.2.2.2.2.2.2.2.2.2⟩ (fun hH12 => ?_)
  clear hK K
  replace za := Nat.lt_of_lt_of_le za b12.size
  replace zb := Nat.lt_of_lt_of_le zb b12.size
  replace zn := Nat.lt_of_lt_of_le zn b12.size
  refine wpAnyH_ready (rs := [6]) (by kernel_rfl) (by simp) ?_
  refine AllReadyH.cons (o := _) rfl (fun K hK => ?_) AllReadyH.nil
  simp only [List.getElem_toArray, List.getElem_cons_zero, List.getElem_cons_succ]
  go_simp
  with_reducible refine (J4.out _).mono ?_
  rintro e v13 ⟨rfl, b13⟩
  dsimp only
  have bel13 := bel12.trans (b13.mono bel12.size)
  refine hK.out _ _ ⟨(b13.cell (p := ⟨_, 0, none⟩) za).trans hH12.1, (b13.cell (p := ⟨_, 1, none⟩) za).trans hH12.2.1, (b13.cell (p := ⟨_, 2, none⟩) za).trans hH12.2.2.1, (b13.cell (p := ⟨_, 3, none⟩) za).trans hH12.2.2.2.1, (b13.cell (p := ⟨_, 0, none⟩) zb).trans hH12.2.2.2.2.1, (b13.cell (p := ⟨_, 1, none⟩) zb).trans hH12.2.2.2.2.2.1, (b13.cell (p := ⟨_, 2, none⟩) zb).trans hH12.2.2.2.2.2.2.1, (b13.cell (p := ⟨_, 3, none⟩) zb).trans hH12.2.2.2.2.2.2.2.1, (b13.cell (p := ⟨_, 0, none⟩) zn).trans hH12.2.2.2.2.2.2.2.2.1, (b13.cell (p := ⟨_, 1, none⟩) zn).trans hH12.2.2.2.2.2.2.2.2.2.1, (b13.cell (p := ⟨_, 2, none⟩) zn).trans hH12.2.2.2.2.2.2.2.2.2.2.1, (b13.cell (p := ⟨_, 3, none⟩) zn).trans hH12.2.2.2.2.2.2.2.2.2.2.2.1, (b13.cell (p := ⟨_, 4, none⟩) zn).trans hH12.2.2.2.2.2.2.2.2.2.2.2.2⟩ (fun hH13 => ?_)
  clear hK K
  replace za := Nat.lt_of_lt_of_le za b13.size
  replace zb := Nat.lt_of_lt_of_le zb b13.size
  replace zn := Nat.lt_of_lt_of_le zn b13.size
  refine wpAnyH_take (i := 7) (v := ?_) rfl (by kernel_rfl) (by kernel_rfl) (by kernel_rfl) (fun _ _ _ h => h) (Or.inl ⟨by rfl, ?_⟩) hH13 ?_
  rotate_left
  · ((intro W hW; obtain ⟨s0, s1, s2, s3, s4, s5, s6, s7, s8, s9, s10, s11, s12⟩ := hW; go_simp) <;> with_reducible rfl)
  simp only [Act.put, List.getElem_toArray, List.getElem_cons_zero, List.getElem_cons_succ, List.setIfInBounds_toArray, List.set_cons_zero, List.set_cons_succ]
  refine wpAnyH_take (i := 8) (v := ?_) rfl (by kernel_rfl) (by kernel_rfl) (by kernel_rfl) (fun _ _ _ h => h) (Or.inl ⟨by rfl, ?_⟩) hH13 ?_
  rotate_left
  · ((intro W hW; obtain ⟨s0, s1, s2, s3, s4, s5, s6, s7, s8, s9, s10, s11, s12⟩ := hW; go_simp) <;> with_reducible rfl)
  simp only [Act.put, List.getElem_toArray, List.getElem_cons_zero, List.getElem_cons_succ, List.setIfInBounds_toArray, List.set_cons_zero, List.set_cons_succ]
  refine wpAnyH_take (i := 9) (v := ?_) rfl (by kernel_rfl) (by kernel_rfl) (by kernel_rfl) (fun _ _ _ h => h) (Or.inl ⟨by rfl, ?_⟩) hH13 ?_
  rotate_left
  · ((intro W hW; obtain ⟨s0, s1, s2, s3, s4, s5, s6, s7, s8, s9, s10, s11, s12⟩ := hW; go_simp) <;> with_reducible rfl)
  simp only [Act.put, List.getElem_toArray, List.getElem_cons_zero, List.getElem_cons_succ, List.setIfInBounds_toArray, List.set_cons_zero, List.set_cons_succ]
  refine wpAnyH_take (i := 10) (v := ?_) rfl (by kernel_rfl) (by kernel_rfl) (by kernel_rfl) (fun _ _ _ h => h) (Or.inl ⟨by rfl, ?_⟩) hH13 ?_
  rotate_left
  · ((intro W hW; obtain ⟨s0, s1, s2, s3, s4, s5, s6, s7, s8, s9, s10, s11, s12⟩ := hW; go_simp) <;> with_reducible rfl)
  simp only [Act.put, List.getElem_toArray, List.getElem_cons_zero, List.getElem_cons_succ, List.setIfInBounds_toArray, List.set_cons_zero, List.set_cons_succ]
  refine wpAnyH_ready (rs := [11]) (by kernel_rfl) (by simp) ?_
  refine AllReadyH.cons (o := _) rfl (fun K hK => ?_) AllReadyH.nil
  simp only [List.getElem_toArray, List.getElem_cons_zero, List.getElem_cons_succ]
  go_simp
  with_reducible refine (K5.out _).mono ?_
  rintro e v14 ⟨rfl, b14⟩
  dsimp only
  have bel14 := bel13.trans (b14.mono bel13.size)
  refine hK.out _ _ ⟨(b14.cell (p := ⟨_, 0, none⟩) za).trans hH13.1, (b14.cell (p := ⟨_, 1, none⟩) za).trans hH13.2.1, (b14.cell (p := ⟨_, 2, none⟩) za).trans hH13.2.2.1, (b14.cell (p := ⟨_, 3, none⟩) za).trans hH13.2.2.2.1, (b14.cell (p := ⟨_, 0, none⟩) zb).trans hH13.2.2.2.2.1, (b14.cell (p := ⟨_, 1, none⟩) zb).trans hH13.2.2.2.2.2.1, (b14.cell (p := ⟨_, 2, none⟩) zb).trans hH13.2.2.2.2.2.2.1, (b14.cell (p := ⟨_, 3, none⟩) zb).trans hH13.2.2.2.2.2.2.2.1, (b14.cell (p := ⟨_, 0, none⟩) zn).trans hH13.2.2.2.2.2.2.2.2.1, (b14.cell (p := ⟨_, 1, none⟩) zn).trans hH13.2.2.2.2.2.2.2.2.2.1, (b14.cell (p := ⟨_, 2, none⟩) zn).trans hH13.2.2.2.2.2.2.2.2.2.2.1, (b14.cell (p := ⟨_, 3, none⟩) zn).trans hH13.2.2.2.2.2.2.2.2.2.2.2.1, (b14.cell (p := ⟨_, 4, none⟩) zn).trans hH13.2.2.2.2.2.2.2.2.2.2.2.2⟩ (fun hH14 => ?_)
  clear hK K
  replace za := Nat.lt_of_lt_of_le za b14.size
  replace zb := Nat.lt_of_lt_of_le zb b14.size
  replace zn := Nat.lt_of_lt_of_le zn b14.size
  refine wpAnyH_ready (rs := [12]) (by kernel_rfl) (by simp) ?_
  refine AllReadyH.cons (o := _) rfl (fun K hK => ?_) AllReadyH.nil
  simp only [List.getElem_toArray, List.getElem_cons_zero, List.getElem_cons_succ]
  go_simp
  with_reducible refine (J5.out _).mono ?_
  rintro e v15 ⟨rfl, b15⟩
  dsimp only
  have bel15 := bel14.trans (b15.mono bel14.size)
  refine hK.out _ _ ⟨(b15.cell (p := ⟨_, 0, none⟩) za).trans hH14.1, (b15.cell (p := ⟨_, 1, none⟩) za).trans hH14.2.1, (b15.cell (p := ⟨_, 2, none⟩) za).trans hH14.2.2.1, (b15.cell (p := ⟨_, 3, none⟩) za).trans hH14.2.2.2.1, (b15.cell (p := ⟨_, 0, none⟩) zb).trans hH14.2.2.2.2.1, (b15.cell (p := ⟨_, 1, none⟩) zb).trans hH14.2.2.2.2.2.1, (b15.cell (p := ⟨_, 2, none⟩) zb).trans hH14.2.2.2.2.2.2.1, (b15.cell (p := ⟨_, 3, none⟩) zb).trans hH14.2.2.2.2.2.2.2.1, (b15.cell (p := ⟨_, 0, none⟩) zn).trans hH14.2.2.2.2.2.2.2.2.1, (b15.cell (p := ⟨_, 1, none⟩) zn).trans hH14.2.2.2.2.2.2.2.2.2.1, (b15.cell (p := ⟨_, 2, none⟩) zn).trans hH14.2.2.2.2.2.2.2.2.2.2.1, (b15.cell (p := ⟨_, 3, none⟩) zn).trans hH14.2.2.2.2.2.2.2.2.2.2.2.1, (b15.cell (p := ⟨_, 4, none⟩) zn).trans hH14.2.2.2.2.2.2.2.2.2.2.2.2⟩ (fun hH15 => ?_)
  clear hK K
  replace za := Nat.lt_of_lt_of_le za b15.size
  replace zb := Nat.lt_of_lt_of_le zb b15.size
  replace zn := Nat.lt_of_lt_of_le zn b15.size
  refine wpAnyH_take (i := 13) (v := ?_) rfl (by kernel_rfl) (by kernel_rfl) (by kernel_rfl) (fun _ _ _ h => h) (Or.inl ⟨by rfl, ?_⟩) hH15 ?_
  rotate_left
  · ((intro W hW; obtain ⟨s0, s1, s2, s3, s4, s5, s6, s7, s8, s9, s10, s11, s12⟩ := hW; go_simp) <;> with_reducible rfl)
  simp only [Act.put, List.getElem_toArray, List.getElem_cons_zero, List.getElem_cons_succ, List.setIfInBounds_toArray, List.set_cons_zero, List.set_cons_succ]
  refine wpAnyH_take (i := 14) (v := ?_) rfl (by kernel_rfl) (by kernel_rfl) (by kernel_rfl) (fun _ _ _ h => h) (Or.inl ⟨by rfl, ?_⟩) hH15 ?_
  rotate_left
  · ((intro W hW; obtain ⟨s0, s1, s2, s3, s4, s5, s6, s7, s8, s9, s10, s11, s12⟩ := hW; go_simp) <;> with_reducible rfl)
  simp only [Act.put, List.getElem_toArray, List.getElem_cons_zero, List.getElem_cons_succ, List.setIfInBounds_toArray, List.set_cons_zero, List.set_cons_succ]
  refine wpAnyH_take (i := 15) (v := ?_) rfl (by kernel_rfl) (by kernel_rfl) (by kernel_rfl) (fun _ _ _ h => h) (Or.inl ⟨by rfl, ?_⟩) hH15 ?_
  rotate_left
  · ((intro W hW; obtain ⟨s0, s1, s2, s3, s4, s5, s6, s7, s8, s9, s10, s11, s12⟩ := hW; go_simp) <;> with_reducible rfl)
  simp only [Act.put, List.getElem_toArray, List.getElem_cons_zero, List.getElem_cons_succ, List.setIfInBounds_toArray, List.set_cons_zero, List.set_cons_succ]
  refine wpAnyH_take (i := 16) (v := ?_) rfl (by kernel_rfl) (by kernel_rfl) (by kernel_rfl) (fun _ _ _ h => h) (Or.inl ⟨by rfl, ?_⟩) hH15 ?_
  rotate_left
  · ((intro W hW; obtain ⟨s0, s1, s2, s3, s4, s5, s6, s7, s8, s9, s10, s11, s12⟩ := hW; go_simp) <;> with_reducible rfl)
  simp only [Act.put, List.getElem_toArray, List.getElem_cons_zero, List.getElem_cons_succ, List.setIfInBounds_toArray, List.set_cons_zero, List.set_cons_succ]
  refine wpAnyH_take (i := 17) (v := ?_) rfl (by kernel_rfl) (by kernel_rfl) (by kernel_rfl) (fun _ _ _ h => h) (Or.inl ⟨by rfl, ?_⟩) hH15 ?_
  rotate_left
  · ((intro W hW; obtain ⟨s0, s1, s2, s3, s4, s5, s6, s7, s8, s9, s10, s11, s12⟩ := hW; go_simp) <;> with_reducible rfl)
  simp only [Act.put, List.getElem_toArray, List.getElem_cons_zero, List.getElem_cons_succ, List.setIfInBounds_toArray, List.set_cons_zero, List.set_cons_succ]
  refine wpAnyH_take (i := 18) (v := ?_) rfl (by kernel_rfl) (by kernel_rfl) (by kernel_rfl) (fun _ _ _ h => h) (Or.inl ⟨by rfl, ?_⟩) hH15 ?_
  rotate_left
  · ((intro W hW; obtain ⟨s0, s1, s2, s3, s4, s5, s6, s7, s8, s9, s10, s11, s12⟩ := hW; go_simp) <;> with_reducible rfl)
  simp only [Act.put, List.getElem_toArray, List.getElem_cons_zero, List.getElem_cons_succ, List.setIfInBounds_toArray, List.set_cons_zero, List.set_cons_succ]
  refine wpAnyH_ready (rs := [19]) (by kernel_rfl) (by simp) ?_
  refine AllReadyH.cons (o := _) rfl (fun K hK => ?_) AllReadyH.nil
  simp only [List.getElem_toArray, List.getElem_cons_zero, List.getElem_cons_succ]
  go_simp
  with_reducible refine (K2.out _).mono ?_
  rintro e v16 ⟨rfl, b16⟩
  dsimp only
  have bel16 := bel15.trans (b16.mono bel15.size)
  refine hK.out _ _ ⟨(b16.cell (p := ⟨_, 0, none⟩) za).trans hH15.1, (b16.cell (p := ⟨_, 1, none⟩) za).trans hH15.2.1, (b16.cell (p := ⟨_, 2, none⟩) za).trans hH15.2.2.1, (b16.cell (p := ⟨_, 3, none⟩) za).trans hH15.2.2.2.1, (b16.cell (p := ⟨_, 0, none⟩) zb).trans hH15.2.2.2.2.1, (b16.cell (p := ⟨_, 1, none⟩) zb).trans hH15.2.2.2.2.2.1, (b16.cell (p := ⟨_, 2, none⟩) zb).trans hH15.2.2.2.2.2.2.1, (b16.cell (p := ⟨_, 3, none⟩) zb).trans hH15.2.2.2.2.2.2.2.1, (b16.cell (p := ⟨_, 0, none⟩) zn).trans hH15.2.2.2.2.2.2.2.2.1, (b16.cell (p := ⟨_, 1, none⟩) zn).trans hH15.2.2.2.2.2.2.2.2.2.1, (b16.cell (p := ⟨_, 2, none⟩) zn).trans hH15.2.2.2.2.2.2.2.2.2.2.1, (b16.cell (p := ⟨_, 3, none⟩) zn).trans hH15.2.2.2.2.2.2.2.2.2.2.2.1, (b16.cell (p := ⟨_, 4, none⟩) zn).trans hH15.2.2.2.2.2.2.2.2.2.2.2.2⟩ (fun hH16 => ?_)
  clear hK K
  replace za := Nat.lt_of_lt_of_le za b16.size
  replace zb := Nat.lt_of_lt_of_le zb b16.size
  replace zn := Nat.lt_of_lt_of_le zn b16.size
  refine wpAnyH_take (i := 20) (v := ?_) rfl (by kernel_rfl) (by kernel_rfl) (by kernel_rfl) (fun _ _ _ h => h) (Or.inl ⟨by rfl, ?_⟩) hH16 ?_
  rotate_left
  · ((intro W hW; obtain ⟨s0, s1, s2, s3, s4, s5, s6, s7, s8, s9, s10, s11, s12⟩ := hW; go_simp) <;> with_reducible rfl)
  simp only [Act.put, List.getElem_toArray, List.getElem_cons_zero, List.getElem_cons_succ, List.setIfInBounds_toArray, List.set_cons_zero, List.set_cons_succ]
  refine wpAnyH_take (i := 21) (v := ?_) rfl (by kernel_rfl) (by kernel_rfl) (by kernel_rfl) (fun _ _ _ h => h) (Or.inl ⟨by rfl, ?_⟩) hH16 ?_
  rotate_left
  · ((intro W hW; obtain ⟨s0, s1, s2, s3, s4, s5, s6, s7, s8, s9, s10, s11, s12⟩ := hW; go_simp) <;> with_reducible rfl)
  simp only [Act.put, List.getElem_toArray, List.getElem_cons_zero, List.getElem_cons_succ, List.setIfInBounds_toArray, List.set_cons_zero, List.set_cons_succ]
  refine wpAnyH_take (i := 22) (v := ?_) rfl (by kernel_rfl) (by kernel_rfl) (by kernel_rfl) (fun _ _ _ h => h) (Or.inl ⟨by rfl, ?_⟩) hH16 ?_
  rotate_left
  · ((intro W hW; obtain ⟨s0, s1, s2, s3, s4, s5, s6, s7, s8, s9, s10, s11, s12⟩ := hW; go_simp) <;> with_reducible rfl)
  simp only [Act.put, List.getElem_toArray, List.getElem_cons_zero, List.getElem_cons_succ, List.setIfInBounds_toArray, List.set_cons_zero, List.set_cons_succ]
  refine wpAnyH_take (i := 23) (v := ?_) rfl (by kernel_rfl) (by kernel_rfl) (by kernel_rfl) (fun _ _ _ h => h) (Or.inl ⟨by rfl, ?_⟩) hH16 ?_
  rotate_left
  · ((intro W hW; obtain ⟨s0, s1, s2, s3, s4, s5, s6, s7, s8, s9, s10, s11, s12⟩ := hW; go_simp) <;> with_reducible rfl)
  simp only [Act.put, List.getElem_toArray, List.getElem_cons_zero, List.getElem_cons_succ, List.setIfInBounds_toArray, List.set_cons_zero, List.set_cons_succ]
  refine wpAnyH_ready (rs := [24]) (by kernel_rfl) (by simp) ?_
  refine AllReadyH.cons (o := _) rfl (fun K hK => ?_) AllReadyH.nil
  simp only [List.getElem_toArray, List.getElem_cons_zero, List.getElem_cons_succ]
  go_simp
  with_reducible refine (K4.out _).mono ?_
  rintro e v17 ⟨rfl, b17⟩
  dsimp only
  have bel17 := bel16.trans (b17.mono bel16.size)
  refine hK.out _ _ ⟨(b17.cell (p := ⟨_, 0, none⟩) za).trans hH16.1, (b17.cell (p := ⟨_, 1, none⟩) za).trans hH16.2.1, (b17.cell (p := ⟨_, 2, none⟩) za).trans hH16.2.2.1, (b17.cell (p := ⟨_, 3, none⟩) za).trans hH16.2.2.2.1, (b17.cell (p := ⟨_, 0, none⟩) zb).trans hH16.2.2.2.2.1, (b17.cell (p := ⟨_, 1, none⟩) zb).trans hH16.2.2.2.2.2.1, (b17.cell (p := ⟨_, 2, none⟩) zb).trans hH16.2.2.2.2.2.2.1, (b17.cell (p := ⟨_, 3, none⟩) zb).trans hH16.2.2.2.2.2.2.2.1, (b17.cell (p := ⟨_, 0, none⟩) zn).trans hH16.2.2.2.2.2.2.2.2.1, (b17.cell (p := ⟨_, 1, none⟩) zn).trans hH16.2.2.2.2.2.2.2.2.2.1, (b17.cell (p := ⟨_, 2, none⟩) zn).trans hH16.2.2.2.2.2.2.2.2.2.2.1, (b17.cell (p := ⟨_, 3, none⟩) zn).trans hH16.2.2.2.2.2.2.2.2.2.2.2.1, (b17.cell (p := ⟨_, 4, none⟩) zn).trans hH16.2.2.2.2.2.2.2.2.2.2.2.2⟩ (fun hH17 => ?_)
  clear hK K
  replace za := Nat.lt_of_lt_of_le za b17.size
  replace zb := Nat.lt_of_lt_of_le zb b17.size
  replace zn := Nat.lt_of_lt_of_le zn b17.size
  refine wpAnyH_ready (rs := [25]) (by kernel_rfl) (by simp) ?_
  refine AllReadyH.cons (o := _) rfl (fun K hK => ?_) AllReadyH.nil
  simp only [List.getElem_toArray, List.getElem_cons_zero, List.getElem_cons_succ]
  go_simp
  with_reducible refine (K6.out _).mono ?_
  rintro e v18 ⟨rfl, b18⟩
  dsimp only
  have bel18 := bel17.trans (b18.mono bel17.size)
  refine hK.out _ _ ⟨(b18.cell (p := ⟨_, 0, none⟩) za).trans hH17.1, (b18.cell (p := ⟨_, 1, none⟩) za).trans hH17.2.1, (b18.cell (p := ⟨_, 2, none⟩) za).trans hH17.2.2.1, (b18.cell (p := ⟨_, 3, none⟩) za).trans hH17.2.2.2.1, (b18.cell (p := ⟨_, 0, none⟩) zb).trans hH17.2.2.2.2.1, (b18.cell (p := ⟨_, 1, none⟩) zb).trans hH17.2.2.2.2.2.1, (b18.cell (p := ⟨_, 2, none⟩) zb).trans hH17.2.2.2.2.2.2.1, (b18.cell (p := ⟨_, 3, none⟩) zb).trans hH17.2.2.2.2.2.2.2.1, (b18.cell (p := ⟨_, 0, none⟩) zn).trans hH17.2.2.2.2.2.2.2.2.1, (b18.cell (p := ⟨_, 1, none⟩) zn).trans hH17.2.2.2.2.2.2.2.2.2.1, (b18.cell (p := ⟨_, 2, none⟩) zn).trans hH17.2.2.2.2.2.2.2.2.2.2.1, (b18.cell (p := ⟨_, 3, none⟩) zn).trans hH17.2.2.2.2.2.2.2.2.2.2.2.1, (b18.cell (p := ⟨_, 4, none⟩) zn).trans hH17.2.2.2.2.2.2.2.2.2.2.2.2⟩ (fun hH18 => ?_)
  clear hK K
  replace za := Nat.lt_of_lt_of_le za b18.size
  replace zb := Nat.lt_of_lt_of_le zb b18.size
  replace zn := Nat.lt_of_lt_of_le zn b18.size
  refine wpAnyH_take (i := 26) (v := ?_) rfl (by kernel_rfl) (by kernel_rfl) (by kernel_rfl) (fun _ _ _ h => h) (Or.inl ⟨by rfl, ?_⟩) hH18 ?_
  rotate_left
  · ((intro W hW; obtain ⟨s0, s1, s2, s3, s4, s5, s6, s7, s8, s9, s10, s11, s12⟩ := hW; go_simp) <;> with_reducible rfl)
  simp only [Act.put, List.getElem_toArray, List.getElem_cons_zero, List.getElem_cons_succ, List.setIfInBounds_toArray, List.set_cons_zero, List.set_cons_succ]
  refine wpAnyH_take (i := 27) (v := ?_) rfl (by kernel_rfl) (by kernel_rfl) (by kernel_rfl) (fun _ _ _ h => h) (Or.inl ⟨by rfl, ?_⟩) hH18 ?_
  rotate_left
  · ((intro W hW; obtain ⟨s0, s1, s2, s3, s4, s5, s6, s7, s8, s9, s10, s11, s12⟩ := hW; go_simp) <;> with_reducible rfl)
  simp only [Act.put, List.getElem_toArray, List.getElem_cons_zero, List.getElem_cons_succ, List.setIfInBounds_toArray, List.set_cons_zero, List.set_cons_succ]
  refine wpAnyH_take (i := 28) (v := ?_) rfl (by kernel_rfl) (by kernel_rfl) (by kernel_rfl) (fun _ _ _ h => h) (Or.inl ⟨by rfl, ?_⟩) hH18 ?_
  rotate_left
  · ((intro W hW; obtain ⟨s0, s1, s2, s3, s4, s5, s6, s7, s8, s9, s10, s11, s12⟩ := hW; go_simp) <;> with_reducible rfl)
  simp only [Act.put, List.getElem_toArray, List.getElem_cons_zero, List.getElem_cons_succ, List.setIfInBounds_toArray, List.set_cons_zero, List.set_cons_succ]
  refine wpAnyH_take (i := 29) (v := ?_) rfl (by kernel_rfl) (by kernel_rfl) (by kernel_rfl) (fun _ _ _ h => h) (Or.inl ⟨by rfl, ?_⟩) hH18 ?_
  rotate_left
  · ((intro W hW; obtain ⟨s0, s1, s2, s3, s4, s5, s6, s7, s8, s9, s10, s11, s12⟩ := hW; go_simp) <;> with_reducible rfl)
  simp only [Act.put, List.getElem_toArray, List.getElem_cons_zero, List.getElem_cons_succ, List.setIfInBounds_toArray, List.set_cons_zero, List.set_cons_succ]
  refine wpAnyH_ready (rs := [30]) (by kernel_rfl) (by simp) ?_
  refine AllReadyH.cons (o := _) rfl (fun K hK => ?_) AllReadyH.nil
  simp only [List.getElem_toArray, List.getElem_cons_zero, List.getElem_cons_succ]
  go_simp
  with_reducible refine (K5.out _).mono ?_
  rintro e v19 ⟨rfl, b19⟩
  dsimp only
  have bel19 := bel18.trans (b19.mono bel18.size)
  refine hK.out _ _ ⟨(b19.cell (p := ⟨_, 0, none⟩) za).trans hH18.1, (b19.cell (p := ⟨_, 1, none⟩) za).trans hH18.2.1, (b19.cell (p := ⟨_, 2, none⟩) za).trans hH18.2.2.1, (b19.cell (p := ⟨_, 3, none⟩) za).trans hH18.2.2.2.1, (b19.cell (p := ⟨_, 0, none⟩) zb).trans hH18.2.2.2.2.1, (b19.cell (p := ⟨_, 1, none⟩) zb).trans hH18.2.2.2.2.2.1, (b19.cell (p := ⟨_, 2, none⟩) zb).trans hH18.2.2.2.2.2.2.1, (b19.cell (p := ⟨_, 3, none⟩) zb).trans hH18.2.2.2.2.2.2.2.1, (b19.cell (p := ⟨_, 0, none⟩) zn).trans hH18.2.2.2.2.2.2.2.2.1, (b19.cell (p := ⟨_, 1, none⟩) zn).trans hH18.2.2.2.2.2.2.2.2.2.1, (b19.cell (p := ⟨_, 2, none⟩) zn).trans hH18.2.2.2.2.2.2.2.2.2.2.1, (b19.cell (p := ⟨_, 3, none⟩) zn).trans hH18.2.2.2.2.2.2.2.2.2.2.2.1, (b19.cell (p := ⟨_, 4, none⟩) zn).trans hH18.2.2.2.2.2.2.2.2.2.2.2.2⟩ (fun hH19 => ?_)
  clear hK K
  replace za := Nat.lt_of_lt_of_le za b19.size
  replace zb := Nat.lt_of_lt_of_le zb b19.size
  replace zn := Nat.lt_of_lt_of_le zn b19.size
  refine wpAnyH_ready (rs := [31]) (by kernel_rfl) (by simp) ?_
  refine AllReadyH.cons (o := _) rfl (fun K hK => ?_) AllReadyH.nil
  simp only [List.getElem_toArray, List.getElem_cons_zero, List.getElem_cons_succ]
  go_simp
  with_reducible refine (K7.out _).mono ?_
  rintro e v20 ⟨rfl, b20⟩
  dsimp only
  have bel20 := bel19.trans (b20.mono bel19.size)
  refine hK.out _ _ ⟨(b20.cell (p := ⟨_, 0, none⟩) za).trans hH19.1, (b20.cell (p := ⟨_, 1, none⟩) za).trans hH19.2.1, (b20.cell (p := ⟨_, 2, none⟩) za).trans hH19.2.2.1, (b20.cell (p := ⟨_, 3, none⟩) za).trans hH19.2.2.2.1, (b20.cell (p := ⟨_, 0, none⟩) zb).trans hH19.2.2.2.2.1, (b20.cell (p := ⟨_, 1, none⟩) zb).trans hH19.2.2.2.2.2.1, (b20.cell (p := ⟨_, 2, none⟩) zb).trans hH19.2.2.2.2.2.2.1, (b20.cell (p := ⟨_, 3, none⟩) zb).trans hH19.2.2.2.2.2.2.2.1, (b20.cell (p := ⟨_, 0, none⟩) zn).trans hH19.2.2.2.2.2.2.2.2.1, (b20.cell (p := ⟨_, 1, none⟩) zn).trans hH19.2.2.2.2.2.2.2.2.2.1, (b20.cell (p := ⟨_, 2, none⟩) zn).trans hH19.2.2.2.2.2.2.2.2.2.2.1, (b20.cell (p := ⟨_, 3, none⟩) zn).trans hH19.2.2.2.2.2.2.2.2.2.2.2.1, (b20.cell (p := ⟨_, 4, none⟩) zn).trans hH19.2.2.2.2.2.2.2.2.2.2.2.2⟩ (fun hH20 => ?_)
  clear hK K
  replace za := Nat.lt_of_lt_of_le za b20.size
  replace zb := Nat.lt_of_lt_of_le zb b20.size
  replace zn := Nat.lt_of_lt_of_le zn b20.size
  refine wpAnyH_take (i := 32) (v := ?_) rfl (by kernel_rfl) (by kernel_rfl) (by kernel_rfl) (fun _ _ _ h => h) (Or.inl ⟨by rfl, ?_⟩) hH20 ?_
  rotate_left
  · ((intro W hW; obtain ⟨s0, s1, s2, s3, s4, s5, s6, s7, s8, s9, s10, s11, s12⟩ := hW; go_simp) <;> with_reducible rfl)
  simp only [Act.put, List.getElem_toArray, List.getElem_cons_zero, List.getElem_cons_succ, List.setIfInBounds_toArray, List.set_cons_zero, List.set_cons_succ]
  refine wpAnyH_take (i := 33) (v := ?_) rfl (by kernel_rfl) (by kernel_rfl) (by kernel_rfl) (fun _ _ _ h => h) (Or.inl ⟨by rfl, ?_⟩) hH20 ?_
  rotate_left
  · ((intro W hW; obtain ⟨s0, s1, s2, s3, s4, s5, s6, s7, s8, s9, s10, s11, s12⟩ := hW; go_simp) <;> with_reducible rfl)
  simp only [Act.put, List.getElem_toArray, List.getElem_cons_zero, List.getElem_cons_succ, List.setIfInBounds_toArray, List.set_cons_zero, List.set_cons_succ]
  refine wpAnyH_done (by kernel_rfl) ?_ _
  go_wp2
  go_ret
  exact ⟨rfl, bel20⟩

set_option maxRecDepth 100000 in
set_option maxHeartbeats 16000000 in
theorem addrWithin_lo (a b c d : UInt8) (bt : Int) (p1 p2 p3 p4 : UInt8) (w : World) (hT : Tab w) (hlo : be [p1, p2, p3, p4] < firstN (be [a, b, c, d]) (clamp bt)) : Calls Tryd.prog 7 #[.agg #[.int .u8 (a.toNat : Int), .int .u8 (b.toNat : Int), .int .u8 (c.toNat : Int), .int .u8 (d.toNat : Int)], .int .i64 bt, .agg #[.int .u8 (p1.toNat : Int), .int .u8 (p2.toNat : Int), .int .u8 (p3.toNat : Int), .int .u8 (p4.toNat : Int)]] w fun e w' => e = .returned (.bool true) ∧ Below w.heap.size w w' := by
  have bel := Below.refl w.heap.size w
  have HT := Lib.hid hT
  clear hT
  have hn := be_four_lt a b c d
  have hk := be_four_lt p1 p2 p3 p4
  have hml := clamp_le bt
  have hb := has_between (be [a, b, c, d]) (be [p1, p2, p3, p4]) (clamp bt)
  have H1 := fun W => ahas_any a b c d p1 p2 p3 p4 bt W
  rw [show (firstN (be [a, b, c, d]) (clamp bt) == firstN (be [p1, p2, p3, p4]) (clamp bt)) = false by rw [beq_eq_false_iff_ne]; intro e; have := (hb.1 e).1; omega] at H1
  have N0 := fun W => anum_any p1 p2 p3 p4 W
  have H2 := fun W => ahas_any a b c d a b c d bt W
  rw [beq_self_eq_true] at H2
  have H4 := fun W => afirst_any a b c d bt W
  have H5 := fun W => alast_any a b c d bt W
  have fl := first_last (be [a, b, c, d]) (clamp bt)
  have lf := firstN_le (be [a, b, c, d]) (clamp bt)
  have ll := lastN_lt (be [a, b, c, d]) (clamp bt) hml hn
  have N4 := fun W => num_adr (firstN (be [a, b, c, d]) (clamp bt)) (by omega) W
  have N5 := fun W => num_adr (lastN (be [a, b, c, d]) (clamp bt)) ll W
  have H6 := fun W => has_adr a b c d (firstN (be [a, b, c, d]) (clamp bt)) (by omega) bt W
  rw [show (firstN (be [a, b, c, d]) (clamp bt) == firstN (firstN (be [a, b, c, d]) (clamp bt)) (clamp bt)) = true by rw [beq_iff_eq]; exact (has_between _ _ _).2 ⟨by omega, by omega⟩] at H6
  have H7 := fun W => has_adr a b c d (lastN (be [a, b, c, d]) (clamp bt)) ll bt W
  rw [show (firstN (be [a, b, c, d]) (clamp bt) == firstN (lastN (be [a, b, c, d]) (clamp bt)) (clamp bt)) = true by rw [beq_iff_eq]; exact (has_between _ _ _).2 ⟨by omega, by omega⟩] at H7
  generalize adr (firstN (be [a, b, c, d]) (clamp bt)) = v4 at H4 N4 H6
  generalize adr (lastN (be [a, b, c, d]) (clamp bt)) = v5 at H5 N5 H7
  clear hb fl hml
  generalize firstN (be [a, b, c, d]) (clamp bt) = F at *
  generalize lastN (be [a, b, c, d]) (clamp bt) = L at *
  generalize be [p1, p2, p3, p4] = X at *
  generalize be [a, b, c, d] = N at *
  have c1 : decide (F ≤ X) = false := decide_eq_false (by omega)
  clear hlo
  have f0 : (0 : Int) ≤ F := by omega
  have f1 : (F : Int) < 4294967296 := by omega
  have l0 : (0 : Int) ≤ L := by omega
  have l1 : (L : Int) < 4294967296 := by omega
  have x0 : (0 : Int) ≤ X := by omega
  have x1 : (X : Int) < 4294967296 := by omega
  have K0 := Lib.hid N0; have K1 := Lib.hid H1; have K2 := Lib.hid H2; have K4 := Lib.hid H4; have K5 := Lib.hid H5; have K6 := Lib.hid H6; have K7 := Lib.hid H7
  have J4 := Lib.hid N4; have J5 := Lib.hid N5
  clear N0 H1 H2 H4 H5 H6 H7 N4 N5 hn hk lf ll
  have ha := heap_alloc_new w (.cells #[.int .u8 (a.toNat : Int), .int .u8 (b.toNat : Int), .int .u8 (c.toNat : Int), .int .u8 (d.toNat : Int)] 24)
  have za : w.heap.size < (w.alloc (.cells #[.int .u8 (a.toNat : Int), .int .u8 (b.toNat : Int), .int .u8 (c.toNat : Int), .int .u8 (d.toNat : Int)] 24)).heap.size := by simp
  replace bel := bel.alloc bel.size (.cells #[.int .u8 (a.toNat : Int), .int .u8 (b.toNat : Int), .int .u8 (c.toNat : Int), .int .u8 (d.toNat : Int)] 24)
  replace ha := (Go.heap_alloc_old (w.alloc (.cells #[.int .u8 (a.toNat : Int), .int .u8 (b.toNat : Int), .int .u8 (c.toNat : Int), .int .u8 (d.toNat : Int)] 24)) (.cells #[.int .u8 (p1.toNat : Int), .int .u8 (p2.toNat : Int), .int .u8 (p3.toNat : Int), .int .u8 (p4.toNat : Int)] 24) (r := w.heap.size) za).trans ha
  have hb : ((w.alloc (.cells #[.int .u8 (a.toNat : Int), .int .u8 (b.toNat : Int), .int .u8 (c.toNat : Int), .int .u8 (d.toNat : Int)] 24)).alloc (.cells #[.int .u8 (p1.toNat : Int), .int .u8 (p2.toNat : Int), .int .u8 (p3.toNat : Int), .int .u8 (p4.toNat : Int)] 24)).heap[w.heap.size + 1]? = some (.cells #[.int .u8 (p1.toNat : Int), .int .u8 (p2.toNat : Int), .int .u8 (p3.toNat : Int), .int .u8 (p4.toNat : Int)] 24 (0, 0)) := by have := heap_alloc_new (w.alloc (.cells #[.int .u8 (a.toNat : Int), .int .u8 (b.toNat : Int), .int .u8 (c.toNat : Int), .int .u8 (d.toNat : Int)] 24)) (.cells #[.int .u8 (p1.toNat : Int), .int .u8 (p2.toNat : Int), .int .u8 (p3.toNat : Int), .int .u8 (p4.toNat : Int)] 24); simpa using this
  replace za := Nat.lt_trans za (show (w.alloc (.cells #[.int .u8 (a.toNat : Int), .int .u8 (b.toNat : Int), .int .u8 (c.toNat : Int), .int .u8 (d.toNat : Int)] 24)).heap.size < ((w.alloc (.cells #[.int .u8 (a.toNat : Int), .int .u8 (b.toNat : Int), .int .u8 (c.toNat : Int), .int .u8 (d.toNat : Int)] 24)).alloc (.cells #[.int .u8 (p1.toNat : Int), .int .u8 (p2.toNat : Int), .int .u8 (p3.toNat : Int), .int .u8 (p4.toNat : Int)] 24)).heap.size by simp)
  have zb : w.heap.size + 1 < ((w.alloc (.cells #[.int .u8 (a.toNat : Int), .int .u8 (b.toNat : Int), .int .u8 (c.toNat : Int), .int .u8 (d.toNat : Int)] 24)).alloc (.cells #[.int .u8 (p1.toNat : Int), .int .u8 (p2.toNat : Int), .int .u8 (p3.toNat : Int), .int .u8 (p4.toNat : Int)] 24)).heap.size := by simp
  replace bel := bel.alloc bel.size (.cells #[.int .u8 (p1.toNat : Int), .int .u8 (p2.toNat : Int), .int .u8 (p3.toNat : Int), .int .u8 (p4.toNat : Int)] 24)
  go_enter Tryd.func7, Tryd.ntmps7
  go_wp2_with fail
  with_reducible refine (awake3 _ (HT.out.below bel)).mono ?_
  rintro e w1 ⟨rfl, b1⟩
  replace ha := (b1.block _ za).trans ha
  replace za := Nat.lt_of_lt_of_le za b1.size
  replace hb := (b1.block _ zb).trans hb
  replace zb := Nat.lt_of_lt_of_le zb b1.size
  replace bel := bel.trans (b1.mono bel.size)
  clear b1
  obtain ⟨⟨ca0, ca1, ca2, ca3⟩, _⟩ := cells4 ha
  obtain ⟨⟨cb0, cb1, cb2, cb3⟩, _⟩ := cells4 hb
  have ya := za
  have yb := zb
  replace ha := (Go.heap_alloc_old w1 (.cells #[.int .u8 (a.toNat : Int), .int .u8 (b.toNat : Int), .int .u8 (c.toNat : Int), .int .u8 (d.toNat : Int), .int .i64 bt] 29) (r := w.heap.size) za).trans ha
  replace hb := (Go.heap_alloc_old w1 (.cells #[.int .u8 (a.toNat : Int), .int .u8 (b.toNat : Int), .int .u8 (c.toNat : Int), .int .u8 (d.toNat : Int), .int .i64 bt] 29) (r := w.heap.size + 1) zb).trans hb
  have hn := heap_alloc_new w1 (.cells #[.int .u8 (a.toNat : Int), .int .u8 (b.toNat : Int), .int .u8 (c.toNat : Int), .int .u8 (d.toNat : Int), .int .i64 bt] 29)
  replace za := Nat.lt_trans za (show w1.heap.size < (w1.alloc (.cells #[.int .u8 (a.toNat : Int), .int .u8 (b.toNat : Int), .int .u8 (c.toNat : Int), .int .u8 (d.toNat : Int), .int .i64 bt] 29)).heap.size by simp)
  replace zb := Nat.lt_trans zb (show w1.heap.size < (w1.alloc (.cells #[.int .u8 (a.toNat : Int), .int .u8 (b.toNat : Int), .int .u8 (c.toNat : Int), .int .u8 (d.toNat : Int), .int .i64 bt] 29)).heap.size by simp)
  have zn : w1.heap.size < (w1.alloc (.cells #[.int .u8 (a.toNat : Int), .int .u8 (b.toNat : Int), .int .u8 (c.toNat : Int), .int .u8 (d.toNat : Int), .int .i64 bt] 29)).heap.size := by simp
  replace bel := bel.alloc bel.size (.cells #[.int .u8 (a.toNat : Int), .int .u8 (b.toNat : Int), .int .u8 (c.toNat : Int), .int .u8 (d.toNat : Int), .int .i64 bt] 29)
  go_wp2_with fail
  with_reducible refine (K0.out _).mono ?_
  rintro e w2 ⟨rfl, b2⟩
  replace ha := (b2.block _ za).trans ha
  replace za := Nat.lt_of_lt_of_le za b2.size
  replace hb := (b2.block _ zb).trans hb
  replace zb := Nat.lt_of_lt_of_le zb b2.size
  replace hn := (b2.block _ zn).trans hn
  replace zn := Nat.lt_of_lt_of_le zn b2.size
  replace bel := bel.trans (b2.mono bel.size)
  clear b2
  clear ya yb ca0 ca1 ca2 ca3 cb0 cb1 cb2 cb3
  obtain ⟨⟨ca0, ca1, ca2, ca3⟩, _⟩ := cells4 ha
  obtain ⟨⟨cb0, cb1, cb2, cb3⟩, _⟩ := cells4 hb
  obtain ⟨⟨cn0, cn1, cn2, cn3, cn4⟩, _⟩ := cells5 hn
  clear ha hb hn
  go_wp2_with fail
  refine wp_region_held_drew (S := fun W => W.cell? ⟨w.heap.size, 0, none⟩ = some (.int .u8 (a.toNat : Int)) ∧ W.cell? ⟨w.heap.size, 1, none⟩ = some (.int .u8 (b.toNat : Int)) ∧ W.cell? ⟨w.heap.size, 2, none⟩ = some (.int .u8 (c.toNat : Int)) ∧ W.cell? ⟨w.heap.size, 3, none⟩ = some (.int .u8 (d.toNat : Int)) ∧ W.cell? ⟨w.heap.size + 1, 0, none⟩ = some (.int .u8 (p1.toNat : Int)) ∧ W.cell? ⟨w.heap.size + 1, 1, none⟩ = some (.int .u8 (p2.toNat : Int)) ∧ W.cell? ⟨w.heap.size + 1, 2, none⟩ = some (.int .u8 (p3.toNat : Int)) ∧ W.cell? ⟨w.heap.size + 1, 3, none⟩ = some (.int .u8 (p4.toNat : Int)) ∧ W.cell? ⟨w1.heap.size, 0, none⟩ = some (.int .u8 (a.toNat : Int)) ∧ W.cell? ⟨w1.heap.size, 1, none⟩ = some (.int .u8 (b.toNat : Int)) ∧ W.cell? ⟨w1.heap.size, 2, none⟩ = some (.int .u8 (c.toNat : Int)) ∧ W.cell? ⟨w1.heap.size, 3, none⟩ = some (.int .u8 (d.toNat : Int)) ∧ W.cell? ⟨w1.heap.size, 4, none⟩ = some (.int .i64 bt)) (by kernel_rfl) ⟨ca0, ca1, ca2, ca3, cb0, cb1, cb2, cb3, cn0, cn1, cn2, cn3, cn4⟩ (fun hH => ?_)
  refine wpAnyH_take (i := 0) (v := ?_) rfl (by kernel_rfl) (by kernel_rfl) (by kernel_rfl) (fun _ _ _ h => h) (Or.inl ⟨by rfl, ?_⟩) hH ?_
  rotate_left
  · ((intro W hW; obtain ⟨s0, s1, s2, s3, s4, s5, s6, s7, s8, s9, s10, s11, s12⟩ := hW; go_simp) <;> with_reducible rfl)
  simp only [Act.put, List.getElem_toArray, List.getElem_cons_zero, List.setIfInBounds_toArray, List.set_cons_zero, List.set_cons_succ]
  refine wpAnyH_take (i := 1) (v := ?_) rfl (by kernel_rfl) (by kernel_rfl) (by kernel_rfl) (fun _ _ _ h => h) (Or.inl ⟨by rfl, ?_⟩) hH ?_
  rotate_left
  · ((intro W hW; obtain ⟨s0, s1, s2, s3, s4, s5, s6, s7, s8, s9, s10, s11, s12⟩ := hW; go_simp) <;> with_reducible rfl)
  simp only [Act.put, List.getElem_toArray, List.getElem_cons_zero, List.getElem_cons_succ, List.setIfInBounds_toArray, List.set_cons_zero, List.set_cons_succ]
  refine wpAnyH_take (i := 3) (v := ?_) rfl (by kernel_rfl) (by kernel_rfl) (by kernel_rfl) (fun _ _ _ h => h) (Or.inl ⟨by rfl, ?_⟩) hH ?_
  rotate_left
  · ((intro W hW; obtain ⟨s0, s1, s2, s3, s4, s5, s6, s7, s8, s9, s10, s11, s12⟩ := hW; go_simp) <;> with_reducible rfl)
  simp only [Act.put, List.getElem_toArray, List.getElem_cons_zero, List.getElem_cons_succ, List.setIfInBounds_toArray, List.set_cons_zero, List.set_cons_succ]
  refine wpAnyH_take (i := 4) (v := ?_) rfl (by kernel_rfl) (by kernel_rfl) (by kernel_rfl) (fun _ _ _ h => h) (Or.inl ⟨by rfl, ?_⟩) hH ?_
  rotate_left
  · ((intro W hW; obtain ⟨s0, s1, s2, s3, s4, s5, s6, s7, s8, s9, s10, s11, s12⟩ := hW; go_simp) <;> with_reducible rfl)
  simp only [Act.put, List.getElem_toArray, List.getElem_cons_zero, List.getElem_cons_succ, List.setIfInBounds_toArray, List.set_cons_zero, List.set_cons_succ]
  refine wpAnyH_ready (rs := [2]) (by kernel_rfl) (by simp) ?_
  refine AllReadyH.cons (o := _) rfl (fun K hK => ?_) AllReadyH.nil
  simp only [List.getElem_toArray, List.getElem_cons_zero, List.getElem_cons_succ]
  go_simp
  with_reducible refine (K1.out _).mono ?_
  rintro e v11 ⟨rfl, b11⟩
  dsimp only
  have bel11 := bel.drew.trans (b11.mono bel.size)
  refine hK.out _ _ ⟨(b11.cell (p := ⟨_, 0, none⟩) za).trans hH.1, (b11.cell (p := ⟨_, 1, none⟩) za).trans hH.2.1, (b11.cell (p := ⟨_, 2, none⟩) za).trans hH.2.2.1, (b11.cell (p := ⟨_, 3, none⟩) za).trans hH.2.2.2.1, (b11.cell (p := ⟨_, 0, none⟩) zb).trans hH.2.2.2.2.1, (b11.cell (p := ⟨_, 1, none⟩) zb).trans hH.2.2.2.2.2.1, (b11.cell (p := ⟨_, 2, none⟩) zb).trans hH.2.2.2.2.2.2.1, (b11.cell (p := ⟨_, 3, none⟩) zb).trans hH.2.2.2.2.2.2.2.1, (b11.cell (p := ⟨_, 0, none⟩) zn).trans hH.2.2.2.2.2.2.2.2.1, (b11.cell (p := ⟨_, 1, none⟩) zn).trans hH.2.2.2.2.2.2.2.2.2.1, (b11.cell (p := ⟨_, 2, none⟩) zn).trans hH.2.2.2.2.2.2.2.2.2.2.1, (b11.cell (p := ⟨_, 3, none⟩) zn).trans hH.2.2.2.2.2.2.2.2.2.2.2.1, (b11.cell (p := ⟨_, 4, none⟩) zn).trans hH.2.2.2.2.2.2.2.2.2.2.2.2⟩ (fun hH11 => ?_)
  clear hK K
  replace za := Nat.lt_of_lt_of_le za b11.size
  replace zb := Nat.lt_of_lt_of_le zb b11.size
  replace zn := Nat.lt_of_lt_of_le zn b11.size
  refine wpAnyH_ready (rs := [5]) (by kernel_rfl) (by simp) ?_
  refine AllReadyH.cons (o := _) rfl (fun K hK => ?_) AllReadyH.nil
  simp only [List.getElem_toArray, List.getElem_cons_zero, List.getElem_cons_succ]
  go_simp
  with_reducible refine (K4.out _).mono ?_
  rintro e v12 ⟨rfl, b12⟩
  dsimp only
  have bel12 := bel11.trans (b12.mono bel11.size)
  refine hK.out _ _ ⟨(b12.cell (p := ⟨_, 0, none⟩) za).trans hH11.1, (b12.cell (p := ⟨_, 1, none⟩) za).trans hH11.2.1, (b12.cell (p := ⟨_, 2, none⟩) za).trans hH11.2.2.1, (b12.cell (p := ⟨_, 3, none⟩) za).trans hH11.2.2.2.1, (b12.cell (p := ⟨_, 0, none⟩) zb).trans hH11.2.2.2.2.1, (b12.cell (p := ⟨_, 1, none⟩) zb).trans hH11.2.2.2.2.2.1, (b12.cell (p := ⟨_, 2, none⟩) zb).trans hH11.2.2.2.2.2.2.1, (b12.cell (p := ⟨_, 3, none⟩) zb).trans hH11.2.2.2.2.2.2.2.1, (b12.cell (p := ⟨_, 0, none⟩) zn).trans hH11.2.2.2.2.2.2.2.2.1, (b12.cell (p := ⟨_, 1, none⟩) zn).trans hH11.2.2.2.2.2.2.2.2.2.1, (b12.cell (p := ⟨_, 2, none⟩) zn).trans hH11.2.2.2.2.2.2.2.2.2.2.1, (b12.cell (p := ⟨_, 3, none⟩) zn).trans hH11.2.2.2.2.2.2.2.2.2.2.2.1, (b12.cell (p := ⟨_, 4, none⟩) zn).trans hH11.2.2.2.2.2.2.2.2.2.2.2.2⟩ (fun hH12 => ?_)
  clear hK K
  replace za := Nat.lt_of_lt_of_le za b12.size
  replace zb := Nat.lt_of_lt_of_le zb b12.size
  replace zn := Nat.lt_of_lt_of_le zn b12.size
  refine wpAnyH_ready (rs := [6]) (by kernel_rfl) (by simp) ?_
  refine AllReadyH.cons (o := _) rfl (fun K hK => ?_) AllReadyH.nil
  simp only [List.getElem_toArray, List.getElem_cons_zero, List.getElem_cons_succ]
  go_simp
  with_reducible refine (J4.out _).mono ?_
  rintro e v13 ⟨rfl, b13⟩
  dsimp only
  have bel13 := bel12.trans (b13.mono bel12.size)
  refine hK.out _ _ ⟨(b13.cell (p := ⟨_, 0, none⟩) za).trans hH12.1, (b13.cell (p := ⟨_, 1, none⟩) za).trans hH12.2.1, (b13.cell (p := ⟨_, 2, none⟩) za).trans hH12.2.2.1, (b13.cell (p := ⟨_, 3, none⟩) za).trans hH12.2.2.2.1, (b13.cell (p := ⟨_, 0, none⟩) zb).trans hH12.2.2.2.2.1, (b13.cell (p := ⟨_, 1, none⟩) zb).trans hH12.2.2.2.2.2.1, (b13.cell (p := ⟨_, 2, none⟩) zb).trans hH12.2.2.2.2.2.2.1, (b13.cell (p := ⟨_, 3, none⟩) zb).trans hH12.2.2.2.2.2.2.2.1, (b13.cell (p := ⟨_, 0, none⟩) zn).trans hH12.2.2.2.2.2.2.2.2.1, (b13.cell (p := ⟨_, 1, none⟩) zn).trans hH12.2.2.2.2.2.2.2.2.2.1, (b13.cell (p := ⟨_, 2, none⟩) zn).trans hH12.2.2.2.2.2.2.2.2.2.2.1, (b13.cell (p := ⟨_, 3, none⟩) zn).trans hH12.2.2.2.2.2.2.2.2.2.2.2.1, (b13.cell (p := ⟨_, 4, none⟩) zn).trans hH12.2.2.2.2.2.2.2.2.2.2.2.2⟩ (fun hH13 => ?_)
  clear hK K
  replace za := Nat.lt_of_lt_of_le za b13.size
  replace zb := Nat.lt_of_lt_of_le zb b13.size
  replace zn := Nat.lt_of_lt_of_le zn b13.size
  refine wpAnyH_take (i := 7) (v := ?_) rfl (by kernel_rfl) (by kernel_rfl) (by kernel_rfl) (fun _ _ _ h => h) (Or.inl ⟨by rfl, ?_⟩) hH13 ?_
  rotate_left
  · ((intro W hW; obtain ⟨s0, s1, s2, s3, s4, s5, s6, s7, s8, s9, s10, s11, s12⟩ := hW; go_simp) <;> with_reducible rfl)
  simp only [Act.put, List.getElem_toArray, List.getElem_cons_zero, List.getElem_cons_succ, List.setIfInBounds_toArray, List.set_cons_zero, List.set_cons_succ]
  refine wpAnyH_take (i := 8) (v := ?_) rfl (by kernel_rfl) (by kernel_rfl) (by kernel_rfl) (fun _ _ _ h => h) (Or.inl ⟨by rfl, ?_⟩) hH13 ?_
  rotate_left
  · ((intro W hW; obtain ⟨s0, s1, s2, s3, s4, s5, s6, s7, s8, s9, s10, s11, s12⟩ := hW; go_simp) <;> with_reducible rfl)
  simp only [Act.put, List.getElem_toArray, List.getElem_cons_zero, List.getElem_cons_succ, List.setIfInBounds_toArray, List.set_cons_zero, List.set_cons_succ]
  refine wpAnyH_take (i := 9) (v := undef) rfl (by kernel_rfl) (by kernel_rfl) (by kernel_rfl) (fun _ _ _ h => h) (Or.inr ⟨by rfl, rfl⟩) hH13 ?_
  simp only [Act.put, List.getElem_toArray, List.getElem_cons_zero, List.getElem_cons_succ, List.setIfInBounds_toArray, List.set_cons_zero, List.set_cons_succ]
  refine wpAnyH_take (i := 10) (v := undef) rfl (by kernel_rfl) (by kernel_rfl) (by kernel_rfl) (fun _ _ _ h => h) (Or.inr ⟨by rfl, rfl⟩) hH13 ?_
  simp only [Act.put, List.getElem_toArray, List.getElem_cons_zero, List.getElem_cons_succ, List.setIfInBounds_toArray, List.set_cons_zero, List.set_cons_succ]
  refine wpAnyH_take (i := 11) (v := undef) rfl (by kernel_rfl) (by kernel_rfl) (by kernel_rfl) (fun _ _ _ h => h) (Or.inr ⟨by rfl, rfl⟩) hH13 ?_
  simp only [Act.put, List.getElem_toArray, List.getElem_cons_zero, List.getElem_cons_succ, List.setIfInBounds_toArray, List.set_cons_zero, List.set_cons_succ]
  refine wpAnyH_take (i := 12) (v := undef) rfl (by kernel_rfl) (by kernel_rfl) (by kernel_rfl) (fun _ _ _ h => h) (Or.inr ⟨by rfl, rfl⟩) hH13 ?_
  simp only [Act.put, List.getElem_toArray, List.getElem_cons_zero, List.getElem_cons_succ, List.setIfInBounds_toArray, List.set_cons_zero, List.set_cons_succ]
  refine wpAnyH_take (i := 13) (v := undef) rfl (by kernel_rfl) (by kernel_rfl) (by kernel_rfl) (fun _ _ _ h => h) (Or.inr ⟨by rfl, rfl⟩) hH13 ?_
  simp only [Act.put, List.getElem_toArray, List.getElem_cons_zero, List.getElem_cons_succ, List.setIfInBounds_toArray, List.set_cons_zero, List.set_cons_succ]
  refine wpAnyH_take (i := 14) (v := ?_) rfl (by kernel_rfl) (by kernel_rfl) (by kernel_rfl) (fun _ _ _ h => h) (Or.inl ⟨by rfl, ?_⟩) hH13 ?_
  rotate_left
  · ((intro W hW; obtain ⟨s0, s1, s2, s3, s4, s5, s6, s7, s8, s9, s10, s11, s12⟩ := hW; go_simp) <;> with_reducible rfl)
  simp only [Act.put, List.getElem_toArray, List.getElem_cons_zero, List.getElem_cons_succ, List.setIfInBounds_toArray, List.set_cons_zero, List.set_cons_succ]
  refine wpAnyH_take (i := 15) (v := ?_) rfl (by kernel_rfl) (by kernel_rfl) (by kernel_rfl) (fun _ _ _ h => h) (Or.inl ⟨by rfl, ?_⟩) hH13 ?_
  rotate_left
  · ((intro W hW; obtain ⟨s0, s1, s2, s3, s4, s5, s6, s7, s8, s9, s10, s11, s12⟩ := hW; go_simp) <;> with_reducible rfl)
  simp only [Act.put, List.getElem_toArray, List.getElem_cons_zero, List.getElem_cons_succ, List.setIfInBounds_toArray, List.set_cons_zero, List.set_cons_succ]
  refine wpAnyH_take (i := 16) (v := ?_) rfl (by kernel_rfl) (by kernel_rfl) (by kernel_rfl) (fun _ _ _ h => h) (Or.inl ⟨by rfl, ?_⟩) hH13 ?_
  rotate_left
  · ((intro W hW; obtain ⟨s0, s1, s2, s3, s4, s5, s6, s7, s8, s9, s10, s11, s12⟩ := hW; go_simp) <;> with_reducible rfl)
  simp only [Act.put, List.getElem_toArray, List.getElem_cons_zero, List.getElem_cons_succ, List.setIfInBounds_toArray, List.set_cons_zero, List.set_cons_succ]
  refine wpAnyH_take (i := 17) (v := ?_) rfl (by kernel_rfl) (by kernel_rfl) (by kernel_rfl) (fun _ _ _ h => h) (Or.inl ⟨by rfl, ?_⟩) hH13 ?_
  rotate_left
  · ((intro W hW; obtain ⟨s0, s1, s2, s3, s4, s5, s6, s7, s8, s9, s10, s11, s12⟩ := hW; go_simp) <;> with_reducible rfl)
  simp only [Act.put, List.getElem_toArray, List.getElem_cons_zero, List.getElem_cons_succ, List.setIfInBounds_toArray, List.set_cons_zero, List.set_cons_succ]
  refine wpAnyH_take (i := 18) (v := ?_) rfl (by kernel_rfl) (by kernel_rfl) (by kernel_rfl) (fun _ _ _ h => h) (Or.inl ⟨by rfl, ?_⟩) hH13 ?_
  rotate_left
  · ((intro W hW; obtain ⟨s0, s1, s2, s3, s4, s5, s6, s7, s8, s9, s10, s11, s12⟩ := hW; go_simp) <;> with_reducible rfl)
  simp only [Act.put, List.getElem_toArray, List.getElem_cons_zero, List.getElem_cons_succ, List.setIfInBounds_toArray, List.set_cons_zero, List.set_cons_succ]
  refine wpAnyH_ready (rs := [19]) (by kernel_rfl) (by simp) ?_
  refine AllReadyH.cons (o := _) rfl (fun K hK => ?_) AllReadyH.nil
  simp only [List.getElem_toArray, List.getElem_cons_zero, List.getElem_cons_succ]
  go_simp
  with_reducible refine (K2.out _).mono ?_
  rintro e v14 ⟨rfl, b14⟩
  dsimp only
  have bel14 := bel13.trans (b14.mono bel13.size)
  refine hK.out _ _ ⟨(b14.cell (p := ⟨_, 0, none⟩) za).trans hH13.1, (b14.cell (p := ⟨_, 1, none⟩) za).trans hH13.2.1, (b14.cell (p := ⟨_, 2, none⟩) za).trans hH13.2.2.1, (b14.cell (p := ⟨_, 3, none⟩) za).trans hH13.2.2.2.1, (b14.cell (p := ⟨_, 0, none⟩) zb).trans hH13.2.2.2.2.1, (b14.cell (p := ⟨_, 1, none⟩) zb).trans hH13.2.2.2.2.2.1, (b14.cell (p := ⟨_, 2, none⟩) zb).trans hH13.2.2.2.2.2.2.1, (b14.cell (p := ⟨_, 3, none⟩) zb).trans hH13.2.2.2.2.2.2.2.1, (b14.cell (p := ⟨_, 0, none⟩) zn).trans hH13.2.2.2.2.2.2.2.2.1, (b14.cell (p := ⟨_, 1, none⟩) zn).trans hH13.2.2.2.2.2.2.2.2.2.1, (b14.cell (p := ⟨_, 2, none⟩) zn).trans hH13.2.2.2.2.2.2.2.2.2.2.1, (b14.cell (p := ⟨_, 3, none⟩) zn).trans hH13.2.2.2.2.2.2.2.2.2.2.2.1, (b14.cell (p := ⟨_, 4, none⟩) zn).trans hH13.2.2.2.2.2.2.2.2.2.2.2.2⟩ (fun hH14 => ?_)
  clear hK K
  replace za := Nat.lt_of_lt_of_le za b14.size
  replace zb := Nat.lt_of_lt_of_le zb b14.size
  replace zn := Nat.lt_of_lt_of_le zn b14.size
  refine wpAnyH_take (i := 20) (v := ?_) rfl (by kernel_rfl) (by kernel_rfl) (by kernel_rfl) (fun _ _ _ h => h) (Or.inl ⟨by rfl, ?_⟩) hH14 ?_
  rotate_left
  · ((intro W hW; obtain ⟨s0, s1, s2, s3, s4, s5, s6, s7, s8, s9, s10, s11, s12⟩ := hW; go_simp) <;> with_reducible rfl)
  simp only [Act.put, List.getElem_toArray, List.getElem_cons_zero, List.getElem_cons_succ, List.setIfInBounds_toArray, List.set_cons_zero, List.set_cons_succ]
  refine wpAnyH_take (i := 21) (v := ?_) rfl (by kernel_rfl) (by kernel_rfl) (by kernel_rfl) (fun _ _ _ h => h) (Or.inl ⟨by rfl, ?_⟩) hH14 ?_
  rotate_left
  · ((intro W hW; obtain ⟨s0, s1, s2, s3, s4, s5, s6, s7, s8, s9, s10, s11, s12⟩ := hW; go_simp) <;> with_reducible rfl)
  simp only [Act.put, List.getElem_toArray, List.getElem_cons_zero, List.getElem_cons_succ, List.setIfInBounds_toArray, List.set_cons_zero, List.set_cons_succ]
  refine wpAnyH_take (i := 22) (v := ?_) rfl (by kernel_rfl) (by kernel_rfl) (by kernel_rfl) (fun _ _ _ h => h) (Or.inl ⟨by rfl, ?_⟩) hH14 ?_
  rotate_left
  · ((intro W hW; obtain ⟨s0, s1, s2, s3, s4, s5, s6, s7, s8, s9, s10, s11, s12⟩ := hW; go_simp) <;> with_reducible rfl)
  simp only [Act.put, List.getElem_toArray, List.getElem_cons_zero, List.getElem_cons_succ, List.setIfInBounds_toArray, List.set_cons_zero, List.set_cons_succ]
  refine wpAnyH_take (i := 23) (v := ?_) rfl (by kernel_rfl) (by kernel_rfl) (by kernel_rfl) (fun _ _ _ h => h) (Or.inl ⟨by rfl, ?_⟩) hH14 ?_
  rotate_left
  · ((intro W hW; obtain ⟨s0, s1, s2, s3, s4, s5, s6, s7, s8, s9, s10, s11, s12⟩ := hW; go_simp) <;> with_reducible rfl)
  simp only [Act.put, List.getElem_toArray, List.getElem_cons_zero, List.getElem_cons_succ, List.setIfInBounds_toArray, List.set_cons_zero, List.set_cons_succ]
  refine wpAnyH_ready (rs := [24]) (by kernel_rfl) (by simp) ?_
  refine AllReadyH.cons (o := _) rfl (fun K hK => ?_) AllReadyH.nil
  simp only [List.getElem_toArray, List.getElem_cons_zero, List.getElem_cons_succ]
  go_simp
  with_reducible refine (K4.out _).mono ?_
  rintro e v15 ⟨rfl, b15⟩
  dsimp only
  have bel15 := bel14.trans (b15.mono bel14.size)
  refine hK.out _ _ ⟨(b15.cell (p := ⟨_, 0, none⟩) za).trans hH14.1, (b15.cell (p := ⟨_, 1, none⟩) za).trans hH14.2.1, (b15.cell (p := ⟨_, 2, none⟩) za).trans hH14.2.2.1, (b15.cell (p := ⟨_, 3, none⟩) za).trans hH14.2.2.2.1, (b15.cell (p := ⟨_, 0, none⟩) zb).trans hH14.2.2.2.2.1, (b15.cell (p := ⟨_, 1, none⟩) zb).trans hH14.2.2.2.2.2.1, (b15.cell (p := ⟨_, 2, none⟩) zb).trans hH14.2.2.2.2.2.2.1, (b15.cell (p := ⟨_, 3, none⟩) zb).trans hH14.2.2.2.2.2.2.2.1, (b15.cell (p := ⟨_, 0, none⟩) zn).trans hH14.2.2.2.2.2.2.2.2.1, (b15.cell (p := ⟨_, 1, none⟩) zn).trans hH14.2.2.2.2.2.2.2.2.2.1, (b15.cell (p := ⟨_, 2, none⟩) zn).trans hH14.2.2.2.2.2.2.2.2.2.2.1, (b15.cell (p := ⟨_, 3, none⟩) zn).trans hH14.2.2.2.2.2.2.2.2.2.2.2.1, (b15.cell (p := ⟨_, 4, none⟩) zn).trans hH14.2.2.2.2.2.2.2.2.2.2.2.2⟩ (fun hH15 => ?_)
  clear hK K
  replace za := Nat.lt_of_lt_of_le za b15.size
  replace zb := Nat.lt_of_lt_of_le zb b15.size
  replace zn := Nat.lt_of_lt_of_le zn b15.size
  refine wpAnyH_ready (rs := [25]) (by kernel_rfl) (by simp) ?_
  refine AllReadyH.cons (o := _) rfl (fun K hK => ?_) AllReadyH.nil
  simp only [List.getElem_toArray, List.getElem_cons_zero, List.getElem_cons_succ]
  go_simp
  with_reducible refine (K6.out _).mono ?_
  rintro e v16 ⟨rfl, b16⟩
  dsimp only
  have bel16 := bel15.trans (b16.mono bel15.size)
  refine hK.out _ _ ⟨(b16.cell (p := ⟨_, 0, none⟩) za).trans hH15.1, (b16.cell (p := ⟨_, 1, none⟩) za).trans hH15.2.1, (b16.cell (p := ⟨_, 2, none⟩) za).trans hH15.2.2.1, (b16.cell (p := ⟨_, 3, none⟩) za).trans hH15.2.2.2.1, (b16.cell (p := ⟨_, 0, none⟩) zb).trans hH15.2.2.2.2.1, (b16.cell (p := ⟨_, 1, none⟩) zb).trans hH15.2.2.2.2.2.1, (b16.cell (p := ⟨_, 2, none⟩) zb).trans hH15.2.2.2.2.2.2.1, (b16.cell (p := ⟨_, 3, none⟩) zb).trans hH15.2.2.2.2.2.2.2.1, (b16.cell (p := ⟨_, 0, none⟩) zn).trans hH15.2.2.2.2.2.2.2.2.1, (b16.cell (p := ⟨_, 1, none⟩) zn).trans hH15.2.2.2.2.2.2.2.2.2.1, (b16.cell (p := ⟨_, 2, none⟩) zn).trans hH15.2.2.2.2.2.2.2.2.2.2.1, (b16.cell (p := ⟨_, 3, none⟩) zn).trans hH15.2.2.2.2.2.2.2.2.2.2.2.1, (b16.cell (p := ⟨_, 4, none⟩) zn).trans hH15.2.2.2.2.2.2.2.2.2.2.2.2⟩ (fun hH16 => ?_)
  clear hK K
  replace za := Nat.lt_of_lt_of_le za b16.size
  replace zb := Nat.lt_of_lt_of_le zb b16.size
  replace zn := Nat.lt_of_lt_of_le zn b16.size
  refine wpAnyH_take (i := 26) (v := ?_) rfl (by kernel_rfl) (by kernel_rfl) (by kernel_rfl) (fun _ _ _ h => h) (Or.inl ⟨by rfl, ?_⟩) hH16 ?_
  rotate_left
  · ((intro W hW; obtain ⟨s0, s1, s2, s3, s4, s5, s6, s7, s8, s9, s10, s11, s12⟩ := hW; go_simp) <;> with_reducible rfl)
  simp only [Act.put, List.getElem_toArray, List.getElem_cons_zero, List.getElem_cons_succ, List.setIfInBounds_toArray, List.set_cons_zero, List.set_cons_succ]
  refine wpAnyH_take (i := 27) (v := ?_) rfl (by kernel_rfl) (by kernel_rfl) (by kernel_rfl) (fun _ _ _ h => h) (Or.inl ⟨by rfl, ?_⟩) hH16 ?_
  rotate_left
  · ((intro W hW; obtain ⟨s0, s1, s2, s3, s4, s5, s6, s7, s8, s9, s10, s11, s12⟩ := hW; go_simp) <;> with_reducible rfl)
  simp only [Act.put, List.getElem_toArray, List.getElem_cons_zero, List.getElem_cons_succ, List.setIfInBounds_toArray, List.set_cons_zero, List.set_cons_succ]
  refine wpAnyH_take (i := 28) (v := ?_) rfl (by kernel_rfl) (by kernel_rfl) (by kernel_rfl) (fun _ _ _ h => h) (Or.inl ⟨by rfl, ?_⟩) hH16 ?_
  rotate_left
  · ((intro W hW; obtain ⟨s0, s1, s2, s3, s4, s5, s6, s7, s8, s9, s10, s11, s12⟩ := hW; go_simp) <;> with_reducible rfl)
  simp only [Act.put, List.getElem_toArray, List.getElem_cons_zero, List.getElem_cons_succ, List.setIfInBounds_toArray, List.set_cons_zero, List.set_cons_succ]
  refine wpAnyH_take (i := 29) (v := ?_) rfl (by kernel_rfl) (by kernel_rfl) (by kernel_rfl) (fun _ _ _ h => h) (Or.inl ⟨by rfl, ?_⟩) hH16 ?_
  rotate_left
  · ((intro W hW; obtain ⟨s0, s1, s2, s3, s4, s5, s6, s7, s8, s9, s10, s11, s12⟩ := hW; go_simp) <;> with_reducible rfl)
  simp only [Act.put, List.getElem_toArray, List.getElem_cons_zero, List.getElem_cons_succ, List.setIfInBounds_toArray, List.set_cons_zero, List.set_cons_succ]
  refine wpAnyH_ready (rs := [30]) (by kernel_rfl) (by simp) ?_
  refine AllReadyH.cons (o := _) rfl (fun K hK => ?_) AllReadyH.nil
  simp only [List.getElem_toArray, List.getElem_cons_zero, List.getElem_cons_succ]
  go_simp
  with_reducible refine (K5.out _).mono ?_
  rintro e v17 ⟨rfl, b17⟩
  dsimp only
  have bel17 := bel16.trans (b17.mono bel16.size)
  refine hK.out _ _ ⟨(b17.cell (p := ⟨_, 0, none⟩) za).trans hH16.1, (b17.cell (p := ⟨_, 1, none⟩) za).trans hH16.2.1, (b17.cell (p := ⟨_, 2, none⟩) za).trans hH16.2.2.1, (b17.cell (p := ⟨_, 3, none⟩) za).trans hH16.2.2.2.1, (b17.cell (p := ⟨_, 0, none⟩) zb).trans hH16.2.2.2.2.1, (b17.cell (p := ⟨_, 1, none⟩) zb).trans hH16.2.2.2.2.2.1, (b17.cell (p := ⟨_, 2, none⟩) zb).trans hH16.2.2.2.2.2.2.1, (b17.cell (p := ⟨_, 3, none⟩) zb).trans hH16.2.2.2.2.2.2.2.1, (b17.cell (p := ⟨_, 0, none⟩) zn).trans hH16.2.2.2.2.2.2.2.2.1, (b17.cell (p := ⟨_, 1, none⟩) zn).trans hH16.2.2.2.2.2.2.2.2.2.1, (b17.cell (p := ⟨_, 2, none⟩) zn).trans hH16.2.2.2.2.2.2.2.2.2.2.1, (b17.cell (p := ⟨_, 3, none⟩) zn).trans hH16.2.2.2.2.2.2.2.2.2.2.2.1, (b17.cell (p := ⟨_, 4, none⟩) zn).trans hH16.2.2.2.2.2.2.2.2.2.2.2.2⟩ (fun hH17 => ?_)
  clear hK K
  replace za := Nat.lt_of_lt_of_le za b17.size
  replace zb := Nat.lt_of_lt_of_le zb b17.size
  replace zn := Nat.lt_of_lt_of_le zn b17.size
  refine wpAnyH_ready (rs := [31]) (by kernel_rfl) (by simp) ?_
  refine AllReadyH.cons (o := _) rfl (fun K hK => ?_) AllReadyH.nil
  simp only [List.getElem_toArray, List.getElem_cons_zero, List.getElem_cons_succ]
  go_simp
  with_reducible refine (K7.out _).mono ?_
  rintro e v18 ⟨rfl, b18⟩
  dsimp only
  have bel18 := bel17.trans (b18.mono bel17.size)
  refine hK.out _ _ ⟨(b18.cell (p := ⟨_, 0, none⟩) za).trans hH17.1, (b18.cell (p := ⟨_, 1, none⟩) za).trans hH17.2.1, (b18.cell (p := ⟨_, 2, none⟩) za).trans hH17.2.2.1, (b18.cell (p := ⟨_, 3, none⟩) za).trans hH17.2.2.2.1, (b18.cell (p := ⟨_, 0, none⟩) zb).trans hH17.2.2.2.2.1, (b18.cell (p := ⟨_, 1, none⟩) zb).trans hH17.2.2.2.2.2.1, (b18.cell (p := ⟨_, 2, none⟩) zb).trans hH17.2.2.2.2.2.2.1, (b18.cell (p := ⟨_, 3, none⟩) zb).trans hH17.2.2.2.2.2.2.2.1, (b18.cell (p := ⟨_, 0, none⟩) zn).trans hH17.2.2.2.2.2.2.2.2.1, (b18.cell (p := ⟨_, 1, none⟩) zn).trans hH17.2.2.2.2.2.2.2.2.2.1, (b18.cell (p := ⟨_, 2, none⟩) zn).trans hH17.2.2.2.2.2.2.2.2.2.2.1, (b18.cell (p := ⟨_, 3, none⟩) zn).trans hH17.2.2.2.2.2.2.2.2.2.2.2.1, (b18.cell (p := ⟨_, 4, none⟩) zn).trans hH17.2.2.2.2.2.2.2.2.2.2.2.2⟩ (fun hH18 => ?_)
  clear hK K
  replace za := Nat.lt_of_lt_of_le za b18.size
  replace zb := Nat.lt_of_lt_of_le zb b18.size
  replace zn := Nat.lt_of_lt_of_le zn b18.size
  refine wpAnyH_take (i := 32) (v := ?_) rfl (by kernel_rfl) (by kernel_rfl) (by kernel_rfl) (fun _ _ _ h => h) (Or.inl ⟨by rfl, ?_⟩) hH18 ?_
  rotate_left
  · ((intro W hW; obtain ⟨s0, s1, s2, s3, s4, s5, s6, s7, s8, s9, s10, s11, s12⟩ := hW; go_simp) <;> with_reducible rfl)
  simp only [Act.put, List.getElem_toArray, List.getElem_cons_zero, List.getElem_cons_succ, List.setIfInBounds_toArray, List.set_cons_zero, List.set_cons_succ]
  refine wpAnyH_take (i := 33) (v := ?_) rfl (by kernel_rfl) (by kernel_rfl) (by kernel_rfl) (fun _ _ _ h => h) (Or.inl ⟨by rfl, ?_⟩) hH18 ?_
  rotate_left
  · ((intro W hW; obtain ⟨s0, s1, s2, s3, s4, s5, s6, s7, s8, s9, s10, s11, s12⟩ := hW; go_simp) <;> with_reducible rfl)
  simp only [Act.put, List.getElem_toArray, List.getElem_cons_zero, List.getElem_cons_succ, List.setIfInBounds_toArray, List.set_cons_zero, List.set_cons_succ]
  refine wpAnyH_done (by kernel_rfl) ?_ _
  go_wp2
  go_ret
  exact ⟨rfl, bel18⟩

set_option maxRecDepth 100000 in
set_option maxHeartbeats 16000000 in
theorem addrWithin_hi (a b c d : UInt8) (bt : Int) (p1 p2 p3 p4 : UInt8) (w : World) (hT : Tab w) (hhi : firstN (be [a, b, c, d]) (clamp bt) ≤ be [p1, p2, p3, p4] ∧ lastN (be [a, b, c, d]) (clamp bt) < be [p1, p2, p3, p4]) : Calls Tryd.prog 7 #[.agg #[.int .u8 (a.toNat : Int), .int .u8 (b.toNat : Int), .int .u8 (c.toNat : Int), .int .u8 (d.toNat : Int)], .int .i64 bt, .agg #[.int .u8 (p1.toNat : Int), .int .u8 (p2.toNat : Int), .int .u8 (p3.toNat : Int), .int .u8 (p4.toNat : Int)]] w fun e w' => e = .returned (.bool true) ∧ Below w.heap.size w w' := by
  have bel := Below.refl w.heap.size w
  have HT := Lib.hid hT
  clear hT
  have hn := be_four_lt a b c d
  have hk := be_four_lt p1 p2 p3 p4
  have hml := clamp_le bt
  have hb := has_between (be [a, b, c, d]) (be [p1, p2, p3, p4]) (clamp bt)
  have H1 := fun W => ahas_any a b c d p1 p2 p3 p4 bt W
  rw [show (firstN (be [a, b, c, d]) (clamp bt) == firstN (be [p1, p2, p3, p4]) (clamp bt)) = false by rw [beq_eq_false_iff_ne]; intro e; have := (hb.1 e).2; omega] at H1
  have N0 := fun W => anum_any p1 p2 p3 p4 W
  have H2 := fun W => ahas_any a b c d a b c d bt W
  rw [beq_self_eq_true] at H2
  have H4 := fun W => afirst_any a b c d bt W
  have H5 := fun W => alast_any a b c d bt W
  have fl := first_last (be [a, b, c, d]) (clamp bt)
  have lf := firstN_le (be [a, b, c, d]) (clamp bt)
  have ll := lastN_lt (be [a, b, c, d]) (clamp bt) hml hn
  have N4 := fun W => num_adr (firstN (be [a, b, c, d]) (clamp bt)) (by omega) W
  have N5 := fun W => num_adr (lastN (be [a, b, c, d]) (clamp bt)) ll W
  have H6 := fun W => has_adr a b c d (firstN (be [a, b, c, d]) (clamp bt)) (by omega) bt W
  rw [show (firstN (be [a, b, c, d]) (clamp bt) == firstN (firstN (be [a, b, c, d]) (clamp bt)) (clamp bt)) = true by rw [beq_iff_eq]; exact (has_between _ _ _).2 ⟨by omega, by omega⟩] at H6
  have H7 := fun W => has_adr a b c d (lastN (be [a, b, c, d]) (clamp bt)) ll bt W
  rw [show (firstN (be [a, b, c, d]) (clamp bt) == firstN (lastN (be [a, b, c, d]) (clamp bt)) (clamp bt)) = true by rw [beq_iff_eq]; exact (has_between _ _ _).2 ⟨by omega, by omega⟩] at H7
  generalize adr (firstN (be [a, b, c, d]) (clamp bt)) = v4 at H4 N4 H6
  generalize adr (lastN (be [a, b, c, d]) (clamp bt)) = v5 at H5 N5 H7
  clear hb fl hml
  generalize firstN (be [a, b, c, d]) (clamp bt) = F at *
  generalize lastN (be [a, b, c, d]) (clamp bt) = L at *
  generalize be [p1, p2, p3, p4] = X at *
  generalize be [a, b, c, d] = N at *
  have c1 : (F : Int) ≤ X := by omega
  have c2 : decide (X ≤ L) = false := decide_eq_false (by omega)
  clear hhi
  have f0 : (0 : Int) ≤ F := by omega
  have f1 : (F : Int) < 4294967296 := by omega
  have l0 : (0 : Int) ≤ L := by omega
  have l1 : (L : Int) < 4294967296 := by omega
  have x0 : (0 : Int) ≤ X := by omega
  have x1 : (X : Int) < 4294967296 := by omega
  have K0 := Lib.hid N0; have K1 := Lib.hid H1; have K2 := Lib.hid H2; have K4 := Lib.hid H4; have K5 := Lib.hid H5; have K6 := Lib.hid H6; have K7 := Lib.hid H7
  have J4 := Lib.hid N4; have J5 := Lib.hid N5
  clear N0 H1 H2 H4 H5 H6 H7 N4 N5 hn hk lf ll
  have ha := heap_alloc_new w (.cells #[.int .u8 (a.toNat : Int), .int .u8 (b.toNat : Int), .int .u8 (c.toNat : Int), .int .u8 (d.toNat : Int)] 24)
  have za : w.heap.size < (w.alloc (.cells #[.int .u8 (a.toNat : Int), .int .u8 (b.toNat : Int), .int .u8 (c.toNat : Int), .int .u8 (d.toNat : Int)] 24)).heap.size := by simp
  replace bel := bel.alloc bel.size (.cells #[.int .u8 (a.toNat : Int), .int .u8 (b.toNat : Int), .int .u8 (c.toNat : Int), .int .u8 (d.toNat : Int)] 24)
  replace ha := (Go.heap_alloc_old (w.alloc (.cells #[.int .u8 (a.toNat : Int), .int .u8 (b.toNat : Int), .int .u8 (c.toNat : Int), .int .u8 (d.toNat : Int)] 24)) (.cells #[.int .u8 (p1.toNat : Int), .int .u8 (p2.toNat : Int), .int .u8 (p3.toNat : Int), .int .u8 (p4.toNat : Int)] 24) (r := w.heap.size) za).trans ha
  have hb : ((w.alloc (.cells #[.int .u8 (a.toNat : Int), .int .u8 (b.toNat : Int), .int .u8 (c.toNat : Int), .int .u8 (d.toNat : Int)] 24)).alloc (.cells #[.int .u8 (p1.toNat : Int), .int .u8 (p2.toNat : Int), .int .u8 (p3.toNat : Int), .int .u8 (p4.toNat : Int)] 24)).heap[w.heap.size + 1]? = some (.cells #[.int .u8 (p1.toNat : Int), .int .u8 (p2.toNat : Int), .int .u8 (p3.toNat : Int), .int .u8 (p4.toNat : Int)] 24 (0, 0)) := by have := heap_alloc_new (w.alloc (.cells #[.int .u8 (a.toNat : Int), .int .u8 (b.toNat : Int), .int .u8 (c.toNat : Int), .int .u8 (d.toNat : Int)] 24)) (.cells #[.int .u8 (p1.toNat : Int), .int .u8 (p2.toNat : Int), .int .u8 (p3.toNat : Int), .int .u8 (p4.toNat : Int)] 24); simpa using this
  replace za := Nat.lt_trans za (show (w.alloc (.cells #[.int .u8 (a.toNat : Int), .int .u8 (b.toNat : Int), .int .u8 (c.toNat : Int), .int .u8 (d.toNat : Int)] 24)).heap.size < ((w.alloc (.cells #[.int .u8 (a.toNat : Int), .int .u8 (b.toNat : Int), .int .u8 (c.toNat : Int), .int .u8 (d.toNat : Int)] 24)).alloc (.cells #[.int .u8 (p1.toNat : Int), .int .u8 (p2.toNat : Int), .int .u8 (p3.toNat : Int), .int .u8 (p4.toNat : Int)] 24)).heap.size by simp)
  have zb : w.heap.size + 1 < ((w.alloc (.cells #[.int .u8 (a.toNat : Int), .int .u8 (b.toNat : Int), .int .u8 (c.toNat : Int), .int .u8 (d.toNat : Int)] 24)).alloc (.cells #[.int .u8 (p1.toNat : Int), .int .u8 (p2.toNat : Int), .int .u8 (p3.toNat : Int), .int .u8 (p4.toNat : Int)] 24)).heap.size := by simp
  replace bel := bel.alloc bel.size (.cells #[.int .u8 (p1.toNat : Int), .int .u8 (p2.toNat : Int), .int .u8 (p3.toNat : Int), .int .u8 (p4.toNat : Int)] 24)
  go_enter Tryd.func7, Tryd.ntmps7
  go_wp2_with fail
  with_reducible refine (awake3 _ (HT.out.below bel)).mono ?_
  rintro e w1 ⟨rfl, b1⟩
  replace ha := (b1.block _ za).trans ha
  replace za := Nat.lt_of_lt_of_le za b1.size
  replace hb := (b1.block _ zb).trans hb
  replace zb := Nat.lt_of_lt_of_le zb b1.size
  replace bel := bel.trans (b1.mono bel.size)
  clear b1
  obtain ⟨⟨ca0, ca1, ca2, ca3⟩, _⟩ := cells4 ha
  obtain ⟨⟨cb0, cb1, cb2, cb3⟩, _⟩ := cells4 hb
  have ya := za
  have yb := zb
  replace ha := (Go.heap_alloc_old w1 (.cells #[.int .u8 (a.toNat : Int), .int .u8 (b.toNat : Int), .int .u8 (c.toNat : Int), .int .u8 (d.toNat : Int), .int .i64 bt] 29) (r := w.heap.size) za).trans ha
  replace hb := (Go.heap_alloc_old w1 (.cells #[.int .u8 (a.toNat : Int), .int .u8 (b.toNat : Int), .int .u8 (c.toNat : Int), .int .u8 (d.toNat : Int), .int .i64 bt] 29) (r := w.heap.size + 1) zb).trans hb
  have hn := heap_alloc_new w1 (.cells #[.int .u8 (a.toNat : Int), .int .u8 (b.toNat : Int), .int .u8 (c.toNat : Int), .int .u8 (d.toNat : Int), .int .i64 bt] 29)
  replace za := Nat.lt_trans za (show w1.heap.size < (w1.alloc (.cells #[.int .u8 (a.toNat : Int), .int .u8 (b.toNat : Int), .int .u8 (c.toNat : Int), .int .u8 (d.toNat : Int), .int .i64 bt] 29)).heap.size by simp)
  replace zb := Nat.lt_trans zb (show w1.heap.size < (w1.alloc (.cells #[.int .u8 (a.toNat : Int), .int .u8 (b.toNat : Int), .int .u8 (c.toNat : Int), .int .u8 (d.toNat : Int), .int .i64 bt] 29)).heap.size by simp)
  have zn : w1.heap.size < (w1.alloc (.cells #[.int .u8 (a.toNat : Int), .int .u8 (b.toNat : Int), .int .u8 (c.toNat : Int), .int .u8 (d.toNat : Int), .int .i64 bt] 29)).heap.size := by simp
  replace bel := bel.alloc bel.size (.cells #[.int .u8 (a.toNat : Int), .int .u8 (b.toNat : Int), .int .u8 (c.toNat : Int), .int .u8 (d.toNat : Int), .int .i64 bt] 29)
  go_wp2_with fail
  with_reducible refine (K0.out _).mono ?_
  rintro e w2 ⟨rfl, b2⟩
  replace ha := (b2.block _ za).trans ha
  replace za := Nat.lt_of_lt_of_le za b2.size
  replace hb := (b2.block _ zb).trans hb
  replace zb := Nat.lt_of_lt_of_le zb b2.size
  replace hn := (b2.block _ zn).trans hn
  replace zn := Nat.lt_of_lt_of_le zn b2.size
  replace bel := bel.trans (b2.mono bel.size)
  clear b2
  clear ya yb ca0 ca1 ca2 ca3 cb0 cb1 cb2 cb3
  obtain ⟨⟨ca0, ca1, ca2, ca3⟩, _⟩ := cells4 ha
  obtain ⟨⟨cb0, cb1, cb2, cb3⟩, _⟩ := cells4 hb
  obtain ⟨⟨cn0, cn1, cn2, cn3, cn4⟩, _⟩ := cells5 hn
  clear ha hb hn
  go_wp2_with fail
  refine wp_region_held_drew (S := fun W => W.cell? ⟨w.heap.size, 0, none⟩ = some (.int .u8 (a.toNat : Int)) ∧ W.cell? ⟨w.heap.size, 1, none⟩ = some (.int .u8 (b.toNat : Int)) ∧ W.cell? ⟨w.heap.size, 2, none⟩ = some (.int .u8 (c.toNat : Int)) ∧ W.cell? ⟨w.heap.size, 3, none⟩ = some (.int .u8 (d.toNat : Int)) ∧ W.cell? ⟨w.heap.size + 1, 0, none⟩ = some (.int .u8 (p1.toNat : Int)) ∧ W.cell? ⟨w.heap.size + 1, 1, none⟩ = some (.int .u8 (p2.toNat : Int)) ∧ W.cell? ⟨w.heap.size + 1, 2, none⟩ = some (.int .u8 (p3.toNat : Int)) ∧ W.cell? ⟨w.heap.size + 1, 3, none⟩ = some (.int .u8 (p4.toNat : Int)) ∧ W.cell? ⟨w1.heap.size, 0, none⟩ = some (.int .u8 (a.toNat : Int)) ∧ W.cell? ⟨w1.heap.size, 1, none⟩ = some (.int .u8 (b.toNat : Int)) ∧ W.cell? ⟨w1.heap.size, 2, none⟩ = some (.int .u8 (c.toNat : Int)) ∧ W.cell? ⟨w1.heap.size, 3, none⟩ = some (.int .u8 (d.toNat : Int)) ∧ W.cell? ⟨w1.heap.size, 4, none⟩ = some (.int .i64 bt)) (by kernel_rfl) ⟨ca0, ca1, ca2, ca3, cb0, cb1, cb2, cb3, cn0, cn1, cn2, cn3, cn4⟩ (fun hH => ?_)
  refine wpAnyH_take (i := 0) (v := ?_) rfl (by kernel_rfl) (by kernel_rfl) (by kernel_rfl) (fun _ _ _ h => h) (Or.inl ⟨by rfl, ?_⟩) hH ?_
  rotate_left
  · ((intro W hW; obtain ⟨s0, s1, s2, s3, s4, s5, s6, s7, s8, s9, s10, s11, s12⟩ := hW; go_simp) <;> with_reducible rfl)
  simp only [Act.put, List.getElem_toArray, List.getElem_cons_zero, List.setIfInBounds_toArray, List.set_cons_zero, List.set_cons_succ]
  refine wpAnyH_take (i := 1) (v := ?_) rfl (by kernel_rfl) (by kernel_rfl) (by kernel_rfl) (fun _ _ _ h => h) (Or.inl ⟨by rfl, ?_⟩) hH ?_
  rotate_left
  · ((intro W hW; obtain ⟨s0, s1, s2, s3, s4, s5, s6, s7, s8, s9, s10, s11, s12⟩ := hW; go_simp) <;> with_reducible rfl)
  simp only [Act.put, List.getElem_toArray, List.getElem_cons_zero, List.getElem_cons_succ, List.setIfInBounds_toArray, List.set_cons_zero, List.set_cons_succ]
  refine wpAnyH_take (i := 3) (v := ?_) rfl (by kernel_rfl) (by kernel_rfl) (by kernel_rfl) (fun _ _ _ h => h) (Or.inl ⟨by rfl, ?_⟩) hH ?_
  rotate_left
  · ((intro W hW; obtain ⟨s0, s1, s2, s3, s4, s5, s6, s7, s8, s9, s10, s11, s12⟩ := hW; go_simp) <;> with_reducible rfl)
  simp only [Act.put, List.getElem_toArray, List.getElem_cons_zero, List.getElem_cons_succ, List.setIfInBounds_toArray, List.set_cons_zero, List.set_cons_succ]
  refine wpAnyH_take (i := 4) (v := ?_) rfl (by kernel_rfl) (by kernel_rfl) (by kernel_rfl) (fun _ _ _ h => h) (Or.inl ⟨by rfl, ?_⟩) hH ?_
  rotate_left
  · ((intro W hW; obtain ⟨s0, s1, s2, s3, s4, s5, s6, s7, s8, s9, s10, s11, s12⟩ := hW; go_simp) <;> with_reducible rfl)
  simp only [Act.put, List.getElem_toArray, List.getElem_cons_zero, List.getElem_cons_succ, List.setIfInBounds_toArray, List.set_cons_zero, List.set_cons_succ]
  refine wpAnyH_ready (rs := [2]) (by kernel_rfl) (by simp) ?_
  refine AllReadyH.cons (o := _) rfl (fun K hK => ?_) AllReadyH.nil
  simp only [List.getElem_toArray, List.getElem_cons_zero, List.getElem_cons_succ]
  go_simp
  with_reducible refine (K1.out _).mono ?_
  rintro e v11 ⟨rfl, b11⟩
  dsimp only
  have bel11 := bel.drew.trans (b11.mono bel.size)
  refine hK.out _ _ ⟨(b11.cell (p := ⟨_, 0, none⟩) za).trans hH.1, (b11.cell (p := ⟨_, 1, none⟩) za).trans hH.2.1, (b11.cell (p := ⟨_, 2, none⟩) za).trans hH.2.2.1, (b11.cell (p := ⟨_, 3, none⟩) za).trans hH.2.2.2.1, (b11.cell (p := ⟨_, 0, none⟩) zb).trans hH.2.2.2.2.1, (b11.cell (p := ⟨_, 1, none⟩) zb).trans hH.2.2.2.2.2.1, (b11.cell (p := ⟨_, 2, none⟩) zb).trans hH.2.2.2.2.2.2.1, (b11.cell (p := ⟨_, 3, none⟩) zb).trans hH.2.2.2.2.2.2.2.1, (b11.cell (p := ⟨_, 0, none⟩) zn).trans hH.2.2.2.2.2.2.2.2.1, (b11.cell (p := ⟨_, 1, none⟩) zn).trans hH.2.2.2.2.2.2.2.2.2.1, (b11.cell (p := ⟨_, 2, none⟩) zn).trans hH.2.2.2.2.2.2.2.2.2.2.1, (b11.cell (p := ⟨_, 3, none⟩) zn).trans hH.2.2.2.2.2.2.2.2.2.2.2.1, (b11.cell (p := ⟨_, 4, none⟩) zn).trans hH.2.2.2.2.2.2.2.2.2.2.2.2⟩ (fun hH11 => ?_)
  clear hK K
  replace za := Nat.lt_of_lt_of_le za b11.size
  replace zb := Nat.lt_of_lt_of_le zb b11.size
  replace zn := Nat.lt_of_lt_of_le zn b11.size
  refine wpAnyH_ready (rs := [5]) (by kernel_rfl) (by simp) ?_
  refine AllReadyH.cons (o := _) rfl (fun K hK => ?_) AllReadyH.nil
  simp only [List.getElem_toArray, List.getElem_cons_zero, List.getElem_cons_succ]
  go_simp
  with_reducible refine (K4.out _).mono ?_
  rintro e v12 ⟨rfl, b12⟩
  dsimp only
  have bel12 := bel11.trans (b12.mono bel11.size)
  refine hK.out _ _ ⟨(b12.cell (p := ⟨_, 0, none⟩) za).trans hH11.1, (b12.cell (p := ⟨_, 1, none⟩) za).trans hH11.2.1, (b12.cell (p := ⟨_, 2, none⟩) za).trans hH11.2.2.1, (b12.cell (p := ⟨_, 3, none⟩) za).trans hH11.2.2.2.1, (b12.cell (p := ⟨_, 0, none⟩) zb).trans hH11.2.2.2.2.1, (b12.cell (p := ⟨_, 1, none⟩) zb).trans hH11.2.2.2.2.2.1, (b12.cell (p := ⟨_, 2, none⟩) zb).trans hH11.2.2.2.2.2.2.1, (b12.cell (p := ⟨_, 3, none⟩) zb).trans hH11.2.2.2.2.2.2.2.1, (b12.cell (p := ⟨_, 0, none⟩) zn).trans hH11.2.2.2.2.2.2.2.2.1, (b12.cell (p := ⟨_, 1, none⟩) zn).trans hH11.2.2.2.2.2.2.2.2.2.1, (b12.cell (p := ⟨_, 2, none⟩) zn).trans hH11.2.2.2.2.2.2.2.2.2.2.1, (b12.cell (p := ⟨_, 3, none⟩) zn).trans hH11.2.2.2.2.2.2.2.2.2.2.2.1, (b12.cell (p := ⟨_, 4, none⟩) zn).trans hH11.2.2.2.2.2.2.2.2.2.2.2.2⟩ (fun hH12 => ?_)
  clear hK K
  replace za := Nat.lt_of_lt_of_le za b12.size
  replace zb := Nat.lt_of_lt_of_le zb b12.size
  replace zn := Nat.lt_of_lt_of_le zn b12.size
  refine wpAnyH_ready (rs := [6]) (by kernel_rfl) (by simp) ?_
  refine AllReadyH.cons (o := _) rfl (fun K hK => ?_) AllReadyH.nil
  simp only [List.getElem_toArray, List.getElem_cons_zero, List.getElem_cons_succ]
  go_simp
  with_reducible refine (J4.out _).mono ?_
  rintro e v13 ⟨rfl, b13⟩
  dsimp only
  have bel13 := bel12.trans (b13.mono bel12.size)
  refine hK.out _ _ ⟨(b13.cell (p := ⟨_, 0, none⟩) za).trans hH12.1, (b13.cell (p := ⟨_, 1, none⟩) za).trans hH12.2.1, (b13.cell (p := ⟨_, 2, none⟩) za).trans hH12.2.2.1, (b13.cell (p := ⟨_, 3, none⟩) za).trans hH12.2.2.2.1, (b13.cell (p := ⟨_, 0, none⟩) zb).trans hH12.2.2.2.2.1, (b13.cell (p := ⟨_, 1, none⟩) zb).trans hH12.2.2.2.2.2.1, (b13.cell (p := ⟨_, 2, none⟩) zb).trans hH12.2.2.2.2.2.2.1, (b13.cell (p := ⟨_, 3, none⟩) zb).trans hH12.2.2.2.2.2.2.2.1, (b13.cell (p := ⟨_, 0, none⟩) zn).trans hH12.2.2.2.2.2.2.2.2.1, (b13.cell (p := ⟨_, 1, none⟩) zn).trans hH12.2.2.2.2.2.2.2.2.2.1, (b13.cell (p := ⟨_, 2, none⟩) zn).trans hH12.2.2.2.2.2.2.2.2.2.2.1, (b13.cell (p := ⟨_, 3, none⟩) zn).trans hH12.2.2.2.2.2.2.2.2.2.2.2.1, (b13.cell (p := ⟨_, 4, none⟩) zn).trans hH12.2.2.2.2.2.2.2.2.2.2.2.2⟩ (fun hH13 => ?_)
  clear hK K
  replace za := Nat.lt_of_lt_of_le za b13.size
  replace zb := Nat.lt_of_lt_of_le zb b13.size
  replace zn := Nat.lt_of_lt_of_le zn b13.size
  refine wpAnyH_take (i := 7) (v := ?_) rfl (by kernel_rfl) (by kernel_rfl) (by kernel_rfl) (fun _ _ _ h => h) (Or.inl ⟨by rfl, ?_⟩) hH13 ?_
  rotate_left
  · ((intro W hW; obtain ⟨s0, s1, s2, s3, s4, s5, s6, s7, s8, s9, s10, s11, s12⟩ := hW; go_simp) <;> with_reducible rfl)
  simp only [Act.put, List.getElem_toArray, List.getElem_cons_zero, List.getElem_cons_succ, List.setIfInBounds_toArray, List.set_cons_zero, List.set_cons_succ]
  refine wpAnyH_take (i := 8) (v := ?_) rfl (by kernel_rfl) (by kernel_rfl) (by kernel_rfl) (fun _ _ _ h => h) (Or.inl ⟨by rfl, ?_⟩) hH13 ?_
  rotate_left
  · ((intro W hW; obtain ⟨s0, s1, s2, s3, s4, s5, s6, s7, s8, s9, s10, s11, s12⟩ := hW; go_simp) <;> with_reducible rfl)
  simp only [Act.put, List.getElem_toArray, List.getElem_cons_zero, List.getElem_cons_succ, List.setIfInBounds_toArray, List.set_cons_zero, List.set_cons_succ]
  refine wpAnyH_take (i := 9) (v := ?_) rfl (by kernel_rfl) (by kernel_rfl) (by kernel_rfl) (fun _ _ _ h => h) (Or.inl ⟨by rfl, ?_⟩) hH13 ?_
  rotate_left
  · ((intro W hW; obtain ⟨s0, s1, s2, s3, s4, s5, s6, s7, s8, s9, s10, s11, s12⟩ := hW; go_simp) <;> with_reducible rfl)
  simp only [Act.put, List.getElem_toArray, List.getElem_cons_zero, List.getElem_cons_succ, List.setIfInBounds_toArray, List.set_cons_zero, List.set_cons_succ]
  refine wpAnyH_take (i := 10) (v := ?_) rfl (by kernel_rfl) (by kernel_rfl) (by kernel_rfl) (fun _ _ _ h => h) (Or.inl ⟨by rfl, ?_⟩) hH13 ?_
  rotate_left
  · ((intro W hW; obtain ⟨s0, s1, s2, s3, s4, s5, s6, s7, s8, s9, s10, s11, s12⟩ := hW; go_simp) <;> with_reducible rfl)
  simp only [Act.put, List.getElem_toArray, List.getElem_cons_zero, List.getElem_cons_succ, List.setIfInBounds_toArray, List.set_cons_zero, List.set_cons_succ]
  refine wpAnyH_ready (rs := [11]) (by kernel_rfl) (by simp) ?_
  refine AllReadyH.cons (o := _) rfl (fun K hK => ?_) AllReadyH.nil
  simp only [List.getElem_toArray, List.getElem_cons_zero, List.getElem_cons_succ]
  go_simp
  with_reducible refine (K5.out _).mono ?_
  rintro e v14 ⟨rfl, b14⟩
  dsimp only
  have bel14 := bel13.trans (b14.mono bel13.size)
  refine hK.out _ _ ⟨(b14.cell (p := ⟨_, 0, none⟩) za).trans hH13.1, (b14.cell (p := ⟨_, 1, none⟩) za).trans hH13.2.1, (b14.cell (p := ⟨_, 2, none⟩) za).trans hH13.2.2.1, (b14.cell (p := ⟨_, 3, none⟩) za).trans hH13.2.2.2.1, (b14.cell (p := ⟨_, 0, none⟩) zb).trans hH13.2.2.2.2.1, (b14.cell (p := ⟨_, 1, none⟩) zb).trans hH13.2.2.2.2.2.1, (b14.cell (p := ⟨_, 2, none⟩) zb).trans hH13.2.2.2.2.2.2.1, (b14.cell (p := ⟨_, 3, none⟩) zb).trans hH13.2.2.2.2.2.2.2.1, (b14.cell (p := ⟨_, 0, none⟩) zn).trans hH13.2.2.2.2.2.2.2.2.1, (b14.cell (p := ⟨_, 1, none⟩) zn).trans hH13.2.2.2.2.2.2.2.2.2.1, (b14.cell (p := ⟨_, 2, none⟩) zn).trans hH13.2.2.2.2.2.2.2.2.2.2.1, (b14.cell (p := ⟨_, 3, none⟩) zn).trans hH13.2.2.2.2.2.2.2.2.2.2.2.1, (b14.cell (p := ⟨_, 4, none⟩) zn).trans hH13.2.2.2.2.2.2.2.2.2.2.2.2⟩ (fun hH14 => ?_)
  clear hK K
  replace za := Nat.lt_of_lt_of_le za b14.size
  replace zb := Nat.lt_of_lt_of_le zb b14.size
  replace zn := Nat.lt_of_lt_of_le zn b14.size
  refine wpAnyH_ready (rs := [12]) (by kernel_rfl) (by simp) ?_
  refine AllReadyH.cons (o := _) rfl (fun K hK => ?_) AllReadyH.nil
  simp only [List.getElem_toArray, List.getElem_cons_zero, List.getElem_cons_succ]
  go_simp
  with_reducible refine (J5.out _).mono ?_
  rintro e v15 ⟨rfl, b15⟩
  dsimp only
  have bel15 := bel14.trans (b15.mono bel14.size)
  refine hK.out _ _ ⟨(b15.cell (p := ⟨_, 0, none⟩) za).trans hH14.1, (b15.cell (p := ⟨_, 1, none⟩) za).trans hH14.2.1, (b15.cell (p := ⟨_, 2, none⟩) za).trans hH14.2.2.1, (b15.cell (p := ⟨_, 3, none⟩) za).trans hH14.2.2.2.1, (b15.cell (p := ⟨_, 0, none⟩) zb).trans hH14.2.2.2.2.1, (b15.cell (p := ⟨_, 1, none⟩) zb).trans hH14.2.2.2.2.2.1, (b15.cell (p := ⟨_, 2, none⟩) zb).trans hH14.2.2.2.2.2.2.1, (b15.cell (p := ⟨_, 3, none⟩) zb).trans hH14.2.2.2.2.2.2.2.1, (b15.cell (p := ⟨_, 0, none⟩) zn).trans hH14.2.2.2.2.2.2.2.2.1, (b15.cell (p := ⟨_, 1, none⟩) zn).trans hH14.2.2.2.2.2.2.2.2.2.1, (b15.cell (p := ⟨_, 2, none⟩) zn).trans hH14.2.2.2.2.2.2.2.2.2.2.1, (b15.cell (p := ⟨_, 3, none⟩) zn).trans hH14.2.2.2.2.2.2.2.2.2.2.2.1, (b15.cell (p := ⟨_, 4, none⟩) zn).trans hH14.2.2.2.2.2.2.2.2.2.2.2.2⟩ (fun hH15 => ?_)
  clear hK K
  replace za := Nat.lt_of_lt_of_le za b15.size
  replace zb := Nat.lt_of_lt_of_le zb b15.size
  replace zn := Nat.lt_of_lt_of_le zn b15.size
  refine wpAnyH_take (i := 13) (v := ?_) rfl (by kernel_rfl) (by kernel_rfl) (by kernel_rfl) (fun _ _ _ h => h) (Or.inl ⟨by rfl, ?_⟩) hH15 ?_
  rotate_left
  · ((intro W hW; obtain ⟨s0, s1, s2, s3, s4, s5, s6, s7, s8, s9, s10, s11, s12⟩ := hW; go_simp) <;> with_reducible rfl)
  simp only [Act.put, List.getElem_toArray, List.getElem_cons_zero, List.getElem_cons_succ, List.setIfInBounds_toArray, List.set_cons_zero, List.set_cons_succ]
  refine wpAnyH_take (i := 14) (v := ?_) rfl (by kernel_rfl) (by kernel_rfl) (by kernel_rfl) (fun _ _ _ h => h) (Or.inl ⟨by rfl, ?_⟩) hH15 ?_
  rotate_left
  · ((intro W hW; obtain ⟨s0, s1, s2, s3, s4, s5, s6, s7, s8, s9, s10, s11, s12⟩ := hW; go_simp) <;> with_reducible rfl)
  simp only [Act.put, List.getElem_toArray, List.getElem_cons_zero, List.getElem_cons_succ, List.setIfInBounds_toArray, List.set_cons_zero, List.set_cons_succ]
  refine wpAnyH_take (i := 15) (v := ?_) rfl (by kernel_rfl) (by kernel_rfl) (by kernel_rfl) (fun _ _ _ h => h) (Or.inl ⟨by rfl, ?_⟩) hH15 ?_
  rotate_left
  · ((intro W hW; obtain ⟨s0, s1, s2, s3, s4, s5, s6, s7, s8, s9, s10, s11, s12⟩ := hW; go_simp) <;> with_reducible rfl)
  simp only [Act.put, List.getElem_toArray, List.getElem_cons_zero, List.getElem_cons_succ, List.setIfInBounds_toArray, List.set_cons_zero, List.set_cons_succ]
  refine wpAnyH_take (i := 16) (v := ?_) rfl (by kernel_rfl) (by kernel_rfl) (by kernel_rfl) (fun _ _ _ h => h) (Or.inl ⟨by rfl, ?_⟩) hH15 ?_
  rotate_left
  · ((intro W hW; obtain ⟨s0, s1, s2, s3, s4, s5, s6, s7, s8, s9, s10, s11, s12⟩ := hW; go_simp) <;> with_reducible rfl)
  simp only [Act.put, List.getElem_toArray, List.getElem_cons_zero, List.getElem_cons_succ, List.setIfInBounds_toArray, List.set_cons_zero, List.set_cons_succ]
  refine wpAnyH_take (i := 17) (v := ?_) rfl (by kernel_rfl) (by kernel_rfl) (by kernel_rfl) (fun _ _ _ h => h) (Or.inl ⟨by rfl, ?_⟩) hH15 ?_
  rotate_left
  · ((intro W hW; obtain ⟨s0, s1, s2, s3, s4, s5, s6, s7, s8, s9, s10, s11, s12⟩ := hW; go_simp) <;> with_reducible rfl)
  simp only [Act.put, List.getElem_toArray, List.getElem_cons_zero, List.getElem_cons_succ, List.setIfInBounds_toArray, List.set_cons_zero, List.set_cons_succ]
  refine wpAnyH_take (i := 18) (v := ?_) rfl (by kernel_rfl) (by kernel_rfl) (by kernel_rfl) (fun _ _ _ h => h) (Or.inl ⟨by rfl, ?_⟩) hH15 ?_
  rotate_left
  · ((intro W hW; obtain ⟨s0, s1, s2, s3, s4, s5, s6, s7, s8, s9, s10, s11, s12⟩ := hW; go_simp) <;> with_reducible rfl)
  simp only [Act.put, List.getElem_toArray, List.getElem_cons_zero, List.getElem_cons_succ, List.setIfInBounds_toArray, List.set_cons_zero, List.set_cons_succ]
  refine wpAnyH_ready (rs := [19]) (by kernel_rfl) (by simp) ?_
  refine AllReadyH.cons (o := _) rfl (fun K hK => ?_) AllReadyH.nil
  simp only [List.getElem_toArray, List.getElem_cons_zero, List.getElem_cons_succ]
  go_simp
  with_reducible refine (K2.out _).mono ?_
  rintro e v16 ⟨rfl, b16⟩
  dsimp only
  have bel16 := bel15.trans (b16.mono bel15.size)
  refine hK.out _ _ ⟨(b16.cell (p := ⟨_, 0, none⟩) za).trans hH15.1, (b16.cell (p := ⟨_, 1, none⟩) za).trans hH15.2.1, (b16.cell (p := ⟨_, 2, none⟩) za).trans hH15.2.2.1, (b16.cell (p := ⟨_, 3, none⟩) za).trans hH15.2.2.2.1, (b16.cell (p := ⟨_, 0, none⟩) zb).trans hH15.2.2.2.2.1, (b16.cell (p := ⟨_, 1, none⟩) zb).trans hH15.2.2.2.2.2.1, (b16.cell (p := ⟨_, 2, none⟩) zb).trans hH15.2.2.2.2.2.2.1, (b16.cell (p := ⟨_, 3, none⟩) zb).trans hH15.2.2.2.2.2.2.2.1, (b16.cell (p := ⟨_, 0, none⟩) zn).trans hH15.2.2.2.2.2.2.2.2.1, (b16.cell (p := ⟨_, 1, none⟩) zn).trans hH15.2.2.2.2.2.2.2.2.2.1, (b16.cell (p := ⟨_, 2, none⟩) zn).trans hH15.2.2.2.2.2.2.2.2.2.2.1, (b16.cell (p := ⟨_, 3, none⟩) zn).trans hH15.2.2.2.2.2.2.2.2.2.2.2.1, (b16.cell (p := ⟨_, 4, none⟩) zn).trans hH15.2.2.2.2.2.2.2.2.2.2.2.2⟩ (fun hH16 => ?_)
  clear hK K
  replace za := Nat.lt_of_lt_of_le za b16.size
  replace zb := Nat.lt_of_lt_of_le zb b16.size
  replace zn := Nat.lt_of_lt_of_le zn b16.size
  refine wpAnyH_take (i := 20) (v := ?_) rfl (by kernel_rfl) (by kernel_rfl) (by kernel_rfl) (fun _ _ _ h => h) (Or.inl ⟨by rfl, ?_⟩) hH16 ?_
  rotate_left
  · ((intro W hW; obtain ⟨s0, s1, s2, s3, s4, s5, s6, s7, s8, s9, s10, s11, s12⟩ := hW; go_simp) <;> with_reducible rfl)
  simp only [Act.put, List.getElem_toArray, List.getElem_cons_zero, List.getElem_cons_succ, List.setIfInBounds_toArray, List.set_cons_zero, List.set_cons_succ]
  refine wpAnyH_take (i := 21) (v := ?_) rfl (by kernel_rfl) (by kernel_rfl) (by kernel_rfl) (fun _ _ _ h => h) (Or.inl ⟨by rfl, ?_⟩) hH16 ?_
  rotate_left
  · ((intro W hW; obtain ⟨s0, s1, s2, s3, s4, s5, s6, s7, s8, s9, s10, s11, s12⟩ := hW; go_simp) <;> with_reducible rfl)
  simp only [Act.put, List.getElem_toArray, List.getElem_cons_zero, List.getElem_cons_succ, List.setIfInBounds_toArray, List.set_cons_zero, List.set_cons_succ]
  refine wpAnyH_take (i := 22) (v := ?_) rfl (by kernel_rfl) (by kernel_rfl) (by kernel_rfl) (fun _ _ _ h => h) (Or.inl ⟨by rfl, ?_⟩) hH16 ?_
  rotate_left
  · ((intro W hW; obtain ⟨s0, s1, s2, s3, s4, s5, s6, s7, s8, s9, s10, s11, s12⟩ := hW; go_simp) <;> with_reducible rfl)
  simp only [Act.put, List.getElem_toArray, List.getElem_cons_zero, List.getElem_cons_succ, List.setIfInBounds_toArray, List.set_cons_zero, List.set_cons_succ]
  refine wpAnyH_take (i := 23) (v := ?_) rfl (by kernel_rfl) (by kernel_rfl) (by kernel_rfl) (fun _ _ _ h => h) (Or.inl ⟨by rfl, ?_⟩) hH16 ?_
  rotate_left
  · ((intro W hW; obtain ⟨s0, s1, s2, s3, s4, s5, s6, s7, s8, s9, s10, s11, s12⟩ := hW; go_simp) <;> with_reducible rfl)
  simp only [Act.put, List.getElem_toArray, List.getElem_cons_zero, List.getElem_cons_succ, List.setIfInBounds_toArray, List.set_cons_zero, List.set_cons_succ]
  refine wpAnyH_ready (rs := [24]) (by kernel_rfl) (by simp) ?_
  refine AllReadyH.cons (o := _) rfl (fun K hK => ?_) AllReadyH.nil
  simp only [List.getElem_toArray, List.getElem_cons_zero, List.getElem_cons_succ]
  go_simp
  with_reducible refine (K4.out _).mono ?_
  rintro e v17 ⟨rfl, b17⟩
  dsimp only
  have bel17 := bel16.trans (b17.mono bel16.size)
  refine hK.out _ _ ⟨(b17.cell (p := ⟨_, 0, none⟩) za).trans hH16.1, (b17.cell (p := ⟨_, 1, none⟩) za).trans hH16.2.1, (b17.cell (p := ⟨_, 2, none⟩) za).trans hH16.2.2.1, (b17.cell (p := ⟨_, 3, none⟩) za).trans hH16.2.2.2.1, (b17.cell (p := ⟨_, 0, none⟩) zb).trans hH16.2.2.2.2.1, (b17.cell (p := ⟨_, 1, none⟩) zb).trans hH16.2.2.2.2.2.1, (b17.cell (p := ⟨_, 2, none⟩) zb).trans hH16.2.2.2.2.2.2.1, (b17.cell (p := ⟨_, 3, none⟩) zb).trans hH16.2.2.2.2.2.2.2.1, (b17.cell (p := ⟨_, 0, none⟩) zn).trans hH16.2.2.2.2.2.2.2.2.1, (b17.cell (p := ⟨_, 1, none⟩) zn).trans hH16.2.2.2.2.2.2.2.2.2.1, (b17.cell (p := ⟨_, 2, none⟩) zn).trans hH16.2.2.2.2.2.2.2.2.2.2.1, (b17.cell (p := ⟨_, 3, none⟩) zn).trans hH16.2.2.2.2.2.2.2.2.2.2.2.1, (b17.cell (p := ⟨_, 4, none⟩) zn).trans hH16.2.2.2.2.2.2.2.2.2.2.2.2⟩ (fun hH17 => ?_)
  clear hK K
  replace za := Nat.lt_of_lt_of_le za b17.size
  replace zb := Nat.lt_of_lt_of_le zb b17.size
  replace zn := Nat.lt_of_lt_of_le zn b17.size
  refine wpAnyH_ready (rs := [25]) (by kernel_rfl) (by simp) ?_
  refine AllReadyH.cons (o := _) rfl (fun K hK => ?_) AllReadyH.nil
  simp only [List.getElem_toArray, List.getElem_cons_zero, List.getElem_cons_succ]
  go_simp
  with_reducible refine (K6.out _).mono ?_
  rintro e v18 ⟨rfl, b18⟩
  dsimp only
  have bel18 := bel17.trans (b18.mono bel17.size)
  refine hK.out _ _ ⟨(b18.cell (p := ⟨_, 0, none⟩) za).trans hH17.1, (b18.cell (p := ⟨_, 1, none⟩) za).trans hH17.2.1, (b18.cell (p := ⟨_, 2, none⟩) za).trans hH17.2.2.1, (b18.cell (p := ⟨_, 3, none⟩) za).trans hH17.2.2.2.1, (b18.cell (p := ⟨_, 0, none⟩) zb).trans hH17.2.2.2.2.1, (b18.cell (p := ⟨_, 1, none⟩) zb).trans hH17.2.2.2.2.2.1, (b18.cell (p := ⟨_, 2, none⟩) zb).trans hH17.2.2.2.2.2.2.1, (b18.cell (p := ⟨_, 3, none⟩) zb).trans hH17.2.2.2.2.2.2.2.1, (b18.cell (p := ⟨_, 0, none⟩) zn).trans hH17.2.2.2.2.2.2.2.2.1, (b18.cell (p := ⟨_, 1, none⟩) zn).trans hH17.2.2.2.2.2.2.2.2.2.1, (b18.cell (p := ⟨_, 2, none⟩) zn).trans hH17.2.2.2.2.2.2.2.2.2.2.1, (b18.cell (p := ⟨_, 3, none⟩) zn).trans hH17.2.2.2.2.2.2.2.2.2.2.2.1, (b18.cell (p := ⟨_, 4, none⟩) zn).trans hH17.2.2.2.2.2.2.2.2.2.2.2.2⟩ (fun hH18 => ?_)
  clear hK K
  replace za := Nat.lt_of_lt_of_le za b18.size
  replace zb := Nat.lt_of_lt_of_le zb b18.size
  replace zn := Nat.lt_of_lt_of_le zn b18.size
  refine wpAnyH_take (i := 26) (v := ?_) rfl (by kernel_rfl) (by kernel_rfl) (by kernel_rfl) (fun _ _ _ h => h) (Or.inl ⟨by rfl, ?_⟩) hH18 ?_
  rotate_left
  · ((intro W hW; obtain ⟨s0, s1, s2, s3, s4, s5, s6, s7, s8, s9, s10, s11, s12⟩ := hW; go_simp) <;> with_reducible rfl)
  simp only [Act.put, List.getElem_toArray, List.getElem_cons_zero, List.getElem_cons_succ, List.setIfInBounds_toArray, List.set_cons_zero, List.set_cons_succ]
  refine wpAnyH_take (i := 27) (v := ?_) rfl (by kernel_rfl) (by kernel_rfl) (by kernel_rfl) (fun _ _ _ h => h) (Or.inl ⟨by rfl, ?_⟩) hH18 ?_
  rotate_left
  · ((intro W hW; obtain ⟨s0, s1, s2, s3, s4, s5, s6, s7, s8, s9, s10, s11, s12⟩ := hW; go_simp) <;> with_reducible rfl)
  simp only [Act.put, List.getElem_toArray, List.getElem_cons_zero, List.getElem_cons_succ, List.setIfInBounds_toArray, List.set_cons_zero, List.set_cons_succ]
  refine wpAnyH_take (i := 28) (v := ?_) rfl (by kernel_rfl) (by kernel_rfl) (by kernel_rfl) (fun _ _ _ h => h) (Or.inl ⟨by rfl, ?_⟩) hH18 ?_
  rotate_left
  · ((intro W hW; obtain ⟨s0, s1, s2, s3, s4, s5, s6, s7, s8, s9, s10, s11, s12⟩ := hW; go_simp) <;> with_reducible rfl)
  simp only [Act.put, List.getElem_toArray, List.getElem_cons_zero, List.getElem_cons_succ, List.setIfInBounds_toArray, List.set_cons_zero, List.set_cons_succ]
  refine wpAnyH_take (i := 29) (v := ?_) rfl (by kernel_rfl) (by kernel_rfl) (by kernel_rfl) (fun _ _ _ h => h) (Or.inl ⟨by rfl, ?_⟩) hH18 ?_
  rotate_left
  · ((intro W hW; obtain ⟨s0, s1, s2, s3, s4, s5, s6, s7, s8, s9, s10, s11, s12⟩ := hW; go_simp) <;> with_reducible rfl)
  simp only [Act.put, List.getElem_toArray, List.getElem_cons_zero, List.getElem_cons_succ, List.setIfInBounds_toArray, List.set_cons_zero, List.set_cons_succ]
  refine wpAnyH_ready (rs := [30]) (by kernel_rfl) (by simp) ?_
  refine AllReadyH.cons (o := _) rfl (fun K hK => ?_) AllReadyH.nil
  simp only [List.getElem_toArray, List.getElem_cons_zero, List.getElem_cons_succ]
  go_simp
  with_reducible refine (K5.out _).mono ?_
  rintro e v19 ⟨rfl, b19⟩
  dsimp only
  have bel19 := bel18.trans (b19.mono bel18.size)
  refine hK.out _ _ ⟨(b19.cell (p := ⟨_, 0, none⟩) za).trans hH18.1, (b19.cell (p := ⟨_, 1, none⟩) za).trans hH18.2.1, (b19.cell (p := ⟨_, 2, none⟩) za).trans hH18.2.2.1, (b19.cell (p := ⟨_, 3, none⟩) za).trans hH18.2.2.2.1, (b19.cell (p := ⟨_, 0, none⟩) zb).trans hH18.2.2.2.2.1, (b19.cell (p := ⟨_, 1, none⟩) zb).trans hH18.2.2.2.2.2.1, (b19.cell (p := ⟨_, 2, none⟩) zb).trans hH18.2.2.2.2.2.2.1, (b19.cell (p := ⟨_, 3, none⟩) zb).trans hH18.2.2.2.2.2.2.2.1, (b19.cell (p := ⟨_, 0, none⟩) zn).trans hH18.2.2.2.2.2.2.2.2.1, (b19.cell (p := ⟨_, 1, none⟩) zn).trans hH18.2.2.2.2.2.2.2.2.2.1, (b19.cell (p := ⟨_, 2, none⟩) zn).trans hH18.2.2.2.2.2.2.2.2.2.2.1, (b19.cell (p := ⟨_, 3, none⟩) zn).trans hH18.2.2.2.2.2.2.2.2.2.2.2.1, (b19.cell (p := ⟨_, 4, none⟩) zn).trans hH18.2.2.2.2.2.2.2.2.2.2.2.2⟩ (fun hH19 => ?_)
  clear hK K
  replace za := Nat.lt_of_lt_of_le za b19.size
  replace zb := Nat.lt_of_lt_of_le zb b19.size
  replace zn := Nat.lt_of_lt_of_le zn b19.size
  refine wpAnyH_ready (rs := [31]) (by kernel_rfl) (by simp) ?_
  refine AllReadyH.cons (o := _) rfl (fun K hK => ?_) AllReadyH.nil
  simp only [List.getElem_toArray, List.getElem_cons_zero, List.getElem_cons_succ]
  go_simp
  with_reducible refine (K7.out _).mono ?_
  rintro e v20 ⟨rfl, b20⟩
  dsimp only
  have bel20 := bel19.trans (b20.mono bel19.size)
  refine hK.out _ _ ⟨(b20.cell (p := ⟨_, 0, none⟩) za).trans hH19.1, (b20.cell (p := ⟨_, 1, none⟩) za).trans hH19.2.1, (b20.cell (p := ⟨_, 2, none⟩) za).trans hH19.2.2.1, (b20.cell (p := ⟨_, 3, none⟩) za).trans hH19.2.2.2.1, (b20.cell (p := ⟨_, 0, none⟩) zb).trans hH19.2.2.2.2.1, (b20.cell (p := ⟨_, 1, none⟩) zb).trans hH19.2.2.2.2.2.1, (b20.cell (p := ⟨_, 2, none⟩) zb).trans hH19.2.2.2.2.2.2.1, (b20.cell (p := ⟨_, 3, none⟩) zb).trans hH19.2.2.2.2.2.2.2.1, (b20.cell (p := ⟨_, 0, none⟩) zn).trans hH19.2.2.2.2.2.2.2.2.1, (b20.cell (p := ⟨_, 1, none⟩) zn).trans hH19.2.2.2.2.2.2.2.2.2.1, (b20.cell (p := ⟨_, 2, none⟩) zn).trans hH19.2.2.2.2.2.2.2.2.2.2.1, (b20.cell (p := ⟨_, 3, none⟩) zn).trans hH19.2.2.2.2.2.2.2.2.2.2.2.1, (b20.cell (p := ⟨_, 4, none⟩) zn).trans hH19.2.2.2.2.2.2.2.2.2.2.2.2⟩ (fun hH20 => ?_)
  clear hK K
  replace za := Nat.lt_of_lt_of_le za b20.size
  replace zb := Nat.lt_of_lt_of_le zb b20.size
  replace zn := Nat.lt_of_lt_of_le zn b20.size
  refine wpAnyH_take (i := 32) (v := ?_) rfl (by kernel_rfl) (by kernel_rfl) (by kernel_rfl) (fun _ _ _ h => h) (Or.inl ⟨by rfl, ?_⟩) hH20 ?_
  rotate_left
  · ((intro W hW; obtain ⟨s0, s1, s2, s3, s4, s5, s6, s7, s8, s9, s10, s11, s12⟩ := hW; go_simp) <;> with_reducible rfl)
  simp only [Act.put, List.getElem_toArray, List.getElem_cons_zero, List.getElem_cons_succ, List.setIfInBounds_toArray, List.set_cons_zero, List.set_cons_succ]
  refine wpAnyH_take (i := 33) (v := ?_) rfl (by kernel_rfl) (by kernel_rfl) (by kernel_rfl) (fun _ _ _ h => h) (Or.inl ⟨by rfl, ?_⟩) hH20 ?_
  rotate_left
  · ((intro W hW; obtain ⟨s0, s1, s2, s3, s4, s5, s6, s7, s8, s9, s10, s11, s12⟩ := hW; go_simp) <;> with_reducible rfl)
  simp only [Act.put, List.getElem_toArray, List.getElem_cons_zero, List.getElem_cons_succ, List.setIfInBounds_toArray, List.set_cons_zero, List.set_cons_succ]
  refine wpAnyH_done (by kernel_rfl) ?_ _
  go_wp2
  go_ret
  exact ⟨rfl, bel20⟩

theorem addrWithin_walk (a b c d : UInt8) (bt : Int) (p1 p2 p3 p4 : UInt8) (w : World) (hT : Tab w) : Calls Tryd.prog 7 #[.agg #[.int .u8 (a.toNat : Int), .int .u8 (b.toNat : Int), .int .u8 (c.toNat : Int), .int .u8 (d.toNat : Int)], .int .i64 bt, .agg #[.int .u8 (p1.toNat : Int), .int .u8 (p2.toNat : Int), .int .u8 (p3.toNat : Int), .int .u8 (p4.toNat : Int)]] w fun e w' => e = .returned (.bool true) ∧ Below w.heap.size w w' := by
  by_cases h0 : be [p1, p2, p3, p4] < firstN (be [a, b, c, d]) (clamp bt)
  · exact addrWithin_lo a b c d bt p1 p2 p3 p4 w hT h0
  by_cases h1 : lastN (be [a, b, c, d]) (clamp bt) < be [p1, p2, p3, p4]
  · exact addrWithin_hi a b c d bt p1 p2 p3 p4 w hT ⟨by omega, h1⟩
  · exact addrWithin_in a b c d bt p1 p2 p3 p4 w hT ⟨by omega, by omega⟩
end Go.Proofs.YtppjnhjglhlpkaaDoor
