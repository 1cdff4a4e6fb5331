/- New. -/
import Derived.Test.YthcjepafcemmnaaPla
namespace Go.Proofs.Ythcjepafcemmnaa
open Go.RowKit

def adOf (n : Nat) : Ad4 := ⟨byteOf ((n : Int) / 16777216), byteOf ((n : Int) / 65536 % 256), byteOf ((n : Int) / 256 % 256), byteOf ((n : Int) % 256)⟩
theorem adOf_num {n : Nat} (h : n < 4294967296) : (adOf n).num = n := by
  have e : ∀ p q r s : UInt8, be [p, q, r, s] = ((p.toNat * 256 + q.toNat) * 256 + r.toNat) * 256 + s.toNat := fun p q r s => by simp [be]
  unfold Ad4.num adOf
  rw [e]
  have h1 := byteOf_val ((n : Int) / 16777216); have h2 := byteOf_val ((n : Int) / 65536 % 256); have h3 := byteOf_val ((n : Int) / 256 % 256); have h4 := byteOf_val ((n : Int) % 256)
  simp only
  omega
theorem aof_ad (n : Nat) (w : World) (hn : n < 4294967296) : Calls Try.prog 24 #[.int .u32 (n : Int)] w fun e w' => e = .returned (.agg #[.int .u8 ((adOf n).a.toNat : Int), .int .u8 ((adOf n).b.toNat : Int), .int .u8 ((adOf n).c.toNat : Int), .int .u8 ((adOf n).d.toNat : Int)]) ∧ Below w.heap.size w w' := by
  refine (aof_any n w hn).mono ?_
  rintro e w' ⟨rfl, bel⟩
  refine ⟨?_, bel⟩
  have h1 := byteOf_val ((n : Int) / 16777216); have h2 := byteOf_val ((n : Int) / 65536 % 256); have h3 := byteOf_val ((n : Int) / 256 % 256); have h4 := byteOf_val ((n : Int) % 256)
  have e1 : (n : Int) / 16777216 = ((adOf n).a.toNat : Int) := by show _ = ((byteOf _).toNat : Int); rw [h1]; omega
  have e2 : (n : Int) / 65536 % 256 = ((adOf n).b.toNat : Int) := by show _ = ((byteOf _).toNat : Int); rw [h2]; omega
  have e3 : (n : Int) / 256 % 256 = ((adOf n).c.toNat : Int) := by show _ = ((byteOf _).toNat : Int); rw [h3]; omega
  have e4 : (n : Int) % 256 = ((adOf n).d.toNat : Int) := by show _ = ((byteOf _).toNat : Int); rw [h4]; omega
  rw [e1, e2, e3, e4]
theorem num_is {x : Ad4} {n : Nat} (w : World) (h : x.num = n) : Calls Try.prog 21 #[.agg #[.int .u8 (x.a.toNat : Int), .int .u8 (x.b.toNat : Int), .int .u8 (x.c.toNat : Int), .int .u8 (x.d.toNat : Int)]] w fun e w' => e = .returned (.int .u32 (n : Int)) ∧ Below w.heap.size w w' := h ▸ num_any x w
/-- The addresses from low on are added, so many. -/
def newL (l : List Sd) (low : Nat) : Nat → List Sd
  | 0 => l
  | k + 1 => addL (newL l low k) (adOf (low + k))
theorem addL_len (l : List Sd) (a : Ad4) : (addL l a).length ≤ l.length + 1 := by
  unfold addL
  split
  · omega
  · rw [sins_len]; exact Nat.le_refl _
theorem newL_len (l : List Sd) (low k : Nat) : (newL l low k).length ≤ l.length + k := by
  induction k with
  | zero => exact Nat.le_refl _
  | succ k ih => have := addL_len (newL l low k) (adOf (low + k)); show (addL _ _).length ≤ _; omega
theorem makemap_n {o : Oper} {a : Act} {w : World} {K : Act → World → Prop} {Q : Exit → Act → World → Prop} (T : TypeId) (ho : o.op = .makeMap T none)
    (hK : ∀ g w', w.heap.size ≤ g → Hm w.heap.size g w' [] → Below w.heap.size w w' → K (a.put o.dst (.map (some g))) w') : Oper.wp Try.prog o a w K Q := by
  unfold Oper.wp execOp
  simp only [ho, Option.map_none, run_makeMap, Sem.run_bind, Sem.run_pure, Result.andThen_ok]
  exact hK _ _ (Nat.le_refl _) (Hm.made w) ((Below.refl _ _).alloc (Nat.le_refl _) _)
theorem wpList_makemap_n {ops : Array Oper} {rest : List Oper} {o : Oper} {a : Act} {w : World} {Q : Exit → Act → World → Prop} (hgd : o.guard = none) (T : TypeId) (ho : o.op = .makeMap T none)
    (hK : ∀ g w', w.heap.size ≤ g → Hm w.heap.size g w' [] → Below w.heap.size w w' → wpList Try.prog ops Q rest (a.put o.dst (.map (some g))) w') : wpList Try.prog ops Q (o :: rest) a w :=
  wpList_plain hgd fun _ hK' => makemap_n T ho fun g w' h1 h2 h3 => hK' _ _ (hK g w' h1 h2 h3)
theorem slotF_ok {fl : List Le} (h : (fl.map (fun e => e.ad.num)).Pairwise (fun a b => a < b)) (hl : fl.length ≤ 1000) : St.ok ⟨0, fl.map Le.pr, fl.map slotF⟩ := by
  refine ⟨slotF_srt h, Int.le_refl _, by show (0 : Int) ≤ 1099511627776; decide, by show (fl.map slotF).length ≤ 1000; rw [List.length_map]; exact hl, fun p hp => ?_⟩
  obtain ⟨e, he, rfl⟩ := List.mem_map.1 hp
  have hm : slotF e ∈ fl.map slotF := List.mem_map.2 ⟨e, he, rfl⟩
  obtain ⟨j, hj⟩ := List.getElem?_of_mem hm
  exact ((slotF_srt h).found hj rfl).2
set_option linter.unusedVariables false in
set_option linter.unusedSimpArgs false in
set_option maxRecDepth 100000 in
set_option maxHeartbeats 16000000 in
theorem pnew_less {x y : Ad4} {A : Option Addr} {n c : Nat} (w : World) (h1 : y.num < x.num) : Calls Try.prog 10 #[.agg #[.int .u8 (x.a.toNat : Int), .int .u8 (x.b.toNat : Int), .int .u8 (x.c.toNat : Int), .int .u8 (x.d.toNat : Int)], .agg #[.int .u8 (y.a.toNat : Int), .int .u8 (y.b.toNat : Int), .int .u8 (y.c.toNat : Int), .int .u8 (y.d.toNat : Int)], .slice A n c] w fun e w' => e = .returned (.tuple #[.pointer none, .int .i64 1]) ∧ Below w.heap.size w w' := by
  obtain ⟨xn, hxn⟩ : ∃ n, x.num = n := ⟨_, rfl⟩
  obtain ⟨yn, hyn⟩ : ∃ n, y.num = n := ⟨_, rfl⟩
  have HXN := Lib.hid hxn
  have HYN := Lib.hid hyn
  have HX2 := Lib.hid (x.lt)
  have HY2 := Lib.hid (y.lt)
  rw [HXN.out] at HX2
  rw [HYN.out] at HY2
  have x0 : (0 : Int) ≤ xn := by omega
  have y0 : (0 : Int) ≤ yn := by omega
  rw [hxn, hyn] at h1
  clear hxn hyn
  have bel := Below.refl w.heap.size w
  go_enter Try.func10, Try.ntmps10
  go_wp2_with (first | ((with_reducible show wpList _ _ _ (⟨some 3, _, _, _, _, _⟩ :: _) _ _); refine wpList_box_n rfl 28 (.tmp 0) rfl #[.int .u8 (x.a.toNat : Int), .int .u8 (x.b.toNat : Int), .int .u8 (x.c.toNat : Int), .int .u8 (x.d.toNat : Int)] rfl ?_; intro g3 w1 ge lt hh bb; have oxB := Nat.le_trans bel.size ge; replace bel := bel.trans (bb.mono bel.size); have hxB := hh; clear hh lt ge bb) | ((with_reducible show wpList _ _ _ (⟨some 4, _, _, _, _, _⟩ :: _) _ _); refine wpList_box_n rfl 28 (.tmp 1) rfl #[.int .u8 (y.a.toNat : Int), .int .u8 (y.b.toNat : Int), .int .u8 (y.c.toNat : Int), .int .u8 (y.d.toNat : Int)] rfl ?_; intro g4 w2 ge lt hh bb; have d_xB_yB := ne_new (hlt hxB) ge; have oyB := Nat.le_trans bel.size ge; replace hxB := blk_u hxB bb; replace bel := bel.trans (bb.mono bel.size); have hyB := hh; clear hh lt ge bb))
  replace bel := bel.drew
  replace hxB : w2.drew.heap[g3]? = _ := hxB
  replace hyB : w2.drew.heap[g4]? = _ := hyB
  refine wp_region_held_drew (S := fun W => W.heap[g3]? = some (.cells #[.int .u8 (x.a.toNat : Int), .int .u8 (x.b.toNat : Int), .int .u8 (x.c.toNat : Int), .int .u8 (x.d.toNat : Int)] 28 (0, 0)) ∧ W.heap[g4]? = some (.cells #[.int .u8 (y.a.toNat : Int), .int .u8 (y.b.toNat : Int), .int .u8 (y.c.toNat : Int), .int .u8 (y.d.toNat : Int)] 28 (0, 0))) (by kernel_rfl) ⟨hxB, hyB⟩ (fun hH => ?_)
  generalize w2.drew = w3 at bel hxB hyB hH ⊢
  refine wpAnyH_take (i := 0) (v := .agg #[.int .u8 (x.a.toNat : Int), .int .u8 (x.b.toNat : Int), .int .u8 (x.c.toNat : Int), .int .u8 (x.d.toNat : Int)]) rfl (by kernel_rfl) (by kernel_rfl) (by kernel_rfl) (fun _ _ _ h => h) (yieldsIf_load_part (by kernel_rfl) 28 _ rfl g3 0 4 rfl _ 28 (0, 0) (fun W hW => hW.1) _ rfl _ Try.underlying28 rfl (by kernel_rfl)) hH ?_
  simp only [Act.put, List.getElem_toArray, List.getElem_cons_zero, List.setIfInBounds_toArray, List.set_cons_zero, List.set_cons_succ]
  refine wpAnyH_take (i := 2) (v := .agg #[.int .u8 (y.a.toNat : Int), .int .u8 (y.b.toNat : Int), .int .u8 (y.c.toNat : Int), .int .u8 (y.d.toNat : Int)]) rfl (by kernel_rfl) (by kernel_rfl) (by kernel_rfl) (fun _ _ _ h => h) (yieldsIf_load_part (by kernel_rfl) 28 _ rfl g4 0 4 rfl _ 28 (0, 0) (fun W hW => hW.2) _ rfl _ Try.underlying28 rfl (by kernel_rfl)) hH ?_
  simp only [Act.put, List.getElem_toArray, List.getElem_cons_zero, List.getElem_cons_succ, List.setIfInBounds_toArray, List.set_cons_zero, List.set_cons_succ]
  refine wpAnyH_ready (rs := [1]) (by kernel_rfl) (by simp) ?_
  refine AllReadyH.cons (o := _) rfl (fun K hK => ?_) AllReadyH.nil
  simp only [List.getElem_toArray, List.getElem_cons_zero, List.getElem_cons_succ]
  go_simp
  with_reducible refine (num_is _ HXN.out).mono ?_
  rintro e w4 ⟨rfl, b4⟩
  dsimp only
  replace hxB := blk_u hxB b4
  replace hyB := blk_u hyB b4
  replace bel := bel.trans (b4.mono bel.size)
  clear b4
  refine hK.out _ _ ⟨hxB, hyB⟩ (fun hH5 => ?_)
  clear hK K
  refine wpAnyH_ready (rs := [3]) (by kernel_rfl) (by simp) ?_
  refine AllReadyH.cons (o := _) rfl (fun K hK => ?_) AllReadyH.nil
  simp only [List.getElem_toArray, List.getElem_cons_zero, List.getElem_cons_succ]
  go_simp
  with_reducible refine (num_is _ HYN.out).mono ?_
  rintro e w6 ⟨rfl, b6⟩
  dsimp only
  replace hxB := blk_u hxB b6
  replace hyB := blk_u hyB b6
  replace bel := bel.trans (b6.mono bel.size)
  clear b6
  refine hK.out _ _ ⟨hxB, hyB⟩ (fun hH7 => ?_)
  clear hK K
  refine wpAnyH_take (i := 4) (v := ?_) rfl (by kernel_rfl) (by kernel_rfl) (by kernel_rfl) (fun _ _ _ h => h) (Or.inl ⟨by rfl, ?_⟩) hH7 ?_
  rotate_left
  · ((intro W hW; clear hW; go_simp) <;> with_reducible rfl)
  simp only [Act.put, List.getElem_toArray, List.getElem_cons_zero, List.getElem_cons_succ, List.setIfInBounds_toArray, List.set_cons_zero, List.set_cons_succ]
  refine wpAnyH_take (i := 5) (v := ?_) rfl (by kernel_rfl) (by kernel_rfl) (by kernel_rfl) (fun _ _ _ h => h) (Or.inl ⟨by rfl, ?_⟩) hH7 ?_
  rotate_left
  · ((intro W hW; clear hW; go_simp) <;> with_reducible rfl)
  simp only [Act.put, List.getElem_toArray, List.getElem_cons_zero, List.getElem_cons_succ, List.setIfInBounds_toArray, List.set_cons_zero, List.set_cons_succ]
  refine wpAnyH_done (by kernel_rfl) ?_ _
  go_wp2_with fail
  exact bodyPost_ret (v := .tuple #[.pointer none, .int .i64 1]) (by simp [results, Try.results10, go_sem]) rfl ⟨rfl, bel⟩
set_option linter.unusedVariables false in
set_option linter.unusedSimpArgs false in
set_option maxRecDepth 100000 in
set_option maxHeartbeats 16000000 in
theorem pnew_wide {x y : Ad4} {A : Option Addr} {n c : Nat} (w : World) (h1 : x.num ≤ y.num) (h2 : 64 ≤ y.num - x.num) : Calls Try.prog 10 #[.agg #[.int .u8 (x.a.toNat : Int), .int .u8 (x.b.toNat : Int), .int .u8 (x.c.toNat : Int), .int .u8 (x.d.toNat : Int)], .agg #[.int .u8 (y.a.toNat : Int), .int .u8 (y.b.toNat : Int), .int .u8 (y.c.toNat : Int), .int .u8 (y.d.toNat : Int)], .slice A n c] w fun e w' => e = .returned (.tuple #[.pointer none, .int .i64 1]) ∧ Below w.heap.size w w' := by
  obtain ⟨xn, hxn⟩ : ∃ n, x.num = n := ⟨_, rfl⟩
  obtain ⟨yn, hyn⟩ : ∃ n, y.num = n := ⟨_, rfl⟩
  have HXN := Lib.hid hxn
  have HYN := Lib.hid hyn
  have HX2 := Lib.hid (x.lt)
  have HY2 := Lib.hid (y.lt)
  rw [HXN.out] at HX2
  rw [HYN.out] at HY2
  have x0 : (0 : Int) ≤ xn := by omega
  have y0 : (0 : Int) ≤ yn := by omega
  rw [hxn, hyn] at h1 h2
  clear hxn hyn
  obtain ⟨d, hd⟩ : ∃ d : Int, (yn : Int) - xn = d := ⟨_, rfl⟩
  have d64 : 64 ≤ d := by omega
  have dlt : d < 4294967296 := by have := HY2.out; omega
  have hw1 : IntKind.u32.wrap ((yn : Int) - (xn : Int)) = d := by rw [hd]; exact IntWalk.u32_in _ (by omega)
  have HD := Lib.hid hd
  clear hd
  have h1d : decide (yn < xn) = false := decide_eq_false (by omega)
  clear h1 h2
  have bel := Below.refl w.heap.size w
  go_enter Try.func10, Try.ntmps10
  go_wp2_with (first | ((with_reducible show wpList _ _ _ (⟨some 3, _, _, _, _, _⟩ :: _) _ _); refine wpList_box_n rfl 28 (.tmp 0) rfl #[.int .u8 (x.a.toNat : Int), .int .u8 (x.b.toNat : Int), .int .u8 (x.c.toNat : Int), .int .u8 (x.d.toNat : Int)] rfl ?_; intro g3 w1 ge lt hh bb; have oxB := Nat.le_trans bel.size ge; replace bel := bel.trans (bb.mono bel.size); have hxB := hh; clear hh lt ge bb) | ((with_reducible show wpList _ _ _ (⟨some 4, _, _, _, _, _⟩ :: _) _ _); refine wpList_box_n rfl 28 (.tmp 1) rfl #[.int .u8 (y.a.toNat : Int), .int .u8 (y.b.toNat : Int), .int .u8 (y.c.toNat : Int), .int .u8 (y.d.toNat : Int)] rfl ?_; intro g4 w2 ge lt hh bb; have d_xB_yB := ne_new (hlt hxB) ge; have oyB := Nat.le_trans bel.size ge; replace hxB := blk_u hxB bb; replace bel := bel.trans (bb.mono bel.size); have hyB := hh; clear hh lt ge bb))
  replace bel := bel.drew
  replace hxB : w2.drew.heap[g3]? = _ := hxB
  replace hyB : w2.drew.heap[g4]? = _ := hyB
  refine wp_region_held_drew (S := fun W => W.heap[g3]? = some (.cells #[.int .u8 (x.a.toNat : Int), .int .u8 (x.b.toNat : Int), .int .u8 (x.c.toNat : Int), .int .u8 (x.d.toNat : Int)] 28 (0, 0)) ∧ W.heap[g4]? = some (.cells #[.int .u8 (y.a.toNat : Int), .int .u8 (y.b.toNat : Int), .int .u8 (y.c.toNat : Int), .int .u8 (y.d.toNat : Int)] 28 (0, 0))) (by kernel_rfl) ⟨hxB, hyB⟩ (fun hH => ?_)
  generalize w2.drew = w3 at bel hxB hyB hH ⊢
  refine wpAnyH_take (i := 0) (v := .agg #[.int .u8 (x.a.toNat : Int), .int .u8 (x.b.toNat : Int), .int .u8 (x.c.toNat : Int), .int .u8 (x.d.toNat : Int)]) rfl (by kernel_rfl) (by kernel_rfl) (by kernel_rfl) (fun _ _ _ h => h) (yieldsIf_load_part (by kernel_rfl) 28 _ rfl g3 0 4 rfl _ 28 (0, 0) (fun W hW => hW.1) _ rfl _ Try.underlying28 rfl (by kernel_rfl)) hH ?_
  simp only [Act.put, List.getElem_toArray, List.getElem_cons_zero, List.setIfInBounds_toArray, List.set_cons_zero, List.set_cons_succ]
  refine wpAnyH_take (i := 2) (v := .agg #[.int .u8 (y.a.toNat : Int), .int .u8 (y.b.toNat : Int), .int .u8 (y.c.toNat : Int), .int .u8 (y.d.toNat : Int)]) rfl (by kernel_rfl) (by kernel_rfl) (by kernel_rfl) (fun _ _ _ h => h) (yieldsIf_load_part (by kernel_rfl) 28 _ rfl g4 0 4 rfl _ 28 (0, 0) (fun W hW => hW.2) _ rfl _ Try.underlying28 rfl (by kernel_rfl)) hH ?_
  simp only [Act.put, List.getElem_toArray, List.getElem_cons_zero, List.getElem_cons_succ, List.setIfInBounds_toArray, List.set_cons_zero, List.set_cons_succ]
  refine wpAnyH_ready (rs := [1]) (by kernel_rfl) (by simp) ?_
  refine AllReadyH.cons (o := _) rfl (fun K hK => ?_) AllReadyH.nil
  simp only [List.getElem_toArray, List.getElem_cons_zero, List.getElem_cons_succ]
  go_simp
  with_reducible refine (num_is _ HXN.out).mono ?_
  rintro e w4 ⟨rfl, b4⟩
  dsimp only
  replace hxB := blk_u hxB b4
  replace hyB := blk_u hyB b4
  replace bel := bel.trans (b4.mono bel.size)
  clear b4
  refine hK.out _ _ ⟨hxB, hyB⟩ (fun hH5 => ?_)
  clear hK K
  refine wpAnyH_ready (rs := [3]) (by kernel_rfl) (by simp) ?_
  refine AllReadyH.cons (o := _) rfl (fun K hK => ?_) AllReadyH.nil
  simp only [List.getElem_toArray, List.getElem_cons_zero, List.getElem_cons_succ]
  go_simp
  with_reducible refine (num_is _ HYN.out).mono ?_
  rintro e w6 ⟨rfl, b6⟩
  dsimp only
  replace hxB := blk_u hxB b6
  replace hyB := blk_u hyB b6
  replace bel := bel.trans (b6.mono bel.size)
  clear b6
  refine hK.out _ _ ⟨hxB, hyB⟩ (fun hH7 => ?_)
  clear hK K
  refine wpAnyH_take (i := 4) (v := ?_) rfl (by kernel_rfl) (by kernel_rfl) (by kernel_rfl) (fun _ _ _ h => h) (Or.inl ⟨by rfl, ?_⟩) hH7 ?_
  rotate_left
  · ((intro W hW; clear hW; go_simp) <;> with_reducible rfl)
  simp only [Act.put, List.getElem_toArray, List.getElem_cons_zero, List.getElem_cons_succ, List.setIfInBounds_toArray, List.set_cons_zero, List.set_cons_succ]
  refine wpAnyH_take (i := 5) (v := ?_) rfl (by kernel_rfl) (by kernel_rfl) (by kernel_rfl) (fun _ _ _ h => h) (Or.inl ⟨by rfl, ?_⟩) hH7 ?_
  rotate_left
  · ((intro W hW; clear hW; go_simp) <;> with_reducible rfl)
  simp only [Act.put, List.getElem_toArray, List.getElem_cons_zero, List.getElem_cons_succ, List.setIfInBounds_toArray, List.set_cons_zero, List.set_cons_succ]
  refine wpAnyH_done (by kernel_rfl) ?_ _
  go_wp2_with fail
  exact bodyPost_ret (v := .tuple #[.pointer none, .int .i64 1]) (by simp [results, Try.results10, go_sem]) rfl ⟨rfl, bel⟩
set_option linter.unusedVariables false in
set_option linter.unusedSimpArgs false in
set_option maxRecDepth 100000 in
set_option maxHeartbeats 16000000 in
theorem pnew_any {x y : Ad4} {A : Option Addr} {n c : Nat} {fl : List Le} (w : World) (h1 : x.num ≤ y.num) (h2 : y.num - x.num < 64) (fx0 : Sle leE 11 w A n c fl) (hbl : Bl A n w.heap.size) (hn : n ≤ 2) (hsl : (fl.map (fun e => e.ad.num)).Pairwise (fun a b => a < b)) (hnd : (fl.map (·.m)).Nodup) : Calls Try.prog 10 #[.agg #[.int .u8 (x.a.toNat : Int), .int .u8 (x.b.toNat : Int), .int .u8 (x.c.toNat : Int), .int .u8 (x.d.toNat : Int)], .agg #[.int .u8 (y.a.toNat : Int), .int .u8 (y.b.toNat : Int), .int .u8 (y.c.toNat : Int), .int .u8 (y.d.toNat : Int)], .slice A n c] w fun e w' => ∃ gt, e = .returned (.tuple #[.pointer (some ⟨gt, 0, none⟩), .int .i64 0]) ∧ Pl w.heap.size gt w' ⟨0, fl.map Le.pr, newL (fl.map slotF) x.num (y.num - x.num + 1)⟩ ∧ w.heap.size ≤ gt ∧ Below w.heap.size w w' := by
  obtain ⟨xn, hxn⟩ : ∃ n, x.num = n := ⟨_, rfl⟩
  obtain ⟨yn, hyn⟩ : ∃ n, y.num = n := ⟨_, rfl⟩
  have HXN := Lib.hid hxn
  have HYN := Lib.hid hyn
  have HX2 := Lib.hid (x.lt)
  have HY2 := Lib.hid (y.lt)
  rw [HXN.out] at HX2
  rw [HYN.out] at HY2
  have x0 : (0 : Int) ≤ xn := by omega
  have y0 : (0 : Int) ≤ yn := by omega
  rw [hxn, hyn] at h1 h2
  clear hxn hyn
  have HFX := Lib.hid fx0
  have HBL := Lib.hid hbl
  have HN2 := Lib.hid hn
  have HSL := Lib.hid hsl
  have HND := Lib.hid hnd
  have HLF : Hid (fl.length = n) := Lib.hid fx0.1
  obtain ⟨q, hq⟩ : ∃ q, yn = xn + q := ⟨yn - xn, by omega⟩
  have hq64 : q < 64 := by omega
  have hsub : (yn : Int) - (xn : Int) = (q : Int) := by omega
  have hwq : IntKind.u32.wrap (q : Int) = (q : Int) := IntWalk.u32_in _ (by omega)
  have hwq1 : IntKind.u32.wrap ((q : Int) + 1) = (q : Int) + 1 := IntWalk.u32_in _ (by omega)
  have q0 : (0 : Int) ≤ q := by omega
  have q64 : (q : Int) < 64 := by omega
  have h1d : decide (yn < xn) = false := decide_eq_false (by omega)
  have h2d : decide (64 ≤ (q : Int)) = false := decide_eq_false (by omega)
  have h2n : decide (64 ≤ q) = false := decide_eq_false (by omega)
  obtain ⟨cnt, hcnt⟩ : ∃ k, k = q + 1 := ⟨_, rfl⟩
  have hcq : (q : Int) + 1 = (cnt : Int) := by omega
  have HQ := Lib.hid hq
  have HCNT := Lib.hid hcnt
  clear hq hcnt h1 h2 hq64 fx0 hbl hn hsl hnd
  have bel := Below.refl w.heap.size w
  go_enter Try.func10, Try.ntmps10
  go_wp2_with (first | ((with_reducible show wpList _ _ _ (⟨some 3, _, _, _, _, _⟩ :: _) _ _); refine wpList_box_n rfl 28 (.tmp 0) rfl #[.int .u8 (x.a.toNat : Int), .int .u8 (x.b.toNat : Int), .int .u8 (x.c.toNat : Int), .int .u8 (x.d.toNat : Int)] rfl ?_; intro g3 w1 ge lt hh bb; have oxB := Nat.le_trans bel.size ge; replace bel := bel.trans (bb.mono bel.size); have hxB := hh; clear hh lt ge bb) | ((with_reducible show wpList _ _ _ (⟨some 4, _, _, _, _, _⟩ :: _) _ _); refine wpList_box_n rfl 28 (.tmp 1) rfl #[.int .u8 (y.a.toNat : Int), .int .u8 (y.b.toNat : Int), .int .u8 (y.c.toNat : Int), .int .u8 (y.d.toNat : Int)] rfl ?_; intro g4 w2 ge lt hh bb; have d_xB_yB := ne_new (hlt hxB) ge; have oyB := Nat.le_trans bel.size ge; replace hxB := blk_u hxB bb; replace bel := bel.trans (bb.mono bel.size); have hyB := hh; clear hh lt ge bb))
  replace bel := bel.drew
  replace hxB : w2.drew.heap[g3]? = _ := hxB
  replace hyB : w2.drew.heap[g4]? = _ := hyB
  refine wp_region_held_drew (S := fun W => W.heap[g3]? = some (.cells #[.int .u8 (x.a.toNat : Int), .int .u8 (x.b.toNat : Int), .int .u8 (x.c.toNat : Int), .int .u8 (x.d.toNat : Int)] 28 (0, 0)) ∧ W.heap[g4]? = some (.cells #[.int .u8 (y.a.toNat : Int), .int .u8 (y.b.toNat : Int), .int .u8 (y.c.toNat : Int), .int .u8 (y.d.toNat : Int)] 28 (0, 0))) (by kernel_rfl) ⟨hxB, hyB⟩ (fun hH => ?_)
  generalize w2.drew = w3 at bel hxB hyB hH ⊢
  refine wpAnyH_take (i := 0) (v := .agg #[.int .u8 (x.a.toNat : Int), .int .u8 (x.b.toNat : Int), .int .u8 (x.c.toNat : Int), .int .u8 (x.d.toNat : Int)]) rfl (by kernel_rfl) (by kernel_rfl) (by kernel_rfl) (fun _ _ _ h => h) (yieldsIf_load_part (by kernel_rfl) 28 _ rfl g3 0 4 rfl _ 28 (0, 0) (fun W hW => hW.1) _ rfl _ Try.underlying28 rfl (by kernel_rfl)) hH ?_
  simp only [Act.put, List.getElem_toArray, List.getElem_cons_zero, List.setIfInBounds_toArray, List.set_cons_zero, List.set_cons_succ]
  refine wpAnyH_take (i := 2) (v := .agg #[.int .u8 (y.a.toNat : Int), .int .u8 (y.b.toNat : Int), .int .u8 (y.c.toNat : Int), .int .u8 (y.d.toNat : Int)]) rfl (by kernel_rfl) (by kernel_rfl) (by kernel_rfl) (fun _ _ _ h => h) (yieldsIf_load_part (by kernel_rfl) 28 _ rfl g4 0 4 rfl _ 28 (0, 0) (fun W hW => hW.2) _ rfl _ Try.underlying28 rfl (by kernel_rfl)) hH ?_
  simp only [Act.put, List.getElem_toArray, List.getElem_cons_zero, List.getElem_cons_succ, List.setIfInBounds_toArray, List.set_cons_zero, List.set_cons_succ]
  refine wpAnyH_ready (rs := [1]) (by kernel_rfl) (by simp) ?_
  refine AllReadyH.cons (o := _) rfl (fun K hK => ?_) AllReadyH.nil
  simp only [List.getElem_toArray, List.getElem_cons_zero, List.getElem_cons_succ]
  go_simp
  with_reducible refine (num_is _ HXN.out).mono ?_
  rintro e w4 ⟨rfl, b4⟩
  dsimp only
  replace hxB := blk_u hxB b4
  replace hyB := blk_u hyB b4
  replace bel := bel.trans (b4.mono bel.size)
  clear b4
  refine hK.out _ _ ⟨hxB, hyB⟩ (fun hH5 => ?_)
  clear hK K
  refine wpAnyH_ready (rs := [3]) (by kernel_rfl) (by simp) ?_
  refine AllReadyH.cons (o := _) rfl (fun K hK => ?_) AllReadyH.nil
  simp only [List.getElem_toArray, List.getElem_cons_zero, List.getElem_cons_succ]
  go_simp
  with_reducible refine (num_is _ HYN.out).mono ?_
  rintro e w6 ⟨rfl, b6⟩
  dsimp only
  replace hxB := blk_u hxB b6
  replace hyB := blk_u hyB b6
  replace bel := bel.trans (b6.mono bel.size)
  clear b6
  refine hK.out _ _ ⟨hxB, hyB⟩ (fun hH7 => ?_)
  clear hK K
  refine wpAnyH_take (i := 4) (v := ?_) rfl (by kernel_rfl) (by kernel_rfl) (by kernel_rfl) (fun _ _ _ h => h) (Or.inl ⟨by rfl, ?_⟩) hH7 ?_
  rotate_left
  · ((intro W hW; clear hW; go_simp) <;> with_reducible rfl)
  simp only [Act.put, List.getElem_toArray, List.getElem_cons_zero, List.getElem_cons_succ, List.setIfInBounds_toArray, List.set_cons_zero, List.set_cons_succ]
  refine wpAnyH_take (i := 5) (v := ?_) rfl (by kernel_rfl) (by kernel_rfl) (by kernel_rfl) (fun _ _ _ h => h) (Or.inl ⟨by rfl, ?_⟩) hH7 ?_
  rotate_left
  · ((intro W hW; clear hW; go_simp) <;> with_reducible rfl)
  simp only [Act.put, List.getElem_toArray, List.getElem_cons_zero, List.getElem_cons_succ, List.setIfInBounds_toArray, List.set_cons_zero, List.set_cons_succ]
  refine wpAnyH_done (by kernel_rfl) ?_ _
  go_wp2_with (first | ((with_reducible show wpList _ _ _ (⟨some 25, _, _, _, _, _⟩ :: _) _ _); refine wpList_makemap_n rfl 55 rfl ?_; intro g25 w80 ge hM_ bb; have ogm := Nat.le_trans bel.size ge; have hM := hM_.lo_le bel.size; replace bel := bel.trans (bb.mono bel.size); clear hM_; replace hxB := blk_u hxB bb; replace hyB := blk_u hyB bb; clear bb ge) | ((with_reducible show wpList _ _ _ (⟨some 27, _, _, _, _, _⟩ :: _) _ _); refine wpList_box_n rfl 58 (.tmp 26) rfl #[.int .i64 0, .map (some g25), .slice none 0 0] rfl ?_; intro g27 w8 ge lt hh bb; have d_xB_tb := ne_new (hlt hxB) ge; have d_yB_tb := ne_new (hlt hyB) ge; have otb := Nat.le_trans bel.size ge; replace hxB := blk_u hxB bb; replace hyB := blk_u hyB bb; replace hM := hM.below bb; replace bel := bel.trans (bb.mono bel.size); have htb := hh; clear hh lt ge bb))
  have BEL_ : Below w.heap.size w w8 := bel
  have OTB_ := Lib.hid otb
  with_reducible refine (preserve_any _ htb otb bel.size hM (HFX.out.below BEL_) HBL.out HN2.out HSL.out HND.out).mono ?_
  rintro e w9 ⟨rfl, A2, c2, htb_, hM_, own_, b9⟩
  replace bel := bel.trans b9
  clear b9 hxB hyB htb hM
  clear BEL_
  have hT : Pl w.heap.size g27 w9 ⟨0, fl.map Le.pr, newL (fl.map slotF) xn 0⟩ := ⟨A2, _, c2, _, htb_, OTB_.out, hM_, own_, slotF_ok HSL.out (by have := HN2.out; have := HLF.out; omega)⟩
  clear htb_ hM_ own_
  go_wp2_with fail
  go_loopg [36] (cnt) (fun gk s36 wr => ∃ k : Nat, gk = cnt - k ∧ k ≤ cnt ∧ Pl w.heap.size g27 wr ⟨0, fl.map Le.pr, newL (fl.map slotF) xn k⟩ ∧ s36 = .int .u32 (k : Int) ∧ Below w.heap.size w wr)
  case atStart => exact ⟨0, Nat.sub_zero _, Nat.zero_le _, hT, rfl, bel⟩
  case round =>
    clear hT bel
    obtain ⟨k, HGK, hkc, hT, rfl, bel⟩ := hrel
    have HGK_ := Lib.hid HGK
    clear HGK
    by_cases h : k < cnt
    rotate_left
    · obtain rfl : k = cnt := by omega
      replace h : decide (k < k) = false := decide_eq_false (by omega)
      go_wp2_with fail
      exact bodyPost_ret (v := .tuple #[.pointer (some ⟨g27, 0, none⟩), .int .i64 0]) (by simp [results, Try.results10, go_sem]) rfl ⟨g27, rfl, (by have h_ := hT; rw [HCNT.out, show q = y.num - x.num by rw [HXN.out, HYN.out]; have := HQ.out; omega, ← HXN.out] at h_; exact h_), OTB_.out, bel⟩
    have k0 : (0 : Int) ≤ k := by omega
    have k64 : (k : Int) < 64 := by omega
    obtain ⟨p, hp⟩ : ∃ p, p = xn + k := ⟨_, rfl⟩
    have hpk : (xn : Int) + (k : Int) = (p : Int) := by omega
    have hp32 : p < 4294967296 := by have := HY2.out; have := HQ.out; have := HCNT.out; omega
    have HP32 := Lib.hid hp32
    have hwp : IntKind.u32.wrap (p : Int) = (p : Int) := IntWalk.u32_in _ (by omega)
    have hwk : IntKind.u32.wrap ((k : Int) + 1) = (k : Int) + 1 := IntWalk.u32_in _ (by omega)
    have HP := Lib.hid hp
    have HLN : Hid ((newL (fl.map slotF) xn k).length < 1000) := Lib.hid (by have h_ := newL_len (fl.map slotF) xn k; rw [List.length_map, HLF.out] at h_; have := HN2.out; have := HCNT.out; omega)
    clear hp hp32
    go_wp2_with fail
    with_reducible refine (aof_ad p _ HP32.out).mono ?_
    rintro e w10 ⟨rfl, b10⟩
    replace hT := hT.below b10
    replace bel := bel.trans (b10.mono bel.size)
    clear b10
    go_wp2_with fail
    with_reducible refine (padd_any (adOf p) _ hT HLN.out).mono ?_
    rintro e w11 ⟨rfl, hT_, k_, bb⟩
    clear hT
    have hT := hT_
    replace bel := bel.trans bb
    clear bb k_ hT_
    go_wp2_with fail
    go_roundg (cnt - (k + 1))
    case measure => have := HGK_.out; omega
    case rel => exact ⟨k + 1, rfl, by omega, (show Pl w.heap.size g27 _ ⟨0, fl.map Le.pr, addL (newL (fl.map slotF) xn k) (adOf (xn + k))⟩ from HP.out ▸ hT), by go_num, bel⟩
end Go.Proofs.Ythcjepafcemmnaa
