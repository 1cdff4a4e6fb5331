/- slices.Insert over rows of slots; add. -/
import Derived.Test.YthcjepafcemmnaaPl3b
import Derived.Test.YthcjepafcemmnaaNrk
namespace Go.Proofs.Ythcjepafcemmnaa
open Go.RowKit

theorem Try.info_slot : (Try.prog.info? 66).map (fun i => (i.zero, i.size, i.bytes)) = some (some (.agg #[.int .u8 0, .int .u8 0, .int .u8 0, .int .u8 0, .int .u8 0, .int .u8 0, .int .u8 0, .int .u8 0, .int .u8 0, .int .u8 0, .int .i64 0, .bool false, .bool false, .bool false, .int .i64 0]), 15, 40) := by kernel_rfl
theorem sl_elem : Try.prog.underlying 56 = some (.slice (Try.prog.elem 56)) := by kernel_rfl
theorem sl_el : Try.prog.elem 56 = 66 := by kernel_rfl
theorem sl_sz (w : World) : (Go.sizeOf 66).run Try.prog w = .ok 15 w := by kernel_rfl
theorem sl_zero : (Try.prog.info? 66).bind (·.zero) = some (.agg #[.int .u8 0, .int .u8 0, .int .u8 0, .int .u8 0, .int .u8 0, .int .u8 0, .int .u8 0, .int .u8 0, .int .u8 0, .int .u8 0, .int .i64 0, .bool false, .bool false, .bool false, .int .i64 0]) := by kernel_rfl
theorem sl_zs : (Value.cells (.agg #[.int .u8 0, .int .u8 0, .int .u8 0, .int .u8 0, .int .u8 0, .int .u8 0, .int .u8 0, .int .u8 0, .int .u8 0, .int .u8 0, .int .i64 0, .bool false, .bool false, .bool false, .int .i64 0])).size = 15 := by kernel_rfl
theorem sl_z1 : (Value.cells (.agg #[.int .u8 0, .int .u8 0, .int .u8 0, .int .u8 0, .int .u8 0, .int .u8 0, .int .u8 0, .int .u8 0, .int .u8 0, .int .u8 0, .int .i64 0, .bool false, .bool false, .bool false, .int .i64 0])).all (·.oneCell') = true := by kernel_rfl
theorem sl_size : (Try.prog.info? 66).map (·.size) = some 15 := by kernel_rfl
/-- Pieces of a row. -/
theorem sl_front (g n c : Nat) (i : Nat) (hi : i ≤ c) (W : World) : (Instr.slice 56 (.slice (some ⟨g, 0, none⟩) n c) none (some (.int .i64 (i : Int))) none).run Try.prog W = .ok (.slice (some ⟨g, 0, none⟩) i c) W := by
  rw [run_slice_h W 56 _ n c sl_elem .i64 _ (by omega) (by omega), sl_el, sl_sz]
  simp [Result.andThen, sliced, Addr.add]
theorem sl_back (g n c : Nat) (i : Nat) (hi : i ≤ n) (hc : i < c) (W : World) : (Instr.slice 56 (.slice (some ⟨g, 0, none⟩) n c) (some (.int .i64 (i : Int))) none none).run Try.prog W = .ok (.slice (some ⟨g, i * 15, none⟩) (n - i) (c - i)) W := by
  rw [run_slice_l W 56 _ n c sl_elem .i64 _ (by omega) (by omega), sl_el, sl_sz]
  simp [Result.andThen, sliced, Addr.add_lit, show ¬ c = i by omega]
theorem sl_backany (A : Option Addr) (n c : Nat) (i : Nat) (hi : i ≤ n) : ∃ v, ∀ W, (Instr.slice 56 (.slice A n c) (some (.int .i64 (i : Int))) none none).run Try.prog W = .ok v W := by
  refine ⟨sliced A i n c 15, fun W => ?_⟩
  rw [run_slice_l W 56 _ n c sl_elem .i64 _ (by omega) (by omega), sl_el, sl_sz]
  simp [Result.andThen]
theorem sl_tail (g n c : Nat) (i : Nat) (hi : i ≤ n) : ∃ ad c2, (∀ W, (Instr.slice 56 (.slice (some ⟨g, 0, none⟩) n c) (some (.int .i64 (i : Int))) none none).run Try.prog W = .ok (.slice (some ad) (n - i) c2) W) ∧ (i < c → ad = ⟨g, i * 15, none⟩) := by
  refine ⟨if c = i then ⟨g, 0, none⟩ else ⟨g, i * 15, none⟩, c - i, fun W => ?_, fun h => by rw [if_neg (by omega)]⟩
  rw [run_slice_l W 56 _ n c sl_elem .i64 _ (by omega) (by omega), sl_el, sl_sz]
  by_cases h : c = i <;> simp [Result.andThen, sliced, Addr.add_lit, h]
theorem sl_two (g n c : Nat) (i j : Nat) (hi : i ≤ j) (hj : j ≤ c) (hc : i < c) (W : World) : (Instr.slice 56 (.slice (some ⟨g, 0, none⟩) n c) (some (.int .i64 (i : Int))) (some (.int .i64 (j : Int))) none).run Try.prog W = .ok (.slice (some ⟨g, i * 15, none⟩) (j - i) (c - i)) W := by
  rw [run_slice_lh W 56 _ n c sl_elem .i64 .i64 _ _ (by omega) (by omega) (by omega), sl_el, sl_sz]
  simp [Result.andThen, sliced, Addr.add_lit, show ¬ c = i by omega]
theorem sl_three (A : Option Addr) (n c : Nat) (i j m : Nat) (h1 : i ≤ j) (h2 : j ≤ m) (h3 : m ≤ c) : ∃ v, ∀ W, (Instr.slice 56 (.slice A n c) (some (.int .i64 (i : Int))) (some (.int .i64 (j : Int))) (some (.int .i64 (m : Int)))).run Try.prog W = .ok v W := by
  refine ⟨sliced A i j m 15, fun W => ?_⟩
  rw [run_slice_lhm W 56 _ n c sl_elem .i64 .i64 .i64 _ _ _ (by omega) (by omega) (by omega) (by omega), sl_el, sl_sz]
  simp [Result.andThen]
theorem sl_ov {w : World} {vb gE o lb cb : Nat} {n c lo : Nat} {xs cs : List Value} (hvb : w.heap[vb]? = some (.cells cs.toArray 66 (0, 0))) (hcs : cs.length = 15) (own : w.ownsRow lo 66 15 (.slice (some ⟨gE, 0, none⟩) n c) n xs) (hn : 0 < n) (hne : vb ≠ gE) : (callFunc 46 #[.slice (some ⟨vb, 0, none⟩) 1 1, .slice (some ⟨gE, o, none⟩) lb cb]).run Try.prog w = .ok (.value (.bool false)) w := by
  obtain ⟨_, cur, hb, hh, h1, h2, hs, _⟩ := row_of own
  have hc0 : 0 < c := by omega
  rw [run_callFunc_extern (f := 46) (fn := Try.f46) (by kernel_rfl) (by kernel_rfl) (by kernel_rfl) (by kernel_rfl) (e := Extern.SlicesOverlaps.overlaps #[56, 56] #[4]) (by kernel_rfl),
    Lib.run_overlaps_apart w 56 4 66 Try.underlying56 15 sl_sz ⟨vb, 0, none⟩ ⟨gE, o, none⟩ 1 1 lb cb hne 66 66 15 (c * 15) (by simp [World.shape?, hvb, hcs]) (by simp [World.shape?, hh, hs]) (by omega) (by simp [World.frozen?, hvb]) (by simp [World.frozen?, hvb])]
  rfl
theorem sl_vsrc {w : World} {vb : Nat} {x : Sd} {T : TypeId} {fr : Nat × Nat} (hvb : w.heap[vb]? = some (.cells (slE x).toArray T fr)) : ∀ j v, (slE x)[j]? = some v → w.cell? ((⟨vb, 0, none⟩ : Addr).add j) = some v := fun j v hv => by
  rw [Addr.add_lit, Nat.zero_add, cell_of_row w vb j _ T fr hvb]
  simpa using hv
theorem sl_insd {l : List Sd} {x : Sd} {i : Nat} : (l.take i ++ x :: l.drop i).flatMap slE = (l.flatMap slE).take (i * 15) ++ slE x ++ (l.flatMap slE).drop (i * 15) := by
  rw [List.flatMap_append, List.flatMap_cons, flat_take slE_len, flat_drop slE_len, List.append_assoc]
set_option linter.unusedVariables false in
set_option linter.unusedSimpArgs false in
set_option maxRecDepth 100000 in
set_option maxHeartbeats 16000000 in
theorem sl_ins_end {lo n c vb : Nat} {A : Option Addr} {l : List Sd} {x : Sd} (w : World) (hlo : lo ≤ w.heap.size) (hown : w.ownsRow lo 66 15 (.slice A n c) n (l.flatMap slE)) (hn : n ≤ 1000) (hvb : w.heap[vb]? = some (.cells (slE x).toArray 66 (0, 0))) : Calls Try.prog 37 #[.slice A n c, .int .i64 (n : Int), .slice (some ⟨vb, 0, none⟩) 1 1] w fun e w' => ∃ A' c', e = .returned (.slice A' (n + 1) c') ∧ w'.ownsRow lo 66 15 (.slice A' (n + 1) c') (n + 1) ((l.take n ++ x :: l.drop n).flatMap slE) ∧ w.grownBy w' (Value.ownBlock (.slice A n c)) ∧ (∀ q, q < w.heap.size → Ofs (.slice A n c) q → Ofs (.slice A' (n + 1) c') q) := by
  have own := hown
  clear hown
  have hl := row_len (by decide) slE_len own
  have hcap := row_cap own
  have HCAP := Lib.hid hcap
  have HLL := Lib.hid hl
  have HLO := Lib.hid hlo
  obtain ⟨ie, hie, hie0, hie1, hie2⟩ := info_parts Try.info_slot
  have n0 : (0 : Int) ≤ n := by omega
  have n1 : (n : Int) ≤ 1000 := by omega
  obtain ⟨v12, r12⟩ := sl_backany A n c n (Nat.le_refl _)
  have vv : Sle slE 15 w (some ⟨vb, 0, none⟩) 1 1 [x] := sle_lit [x] (by decide) slE_len (by simpa using hvb) rfl (by simp [maxLen])
  have HB1 : Hid (n + 1 ≤ maxLen) := Lib.hid (by unfold maxLen; omega)
  have HB2 : Hid ((n + 1) * 40 ≤ 140737488355328) := Lib.hid (by omega)
  clear hl hcap hlo
  have bel := Below.refl w.heap.size w
  go_enter Try.func37, Try.ntmps37
  have R12 := r12
  go_wp2_with (first | ((with_reducible show wpList _ _ _ (⟨some 25, _, _, _, _, _⟩ :: _) _ _); refine wpList_append_sle rfl (.tmp 23) (.tmp 24) 56 rfl lo 66 ie (.agg #[.int .u8 0, .int .u8 0, .int .u8 0, .int .u8 0, .int .u8 0, .int .u8 0, .int .u8 0, .int .u8 0, .int .u8 0, .int .u8 0, .int .i64 0, .bool false, .bool false, .bool false, .int .i64 0]) 40 Try.underlying56 hie hie0 hie1 hie2 sl_zs slE_one _ n l rfl own (some ⟨vb, 0, none⟩) 1 1 [x] rfl vv HB1.out HB2.out HLO.out ?_; intro v25 w9 own_ bb gw ofw; obtain ⟨A25, c25, rfl⟩ := owk_val own_))
  try clear R12
  go_ret
  exact ⟨A25, c25, rfl, by rw [List.take_of_length_le (by rw [HLL.out]; exact Nat.le_refl _), List.drop_eq_nil_of_le (by rw [HLL.out]; exact Nat.le_refl _)]; exact own_, gw, ofw⟩
set_option linter.unusedVariables false in
set_option linter.unusedSimpArgs false in
set_option maxRecDepth 100000 in
set_option maxHeartbeats 16000000 in
theorem sl_ins_grow {lo n c vb : Nat} {gE i : Nat} {l : List Sd} {x : Sd} (w : World) (hlo : lo ≤ w.heap.size) (hown : w.ownsRow lo 66 15 (.slice (some ⟨gE, 0, none⟩) n c) n (l.flatMap slE)) (hn : n ≤ 1000) (hvb : w.heap[vb]? = some (.cells (slE x).toArray 66 (0, 0))) (hve : Ofs (.slice (some ⟨gE, 0, none⟩) n c) vb) (hi : i < n) (hg : c < n + 1) : Calls Try.prog 37 #[.slice (some ⟨gE, 0, none⟩) n c, .int .i64 (i : Int), .slice (some ⟨vb, 0, none⟩) 1 1] w fun e w' => ∃ A' c', e = .returned (.slice A' (n + 1) c') ∧ w'.ownsRow lo 66 15 (.slice A' (n + 1) c') (n + 1) ((l.take i ++ x :: l.drop i).flatMap slE) ∧ w.grownBy w' (Value.ownBlock (.slice (some ⟨gE, 0, none⟩) n c)) ∧ (∀ q, q < w.heap.size → Ofs (.slice (some ⟨gE, 0, none⟩) n c) q → Ofs (.slice A' (n + 1) c') q) := by
  have own := hown
  clear hown
  have hl := row_len (by decide) slE_len own
  have hcap := row_cap own
  have HCAP := Lib.hid hcap
  have HLL := Lib.hid hl
  have HLO := Lib.hid hlo
  obtain ⟨ie, hie, hie0, hie1, hie2⟩ := info_parts Try.info_slot
  have n0 : (0 : Int) ≤ n := by omega
  have n1 : (n : Int) ≤ 1000 := by omega
  obtain ⟨q, hq⟩ : ∃ q, i + q = n := ⟨n - i, by omega⟩
  have i0 : (0 : Int) ≤ i := by omega
  have i1 : (i : Int) < n := by omega
  have hne : ((i : Int) == n) = false := beq_eq_false_iff_ne.2 (by omega)
  have hw1 : IntKind.i64.wrap ((i : Int) + 1) = (i : Int) + 1 := IntWalk.i64_in _ (by omega)
  have r53 := fun W => sl_back gE n c i (by omega) (by omega) W
  rw [show n - i = q by omega] at r53
  have HFL : Hid (15 * i + q * 15 = (l.flatMap slE).length) := Lib.hid (by rw [flat_len slE_len, hl, ← hq, Nat.add_mul]; omega)
  have HON : Hid (∀ v ∈ (l.flatMap slE).drop (i * 15), v.oneCell' = true) := Lib.hid (fun v hv => by obtain ⟨y, _, hy⟩ := List.mem_flatMap.1 (List.mem_of_mem_drop hv); exact slE_one y v hy)
  have HQ := Lib.hid hq
  have HD : Hid (((l.flatMap slE).drop (i * 15)).length = q * 15) := Lib.hid (by rw [List.length_drop]; have := HFL.out; omega)
  have HVE := Lib.hid hve
  obtain ⟨p, hp⟩ : ∃ p, i + p = n + 1 := ⟨n + 1 - i, by omega⟩
  have hpi : (n : Int) + 1 - i = (p : Int) := by omega
  have r34 := fun W => sl_front gE n c i (by omega) W
  have ownI := row_less own (i := i) (by omega)
  have HP0 : Hid (0 < p) := Lib.hid (by omega)
  have HPQ : Hid (p = q + 1) := Lib.hid (by omega)
  have HIP := Lib.hid hp
  have hcg : (c : Int) < (n : Int) + 1 := by omega
  have HCG : Hid (c < n + 1) := Lib.hid hg
  have HB1 : Hid (n + 1 ≤ maxLen) := Lib.hid (by unfold maxLen; omega)
  have HB2 : Hid ((n + 1) * 40 ≤ 140737488355328) := Lib.hid (by omega)
  have HMX : Hid ((slE x).length = Nat.min 1 (q + 1) * 15) := Lib.hid (by rw [slE_len, show Nat.min 1 (q + 1) = 1 by simp [Nat.min_def]])
  have HPX : Hid (i * 15 + (slE x).length ≤ (n + 1) * 15) := Lib.hid (by rw [slE_len]; omega)
  have HPD : Hid ((i + 1) * 15 + ((l.flatMap slE).drop (i * 15)).length ≤ (n + 1) * 15) := Lib.hid (by rw [HD.out]; omega)
  have HGE : Hid (gE < w.heap.size) := Lib.hid (own.lt gE rfl).2
  clear hl hcap hlo hp hq hi hg hn hve
  have bel := Below.refl w.heap.size w
  go_enter Try.func37, Try.ntmps37
  have R12 := r53
  have R34 := r34
  go_wp2_with (first | ((with_reducible show wpList _ _ _ (⟨some 40, _, _, _, _, _⟩ :: _) _ _); refine wpList_append_fresh rfl (.tmp 34) (.tmp 39) 56 3 66 rfl ie (.agg #[.int .u8 0, .int .u8 0, .int .u8 0, .int .u8 0, .int .u8 0, .int .u8 0, .int .u8 0, .int .u8 0, .int .u8 0, .int .u8 0, .int .i64 0, .bool false, .bool false, .bool false, .int .i64 0]) .i64 40 Try.underlying56 Try.underlying3 hie hie0 hie1 hie2 sl_zs (by decide) ownI .i64 p rfl rfl HP0.out (n + 1) HIP.out HCG.out HB1.out HB2.out ?_; intro gN cN w9 geN ownN bN; have hcN := row_cap ownN; have own9 := owk_under own bN; clear own; have own := own9; clear own9; replace hvb := blk_u hvb bN; replace bel := bel.trans bN; clear bN; have r43 := fun W => sl_back gN (n + 1) cN i (by omega) (by omega) W; have r50 := fun W => sl_back gN (n + 1) cN (i + 1) (by omega) (by omega) W; simp only [Int.natCast_add, Int.natCast_one] at r50; rw [show n + 1 - i = q + 1 by have := HQ.out; omega] at r43; rw [show n + 1 - (i + 1) = q by have := HQ.out; omega] at r50; have HGN := Lib.hid geN; clear hcN geN; have R43 := r43) | ((with_reducible show wpList _ _ _ (⟨some 45, _, _, _, _, _⟩ :: _) _ _); refine wpList_copy_rowk rfl (.tmp 43) (.tmp 44) 56 56 66 rfl Try.underlying56 sl_size ownN (i * 15) (q + 1) (cN - i) ⟨vb, 0, none⟩ 1 1 (slE x) rfl rfl HMX.out (sl_vsrc hvb) HPX.out (slE_one x) _ rfl ?_; intro w10 own_ gw; have own9 := owk_off own (ne_off (Nat.ne_of_lt (Nat.lt_of_lt_of_le HGE.out HGN.out))) gw; clear own ownN; have own := own9; have ownN := own_; clear own9 own_; replace bel := bel.trans (Below.row gw HGN.out bel.size); clear gw hvb))
  try clear R12
  try clear R34
  try clear R43
  replace bel := bel.drew
  replace own := World.ownsRow.drew own
  replace ownN := World.ownsRow.drew ownN
  refine wp_region_held_drew (S := fun _ => True) (by kernel_rfl) trivial (fun hH => ?_)
  generalize w10.drew = w1 at bel own ownN hH ⊢
  refine wpAnyH_take (i := 0) (v := ?_) rfl (by kernel_rfl) (by kernel_rfl) (by kernel_rfl) (fun _ _ _ h => h) (Or.inl ⟨by rfl, ?_⟩) hH ?_
  rotate_left
  · ((intro W hW; clear hW; go_simp) <;> with_reducible rfl)
  simp only [Act.put, List.getElem_toArray, List.getElem_cons_zero, List.setIfInBounds_toArray, List.set_cons_zero, List.set_cons_succ]
  refine wpAnyH_take (i := 1) (v := ?_) rfl (by kernel_rfl) (by kernel_rfl) (by kernel_rfl) (fun _ _ _ h => h) (Or.inl ⟨by rfl, ?_⟩) hH ?_
  rotate_left
  · ((intro W hW; clear hW; go_simp) <;> with_reducible rfl)
  simp only [Act.put, List.getElem_toArray, List.getElem_cons_zero, List.getElem_cons_succ, List.setIfInBounds_toArray, List.set_cons_zero, List.set_cons_succ]
  refine wpAnyH_take (i := 2) (v := ?_) rfl (by kernel_rfl) (by kernel_rfl) (by kernel_rfl) (fun _ _ _ h => h) (Or.inl ⟨by rfl, ?_⟩) hH ?_
  rotate_left
  · ((intro W hW; clear hW; go_simp) <;> with_reducible rfl)
  simp only [Act.put, List.getElem_toArray, List.getElem_cons_zero, List.getElem_cons_succ, List.setIfInBounds_toArray, List.set_cons_zero, List.set_cons_succ]
  refine wpAnyH_take (i := 3) (v := ?_) rfl (by kernel_rfl) (by kernel_rfl) (by kernel_rfl) (fun _ _ _ h => h) (Or.inl ⟨by rfl, ?_⟩) hH ?_
  rotate_left
  · ((intro W hW; clear hW; go_simp) <;> with_reducible rfl)
  simp only [Act.put, List.getElem_toArray, List.getElem_cons_zero, List.getElem_cons_succ, List.setIfInBounds_toArray, List.set_cons_zero, List.set_cons_succ]
  refine wpAnyH_take (i := 4) (v := ?_) rfl (by kernel_rfl) (by kernel_rfl) (by kernel_rfl) (fun _ _ _ h => h) (Or.inl ⟨by rfl, ?_⟩) hH ?_
  rotate_left
  · ((intro W hW; clear hW; go_simp) <;> with_reducible rfl)
  simp only [Act.put, List.getElem_toArray, List.getElem_cons_zero, List.getElem_cons_succ, List.setIfInBounds_toArray, List.set_cons_zero, List.set_cons_succ]
  refine wpAnyH_take (i := 5) (v := ?_) rfl (by kernel_rfl) (by kernel_rfl) (by kernel_rfl) (fun _ _ _ h => h) (Or.inl ⟨by rfl, ?_⟩) hH ?_
  rotate_left
  · ((intro W hW; clear hW; go_simp) <;> with_reducible rfl)
  simp only [Act.put, List.getElem_toArray, List.getElem_cons_zero, List.getElem_cons_succ, List.setIfInBounds_toArray, List.set_cons_zero, List.set_cons_succ]
  refine wpAnyH_take (i := 6) (v := ?_) rfl (by kernel_rfl) (by kernel_rfl) (by kernel_rfl) (fun _ _ _ h => h) (Or.inl ⟨by rfl, ?_⟩) hH ?_
  rotate_left
  · ((intro W hW; clear hW; go_simp) <;> with_reducible rfl)
  simp only [Act.put, List.getElem_toArray, List.getElem_cons_zero, List.getElem_cons_succ, List.setIfInBounds_toArray, List.set_cons_zero, List.set_cons_succ]
  refine wpAnyH_take (i := 7) (v := ?_) rfl (by kernel_rfl) (by kernel_rfl) (by kernel_rfl) (fun _ _ _ h => h) (Or.inl ⟨by rfl, ?_⟩) hH ?_
  rotate_left
  · ((intro W hW; clear hW; go_simp) <;> with_reducible rfl)
  simp only [Act.put, List.getElem_toArray, List.getElem_cons_zero, List.getElem_cons_succ, List.setIfInBounds_toArray, List.set_cons_zero, List.set_cons_succ]
  refine wpAnyH_ready (rs := [8]) (by kernel_rfl) (by simp) ?_
  refine AllReadyH.cons (o := _) rfl (fun K hK => ?_) AllReadyH.nil
  simp only [List.getElem_toArray, List.getElem_cons_zero, List.getElem_cons_succ]
  rw [if_pos (by rfl)]
  refine wp_copy_rowk (.tmp 50) (.tmp 53) 56 56 66 rfl Try.underlying56 sl_size ownN ((i + 1) * 15) q (cN - (i + 1)) ⟨gE, i * 15, none⟩ q (c - i) ((l.flatMap slE).drop (i * 15)) rfl rfl (by rw [HD.out, show Nat.min q q = q from Nat.min_self q]) (row_piece own _ _ (by rw [List.take_of_length_le (Nat.le_refl _)])) HPD.out HON.out _ rfl ?_
  intro w11 own_ gw
  clear own ownN
  have ownN := own_
  clear own_
  replace bel := bel.trans (Below.row gw HGN.out bel.size)
  clear gw
  refine hK.out _ _ trivial (fun hH2 => ?_)
  clear hK K
  simp only [Act.put, List.setIfInBounds_toArray, List.set_cons_zero, List.set_cons_succ]
  refine wpAnyH_done (by kernel_rfl) ?_ _
  go_wp2_with fail
  go_ret
  refine ⟨some ⟨gN, 0, none⟩, cN, rfl, ?_, grown_of_below bel, fun q hq _ => ne_off (Nat.ne_of_gt (Nat.lt_of_lt_of_le hq HGN.out))⟩
  rw [sl_insd, ← ins_cells2 (Z := zerosL (.agg #[.int .u8 0, .int .u8 0, .int .u8 0, .int .u8 0, .int .u8 0, .int .u8 0, .int .u8 0, .int .u8 0, .int .u8 0, .int .u8 0, .int .i64 0, .bool false, .bool false, .bool false, .int .i64 0]) p) (a := i * 15) (k := 15) (m := q * 15) (by have := HFL.out; omega) (by rw [zerosL_len _ _ sl_zs, HPQ.out, Nat.succ_mul]) (slE_len x), show i * 15 + 15 = (i + 1) * 15 by omega]
  exact owk_lo ownN HLO.out
set_option linter.unusedVariables false in
set_option linter.unusedSimpArgs false in
set_option maxRecDepth 100000 in
set_option maxHeartbeats 16000000 in
theorem sl_ins_room {lo n c vb : Nat} {gE i : Nat} {l : List Sd} {x : Sd} (w : World) (hlo : lo ≤ w.heap.size) (hown : w.ownsRow lo 66 15 (.slice (some ⟨gE, 0, none⟩) n c) n (l.flatMap slE)) (hn : n ≤ 1000) (hvb : w.heap[vb]? = some (.cells (slE x).toArray 66 (0, 0))) (hve : Ofs (.slice (some ⟨gE, 0, none⟩) n c) vb) (hi : i < n) (hg : n + 1 ≤ c) : Calls Try.prog 37 #[.slice (some ⟨gE, 0, none⟩) n c, .int .i64 (i : Int), .slice (some ⟨vb, 0, none⟩) 1 1] w fun e w' => ∃ A' c', e = .returned (.slice A' (n + 1) c') ∧ w'.ownsRow lo 66 15 (.slice A' (n + 1) c') (n + 1) ((l.take i ++ x :: l.drop i).flatMap slE) ∧ w.grownBy w' (Value.ownBlock (.slice (some ⟨gE, 0, none⟩) n c)) ∧ (∀ q, q < w.heap.size → Ofs (.slice (some ⟨gE, 0, none⟩) n c) q → Ofs (.slice A' (n + 1) c') q) := by
  have own := hown
  clear hown
  have hl := row_len (by decide) slE_len own
  have hcap := row_cap own
  have HCAP := Lib.hid hcap
  have HLL := Lib.hid hl
  have HLO := Lib.hid hlo
  obtain ⟨ie, hie, hie0, hie1, hie2⟩ := info_parts Try.info_slot
  have n0 : (0 : Int) ≤ n := by omega
  have n1 : (n : Int) ≤ 1000 := by omega
  obtain ⟨q, hq⟩ : ∃ q, i + q = n := ⟨n - i, by omega⟩
  have i0 : (0 : Int) ≤ i := by omega
  have i1 : (i : Int) < n := by omega
  have hne : ((i : Int) == n) = false := beq_eq_false_iff_ne.2 (by omega)
  have hw1 : IntKind.i64.wrap ((i : Int) + 1) = (i : Int) + 1 := IntWalk.i64_in _ (by omega)
  have r53 := fun W => sl_back gE n c i (by omega) (by omega) W
  rw [show n - i = q by omega] at r53
  have HFL : Hid (15 * i + q * 15 = (l.flatMap slE).length) := Lib.hid (by rw [flat_len slE_len, hl, ← hq, Nat.add_mul]; omega)
  have HON : Hid (∀ v ∈ (l.flatMap slE).drop (i * 15), v.oneCell' = true) := Lib.hid (fun v hv => by obtain ⟨y, _, hy⟩ := List.mem_flatMap.1 (List.mem_of_mem_drop hv); exact slE_one y v hy)
  have HQ := Lib.hid hq
  have HD : Hid (((l.flatMap slE).drop (i * 15)).length = q * 15) := Lib.hid (by rw [List.length_drop]; have := HFL.out; omega)
  have HVE := Lib.hid hve
  obtain ⟨ys, hys, own1⟩ := row_more own (m := 1) (by omega)
  have hov := sl_ov (o := (i + 1) * 15) (lb := q) (cb := c - (i + 1)) hvb (slE_len x) own1 (by omega) (off_ne hve)
  have r60 := fun W => sl_front gE n c (n + 1) (by omega) W
  have r66 := fun W => sl_back gE (n + 1) c (i + 1) (by omega) (by omega) W
  have r76 := fun W => sl_back gE (n + 1) c i (by omega) (by omega) W
  simp only [Int.natCast_add, Int.natCast_one] at r60 r66
  rw [show n + 1 - (i + 1) = q by omega] at r66
  rw [show n + 1 - i = q + 1 by omega] at r76
  have hcg : decide ((c : Int) < (n : Int) + 1) = false := decide_eq_false (by omega)
  have HYS : Hid (ys.length = 15) := Lib.hid (by omega)
  have HMX : Hid ((slE x).length = Nat.min 1 (q + 1) * 15) := Lib.hid (by rw [slE_len, show Nat.min 1 (q + 1) = 1 by simp [Nat.min_def]])
  have HPX : Hid (i * 15 + (slE x).length ≤ (n + 1) * 15) := Lib.hid (by rw [slE_len]; omega)
  have HPD : Hid ((i + 1) * 15 + ((l.flatMap slE).drop (i * 15)).length ≤ (n + 1) * 15) := Lib.hid (by rw [HD.out]; omega)
  have HMD : Hid (((l.flatMap slE).drop (i * 15)).length = Nat.min (q + 1) q * 15) := Lib.hid (by rw [HD.out, show Nat.min (q + 1) q = q by simp [Nat.min_def]])
  have HPC : Hid (((l.flatMap slE ++ ys).drop (i * 15)).take ((l.flatMap slE).drop (i * 15)).length = (l.flatMap slE).drop (i * 15)) := Lib.hid (by rw [List.drop_append_of_le_length (by have := HFL.out; omega)]; exact List.take_left' rfl)
  have HVN : Hid (Hid (vb ≠ gE)) := Lib.hid (Lib.hid (off_ne hve))
  have gk := World.grownBy.refl w (some gE)
  clear own
  have own := own1
  clear own1 hys hl hcap hlo hq hi hg hn hve
  have bel := Below.refl w.heap.size w
  go_enter Try.func37, Try.ntmps37
  have R12 := r53
  have R60 := r60
  have R66 := r66
  have R67 := hov
  go_wp2_with fail
  clear R12 R60 R66 R67
  replace bel := bel.drew
  replace own := World.ownsRow.drew own
  replace gk := gk_drew gk
  replace hvb := heap_drew hvb
  refine wp_region_held_drew (S := fun _ => True) (by kernel_rfl) trivial (fun hH => ?_)
  generalize w.drew = w1 at bel own gk hvb hH ⊢
  refine wpAnyH_take (i := 0) (v := ?_) rfl (by kernel_rfl) (by kernel_rfl) (by kernel_rfl) (fun _ _ _ h => h) (Or.inl ⟨by rfl, ?_⟩) hH ?_
  rotate_left
  · ((intro W hW; clear hW; go_simp) <;> with_reducible rfl)
  simp only [Act.put, List.getElem_toArray, List.getElem_cons_zero, List.setIfInBounds_toArray, List.set_cons_zero, List.set_cons_succ]
  refine wpAnyH_take (i := 1) (v := ?_) rfl (by kernel_rfl) (by kernel_rfl) (by kernel_rfl) (fun _ _ _ h => h) (Or.inl ⟨by rfl, ?_⟩) hH ?_
  rotate_left
  · ((intro W hW; clear hW; go_simp) <;> with_reducible rfl)
  simp only [Act.put, List.getElem_toArray, List.getElem_cons_zero, List.getElem_cons_succ, List.setIfInBounds_toArray, List.set_cons_zero, List.set_cons_succ]
  refine wpAnyH_take (i := 2) (v := ?_) rfl (by kernel_rfl) (by kernel_rfl) (by kernel_rfl) (fun _ _ _ h => h) (Or.inl ⟨by rfl, ?_⟩) hH ?_
  rotate_left
  · ((intro W hW; clear hW; go_simp) <;> with_reducible rfl)
  simp only [Act.put, List.getElem_toArray, List.getElem_cons_zero, List.getElem_cons_succ, List.setIfInBounds_toArray, List.set_cons_zero, List.set_cons_succ]
  refine wpAnyH_take (i := 3) (v := ?_) rfl (by kernel_rfl) (by kernel_rfl) (by kernel_rfl) (fun _ _ _ h => h) (Or.inl ⟨by rfl, ?_⟩) hH ?_
  rotate_left
  · ((intro W hW; clear hW; go_simp) <;> with_reducible rfl)
  simp only [Act.put, List.getElem_toArray, List.getElem_cons_zero, List.getElem_cons_succ, List.setIfInBounds_toArray, List.set_cons_zero, List.set_cons_succ]
  refine wpAnyH_take (i := 4) (v := ?_) rfl (by kernel_rfl) (by kernel_rfl) (by kernel_rfl) (fun _ _ _ h => h) (Or.inl ⟨by rfl, ?_⟩) hH ?_
  rotate_left
  · ((intro W hW; clear hW; go_simp) <;> with_reducible rfl)
  simp only [Act.put, List.getElem_toArray, List.getElem_cons_zero, List.getElem_cons_succ, List.setIfInBounds_toArray, List.set_cons_zero, List.set_cons_succ]
  refine wpAnyH_take (i := 5) (v := ?_) rfl (by kernel_rfl) (by kernel_rfl) (by kernel_rfl) (fun _ _ _ h => h) (Or.inl ⟨by rfl, ?_⟩) hH ?_
  rotate_left
  · ((intro W hW; clear hW; go_simp) <;> with_reducible rfl)
  simp only [Act.put, List.getElem_toArray, List.getElem_cons_zero, List.getElem_cons_succ, List.setIfInBounds_toArray, List.set_cons_zero, List.set_cons_succ]
  refine wpAnyH_take (i := 6) (v := ?_) rfl (by kernel_rfl) (by kernel_rfl) (by kernel_rfl) (fun _ _ _ h => h) (Or.inl ⟨by rfl, ?_⟩) hH ?_
  rotate_left
  · ((intro W hW; clear hW; go_simp) <;> with_reducible rfl)
  simp only [Act.put, List.getElem_toArray, List.getElem_cons_zero, List.getElem_cons_succ, List.setIfInBounds_toArray, List.set_cons_zero, List.set_cons_succ]
  refine wpAnyH_take (i := 7) (v := ?_) rfl (by kernel_rfl) (by kernel_rfl) (by kernel_rfl) (fun _ _ _ h => h) (Or.inl ⟨by rfl, ?_⟩) hH ?_
  rotate_left
  · ((intro W hW; clear hW; go_simp) <;> with_reducible rfl)
  simp only [Act.put, List.getElem_toArray, List.getElem_cons_zero, List.getElem_cons_succ, List.setIfInBounds_toArray, List.set_cons_zero, List.set_cons_succ]
  refine wpAnyH_ready (rs := [8]) (by kernel_rfl) (by simp) ?_
  refine AllReadyH.cons (o := _) rfl (fun K hK => ?_) AllReadyH.nil
  simp only [List.getElem_toArray, List.getElem_cons_zero, List.getElem_cons_succ]
  rw [if_pos (by rfl)]
  refine wp_copy_rowk (.tmp 73) (.tmp 76) 56 56 66 rfl Try.underlying56 sl_size own ((i + 1) * 15) q (c - (i + 1)) ⟨gE, i * 15, none⟩ (q + 1) (c - i) ((l.flatMap slE).drop (i * 15)) rfl rfl HMD.out (row_piece own _ _ HPC.out) HPD.out HON.out _ rfl ?_
  intro w9 own_ gw
  clear own
  have own := own_
  clear own_
  replace gk := gk.trans gw
  replace hvb := blk_a hvb gw HVN.out
  clear gw bel
  refine hK.out _ _ trivial (fun hH2 => ?_)
  clear hK K
  simp only [Act.put, List.setIfInBounds_toArray, List.set_cons_zero, List.set_cons_succ]
  refine wpAnyH_done (by kernel_rfl) ?_ _
  have R80 := r76
  go_wp2_with (first | ((with_reducible show wpList _ _ _ (⟨some 82, _, _, _, _, _⟩ :: _) _ _); refine wpList_copy_rowk rfl (.tmp 80) (.tmp 81) 56 56 66 rfl Try.underlying56 sl_size own (i * 15) (q + 1) (c - i) ⟨vb, 0, none⟩ 1 1 (slE x) rfl rfl HMX.out (sl_vsrc hvb) HPX.out (slE_one x) _ rfl ?_; intro w10 own_ gw; clear own; have own := own_; clear own_; replace gk := gk.trans gw; clear gw hvb))
  try clear R80
  go_ret
  refine ⟨some ⟨gE, 0, none⟩, c, rfl, ?_, gk, fun _ _ h => h⟩
  rw [show (i + 1) * 15 = i * 15 + 15 by omega, ins_cells (m := q * 15) (by have := HFL.out; omega) HYS.out (slE_len x)] at own
  rw [sl_insd]
  exact own
theorem sl_insert {lo n c vb : Nat} {i : Nat} {A : Option Addr} {l : List Sd} {x : Sd} (w : World) (hlo : lo ≤ w.heap.size) (hown : w.ownsRow lo 66 15 (.slice A n c) n (l.flatMap slE)) (hn : n ≤ 1000) (hvb : w.heap[vb]? = some (.cells (slE x).toArray 66 (0, 0))) (hve : Ofs (.slice A n c) vb) (hi : i ≤ n) : Calls Try.prog 37 #[.slice A n c, .int .i64 (i : Int), .slice (some ⟨vb, 0, none⟩) 1 1] w fun e w' => ∃ A' c', e = .returned (.slice A' (n + 1) c') ∧ w'.ownsRow lo 66 15 (.slice A' (n + 1) c') (n + 1) ((l.take i ++ x :: l.drop i).flatMap slE) ∧ w.grownBy w' (Value.ownBlock (.slice A n c)) ∧ (∀ q, q < w.heap.size → Ofs (.slice A n c) q → Ofs (.slice A' (n + 1) c') q) := by
  rcases Nat.lt_or_ge i n with h | h
  · obtain ⟨gE, rfl, _⟩ := row_at hown (by omega)
    rcases Nat.lt_or_ge c (n + 1) with h2 | h2
    · exact sl_ins_grow w hlo hown hn hvb hve h h2
    · exact sl_ins_room w hlo hown hn hvb hve h h2
  · obtain rfl : i = n := by omega
    exact sl_ins_end w hlo hown hn hvb
end Go.Proofs.Ythcjepafcemmnaa
