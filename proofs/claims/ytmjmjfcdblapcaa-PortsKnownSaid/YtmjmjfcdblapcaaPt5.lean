/- slices.Insert, slices.Delete, slices.Clone over rows of mappings. -/
import Derived.Test.YtmjmjfcdblapcaaPt4
import Derived.Test.YtmjmjfcdblapcaaNrk
namespace Go.Proofs.Ytmjmjfcdblapcaa
open Go.RowKit

theorem Try.info_map : (Try.prog.info? 31).map (fun i => (i.zero, i.size, i.bytes)) = some (some (.agg #[.int .i64 0, .int .i64 0, .int .u8 0, .int .u8 0, .int .u8 0, .int .u8 0, .int .i64 0, .int .i64 0, .int .i64 0]), 9, 48) := by kernel_rfl
theorem mp_elem : Try.prog.underlying 37 = some (.slice (Try.prog.elem 37)) := by kernel_rfl
theorem mp_el : Try.prog.elem 37 = 31 := by kernel_rfl
theorem mp_sz (w : World) : (Go.sizeOf 31).run Try.prog w = .ok 9 w := by kernel_rfl
theorem mp_zero : (Try.prog.info? 31).bind (·.zero) = some (.agg #[.int .i64 0, .int .i64 0, .int .u8 0, .int .u8 0, .int .u8 0, .int .u8 0, .int .i64 0, .int .i64 0, .int .i64 0]) := by kernel_rfl
theorem mp_zs : (Value.cells (.agg #[.int .i64 0, .int .i64 0, .int .u8 0, .int .u8 0, .int .u8 0, .int .u8 0, .int .i64 0, .int .i64 0, .int .i64 0])).size = 9 := by kernel_rfl
theorem mp_z1 : (Value.cells (.agg #[.int .i64 0, .int .i64 0, .int .u8 0, .int .u8 0, .int .u8 0, .int .u8 0, .int .i64 0, .int .i64 0, .int .i64 0])).all (·.oneCell') = true := by kernel_rfl
theorem mp_size : (Try.prog.info? 31).map (·.size) = some 9 := by kernel_rfl
/-- Pieces of a row. -/
theorem mp_front (g n c : Nat) (i : Nat) (hi : i ≤ c) (W : World) : (Instr.slice 37 (.slice (some ⟨g, 0, none⟩) n c) none (some (.int .i64 (i : Int))) none).run Try.prog W = .ok (.slice (some ⟨g, 0, none⟩) i c) W := by
  rw [run_slice_h W 37 _ n c mp_elem .i64 _ (by omega) (by omega), mp_el, mp_sz]
  simp [Result.andThen, sliced, Addr.add]
theorem mp_back (g n c : Nat) (i : Nat) (hi : i ≤ n) (hc : i < c) (W : World) : (Instr.slice 37 (.slice (some ⟨g, 0, none⟩) n c) (some (.int .i64 (i : Int))) none none).run Try.prog W = .ok (.slice (some ⟨g, i * 9, none⟩) (n - i) (c - i)) W := by
  rw [run_slice_l W 37 _ n c mp_elem .i64 _ (by omega) (by omega), mp_el, mp_sz]
  simp [Result.andThen, sliced, Addr.add_lit, show ¬ c = i by omega]
theorem mp_backany (A : Option Addr) (n c : Nat) (i : Nat) (hi : i ≤ n) : ∃ v, ∀ W, (Instr.slice 37 (.slice A n c) (some (.int .i64 (i : Int))) none none).run Try.prog W = .ok v W := by
  refine ⟨sliced A i n c 9, fun W => ?_⟩
  rw [run_slice_l W 37 _ n c mp_elem .i64 _ (by omega) (by omega), mp_el, mp_sz]
  simp [Result.andThen]
theorem mp_tail (g n c : Nat) (i : Nat) (hi : i ≤ n) : ∃ ad c2, (∀ W, (Instr.slice 37 (.slice (some ⟨g, 0, none⟩) n c) (some (.int .i64 (i : Int))) none none).run Try.prog W = .ok (.slice (some ad) (n - i) c2) W) ∧ (i < c → ad = ⟨g, i * 9, none⟩) := by
  refine ⟨if c = i then ⟨g, 0, none⟩ else ⟨g, i * 9, none⟩, c - i, fun W => ?_, fun h => by rw [if_neg (by omega)]⟩
  rw [run_slice_l W 37 _ n c mp_elem .i64 _ (by omega) (by omega), mp_el, mp_sz]
  by_cases h : c = i <;> simp [Result.andThen, sliced, Addr.add_lit, h]
theorem mp_two (g n c : Nat) (i j : Nat) (hi : i ≤ j) (hj : j ≤ c) (hc : i < c) (W : World) : (Instr.slice 37 (.slice (some ⟨g, 0, none⟩) n c) (some (.int .i64 (i : Int))) (some (.int .i64 (j : Int))) none).run Try.prog W = .ok (.slice (some ⟨g, i * 9, none⟩) (j - i) (c - i)) W := by
  rw [run_slice_lh W 37 _ n c mp_elem .i64 .i64 _ _ (by omega) (by omega) (by omega), mp_el, mp_sz]
  simp [Result.andThen, sliced, Addr.add_lit, show ¬ c = i by omega]
theorem mp_three (A : Option Addr) (n c : Nat) (i j m : Nat) (h1 : i ≤ j) (h2 : j ≤ m) (h3 : m ≤ c) : ∃ v, ∀ W, (Instr.slice 37 (.slice A n c) (some (.int .i64 (i : Int))) (some (.int .i64 (j : Int))) (some (.int .i64 (m : Int)))).run Try.prog W = .ok v W := by
  refine ⟨sliced A i j m 9, fun W => ?_⟩
  rw [run_slice_lhm W 37 _ n c mp_elem .i64 .i64 .i64 _ _ _ (by omega) (by omega) (by omega) (by omega), mp_el, mp_sz]
  simp [Result.andThen]
theorem mp_ov {w : World} {vb gE o lb cb : Nat} {n c lo : Nat} {xs cs : List Value} (hvb : w.heap[vb]? = some (.cells cs.toArray 31 (0, 0))) (hcs : cs.length = 9) (own : w.ownsRow lo 31 9 (.slice (some ⟨gE, 0, none⟩) n c) n xs) (hn : 0 < n) (hne : vb ≠ gE) : (callFunc 59 #[.slice (some ⟨vb, 0, none⟩) 1 1, .slice (some ⟨gE, o, none⟩) lb cb]).run Try.prog w = .ok (.value (.bool false)) w := by
  obtain ⟨_, cur, hb, hh, h1, h2, hs, _⟩ := row_of own
  have hc0 : 0 < c := by omega
  rw [run_callFunc_extern (f := 59) (fn := Try.f59) (by kernel_rfl) (by kernel_rfl) (by kernel_rfl) (by kernel_rfl) (e := Extern.SlicesOverlaps.overlaps #[37, 37] #[4]) (by kernel_rfl),
    Lib.run_overlaps_apart w 37 4 31 Try.underlying37 9 mp_sz ⟨vb, 0, none⟩ ⟨gE, o, none⟩ 1 1 lb cb hne 31 31 9 (c * 9) (by simp [World.shape?, hvb, hcs]) (by simp [World.shape?, hh, hs]) (by omega) (by simp [World.frozen?, hvb]) (by simp [World.frozen?, hvb])]
  rfl
theorem mp_vsrc {w : World} {vb : Nat} {x : Mp} {T : TypeId} {fr : Nat × Nat} (hvb : w.heap[vb]? = some (.cells (mpE x).toArray T fr)) : ∀ j v, (mpE x)[j]? = some v → w.cell? ((⟨vb, 0, none⟩ : Addr).add j) = some v := fun j v hv => by
  rw [Addr.add_lit, Nat.zero_add, cell_of_row w vb j _ T fr hvb]
  simpa using hv
theorem mp_insd {l : List Mp} {x : Mp} {i : Nat} : (l.take i ++ x :: l.drop i).flatMap mpE = (l.flatMap mpE).take (i * 9) ++ mpE x ++ (l.flatMap mpE).drop (i * 9) := by
  rw [List.flatMap_append, List.flatMap_cons, flat_take mpE_len, flat_drop mpE_len, List.append_assoc]
set_option linter.unusedVariables false in
set_option linter.unusedSimpArgs false in
set_option maxRecDepth 100000 in
set_option maxHeartbeats 16000000 in
theorem mp_ins_end {lo n c vb : Nat} {A : Option Addr} {l : List Mp} {x : Mp} (w : World) (hlo : lo ≤ w.heap.size) (hown : w.ownsRow lo 31 9 (.slice A n c) n (l.flatMap mpE)) (hn : n ≤ 1000) (hvb : w.heap[vb]? = some (.cells (mpE x).toArray 31 (0, 0))) : Calls Try.prog 46 #[.slice A n c, .int .i64 (n : Int), .slice (some ⟨vb, 0, none⟩) 1 1] w fun e w' => ∃ A' c', e = .returned (.slice A' (n + 1) c') ∧ w'.ownsRow lo 31 9 (.slice A' (n + 1) c') (n + 1) ((l.take n ++ x :: l.drop n).flatMap mpE) ∧ w.grownBy w' (Value.ownBlock (.slice A n c)) ∧ (∀ q, q < w.heap.size → Ofs (.slice A n c) q → Ofs (.slice A' (n + 1) c') q) := by
  have own := hown
  clear hown
  have hl := row_len (by decide) mpE_len own
  have hcap := row_cap own
  have HCAP := Lib.hid hcap
  have HLL := Lib.hid hl
  have HLO := Lib.hid hlo
  obtain ⟨ie, hie, hie0, hie1, hie2⟩ := info_parts Try.info_map
  have n0 : (0 : Int) ≤ n := by omega
  have n1 : (n : Int) ≤ 1000 := by omega
  obtain ⟨v12, r12⟩ := mp_backany A n c n (Nat.le_refl _)
  have vv : Sle mpE 9 w (some ⟨vb, 0, none⟩) 1 1 [x] := sle_lit [x] (by decide) mpE_len (by simpa using hvb) rfl (by simp [maxLen])
  have HB1 : Hid (n + 1 ≤ maxLen) := Lib.hid (by unfold maxLen; omega)
  have HB2 : Hid ((n + 1) * 48 ≤ 140737488355328) := Lib.hid (by omega)
  clear hl hcap hlo
  have bel := Below.refl w.heap.size w
  go_enter Try.func46, Try.ntmps46
  have R12 := r12
  go_wp2_with (first | ((with_reducible show wpList _ _ _ (⟨some 25, _, _, _, _, _⟩ :: _) _ _); refine wpList_append_sle rfl (.tmp 23) (.tmp 24) 37 rfl lo 31 ie (.agg #[.int .i64 0, .int .i64 0, .int .u8 0, .int .u8 0, .int .u8 0, .int .u8 0, .int .i64 0, .int .i64 0, .int .i64 0]) 48 Try.underlying37 hie hie0 hie1 hie2 mp_zs mpE_one _ n l rfl own (some ⟨vb, 0, none⟩) 1 1 [x] rfl vv HB1.out HB2.out HLO.out ?_; intro v25 w9 own_ bb gw ofw; obtain ⟨A25, c25, rfl⟩ := owk_val own_))
  try clear R12
  go_ret
  exact ⟨A25, c25, rfl, by rw [List.take_of_length_le (by rw [HLL.out]; exact Nat.le_refl _), List.drop_eq_nil_of_le (by rw [HLL.out]; exact Nat.le_refl _)]; exact own_, gw, ofw⟩
set_option linter.unusedVariables false in
set_option linter.unusedSimpArgs false in
set_option maxRecDepth 100000 in
set_option maxHeartbeats 16000000 in
theorem mp_ins_grow {lo n c vb : Nat} {gE i : Nat} {l : List Mp} {x : Mp} (w : World) (hlo : lo ≤ w.heap.size) (hown : w.ownsRow lo 31 9 (.slice (some ⟨gE, 0, none⟩) n c) n (l.flatMap mpE)) (hn : n ≤ 1000) (hvb : w.heap[vb]? = some (.cells (mpE x).toArray 31 (0, 0))) (hve : Ofs (.slice (some ⟨gE, 0, none⟩) n c) vb) (hi : i < n) (hg : c < n + 1) : Calls Try.prog 46 #[.slice (some ⟨gE, 0, none⟩) n c, .int .i64 (i : Int), .slice (some ⟨vb, 0, none⟩) 1 1] w fun e w' => ∃ A' c', e = .returned (.slice A' (n + 1) c') ∧ w'.ownsRow lo 31 9 (.slice A' (n + 1) c') (n + 1) ((l.take i ++ x :: l.drop i).flatMap mpE) ∧ w.grownBy w' (Value.ownBlock (.slice (some ⟨gE, 0, none⟩) n c)) ∧ (∀ q, q < w.heap.size → Ofs (.slice (some ⟨gE, 0, none⟩) n c) q → Ofs (.slice A' (n + 1) c') q) := by
  have own := hown
  clear hown
  have hl := row_len (by decide) mpE_len own
  have hcap := row_cap own
  have HCAP := Lib.hid hcap
  have HLL := Lib.hid hl
  have HLO := Lib.hid hlo
  obtain ⟨ie, hie, hie0, hie1, hie2⟩ := info_parts Try.info_map
  have n0 : (0 : Int) ≤ n := by omega
  have n1 : (n : Int) ≤ 1000 := by omega
  obtain ⟨q, hq⟩ : ∃ q, i + q = n := ⟨n - i, by omega⟩
  have i0 : (0 : Int) ≤ i := by omega
  have i1 : (i : Int) < n := by omega
  have hne : ((i : Int) == n) = false := beq_eq_false_iff_ne.2 (by omega)
  have hw1 : IntKind.i64.wrap ((i : Int) + 1) = (i : Int) + 1 := IntWalk.i64_in _ (by omega)
  have r53 := fun W => mp_back gE n c i (by omega) (by omega) W
  rw [show n - i = q by omega] at r53
  have HFL : Hid (9 * i + q * 9 = (l.flatMap mpE).length) := Lib.hid (by rw [flat_len mpE_len, hl, ← hq, Nat.add_mul]; omega)
  have HON : Hid (∀ v ∈ (l.flatMap mpE).drop (i * 9), v.oneCell' = true) := Lib.hid (fun v hv => by obtain ⟨y, _, hy⟩ := List.mem_flatMap.1 (List.mem_of_mem_drop hv); exact mpE_one y v hy)
  have HQ := Lib.hid hq
  have HD : Hid (((l.flatMap mpE).drop (i * 9)).length = q * 9) := Lib.hid (by rw [List.length_drop]; have := HFL.out; omega)
  have HVE := Lib.hid hve
  obtain ⟨p, hp⟩ : ∃ p, i + p = n + 1 := ⟨n + 1 - i, by omega⟩
  have hpi : (n : Int) + 1 - i = (p : Int) := by omega
  have r34 := fun W => mp_front gE n c i (by omega) W
  have ownI := row_less own (i := i) (by omega)
  have HP0 : Hid (0 < p) := Lib.hid (by omega)
  have HPQ : Hid (p = q + 1) := Lib.hid (by omega)
  have HIP := Lib.hid hp
  have hcg : (c : Int) < (n : Int) + 1 := by omega
  have HCG : Hid (c < n + 1) := Lib.hid hg
  have HB1 : Hid (n + 1 ≤ maxLen) := Lib.hid (by unfold maxLen; omega)
  have HB2 : Hid ((n + 1) * 48 ≤ 140737488355328) := Lib.hid (by omega)
  have HMX : Hid ((mpE x).length = Nat.min 1 (q + 1) * 9) := Lib.hid (by rw [mpE_len, show Nat.min 1 (q + 1) = 1 by simp [Nat.min_def]])
  have HPX : Hid (i * 9 + (mpE x).length ≤ (n + 1) * 9) := Lib.hid (by rw [mpE_len]; omega)
  have HPD : Hid ((i + 1) * 9 + ((l.flatMap mpE).drop (i * 9)).length ≤ (n + 1) * 9) := Lib.hid (by rw [HD.out]; omega)
  have HGE : Hid (gE < w.heap.size) := Lib.hid (own.lt gE rfl).2
  clear hl hcap hlo hp hq hi hg hn hve
  have bel := Below.refl w.heap.size w
  go_enter Try.func46, Try.ntmps46
  have R12 := r53
  have R34 := r34
  go_wp2_with (first | ((with_reducible show wpList _ _ _ (⟨some 40, _, _, _, _, _⟩ :: _) _ _); refine wpList_append_fresh rfl (.tmp 34) (.tmp 39) 37 3 31 rfl ie (.agg #[.int .i64 0, .int .i64 0, .int .u8 0, .int .u8 0, .int .u8 0, .int .u8 0, .int .i64 0, .int .i64 0, .int .i64 0]) .i64 48 Try.underlying37 Try.underlying3 hie hie0 hie1 hie2 mp_zs (by decide) ownI .i64 p rfl rfl HP0.out (n + 1) HIP.out HCG.out HB1.out HB2.out ?_; intro gN cN w9 geN ownN bN; have hcN := row_cap ownN; have own9 := owk_under own bN; clear own; have own := own9; clear own9; replace hvb := blk_u hvb bN; replace bel := bel.trans bN; clear bN; have r43 := fun W => mp_back gN (n + 1) cN i (by omega) (by omega) W; have r50 := fun W => mp_back gN (n + 1) cN (i + 1) (by omega) (by omega) W; simp only [Int.natCast_add, Int.natCast_one] at r50; rw [show n + 1 - i = q + 1 by have := HQ.out; omega] at r43; rw [show n + 1 - (i + 1) = q by have := HQ.out; omega] at r50; have HGN := Lib.hid geN; clear hcN geN; have R43 := r43) | ((with_reducible show wpList _ _ _ (⟨some 45, _, _, _, _, _⟩ :: _) _ _); refine wpList_copy_rowk rfl (.tmp 43) (.tmp 44) 37 37 31 rfl Try.underlying37 mp_size ownN (i * 9) (q + 1) (cN - i) ⟨vb, 0, none⟩ 1 1 (mpE x) rfl rfl HMX.out (mp_vsrc hvb) HPX.out (mpE_one x) _ rfl ?_; intro w10 own_ gw; have own9 := owk_off own (ne_off (Nat.ne_of_lt (Nat.lt_of_lt_of_le HGE.out HGN.out))) gw; clear own ownN; have own := own9; have ownN := own_; clear own9 own_; replace bel := bel.trans (Below.row gw HGN.out bel.size); clear gw hvb))
  try clear R12
  try clear R34
  try clear R43
  replace bel := bel.drew
  replace own := World.ownsRow.drew own
  replace ownN := World.ownsRow.drew ownN
  refine wp_region_held_drew (S := fun _ => True) (by kernel_rfl) trivial (fun hH => ?_)
  generalize w10.drew = w1 at bel own ownN hH ⊢
  refine wpAnyH_take (i := 0) (v := ?_) rfl (by kernel_rfl) (by kernel_rfl) (by kernel_rfl) (fun _ _ _ h => h) (Or.inl ⟨by rfl, ?_⟩) hH ?_
  rotate_left
  · ((intro W hW; clear hW; go_simp) <;> with_reducible rfl)
  simp only [Act.put, List.getElem_toArray, List.getElem_cons_zero, List.setIfInBounds_toArray, List.set_cons_zero, List.set_cons_succ]
  refine wpAnyH_take (i := 1) (v := ?_) rfl (by kernel_rfl) (by kernel_rfl) (by kernel_rfl) (fun _ _ _ h => h) (Or.inl ⟨by rfl, ?_⟩) hH ?_
  rotate_left
  · ((intro W hW; clear hW; go_simp) <;> with_reducible rfl)
  simp only [Act.put, List.getElem_toArray, List.getElem_cons_zero, List.getElem_cons_succ, List.setIfInBounds_toArray, List.set_cons_zero, List.set_cons_succ]
  refine wpAnyH_take (i := 2) (v := ?_) rfl (by kernel_rfl) (by kernel_rfl) (by kernel_rfl) (fun _ _ _ h => h) (Or.inl ⟨by rfl, ?_⟩) hH ?_
  rotate_left
  · ((intro W hW; clear hW; go_simp) <;> with_reducible rfl)
  simp only [Act.put, List.getElem_toArray, List.getElem_cons_zero, List.getElem_cons_succ, List.setIfInBounds_toArray, List.set_cons_zero, List.set_cons_succ]
  refine wpAnyH_take (i := 3) (v := ?_) rfl (by kernel_rfl) (by kernel_rfl) (by kernel_rfl) (fun _ _ _ h => h) (Or.inl ⟨by rfl, ?_⟩) hH ?_
  rotate_left
  · ((intro W hW; clear hW; go_simp) <;> with_reducible rfl)
  simp only [Act.put, List.getElem_toArray, List.getElem_cons_zero, List.getElem_cons_succ, List.setIfInBounds_toArray, List.set_cons_zero, List.set_cons_succ]
  refine wpAnyH_take (i := 4) (v := ?_) rfl (by kernel_rfl) (by kernel_rfl) (by kernel_rfl) (fun _ _ _ h => h) (Or.inl ⟨by rfl, ?_⟩) hH ?_
  rotate_left
  · ((intro W hW; clear hW; go_simp) <;> with_reducible rfl)
  simp only [Act.put, List.getElem_toArray, List.getElem_cons_zero, List.getElem_cons_succ, List.setIfInBounds_toArray, List.set_cons_zero, List.set_cons_succ]
  refine wpAnyH_take (i := 5) (v := ?_) rfl (by kernel_rfl) (by kernel_rfl) (by kernel_rfl) (fun _ _ _ h => h) (Or.inl ⟨by rfl, ?_⟩) hH ?_
  rotate_left
  · ((intro W hW; clear hW; go_simp) <;> with_reducible rfl)
  simp only [Act.put, List.getElem_toArray, List.getElem_cons_zero, List.getElem_cons_succ, List.setIfInBounds_toArray, List.set_cons_zero, List.set_cons_succ]
  refine wpAnyH_take (i := 6) (v := ?_) rfl (by kernel_rfl) (by kernel_rfl) (by kernel_rfl) (fun _ _ _ h => h) (Or.inl ⟨by rfl, ?_⟩) hH ?_
  rotate_left
  · ((intro W hW; clear hW; go_simp) <;> with_reducible rfl)
  simp only [Act.put, List.getElem_toArray, List.getElem_cons_zero, List.getElem_cons_succ, List.setIfInBounds_toArray, List.set_cons_zero, List.set_cons_succ]
  refine wpAnyH_take (i := 7) (v := ?_) rfl (by kernel_rfl) (by kernel_rfl) (by kernel_rfl) (fun _ _ _ h => h) (Or.inl ⟨by rfl, ?_⟩) hH ?_
  rotate_left
  · ((intro W hW; clear hW; go_simp) <;> with_reducible rfl)
  simp only [Act.put, List.getElem_toArray, List.getElem_cons_zero, List.getElem_cons_succ, List.setIfInBounds_toArray, List.set_cons_zero, List.set_cons_succ]
  refine wpAnyH_ready (rs := [8]) (by kernel_rfl) (by simp) ?_
  refine AllReadyH.cons (o := _) rfl (fun K hK => ?_) AllReadyH.nil
  simp only [List.getElem_toArray, List.getElem_cons_zero, List.getElem_cons_succ]
  rw [if_pos (by rfl)]
  refine wp_copy_rowk (.tmp 50) (.tmp 53) 37 37 31 rfl Try.underlying37 mp_size ownN ((i + 1) * 9) q (cN - (i + 1)) ⟨gE, i * 9, none⟩ q (c - i) ((l.flatMap mpE).drop (i * 9)) rfl rfl (by rw [HD.out, show Nat.min q q = q from Nat.min_self q]) (row_piece own _ _ (by rw [List.take_of_length_le (Nat.le_refl _)])) HPD.out HON.out _ rfl ?_
  intro w11 own_ gw
  clear own ownN
  have ownN := own_
  clear own_
  replace bel := bel.trans (Below.row gw HGN.out bel.size)
  clear gw
  refine hK.out _ _ trivial (fun hH2 => ?_)
  clear hK K
  simp only [Act.put, List.setIfInBounds_toArray, List.set_cons_zero, List.set_cons_succ]
  refine wpAnyH_done (by kernel_rfl) ?_ _
  go_wp2_with fail
  go_ret
  refine ⟨some ⟨gN, 0, none⟩, cN, rfl, ?_, grown_of_below bel, fun q hq _ => ne_off (Nat.ne_of_gt (Nat.lt_of_lt_of_le hq HGN.out))⟩
  rw [mp_insd, ← ins_cells2 (Z := zerosL (.agg #[.int .i64 0, .int .i64 0, .int .u8 0, .int .u8 0, .int .u8 0, .int .u8 0, .int .i64 0, .int .i64 0, .int .i64 0]) p) (a := i * 9) (k := 9) (m := q * 9) (by have := HFL.out; omega) (by rw [zerosL_len _ _ mp_zs, HPQ.out, Nat.succ_mul]) (mpE_len x), show i * 9 + 9 = (i + 1) * 9 by omega]
  exact owk_lo ownN HLO.out
set_option linter.unusedVariables false in
set_option linter.unusedSimpArgs false in
set_option maxRecDepth 100000 in
set_option maxHeartbeats 16000000 in
theorem mp_ins_room {lo n c vb : Nat} {gE i : Nat} {l : List Mp} {x : Mp} (w : World) (hlo : lo ≤ w.heap.size) (hown : w.ownsRow lo 31 9 (.slice (some ⟨gE, 0, none⟩) n c) n (l.flatMap mpE)) (hn : n ≤ 1000) (hvb : w.heap[vb]? = some (.cells (mpE x).toArray 31 (0, 0))) (hve : Ofs (.slice (some ⟨gE, 0, none⟩) n c) vb) (hi : i < n) (hg : n + 1 ≤ c) : Calls Try.prog 46 #[.slice (some ⟨gE, 0, none⟩) n c, .int .i64 (i : Int), .slice (some ⟨vb, 0, none⟩) 1 1] w fun e w' => ∃ A' c', e = .returned (.slice A' (n + 1) c') ∧ w'.ownsRow lo 31 9 (.slice A' (n + 1) c') (n + 1) ((l.take i ++ x :: l.drop i).flatMap mpE) ∧ w.grownBy w' (Value.ownBlock (.slice (some ⟨gE, 0, none⟩) n c)) ∧ (∀ q, q < w.heap.size → Ofs (.slice (some ⟨gE, 0, none⟩) n c) q → Ofs (.slice A' (n + 1) c') q) := by
  have own := hown
  clear hown
  have hl := row_len (by decide) mpE_len own
  have hcap := row_cap own
  have HCAP := Lib.hid hcap
  have HLL := Lib.hid hl
  have HLO := Lib.hid hlo
  obtain ⟨ie, hie, hie0, hie1, hie2⟩ := info_parts Try.info_map
  have n0 : (0 : Int) ≤ n := by omega
  have n1 : (n : Int) ≤ 1000 := by omega
  obtain ⟨q, hq⟩ : ∃ q, i + q = n := ⟨n - i, by omega⟩
  have i0 : (0 : Int) ≤ i := by omega
  have i1 : (i : Int) < n := by omega
  have hne : ((i : Int) == n) = false := beq_eq_false_iff_ne.2 (by omega)
  have hw1 : IntKind.i64.wrap ((i : Int) + 1) = (i : Int) + 1 := IntWalk.i64_in _ (by omega)
  have r53 := fun W => mp_back gE n c i (by omega) (by omega) W
  rw [show n - i = q by omega] at r53
  have HFL : Hid (9 * i + q * 9 = (l.flatMap mpE).length) := Lib.hid (by rw [flat_len mpE_len, hl, ← hq, Nat.add_mul]; omega)
  have HON : Hid (∀ v ∈ (l.flatMap mpE).drop (i * 9), v.oneCell' = true) := Lib.hid (fun v hv => by obtain ⟨y, _, hy⟩ := List.mem_flatMap.1 (List.mem_of_mem_drop hv); exact mpE_one y v hy)
  have HQ := Lib.hid hq
  have HD : Hid (((l.flatMap mpE).drop (i * 9)).length = q * 9) := Lib.hid (by rw [List.length_drop]; have := HFL.out; omega)
  have HVE := Lib.hid hve
  obtain ⟨ys, hys, own1⟩ := row_more own (m := 1) (by omega)
  have hov := mp_ov (o := (i + 1) * 9) (lb := q) (cb := c - (i + 1)) hvb (mpE_len x) own1 (by omega) (off_ne hve)
  have r60 := fun W => mp_front gE n c (n + 1) (by omega) W
  have r66 := fun W => mp_back gE (n + 1) c (i + 1) (by omega) (by omega) W
  have r76 := fun W => mp_back gE (n + 1) c i (by omega) (by omega) W
  simp only [Int.natCast_add, Int.natCast_one] at r60 r66
  rw [show n + 1 - (i + 1) = q by omega] at r66
  rw [show n + 1 - i = q + 1 by omega] at r76
  have hcg : decide ((c : Int) < (n : Int) + 1) = false := decide_eq_false (by omega)
  have HYS : Hid (ys.length = 9) := Lib.hid (by omega)
  have HMX : Hid ((mpE x).length = Nat.min 1 (q + 1) * 9) := Lib.hid (by rw [mpE_len, show Nat.min 1 (q + 1) = 1 by simp [Nat.min_def]])
  have HPX : Hid (i * 9 + (mpE x).length ≤ (n + 1) * 9) := Lib.hid (by rw [mpE_len]; omega)
  have HPD : Hid ((i + 1) * 9 + ((l.flatMap mpE).drop (i * 9)).length ≤ (n + 1) * 9) := Lib.hid (by rw [HD.out]; omega)
  have HMD : Hid (((l.flatMap mpE).drop (i * 9)).length = Nat.min (q + 1) q * 9) := Lib.hid (by rw [HD.out, show Nat.min (q + 1) q = q by simp [Nat.min_def]])
  have HPC : Hid (((l.flatMap mpE ++ ys).drop (i * 9)).take ((l.flatMap mpE).drop (i * 9)).length = (l.flatMap mpE).drop (i * 9)) := Lib.hid (by rw [List.drop_append_of_le_length (by have := HFL.out; omega)]; exact List.take_left' rfl)
  have HVN : Hid (Hid (vb ≠ gE)) := Lib.hid (Lib.hid (off_ne hve))
  have gk := World.grownBy.refl w (some gE)
  clear own
  have own := own1
  clear own1 hys hl hcap hlo hq hi hg hn hve
  have bel := Below.refl w.heap.size w
  go_enter Try.func46, Try.ntmps46
  have R12 := r53
  have R60 := r60
  have R66 := r66
  have R67 := hov
  go_wp2_with fail
  clear R12 R60 R66 R67
  replace bel := bel.drew
  replace own := World.ownsRow.drew own
  replace gk := gk_drew gk
  replace hvb := heap_drew hvb
  refine wp_region_held_drew (S := fun _ => True) (by kernel_rfl) trivial (fun hH => ?_)
  generalize w.drew = w1 at bel own gk hvb hH ⊢
  refine wpAnyH_take (i := 0) (v := ?_) rfl (by kernel_rfl) (by kernel_rfl) (by kernel_rfl) (fun _ _ _ h => h) (Or.inl ⟨by rfl, ?_⟩) hH ?_
  rotate_left
  · ((intro W hW; clear hW; go_simp) <;> with_reducible rfl)
  simp only [Act.put, List.getElem_toArray, List.getElem_cons_zero, List.setIfInBounds_toArray, List.set_cons_zero, List.set_cons_succ]
  refine wpAnyH_take (i := 1) (v := ?_) rfl (by kernel_rfl) (by kernel_rfl) (by kernel_rfl) (fun _ _ _ h => h) (Or.inl ⟨by rfl, ?_⟩) hH ?_
  rotate_left
  · ((intro W hW; clear hW; go_simp) <;> with_reducible rfl)
  simp only [Act.put, List.getElem_toArray, List.getElem_cons_zero, List.getElem_cons_succ, List.setIfInBounds_toArray, List.set_cons_zero, List.set_cons_succ]
  refine wpAnyH_take (i := 2) (v := ?_) rfl (by kernel_rfl) (by kernel_rfl) (by kernel_rfl) (fun _ _ _ h => h) (Or.inl ⟨by rfl, ?_⟩) hH ?_
  rotate_left
  · ((intro W hW; clear hW; go_simp) <;> with_reducible rfl)
  simp only [Act.put, List.getElem_toArray, List.getElem_cons_zero, List.getElem_cons_succ, List.setIfInBounds_toArray, List.set_cons_zero, List.set_cons_succ]
  refine wpAnyH_take (i := 3) (v := ?_) rfl (by kernel_rfl) (by kernel_rfl) (by kernel_rfl) (fun _ _ _ h => h) (Or.inl ⟨by rfl, ?_⟩) hH ?_
  rotate_left
  · ((intro W hW; clear hW; go_simp) <;> with_reducible rfl)
  simp only [Act.put, List.getElem_toArray, List.getElem_cons_zero, List.getElem_cons_succ, List.setIfInBounds_toArray, List.set_cons_zero, List.set_cons_succ]
  refine wpAnyH_take (i := 4) (v := ?_) rfl (by kernel_rfl) (by kernel_rfl) (by kernel_rfl) (fun _ _ _ h => h) (Or.inl ⟨by rfl, ?_⟩) hH ?_
  rotate_left
  · ((intro W hW; clear hW; go_simp) <;> with_reducible rfl)
  simp only [Act.put, List.getElem_toArray, List.getElem_cons_zero, List.getElem_cons_succ, List.setIfInBounds_toArray, List.set_cons_zero, List.set_cons_succ]
  refine wpAnyH_take (i := 5) (v := ?_) rfl (by kernel_rfl) (by kernel_rfl) (by kernel_rfl) (fun _ _ _ h => h) (Or.inl ⟨by rfl, ?_⟩) hH ?_
  rotate_left
  · ((intro W hW; clear hW; go_simp) <;> with_reducible rfl)
  simp only [Act.put, List.getElem_toArray, List.getElem_cons_zero, List.getElem_cons_succ, List.setIfInBounds_toArray, List.set_cons_zero, List.set_cons_succ]
  refine wpAnyH_take (i := 6) (v := ?_) rfl (by kernel_rfl) (by kernel_rfl) (by kernel_rfl) (fun _ _ _ h => h) (Or.inl ⟨by rfl, ?_⟩) hH ?_
  rotate_left
  · ((intro W hW; clear hW; go_simp) <;> with_reducible rfl)
  simp only [Act.put, List.getElem_toArray, List.getElem_cons_zero, List.getElem_cons_succ, List.setIfInBounds_toArray, List.set_cons_zero, List.set_cons_succ]
  refine wpAnyH_take (i := 7) (v := ?_) rfl (by kernel_rfl) (by kernel_rfl) (by kernel_rfl) (fun _ _ _ h => h) (Or.inl ⟨by rfl, ?_⟩) hH ?_
  rotate_left
  · ((intro W hW; clear hW; go_simp) <;> with_reducible rfl)
  simp only [Act.put, List.getElem_toArray, List.getElem_cons_zero, List.getElem_cons_succ, List.setIfInBounds_toArray, List.set_cons_zero, List.set_cons_succ]
  refine wpAnyH_ready (rs := [8]) (by kernel_rfl) (by simp) ?_
  refine AllReadyH.cons (o := _) rfl (fun K hK => ?_) AllReadyH.nil
  simp only [List.getElem_toArray, List.getElem_cons_zero, List.getElem_cons_succ]
  rw [if_pos (by rfl)]
  refine wp_copy_rowk (.tmp 73) (.tmp 76) 37 37 31 rfl Try.underlying37 mp_size own ((i + 1) * 9) q (c - (i + 1)) ⟨gE, i * 9, none⟩ (q + 1) (c - i) ((l.flatMap mpE).drop (i * 9)) rfl rfl HMD.out (row_piece own _ _ HPC.out) HPD.out HON.out _ rfl ?_
  intro w9 own_ gw
  clear own
  have own := own_
  clear own_
  replace gk := gk.trans gw
  replace hvb := blk_a hvb gw HVN.out
  clear gw bel
  refine hK.out _ _ trivial (fun hH2 => ?_)
  clear hK K
  simp only [Act.put, List.setIfInBounds_toArray, List.set_cons_zero, List.set_cons_succ]
  refine wpAnyH_done (by kernel_rfl) ?_ _
  have R80 := r76
  go_wp2_with (first | ((with_reducible show wpList _ _ _ (⟨some 82, _, _, _, _, _⟩ :: _) _ _); refine wpList_copy_rowk rfl (.tmp 80) (.tmp 81) 37 37 31 rfl Try.underlying37 mp_size own (i * 9) (q + 1) (c - i) ⟨vb, 0, none⟩ 1 1 (mpE x) rfl rfl HMX.out (mp_vsrc hvb) HPX.out (mpE_one x) _ rfl ?_; intro w10 own_ gw; clear own; have own := own_; clear own_; replace gk := gk.trans gw; clear gw hvb))
  try clear R80
  go_ret
  refine ⟨some ⟨gE, 0, none⟩, c, rfl, ?_, gk, fun _ _ h => h⟩
  rw [show (i + 1) * 9 = i * 9 + 9 by omega, ins_cells (m := q * 9) (by have := HFL.out; omega) HYS.out (mpE_len x)] at own
  rw [mp_insd]
  exact own
theorem mp_insert {lo n c vb : Nat} {i : Nat} {A : Option Addr} {l : List Mp} {x : Mp} (w : World) (hlo : lo ≤ w.heap.size) (hown : w.ownsRow lo 31 9 (.slice A n c) n (l.flatMap mpE)) (hn : n ≤ 1000) (hvb : w.heap[vb]? = some (.cells (mpE x).toArray 31 (0, 0))) (hve : Ofs (.slice A n c) vb) (hi : i ≤ n) : Calls Try.prog 46 #[.slice A n c, .int .i64 (i : Int), .slice (some ⟨vb, 0, none⟩) 1 1] w fun e w' => ∃ A' c', e = .returned (.slice A' (n + 1) c') ∧ w'.ownsRow lo 31 9 (.slice A' (n + 1) c') (n + 1) ((l.take i ++ x :: l.drop i).flatMap mpE) ∧ w.grownBy w' (Value.ownBlock (.slice A n c)) ∧ (∀ q, q < w.heap.size → Ofs (.slice A n c) q → Ofs (.slice A' (n + 1) c') q) := by
  rcases Nat.lt_or_ge i n with h | h
  · obtain ⟨gE, rfl, _⟩ := row_at hown (by omega)
    rcases Nat.lt_or_ge c (n + 1) with h2 | h2
    · exact mp_ins_grow w hlo hown hn hvb hve h h2
    · exact mp_ins_room w hlo hown hn hvb hve h h2
  · obtain rfl : i = n := by omega
    exact mp_ins_end w hlo hown hn hvb
theorem mp_src {lo g n c i : Nat} {l : List Mp} {ad : Addr} {w : World} (own : w.ownsRow lo 31 9 (.slice (some ⟨g, 0, none⟩) n c) n (l.flatMap mpE)) (hl : l.length = n) (had : i < c → ad = ⟨g, i * 9, none⟩) : ∀ j v, ((l.flatMap mpE).drop (i * 9))[j]? = some v → w.cell? (ad.add j) = some v := fun j v hv => by
  have hj := (List.getElem?_eq_some_iff.1 hv).1
  rw [List.length_drop, flat_len mpE_len, hl] at hj
  rw [had (by have := row_cap own; omega)]
  exact row_piece own _ _ (by rw [List.take_of_length_le (Nat.le_refl _)]) j v hv
theorem flat_erase_mp {l : List Mp} (i : Nat) : (l.eraseIdx i).flatMap mpE = (l.flatMap mpE).take (i * 9) ++ (l.flatMap mpE).drop ((i + 1) * 9) := by
  rw [List.eraseIdx_eq_take_drop_succ, List.flatMap_append, flat_take mpE_len, flat_drop mpE_len]
theorem mp_del {l : List Mp} {n m i q : Nat} (hl : l.length = n) (hm : m + 1 = n) (hq : i + q = m) : (((l.flatMap mpE).take (i * 9) ++ (l.flatMap mpE).drop ((i + 1) * 9) ++ (l.flatMap mpE).drop (i * 9 + ((l.flatMap mpE).drop ((i + 1) * 9)).length))).take (m * 9) = (l.eraseIdx i).flatMap mpE := by
  have h1 : ((l.flatMap mpE).take (i * 9)).length = i * 9 := by rw [List.length_take, flat_len mpE_len, hl]; omega
  have h2 : ((l.flatMap mpE).drop ((i + 1) * 9)).length = q * 9 := by rw [List.length_drop, flat_len mpE_len, hl]; omega
  rw [List.take_append_of_le_length (by rw [List.length_append, h1, h2]; omega), List.take_of_length_le (by rw [List.length_append, h1, h2]; omega), flat_erase_mp]
set_option linter.unusedVariables false in
set_option linter.unusedSimpArgs false in
set_option maxRecDepth 100000 in
set_option maxHeartbeats 16000000 in
theorem mp_delete {lo gE n c i : Nat} {l : List Mp} (w : World) (hown : w.ownsRow lo 31 9 (.slice (some ⟨gE, 0, none⟩) n c) n (l.flatMap mpE)) (hi : i < n) : Calls Try.prog 40 #[.slice (some ⟨gE, 0, none⟩) n c, .int .i64 (i : Int), .int .i64 ((i : Int) + 1)] w fun e w' => ∃ m, m + 1 = n ∧ e = .returned (.slice (some ⟨gE, 0, none⟩) m c) ∧ w'.ownsRow lo 31 9 (.slice (some ⟨gE, 0, none⟩) m c) m ((l.eraseIdx i).flatMap mpE) ∧ w.grownBy w' (some gE) := by
  have own := hown
  clear hown
  have hl := row_len (by decide) mpE_len own
  have hcap := row_cap own
  obtain ⟨ie, hie, hie0, hie1, hie2⟩ := info_parts Try.info_map
  obtain ⟨m, hnm⟩ : ∃ m, m + 1 = n := ⟨n - 1, by omega⟩
  obtain ⟨q, hq⟩ : ∃ q, i + q = m := ⟨m - i, by omega⟩
  obtain ⟨v13, r13⟩ := mp_three (some ⟨gE, 0, none⟩) n c i (i + 1) n (by omega) (by omega) (by omega)
  have r22 := fun W => mp_front gE n c i (by omega) W
  obtain ⟨ad, c25, r25, had⟩ := mp_tail gE n c (i + 1) (by omega)
  rw [show n - (i + 1) = q by omega] at r25
  have r31 := fun W => mp_two gE m c m n (by omega) (by omega) (by omega) W
  rw [show n - m = 1 by omega] at r31
  simp only [Int.natCast_add, Int.natCast_one] at r13 r25
  have hcl : ((l.flatMap mpE).drop ((i + 1) * 9)).length = q * 9 := by rw [List.length_drop, flat_len mpE_len, hl]; omega
  have HAD := Lib.hid had
  have HCL := Lib.hid hcl
  have HON : Hid (∀ v ∈ (l.flatMap mpE).drop ((i + 1) * 9), v.oneCell' = true) := Lib.hid (fun v hv => by obtain ⟨x, _, hx⟩ := List.mem_flatMap.1 (List.mem_of_mem_drop hv); exact mpE_one x v hx)
  have HM : Hid (m ≤ n) := Lib.hid (by omega)
  have HQ := Lib.hid hq
  have HNM := Lib.hid hnm
  have HLL := Lib.hid hl
  have hb_ := own.lt gE rfl
  have HGE := Lib.hid hb_.1
  have HLO : Hid (lo ≤ w.heap.size) := Lib.hid (by omega)
  have hne : ((i : Int) == i + 1) = false := beq_eq_false_iff_ne.2 (by omega)
  have gk := World.grownBy.refl w (some gE)
  clear hcl hq hnm hl had hcap hb_ hi
  have bel := Below.refl w.heap.size w
  go_enter Try.func40, Try.ntmps40
  have R13 := r13
  go_wp2_with fail
  clear R13
  replace bel := bel.drew
  replace own := World.ownsRow.drew own
  replace gk := gk_drew gk
  refine wp_region_held_drew (S := fun _ => True) (by kernel_rfl) trivial (fun hH => ?_)
  generalize w.drew = w1 at bel own gk hH ⊢
  refine wpAnyH_take (i := 0) (v := ?_) rfl (by kernel_rfl) (by kernel_rfl) (by kernel_rfl) (fun _ _ _ h => h) (Or.inl ⟨by rfl, ?_⟩) hH ?_
  rotate_left
  · ((intro W hW; clear hW; go_simp) <;> with_reducible rfl)
  simp only [Act.put, List.getElem_toArray, List.getElem_cons_zero, List.setIfInBounds_toArray, List.set_cons_zero, List.set_cons_succ]
  refine wpAnyH_take (i := 1) (v := ?_) rfl (by kernel_rfl) (by kernel_rfl) (by kernel_rfl) (fun _ _ _ h => h) (Or.inl ⟨by rfl, ?_⟩) hH ?_
  rotate_left
  · ((intro W hW; clear hW; go_simp) <;> with_reducible rfl)
  simp only [Act.put, List.getElem_toArray, List.getElem_cons_zero, List.getElem_cons_succ, List.setIfInBounds_toArray, List.set_cons_zero, List.set_cons_succ]
  refine wpAnyH_take (i := 2) (v := ?_) rfl (by kernel_rfl) (by kernel_rfl) (by kernel_rfl) (fun _ _ _ h => h) (Or.inl ⟨by rfl, ?_⟩) hH ?_
  rotate_left
  · ((intro W hW; clear hW; go_simp) <;> with_reducible rfl)
  simp only [Act.put, List.getElem_toArray, List.getElem_cons_zero, List.getElem_cons_succ, List.setIfInBounds_toArray, List.set_cons_zero, List.set_cons_succ]
  refine wpAnyH_take (i := 3) (v := ?_) rfl (by kernel_rfl) (by kernel_rfl) (by kernel_rfl) (fun _ _ _ h => h) (Or.inl ⟨by rfl, ?_⟩) hH ?_
  rotate_left
  · ((intro W hW; clear hW; go_simp) <;> with_reducible rfl)
  simp only [Act.put, List.getElem_toArray, List.getElem_cons_zero, List.getElem_cons_succ, List.setIfInBounds_toArray, List.set_cons_zero, List.set_cons_succ]
  refine wpAnyH_take (i := 4) (v := ?_) rfl (by kernel_rfl) (by kernel_rfl) (by kernel_rfl) (fun _ _ _ h => h) (Or.inl ⟨by rfl, ?_⟩) hH ?_
  rotate_left
  · ((intro W hW; clear hW; go_simp) <;> with_reducible rfl)
  simp only [Act.put, List.getElem_toArray, List.getElem_cons_zero, List.getElem_cons_succ, List.setIfInBounds_toArray, List.set_cons_zero, List.set_cons_succ]
  refine wpAnyH_take (i := 5) (v := ?_) rfl (by kernel_rfl) (by kernel_rfl) (by kernel_rfl) (fun _ _ _ h => h) (Or.inl ⟨by rfl, ?_⟩) hH ?_
  rotate_left
  · ((intro W hW; clear hW; go_simp) <;> with_reducible rfl)
  simp only [Act.put, List.getElem_toArray, List.getElem_cons_zero, List.getElem_cons_succ, List.setIfInBounds_toArray, List.set_cons_zero, List.set_cons_succ]
  refine wpAnyH_ready (rs := [6]) (by kernel_rfl) (by simp) ?_
  refine AllReadyH.cons (o := _) rfl (fun K hK => ?_) AllReadyH.nil
  simp only [List.getElem_toArray, List.getElem_cons_zero, List.getElem_cons_succ]
  rw [if_pos (by rfl)]
  refine wp_append_within (.tmp 22) (.tmp 25) 37 31 rfl ie Try.underlying37 hie hie1 own i q ad c25 ((l.flatMap mpE).drop ((i + 1) * 9)) rfl rfl HCL.out m HQ.out HM.out (mp_src own HLL.out HAD.out) HON.out ?_
  intro w9 own_ gw
  clear own
  have own := own_
  clear own_
  replace gk := gk.trans gw
  clear gw bel
  refine hK.out _ _ trivial (fun hH2 => ?_)
  clear hK K
  simp only [Act.put, List.setIfInBounds_toArray, List.set_cons_zero, List.set_cons_succ]
  refine wpAnyH_take (i := 7) (v := ?_) rfl (by kernel_rfl) (by kernel_rfl) (by kernel_rfl) (fun _ _ _ h => h) (Or.inl ⟨by rfl, ?_⟩) hH2 ?_
  rotate_left
  · ((intro W hW; clear hW; go_simp) <;> with_reducible rfl)
  simp only [Act.put, List.getElem_toArray, List.getElem_cons_zero, List.getElem_cons_succ, List.setIfInBounds_toArray, List.set_cons_zero]
  refine wpAnyH_done (by kernel_rfl) ?_ _
  have R31 := r31
  go_wp2_with (first | ((with_reducible show wpList _ _ _ (⟨none, Op.call _, _, _, _, _⟩ :: _) _ _); refine wpList_clear_row rfl (.tmp 31) 37 31 rfl (.agg #[.int .i64 0, .int .i64 0, .int .u8 0, .int .u8 0, .int .u8 0, .int .u8 0, .int .i64 0, .int .i64 0, .int .i64 0]) Try.underlying37 mp_zero mp_zs mp_z1 n HNM.out own (by decide) _ rfl ?_; intro w10 own_ gw; clear own; have own := own_; clear own_; replace gk := gk.trans gw; clear gw))
  try clear R31
  go_ret
  exact ⟨m, by rw [HNM.out], rfl, by rw [mp_del HLL.out HNM.out HQ.out] at own; exact own, gk⟩
set_option linter.unusedVariables false in
set_option linter.unusedSimpArgs false in
set_option maxRecDepth 100000 in
set_option maxHeartbeats 16000000 in
theorem clone_nil {n c : Nat} {l : List Mp} (w : World) (en : Sle mpE 9 w none n c l) : Calls Try.prog 41 #[.slice none n c] w fun e w' => ∃ A2 c2, e = .returned (.slice A2 n c2) ∧ w'.ownsRow w.heap.size 31 9 (.slice A2 n c2) n (l.flatMap mpE) ∧ Below w.heap.size w w' := by
  have r4 : ∀ W, (binOp .eql 37 (.slice none n c) (.slice none 0 0)).run Try.prog W = .ok (.bool true) W := fun W => by kernel_rfl
  have HN : Hid (n = 0) := Lib.hid (by rcases Nat.eq_zero_or_pos n with h_ | h_; exact h_; obtain ⟨g, o, e⟩ := en.place h_; cases e)
  have HL : Hid (l = []) := Lib.hid (List.eq_nil_of_length_eq_zero (en.1.trans HN.out))
  clear en
  have bel := Below.refl w.heap.size w
  go_enter Try.func41, Try.ntmps41
  have R4 := r4
  go_wp2_with fail
  clear R4
  go_ret
  exact ⟨none, 0, by rw [HN.out]; rfl, by rw [HN.out, HL.out]; exact World.ownsRow_nil _ _ _ _, bel⟩
set_option linter.unusedVariables false in
set_option linter.unusedSimpArgs false in
set_option maxRecDepth 100000 in
set_option maxHeartbeats 16000000 in
theorem clone_some {ad : Addr} {n c : Nat} {l : List Mp} (w : World) (en : Sle mpE 9 w (some ad) n c l) (hn : n ≤ 1000) : Calls Try.prog 41 #[.slice (some ad) n c] w fun e w' => ∃ A2 c2, e = .returned (.slice A2 n c2) ∧ w'.ownsRow w.heap.size 31 9 (.slice A2 n c2) n (l.flatMap mpE) ∧ Below w.heap.size w w' := by
  have r4 : ∀ W, (binOp .eql 37 (.slice (some ad) n c) (.slice none 0 0)).run Try.prog W = .ok (.bool false) W := fun W => by kernel_rfl
  obtain ⟨ie, hie, hie0, hie1, hie2⟩ := info_parts Try.info_map
  have bel := Below.refl w.heap.size w
  go_enter Try.func41, Try.ntmps41
  have R4 := r4
  go_wp2_with (first | ((with_reducible show wpList _ _ _ (⟨some 5, _, _, _, _, _⟩ :: _) _ _); refine wpList_lit_n rfl 37 31 0 _ rfl #[] (.agg #[.int .i64 0, .int .i64 0, .int .u8 0, .int .u8 0, .int .u8 0, .int .u8 0, .int .i64 0, .int .i64 0, .int .i64 0]) Try.underlying37 (by kernel_rfl) 9 (by kernel_rfl) (by decide) (by kernel_rfl) ?_; intro g5 w1 ge lt hh bb; have e0w := owk_lit (B := w.heap.size) ([] : List Mp) mpE_len (show w1.heap[g5]? = some (.cells (([] : List Mp).flatMap mpE).toArray 31 (0, 0)) from hh) ge 0 rfl (by simp [maxLen]); have e0 := (owk_sle (by decide) mpE_len e0w).1; have e0lo := bel.size; have e0ge := ge; have lz_e0 := bb.size; have bl_en_e0 := en.bl_new; replace en := en.below bb; replace bel := bel.trans (bb.mono bel.size); clear hh lt ge bb) | ((with_reducible show wpList _ _ _ (⟨some 7, _, _, _, _, _⟩ :: _) _ _); refine wpList_append_sle rfl (.tmp 5) (.tmp 6) 37 rfl (w.heap.size) 31 ie (.agg #[.int .i64 0, .int .i64 0, .int .u8 0, .int .u8 0, .int .u8 0, .int .u8 0, .int .i64 0, .int .i64 0, .int .i64 0]) 48 Try.underlying37 hie hie0 hie1 hie2 rfl mpE_one _ (0) ([]) rfl e0w (some ad) (n) (c) (l) rfl en (by unfold maxLen; omega) (by omega) lz_e0 ?_; intro v7 w2 own_ bb gw ofw; clear ofw; replace en := en.under bl_en_e0 bb; clear gw; replace bel := bel.trans (bb.mono e0lo); have lz_cl := Nat.le_trans lz_e0 bb.size; clear bb; clear e0 e0w lz_e0; replace own_ : w2.ownsRow (w.heap.size) 31 9 v7 (n) ((l : List Mp).flatMap mpE) := (by simpa using own_); obtain ⟨A7, c7, rfl⟩ := owk_val own_; have clw := own_; have cl := (owk_sle (by decide) mpE_len own_).1; have fr_cl := (owk_sle (by decide) mpE_len own_).2; clear own_))
  try clear R4
  go_ret
  exact ⟨A7, c7, rfl, owk_lo clw e0lo, bel⟩
theorem clone_any {A : Option Addr} {n c : Nat} {l : List Mp} (w : World) (en : Sle mpE 9 w A n c l) (hn : n ≤ 1000) : Calls Try.prog 41 #[.slice A n c] w fun e w' => ∃ A2 c2, e = .returned (.slice A2 n c2) ∧ w'.ownsRow w.heap.size 31 9 (.slice A2 n c2) n (l.flatMap mpE) ∧ Below w.heap.size w w' := by
  cases A with
  | none => exact clone_nil w en
  | some ad => exact clone_some w en hn
end Go.Proofs.Ytmjmjfcdblapcaa
