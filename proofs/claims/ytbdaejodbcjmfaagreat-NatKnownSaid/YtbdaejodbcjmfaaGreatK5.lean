/- Texts put together: Pt5, Pt6, Pt7. -/
import Derived.Test.YtbdaejodbcjmfaaGreatK1
import Derived.Test.YtbdaejodbcjmfaaGreatK4
import Derived.Maps.Range
namespace Go.Proofs.YtbdaejodbcjmfaaGreat
open Go.RowKit
set_option linter.unusedVariables false
set_option linter.unusedSimpArgs false
set_option maxRecDepth 100000
set_option maxHeartbeats 16000000

theorem Tryz.info_map : (Tryz.prog.info? 65).map (fun i => (i.zero, i.size, i.bytes)) = some (some (.agg #[.int .i64 0, .int .i64 0, .int .u8 0, .int .u8 0, .int .u8 0, .int .u8 0, .int .i64 0, .int .i64 0, .int .i64 0]), 9, 48) := by kernel_rfl
theorem mp_elem : Tryz.prog.underlying 74 = some (.slice (Tryz.prog.elem 74)) := by kernel_rfl
theorem mp_el : Tryz.prog.elem 74 = 65 := by kernel_rfl
theorem mp_sz (w : World) : (Go.sizeOf 65).run Tryz.prog w = .ok 9 w := by kernel_rfl
theorem mp_zero : (Tryz.prog.info? 65).bind (·.zero) = some (.agg #[.int .i64 0, .int .i64 0, .int .u8 0, .int .u8 0, .int .u8 0, .int .u8 0, .int .i64 0, .int .i64 0, .int .i64 0]) := by kernel_rfl
theorem mp_zs : (Value.cells (.agg #[.int .i64 0, .int .i64 0, .int .u8 0, .int .u8 0, .int .u8 0, .int .u8 0, .int .i64 0, .int .i64 0, .int .i64 0])).size = 9 := by kernel_rfl
theorem mp_z1 : (Value.cells (.agg #[.int .i64 0, .int .i64 0, .int .u8 0, .int .u8 0, .int .u8 0, .int .u8 0, .int .i64 0, .int .i64 0, .int .i64 0])).all (·.oneCell') = true := by kernel_rfl
theorem mp_size : (Tryz.prog.info? 65).map (·.size) = some 9 := by kernel_rfl
/-- Pieces of a row. -/
theorem mp_front (g n c : Nat) (i : Nat) (hi : i ≤ c) (W : World) : (Instr.slice 74 (.slice (some ⟨g, 0, none⟩) n c) none (some (.int .i64 (i : Int))) none).run Tryz.prog W = .ok (.slice (some ⟨g, 0, none⟩) i c) W := by
 rw [run_slice_h W 74 _ n c mp_elem .i64 _ (by omega) (by omega), mp_el, mp_sz]
 simp [Result.andThen, sliced, Addr.add]
theorem mp_back (g n c : Nat) (i : Nat) (hi : i ≤ n) (hc : i < c) (W : World) : (Instr.slice 74 (.slice (some ⟨g, 0, none⟩) n c) (some (.int .i64 (i : Int))) none none).run Tryz.prog W = .ok (.slice (some ⟨g, i * 9, none⟩) (n - i) (c - i)) W := by
 rw [run_slice_l W 74 _ n c mp_elem .i64 _ (by omega) (by omega), mp_el, mp_sz]
 simp [Result.andThen, sliced, Addr.add_lit, show ¬ c = i by omega]
theorem mp_backany (A : Option Addr) (n c : Nat) (i : Nat) (hi : i ≤ n) : ∃ v, ∀ W, (Instr.slice 74 (.slice A n c) (some (.int .i64 (i : Int))) none none).run Tryz.prog W = .ok v W := by
 refine ⟨sliced A i n c 9, fun W => ?_⟩
 rw [run_slice_l W 74 _ n c mp_elem .i64 _ (by omega) (by omega), mp_el, mp_sz]
 simp [Result.andThen]
theorem mp_ov {w : World} {vb gE o lb cb : Nat} {n c lo : Nat} {xs cs : List Value} (hvb : w.heap[vb]? = some (.cells cs.toArray 65 (0, 0))) (hcs : cs.length = 9) (own : w.ownsRow lo 65 9 (.slice (some ⟨gE, 0, none⟩) n c) n xs) (hn : 0 < n) (hne : vb ≠ gE) : (callFunc 121 #[.slice (some ⟨vb, 0, none⟩) 1 1, .slice (some ⟨gE, o, none⟩) lb cb]).run Tryz.prog w = .ok (.value (.bool false)) w := by
 obtain ⟨_, cur, hb, hh, h1, h2, hs, _⟩ := row_of own
 have hc0 : 0 < c := by omega
 rw [run_callFunc_extern (f := 121) (fn := Tryz.f121) (by kernel_rfl) (by kernel_rfl) (by kernel_rfl) (by kernel_rfl) (e := Extern.SlicesOverlaps.overlaps #[74, 74] #[4]) (by kernel_rfl),
  Lib.run_overlaps_apart w 74 4 65 Tryz.underlying74 9 mp_sz ⟨vb, 0, none⟩ ⟨gE, o, none⟩ 1 1 lb cb hne 65 65 9 (c * 9) (by simp [World.shape?, hvb, hcs]) (by simp [World.shape?, hh, hs]) (by omega) (by simp [World.frozen?, hvb]) (by simp [World.frozen?, hvb])]
 rfl
theorem mp_vsrc {w : World} {vb : Nat} {x : Mp} {T : TypeId} {fr : Nat × Nat} (hvb : w.heap[vb]? = some (.cells (mpE x).toArray T fr)) : ∀ j v, (mpE x)[j]? = some v → w.cell? ((⟨vb, 0, none⟩ : Addr).add j) = some v := fun j v hv => by
 rw [Addr.add_lit, Nat.zero_add, cell_of_row w vb j _ T fr hvb]
 simpa using hv
theorem mp_insd {l : List Mp} {x : Mp} {i : Nat} : (l.take i ++ x :: l.drop i).flatMap mpE = (l.flatMap mpE).take (i * 9) ++ mpE x ++ (l.flatMap mpE).drop (i * 9) := by
 rw [List.flatMap_append, List.flatMap_cons, flat_take mpE_len, flat_drop mpE_len, List.append_assoc]
theorem mp_ins_end {lo n c vb : Nat} {A : Option Addr} {l : List Mp} {x : Mp} (w : World) (hlo : lo ≤ w.heap.size) (hown : w.ownsRow lo 65 9 (.slice A n c) n (l.flatMap mpE)) (hn : n ≤ 1000) (hvb : w.heap[vb]? = some (.cells (mpE x).toArray 65 (0, 0))) : Calls Tryz.prog 96 #[.slice A n c, .int .i64 (n : Int), .slice (some ⟨vb, 0, none⟩) 1 1] w fun e w' => ∃ A' c', e = .returned (.slice A' (n + 1) c') ∧ w'.ownsRow lo 65 9 (.slice A' (n + 1) c') (n + 1) ((l.take n ++ x :: l.drop n).flatMap mpE) ∧ w.grownBy w' (Value.ownBlock (.slice A n c)) ∧ (∀ q, q < w.heap.size → Ofs (.slice A n c) q → Ofs (.slice A' (n + 1) c') q) := by
 have own := hown
 clear hown
 have hl := row_len (by decide) mpE_len own
 have hcap := row_cap own
 have HCAP := Lib.hid hcap
 have HLL := Lib.hid hl
 have HLO := Lib.hid hlo
 obtain ⟨ie, hie, hie0, hie1, hie2⟩ := info_parts Tryz.info_map
 have n0 : (0 : Int) ≤ n := by omega
 have n1 : (n : Int) ≤ 1000 := by omega
 obtain ⟨v12, r12⟩ := mp_backany A n c n (Nat.le_refl _)
 have vv : Sle mpE 9 w (some ⟨vb, 0, none⟩) 1 1 [x] := sle_lit [x] (by decide) mpE_len (by simpa using hvb) rfl (by simp [maxLen])
 have HB1 : Hid (n + 1 ≤ maxLen) := Lib.hid (by unfold maxLen; omega)
 have HB2 : Hid ((n + 1) * 48 ≤ 140737488355328) := Lib.hid (by omega)
 clear hl hcap hlo
 have bel := Below.refl w.heap.size w
 go_enter Tryz.func96, Tryz.ntmps96
 have R12 := r12
 go_wp2_with (first | ((with_reducible show wpList _ _ _ (⟨some 25, _, _, _, _, _⟩ :: _) _ _); refine wpList_append_sle rfl (.tmp 23) (.tmp 24) 74 rfl lo 65 ie (.agg #[.int .i64 0, .int .i64 0, .int .u8 0, .int .u8 0, .int .u8 0, .int .u8 0, .int .i64 0, .int .i64 0, .int .i64 0]) 48 Tryz.underlying74 hie hie0 hie1 hie2 mp_zs mpE_one _ n l rfl own (some ⟨vb, 0, none⟩) 1 1 [x] rfl vv HB1.out HB2.out HLO.out ?_; intro v25 w9 own_ bb gw ofw; obtain ⟨A25, c25, rfl⟩ := owk_val own_))
 try clear R12
 go_ret
 exact ⟨A25, c25, rfl, by rw [List.take_of_length_le (by rw [HLL.out]; exact Nat.le_refl _), List.drop_eq_nil_of_le (by rw [HLL.out]; exact Nat.le_refl _)]; exact own_, gw, ofw⟩
theorem mp_ins_grow {lo n c vb : Nat} {gE i : Nat} {l : List Mp} {x : Mp} (w : World) (hlo : lo ≤ w.heap.size) (hown : w.ownsRow lo 65 9 (.slice (some ⟨gE, 0, none⟩) n c) n (l.flatMap mpE)) (hn : n ≤ 1000) (hvb : w.heap[vb]? = some (.cells (mpE x).toArray 65 (0, 0))) (hve : Ofs (.slice (some ⟨gE, 0, none⟩) n c) vb) (hi : i < n) (hg : c < n + 1) : Calls Tryz.prog 96 #[.slice (some ⟨gE, 0, none⟩) n c, .int .i64 (i : Int), .slice (some ⟨vb, 0, none⟩) 1 1] w fun e w' => ∃ A' c', e = .returned (.slice A' (n + 1) c') ∧ w'.ownsRow lo 65 9 (.slice A' (n + 1) c') (n + 1) ((l.take i ++ x :: l.drop i).flatMap mpE) ∧ w.grownBy w' (Value.ownBlock (.slice (some ⟨gE, 0, none⟩) n c)) ∧ (∀ q, q < w.heap.size → Ofs (.slice (some ⟨gE, 0, none⟩) n c) q → Ofs (.slice A' (n + 1) c') q) := by
 have own := hown
 clear hown
 have hl := row_len (by decide) mpE_len own
 have hcap := row_cap own
 have HCAP := Lib.hid hcap
 have HLL := Lib.hid hl
 have HLO := Lib.hid hlo
 obtain ⟨ie, hie, hie0, hie1, hie2⟩ := info_parts Tryz.info_map
 have n0 : (0 : Int) ≤ n := by omega
 have n1 : (n : Int) ≤ 1000 := by omega
 obtain ⟨q, hq⟩ : ∃ q, i + q = n := ⟨n - i, by omega⟩
 have i0 : (0 : Int) ≤ i := by omega
 have i1 : (i : Int) < n := by omega
 have hne : ((i : Int) == n) = false := beq_eq_false_iff_ne.2 (by omega)
 have hw1 : IntKind.i64.wrap ((i : Int) + 1) = (i : Int) + 1 := IntWalk.i64_in _ (by omega)
 have r53 := fun W => mp_back gE n c i (by omega) (by omega) W
 rw [show n - i = q by omega] at r53
 have HFL : Hid (9 * i + q * 9 = (l.flatMap mpE).length) := Lib.hid (by rw [flat_len mpE_len, hl, ← hq, Nat.add_mul]; omega)
 have HON : Hid (∀ v ∈ (l.flatMap mpE).drop (i * 9), v.oneCell' = true) := Lib.hid (fun v hv => by obtain ⟨y, _, hy⟩ := List.mem_flatMap.1 (List.mem_of_mem_drop hv); exact mpE_one y v hy)
 have HQ := Lib.hid hq
 have HD : Hid (((l.flatMap mpE).drop (i * 9)).length = q * 9) := Lib.hid (by rw [List.length_drop]; have := HFL.out; omega)
 have HVE := Lib.hid hve
 obtain ⟨p, hp⟩ : ∃ p, i + p = n + 1 := ⟨n + 1 - i, by omega⟩
 have hpi : (n : Int) + 1 - i = (p : Int) := by omega
 have r34 := fun W => mp_front gE n c i (by omega) W
 have ownI := row_less own (i := i) (by omega)
 have HP0 : Hid (0 < p) := Lib.hid (by omega)
 have HPQ : Hid (p = q + 1) := Lib.hid (by omega)
 have HIP := Lib.hid hp
 have hcg : (c : Int) < (n : Int) + 1 := by omega
 have HCG : Hid (c < n + 1) := Lib.hid hg
 have HB1 : Hid (n + 1 ≤ maxLen) := Lib.hid (by unfold maxLen; omega)
 have HB2 : Hid ((n + 1) * 48 ≤ 140737488355328) := Lib.hid (by omega)
 have HMX : Hid ((mpE x).length = Nat.min 1 (q + 1) * 9) := Lib.hid (by rw [mpE_len, show Nat.min 1 (q + 1) = 1 by simp [Nat.min_def]])
 have HPX : Hid (i * 9 + (mpE x).length ≤ (n + 1) * 9) := Lib.hid (by rw [mpE_len]; omega)
 have HPD : Hid ((i + 1) * 9 + ((l.flatMap mpE).drop (i * 9)).length ≤ (n + 1) * 9) := Lib.hid (by rw [HD.out]; omega)
 have HGE : Hid (gE < w.heap.size) := Lib.hid (own.lt gE rfl).2
 clear hl hcap hlo hp hq hi hg hn hve
 have bel := Below.refl w.heap.size w
 go_enter Tryz.func96, Tryz.ntmps96
 have R12 := r53
 have R34 := r34
 go_wp2_with (first | ((with_reducible show wpList _ _ _ (⟨some 40, _, _, _, _, _⟩ :: _) _ _); refine wpList_append_fresh rfl (.tmp 34) (.tmp 39) 74 3 65 rfl ie (.agg #[.int .i64 0, .int .i64 0, .int .u8 0, .int .u8 0, .int .u8 0, .int .u8 0, .int .i64 0, .int .i64 0, .int .i64 0]) .i64 48 Tryz.underlying74 Tryz.underlying3 hie hie0 hie1 hie2 mp_zs (by decide) ownI .i64 p rfl rfl HP0.out (n + 1) HIP.out HCG.out HB1.out HB2.out ?_; intro gN cN w9 geN ownN bN; have hcN := row_cap ownN; have own9 := owk_under own bN; clear own; have own := own9; clear own9; replace hvb := blk_u hvb bN; replace bel := bel.trans bN; clear bN; have r43 := fun W => mp_back gN (n + 1) cN i (by omega) (by omega) W; have r50 := fun W => mp_back gN (n + 1) cN (i + 1) (by omega) (by omega) W; simp only [Int.natCast_add, Int.natCast_one] at r50; rw [show n + 1 - i = q + 1 by have := HQ.out; omega] at r43; rw [show n + 1 - (i + 1) = q by have := HQ.out; omega] at r50; have HGN := Lib.hid geN; clear hcN geN; have R43 := r43) | ((with_reducible show wpList _ _ _ (⟨some 45, _, _, _, _, _⟩ :: _) _ _); refine wpList_copy_rowk rfl (.tmp 43) (.tmp 44) 74 74 65 rfl Tryz.underlying74 mp_size ownN (i * 9) (q + 1) (cN - i) ⟨vb, 0, none⟩ 1 1 (mpE x) rfl rfl HMX.out (mp_vsrc hvb) HPX.out (mpE_one x) _ rfl ?_; intro w10 own_ gw; have own9 := owk_off own (ne_off (Nat.ne_of_lt (Nat.lt_of_lt_of_le HGE.out HGN.out))) gw; clear own ownN; have own := own9; have ownN := own_; clear own9 own_; replace bel := bel.trans (Below.row gw HGN.out bel.size); clear gw hvb))
 try clear R12
 try clear R34
 try clear R43
 replace bel := bel.drew
 replace own := World.ownsRow.drew own
 replace ownN := World.ownsRow.drew ownN
 refine wp_region_held_drew (S := fun _ => True) (by kernel_rfl) trivial (fun hH => ?_)
 generalize w10.drew = w1 at bel own ownN hH ⊢
 refine wpAnyH_take (i := 0) (v := ?_) rfl (by kernel_rfl) (by kernel_rfl) (by kernel_rfl) (fun _ _ _ h => h) (Or.inl ⟨by rfl, ?_⟩) hH ?_
 rotate_left
 ·((intro W hW; clear hW; go_simp) <;> with_reducible rfl)
 simp only [Act.put, List.getElem_toArray, List.getElem_cons_zero, List.setIfInBounds_toArray, List.set_cons_zero, List.set_cons_succ]
 refine wpAnyH_take (i := 1) (v := ?_) rfl (by kernel_rfl) (by kernel_rfl) (by kernel_rfl) (fun _ _ _ h => h) (Or.inl ⟨by rfl, ?_⟩) hH ?_
 rotate_left
 ·((intro W hW; clear hW; go_simp) <;> with_reducible rfl)
 simp only [sq3, sq4]
 refine wpAnyH_take (i := 2) (v := ?_) rfl (by kernel_rfl) (by kernel_rfl) (by kernel_rfl) (fun _ _ _ h => h) (Or.inl ⟨by rfl, ?_⟩) hH ?_
 rotate_left
 ·((intro W hW; clear hW; go_simp) <;> with_reducible rfl)
 simp only [sq3, sq4]
 refine wpAnyH_take (i := 3) (v := ?_) rfl (by kernel_rfl) (by kernel_rfl) (by kernel_rfl) (fun _ _ _ h => h) (Or.inl ⟨by rfl, ?_⟩) hH ?_
 rotate_left
 ·((intro W hW; clear hW; go_simp) <;> with_reducible rfl)
 simp only [sq3, sq4]
 refine wpAnyH_take (i := 4) (v := ?_) rfl (by kernel_rfl) (by kernel_rfl) (by kernel_rfl) (fun _ _ _ h => h) (Or.inl ⟨by rfl, ?_⟩) hH ?_
 rotate_left
 ·((intro W hW; clear hW; go_simp) <;> with_reducible rfl)
 simp only [sq3, sq4]
 refine wpAnyH_take (i := 5) (v := ?_) rfl (by kernel_rfl) (by kernel_rfl) (by kernel_rfl) (fun _ _ _ h => h) (Or.inl ⟨by rfl, ?_⟩) hH ?_
 rotate_left
 ·((intro W hW; clear hW; go_simp) <;> with_reducible rfl)
 simp only [sq3, sq4]
 refine wpAnyH_take (i := 6) (v := ?_) rfl (by kernel_rfl) (by kernel_rfl) (by kernel_rfl) (fun _ _ _ h => h) (Or.inl ⟨by rfl, ?_⟩) hH ?_
 rotate_left
 ·((intro W hW; clear hW; go_simp) <;> with_reducible rfl)
 simp only [sq3, sq4]
 refine wpAnyH_take (i := 7) (v := ?_) rfl (by kernel_rfl) (by kernel_rfl) (by kernel_rfl) (fun _ _ _ h => h) (Or.inl ⟨by rfl, ?_⟩) hH ?_
 rotate_left
 ·((intro W hW; clear hW; go_simp) <;> with_reducible rfl)
 simp only [sq3, sq4]
 refine wpAnyH_ready (rs := [8]) (by kernel_rfl) (by simp) ?_
 refine AllReadyH.cons (o := _) rfl (fun K hK => ?_) AllReadyH.nil
 simp only [sq3]
 rw [if_pos (by rfl)]
 refine wp_copy_rowk (.tmp 50) (.tmp 53) 74 74 65 rfl Tryz.underlying74 mp_size ownN ((i + 1) * 9) q (cN - (i + 1)) ⟨gE, i * 9, none⟩ q (c - i) ((l.flatMap mpE).drop (i * 9)) rfl rfl (by rw [HD.out, show Nat.min q q = q from Nat.min_self q]) (row_piece own _ _ (by rw [List.take_of_length_le (Nat.le_refl _)])) HPD.out HON.out _ rfl ?_
 intro w11 own_ gw
 clear own ownN
 have ownN := own_
 clear own_
 replace bel := bel.trans (Below.row gw HGN.out bel.size)
 clear gw
 refine hK.out _ _ trivial (fun hH2 => ?_)
 clear hK K
 simp only [sq4]
 refine wpAnyH_done (by kernel_rfl) ?_ _
 go_wp2_with fail
 go_ret
 refine ⟨some ⟨gN, 0, none⟩, cN, rfl, ?_, grown_of_below bel, fun q hq _ => ne_off (Nat.ne_of_gt (Nat.lt_of_lt_of_le hq HGN.out))⟩
 rw [mp_insd, ← ins_cells2 (Z := zerosL (.agg #[.int .i64 0, .int .i64 0, .int .u8 0, .int .u8 0, .int .u8 0, .int .u8 0, .int .i64 0, .int .i64 0, .int .i64 0]) p) (a := i * 9) (k := 9) (m := q * 9) (by have := HFL.out; omega) (by rw [zerosL_len _ _ mp_zs, HPQ.out, Nat.succ_mul]) (mpE_len x), show i * 9 + 9 = (i + 1) * 9 by omega]
 exact owk_lo ownN HLO.out
theorem mp_ins_room {lo n c vb : Nat} {gE i : Nat} {l : List Mp} {x : Mp} (w : World) (hlo : lo ≤ w.heap.size) (hown : w.ownsRow lo 65 9 (.slice (some ⟨gE, 0, none⟩) n c) n (l.flatMap mpE)) (hn : n ≤ 1000) (hvb : w.heap[vb]? = some (.cells (mpE x).toArray 65 (0, 0))) (hve : Ofs (.slice (some ⟨gE, 0, none⟩) n c) vb) (hi : i < n) (hg : n + 1 ≤ c) : Calls Tryz.prog 96 #[.slice (some ⟨gE, 0, none⟩) n c, .int .i64 (i : Int), .slice (some ⟨vb, 0, none⟩) 1 1] w fun e w' => ∃ A' c', e = .returned (.slice A' (n + 1) c') ∧ w'.ownsRow lo 65 9 (.slice A' (n + 1) c') (n + 1) ((l.take i ++ x :: l.drop i).flatMap mpE) ∧ w.grownBy w' (Value.ownBlock (.slice (some ⟨gE, 0, none⟩) n c)) ∧ (∀ q, q < w.heap.size → Ofs (.slice (some ⟨gE, 0, none⟩) n c) q → Ofs (.slice A' (n + 1) c') q) := by
 have own := hown
 clear hown
 have hl := row_len (by decide) mpE_len own
 have hcap := row_cap own
 have HCAP := Lib.hid hcap
 have HLL := Lib.hid hl
 have HLO := Lib.hid hlo
 obtain ⟨ie, hie, hie0, hie1, hie2⟩ := info_parts Tryz.info_map
 have n0 : (0 : Int) ≤ n := by omega
 have n1 : (n : Int) ≤ 1000 := by omega
 obtain ⟨q, hq⟩ : ∃ q, i + q = n := ⟨n - i, by omega⟩
 have i0 : (0 : Int) ≤ i := by omega
 have i1 : (i : Int) < n := by omega
 have hne : ((i : Int) == n) = false := beq_eq_false_iff_ne.2 (by omega)
 have hw1 : IntKind.i64.wrap ((i : Int) + 1) = (i : Int) + 1 := IntWalk.i64_in _ (by omega)
 have r53 := fun W => mp_back gE n c i (by omega) (by omega) W
 rw [show n - i = q by omega] at r53
 have HFL : Hid (9 * i + q * 9 = (l.flatMap mpE).length) := Lib.hid (by rw [flat_len mpE_len, hl, ← hq, Nat.add_mul]; omega)
 have HON : Hid (∀ v ∈ (l.flatMap mpE).drop (i * 9), v.oneCell' = true) := Lib.hid (fun v hv => by obtain ⟨y, _, hy⟩ := List.mem_flatMap.1 (List.mem_of_mem_drop hv); exact mpE_one y v hy)
 have HQ := Lib.hid hq
 have HD : Hid (((l.flatMap mpE).drop (i * 9)).length = q * 9) := Lib.hid (by rw [List.length_drop]; have := HFL.out; omega)
 have HVE := Lib.hid hve
 obtain ⟨ys, hys, own1⟩ := row_more own (m := 1) (by omega)
 have hov := mp_ov (o := (i + 1) * 9) (lb := q) (cb := c - (i + 1)) hvb (mpE_len x) own1 (by omega) (off_ne hve)
 have r60 := fun W => mp_front gE n c (n + 1) (by omega) W
 have r66 := fun W => mp_back gE (n + 1) c (i + 1) (by omega) (by omega) W
 have r76 := fun W => mp_back gE (n + 1) c i (by omega) (by omega) W
 simp only [Int.natCast_add, Int.natCast_one] at r60 r66
 rw [show n + 1 - (i + 1) = q by omega] at r66
 rw [show n + 1 - i = q + 1 by omega] at r76
 have hcg : decide ((c : Int) < (n : Int) + 1) = false := decide_eq_false (by omega)
 have HYS : Hid (ys.length = 9) := Lib.hid (by omega)
 have HMX : Hid ((mpE x).length = Nat.min 1 (q + 1) * 9) := Lib.hid (by rw [mpE_len, show Nat.min 1 (q + 1) = 1 by simp [Nat.min_def]])
 have HPX : Hid (i * 9 + (mpE x).length ≤ (n + 1) * 9) := Lib.hid (by rw [mpE_len]; omega)
 have HPD : Hid ((i + 1) * 9 + ((l.flatMap mpE).drop (i * 9)).length ≤ (n + 1) * 9) := Lib.hid (by rw [HD.out]; omega)
 have HMD : Hid (((l.flatMap mpE).drop (i * 9)).length = Nat.min (q + 1) q * 9) := Lib.hid (by rw [HD.out, show Nat.min (q + 1) q = q by simp [Nat.min_def]])
 have HPC : Hid (((l.flatMap mpE ++ ys).drop (i * 9)).take ((l.flatMap mpE).drop (i * 9)).length = (l.flatMap mpE).drop (i * 9)) := Lib.hid (by rw [List.drop_append_of_le_length (by have := HFL.out; omega)]; exact List.take_left' rfl)
 have HVN : Hid (Hid (vb ≠ gE)) := Lib.hid (Lib.hid (off_ne hve))
 have gk := World.grownBy.refl w (some gE)
 clear own
 have own := own1
 clear own1 hys hl hcap hlo hq hi hg hn hve
 have bel := Below.refl w.heap.size w
 go_enter Tryz.func96, Tryz.ntmps96
 have R12 := r53
 have R60 := r60
 have R66 := r66
 have R67 := hov
 go_wp2_with fail
 clear R12 R60 R66 R67
 replace bel := bel.drew
 replace own := World.ownsRow.drew own
 replace gk := gk_drew gk
 replace hvb := heap_drew hvb
 refine wp_region_held_drew (S := fun _ => True) (by kernel_rfl) trivial (fun hH => ?_)
 generalize w.drew = w1 at bel own gk hvb hH ⊢
 refine wpAnyH_take (i := 0) (v := ?_) rfl (by kernel_rfl) (by kernel_rfl) (by kernel_rfl) (fun _ _ _ h => h) (Or.inl ⟨by rfl, ?_⟩) hH ?_
 rotate_left
 ·((intro W hW; clear hW; go_simp) <;> with_reducible rfl)
 simp only [Act.put, List.getElem_toArray, List.getElem_cons_zero, List.setIfInBounds_toArray, List.set_cons_zero, List.set_cons_succ]
 refine wpAnyH_take (i := 1) (v := ?_) rfl (by kernel_rfl) (by kernel_rfl) (by kernel_rfl) (fun _ _ _ h => h) (Or.inl ⟨by rfl, ?_⟩) hH ?_
 rotate_left
 ·((intro W hW; clear hW; go_simp) <;> with_reducible rfl)
 simp only [sq3, sq4]
 refine wpAnyH_take (i := 2) (v := ?_) rfl (by kernel_rfl) (by kernel_rfl) (by kernel_rfl) (fun _ _ _ h => h) (Or.inl ⟨by rfl, ?_⟩) hH ?_
 rotate_left
 ·((intro W hW; clear hW; go_simp) <;> with_reducible rfl)
 simp only [sq3, sq4]
 refine wpAnyH_take (i := 3) (v := ?_) rfl (by kernel_rfl) (by kernel_rfl) (by kernel_rfl) (fun _ _ _ h => h) (Or.inl ⟨by rfl, ?_⟩) hH ?_
 rotate_left
 ·((intro W hW; clear hW; go_simp) <;> with_reducible rfl)
 simp only [sq3, sq4]
 refine wpAnyH_take (i := 4) (v := ?_) rfl (by kernel_rfl) (by kernel_rfl) (by kernel_rfl) (fun _ _ _ h => h) (Or.inl ⟨by rfl, ?_⟩) hH ?_
 rotate_left
 ·((intro W hW; clear hW; go_simp) <;> with_reducible rfl)
 simp only [sq3, sq4]
 refine wpAnyH_take (i := 5) (v := ?_) rfl (by kernel_rfl) (by kernel_rfl) (by kernel_rfl) (fun _ _ _ h => h) (Or.inl ⟨by rfl, ?_⟩) hH ?_
 rotate_left
 ·((intro W hW; clear hW; go_simp) <;> with_reducible rfl)
 simp only [sq3, sq4]
 refine wpAnyH_take (i := 6) (v := ?_) rfl (by kernel_rfl) (by kernel_rfl) (by kernel_rfl) (fun _ _ _ h => h) (Or.inl ⟨by rfl, ?_⟩) hH ?_
 rotate_left
 ·((intro W hW; clear hW; go_simp) <;> with_reducible rfl)
 simp only [sq3, sq4]
 refine wpAnyH_take (i := 7) (v := ?_) rfl (by kernel_rfl) (by kernel_rfl) (by kernel_rfl) (fun _ _ _ h => h) (Or.inl ⟨by rfl, ?_⟩) hH ?_
 rotate_left
 ·((intro W hW; clear hW; go_simp) <;> with_reducible rfl)
 simp only [sq3, sq4]
 refine wpAnyH_ready (rs := [8]) (by kernel_rfl) (by simp) ?_
 refine AllReadyH.cons (o := _) rfl (fun K hK => ?_) AllReadyH.nil
 simp only [sq3]
 rw [if_pos (by rfl)]
 refine wp_copy_rowk (.tmp 73) (.tmp 76) 74 74 65 rfl Tryz.underlying74 mp_size own ((i + 1) * 9) q (c - (i + 1)) ⟨gE, i * 9, none⟩ (q + 1) (c - i) ((l.flatMap mpE).drop (i * 9)) rfl rfl HMD.out (row_piece own _ _ HPC.out) HPD.out HON.out _ rfl ?_
 intro w9 own_ gw
 clear own
 have own := own_
 clear own_
 replace gk := gk.trans gw
 replace hvb := blk_a hvb gw HVN.out
 clear gw bel
 refine hK.out _ _ trivial (fun hH2 => ?_)
 clear hK K
 simp only [sq4]
 refine wpAnyH_done (by kernel_rfl) ?_ _
 have R80 := r76
 go_wp2_with (first | ((with_reducible show wpList _ _ _ (⟨some 82, _, _, _, _, _⟩ :: _) _ _); refine wpList_copy_rowk rfl (.tmp 80) (.tmp 81) 74 74 65 rfl Tryz.underlying74 mp_size own (i * 9) (q + 1) (c - i) ⟨vb, 0, none⟩ 1 1 (mpE x) rfl rfl HMX.out (mp_vsrc hvb) HPX.out (mpE_one x) _ rfl ?_; intro w10 own_ gw; clear own; have own := own_; clear own_; replace gk := gk.trans gw; clear gw hvb))
 try clear R80
 go_ret
 refine ⟨some ⟨gE, 0, none⟩, c, rfl, ?_, gk, fun _ _ h => h⟩
 rw [show (i + 1) * 9 = i * 9 + 9 by omega, ins_cells (m := q * 9) (by have := HFL.out; omega) HYS.out (mpE_len x)] at own
 rw [mp_insd]
 exact own
theorem mp_insert {lo n c vb : Nat} {i : Nat} {A : Option Addr} {l : List Mp} {x : Mp} (w : World) (hlo : lo ≤ w.heap.size) (hown : w.ownsRow lo 65 9 (.slice A n c) n (l.flatMap mpE)) (hn : n ≤ 1000) (hvb : w.heap[vb]? = some (.cells (mpE x).toArray 65 (0, 0))) (hve : Ofs (.slice A n c) vb) (hi : i ≤ n) : Calls Tryz.prog 96 #[.slice A n c, .int .i64 (i : Int), .slice (some ⟨vb, 0, none⟩) 1 1] w fun e w' => ∃ A' c', e = .returned (.slice A' (n + 1) c') ∧ w'.ownsRow lo 65 9 (.slice A' (n + 1) c') (n + 1) ((l.take i ++ x :: l.drop i).flatMap mpE) ∧ w.grownBy w' (Value.ownBlock (.slice A n c)) ∧ (∀ q, q < w.heap.size → Ofs (.slice A n c) q → Ofs (.slice A' (n + 1) c') q) := by
 rcases Nat.lt_or_ge i n with h | h
 ·obtain ⟨gE, rfl, _⟩ := row_at hown (by omega)
  rcases Nat.lt_or_ge c (n + 1) with h2 | h2
  ·exact mp_ins_grow w hlo hown hn hvb hve h h2
  ·exact mp_ins_room w hlo hown hn hvb hve h h2
 ·obtain rfl : i = n := by omega
  exact mp_ins_end w hlo hown hn hvb
open Go.RowKit

theorem gk_new {a b c : World} {row : Option Nat} {j : Nat} (h : a.grownBy b row) (hj : a.heap.size ≤ j) (k : b.grownBy c (some j)) : a.grownBy c row := World.grownBy.andThen h k (fun _ e => Or.inl (by cases e; exact hj))
theorem mdrop_head {l l' : List Mp} {j : Nat} (h : l.drop j = l'.drop j) : l[j]? = l'[j]? := by
 have := congrArg (fun x => x[0]?) h
 simpa only [List.getElem?_drop, Nat.add_zero] using this
theorem mdrop_more {l l' : List Mp} {j : Nat} (h : l.drop j = l'.drop j) : l.drop (j + 1) = l'.drop (j + 1) := by
 have := congrArg (fun x => x.drop 1) h
 simpa only [List.drop_drop] using this
theorem mfilt_skip {l : List Mp} {j : Nat} {e : Mp} {p : Mp → Bool} (he : l[j]? = some e) (h : p e = false) : (l.take (j + 1)).filter p = (l.take j).filter p := by
 rw [List.take_add_one, he, List.filter_append]
 simp [h]
theorem mfilt_keep {l : List Mp} {j : Nat} {e : Mp} {p : Mp → Bool} (he : l[j]? = some e) (h : p e = true) : (l.take (j + 1)).filter p = (l.take j).filter p ++ [e] := by
 rw [List.take_add_one, he, List.filter_append]
 simp [h]
theorem mtake_set_next {l : List Mp} {i : Nat} {e : Mp} (hi : i < l.length) : (l.set i e).take (i + 1) = l.take i ++ [e] := by
 rw [List.take_add_one, List.take_set_of_le (Nat.le_refl _), List.getElem?_set_self hi]
 rfl
theorem mdrop_set_next {l : List Mp} {i j : Nat} {e : Mp} (hi : i < j) : (l.set i e).drop j = l.drop j := List.drop_set_of_lt hi
theorem mfilt_first {l : List Mp} {i : Nat} {p : Mp → Bool} (h : ∀ j e, j < i → l[j]? = some e → p e = true) : l.take i = (l.take i).filter p := by
 symm
 rw [List.filter_eq_self]
 intro e he
 obtain ⟨j, hj⟩ := List.getElem?_of_mem he
 rw [List.getElem?_take] at hj
 split at hj
 ·exact h j e ‹_› hj
 ·cases hj
theorem mfirst_of (p : Mp → Bool) : ∀ (l : List Mp), (∀ e ∈ l, p e = false) ∨ ∃ (k : Nat) (x : Mp), l[k]? = some x ∧ p x = true ∧ ∀ (j : Nat) (e : Mp), j < k → l[j]? = some e → p e = false
 | [] => .inl fun e h => by cases h
 | y :: l => by
  cases hy : p y with
  | true => exact .inr ⟨0, y, rfl, hy, fun j e h => absurd h (by omega)⟩
  | false =>
   rcases mfirst_of p l with h | ⟨k, x, h1, h2, h3⟩
   ·exact .inl fun e he => (List.mem_cons.1 he).elim (fun h' => h' ▸ hy) (h e)
   ·refine .inr ⟨k + 1, x, by simpa using h1, h2, fun j e hj he => ?_⟩
    cases j with
    | zero => simp only [List.getElem?_cons_zero, Option.some.injEq] at he; exact he ▸ hy
    | succ j => exact h3 j e (by omega) (by simpa using he)
theorem clf_a {gn : Nat} {t : Int} (x : Mp) (w : World) (hnb : w.heap[gn]? = some (.cells #[.int .i64 t] 2 (0, 0))) : Calls Tryz.prog 92 #[.agg #[.int .i64 x.pr, .int .i64 x.o, .int .u8 (x.ad.a.toNat : Int), .int .u8 (x.ad.b.toNat : Int), .int .u8 (x.ad.c.toNat : Int), .int .u8 (x.ad.d.toNat : Int), .int .i64 x.i, .int .i64 x.k, .int .i64 x.u], .pointer (some ⟨gn, 0, none⟩)] w fun e w' => e = .returned (.bool (deadB t x)) ∧ Below w.heap.size w w' := by
 obtain ⟨b, hb⟩ : ∃ b, liveB t x = b := ⟨_, rfl⟩
 have HL_ := Lib.hid hb
 clear hb
 have bel := Below.refl w.heap.size w
 go_enter Tryz.func92, Tryz.ntmps92
 go_wp2_with (first | ((with_reducible show wpList _ _ _ (⟨some 2, _, _, _, _, _⟩ :: _) _ _); refine wpList_box_n rfl 65 (.tmp 0) rfl #[.int .i64 x.pr, .int .i64 x.o, .int .u8 (x.ad.a.toNat : Int), .int .u8 (x.ad.b.toNat : Int), .int .u8 (x.ad.c.toNat : Int), .int .u8 (x.ad.d.toNat : Int), .int .i64 x.i, .int .i64 x.k, .int .i64 x.u] rfl ?_; intro g2 w1 ge lt hh bb; have d_nb_eb := ne_new (hlt hnb) ge; have oeb := Nat.le_trans bel.size ge; replace hnb := blk_u hnb bb; replace bel := bel.trans (bb.mono bel.size); have heb := hh; clear hh lt ge bb; have R4 := Lib.hid (range_lit heb 0 9 [.int .i64 x.pr, .int .i64 x.o, .int .u8 (x.ad.a.toNat : Int), .int .u8 (x.ad.b.toNat : Int), .int .u8 (x.ad.c.toNat : Int), .int .u8 (x.ad.d.toNat : Int), .int .i64 x.i, .int .i64 x.k, .int .i64 x.u] rfl)) | ((with_reducible show wpList _ _ _ (⟨some 4, _, _, _, _, _⟩ :: _) _ _); refine wpList_load_rng 65 (.tmp 2) rfl (by kernel_rfl) _ _ rfl _ R4.out _ Tryz.underlying65 rfl (by kernel_rfl) ?_; have R5 := cell_lit hnb 0 _ rfl))
 try clear R4
 try clear R5
 with_reducible refine (live_any _ HL_.out).mono ?_
 rintro e w2 ⟨rfl, b2⟩
 replace hnb := blk_u hnb b2
 replace heb := blk_u heb b2
 replace bel := bel.trans (b2.mono bel.size)
 clear b2
 go_wp2_with fail
 go_ret
 exact ⟨by show Ending.returned (.bool (!b)) = .returned (.bool (deadB t x)); unfold deadB; rw [HL_.out], bel⟩
theorem idxa_none_pos {gn : Nat} {n c gE oE : Nat} {t : Int} {l : List Mp} (w : World) (hnb : w.heap[gn]? = some (.cells #[.int .i64 t] 2 (0, 0))) (en : Sle mpE 9 w (some ⟨gE, oE, none⟩) n c l) (hn : n ≤ 1000) (hN : ∀ e ∈ l, deadB t e = false) : Calls Tryz.prog 117 #[.slice (some ⟨gE, oE, none⟩) n c, .func (.func 92) #[] #[.pointer (some ⟨gn, 0, none⟩)]] w fun e w' => e = .returned (.int .i64 (-1)) ∧ Below w.heap.size w w' := by
 have HL := Lib.hid en.1
 have hn0 : (n : Int) ≤ 1000 := by omega
 have HN := Lib.hid hN
 clear hN
 have bel := Below.refl w.heap.size w
 go_enter Tryz.func117, Tryz.ntmps117
 go_wp2_with fail
 go_loopg [8] (n) (fun gk s8 wr => ∃ k : Nat, gk = n - k ∧ k ≤ n ∧ s8 = .int .i64 (k : Int) ∧ wr.heap[gn]? = some (.cells #[.int .i64 t] 2 (0, 0)) ∧ Sle mpE 9 wr (some ⟨gE, oE, none⟩) (n) (c) (l) ∧ Below w.heap.size w wr)
 case atStart => exact ⟨0, Nat.sub_zero _, Nat.zero_le _, rfl, hnb, en, bel⟩
 case round =>
  clear hnb en bel
  obtain ⟨k, HGK, hkn, rfl, hnb, en, bel⟩ := hrel
  have HGK_ := Lib.hid HGK
  clear HGK
  by_cases h : k < n
  rotate_left
  ·obtain rfl : k = n := by omega
   replace h : decide (k < k) = false := decide_eq_false (by omega)
   go_wp2_with fail
   go_ret
   exact ⟨rfl, bel⟩
  obtain ⟨e, hx⟩ : ∃ e, l[k]? = some e := ⟨_, List.getElem?_eq_getElem (by have := HL.out; omega)⟩
  have k0 : (0 : Int) ≤ k := by omega
  have k1 : (k : Int) < n := by omega
  have HX := Lib.hid hx
  clear hx
  have HG : Hid (deadB t e = false) := Lib.hid (HN.out e (List.mem_of_getElem? HX.out))
  have R15 := Lib.hid (Sle.range0 en HX.out 9 [.int .i64 e.pr, .int .i64 e.o, .int .u8 (e.ad.a.toNat : Int), .int .u8 (e.ad.b.toNat : Int), .int .u8 (e.ad.c.toNat : Int), .int .u8 (e.ad.d.toNat : Int), .int .i64 e.i, .int .i64 e.k, .int .i64 e.u] rfl)
  go_wp2_with (first | ((with_reducible show wpList _ _ _ (⟨some 15, _, _, _, _, _⟩ :: _) _ _); refine wpList_load_rng 65 (.tmp 14) rfl (by kernel_rfl) _ _ rfl _ R15.out _ Tryz.underlying65 rfl (by kernel_rfl) ?_))
  try clear R15
  with_reducible refine (clf_a e _ hnb).mono ?_
  rintro e w1 ⟨rfl, b1⟩
  replace hnb := blk_u hnb b1
  replace en := en.below b1
  replace bel := bel.trans (b1.mono bel.size)
  clear b1
  rw [HG.out]
  go_wp2_with fail
  go_roundg (n - (k + 1))
  case measure => have := HGK_.out; omega
  case rel => exact ⟨k + 1, rfl, by omega, by go_num, hnb, en, bel⟩
theorem idxa_some {gn : Nat} {n c gE oE : Nat} {t : Int} {l : List Mp} (w : World) (hnb : w.heap[gn]? = some (.cells #[.int .i64 t] 2 (0, 0))) (en : Sle mpE 9 w (some ⟨gE, oE, none⟩) n c l) (hn : n ≤ 1000) {i : Nat} {x : Mp} (hx : l[i]? = some x) (hg : deadB t x = true) (hN : ∀ j e, j < i → l[j]? = some e → deadB t e = false) : Calls Tryz.prog 117 #[.slice (some ⟨gE, oE, none⟩) n c, .func (.func 92) #[] #[.pointer (some ⟨gn, 0, none⟩)]] w fun e w' => e = .returned (.int .i64 (i : Int)) ∧ Below w.heap.size w w' := by
 have HL := Lib.hid en.1
 have hn0 : (n : Int) ≤ 1000 := by omega
 have HIN : Hid (i < n) := Lib.hid (by have := (List.getElem?_eq_some_iff.1 hx).1; have h_ := en.1; omega)
 have HN := Lib.hid hN
 have HXI := Lib.hid hx
 have HGI := Lib.hid hg
 clear hN hx hg
 have bel := Below.refl w.heap.size w
 go_enter Tryz.func117, Tryz.ntmps117
 go_wp2_with fail
 go_loopg [8] (n) (fun gk s8 wr => ∃ k : Nat, gk = n - k ∧ k ≤ i ∧ s8 = .int .i64 (k : Int) ∧ wr.heap[gn]? = some (.cells #[.int .i64 t] 2 (0, 0)) ∧ Sle mpE 9 wr (some ⟨gE, oE, none⟩) (n) (c) (l) ∧ Below w.heap.size w wr)
 case atStart => exact ⟨0, Nat.sub_zero _, Nat.zero_le _, rfl, hnb, en, bel⟩
 case round =>
  clear hnb en bel
  obtain ⟨k, HGK, hkn, rfl, hnb, en, bel⟩ := hrel
  have HGK_ := Lib.hid HGK
  clear HGK
  by_cases h : k < n
  rotate_left
  ·exfalso
   have := HIN.out
   omega
  obtain ⟨e, hx⟩ : ∃ e, l[k]? = some e := ⟨_, List.getElem?_eq_getElem (by have := HL.out; omega)⟩
  have k0 : (0 : Int) ≤ k := by omega
  have k1 : (k : Int) < n := by omega
  have HX := Lib.hid hx
  clear hx
  by_cases h2 : k < i
  rotate_left
  ·obtain rfl : k = i := by omega
   obtain rfl : e = x := Option.some.inj (HX.out.symm.trans HXI.out)
   have HG := HGI
   have R15 := Lib.hid (Sle.range0 en HX.out 9 [.int .i64 e.pr, .int .i64 e.o, .int .u8 (e.ad.a.toNat : Int), .int .u8 (e.ad.b.toNat : Int), .int .u8 (e.ad.c.toNat : Int), .int .u8 (e.ad.d.toNat : Int), .int .i64 e.i, .int .i64 e.k, .int .i64 e.u] rfl)
   go_wp2_with (first | ((with_reducible show wpList _ _ _ (⟨some 15, _, _, _, _, _⟩ :: _) _ _); refine wpList_load_rng 65 (.tmp 14) rfl (by kernel_rfl) _ _ rfl _ R15.out _ Tryz.underlying65 rfl (by kernel_rfl) ?_))
   try clear R15
   with_reducible refine (clf_a e _ hnb).mono ?_
   rintro e w1 ⟨rfl, b1⟩
   replace hnb := blk_u hnb b1
   replace en := en.below b1
   replace bel := bel.trans (b1.mono bel.size)
   clear b1
   rw [HG.out]
   go_wp2_with fail
   go_ret
   exact ⟨rfl, bel⟩
  have HG : Hid (deadB t e = false) := Lib.hid (HN.out k e h2 HX.out)
  have R15 := Lib.hid (Sle.range0 en HX.out 9 [.int .i64 e.pr, .int .i64 e.o, .int .u8 (e.ad.a.toNat : Int), .int .u8 (e.ad.b.toNat : Int), .int .u8 (e.ad.c.toNat : Int), .int .u8 (e.ad.d.toNat : Int), .int .i64 e.i, .int .i64 e.k, .int .i64 e.u] rfl)
  go_wp2_with (first | ((with_reducible show wpList _ _ _ (⟨some 15, _, _, _, _, _⟩ :: _) _ _); refine wpList_load_rng 65 (.tmp 14) rfl (by kernel_rfl) _ _ rfl _ R15.out _ Tryz.underlying65 rfl (by kernel_rfl) ?_))
  try clear R15
  with_reducible refine (clf_a e _ hnb).mono ?_
  rintro e w1 ⟨rfl, b1⟩
  replace hnb := blk_u hnb b1
  replace en := en.below b1
  replace bel := bel.trans (b1.mono bel.size)
  clear b1
  rw [HG.out]
  go_wp2_with fail
  go_roundg (n - (k + 1))
  case measure => have := HGK_.out; omega
  case rel => exact ⟨k + 1, rfl, by omega, by go_num, hnb, en, bel⟩
theorem idxa_nil {gn : Nat} {n c : Nat} {A2 : Option Addr} (w : World) (hn : n = 0) : Calls Tryz.prog 117 #[.slice A2 n c, .func (.func 92) #[] #[.pointer (some ⟨gn, 0, none⟩)]] w fun e w' => e = .returned (.int .i64 (-1)) ∧ w = w' := by
 subst hn
 skip
 go_enter Tryz.func117, Tryz.ntmps117
 go_wp2_with fail
 refine wp_loop_rounds 1 ?_
 rw [rounds_succ]
 go_wp2_with fail
 go_ret
 exact ⟨rfl, rfl⟩
theorem idxa_none {gn : Nat} {n c : Nat} {A2 : Option Addr} {t : Int} {l : List Mp} (w : World) (hnb : w.heap[gn]? = some (.cells #[.int .i64 t] 2 (0, 0))) (en : Sle mpE 9 w A2 n c l) (hn : n ≤ 1000) (hN : ∀ e ∈ l, deadB t e = false) : Calls Tryz.prog 117 #[.slice A2 n c, .func (.func 92) #[] #[.pointer (some ⟨gn, 0, none⟩)]] w fun e w' => e = .returned (.int .i64 (-1)) ∧ Below w.heap.size w w' := by
 rcases Nat.eq_zero_or_pos n with h | h
 ·refine (idxa_nil w h).mono ?_
  rintro e w' ⟨rfl, rfl⟩
  exact ⟨rfl, Below.refl _ _⟩
 ·obtain ⟨g, o, rfl⟩ := en.place h
  exact idxa_none_pos w hnb en hn hN
theorem dela_some {gn : Nat} {lo gE n c k : Nat} {t : Int} {l : List Mp} {x : Mp} (w : World) (hlo : lo ≤ w.heap.size) (hnb : w.heap[gn]? = some (.cells #[.int .i64 t] 2 (0, 0))) (hown : w.ownsRow lo 65 9 (.slice (some ⟨gE, 0, none⟩) n c) n (l.flatMap mpE)) (hn : n ≤ 1000) (hx : l[k]? = some x) (hg : deadB t x = true) (hN : ∀ j e, j < k → l[j]? = some e → deadB t e = false) : Calls Tryz.prog 93 #[.slice (some ⟨gE, 0, none⟩) n c, .func (.func 92) #[] #[.pointer (some ⟨gn, 0, none⟩)]] w fun e w' => ∃ i, e = .returned (.slice (some ⟨gE, 0, none⟩) i c) ∧ w'.ownsRow lo 65 9 (.slice (some ⟨gE, 0, none⟩) i c) i ((l.filter (fun e => !deadB t e)).flatMap mpE) ∧ w.grownBy w' (some gE) := by
 have own := hown
 clear hown
 have off_nb := ofs_type own hnb (by decide)
 have en := (owk_sle (by decide) mpE_len own).1
 have HLL := Lib.hid (row_len (by decide) mpE_len own)
 have HCAP := Lib.hid (row_cap own)
 have HKN : Hid (k + 1 ≤ n) := Lib.hid (by have := (List.getElem?_eq_some_iff.1 hx).1; have h_ := HLL.out; omega)
 have HF0 : Hid (l.take k = (l.take (k + 1)).filter (fun e => !deadB t e)) := Lib.hid (by rw [mfilt_skip hx (by show (!_) = _; rw [hg]; rfl)]; exact mfilt_first (fun j e h1 h2 => by show (!_) = _; rw [hN j e h1 h2]; rfl))
 have hn0 : (n : Int) ≤ 1000 := by omega
 have hne : ((k : Int) == -1) = false := beq_eq_false_iff_ne.2 (by omega)
 have k0 : (0 : Int) ≤ k := by omega
 have k1 : (k : Int) < n := by have := HKN.out; omega
 have HN := Lib.hid hn
 have HXI := Lib.hid hx
 have HGI := Lib.hid hg
 have HNI := Lib.hid hN
 have grw := World.grownBy.refl w (some gE)
 clear hn hx hg hN
 have bel := Below.refl lo w
 go_enter Tryz.func93, Tryz.ntmps93
 go_wp2_with fail
 have H1000 := HN.out
 with_reducible refine (idxa_some _ hnb en H1000 HXI.out HGI.out HNI.out).mono ?_
 rintro e w1 ⟨rfl, b1⟩
 replace hnb := blk_u hnb b1
 replace en := en.below b1
 replace own := owk_under own b1
 replace grw := grw.trans (grown_of_below b1)
 replace bel := bel.trans (b1.mono (Nat.le_trans hlo bel.size))
 clear b1
 clear H1000
 go_wp2_with fail
 go_loopg [6, 5] (n - (k + 1)) (fun gk s6 s5 wr => ∃ j : Nat, ∃ i : Nat, ∃ cur : List Mp, gk = n - j ∧ i < j ∧ j ≤ n ∧ Hid (cur.length = n) ∧ Hid (cur.take i = (l.take j).filter (fun e => !deadB t e)) ∧ Hid (cur.drop j = l.drop j) ∧ wr.ownsRow lo 65 9 (.slice (some ⟨gE, 0, none⟩) n c) n (cur.flatMap mpE) ∧ w.grownBy wr (some gE) ∧ s6 = .int .i64 (j : Int) ∧ s5 = .int .i64 (i : Int) ∧ wr.heap[gn]? = some (.cells #[.int .i64 t] 2 (0, 0)) ∧ Sle mpE 9 wr (some ⟨gE, 0, none⟩) (n) (c) (cur) ∧ Below lo w wr)
 case atStart => exact ⟨k + 1, k, l, rfl, Nat.lt_succ_self k, HKN.out, HLL, HF0, Lib.hid rfl, own, grw, by go_num, rfl, hnb, en, bel⟩
 case round =>
  clear own grw hnb en bel
  obtain ⟨j, i, cur, HGK, hij, hjn, HCL, HCT, HCD, own, grw, rfl, rfl, hnb, en, bel⟩ := hrel
  have HGK_ := Lib.hid HGK
  clear HGK
  by_cases h : j < n
  rotate_left
  ·obtain rfl : j = n := by omega
   replace h : decide (j < j) = false := decide_eq_false (by omega)
   obtain ⟨q, hq⟩ : ∃ q, i + q = j := ⟨j - i, by omega⟩
   have HQ := Lib.hid hq
   have HQ0 : Hid (0 < q) := Lib.hid (by omega)
   have r38 := fun W => mp_back gE j c i (by omega) (by have := HCAP.out; omega) W
   rw [show j - i = q by omega] at r38
   have r41 := fun W => mp_front gE j c i (by have := HCAP.out; omega) W
   clear hq
   have R38 := r38
   go_wp2_with (first | ((with_reducible show wpList _ _ _ (⟨none, Op.call _, _, _, _, _⟩ :: _) _ _); refine wpList_clear_row rfl (.tmp 38) 74 65 rfl (.agg #[.int .i64 0, .int .i64 0, .int .u8 0, .int .u8 0, .int .u8 0, .int .u8 0, .int .i64 0, .int .i64 0, .int .i64 0]) Tryz.underlying74 mp_zero mp_zs mp_z1 _ HQ.out own HQ0.out _ rfl ?_; intro w90 own_ gw; replace grw := grw.trans gw; clear bel own gw hnb en; have own := own_; clear own_; have R41 := r41))
   try clear R38
   try clear R41
   go_ret
   exact ⟨i, rfl, by rw [← flat_take mpE_len, HCT.out, List.take_of_length_le (Nat.le_of_eq HLL.out)] at own; exact own, grw⟩
  have HX0 := mdrop_head HCD.out
  obtain ⟨e, hx⟩ : ∃ e, l[j]? = some e := ⟨_, List.getElem?_eq_getElem (by have := HLL.out; omega)⟩
  have HXL := Lib.hid hx
  have HX : Hid (cur[j]? = some e) := Lib.hid (HX0.trans hx)
  obtain ⟨xi, hxi⟩ : ∃ xi, cur[i]? = some xi := ⟨_, List.getElem?_eq_getElem (by have := HCL.out; omega)⟩
  have HXI2 := Lib.hid hxi
  have j0 : (0 : Int) ≤ j := by omega
  have j1 : (j : Int) < n := by omega
  have i0_ : (0 : Int) ≤ i := by omega
  have i1_ : (i : Int) < n := by omega
  clear hx HX0 hxi
  rcases hb : deadB t e with _ | _
  rotate_left
  ·have HG := Lib.hid hb
   clear hb
   have HKE : Hid ((fun e => !deadB t e) e = false) := Lib.hid (by show (!_) = _; rw [HG.out]; rfl)
   have R25 := Lib.hid (Sle.zrange0 en HX.out 9 [.int .i64 e.pr, .int .i64 e.o, .int .u8 (e.ad.a.toNat : Int), .int .u8 (e.ad.b.toNat : Int), .int .u8 (e.ad.c.toNat : Int), .int .u8 (e.ad.d.toNat : Int), .int .i64 e.i, .int .i64 e.k, .int .i64 e.u] rfl)
   go_wp2_with (first | ((with_reducible show wpList _ _ _ (⟨some 25, _, _, _, _, _⟩ :: _) _ _); refine wpList_load_rng 65 (.tmp 24) rfl (by kernel_rfl) _ _ rfl _ R25.out _ Tryz.underlying65 rfl (by kernel_rfl) ?_) | ((with_reducible show wpList _ _ _ (⟨some 7, _, _, _, _, _⟩ :: _) _ _); refine wpList_new_a rfl 65 rfl #[.int .i64 0, .int .i64 0, .int .u8 0, .int .u8 0, .int .u8 0, .int .u8 0, .int .i64 0, .int .i64 0, .int .i64 0] (by kernel_rfl) ?_; intro g7 w2 ge hh bb; have d_nb_vb := ne_new (hlt hnb) ge; have av_en_vb := en.av_new ge; have ovb := Nat.le_trans (Nat.le_trans hlo bel.size) ge; have off_vb := owk_new own ge; have pv_vb := Nat.le_trans grw.size ge; replace hnb := blk_u hnb bb; replace en := en.below bb; replace own := owk_under own bb; replace grw := grw.trans (grown_of_below bb); replace bel := bel.trans (bb.mono (Nat.le_trans hlo bel.size)); have hvb := hh; clear hh ge bb) | ((with_reducible show wpList _ _ _ (⟨none, Op.store _ (.tmp 7) _, _, _, _, _⟩ :: _) _ _); refine wpList_store_blk rfl 65 (.tmp 7) (.tmp 25) rfl g7 rfl _ rfl _ 65 hvb (by rfl) (by kernel_rfl) (by kernel_rfl) ?_; intro w3 hq gr; replace en := en.away av_en_vb gr; replace hnb := blk_a hnb gr d_nb_vb; replace own := owk_off own off_vb gr; replace grw := gk_new grw pv_vb gr; replace bel := below_grown bel gr ovb (Nat.le_trans hlo bel.size); clear hvb; have hvb := hq; clear hq gr; have R27 := Lib.hid (range_lit hvb 0 9 [.int .i64 e.pr, .int .i64 e.o, .int .u8 (e.ad.a.toNat : Int), .int .u8 (e.ad.b.toNat : Int), .int .u8 (e.ad.c.toNat : Int), .int .u8 (e.ad.d.toNat : Int), .int .i64 e.i, .int .i64 e.k, .int .i64 e.u] rfl)) | ((with_reducible show wpList _ _ _ (⟨some 27, _, _, _, _, _⟩ :: _) _ _); refine wpList_load_rng 65 (.tmp 7) rfl (by kernel_rfl) _ _ rfl _ R27.out _ Tryz.underlying65 rfl (by kernel_rfl) ?_))
   try clear R25
   try clear R27
   with_reducible refine (clf_a e _ hnb).mono ?_
   rintro e w4 ⟨rfl, b4⟩
   replace hnb := blk_u hnb b4
   replace hvb := blk_u hvb b4
   replace en := en.below b4
   replace own := owk_under own b4
   replace grw := grw.trans (grown_of_below b4)
   replace bel := bel.trans (b4.mono (Nat.le_trans hlo bel.size))
   clear b4
   rw [HG.out]
   go_wp2_with fail
   go_roundg (n - (j + 1))
   case measure => have := HGK_.out; omega
   case rel => exact ⟨j + 1, i, cur, rfl, by omega, by omega, HCL, Lib.hid (by rw [mfilt_skip HXL.out HKE.out]; exact HCT.out), Lib.hid (mdrop_more HCD.out), own, grw, by go_num, by go_num, hnb, en, bel⟩
  have HG := Lib.hid hb
  clear hb
  have HKE : Hid ((fun e => !deadB t e) e = true) := Lib.hid (by show (!_) = _; rw [HG.out]; rfl)
  have R25 := Lib.hid (Sle.zrange0 en HX.out 9 [.int .i64 e.pr, .int .i64 e.o, .int .u8 (e.ad.a.toNat : Int), .int .u8 (e.ad.b.toNat : Int), .int .u8 (e.ad.c.toNat : Int), .int .u8 (e.ad.d.toNat : Int), .int .i64 e.i, .int .i64 e.k, .int .i64 e.u] rfl)
  go_wp2_with (first | ((with_reducible show wpList _ _ _ (⟨some 25, _, _, _, _, _⟩ :: _) _ _); refine wpList_load_rng 65 (.tmp 24) rfl (by kernel_rfl) _ _ rfl _ R25.out _ Tryz.underlying65 rfl (by kernel_rfl) ?_) | ((with_reducible show wpList _ _ _ (⟨some 7, _, _, _, _, _⟩ :: _) _ _); refine wpList_new_a rfl 65 rfl #[.int .i64 0, .int .i64 0, .int .u8 0, .int .u8 0, .int .u8 0, .int .u8 0, .int .i64 0, .int .i64 0, .int .i64 0] (by kernel_rfl) ?_; intro g7 w2 ge hh bb; have d_nb_vb := ne_new (hlt hnb) ge; have av_en_vb := en.av_new ge; have ovb := Nat.le_trans (Nat.le_trans hlo bel.size) ge; have off_vb := owk_new own ge; have pv_vb := Nat.le_trans grw.size ge; replace hnb := blk_u hnb bb; replace en := en.below bb; replace own := owk_under own bb; replace grw := grw.trans (grown_of_below bb); replace bel := bel.trans (bb.mono (Nat.le_trans hlo bel.size)); have hvb := hh; clear hh ge bb) | ((with_reducible show wpList _ _ _ (⟨none, Op.store _ (.tmp 7) _, _, _, _, _⟩ :: _) _ _); refine wpList_store_blk rfl 65 (.tmp 7) (.tmp 25) rfl g7 rfl _ rfl _ 65 hvb (by rfl) (by kernel_rfl) (by kernel_rfl) ?_; intro w3 hq gr; replace en := en.away av_en_vb gr; replace hnb := blk_a hnb gr d_nb_vb; replace own := owk_off own off_vb gr; replace grw := gk_new grw pv_vb gr; replace bel := below_grown bel gr ovb (Nat.le_trans hlo bel.size); clear hvb; have hvb := hq; clear hq gr; have R27 := Lib.hid (range_lit hvb 0 9 [.int .i64 e.pr, .int .i64 e.o, .int .u8 (e.ad.a.toNat : Int), .int .u8 (e.ad.b.toNat : Int), .int .u8 (e.ad.c.toNat : Int), .int .u8 (e.ad.d.toNat : Int), .int .i64 e.i, .int .i64 e.k, .int .i64 e.u] rfl)) | ((with_reducible show wpList _ _ _ (⟨some 27, _, _, _, _, _⟩ :: _) _ _); refine wpList_load_rng 65 (.tmp 7) rfl (by kernel_rfl) _ _ rfl _ R27.out _ Tryz.underlying65 rfl (by kernel_rfl) ?_))
  try clear R25
  try clear R27
  with_reducible refine (clf_a e _ hnb).mono ?_
  rintro e w4 ⟨rfl, b4⟩
  replace hnb := blk_u hnb b4
  replace hvb := blk_u hvb b4
  replace en := en.below b4
  replace own := owk_under own b4
  replace grw := grw.trans (grown_of_below b4)
  replace bel := bel.trans (b4.mono (Nat.le_trans hlo bel.size))
  clear b4
  rw [HG.out]
  have R32 := Lib.hid (range_lit hvb 0 9 [.int .i64 e.pr, .int .i64 e.o, .int .u8 (e.ad.a.toNat : Int), .int .u8 (e.ad.b.toNat : Int), .int .u8 (e.ad.c.toNat : Int), .int .u8 (e.ad.d.toNat : Int), .int .i64 e.i, .int .i64 e.k, .int .i64 e.u] rfl)
  go_wp2_with (first | ((with_reducible show wpList _ _ _ (⟨some 32, _, _, _, _, _⟩ :: _) _ _); refine wpList_load_rng 65 (.tmp 7) rfl (by kernel_rfl) _ _ rfl _ R32.out _ Tryz.underlying65 rfl (by kernel_rfl) ?_) | ((with_reducible show wpList _ _ _ (⟨none, Op.store _ (.tmp 33) _, _, _, _, _⟩ :: _) _ _); refine wpList_store_el rfl 65 (.tmp 33) (.tmp 32) rfl gE i 0 xi e rfl [.int .i64 e.pr, .int .i64 e.o, .int .u8 (e.ad.a.toNat : Int), .int .u8 (e.ad.b.toNat : Int), .int .u8 (e.ad.c.toNat : Int), .int .u8 (e.ad.d.toNat : Int), .int .i64 e.i, .int .i64 e.k, .int .i64 e.u] rfl (by decide) mpE_len own HXI2.out (Nat.le_of_ble_eq_true rfl) rfl (by kernel_rfl) (by rfl) ?_; intro w5 own_ gw; replace bel := bel.trans (row_bel gw own (Nat.le_trans hlo bel.size)); replace hnb := blk_own (v := .slice (some ⟨gE, 0, none⟩) n c) hnb gw off_nb; replace hvb := blk_own (v := .slice (some ⟨gE, 0, none⟩) n c) hvb gw off_vb; replace grw := grw.trans gw; clear own; have own := own_; clear own_ gw; replace en := (owk_sle (by decide) mpE_len own).1))
  try clear R32
  go_roundg (n - (j + 1))
  case measure => have := HGK_.out; omega
  case rel => exact ⟨j + 1, i + 1, cur.set i e, rfl, by omega, by omega, Lib.hid (by rw [List.length_set]; exact HCL.out), Lib.hid (by rw [mtake_set_next (by have := HCL.out; omega), mfilt_keep HXL.out HKE.out, HCT.out]), Lib.hid (by rw [mdrop_set_next (by omega)]; exact mdrop_more HCD.out), own, grw, by go_num, by go_num, hnb, en, bel⟩
theorem dela_none {gn : Nat} {n c : Nat} {A2 : Option Addr} {t : Int} {l : List Mp} (w : World) (hnb : w.heap[gn]? = some (.cells #[.int .i64 t] 2 (0, 0))) (en : Sle mpE 9 w A2 n c l) (hn : n ≤ 1000) (hN : ∀ e ∈ l, deadB t e = false) : Calls Tryz.prog 93 #[.slice A2 n c, .func (.func 92) #[] #[.pointer (some ⟨gn, 0, none⟩)]] w fun e w' => e = .returned (.slice A2 n c) ∧ Below w.heap.size w w' := by
 have bel := Below.refl w.heap.size w
 go_enter Tryz.func93, Tryz.ntmps93
 go_wp2_with fail
 with_reducible refine (idxa_none _ hnb en hn hN).mono ?_
 rintro e w1 ⟨rfl, b1⟩
 replace hnb := blk_u hnb b1
 replace en := en.below b1
 replace bel := bel.trans (b1.mono bel.size)
 clear b1
 go_wp2_with fail
 go_ret
 exact ⟨rfl, bel⟩
theorem dela_any {gn : Nat} {lo n c : Nat} {A2 : Option Addr} {t : Int} {l : List Mp} (w : World) (hlo : lo ≤ w.heap.size) (hnb : w.heap[gn]? = some (.cells #[.int .i64 t] 2 (0, 0))) (hown : w.ownsRow lo 65 9 (.slice A2 n c) n (l.flatMap mpE)) (hn : n ≤ 1000) : Calls Tryz.prog 93 #[.slice A2 n c, .func (.func 92) #[] #[.pointer (some ⟨gn, 0, none⟩)]] w fun e w' => ∃ n3, e = .returned (.slice A2 n3 c) ∧ w'.ownsRow lo 65 9 (.slice A2 n3 c) n3 ((l.filter (fun e => !deadB t e)).flatMap mpE) ∧ w.grownBy w' (Value.ownBlock (.slice A2 n c)) ∧ (∀ q, q < w.heap.size → Ofs (.slice A2 n c) q → Ofs (.slice A2 n3 c) q) := by
 rcases mfirst_of (deadB t) l with h | ⟨k, x, h1, h2, h3⟩
 ·refine (dela_none w hnb (owk_sle (by decide) mpE_len hown).1 hn h).mono ?_
  rintro e w' ⟨rfl, bel⟩
  refine ⟨n, rfl, ?_, grown_of_below bel, fun _ _ h => h⟩
  rw [show l.filter (fun e => !deadB t e) = l from List.filter_eq_self.2 (fun e he => by show (!_) = _; rw [h e he]; rfl)]
  exact owk_under hown bel
 ·obtain ⟨gE, rfl, _⟩ := row_at hown (by have := (List.getElem?_eq_some_iff.1 h1).1; have h_ := row_len (by decide) mpE_len hown; omega)
  refine (dela_some w hlo hnb hown hn h1 h2 h3).mono ?_
  rintro e w' ⟨i, rfl, h4, h5⟩
  exact ⟨i, rfl, h4, h5, fun _ _ h => h⟩
open Go.RowKit

theorem blk_ne {w : World} {a b : Nat} {c c' : Array Value} {T T' : TypeId} {f f' : Nat × Nat} (h : w.heap[a]? = some (.cells c T f)) (h' : w.heap[b]? = some (.cells c' T' f')) (hT : T ≠ T') : a ≠ b := fun e => by
 subst e; rw [h] at h'; injection h' with h'; injection h' with _ h2 _; exact hT h2
theorem wp_om_put {o : Oper} {a : Act} {w : World} {K : Act → World → Prop} {Q : Exit → Act → World → Prop} (px py pz : Operand) (ho : o.op = .mapUpdate 73 px py pz) {lo mb : Nat} {os : List Mp} (m : Mp)
  (hx : a.eval px = .map (some mb)) (hy : a.eval py = ptV m.pr m.o) (hz : a.eval pz = mpV m) (h : Om lo mb w os) (hm : m.okp) (hK : ∀ w', Om lo mb w' (oput os m) → w.grownBy w' (some mb) → K (a.put o.dst undef) w') : Oper.wp Tryz.prog o a w K Q := by
 obtain ⟨w', hr, h1, h2⟩ := h.put hm
 unfold Oper.wp execOp
 simp only [ho, hx, hy, hz, Sem.run_bind, Sem.run_pure, Result.andThen_ok, hr]
 exact hK _ h1 h2
theorem wp_om_del {o : Oper} {a : Act} {w : World} {K : Act → World → Prop} {Q : Exit → Act → World → Prop} (px py : Operand) (ho : o.op = .call { callee := .builtin .delete, args := #[px, py], argTypes := #[73, 100] }) {lo mb : Nat} {os : List Mp} (p q : Int)
  (hx : a.eval px = .map (some mb)) (hy : a.eval py = ptV p q) (h : Om lo mb w os) (hp : okP p q) (hK : ∀ w', Om lo mb w' (odel os (kn p q)) → w.grownBy w' (some mb) → K (a.put o.dst (.tuple #[])) w') : Oper.wp Tryz.prog o a w K Q := by
 obtain ⟨w', hr, h1, h2⟩ := h.del hp o.type
 unfold Oper.wp execOp
 simp only [ho, resolve, invoke, builtin, Sem.run_bind, Sem.run_pure, Result.andThen_ok, List.map_toArray, List.map_cons, List.map_nil, hx, hy, hr]
 exact hK _ h1 h2
theorem makemap_n {o : Oper} {a : Act} {w : World} {K : Act → World → Prop} {Q : Exit → Act → World → Prop} (T : TypeId) (ho : o.op = .makeMap T none)
  (hK : ∀ g w', w.heap.size ≤ g → Om w.heap.size g w' [] → Below w.heap.size w w' → K (a.put o.dst (.map (some g))) w') : Oper.wp Tryz.prog o a w K Q := by
 unfold Oper.wp execOp
 simp only [ho, Option.map_none, run_makeMap, Sem.run_bind, Sem.run_pure, Result.andThen_ok]
 exact hK _ _ (Nat.le_refl _) (Om.made w) ((Below.refl _ _).alloc (Nat.le_refl _) _)
theorem wpList_makemap_n {ops : Array Oper} {rest : List Oper} {o : Oper} {a : Act} {w : World} {Q : Exit → Act → World → Prop} (hgd : o.guard = none) (T : TypeId) (ho : o.op = .makeMap T none)
  (hK : ∀ g w', w.heap.size ≤ g → Om w.heap.size g w' [] → Below w.heap.size w w' → wpList Tryz.prog ops Q rest (a.put o.dst (.map (some g))) w') : wpList Tryz.prog ops Q (o :: rest) a w :=
 wpList_plain hgd fun _ hK' => makemap_n T ho fun g w' h1 h2 h3 => hK' _ _ (hK g w' h1 h2 h3)
/-- The table at block gt: what is of the call's own from lo on; what it holds. -/
def Tp (lo gt : Nat) (w : World) (s : Ts) : Prop := ∃ (A : Option Addr) (n c mb : Nat), w.heap[gt]? = some (.cells #[.int .i64 s.lw, .int .i64 s.rm, .int .i64 s.now, .slice A n c, .map (some mb)] 76 (0, 0)) ∧ lo ≤ gt ∧ Om lo mb w s.os ∧ w.ownsRow lo 65 9 (.slice A n c) n (s.l.flatMap mpE) ∧ s.ok
theorem Tp.below {lo gt : Nat} {w w' : World} {s : Ts} (h : Tp lo gt w s) (b : Below w.heap.size w w') : Tp lo gt w' s := by
 obtain ⟨A, n, c, mb, h1, h2, h3, h4, h5⟩ := h
 exact ⟨A, n, c, mb, blk_u h1 b, h2, h3.below b, owk_under h4 b, h5⟩
theorem Tp.grown {lo gt q : Nat} {w w' : World} {s : Ts} {c : Array Value} {T : TypeId} {fz : Nat × Nat} (h : Tp lo gt w s) (g : w.grownBy w' (some q)) (hq : w.heap[q]? = some (.cells c T fz)) (h1 : T ≠ 76) (h2 : T ≠ 65) : Tp lo gt w' s := by
 obtain ⟨A, n, c', mb, e1, e2, e3, e4, e5⟩ := h
 have k : Kt [T] w w' := kt_grown g hq (by simp)
 exact ⟨A, n, c', mb, k.blk e1 (by simpa using fun e => h1 e.symm), e2, e3.grown g hq, k.own e4 (by simpa using fun e => h2 e.symm), e5⟩
theorem Tp.lo_le {lo gt : Nat} {w : World} {s : Ts} (h : Tp lo gt w s) : lo ≤ w.heap.size := by
 obtain ⟨A, n, c, mb, h1, h2, _⟩ := h
 exact Nat.le_trans h2 (Nat.le_of_lt (hlt h1))
theorem Tp.lo_mono {lo lo' gt : Nat} {w : World} {s : Ts} (h : Tp lo gt w s) (hl : lo' ≤ lo) : Tp lo' gt w s := by
 obtain ⟨A, n, c, mb, h1, h2, h3, h4, h5⟩ := h
 exact ⟨A, n, c, mb, h1, Nat.le_trans hl h2, h3.lo_le hl, owk_lo h4 hl, h5⟩
theorem Tp.ok {lo gt : Nat} {w : World} {s : Ts} (h : Tp lo gt w s) : s.ok := by
 obtain ⟨_, _, _, _, _, _, _, _, h⟩ := h
 exact h
def TbB (w : World) (gt : Nat) (a b d : Int) (A : Option Addr) (n c mb : Nat) : Prop := w.heap[gt]? = some (.cells #[.int .i64 a, .int .i64 b, .int .i64 d, .slice A n c, .map (some mb)] 76 (0, 0))
/-- A block that lies apart from the table's. -/
def Ap (gt : Nat) (w : World) (q : Nat) : Prop := q ≠ gt ∧ gt < w.heap.size ∧ ∀ (a b d : Int) (A : Option Addr) (n c mb : Nat), TbB w gt a b d A n c mb → Ofs (.slice A n c) q
theorem Ap.below {gt q : Nat} {w w' : World} (h : Ap gt w q) (b : Below w.heap.size w w') : Ap gt w' q := ⟨h.1, Nat.lt_of_lt_of_le h.2.1 b.size, fun a b' d A n c mb hh => h.2.2 a b' d A n c mb ((b.block gt h.2.1).symm.trans hh)⟩
theorem Ap.grown {gt q r : Nat} {w w' : World} (h : Ap gt w q) (hr : r ≠ gt) (g : w.grownBy w' (some r)) : Ap gt w' q := ⟨h.1, Nat.lt_of_lt_of_le h.2.1 g.size, fun a b' d A n c mb hh => h.2.2 a b' d A n c mb ((g.block gt h.2.1 (fun e => hr (by injection e with e; exact e.symm))).symm.trans hh)⟩
theorem Ap.ofs {gt q : Nat} {w : World} {a b d : Int} {A : Option Addr} {n c mb : Nat} (h : Ap gt w q) (htb : w.heap[gt]? = some (.cells #[.int .i64 a, .int .i64 b, .int .i64 d, .slice A n c, .map (some mb)] 76 (0, 0))) : Ofs (.slice A n c) q := h.2.2 _ _ _ _ _ _ _ htb
theorem Ap.mk {gt q : Nat} {w : World} {a b d : Int} {A : Option Addr} {n c mb : Nat} (htb : w.heap[gt]? = some (.cells #[.int .i64 a, .int .i64 b, .int .i64 d, .slice A n c, .map (some mb)] 76 (0, 0))) (h : Ofs (.slice A n c) q) (hq : q ≠ gt) : Ap gt w q := by
 refine ⟨hq, hlt htb, fun a' b' d' A' n' c' mb' hh => ?_⟩
 unfold TbB at hh
 rw [htb] at hh
 simp only [Option.some.injEq, Obj.cells.injEq, Array.mk.injEq, List.cons.injEq, Value.slice.injEq, and_true] at hh
 obtain ⟨_, _, _, ⟨h1, h2, h3⟩, _⟩ := hh
 rw [← h1, ← h2, ← h3]; exact h
theorem Tp.ap {lo gt q : Nat} {w : World} {s : Ts} (h : Tp lo gt w s) (hq : w.heap.size ≤ q) : Ap gt w q := by
 obtain ⟨A, n, c, mb, h1, h2, h3, h4, h5⟩ := h
 exact Ap.mk h1 (owk_new h4 hq) (Nat.ne_of_gt (Nat.lt_of_lt_of_le (hlt h1) hq))
theorem Tp.away {lo gt q : Nat} {w w' : World} {s : Ts} {c : Array Value} {T : TypeId} {fz : Nat × Nat} (h : Tp lo gt w s) (ap : Ap gt w q) (g : w.grownBy w' (some q)) (hq : w.heap[q]? = some (.cells c T fz)) : Tp lo gt w' s := by
 obtain ⟨A, n, c', mb, h1, h2, h3, h4, h5⟩ := h
 exact ⟨A, n, c', mb, (g.block gt (hlt h1) (fun e => ap.1 (by injection e with e; exact e.symm))).trans h1, h2, h3.grown g hq, owk_off h4 (ap.ofs h1) g, h5⟩
/-- What lies apart stays, and lies apart. -/
def Fap (gt : Nat) (w w' : World) : Prop := ∀ (k : Nat) (c : Array Value) (T : TypeId) (fz : Nat × Nat), w.heap[k]? = some (.cells c T fz) → Ap gt w k → w'.heap[k]? = some (.cells c T fz) ∧ Ap gt w' k
theorem Fap.refl (gt : Nat) (w : World) : Fap gt w w := fun _ _ _ _ h a => ⟨h, a⟩
theorem Fap.trans {gt : Nat} {a b c : World} (h : Fap gt a b) (h' : Fap gt b c) : Fap gt a c := fun k x T fz hx ap => h' k x T fz (h k x T fz hx ap).1 (h k x T fz hx ap).2
theorem Fap.below {gt : Nat} {w W W' : World} (h : Fap gt w W) (b : Below W.heap.size W W') : Fap gt w W' := fun k x T fz hx ap => ⟨blk_u (h k x T fz hx ap).1 b, (h k x T fz hx ap).2.below b⟩
theorem Fap.newer {gt q : Nat} {w W W' : World} (h : Fap gt w W) (ap : Ap gt W q) (g : W.grownBy W' (some q)) (hq : w.heap.size ≤ q) : Fap gt w W' := fun k x T fz hx a => by
 have h1 := h k x T fz hx a
 exact ⟨(g.block k (hlt h1.1) (fun e => by injection e with e; have := hlt hx; omega)).trans h1.1, h1.2.grown ap.1 g⟩
def Fo (gt : Nat) (w W : World) (v : Value) : Prop := ∀ (k : Nat) (c : Array Value) (T : TypeId) (fz : Nat × Nat), w.heap[k]? = some (.cells c T fz) → Ap gt w k → W.heap[k]? = some (.cells c T fz) ∧ k ≠ gt ∧ Ofs v k
theorem Fo.refl {gt : Nat} {w : World} {a b d : Int} {A : Option Addr} {n c mb : Nat} (htb : w.heap[gt]? = some (.cells #[.int .i64 a, .int .i64 b, .int .i64 d, .slice A n c, .map (some mb)] 76 (0, 0))) : Fo gt w w (.slice A n c) := fun _ _ _ _ h ap => ⟨h, ap.1, ap.ofs htb⟩
theorem Fap.fo {gt : Nat} {w W : World} {a b d : Int} {A : Option Addr} {n c mb : Nat} (h : Fap gt w W) (htb : W.heap[gt]? = some (.cells #[.int .i64 a, .int .i64 b, .int .i64 d, .slice A n c, .map (some mb)] 76 (0, 0))) : Fo gt w W (.slice A n c) := fun k x T fz hx ap => ⟨(h k x T fz hx ap).1, (h k x T fz hx ap).2.1, (h k x T fz hx ap).2.ofs htb⟩
theorem Fo.fr {gt : Nat} {w W : World} {a b d : Int} {A : Option Addr} {n c mb : Nat} (h : Fo gt w W (.slice A n c)) (htb : W.heap[gt]? = some (.cells #[.int .i64 a, .int .i64 b, .int .i64 d, .slice A n c, .map (some mb)] 76 (0, 0))) : Fap gt w W := fun k x T fz hx ap => ⟨(h k x T fz hx ap).1, Ap.mk htb (h k x T fz hx ap).2.2 (h k x T fz hx ap).2.1⟩
theorem Fo.below {gt : Nat} {w W W' : World} {v : Value} (h : Fo gt w W v) (b : Below W.heap.size W W') : Fo gt w W' v := fun k x T fz hx ap => ⟨blk_u (h k x T fz hx ap).1 b, (h k x T fz hx ap).2⟩
theorem fo_drew {gt : Nat} {w W : World} {v : Value} (h : Fo gt w W v) : Fo gt w W.drew v := h
theorem Fo.tb {gt : Nat} {w W W' : World} {v : Value} (h : Fo gt w W v) (g : W.grownBy W' (some gt)) : Fo gt w W' v := fun k x T fz hx ap => by
 have h1 := h k x T fz hx ap
 exact ⟨(g.block k (hlt h1.1) (fun e => h1.2.1 (by injection e))).trans h1.1, h1.2⟩
theorem Fo.newer {gt q : Nat} {w W W' : World} {v : Value} (h : Fo gt w W v) (g : W.grownBy W' (some q)) (hq : w.heap.size ≤ q) : Fo gt w W' v := fun k x T fz hx ap => by
 have h1 := h k x T fz hx ap
 exact ⟨(g.block k (hlt h1.1) (fun e => by injection e with e; have := hlt hx; omega)).trans h1.1, h1.2⟩
theorem Fo.row {gt : Nat} {w W W' : World} {v v' : Value} (h : Fo gt w W v) (g : W.grownBy W' v.ownBlock) (o : ∀ q, q < W.heap.size → Ofs v q → Ofs v' q) : Fo gt w W' v' := fun k x T fz hx ap => by
 have h1 := h k x T fz hx ap
 exact ⟨blk_own h1.1 g h1.2.2, h1.2.1, o k (hlt h1.1) h1.2.2⟩
theorem Fo.map {lo mb gt : Nat} {w W W' : World} {v : Value} {os : List Mp} (h : Fo gt w W v) (hM : Om lo mb W os) (g : W.grownBy W' (some mb)) : Fo gt w W' v := fun k x T fz hx ap => ⟨hM.blk g (h k x T fz hx ap).1, (h k x T fz hx ap).2⟩
/-- A row that lies apart stays. -/
def ApV (gt : Nat) (w : World) (v : Value) : Prop := ∀ g, v.ownBlock = some g → Ap gt w g
theorem Fap.own {gt B k n : Nat} {w w' : World} {T : TypeId} {v : Value} {xs : List Value} (h : Fap gt w w') (ho : w.ownsRow B T k v n xs) (ap : ApV gt w v) : w'.ownsRow B T k v n xs ∧ ApV gt w' v := by
 rcases ho.2 with h2 | ⟨g', cap, cur, e2, hb, hh, h3⟩
 ·refine ⟨⟨ho.1, .inl h2⟩, fun g hg => ?_⟩
  rw [h2.1] at hg; simp [Value.ownBlock] at hg
 ·have hv : v.ownBlock = some g' := by rw [e2]; rfl
  have h4 := h _ _ _ _ hh (ap g' hv)
  refine ⟨⟨ho.1, .inr ⟨g', cap, cur, e2, hb, h4.1, h3⟩⟩, fun g hg => ?_⟩
  rw [hv] at hg; cases hg; exact h4.2
theorem overs_skip {l os : List Mp} {t : Int} {k : Nat} {e : Mp} (he : l[k]? = some e) (h : deadB t e = false) : overs (l.take (k + 1)) t os = overs (l.take k) t os := by
 unfold overs
 rw [mfilt_skip he h]
theorem overs_keep {l os : List Mp} {t : Int} {k : Nat} {e : Mp} (he : l[k]? = some e) (h : deadB t e = true) : overs (l.take (k + 1)) t os = oput (overs (l.take k) t os) e := by
 unfold overs
 rw [mfilt_keep he h, List.foldl_append]
 rfl
theorem dead_live (t : Int) : (fun e => !deadB t e) = liveB t := by
 funext e
 unfold deadB
 rw [Bool.not_not]
theorem tadv_no1 {lo gt : Nat} {lw rm now : Int} {l os : List Mp} (t : Int) (w : World) (hT : Tp lo gt w ⟨lw, rm, now, l, os⟩) (h1 : ¬ now < t) : Calls Tryz.prog 56 #[.pointer (some ⟨gt, 0, none⟩), .int .i64 t] w fun e w' => e = .returned (.tuple #[]) ∧ Tp lo gt w' ⟨lw, rm, now, l, os⟩ ∧ Fap gt w w' ∧ Below lo w w' := by
 have hlo : lo ≤ w.heap.size := hT.lo_le
 have HLO := Lib.hid hlo
 obtain ⟨A, n, c, mb, htb, otb, hM, own, hok⟩ := hT
 dsimp only at htb hM own
 have off_tb := ofs_type own htb (by decide)
 have hl := row_len (by decide) mpE_len own
 have HLL := Lib.hid hl
 have HOK := Lib.hid hok
 have H32 : Hid (n ≤ 1000) := Lib.hid (by have h1_ := hok.len; have h2_ := hok.r1; simp only at h1_ h2_; omega)
 have H128 : Hid (n ≤ 128) := Lib.hid (by have h1_ := hok.len; have h2_ := hok.r1; simp only at h1_ h2_; omega)
 clear hl hok
 have fo := Fo.refl htb
 have h2 : t ≤ now := by omega
 clear h1
 have bel := Below.refl lo w
 go_enter Tryz.func56, Tryz.ntmps56
 go_wp2_with (first | ((with_reducible show wpList _ _ _ (⟨some 3, _, _, _, _, _⟩ :: _) _ _); refine wpList_box_n rfl 2 (.tmp 1) rfl #[.int .i64 t] rfl ?_; intro g3 w1 ge lt hh bb; have d_tb_nb := ne_new (hlt htb) ge; have onb := Nat.le_trans (Nat.le_trans hlo bel.size) ge; have off_nb := owk_new own ge; have pn_nb := Nat.le_trans bel.size ge; replace htb := blk_u htb bb; replace own := owk_under own bb; replace fo := fo.below bb; replace hM := hM.below bb; replace bel := bel.trans (bb.mono (Nat.le_trans hlo bel.size)); have hnb := hh; clear hh lt ge bb))
 replace bel := bel.drew
 replace htb : w1.drew.heap[gt]? = _ := htb
 replace hnb : w1.drew.heap[g3]? = _ := hnb
 replace own := World.ownsRow.drew own
 replace fo := fo_drew fo
 replace hM := om_drew hM
 refine wp_region_held_drew (S := fun W => W.heap[g3]? = some (.cells #[.int .i64 t] 2 (0, 0)) ∧ W.heap[gt]? = some (.cells #[.int .i64 lw, .int .i64 rm, .int .i64 now, .slice A n c, .map (some mb)] 76 (0, 0))) (by kernel_rfl) ⟨hnb, htb⟩ (fun hH => ?_)
 generalize w1.drew = w2 at bel htb hnb own fo hM hH ⊢
 refine wpAnyH_take (i := 0) (v := ?_) rfl (by kernel_rfl) (by kernel_rfl) (by kernel_rfl) (fun _ _ _ h => h) (Or.inl ⟨by rfl, ?_⟩) hH ?_
 rotate_left
 ·((intro W hW; have hk := cell_lit (hW.1) 0 _ rfl; clear hW; go_simp) <;> with_reducible rfl)
 simp only [Act.put, List.getElem_toArray, List.getElem_cons_zero, List.setIfInBounds_toArray, List.set_cons_zero, List.set_cons_succ]
 refine wpAnyH_take (i := 1) (v := ?_) rfl (by kernel_rfl) (by kernel_rfl) (by kernel_rfl) (fun _ _ _ h => h) (Or.inl ⟨by rfl, ?_⟩) hH ?_
 rotate_left
 ·((intro W hW; clear hW; go_simp) <;> with_reducible rfl)
 simp only [sq3, sq4]
 refine wpAnyH_take (i := 2) (v := ?_) rfl (by kernel_rfl) (by kernel_rfl) (by kernel_rfl) (fun _ _ _ h => h) (Or.inl ⟨by rfl, ?_⟩) hH ?_
 rotate_left
 ·((intro W hW; clear hW; go_simp) <;> with_reducible rfl)
 simp only [sq3, sq4]
 refine wpAnyH_take (i := 3) (v := ?_) rfl (by kernel_rfl) (by kernel_rfl) (by kernel_rfl) (fun _ _ _ h => h) (Or.inl ⟨by rfl, ?_⟩) hH ?_
 rotate_left
 ·((intro W hW; clear hW; go_simp) <;> with_reducible rfl)
 simp only [sq3, sq4]
 refine wpAnyH_take (i := 4) (v := ?_) rfl (by kernel_rfl) (by kernel_rfl) (by kernel_rfl) (fun _ _ _ h => h) (Or.inl ⟨by rfl, ?_⟩) hH ?_
 rotate_left
 ·((intro W hW; have hk := cell_lit (hW.2) 2 _ rfl; clear hW; go_simp) <;> with_reducible rfl)
 simp only [sq3, sq4]
 refine wpAnyH_take (i := 5) (v := ?_) rfl (by kernel_rfl) (by kernel_rfl) (by kernel_rfl) (fun _ _ _ h => h) (Or.inl ⟨by rfl, ?_⟩) hH ?_
 rotate_left
 ·((intro W hW; clear hW; go_simp) <;> with_reducible rfl)
 simp only [sq3, sq4]
 refine wpAnyH_take (i := 6) (v := ?_) rfl (by kernel_rfl) (by kernel_rfl) (by kernel_rfl) (fun _ _ _ h => h) (Or.inl ⟨by rfl, ?_⟩) hH ?_
 rotate_left
 ·((intro W hW; clear hW; go_simp) <;> with_reducible rfl)
 simp only [sq3, sq4]
 refine wpAnyH_take (i := 7) (v := undef) rfl (by kernel_rfl) (by kernel_rfl) (by kernel_rfl) (fun _ _ _ h => h) (Or.inr ⟨by rfl, rfl⟩) hH ?_
 simp only [sq3, sq4]
 refine wpAnyH_take (i := 8) (v := undef) rfl (by kernel_rfl) (by kernel_rfl) (by kernel_rfl) (fun _ _ _ h => h) (Or.inr ⟨by rfl, rfl⟩) hH ?_
 simp only [sq3, sq4]
 refine wpAnyH_take (i := 9) (v := ?_) rfl (by kernel_rfl) (by kernel_rfl) (by kernel_rfl) (fun _ _ _ h => h) (Or.inl ⟨by rfl, ?_⟩) hH ?_
 rotate_left
 ·((intro W hW; clear hW; go_simp) <;> with_reducible rfl)
 simp only [sq3, sq4]
 refine wpAnyH_done (by kernel_rfl) ?_ _
 go_wp2_with fail
 exact bodyPost_ret (results_none rfl _ _ _) rfl ⟨rfl, ⟨A, n, c, mb, htb, otb, hM, own, HOK.out⟩, fo.fr htb, bel⟩
theorem tadv_no2 {lo gt : Nat} {lw rm now : Int} {l os : List Mp} (t : Int) (w : World) (hT : Tp lo gt w ⟨lw, rm, now, l, os⟩) (h1 : now < t) (h2 : ¬ t ≤ 1099511627776) : Calls Tryz.prog 56 #[.pointer (some ⟨gt, 0, none⟩), .int .i64 t] w fun e w' => e = .returned (.tuple #[]) ∧ Tp lo gt w' ⟨lw, rm, now, l, os⟩ ∧ Fap gt w w' ∧ Below lo w w' := by
 have hlo : lo ≤ w.heap.size := hT.lo_le
 have HLO := Lib.hid hlo
 obtain ⟨A, n, c, mb, htb, otb, hM, own, hok⟩ := hT
 dsimp only at htb hM own
 have off_tb := ofs_type own htb (by decide)
 have hl := row_len (by decide) mpE_len own
 have HLL := Lib.hid hl
 have HOK := Lib.hid hok
 have H32 : Hid (n ≤ 1000) := Lib.hid (by have h1_ := hok.len; have h2_ := hok.r1; simp only at h1_ h2_; omega)
 have H128 : Hid (n ≤ 128) := Lib.hid (by have h1_ := hok.len; have h2_ := hok.r1; simp only at h1_ h2_; omega)
 clear hl hok
 have fo := Fo.refl htb
 have h3 : decide (t ≤ now) = false := decide_eq_false (by omega)
 have h4 : t > 1099511627776 := by omega
 clear h1 h2
 have bel := Below.refl lo w
 go_enter Tryz.func56, Tryz.ntmps56
 go_wp2_with (first | ((with_reducible show wpList _ _ _ (⟨some 3, _, _, _, _, _⟩ :: _) _ _); refine wpList_box_n rfl 2 (.tmp 1) rfl #[.int .i64 t] rfl ?_; intro g3 w1 ge lt hh bb; have d_tb_nb := ne_new (hlt htb) ge; have onb := Nat.le_trans (Nat.le_trans hlo bel.size) ge; have off_nb := owk_new own ge; have pn_nb := Nat.le_trans bel.size ge; replace htb := blk_u htb bb; replace own := owk_under own bb; replace fo := fo.below bb; replace hM := hM.below bb; replace bel := bel.trans (bb.mono (Nat.le_trans hlo bel.size)); have hnb := hh; clear hh lt ge bb))
 replace bel := bel.drew
 replace htb : w1.drew.heap[gt]? = _ := htb
 replace hnb : w1.drew.heap[g3]? = _ := hnb
 replace own := World.ownsRow.drew own
 replace fo := fo_drew fo
 replace hM := om_drew hM
 refine wp_region_held_drew (S := fun W => W.heap[g3]? = some (.cells #[.int .i64 t] 2 (0, 0)) ∧ W.heap[gt]? = some (.cells #[.int .i64 lw, .int .i64 rm, .int .i64 now, .slice A n c, .map (some mb)] 76 (0, 0))) (by kernel_rfl) ⟨hnb, htb⟩ (fun hH => ?_)
 generalize w1.drew = w2 at bel htb hnb own fo hM hH ⊢
 refine wpAnyH_take (i := 0) (v := ?_) rfl (by kernel_rfl) (by kernel_rfl) (by kernel_rfl) (fun _ _ _ h => h) (Or.inl ⟨by rfl, ?_⟩) hH ?_
 rotate_left
 ·((intro W hW; have hk := cell_lit (hW.1) 0 _ rfl; clear hW; go_simp) <;> with_reducible rfl)
 simp only [Act.put, List.getElem_toArray, List.getElem_cons_zero, List.setIfInBounds_toArray, List.set_cons_zero, List.set_cons_succ]
 refine wpAnyH_take (i := 1) (v := ?_) rfl (by kernel_rfl) (by kernel_rfl) (by kernel_rfl) (fun _ _ _ h => h) (Or.inl ⟨by rfl, ?_⟩) hH ?_
 rotate_left
 ·((intro W hW; clear hW; go_simp) <;> with_reducible rfl)
 simp only [sq3, sq4]
 refine wpAnyH_take (i := 2) (v := ?_) rfl (by kernel_rfl) (by kernel_rfl) (by kernel_rfl) (fun _ _ _ h => h) (Or.inl ⟨by rfl, ?_⟩) hH ?_
 rotate_left
 ·((intro W hW; clear hW; go_simp) <;> with_reducible rfl)
 simp only [sq3, sq4]
 refine wpAnyH_take (i := 3) (v := ?_) rfl (by kernel_rfl) (by kernel_rfl) (by kernel_rfl) (fun _ _ _ h => h) (Or.inl ⟨by rfl, ?_⟩) hH ?_
 rotate_left
 ·((intro W hW; clear hW; go_simp) <;> with_reducible rfl)
 simp only [sq3, sq4]
 refine wpAnyH_take (i := 4) (v := ?_) rfl (by kernel_rfl) (by kernel_rfl) (by kernel_rfl) (fun _ _ _ h => h) (Or.inl ⟨by rfl, ?_⟩) hH ?_
 rotate_left
 ·((intro W hW; have hk := cell_lit (hW.2) 2 _ rfl; clear hW; go_simp) <;> with_reducible rfl)
 simp only [sq3, sq4]
 refine wpAnyH_take (i := 5) (v := ?_) rfl (by kernel_rfl) (by kernel_rfl) (by kernel_rfl) (fun _ _ _ h => h) (Or.inl ⟨by rfl, ?_⟩) hH ?_
 rotate_left
 ·((intro W hW; clear hW; go_simp) <;> with_reducible rfl)
 simp only [sq3, sq4]
 refine wpAnyH_take (i := 6) (v := ?_) rfl (by kernel_rfl) (by kernel_rfl) (by kernel_rfl) (fun _ _ _ h => h) (Or.inl ⟨by rfl, ?_⟩) hH ?_
 rotate_left
 ·((intro W hW; clear hW; go_simp) <;> with_reducible rfl)
 simp only [sq3, sq4]
 refine wpAnyH_take (i := 7) (v := ?_) rfl (by kernel_rfl) (by kernel_rfl) (by kernel_rfl) (fun _ _ _ h => h) (Or.inl ⟨by rfl, ?_⟩) hH ?_
 rotate_left
 ·((intro W hW; have hk := cell_lit (hW.1) 0 _ rfl; clear hW; go_simp) <;> with_reducible rfl)
 simp only [sq3, sq4]
 refine wpAnyH_take (i := 8) (v := ?_) rfl (by kernel_rfl) (by kernel_rfl) (by kernel_rfl) (fun _ _ _ h => h) (Or.inl ⟨by rfl, ?_⟩) hH ?_
 rotate_left
 ·((intro W hW; clear hW; go_simp) <;> with_reducible rfl)
 simp only [sq3, sq4]
 refine wpAnyH_take (i := 9) (v := ?_) rfl (by kernel_rfl) (by kernel_rfl) (by kernel_rfl) (fun _ _ _ h => h) (Or.inl ⟨by rfl, ?_⟩) hH ?_
 rotate_left
 ·((intro W hW; clear hW; go_simp) <;> with_reducible rfl)
 simp only [sq3, sq4]
 refine wpAnyH_done (by kernel_rfl) ?_ _
 go_wp2_with fail
 exact bodyPost_ret (results_none rfl _ _ _) rfl ⟨rfl, ⟨A, n, c, mb, htb, otb, hM, own, HOK.out⟩, fo.fr htb, bel⟩
theorem tadv_yes {lo gt : Nat} {lw rm now : Int} {l os : List Mp} (t : Int) (w : World) (hT : Tp lo gt w ⟨lw, rm, now, l, os⟩) (h1 : now < t) (h2 : t ≤ 1099511627776) : Calls Tryz.prog 56 #[.pointer (some ⟨gt, 0, none⟩), .int .i64 t] w fun e w' => e = .returned (.tuple #[]) ∧ Tp lo gt w' ⟨lw, rm, t, l.filter (liveB t), overs l t os⟩ ∧ Fap gt w w' ∧ Below lo w w' := by
 have hlo : lo ≤ w.heap.size := hT.lo_le
 have HLO := Lib.hid hlo
 obtain ⟨A, n, c, mb, htb, otb, hM, own, hok⟩ := hT
 dsimp only at htb hM own
 have off_tb := ofs_type own htb (by decide)
 have hl := row_len (by decide) mpE_len own
 have HLL := Lib.hid hl
 have HOK := Lib.hid hok
 have H32 : Hid (n ≤ 1000) := Lib.hid (by have h1_ := hok.len; have h2_ := hok.r1; simp only at h1_ h2_; omega)
 have H128 : Hid (n ≤ 128) := Lib.hid (by have h1_ := hok.len; have h2_ := hok.r1; simp only at h1_ h2_; omega)
 clear hl hok
 have fo := Fo.refl htb
 have HC : Hid (now < t ∧ t ≤ 1099511627776) := Lib.hid ⟨h1, h2⟩
 have h3 : decide (t ≤ now) = false := decide_eq_false (by omega)
 have h4 : decide (t > 1099511627776) = false := decide_eq_false (by omega)
 clear h1 h2
 have bel := Below.refl lo w
 go_enter Tryz.func56, Tryz.ntmps56
 go_wp2_with (first | ((with_reducible show wpList _ _ _ (⟨some 3, _, _, _, _, _⟩ :: _) _ _); refine wpList_box_n rfl 2 (.tmp 1) rfl #[.int .i64 t] rfl ?_; intro g3 w1 ge lt hh bb; have d_tb_nb := ne_new (hlt htb) ge; have onb := Nat.le_trans (Nat.le_trans hlo bel.size) ge; have off_nb := owk_new own ge; have pn_nb := Nat.le_trans bel.size ge; replace htb := blk_u htb bb; replace own := owk_under own bb; replace fo := fo.below bb; replace hM := hM.below bb; replace bel := bel.trans (bb.mono (Nat.le_trans hlo bel.size)); have hnb := hh; clear hh lt ge bb))
 replace bel := bel.drew
 replace htb : w1.drew.heap[gt]? = _ := htb
 replace hnb : w1.drew.heap[g3]? = _ := hnb
 replace own := World.ownsRow.drew own
 replace fo := fo_drew fo
 replace hM := om_drew hM
 refine wp_region_held_drew (S := fun W => W.heap[g3]? = some (.cells #[.int .i64 t] 2 (0, 0)) ∧ W.heap[gt]? = some (.cells #[.int .i64 lw, .int .i64 rm, .int .i64 now, .slice A n c, .map (some mb)] 76 (0, 0))) (by kernel_rfl) ⟨hnb, htb⟩ (fun hH => ?_)
 generalize w1.drew = w2 at bel htb hnb own fo hM hH ⊢
 refine wpAnyH_take (i := 0) (v := ?_) rfl (by kernel_rfl) (by kernel_rfl) (by kernel_rfl) (fun _ _ _ h => h) (Or.inl ⟨by rfl, ?_⟩) hH ?_
 rotate_left
 ·((intro W hW; have hk := cell_lit (hW.1) 0 _ rfl; clear hW; go_simp) <;> with_reducible rfl)
 simp only [Act.put, List.getElem_toArray, List.getElem_cons_zero, List.setIfInBounds_toArray, List.set_cons_zero, List.set_cons_succ]
 refine wpAnyH_take (i := 1) (v := ?_) rfl (by kernel_rfl) (by kernel_rfl) (by kernel_rfl) (fun _ _ _ h => h) (Or.inl ⟨by rfl, ?_⟩) hH ?_
 rotate_left
 ·((intro W hW; clear hW; go_simp) <;> with_reducible rfl)
 simp only [sq3, sq4]
 refine wpAnyH_take (i := 2) (v := ?_) rfl (by kernel_rfl) (by kernel_rfl) (by kernel_rfl) (fun _ _ _ h => h) (Or.inl ⟨by rfl, ?_⟩) hH ?_
 rotate_left
 ·((intro W hW; clear hW; go_simp) <;> with_reducible rfl)
 simp only [sq3, sq4]
 refine wpAnyH_take (i := 3) (v := ?_) rfl (by kernel_rfl) (by kernel_rfl) (by kernel_rfl) (fun _ _ _ h => h) (Or.inl ⟨by rfl, ?_⟩) hH ?_
 rotate_left
 ·((intro W hW; clear hW; go_simp) <;> with_reducible rfl)
 simp only [sq3, sq4]
 refine wpAnyH_take (i := 4) (v := ?_) rfl (by kernel_rfl) (by kernel_rfl) (by kernel_rfl) (fun _ _ _ h => h) (Or.inl ⟨by rfl, ?_⟩) hH ?_
 rotate_left
 ·((intro W hW; have hk := cell_lit (hW.2) 2 _ rfl; clear hW; go_simp) <;> with_reducible rfl)
 simp only [sq3, sq4]
 refine wpAnyH_take (i := 5) (v := ?_) rfl (by kernel_rfl) (by kernel_rfl) (by kernel_rfl) (fun _ _ _ h => h) (Or.inl ⟨by rfl, ?_⟩) hH ?_
 rotate_left
 ·((intro W hW; clear hW; go_simp) <;> with_reducible rfl)
 simp only [sq3, sq4]
 refine wpAnyH_take (i := 6) (v := ?_) rfl (by kernel_rfl) (by kernel_rfl) (by kernel_rfl) (fun _ _ _ h => h) (Or.inl ⟨by rfl, ?_⟩) hH ?_
 rotate_left
 ·((intro W hW; clear hW; go_simp) <;> with_reducible rfl)
 simp only [sq3, sq4]
 refine wpAnyH_take (i := 7) (v := ?_) rfl (by kernel_rfl) (by kernel_rfl) (by kernel_rfl) (fun _ _ _ h => h) (Or.inl ⟨by rfl, ?_⟩) hH ?_
 rotate_left
 ·((intro W hW; have hk := cell_lit (hW.1) 0 _ rfl; clear hW; go_simp) <;> with_reducible rfl)
 simp only [sq3, sq4]
 refine wpAnyH_take (i := 8) (v := ?_) rfl (by kernel_rfl) (by kernel_rfl) (by kernel_rfl) (fun _ _ _ h => h) (Or.inl ⟨by rfl, ?_⟩) hH ?_
 rotate_left
 ·((intro W hW; clear hW; go_simp) <;> with_reducible rfl)
 simp only [sq3, sq4]
 refine wpAnyH_take (i := 9) (v := ?_) rfl (by kernel_rfl) (by kernel_rfl) (by kernel_rfl) (fun _ _ _ h => h) (Or.inl ⟨by rfl, ?_⟩) hH ?_
 rotate_left
 ·((intro W hW; clear hW; go_simp) <;> with_reducible rfl)
 simp only [sq3, sq4]
 refine wpAnyH_done (by kernel_rfl) ?_ _
 have R18 := cell_lit hnb 0 _ rfl
 go_wp2_with (first | ((with_reducible show wpList _ _ _ (⟨none, Op.store _ (.tmp 20) _, _, _, _, _⟩ :: _) _ _); refine wpList_store_part rfl 2 (.tmp 20) (.tmp 18) rfl gt 2 rfl [.int .i64 t] rfl [.int .i64 lw, .int .i64 rm, .int .i64 now, .slice A n c, .map (some mb)] 76 htb (by simp) [.int .i64 lw, .int .i64 rm, .int .i64 t, .slice A n c, .map (some mb)] rfl (by kernel_rfl) (by rfl) ?_; intro w3 hq gr; replace hnb := blk_a hnb gr (ne_symm d_tb_nb); replace own := owk_off own off_tb gr; replace fo := fo.tb gr; replace hM := hM.grown gr htb; replace bel := below_grown bel gr otb (Nat.le_trans hlo bel.size); clear htb; have htb := hq; clear hq gr; have R25 := cell_lit htb 3 _ rfl))
 try clear R18
 try clear R25
 go_loopg [27] (n) (fun gk s27 wr => ∃ k : Nat, gk = n - k ∧ k ≤ n ∧ wr.ownsRow lo 65 9 (.slice A n c) n (l.flatMap mpE) ∧ Fo gt w wr (.slice A n c) ∧ Om lo mb wr (overs (l.take k) t os) ∧ s27 = .int .i64 (k : Int) ∧ wr.heap[gt]? = some (.cells #[.int .i64 lw, .int .i64 rm, .int .i64 t, .slice A n c, .map (some mb)] 76 (0, 0)) ∧ wr.heap[g3]? = some (.cells #[.int .i64 t] 2 (0, 0)) ∧ Below lo w wr)
 case atStart => exact ⟨0, Nat.sub_zero _, Nat.zero_le _, own, fo, hM, rfl, htb, hnb, bel⟩
 case round =>
  clear own fo hM htb hnb bel
  obtain ⟨k, HGK, hkn, own, fo, hM, rfl, htb, hnb, bel⟩ := hrel
  have HGK_ := Lib.hid HGK
  clear HGK
  by_cases h : k < n
  rotate_left
  ·obtain rfl : n = k := by omega
   replace h : decide (n < n) = false := decide_eq_false (by omega)
   have HT1 : Hid (l.take n = l) := Lib.hid (List.take_of_length_le (Nat.le_of_eq HLL.out))
   rw [HT1.out] at hM
   have HOK2 : Hid (Ts.ok ⟨lw, rm, t, l.filter (liveB t), overs l t os⟩) := Lib.hid (by have h_ := HOK.out.adv t; unfold Ts.adv at h_; rw [if_pos HC.out] at h_; exact h_)
   have R46 := cell_lit htb 3 _ rfl
   go_wp2_with fail
   clear R46
   have HLO_ := Nat.le_trans HLO.out bel.size
   with_reducible refine (dela_any _ HLO_ hnb own H32.out).mono ?_
   rintro e w4 ⟨n3, rfl, own_, gw, ofw⟩
   replace bel := bel.trans (row_bel gw own (Nat.le_trans hlo bel.size))
   have off_tb_ := ofw _ (hlt htb) off_tb
   replace htb := blk_own (v := .slice A n c) htb gw off_tb
   clear off_tb
   have off_tb := off_tb_
   clear off_tb_
   have off_nb_ := ofw _ (hlt hnb) off_nb
   replace hnb := blk_own (v := .slice A n c) hnb gw off_nb
   clear off_nb
   have off_nb := off_nb_
   clear off_nb_
   replace fo := fo.row gw ofw
   replace hM := hM.row gw own
   clear own
   have own := own_
   clear own_ gw ofw
   clear HLO_
   go_wp2_with (first | ((with_reducible show wpList _ _ _ (⟨none, Op.store _ (.tmp 50) _, _, _, _, _⟩ :: _) _ _); refine wpList_store_part rfl 74 (.tmp 50) (.tmp 48) rfl gt 3 rfl [.slice A n3 c] rfl [.int .i64 lw, .int .i64 rm, .int .i64 t, .slice A n c, .map (some mb)] 76 htb (by simp) [.int .i64 lw, .int .i64 rm, .int .i64 t, .slice A n3 c, .map (some mb)] rfl (by kernel_rfl) (by rfl) ?_; intro w5 hq gr; replace hnb := blk_a hnb gr (ne_symm d_tb_nb); replace own := owk_off own off_tb gr; replace fo := fo.tb gr; replace hM := hM.grown gr htb; replace bel := below_grown bel gr otb (Nat.le_trans hlo bel.size); clear htb; have htb := hq; clear hq gr))
   exact bodyPost_end (results_none rfl _ _ _) rfl ⟨rfl, ⟨A, n3, c, mb, htb, otb, hM, (by have h_ := own; rw [dead_live] at h_; exact h_), HOK2.out⟩, fo.fr htb, bel⟩
  obtain ⟨x, hx⟩ : ∃ x, l[k]? = some x := ⟨_, List.getElem?_eq_getElem (by have := HLL.out; omega)⟩
  have HX := Lib.hid hx
  have HXO : Hid x.okp := Lib.hid (HOK.out.okp x (List.mem_of_getElem? hx))
  have k0 : (0 : Int) ≤ k := by omega
  have k1 : (k : Int) < n := by omega
  have k128 : (k : Int) ≤ 128 := by have := H128.out; omega
  obtain ⟨gE, rfl, _⟩ := row_at own (by omega)
  have en := (owk_sle (by decide) mpE_len own).1
  have av_en_tb := owk_av own off_tb
  have av_en_nb := owk_av own off_nb
  clear hx
  rcases hb : deadB t x with _ | _
  ·have HG := Lib.hid hb
   clear hb
   have R30 := Lib.hid (Sle.zrange0 en HX.out 9 [.int .i64 x.pr, .int .i64 x.o, .int .u8 (x.ad.a.toNat : Int), .int .u8 (x.ad.b.toNat : Int), .int .u8 (x.ad.c.toNat : Int), .int .u8 (x.ad.d.toNat : Int), .int .i64 x.i, .int .i64 x.k, .int .i64 x.u] rfl)
   go_wp2_with (first | ((with_reducible show wpList _ _ _ (⟨some 30, _, _, _, _, _⟩ :: _) _ _); refine wpList_load_rng 65 (.tmp 29) rfl (by kernel_rfl) _ _ rfl _ R30.out _ Tryz.underlying65 rfl (by kernel_rfl) ?_) | ((with_reducible show wpList _ _ _ (⟨some 6, _, _, _, _, _⟩ :: _) _ _); refine wpList_new_a rfl 65 rfl #[.int .i64 0, .int .i64 0, .int .u8 0, .int .u8 0, .int .u8 0, .int .u8 0, .int .i64 0, .int .i64 0, .int .i64 0] (by kernel_rfl) ?_; intro g6 w4 ge hh bb; have d_tb_vb := ne_new (hlt htb) ge; have d_nb_vb := ne_new (hlt hnb) ge; have av_en_vb := en.av_new ge; have ovb := Nat.le_trans (Nat.le_trans hlo bel.size) ge; have off_vb := owk_new own ge; have pn_vb := Nat.le_trans bel.size ge; replace htb := blk_u htb bb; replace hnb := blk_u hnb bb; replace en := en.below bb; replace own := owk_under own bb; replace fo := fo.below bb; replace hM := hM.below bb; replace bel := bel.trans (bb.mono (Nat.le_trans hlo bel.size)); have hvb := hh; clear hh ge bb) | ((with_reducible show wpList _ _ _ (⟨none, Op.store _ (.tmp 6) _, _, _, _, _⟩ :: _) _ _); refine wpList_store_blk rfl 65 (.tmp 6) (.tmp 30) rfl g6 rfl _ rfl _ 65 hvb (by rfl) (by kernel_rfl) (by kernel_rfl) ?_; intro w5 hq gr; replace en := en.away av_en_vb gr; replace htb := blk_a htb gr d_tb_vb; replace hnb := blk_a hnb gr d_nb_vb; replace own := owk_off own off_vb gr; replace fo := fo.newer gr pn_vb; replace hM := hM.grown gr hvb; replace bel := below_grown bel gr ovb (Nat.le_trans hlo bel.size); clear hvb; have hvb := hq; clear hq gr; have R32 := Lib.hid (range_lit hvb 0 9 [.int .i64 x.pr, .int .i64 x.o, .int .u8 (x.ad.a.toNat : Int), .int .u8 (x.ad.b.toNat : Int), .int .u8 (x.ad.c.toNat : Int), .int .u8 (x.ad.d.toNat : Int), .int .i64 x.i, .int .i64 x.k, .int .i64 x.u] rfl)) | ((with_reducible show wpList _ _ _ (⟨some 32, _, _, _, _, _⟩ :: _) _ _); refine wpList_load_rng 65 (.tmp 6) rfl (by kernel_rfl) _ _ rfl _ R32.out _ Tryz.underlying65 rfl (by kernel_rfl) ?_))
   try clear R30
   try clear R32
   with_reducible refine (clf_a x _ hnb).mono ?_
   rintro e w6 ⟨rfl, b6⟩
   replace htb := blk_u htb b6
   replace hnb := blk_u hnb b6
   replace hvb := blk_u hvb b6
   replace en := en.below b6
   replace own := owk_under own b6
   replace fo := fo.below b6
   replace hM := hM.below b6
   replace bel := bel.trans (b6.mono (Nat.le_trans hlo bel.size))
   clear b6
   rw [HG.out]
   go_wp2_with fail
   go_roundg (n - (k + 1))
   case measure => have := HGK_.out; omega
   case rel => exact ⟨k + 1, rfl, by omega, own, fo, (by rw [overs_skip HX.out HG.out]; exact hM), by go_num, htb, hnb, bel⟩
  have HG := Lib.hid hb
  clear hb
  have R30 := Lib.hid (Sle.zrange0 en HX.out 9 [.int .i64 x.pr, .int .i64 x.o, .int .u8 (x.ad.a.toNat : Int), .int .u8 (x.ad.b.toNat : Int), .int .u8 (x.ad.c.toNat : Int), .int .u8 (x.ad.d.toNat : Int), .int .i64 x.i, .int .i64 x.k, .int .i64 x.u] rfl)
  go_wp2_with (first | ((with_reducible show wpList _ _ _ (⟨some 30, _, _, _, _, _⟩ :: _) _ _); refine wpList_load_rng 65 (.tmp 29) rfl (by kernel_rfl) _ _ rfl _ R30.out _ Tryz.underlying65 rfl (by kernel_rfl) ?_) | ((with_reducible show wpList _ _ _ (⟨some 6, _, _, _, _, _⟩ :: _) _ _); refine wpList_new_a rfl 65 rfl #[.int .i64 0, .int .i64 0, .int .u8 0, .int .u8 0, .int .u8 0, .int .u8 0, .int .i64 0, .int .i64 0, .int .i64 0] (by kernel_rfl) ?_; intro g6 w4 ge hh bb; have d_tb_vb := ne_new (hlt htb) ge; have d_nb_vb := ne_new (hlt hnb) ge; have av_en_vb := en.av_new ge; have ovb := Nat.le_trans (Nat.le_trans hlo bel.size) ge; have off_vb := owk_new own ge; have pn_vb := Nat.le_trans bel.size ge; replace htb := blk_u htb bb; replace hnb := blk_u hnb bb; replace en := en.below bb; replace own := owk_under own bb; replace fo := fo.below bb; replace hM := hM.below bb; replace bel := bel.trans (bb.mono (Nat.le_trans hlo bel.size)); have hvb := hh; clear hh ge bb) | ((with_reducible show wpList _ _ _ (⟨none, Op.store _ (.tmp 6) _, _, _, _, _⟩ :: _) _ _); refine wpList_store_blk rfl 65 (.tmp 6) (.tmp 30) rfl g6 rfl _ rfl _ 65 hvb (by rfl) (by kernel_rfl) (by kernel_rfl) ?_; intro w5 hq gr; replace en := en.away av_en_vb gr; replace htb := blk_a htb gr d_tb_vb; replace hnb := blk_a hnb gr d_nb_vb; replace own := owk_off own off_vb gr; replace fo := fo.newer gr pn_vb; replace hM := hM.grown gr hvb; replace bel := below_grown bel gr ovb (Nat.le_trans hlo bel.size); clear hvb; have hvb := hq; clear hq gr; have R32 := Lib.hid (range_lit hvb 0 9 [.int .i64 x.pr, .int .i64 x.o, .int .u8 (x.ad.a.toNat : Int), .int .u8 (x.ad.b.toNat : Int), .int .u8 (x.ad.c.toNat : Int), .int .u8 (x.ad.d.toNat : Int), .int .i64 x.i, .int .i64 x.k, .int .i64 x.u] rfl)) | ((with_reducible show wpList _ _ _ (⟨some 32, _, _, _, _, _⟩ :: _) _ _); refine wpList_load_rng 65 (.tmp 6) rfl (by kernel_rfl) _ _ rfl _ R32.out _ Tryz.underlying65 rfl (by kernel_rfl) ?_))
  try clear R30
  try clear R32
  with_reducible refine (clf_a x _ hnb).mono ?_
  rintro e w6 ⟨rfl, b6⟩
  replace htb := blk_u htb b6
  replace hnb := blk_u hnb b6
  replace hvb := blk_u hvb b6
  replace en := en.below b6
  replace own := owk_under own b6
  replace fo := fo.below b6
  replace hM := hM.below b6
  replace bel := bel.trans (b6.mono (Nat.le_trans hlo bel.size))
  clear b6
  rw [HG.out]
  go_wp2_with fail
  replace bel := bel.drew
  replace htb : w6.drew.heap[gt]? = _ := htb
  replace hnb : w6.drew.heap[g3]? = _ := hnb
  replace hvb : w6.drew.heap[g6]? = _ := hvb
  replace en := en.drew
  replace own := World.ownsRow.drew own
  replace fo := fo_drew fo
  replace hM := om_drew hM
  refine wp_region_held_drew (S := fun W => W.heap[gt]? = some (.cells #[.int .i64 lw, .int .i64 rm, .int .i64 t, .slice (some ⟨gE, 0, none⟩) n c, .map (some mb)] 76 (0, 0)) ∧ W.heap[g6]? = some (.cells #[.int .i64 x.pr, .int .i64 x.o, .int .u8 (x.ad.a.toNat : Int), .int .u8 (x.ad.b.toNat : Int), .int .u8 (x.ad.c.toNat : Int), .int .u8 (x.ad.d.toNat : Int), .int .i64 x.i, .int .i64 x.k, .int .i64 x.u] 65 (0, 0))) (by kernel_rfl) ⟨htb, hvb⟩ (fun hH => ?_)
  generalize w6.drew = w7 at bel htb hnb hvb en own fo hM hH ⊢
  refine wpAnyH_take (i := 0) (v := ?_) rfl (by kernel_rfl) (by kernel_rfl) (by kernel_rfl) (fun _ _ _ h => h) (Or.inl ⟨by rfl, ?_⟩) hH ?_
  rotate_left
  ·((intro W hW; clear hW; go_simp) <;> with_reducible rfl)
  simp only [Act.put, List.getElem_toArray, List.getElem_cons_zero, List.setIfInBounds_toArray, List.set_cons_zero, List.set_cons_succ]
  refine wpAnyH_take (i := 1) (v := ?_) rfl (by kernel_rfl) (by kernel_rfl) (by kernel_rfl) (fun _ _ _ h => h) (Or.inl ⟨by rfl, ?_⟩) hH ?_
  rotate_left
  ·((intro W hW; clear hW; go_simp) <;> with_reducible rfl)
  simp only [sq3, sq4]
  refine wpAnyH_take (i := 2) (v := ?_) rfl (by kernel_rfl) (by kernel_rfl) (by kernel_rfl) (fun _ _ _ h => h) (Or.inl ⟨by rfl, ?_⟩) hH ?_
  rotate_left
  ·((intro W hW; clear hW; go_simp) <;> with_reducible rfl)
  simp only [sq3, sq4]
  refine wpAnyH_take (i := 3) (v := ?_) rfl (by kernel_rfl) (by kernel_rfl) (by kernel_rfl) (fun _ _ _ h => h) (Or.inl ⟨by rfl, ?_⟩) hH ?_
  rotate_left
  ·((intro W hW; have hk := cell_lit (hW.1) 4 _ rfl; clear hW; go_simp) <;> with_reducible rfl)
  simp only [sq3, sq4]
  refine wpAnyH_take (i := 4) (v := .agg #[.int .i64 x.pr, .int .i64 x.o, .int .u8 (x.ad.a.toNat : Int), .int .u8 (x.ad.b.toNat : Int), .int .u8 (x.ad.c.toNat : Int), .int .u8 (x.ad.d.toNat : Int), .int .i64 x.i, .int .i64 x.k, .int .i64 x.u]) rfl (by kernel_rfl) (by kernel_rfl) (by kernel_rfl) (fun _ _ _ h => h) (yieldsIf_load_part (by kernel_rfl) 65 _ rfl g6 0 9 rfl _ 65 (0, 0) (fun W hW => hW.2) _ rfl _ Tryz.underlying65 rfl (by kernel_rfl)) hH ?_
  simp only [sq3, sq4]
  refine wpAnyH_take (i := 6) (v := .agg #[.int .i64 x.pr, .int .i64 x.o, .int .u8 (x.ad.a.toNat : Int), .int .u8 (x.ad.b.toNat : Int), .int .u8 (x.ad.c.toNat : Int), .int .u8 (x.ad.d.toNat : Int), .int .i64 x.i, .int .i64 x.k, .int .i64 x.u]) rfl (by kernel_rfl) (by kernel_rfl) (by kernel_rfl) (fun _ _ _ h => h) (yieldsIf_load_part (by kernel_rfl) 65 _ rfl g6 0 9 rfl _ 65 (0, 0) (fun W hW => hW.2) _ rfl _ Tryz.underlying65 rfl (by kernel_rfl)) hH ?_
  simp only [sq3, sq4]
  refine wpAnyH_ready (rs := [5]) (by kernel_rfl) (by simp) ?_
  refine AllReadyH.cons (o := _) rfl (fun K hK => ?_) AllReadyH.nil
  simp only [sq3]
  go_simp
  with_reducible refine (mport_any x _).mono ?_
  rintro e w8 ⟨rfl, b8⟩
  dsimp only
  replace htb := blk_u htb b8
  replace hnb := blk_u hnb b8
  replace hvb := blk_u hvb b8
  replace en := en.below b8
  replace own := owk_under own b8
  replace fo := fo.below b8
  replace hM := hM.below b8
  replace bel := bel.trans (b8.mono (Nat.le_trans hlo bel.size))
  clear b8
  refine hK.out _ _ ⟨htb, hvb⟩ (fun hH9 => ?_)
  clear hK K
  refine wpAnyH_ready (rs := [7]) (by kernel_rfl) (by simp) ?_
  refine AllReadyH.cons (o := _) rfl (fun K hK => ?_) AllReadyH.nil
  simp only [sq3]
  rw [if_pos (by rfl)]
  refine wp_om_put (.tmp 37) (.tmp 39) (.tmp 40) rfl x rfl rfl rfl hM HXO.out ?_
  intro w70 hM_ gm
  replace htb := hM.blk gm htb
  replace hnb := hM.blk gm hnb
  replace hvb := hM.blk gm hvb
  replace own := hM.own gm own
  replace fo := fo.map hM gm
  replace bel := hM.bel bel gm (Nat.le_trans HLO.out bel.size)
  replace en := (owk_sle (by decide) mpE_len own).1
  clear hM gm
  have hM := hM_
  clear hM_
  refine hK.out _ _ ⟨htb, hvb⟩ (fun hH10 => ?_)
  clear hK K
  simp only [Act.put]
  refine wpAnyH_done (by kernel_rfl) ?_ _
  go_wp2_with fail
  go_roundg (n - (k + 1))
  case measure => have := HGK_.out; omega
  case rel => exact ⟨k + 1, rfl, by omega, own, fo, (by rw [overs_keep HX.out HG.out]; exact hM), by go_num, htb, hnb, bel⟩
theorem tadv_any {lo gt : Nat} {s s1 : Ts} (t : Int) (w : World) (hT : Tp lo gt w s) (ha : s.adv t = s1) : Calls Tryz.prog 56 #[.pointer (some ⟨gt, 0, none⟩), .int .i64 t] w fun e w' => e = .returned (.tuple #[]) ∧ Tp lo gt w' s1 ∧ Fap gt w w' ∧ Below lo w w' := by
 obtain ⟨lw, rm, now, l, os⟩ := s
 subst ha
 unfold Ts.adv
 by_cases h1 : now < t
 ·by_cases h2 : t ≤ 1099511627776
  ·rw [if_pos ⟨h1, h2⟩]; exact tadv_yes t w hT h1 h2
  ·rw [if_neg (by show ¬ (now < t ∧ t ≤ 1099511627776); omega)]; exact tadv_no2 t w hT h1 h2
 ·rw [if_neg (by show ¬ (now < t ∧ t ≤ 1099511627776); omega)]; exact tadv_no1 t w hT h1
theorem tadd_any {lo gt : Nat} {lw rm now : Int} {l os : List Mp} {m : Mp} (w : World) (hT : Tp lo gt w ⟨lw, rm, now, l, os⟩) (hm : m.okp) (hf : mfhas l m.num = false) (hr : (l.length : Int) < rm) : Calls Tryz.prog 63 #[.pointer (some ⟨gt, 0, none⟩), .agg #[.int .i64 m.pr, .int .i64 m.o, .int .u8 (m.ad.a.toNat : Int), .int .u8 (m.ad.b.toNat : Int), .int .u8 (m.ad.c.toNat : Int), .int .u8 (m.ad.d.toNat : Int), .int .i64 m.i, .int .i64 m.k, .int .i64 m.u]] w fun e w' => e = .returned (.tuple #[]) ∧ Tp lo gt w' ⟨lw, rm, now, mins l m, odel os m.num⟩ ∧ Fap gt w w' ∧ Below lo w w' := by
 have hlo : lo ≤ w.heap.size := hT.lo_le
 have HLO := Lib.hid hlo
 obtain ⟨A, n, c, mb, htb, otb, hM, own, hok⟩ := hT
 dsimp only at htb hM own
 have off_tb := ofs_type own htb (by decide)
 have hl := row_len (by decide) mpE_len own
 have HLL := Lib.hid hl
 have HOK := Lib.hid hok
 have H32 : Hid (n ≤ 1000) := Lib.hid (by have h1_ := hok.len; have h2_ := hok.r1; simp only at h1_ h2_; omega)
 have H128 : Hid (n ≤ 128) := Lib.hid (by have h1_ := hok.len; have h2_ := hok.r1; simp only at h1_ h2_; omega)
 clear hl hok
 have fo := Fo.refl htb
 obtain ⟨p, hp⟩ : ∃ p, mfpos l (kn m.pr m.o) = p := ⟨_, rfl⟩
 have HPN : Hid (p ≤ n) := Lib.hid (by rw [← hp, ← HLL.out]; exact mfpos_le _ _)
 have HP := Lib.hid hp
 have HF : Hid (mfhas l (kn m.pr m.o) = false) := Lib.hid hf
 have HMO : Hid (okP m.pr m.o) := Lib.hid hm
 have HOK2 : Hid (Ts.ok ⟨lw, rm, now, mins l m, odel os m.num⟩) := Lib.hid (HOK.out.ins hm hf hr _)
 clear hp hf hm hr
 have bel := Below.refl lo w
 go_enter Tryz.func63, Tryz.ntmps63
 go_wp2_with (first | ((with_reducible show wpList _ _ _ (⟨some 3, _, _, _, _, _⟩ :: _) _ _); refine wpList_box_n rfl 65 (.tmp 1) rfl #[.int .i64 m.pr, .int .i64 m.o, .int .u8 (m.ad.a.toNat : Int), .int .u8 (m.ad.b.toNat : Int), .int .u8 (m.ad.c.toNat : Int), .int .u8 (m.ad.d.toNat : Int), .int .i64 m.i, .int .i64 m.k, .int .i64 m.u] rfl ?_; intro g3 w1 ge lt hh bb; have d_tb_mB := ne_new (hlt htb) ge; have omB := Nat.le_trans (Nat.le_trans hlo bel.size) ge; have off_mB := owk_new own ge; have pn_mB := Nat.le_trans bel.size ge; replace htb := blk_u htb bb; replace own := owk_under own bb; replace fo := fo.below bb; replace hM := hM.below bb; replace bel := bel.trans (bb.mono (Nat.le_trans hlo bel.size)); have hmB := hh; clear hh lt ge bb))
 replace bel := bel.drew
 replace htb : w1.drew.heap[gt]? = _ := htb
 replace hmB : w1.drew.heap[g3]? = _ := hmB
 replace own := World.ownsRow.drew own
 replace fo := fo_drew fo
 replace hM := om_drew hM
 refine wp_region_held_drew (S := fun W => W.heap[gt]? = some (.cells #[.int .i64 lw, .int .i64 rm, .int .i64 now, .slice A n c, .map (some mb)] 76 (0, 0)) ∧ W.heap[g3]? = some (.cells #[.int .i64 m.pr, .int .i64 m.o, .int .u8 (m.ad.a.toNat : Int), .int .u8 (m.ad.b.toNat : Int), .int .u8 (m.ad.c.toNat : Int), .int .u8 (m.ad.d.toNat : Int), .int .i64 m.i, .int .i64 m.k, .int .i64 m.u] 65 (0, 0))) (by kernel_rfl) ⟨htb, hmB⟩ (fun hH => ?_)
 generalize w1.drew = w2 at bel htb hmB own fo hM hH ⊢
 refine wpAnyH_take (i := 0) (v := ?_) rfl (by kernel_rfl) (by kernel_rfl) (by kernel_rfl) (fun _ _ _ h => h) (Or.inl ⟨by rfl, ?_⟩) hH ?_
 rotate_left
 ·((intro W hW; clear hW; go_simp) <;> with_reducible rfl)
 simp only [Act.put, List.getElem_toArray, List.getElem_cons_zero, List.setIfInBounds_toArray, List.set_cons_zero, List.set_cons_succ]
 refine wpAnyH_take (i := 1) (v := ?_) rfl (by kernel_rfl) (by kernel_rfl) (by kernel_rfl) (fun _ _ _ h => h) (Or.inl ⟨by rfl, ?_⟩) hH ?_
 rotate_left
 ·((intro W hW; clear hW; go_simp) <;> with_reducible rfl)
 simp only [sq3, sq4]
 refine wpAnyH_take (i := 2) (v := ?_) rfl (by kernel_rfl) (by kernel_rfl) (by kernel_rfl) (fun _ _ _ h => h) (Or.inl ⟨by rfl, ?_⟩) hH ?_
 rotate_left
 ·((intro W hW; clear hW; go_simp) <;> with_reducible rfl)
 simp only [sq3, sq4]
 refine wpAnyH_take (i := 3) (v := ?_) rfl (by kernel_rfl) (by kernel_rfl) (by kernel_rfl) (fun _ _ _ h => h) (Or.inl ⟨by rfl, ?_⟩) hH ?_
 rotate_left
 ·((intro W hW; have hk := cell_lit (hW.1) 4 _ rfl; clear hW; go_simp) <;> with_reducible rfl)
 simp only [sq3, sq4]
 refine wpAnyH_take (i := 4) (v := .agg #[.int .i64 m.pr, .int .i64 m.o, .int .u8 (m.ad.a.toNat : Int), .int .u8 (m.ad.b.toNat : Int), .int .u8 (m.ad.c.toNat : Int), .int .u8 (m.ad.d.toNat : Int), .int .i64 m.i, .int .i64 m.k, .int .i64 m.u]) rfl (by kernel_rfl) (by kernel_rfl) (by kernel_rfl) (fun _ _ _ h => h) (yieldsIf_load_part (by kernel_rfl) 65 _ rfl g3 0 9 rfl _ 65 (0, 0) (fun W hW => hW.2) _ rfl _ Tryz.underlying65 rfl (by kernel_rfl)) hH ?_
 simp only [sq3, sq4]
 refine wpAnyH_ready (rs := [5]) (by kernel_rfl) (by simp) ?_
 refine AllReadyH.cons (o := _) rfl (fun K hK => ?_) AllReadyH.nil
 simp only [sq3]
 go_simp
 with_reducible refine (mport_any m _).mono ?_
 rintro e w3 ⟨rfl, b3⟩
 dsimp only
 replace htb := blk_u htb b3
 replace hmB := blk_u hmB b3
 replace own := owk_under own b3
 replace fo := fo.below b3
 replace hM := hM.below b3
 replace bel := bel.trans (b3.mono (Nat.le_trans hlo bel.size))
 clear b3
 refine hK.out _ _ ⟨htb, hmB⟩ (fun hH4 => ?_)
 clear hK K
 refine wpAnyH_ready (rs := [6]) (by kernel_rfl) (by simp) ?_
 refine AllReadyH.cons (o := _) rfl (fun K hK => ?_) AllReadyH.nil
 simp only [sq3]
 rw [if_pos (by rfl)]
 refine wp_om_del (.tmp 9) (.tmp 11) rfl m.pr m.o rfl rfl hM HMO.out ?_
 intro w70 hM_ gm
 replace htb := hM.blk gm htb
 replace hmB := hM.blk gm hmB
 replace own := hM.own gm own
 replace fo := fo.map hM gm
 replace bel := hM.bel bel gm (Nat.le_trans HLO.out bel.size)
 clear hM gm
 have hM := hM_
 clear hM_
 refine hK.out _ _ ⟨htb, hmB⟩ (fun hH5 => ?_)
 clear hK K
 simp only [Act.put]
 refine wpAnyH_done (by kernel_rfl) ?_ _
 have R14 := Lib.hid (range_lit hmB 0 9 [.int .i64 m.pr, .int .i64 m.o, .int .u8 (m.ad.a.toNat : Int), .int .u8 (m.ad.b.toNat : Int), .int .u8 (m.ad.c.toNat : Int), .int .u8 (m.ad.d.toNat : Int), .int .i64 m.i, .int .i64 m.k, .int .i64 m.u] rfl)
 go_wp2_with (first | ((with_reducible show wpList _ _ _ (⟨some 14, _, _, _, _, _⟩ :: _) _ _); refine wpList_load_rng 65 (.tmp 3) rfl (by kernel_rfl) _ _ rfl _ R14.out _ Tryz.underlying65 rfl (by kernel_rfl) ?_))
 try clear R14
 with_reducible refine (mport_any m _).mono ?_
 rintro e w6 ⟨rfl, b6⟩
 replace htb := blk_u htb b6
 replace hmB := blk_u hmB b6
 replace own := owk_under own b6
 replace fo := fo.below b6
 replace hM := hM.below b6
 replace bel := bel.trans (b6.mono (Nat.le_trans hlo bel.size))
 clear b6
 go_wp2_with fail
 with_reducible refine (mfind_is m.pr m.o _ htb (owk_sle (by decide) mpE_len own).1 HOK.out.srt HOK.out.okp HMO.out H32.out HP.out HF.out).mono ?_
 rintro e w7 ⟨rfl, b7⟩
 replace htb := blk_u htb b7
 replace hmB := blk_u hmB b7
 replace own := owk_under own b7
 replace fo := fo.below b7
 replace hM := hM.below b7
 replace bel := bel.trans (b7.mono (Nat.le_trans hlo bel.size))
 clear b7
 go_wp2_with fail
 replace bel := bel.drew
 replace htb : w7.drew.heap[gt]? = _ := htb
 replace hmB : w7.drew.heap[g3]? = _ := hmB
 replace own := World.ownsRow.drew own
 replace fo := fo_drew fo
 replace hM := om_drew hM
 refine wp_region_z 11 (S := fun W => W.heap[gt]? = some (.cells #[.int .i64 lw, .int .i64 rm, .int .i64 now, .slice A n c, .map (some mb)] 76 (0, 0)) ∧ W.heap[g3]? = some (.cells #[.int .i64 m.pr, .int .i64 m.o, .int .u8 (m.ad.a.toNat : Int), .int .u8 (m.ad.b.toNat : Int), .int .u8 (m.ad.c.toNat : Int), .int .u8 (m.ad.d.toNat : Int), .int .i64 m.i, .int .i64 m.k, .int .i64 m.u] 65 (0, 0))) (by kernel_rfl) ⟨htb, hmB⟩ (fun hH => ?_)
 generalize w7.drew = w8 at bel htb hmB own fo hM hH ⊢
 refine wpAnyZ_take (i := 0) (v := ?_) rfl (by kernel_rfl) (by kernel_rfl) (by kernel_rfl) (fun _ _ _ h => h) (Or.inl ⟨by rfl, ?_⟩) hH ?_
 rotate_left
 ·((intro W hW; clear hW; go_simp) <;> with_reducible rfl)
 simp only [Act.put, List.getElem_toArray, List.getElem_cons_zero, List.setIfInBounds_toArray, List.set_cons_zero, List.set_cons_succ]
 refine wpAnyZ_take (i := 1) (v := ?_) rfl (by kernel_rfl) (by kernel_rfl) (by kernel_rfl) (fun _ _ _ h => h) (Or.inl ⟨by rfl, ?_⟩) hH ?_
 rotate_left
 ·((intro W hW; clear hW; go_simp) <;> with_reducible rfl)
 simp only [sq3, sq4]
 refine wpAnyZ_take (i := 2) (v := ?_) rfl (by kernel_rfl) (by kernel_rfl) (by kernel_rfl) (fun _ _ _ h => h) (Or.inl ⟨by rfl, ?_⟩) hH ?_
 rotate_left
 ·((intro W hW; clear hW; go_simp) <;> with_reducible rfl)
 simp only [sq3, sq4]
 refine wpAnyZ_take (i := 3) (v := ?_) rfl (by kernel_rfl) (by kernel_rfl) (by kernel_rfl) (fun _ _ _ h => h) (Or.inl ⟨by rfl, ?_⟩) hH ?_
 rotate_left
 ·((intro W hW; clear hW; go_simp) <;> with_reducible rfl)
 simp only [sq3, sq4]
 refine wpAnyZ_take (i := 4) (v := ?_) rfl (by kernel_rfl) (by kernel_rfl) (by kernel_rfl) (fun _ _ _ h => h) (Or.inl ⟨by rfl, ?_⟩) hH ?_
 rotate_left
 ·((intro W hW; have hk := cell_lit (hW.1) 3 _ rfl; clear hW; go_simp) <;> with_reducible rfl)
 simp only [sq3, sq4]
 refine wpAnyZ_take (i := 5) (v := ?_) rfl (by kernel_rfl) (by kernel_rfl) (by kernel_rfl) (fun _ _ _ h => h) (Or.inl ⟨by rfl, ?_⟩) hH ?_
 rotate_left
 ·((intro W hW; clear hW; go_simp) <;> with_reducible rfl)
 simp only [sq3, sq4]
 refine wpAnyZ_take (i := 6) (v := .agg #[.int .i64 m.pr, .int .i64 m.o, .int .u8 (m.ad.a.toNat : Int), .int .u8 (m.ad.b.toNat : Int), .int .u8 (m.ad.c.toNat : Int), .int .u8 (m.ad.d.toNat : Int), .int .i64 m.i, .int .i64 m.k, .int .i64 m.u]) rfl (by kernel_rfl) (by kernel_rfl) (by kernel_rfl) (fun _ _ _ h => h) (yieldsIf_load_part (by kernel_rfl) 65 _ rfl g3 0 9 rfl _ 65 (0, 0) (fun W hW => hW.2) _ rfl _ Tryz.underlying65 rfl (by kernel_rfl)) hH ?_
 simp only [sq3, sq4]
 refine wpAnyZ_ready (rs := [7]) (by kernel_rfl) (by simp) ?_
 refine AllReadyZ.cons (o := _) rfl (fun K hK => ?_) AllReadyZ.nil
 simp only [sq3]
 rw [if_pos (by rfl)]
 refine wp_lit_n 74 65 1 _ rfl #[.int .i64 m.pr, .int .i64 m.o, .int .u8 (m.ad.a.toNat : Int), .int .u8 (m.ad.b.toNat : Int), .int .u8 (m.ad.c.toNat : Int), .int .u8 (m.ad.d.toNat : Int), .int .i64 m.i, .int .i64 m.k, .int .i64 m.u] (.agg #[.int .i64 0, .int .i64 0, .int .u8 0, .int .u8 0, .int .u8 0, .int .u8 0, .int .i64 0, .int .i64 0, .int .i64 0]) Tryz.underlying74 (by kernel_rfl) 9 (by kernel_rfl) (by decide) (by kernel_rfl) ?_
 intro g26 w9 ge lt hh bb
 have d_tb_b26 := ne_new (hlt htb) ge
 have d_mB_b26 := ne_new (hlt hmB) ge
 have ob26 := Nat.le_trans (Nat.le_trans hlo bel.size) ge
 have off_b26 := owk_new own ge
 have pn_b26 := Nat.le_trans bel.size ge
 replace htb := blk_u htb bb
 replace hmB := blk_u hmB bb
 replace own := owk_under own bb
 replace fo := fo.below bb
 replace hM := hM.below bb
 replace bel := bel.trans (bb.mono (Nat.le_trans hlo bel.size))
 have hb26 := hh
 clear hh lt ge bb
 refine hK.out _ _ ⟨htb, hmB⟩ (fun hH10 => ?_)
 clear hK K
 simp only [sq4]
 refine wpAnyZ_ready (rs := [8]) (by kernel_rfl) (by simp) ?_
 refine AllReadyZ.cons (o := _) rfl (fun K hK => ?_) AllReadyZ.nil
 simp only [sq3]
 go_simp
 have hvx : w9.heap[g26]? = some (.cells (mpE m).toArray 65 (0, 0)) := hb26
 have HLO_ := Nat.le_trans HLO.out bel.size
 with_reducible refine (mp_insert _ HLO_ own H32.out hvx off_b26 HPN.out).mono ?_
 rintro e w11 ⟨A2, c2, rfl, own_, gw, ofw⟩
 dsimp only
 replace bel := bel.trans (row_bel gw own (Nat.le_trans hlo bel.size))
 have off_tb_ := ofw _ (hlt htb) off_tb
 replace htb := blk_own (v := .slice A n c) htb gw off_tb
 clear off_tb
 have off_tb := off_tb_
 clear off_tb_
 have off_mB_ := ofw _ (hlt hmB) off_mB
 replace hmB := blk_own (v := .slice A n c) hmB gw off_mB
 clear off_mB
 have off_mB := off_mB_
 clear off_mB_
 have off_b26_ := ofw _ (hlt hb26) off_b26
 replace hb26 := blk_own (v := .slice A n c) hb26 gw off_b26
 clear off_b26
 have off_b26 := off_b26_
 clear off_b26_
 replace fo := fo.row gw ofw
 replace hM := hM.row gw own
 clear own
 have own := own_
 clear own_ gw ofw
 clear hvx HLO_
 refine hK.out _ _ ⟨htb, hmB⟩ (fun hH12 => ?_)
 clear hK K
 refine wpAnyZ_take (i := 9) (v := ?_) rfl (by kernel_rfl) (by kernel_rfl) (by kernel_rfl) (fun _ _ _ h => h) (Or.inl ⟨by rfl, ?_⟩) hH12 ?_
 rotate_left
 ·((intro W hW; clear hW; go_simp) <;> with_reducible rfl)
 simp only [sq3, sq4]
 refine wpAnyZ_take (i := 10) (v := ?_) rfl (by kernel_rfl) (by kernel_rfl) (by kernel_rfl) (fun _ _ _ h => h) (Or.inl ⟨by rfl, ?_⟩) hH12 ?_
 rotate_left
 ·((intro W hW; clear hW; go_simp) <;> with_reducible rfl)
 simp only [sq3, sq4]
 refine wpAnyZ_ready (rs := [11]) (by kernel_rfl) (by simp) ?_
 refine AllReadyZ.last (o := _) rfl (fun K hK => ?_)
 simp only [sq3]
 rw [if_pos (by rfl)]
 refine wp_store_part 74 (.tmp 29) (.tmp 27) rfl gt 3 rfl [.slice A2 (n + 1) c2] rfl [.int .i64 lw, .int .i64 rm, .int .i64 now, .slice A n c, .map (some mb)] 76 htb (by simp) [.int .i64 lw, .int .i64 rm, .int .i64 now, .slice A2 (n + 1) c2, .map (some mb)] rfl (by kernel_rfl) (by rfl) ?_
 intro w13 hq gr
 replace hmB := blk_a hmB gr (ne_symm d_tb_mB)
 replace hb26 := blk_a hb26 gr (ne_symm d_tb_b26)
 replace own := owk_off own off_tb gr
 replace fo := fo.tb gr
 replace hM := hM.grown gr htb
 replace bel := below_grown bel gr otb (Nat.le_trans hlo bel.size)
 clear htb
 have htb := hq
 clear hq gr
 refine hK.out _ _ trivial (fun hH14 => ?_)
 clear hK K
 simp only [Act.put]
 refine wpAnyZ_done (by kernel_rfl) ?_ _
 go_wp2_with fail
 exact bodyPost_end (results_none rfl _ _ _) rfl ⟨rfl, ⟨A2, n + 1, c2, mb, htb, otb, hM, (by have h_ := own; rw [← HP.out] at h_; exact h_), HOK2.out⟩, fo.fr htb, bel⟩
end Go.Proofs.YtbdaejodbcjmfaaGreat
