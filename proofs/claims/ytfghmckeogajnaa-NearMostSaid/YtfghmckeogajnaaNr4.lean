/- slices.Delete, slices.Insert over rows of entries. -/
import Derived.Test.YtfghmckeogajnaaNr3
import Derived.Test.YtfghmckeogajnaaNrs
namespace Go.Proofs.Ytfghmckeogajnaa
open Go.RowKit

theorem Try.info_ent : (Try.prog.info? 52).map (fun i => (i.zero, i.size, i.bytes)) = some (some (.agg #[.int .u8 0, .int .u8 0, .int .u8 0, .int .u8 0, .int .i64 0, .bool false, .int .u8 0, .int .u8 0, .int .u8 0, .int .u8 0, .int .u8 0, .int .u8 0, .int .i64 0, .slice none 0 0]), 14, 56) := by kernel_rfl
theorem Below.row {lo g : Nat} {w w' : World} (h : w.grownBy w' (some g)) (hg : lo ≤ g) (hs : lo ≤ w.heap.size) : Below lo w w' := (Below.refl lo w).grown h hs (fun k e => by cases e; exact hg)
theorem gk_drew {w0 w : World} {b : Option Nat} (h : w0.grownBy w b) : w0.grownBy w.drew b := ⟨h.os, h.tape, h.output, h.size, h.block⟩
theorem owk_lo {w : World} {B B' k n : Nat} {e : TypeId} {v : Value} {xs : List Value} (h : w.ownsRow B e k v n xs) (hb : B' ≤ B) : w.ownsRow B' e k v n xs := by
  refine ⟨h.1, ?_⟩
  rcases h.2 with h | ⟨g, cap, cur, e, hg, h⟩
  · exact .inl h
  · exact .inr ⟨g, cap, cur, e, Nat.le_trans hb hg, h⟩
theorem heap_drew {w : World} {b : Nat} {x : Obj} (h : w.heap[b]? = some x) : w.drew.heap[b]? = some x := h
theorem flat_take {α : Type} {f : α → List Value} {k : Nat} (hf : ∀ x, (f x).length = k) : ∀ (l : List α) (i : Nat), (l.take i).flatMap f = (l.flatMap f).take (i * k)
  | [], i => by simp
  | x :: l, 0 => by simp
  | x :: l, i + 1 => by
    rw [List.take_succ_cons, List.flatMap_cons, List.flatMap_cons, flat_take hf l i, Nat.succ_mul, Nat.add_comm (i * k) k, ← hf x, List.take_length_add_append]
theorem flat_drop {α : Type} {f : α → List Value} {k : Nat} (hf : ∀ x, (f x).length = k) : ∀ (l : List α) (i : Nat), (l.drop i).flatMap f = (l.flatMap f).drop (i * k)
  | [], i => by simp
  | x :: l, 0 => by simp
  | x :: l, i + 1 => by
    rw [List.drop_succ_cons, List.flatMap_cons, flat_drop hf l i, Nat.succ_mul, Nat.add_comm (i * k) k, ← hf x, List.drop_length_add_append]
theorem en_elem : Try.prog.underlying 47 = some (.slice (Try.prog.elem 47)) := by kernel_rfl
theorem en_el : Try.prog.elem 47 = 52 := by kernel_rfl
theorem en_sz (w : World) : (Go.sizeOf 52).run Try.prog w = .ok 14 w := by kernel_rfl
theorem en_zero : (Try.prog.info? 52).bind (·.zero) = some (.agg #[.int .u8 0, .int .u8 0, .int .u8 0, .int .u8 0, .int .i64 0, .bool false, .int .u8 0, .int .u8 0, .int .u8 0, .int .u8 0, .int .u8 0, .int .u8 0, .int .i64 0, .slice none 0 0]) := by kernel_rfl
theorem en_zs : (Value.cells (.agg #[.int .u8 0, .int .u8 0, .int .u8 0, .int .u8 0, .int .i64 0, .bool false, .int .u8 0, .int .u8 0, .int .u8 0, .int .u8 0, .int .u8 0, .int .u8 0, .int .i64 0, .slice none 0 0])).size = 14 := by kernel_rfl
theorem en_z1 : (Value.cells (.agg #[.int .u8 0, .int .u8 0, .int .u8 0, .int .u8 0, .int .i64 0, .bool false, .int .u8 0, .int .u8 0, .int .u8 0, .int .u8 0, .int .u8 0, .int .u8 0, .int .i64 0, .slice none 0 0])).all (·.oneCell') = true := by kernel_rfl
theorem en_size : (Try.prog.info? 52).map (·.size) = some 14 := by kernel_rfl
/-- Pieces of a row. -/
theorem en_front (g n c : Nat) (i : Nat) (hi : i ≤ c) (W : World) : (Instr.slice 47 (.slice (some ⟨g, 0, none⟩) n c) none (some (.int .i64 (i : Int))) none).run Try.prog W = .ok (.slice (some ⟨g, 0, none⟩) i c) W := by
  rw [run_slice_h W 47 _ n c en_elem .i64 _ (by omega) (by omega), en_el, en_sz]
  simp [Result.andThen, sliced, Addr.add]
theorem en_back (g n c : Nat) (i : Nat) (hi : i ≤ n) (hc : i < c) (W : World) : (Instr.slice 47 (.slice (some ⟨g, 0, none⟩) n c) (some (.int .i64 (i : Int))) none none).run Try.prog W = .ok (.slice (some ⟨g, i * 14, none⟩) (n - i) (c - i)) W := by
  rw [run_slice_l W 47 _ n c en_elem .i64 _ (by omega) (by omega), en_el, en_sz]
  simp [Result.andThen, sliced, Addr.add_lit, show ¬ c = i by omega]
theorem en_backany (A : Option Addr) (n c : Nat) (i : Nat) (hi : i ≤ n) : ∃ v, ∀ W, (Instr.slice 47 (.slice A n c) (some (.int .i64 (i : Int))) none none).run Try.prog W = .ok v W := by
  refine ⟨sliced A i n c 14, fun W => ?_⟩
  rw [run_slice_l W 47 _ n c en_elem .i64 _ (by omega) (by omega), en_el, en_sz]
  simp [Result.andThen]
theorem en_tail (g n c : Nat) (i : Nat) (hi : i ≤ n) : ∃ ad c2, (∀ W, (Instr.slice 47 (.slice (some ⟨g, 0, none⟩) n c) (some (.int .i64 (i : Int))) none none).run Try.prog W = .ok (.slice (some ad) (n - i) c2) W) ∧ (i < c → ad = ⟨g, i * 14, none⟩) := by
  refine ⟨if c = i then ⟨g, 0, none⟩ else ⟨g, i * 14, none⟩, c - i, fun W => ?_, fun h => by rw [if_neg (by omega)]⟩
  rw [run_slice_l W 47 _ n c en_elem .i64 _ (by omega) (by omega), en_el, en_sz]
  by_cases h : c = i <;> simp [Result.andThen, sliced, Addr.add_lit, h]
theorem en_two (g n c : Nat) (i j : Nat) (hi : i ≤ j) (hj : j ≤ c) (hc : i < c) (W : World) : (Instr.slice 47 (.slice (some ⟨g, 0, none⟩) n c) (some (.int .i64 (i : Int))) (some (.int .i64 (j : Int))) none).run Try.prog W = .ok (.slice (some ⟨g, i * 14, none⟩) (j - i) (c - i)) W := by
  rw [run_slice_lh W 47 _ n c en_elem .i64 .i64 _ _ (by omega) (by omega) (by omega), en_el, en_sz]
  simp [Result.andThen, sliced, Addr.add_lit, show ¬ c = i by omega]
theorem en_three (A : Option Addr) (n c : Nat) (i j m : Nat) (h1 : i ≤ j) (h2 : j ≤ m) (h3 : m ≤ c) : ∃ v, ∀ W, (Instr.slice 47 (.slice A n c) (some (.int .i64 (i : Int))) (some (.int .i64 (j : Int))) (some (.int .i64 (m : Int)))).run Try.prog W = .ok v W := by
  refine ⟨sliced A i j m 14, fun W => ?_⟩
  rw [run_slice_lhm W 47 _ n c en_elem .i64 .i64 .i64 _ _ _ (by omega) (by omega) (by omega) (by omega), en_el, en_sz]
  simp [Result.andThen]
theorem en_src {lo g n c i : Nat} {l : List En} {ad : Addr} {w : World} (own : w.ownsRow lo 52 14 (.slice (some ⟨g, 0, none⟩) n c) n (l.flatMap enE)) (hl : l.length = n) (had : i < c → ad = ⟨g, i * 14, none⟩) : ∀ j v, ((l.flatMap enE).drop (i * 14))[j]? = some v → w.cell? (ad.add j) = some v := fun j v hv => by
  have hj := (List.getElem?_eq_some_iff.1 hv).1
  rw [List.length_drop, flat_len enE_len, hl] at hj
  rw [had (by have := row_cap own; omega)]
  exact row_piece own _ _ (by rw [List.take_of_length_le (Nat.le_refl _)]) j v hv
theorem flat_erase_en {l : List En} (i : Nat) : (l.eraseIdx i).flatMap enE = (l.flatMap enE).take (i * 14) ++ (l.flatMap enE).drop ((i + 1) * 14) := by
  rw [List.eraseIdx_eq_take_drop_succ, List.flatMap_append, flat_take enE_len, flat_drop enE_len]
theorem en_del {l : List En} {n m i q : Nat} (hl : l.length = n) (hm : m + 1 = n) (hq : i + q = m) : (((l.flatMap enE).take (i * 14) ++ (l.flatMap enE).drop ((i + 1) * 14) ++ (l.flatMap enE).drop (i * 14 + ((l.flatMap enE).drop ((i + 1) * 14)).length))).take (m * 14) = (l.eraseIdx i).flatMap enE := by
  have h1 : ((l.flatMap enE).take (i * 14)).length = i * 14 := by rw [List.length_take, flat_len enE_len, hl]; omega
  have h2 : ((l.flatMap enE).drop ((i + 1) * 14)).length = q * 14 := by rw [List.length_drop, flat_len enE_len, hl]; omega
  rw [List.take_append_of_le_length (by rw [List.length_append, h1, h2]; omega), List.take_of_length_le (by rw [List.length_append, h1, h2]; omega), flat_erase_en]
set_option linter.unusedVariables false in
set_option linter.unusedSimpArgs false in
set_option maxRecDepth 100000 in
set_option maxHeartbeats 16000000 in
theorem en_delete {lo gE n c i : Nat} {l : List En} (w : World) (hown : w.ownsRow lo 52 14 (.slice (some ⟨gE, 0, none⟩) n c) n (l.flatMap enE)) (hi : i < n) : Calls Try.prog 33 #[.slice (some ⟨gE, 0, none⟩) n c, .int .i64 (i : Int), .int .i64 ((i : Int) + 1)] w fun e w' => ∃ m, m + 1 = n ∧ e = .returned (.slice (some ⟨gE, 0, none⟩) m c) ∧ w'.ownsRow lo 52 14 (.slice (some ⟨gE, 0, none⟩) m c) m ((l.eraseIdx i).flatMap enE) ∧ w.grownBy w' (some gE) := by
  have own := hown
  clear hown
  have hl := row_len (by decide) enE_len own
  have hcap := row_cap own
  obtain ⟨ie, hie, hie0, hie1, hie2⟩ := info_parts Try.info_ent
  obtain ⟨m, hnm⟩ : ∃ m, m + 1 = n := ⟨n - 1, by omega⟩
  obtain ⟨q, hq⟩ : ∃ q, i + q = m := ⟨m - i, by omega⟩
  obtain ⟨v13, r13⟩ := en_three (some ⟨gE, 0, none⟩) n c i (i + 1) n (by omega) (by omega) (by omega)
  have r22 := fun W => en_front gE n c i (by omega) W
  obtain ⟨ad, c25, r25, had⟩ := en_tail gE n c (i + 1) (by omega)
  rw [show n - (i + 1) = q by omega] at r25
  have r31 := fun W => en_two gE m c m n (by omega) (by omega) (by omega) W
  rw [show n - m = 1 by omega] at r31
  simp only [Int.natCast_add, Int.natCast_one] at r13 r25
  have hcl : ((l.flatMap enE).drop ((i + 1) * 14)).length = q * 14 := by rw [List.length_drop, flat_len enE_len, hl]; omega
  have HAD := Lib.hid had
  have HCL := Lib.hid hcl
  have HON : Hid (∀ v ∈ (l.flatMap enE).drop ((i + 1) * 14), v.oneCell' = true) := Lib.hid (fun v hv => by obtain ⟨x, _, hx⟩ := List.mem_flatMap.1 (List.mem_of_mem_drop hv); exact enE_one x v hx)
  have HM : Hid (m ≤ n) := Lib.hid (by omega)
  have HQ := Lib.hid hq
  have HNM := Lib.hid hnm
  have HLL := Lib.hid hl
  have hb_ := own.lt gE rfl
  have HGE := Lib.hid hb_.1
  have HLO : Hid (lo ≤ w.heap.size) := Lib.hid (by omega)
  have hne : ((i : Int) == i + 1) = false := beq_eq_false_iff_ne.2 (by omega)
  have gk := World.grownBy.refl w (some gE)
  clear hcl hq hnm hl had hcap hb_ hi
  have bel := Below.refl w.heap.size w
  go_enter Try.func33, Try.ntmps33
  have R13 := r13
  go_wp2_with fail
  clear R13
  replace bel := bel.drew
  replace own := World.ownsRow.drew own
  replace gk := gk_drew gk
  refine wp_region_held_drew (S := fun _ => True) (by kernel_rfl) trivial (fun hH => ?_)
  generalize w.drew = w1 at bel own gk hH ⊢
  refine wpAnyH_take (i := 0) (v := ?_) rfl (by kernel_rfl) (by kernel_rfl) (by kernel_rfl) (fun _ _ _ h => h) (Or.inl ⟨by rfl, ?_⟩) hH ?_
  rotate_left
  · ((intro W hW; clear hW; go_simp) <;> with_reducible rfl)
  simp only [Act.put, List.getElem_toArray, List.getElem_cons_zero, List.setIfInBounds_toArray, List.set_cons_zero, List.set_cons_succ]
  refine wpAnyH_take (i := 1) (v := ?_) rfl (by kernel_rfl) (by kernel_rfl) (by kernel_rfl) (fun _ _ _ h => h) (Or.inl ⟨by rfl, ?_⟩) hH ?_
  rotate_left
  · ((intro W hW; clear hW; go_simp) <;> with_reducible rfl)
  simp only [Act.put, List.getElem_toArray, List.getElem_cons_zero, List.getElem_cons_succ, List.setIfInBounds_toArray, List.set_cons_zero, List.set_cons_succ]
  refine wpAnyH_take (i := 2) (v := ?_) rfl (by kernel_rfl) (by kernel_rfl) (by kernel_rfl) (fun _ _ _ h => h) (Or.inl ⟨by rfl, ?_⟩) hH ?_
  rotate_left
  · ((intro W hW; clear hW; go_simp) <;> with_reducible rfl)
  simp only [Act.put, List.getElem_toArray, List.getElem_cons_zero, List.getElem_cons_succ, List.setIfInBounds_toArray, List.set_cons_zero, List.set_cons_succ]
  refine wpAnyH_take (i := 3) (v := ?_) rfl (by kernel_rfl) (by kernel_rfl) (by kernel_rfl) (fun _ _ _ h => h) (Or.inl ⟨by rfl, ?_⟩) hH ?_
  rotate_left
  · ((intro W hW; clear hW; go_simp) <;> with_reducible rfl)
  simp only [Act.put, List.getElem_toArray, List.getElem_cons_zero, List.getElem_cons_succ, List.setIfInBounds_toArray, List.set_cons_zero, List.set_cons_succ]
  refine wpAnyH_take (i := 4) (v := ?_) rfl (by kernel_rfl) (by kernel_rfl) (by kernel_rfl) (fun _ _ _ h => h) (Or.inl ⟨by rfl, ?_⟩) hH ?_
  rotate_left
  · ((intro W hW; clear hW; go_simp) <;> with_reducible rfl)
  simp only [Act.put, List.getElem_toArray, List.getElem_cons_zero, List.getElem_cons_succ, List.setIfInBounds_toArray, List.set_cons_zero, List.set_cons_succ]
  refine wpAnyH_take (i := 5) (v := ?_) rfl (by kernel_rfl) (by kernel_rfl) (by kernel_rfl) (fun _ _ _ h => h) (Or.inl ⟨by rfl, ?_⟩) hH ?_
  rotate_left
  · ((intro W hW; clear hW; go_simp) <;> with_reducible rfl)
  simp only [Act.put, List.getElem_toArray, List.getElem_cons_zero, List.getElem_cons_succ, List.setIfInBounds_toArray, List.set_cons_zero, List.set_cons_succ]
  refine wpAnyH_ready (rs := [6]) (by kernel_rfl) (by simp) ?_
  refine AllReadyH.cons (o := _) rfl (fun K hK => ?_) AllReadyH.nil
  simp only [List.getElem_toArray, List.getElem_cons_zero, List.getElem_cons_succ]
  rw [if_pos (by rfl)]
  refine wp_append_within (.tmp 22) (.tmp 25) 47 52 rfl ie Try.underlying47 hie hie1 own i q ad c25 ((l.flatMap enE).drop ((i + 1) * 14)) rfl rfl HCL.out m HQ.out HM.out (en_src own HLL.out HAD.out) HON.out ?_
  intro w9 own_ gw
  clear own
  have own := own_
  clear own_
  replace gk := gk.trans gw
  clear gw bel
  refine hK.out _ _ trivial (fun hH2 => ?_)
  clear hK K
  simp only [Act.put, List.setIfInBounds_toArray, List.set_cons_zero, List.set_cons_succ]
  refine wpAnyH_take (i := 7) (v := ?_) rfl (by kernel_rfl) (by kernel_rfl) (by kernel_rfl) (fun _ _ _ h => h) (Or.inl ⟨by rfl, ?_⟩) hH2 ?_
  rotate_left
  · ((intro W hW; clear hW; go_simp) <;> with_reducible rfl)
  simp only [Act.put, List.getElem_toArray, List.getElem_cons_zero, List.getElem_cons_succ, List.setIfInBounds_toArray, List.set_cons_zero]
  refine wpAnyH_done (by kernel_rfl) ?_ _
  have R31 := r31
  go_wp2_with (first | ((with_reducible show wpList _ _ _ (⟨none, Op.call _, _, _, _, _⟩ :: _) _ _); refine wpList_clear_row rfl (.tmp 31) 47 52 rfl (.agg #[.int .u8 0, .int .u8 0, .int .u8 0, .int .u8 0, .int .i64 0, .bool false, .int .u8 0, .int .u8 0, .int .u8 0, .int .u8 0, .int .u8 0, .int .u8 0, .int .i64 0, .slice none 0 0]) Try.underlying47 en_zero en_zs en_z1 n HNM.out own (by decide) _ rfl ?_; intro w10 own_ gw; clear own; have own := own_; clear own_; replace gk := gk.trans gw; clear gw))
  try clear R31
  go_ret
  exact ⟨m, by rw [HNM.out], rfl, by rw [en_del HLL.out HNM.out HQ.out] at own; exact own, gk⟩
theorem en_ov {w : World} {vb gE o lb cb : Nat} {n c lo : Nat} {xs cs : List Value} (hvb : w.heap[vb]? = some (.cells cs.toArray 52 (0, 0))) (hcs : cs.length = 14) (own : w.ownsRow lo 52 14 (.slice (some ⟨gE, 0, none⟩) n c) n xs) (hn : 0 < n) (hne : vb ≠ gE) : (callFunc 38 #[.slice (some ⟨vb, 0, none⟩) 1 1, .slice (some ⟨gE, o, none⟩) lb cb]).run Try.prog w = .ok (.value (.bool false)) w := by
  obtain ⟨_, cur, hb, hh, h1, h2, hs, _⟩ := row_of own
  have hc0 : 0 < c := by omega
  rw [run_callFunc_extern (f := 38) (fn := Try.f38) (by kernel_rfl) (by kernel_rfl) (by kernel_rfl) (by kernel_rfl) (e := Extern.SlicesOverlaps.overlaps #[47, 47] #[4]) (by kernel_rfl),
    Lib.run_overlaps_apart w 47 4 52 Try.underlying47 14 en_sz ⟨vb, 0, none⟩ ⟨gE, o, none⟩ 1 1 lb cb hne 52 52 14 (c * 14) (by simp [World.shape?, hvb, hcs]) (by simp [World.shape?, hh, hs]) (by omega) (by simp [World.frozen?, hvb]) (by simp [World.frozen?, hvb])]
  rfl
theorem en_vsrc {w : World} {vb : Nat} {x : En} {T : TypeId} {fr : Nat × Nat} (hvb : w.heap[vb]? = some (.cells (enE x).toArray T fr)) : ∀ j v, (enE x)[j]? = some v → w.cell? ((⟨vb, 0, none⟩ : Addr).add j) = some v := fun j v hv => by
  rw [Addr.add_lit, Nat.zero_add, cell_of_row w vb j _ T fr hvb]
  simpa using hv
theorem en_insd {l : List En} {x : En} {i : Nat} : (l.take i ++ x :: l.drop i).flatMap enE = (l.flatMap enE).take (i * 14) ++ enE x ++ (l.flatMap enE).drop (i * 14) := by
  rw [List.flatMap_append, List.flatMap_cons, flat_take enE_len, flat_drop enE_len, List.append_assoc]
/-- A piece moved up, another laid in its place. -/
theorem ins_cells {F ys X : List Value} {a k m : Nat} (ha : a + m = F.length) (hy : ys.length = k) (hX : X.length = k) :
    (((F ++ ys).take (a + k) ++ F.drop a ++ (F ++ ys).drop (a + k + (F.drop a).length)).take a ++ X ++ ((F ++ ys).take (a + k) ++ F.drop a ++ (F ++ ys).drop (a + k + (F.drop a).length)).drop (a + X.length)) = F.take a ++ X ++ F.drop a := by
  have h1 : (F.drop a).length = m := by rw [List.length_drop]; omega
  have h2 : (F ++ ys).drop (a + k + (F.drop a).length) = [] := List.drop_eq_nil_of_le (by rw [List.length_append, h1]; omega)
  have h3 : ((F ++ ys).take (a + k)).length = a + k := by rw [List.length_take, List.length_append]; omega
  rw [h2, List.append_nil]
  congr 1
  · congr 1
    rw [List.take_append_of_le_length (by omega), List.take_take, Nat.min_eq_left (by omega), List.take_append_of_le_length (by omega)]
  · rw [hX]; exact List.drop_left' h3
theorem ins_cells2 {F Z X : List Value} {a k m : Nat} (ha : a + m = F.length) (hz : Z.length = m + k) (hX : X.length = k) :
    (((F.take a ++ Z).take a ++ X ++ (F.take a ++ Z).drop (a + X.length)).take (a + k) ++ F.drop a ++ ((F.take a ++ Z).take a ++ X ++ (F.take a ++ Z).drop (a + X.length)).drop (a + k + (F.drop a).length)) = F.take a ++ X ++ F.drop a := by
  have h1 : (F.drop a).length = m := by rw [List.length_drop]; omega
  have h0 : (F.take a).length = a := by rw [List.length_take]; omega
  have h4 : (F.take a ++ Z).take a = F.take a := by
    conv => lhs; rw [← h0]
    rw [h0, List.take_append_of_le_length (by omega), List.take_take, Nat.min_self]
  have h5 : ((F.take a ++ Z).take a ++ X ++ (F.take a ++ Z).drop (a + X.length)).length = a + k + m := by
    rw [h4]; simp; omega
  have h6 : ((F.take a ++ Z).take a ++ X ++ (F.take a ++ Z).drop (a + X.length)).drop (a + k + (F.drop a).length) = [] := List.drop_eq_nil_of_le (by rw [h5, h1]; omega)
  rw [h6, List.append_nil]
  congr 1
  rw [h4, List.take_append_of_le_length (by simp; omega), List.take_of_length_le (by simp; omega)]
theorem off_ne {gE n c q : Nat} (h : Ofs (.slice (some ⟨gE, 0, none⟩) n c) q) : q ≠ gE := fun e => h gE rfl e.symm
theorem ne_off {gE n c q : Nat} (h : gE ≠ q) : Ofs (.slice (some ⟨gE, 0, none⟩) n c) q := fun g hg => by
  simp only [Value.ownBlock, Option.some.injEq] at hg
  subst hg; exact h
set_option linter.unusedVariables false in
set_option linter.unusedSimpArgs false in
set_option maxRecDepth 100000 in
set_option maxHeartbeats 16000000 in
theorem en_ins_end {lo n c vb : Nat} {A : Option Addr} {l : List En} {x : En} (w : World) (hlo : lo ≤ w.heap.size) (hown : w.ownsRow lo 52 14 (.slice A n c) n (l.flatMap enE)) (hn : n ≤ 1000) (hvb : w.heap[vb]? = some (.cells (enE x).toArray 52 (0, 0))) : Calls Try.prog 32 #[.slice A n c, .int .i64 (n : Int), .slice (some ⟨vb, 0, none⟩) 1 1] w fun e w' => ∃ A' c', e = .returned (.slice A' (n + 1) c') ∧ w'.ownsRow lo 52 14 (.slice A' (n + 1) c') (n + 1) ((l.take n ++ x :: l.drop n).flatMap enE) ∧ w.grownBy w' (Value.ownBlock (.slice A n c)) ∧ (∀ q, q < w.heap.size → Ofs (.slice A n c) q → Ofs (.slice A' (n + 1) c') q) := by
  have own := hown
  clear hown
  have hl := row_len (by decide) enE_len own
  have hcap := row_cap own
  have HCAP := Lib.hid hcap
  have HLL := Lib.hid hl
  have HLO := Lib.hid hlo
  obtain ⟨ie, hie, hie0, hie1, hie2⟩ := info_parts Try.info_ent
  have n0 : (0 : Int) ≤ n := by omega
  have n1 : (n : Int) ≤ 1000 := by omega
  obtain ⟨v12, r12⟩ := en_backany A n c n (Nat.le_refl _)
  have vv : Sle enE 14 w (some ⟨vb, 0, none⟩) 1 1 [x] := sle_lit [x] (by decide) enE_len (by simpa using hvb) rfl (by simp [maxLen])
  have HB1 : Hid (n + 1 ≤ maxLen) := Lib.hid (by unfold maxLen; omega)
  have HB2 : Hid ((n + 1) * 56 ≤ 140737488355328) := Lib.hid (by omega)
  clear hl hcap hlo
  have bel := Below.refl w.heap.size w
  go_enter Try.func32, Try.ntmps32
  have R12 := r12
  go_wp2_with (first | ((with_reducible show wpList _ _ _ (⟨some 25, _, _, _, _, _⟩ :: _) _ _); refine wpList_append_sle rfl (.tmp 23) (.tmp 24) 47 rfl lo 52 ie (.agg #[.int .u8 0, .int .u8 0, .int .u8 0, .int .u8 0, .int .i64 0, .bool false, .int .u8 0, .int .u8 0, .int .u8 0, .int .u8 0, .int .u8 0, .int .u8 0, .int .i64 0, .slice none 0 0]) 56 Try.underlying47 hie hie0 hie1 hie2 en_zs enE_one _ n l rfl own (some ⟨vb, 0, none⟩) 1 1 [x] rfl vv HB1.out HB2.out HLO.out ?_; intro v25 w9 own_ bb gw ofw; obtain ⟨A25, c25, rfl⟩ := owk_val own_))
  try clear R12
  go_ret
  exact ⟨A25, c25, rfl, by rw [List.take_of_length_le (by rw [HLL.out]; exact Nat.le_refl _), List.drop_eq_nil_of_le (by rw [HLL.out]; exact Nat.le_refl _)]; exact own_, gw, ofw⟩
set_option linter.unusedVariables false in
set_option linter.unusedSimpArgs false in
set_option maxRecDepth 100000 in
set_option maxHeartbeats 16000000 in
theorem en_ins_grow {lo n c vb : Nat} {gE i : Nat} {l : List En} {x : En} (w : World) (hlo : lo ≤ w.heap.size) (hown : w.ownsRow lo 52 14 (.slice (some ⟨gE, 0, none⟩) n c) n (l.flatMap enE)) (hn : n ≤ 1000) (hvb : w.heap[vb]? = some (.cells (enE x).toArray 52 (0, 0))) (hve : Ofs (.slice (some ⟨gE, 0, none⟩) n c) vb) (hi : i < n) (hg : c < n + 1) : Calls Try.prog 32 #[.slice (some ⟨gE, 0, none⟩) n c, .int .i64 (i : Int), .slice (some ⟨vb, 0, none⟩) 1 1] w fun e w' => ∃ A' c', e = .returned (.slice A' (n + 1) c') ∧ w'.ownsRow lo 52 14 (.slice A' (n + 1) c') (n + 1) ((l.take i ++ x :: l.drop i).flatMap enE) ∧ w.grownBy w' (Value.ownBlock (.slice (some ⟨gE, 0, none⟩) n c)) ∧ (∀ q, q < w.heap.size → Ofs (.slice (some ⟨gE, 0, none⟩) n c) q → Ofs (.slice A' (n + 1) c') q) := by
  have own := hown
  clear hown
  have hl := row_len (by decide) enE_len own
  have hcap := row_cap own
  have HCAP := Lib.hid hcap
  have HLL := Lib.hid hl
  have HLO := Lib.hid hlo
  obtain ⟨ie, hie, hie0, hie1, hie2⟩ := info_parts Try.info_ent
  have n0 : (0 : Int) ≤ n := by omega
  have n1 : (n : Int) ≤ 1000 := by omega
  obtain ⟨q, hq⟩ : ∃ q, i + q = n := ⟨n - i, by omega⟩
  have i0 : (0 : Int) ≤ i := by omega
  have i1 : (i : Int) < n := by omega
  have hne : ((i : Int) == n) = false := beq_eq_false_iff_ne.2 (by omega)
  have hw1 : IntKind.i64.wrap ((i : Int) + 1) = (i : Int) + 1 := IntWalk.i64_in _ (by omega)
  have r53 := fun W => en_back gE n c i (by omega) (by omega) W
  rw [show n - i = q by omega] at r53
  have HFL : Hid (14 * i + q * 14 = (l.flatMap enE).length) := Lib.hid (by rw [flat_len enE_len, hl, ← hq, Nat.add_mul]; omega)
  have HON : Hid (∀ v ∈ (l.flatMap enE).drop (i * 14), v.oneCell' = true) := Lib.hid (fun v hv => by obtain ⟨y, _, hy⟩ := List.mem_flatMap.1 (List.mem_of_mem_drop hv); exact enE_one y v hy)
  have HQ := Lib.hid hq
  have HD : Hid (((l.flatMap enE).drop (i * 14)).length = q * 14) := Lib.hid (by rw [List.length_drop]; have := HFL.out; omega)
  have HVE := Lib.hid hve
  obtain ⟨p, hp⟩ : ∃ p, i + p = n + 1 := ⟨n + 1 - i, by omega⟩
  have hpi : (n : Int) + 1 - i = (p : Int) := by omega
  have r34 := fun W => en_front gE n c i (by omega) W
  have ownI := row_less own (i := i) (by omega)
  have HP0 : Hid (0 < p) := Lib.hid (by omega)
  have HPQ : Hid (p = q + 1) := Lib.hid (by omega)
  have HIP := Lib.hid hp
  have hcg : (c : Int) < (n : Int) + 1 := by omega
  have HCG : Hid (c < n + 1) := Lib.hid hg
  have HB1 : Hid (n + 1 ≤ maxLen) := Lib.hid (by unfold maxLen; omega)
  have HB2 : Hid ((n + 1) * 56 ≤ 140737488355328) := Lib.hid (by omega)
  have HMX : Hid ((enE x).length = Nat.min 1 (q + 1) * 14) := Lib.hid (by rw [enE_len, show Nat.min 1 (q + 1) = 1 by simp [Nat.min_def]])
  have HPX : Hid (i * 14 + (enE x).length ≤ (n + 1) * 14) := Lib.hid (by rw [enE_len]; omega)
  have HPD : Hid ((i + 1) * 14 + ((l.flatMap enE).drop (i * 14)).length ≤ (n + 1) * 14) := Lib.hid (by rw [HD.out]; omega)
  have HGE : Hid (gE < w.heap.size) := Lib.hid (own.lt gE rfl).2
  clear hl hcap hlo hp hq hi hg hn hve
  have bel := Below.refl w.heap.size w
  go_enter Try.func32, Try.ntmps32
  have R12 := r53
  have R34 := r34
  go_wp2_with (first | ((with_reducible show wpList _ _ _ (⟨some 40, _, _, _, _, _⟩ :: _) _ _); refine wpList_append_fresh rfl (.tmp 34) (.tmp 39) 47 3 52 rfl ie (.agg #[.int .u8 0, .int .u8 0, .int .u8 0, .int .u8 0, .int .i64 0, .bool false, .int .u8 0, .int .u8 0, .int .u8 0, .int .u8 0, .int .u8 0, .int .u8 0, .int .i64 0, .slice none 0 0]) .i64 56 Try.underlying47 Try.underlying3 hie hie0 hie1 hie2 en_zs (by decide) ownI .i64 p rfl rfl HP0.out (n + 1) HIP.out HCG.out HB1.out HB2.out ?_; intro gN cN w9 geN ownN bN; have hcN := row_cap ownN; have own9 := owk_under own bN; clear own; have own := own9; clear own9; replace hvb := blk_u hvb bN; replace bel := bel.trans bN; clear bN; have r43 := fun W => en_back gN (n + 1) cN i (by omega) (by omega) W; have r50 := fun W => en_back gN (n + 1) cN (i + 1) (by omega) (by omega) W; simp only [Int.natCast_add, Int.natCast_one] at r50; rw [show n + 1 - i = q + 1 by have := HQ.out; omega] at r43; rw [show n + 1 - (i + 1) = q by have := HQ.out; omega] at r50; have HGN := Lib.hid geN; clear hcN geN; have R43 := r43) | ((with_reducible show wpList _ _ _ (⟨some 45, _, _, _, _, _⟩ :: _) _ _); refine wpList_copy_rowk rfl (.tmp 43) (.tmp 44) 47 47 52 rfl Try.underlying47 en_size ownN (i * 14) (q + 1) (cN - i) ⟨vb, 0, none⟩ 1 1 (enE x) rfl rfl HMX.out (en_vsrc hvb) HPX.out (enE_one x) _ rfl ?_; intro w10 own_ gw; have own9 := owk_off own (ne_off (Nat.ne_of_lt (Nat.lt_of_lt_of_le HGE.out HGN.out))) gw; clear own ownN; have own := own9; have ownN := own_; clear own9 own_; replace bel := bel.trans (Below.row gw HGN.out bel.size); clear gw hvb))
  try clear R12
  try clear R34
  try clear R43
  replace bel := bel.drew
  replace own := World.ownsRow.drew own
  replace ownN := World.ownsRow.drew ownN
  refine wp_region_held_drew (S := fun _ => True) (by kernel_rfl) trivial (fun hH => ?_)
  generalize w10.drew = w1 at bel own ownN hH ⊢
  refine wpAnyH_take (i := 0) (v := ?_) rfl (by kernel_rfl) (by kernel_rfl) (by kernel_rfl) (fun _ _ _ h => h) (Or.inl ⟨by rfl, ?_⟩) hH ?_
  rotate_left
  · ((intro W hW; clear hW; go_simp) <;> with_reducible rfl)
  simp only [Act.put, List.getElem_toArray, List.getElem_cons_zero, List.setIfInBounds_toArray, List.set_cons_zero, List.set_cons_succ]
  refine wpAnyH_take (i := 1) (v := ?_) rfl (by kernel_rfl) (by kernel_rfl) (by kernel_rfl) (fun _ _ _ h => h) (Or.inl ⟨by rfl, ?_⟩) hH ?_
  rotate_left
  · ((intro W hW; clear hW; go_simp) <;> with_reducible rfl)
  simp only [Act.put, List.getElem_toArray, List.getElem_cons_zero, List.getElem_cons_succ, List.setIfInBounds_toArray, List.set_cons_zero, List.set_cons_succ]
  refine wpAnyH_take (i := 2) (v := ?_) rfl (by kernel_rfl) (by kernel_rfl) (by kernel_rfl) (fun _ _ _ h => h) (Or.inl ⟨by rfl, ?_⟩) hH ?_
  rotate_left
  · ((intro W hW; clear hW; go_simp) <;> with_reducible rfl)
  simp only [Act.put, List.getElem_toArray, List.getElem_cons_zero, List.getElem_cons_succ, List.setIfInBounds_toArray, List.set_cons_zero, List.set_cons_succ]
  refine wpAnyH_take (i := 3) (v := ?_) rfl (by kernel_rfl) (by kernel_rfl) (by kernel_rfl) (fun _ _ _ h => h) (Or.inl ⟨by rfl, ?_⟩) hH ?_
  rotate_left
  · ((intro W hW; clear hW; go_simp) <;> with_reducible rfl)
  simp only [Act.put, List.getElem_toArray, List.getElem_cons_zero, List.getElem_cons_succ, List.setIfInBounds_toArray, List.set_cons_zero, List.set_cons_succ]
  refine wpAnyH_take (i := 4) (v := ?_) rfl (by kernel_rfl) (by kernel_rfl) (by kernel_rfl) (fun _ _ _ h => h) (Or.inl ⟨by rfl, ?_⟩) hH ?_
  rotate_left
  · ((intro W hW; clear hW; go_simp) <;> with_reducible rfl)
  simp only [Act.put, List.getElem_toArray, List.getElem_cons_zero, List.getElem_cons_succ, List.setIfInBounds_toArray, List.set_cons_zero, List.set_cons_succ]
  refine wpAnyH_take (i := 5) (v := ?_) rfl (by kernel_rfl) (by kernel_rfl) (by kernel_rfl) (fun _ _ _ h => h) (Or.inl ⟨by rfl, ?_⟩) hH ?_
  rotate_left
  · ((intro W hW; clear hW; go_simp) <;> with_reducible rfl)
  simp only [Act.put, List.getElem_toArray, List.getElem_cons_zero, List.getElem_cons_succ, List.setIfInBounds_toArray, List.set_cons_zero, List.set_cons_succ]
  refine wpAnyH_take (i := 6) (v := ?_) rfl (by kernel_rfl) (by kernel_rfl) (by kernel_rfl) (fun _ _ _ h => h) (Or.inl ⟨by rfl, ?_⟩) hH ?_
  rotate_left
  · ((intro W hW; clear hW; go_simp) <;> with_reducible rfl)
  simp only [Act.put, List.getElem_toArray, List.getElem_cons_zero, List.getElem_cons_succ, List.setIfInBounds_toArray, List.set_cons_zero, List.set_cons_succ]
  refine wpAnyH_take (i := 7) (v := ?_) rfl (by kernel_rfl) (by kernel_rfl) (by kernel_rfl) (fun _ _ _ h => h) (Or.inl ⟨by rfl, ?_⟩) hH ?_
  rotate_left
  · ((intro W hW; clear hW; go_simp) <;> with_reducible rfl)
  simp only [Act.put, List.getElem_toArray, List.getElem_cons_zero, List.getElem_cons_succ, List.setIfInBounds_toArray, List.set_cons_zero, List.set_cons_succ]
  refine wpAnyH_ready (rs := [8]) (by kernel_rfl) (by simp) ?_
  refine AllReadyH.cons (o := _) rfl (fun K hK => ?_) AllReadyH.nil
  simp only [List.getElem_toArray, List.getElem_cons_zero, List.getElem_cons_succ]
  rw [if_pos (by rfl)]
  refine wp_copy_rowk (.tmp 50) (.tmp 53) 47 47 52 rfl Try.underlying47 en_size ownN ((i + 1) * 14) q (cN - (i + 1)) ⟨gE, i * 14, none⟩ q (c - i) ((l.flatMap enE).drop (i * 14)) rfl rfl (by rw [HD.out, show Nat.min q q = q from Nat.min_self q]) (row_piece own _ _ (by rw [List.take_of_length_le (Nat.le_refl _)])) HPD.out HON.out _ rfl ?_
  intro w11 own_ gw
  clear own ownN
  have ownN := own_
  clear own_
  replace bel := bel.trans (Below.row gw HGN.out bel.size)
  clear gw
  refine hK.out _ _ trivial (fun hH2 => ?_)
  clear hK K
  simp only [Act.put, List.setIfInBounds_toArray, List.set_cons_zero, List.set_cons_succ]
  refine wpAnyH_done (by kernel_rfl) ?_ _
  go_wp2_with fail
  go_ret
  refine ⟨some ⟨gN, 0, none⟩, cN, rfl, ?_, grown_of_below bel, fun q hq _ => ne_off (Nat.ne_of_gt (Nat.lt_of_lt_of_le hq HGN.out))⟩
  rw [en_insd, ← ins_cells2 (Z := zerosL (.agg #[.int .u8 0, .int .u8 0, .int .u8 0, .int .u8 0, .int .i64 0, .bool false, .int .u8 0, .int .u8 0, .int .u8 0, .int .u8 0, .int .u8 0, .int .u8 0, .int .i64 0, .slice none 0 0]) p) (a := i * 14) (k := 14) (m := q * 14) (by have := HFL.out; omega) (by rw [zerosL_len _ _ en_zs, HPQ.out, Nat.succ_mul]) (enE_len x), show i * 14 + 14 = (i + 1) * 14 by omega]
  exact owk_lo ownN HLO.out
set_option linter.unusedVariables false in
set_option linter.unusedSimpArgs false in
set_option maxRecDepth 100000 in
set_option maxHeartbeats 16000000 in
theorem en_ins_room {lo n c vb : Nat} {gE i : Nat} {l : List En} {x : En} (w : World) (hlo : lo ≤ w.heap.size) (hown : w.ownsRow lo 52 14 (.slice (some ⟨gE, 0, none⟩) n c) n (l.flatMap enE)) (hn : n ≤ 1000) (hvb : w.heap[vb]? = some (.cells (enE x).toArray 52 (0, 0))) (hve : Ofs (.slice (some ⟨gE, 0, none⟩) n c) vb) (hi : i < n) (hg : n + 1 ≤ c) : Calls Try.prog 32 #[.slice (some ⟨gE, 0, none⟩) n c, .int .i64 (i : Int), .slice (some ⟨vb, 0, none⟩) 1 1] w fun e w' => ∃ A' c', e = .returned (.slice A' (n + 1) c') ∧ w'.ownsRow lo 52 14 (.slice A' (n + 1) c') (n + 1) ((l.take i ++ x :: l.drop i).flatMap enE) ∧ w.grownBy w' (Value.ownBlock (.slice (some ⟨gE, 0, none⟩) n c)) ∧ (∀ q, q < w.heap.size → Ofs (.slice (some ⟨gE, 0, none⟩) n c) q → Ofs (.slice A' (n + 1) c') q) := by
  have own := hown
  clear hown
  have hl := row_len (by decide) enE_len own
  have hcap := row_cap own
  have HCAP := Lib.hid hcap
  have HLL := Lib.hid hl
  have HLO := Lib.hid hlo
  obtain ⟨ie, hie, hie0, hie1, hie2⟩ := info_parts Try.info_ent
  have n0 : (0 : Int) ≤ n := by omega
  have n1 : (n : Int) ≤ 1000 := by omega
  obtain ⟨q, hq⟩ : ∃ q, i + q = n := ⟨n - i, by omega⟩
  have i0 : (0 : Int) ≤ i := by omega
  have i1 : (i : Int) < n := by omega
  have hne : ((i : Int) == n) = false := beq_eq_false_iff_ne.2 (by omega)
  have hw1 : IntKind.i64.wrap ((i : Int) + 1) = (i : Int) + 1 := IntWalk.i64_in _ (by omega)
  have r53 := fun W => en_back gE n c i (by omega) (by omega) W
  rw [show n - i = q by omega] at r53
  have HFL : Hid (14 * i + q * 14 = (l.flatMap enE).length) := Lib.hid (by rw [flat_len enE_len, hl, ← hq, Nat.add_mul]; omega)
  have HON : Hid (∀ v ∈ (l.flatMap enE).drop (i * 14), v.oneCell' = true) := Lib.hid (fun v hv => by obtain ⟨y, _, hy⟩ := List.mem_flatMap.1 (List.mem_of_mem_drop hv); exact enE_one y v hy)
  have HQ := Lib.hid hq
  have HD : Hid (((l.flatMap enE).drop (i * 14)).length = q * 14) := Lib.hid (by rw [List.length_drop]; have := HFL.out; omega)
  have HVE := Lib.hid hve
  obtain ⟨ys, hys, own1⟩ := row_more own (m := 1) (by omega)
  have hov := en_ov (o := (i + 1) * 14) (lb := q) (cb := c - (i + 1)) hvb (enE_len x) own1 (by omega) (off_ne hve)
  have r60 := fun W => en_front gE n c (n + 1) (by omega) W
  have r66 := fun W => en_back gE (n + 1) c (i + 1) (by omega) (by omega) W
  have r76 := fun W => en_back gE (n + 1) c i (by omega) (by omega) W
  simp only [Int.natCast_add, Int.natCast_one] at r60 r66
  rw [show n + 1 - (i + 1) = q by omega] at r66
  rw [show n + 1 - i = q + 1 by omega] at r76
  have hcg : decide ((c : Int) < (n : Int) + 1) = false := decide_eq_false (by omega)
  have HYS : Hid (ys.length = 14) := Lib.hid (by omega)
  have HMX : Hid ((enE x).length = Nat.min 1 (q + 1) * 14) := Lib.hid (by rw [enE_len, show Nat.min 1 (q + 1) = 1 by simp [Nat.min_def]])
  have HPX : Hid (i * 14 + (enE x).length ≤ (n + 1) * 14) := Lib.hid (by rw [enE_len]; omega)
  have HPD : Hid ((i + 1) * 14 + ((l.flatMap enE).drop (i * 14)).length ≤ (n + 1) * 14) := Lib.hid (by rw [HD.out]; omega)
  have HMD : Hid (((l.flatMap enE).drop (i * 14)).length = Nat.min (q + 1) q * 14) := Lib.hid (by rw [HD.out, show Nat.min (q + 1) q = q by simp [Nat.min_def]])
  have HPC : Hid (((l.flatMap enE ++ ys).drop (i * 14)).take ((l.flatMap enE).drop (i * 14)).length = (l.flatMap enE).drop (i * 14)) := Lib.hid (by rw [List.drop_append_of_le_length (by have := HFL.out; omega)]; exact List.take_left' rfl)
  have HVN : Hid (Hid (vb ≠ gE)) := Lib.hid (Lib.hid (off_ne hve))
  have gk := World.grownBy.refl w (some gE)
  clear own
  have own := own1
  clear own1 hys hl hcap hlo hq hi hg hn hve
  have bel := Below.refl w.heap.size w
  go_enter Try.func32, Try.ntmps32
  have R12 := r53
  have R60 := r60
  have R66 := r66
  have R67 := hov
  go_wp2_with fail
  clear R12 R60 R66 R67
  replace bel := bel.drew
  replace own := World.ownsRow.drew own
  replace gk := gk_drew gk
  replace hvb := heap_drew hvb
  refine wp_region_held_drew (S := fun _ => True) (by kernel_rfl) trivial (fun hH => ?_)
  generalize w.drew = w1 at bel own gk hvb hH ⊢
  refine wpAnyH_take (i := 0) (v := ?_) rfl (by kernel_rfl) (by kernel_rfl) (by kernel_rfl) (fun _ _ _ h => h) (Or.inl ⟨by rfl, ?_⟩) hH ?_
  rotate_left
  · ((intro W hW; clear hW; go_simp) <;> with_reducible rfl)
  simp only [Act.put, List.getElem_toArray, List.getElem_cons_zero, List.setIfInBounds_toArray, List.set_cons_zero, List.set_cons_succ]
  refine wpAnyH_take (i := 1) (v := ?_) rfl (by kernel_rfl) (by kernel_rfl) (by kernel_rfl) (fun _ _ _ h => h) (Or.inl ⟨by rfl, ?_⟩) hH ?_
  rotate_left
  · ((intro W hW; clear hW; go_simp) <;> with_reducible rfl)
  simp only [Act.put, List.getElem_toArray, List.getElem_cons_zero, List.getElem_cons_succ, List.setIfInBounds_toArray, List.set_cons_zero, List.set_cons_succ]
  refine wpAnyH_take (i := 2) (v := ?_) rfl (by kernel_rfl) (by kernel_rfl) (by kernel_rfl) (fun _ _ _ h => h) (Or.inl ⟨by rfl, ?_⟩) hH ?_
  rotate_left
  · ((intro W hW; clear hW; go_simp) <;> with_reducible rfl)
  simp only [Act.put, List.getElem_toArray, List.getElem_cons_zero, List.getElem_cons_succ, List.setIfInBounds_toArray, List.set_cons_zero, List.set_cons_succ]
  refine wpAnyH_take (i := 3) (v := ?_) rfl (by kernel_rfl) (by kernel_rfl) (by kernel_rfl) (fun _ _ _ h => h) (Or.inl ⟨by rfl, ?_⟩) hH ?_
  rotate_left
  · ((intro W hW; clear hW; go_simp) <;> with_reducible rfl)
  simp only [Act.put, List.getElem_toArray, List.getElem_cons_zero, List.getElem_cons_succ, List.setIfInBounds_toArray, List.set_cons_zero, List.set_cons_succ]
  refine wpAnyH_take (i := 4) (v := ?_) rfl (by kernel_rfl) (by kernel_rfl) (by kernel_rfl) (fun _ _ _ h => h) (Or.inl ⟨by rfl, ?_⟩) hH ?_
  rotate_left
  · ((intro W hW; clear hW; go_simp) <;> with_reducible rfl)
  simp only [Act.put, List.getElem_toArray, List.getElem_cons_zero, List.getElem_cons_succ, List.setIfInBounds_toArray, List.set_cons_zero, List.set_cons_succ]
  refine wpAnyH_take (i := 5) (v := ?_) rfl (by kernel_rfl) (by kernel_rfl) (by kernel_rfl) (fun _ _ _ h => h) (Or.inl ⟨by rfl, ?_⟩) hH ?_
  rotate_left
  · ((intro W hW; clear hW; go_simp) <;> with_reducible rfl)
  simp only [Act.put, List.getElem_toArray, List.getElem_cons_zero, List.getElem_cons_succ, List.setIfInBounds_toArray, List.set_cons_zero, List.set_cons_succ]
  refine wpAnyH_take (i := 6) (v := ?_) rfl (by kernel_rfl) (by kernel_rfl) (by kernel_rfl) (fun _ _ _ h => h) (Or.inl ⟨by rfl, ?_⟩) hH ?_
  rotate_left
  · ((intro W hW; clear hW; go_simp) <;> with_reducible rfl)
  simp only [Act.put, List.getElem_toArray, List.getElem_cons_zero, List.getElem_cons_succ, List.setIfInBounds_toArray, List.set_cons_zero, List.set_cons_succ]
  refine wpAnyH_take (i := 7) (v := ?_) rfl (by kernel_rfl) (by kernel_rfl) (by kernel_rfl) (fun _ _ _ h => h) (Or.inl ⟨by rfl, ?_⟩) hH ?_
  rotate_left
  · ((intro W hW; clear hW; go_simp) <;> with_reducible rfl)
  simp only [Act.put, List.getElem_toArray, List.getElem_cons_zero, List.getElem_cons_succ, List.setIfInBounds_toArray, List.set_cons_zero, List.set_cons_succ]
  refine wpAnyH_ready (rs := [8]) (by kernel_rfl) (by simp) ?_
  refine AllReadyH.cons (o := _) rfl (fun K hK => ?_) AllReadyH.nil
  simp only [List.getElem_toArray, List.getElem_cons_zero, List.getElem_cons_succ]
  rw [if_pos (by rfl)]
  refine wp_copy_rowk (.tmp 73) (.tmp 76) 47 47 52 rfl Try.underlying47 en_size own ((i + 1) * 14) q (c - (i + 1)) ⟨gE, i * 14, none⟩ (q + 1) (c - i) ((l.flatMap enE).drop (i * 14)) rfl rfl HMD.out (row_piece own _ _ HPC.out) HPD.out HON.out _ rfl ?_
  intro w9 own_ gw
  clear own
  have own := own_
  clear own_
  replace gk := gk.trans gw
  replace hvb := blk_a hvb gw HVN.out
  clear gw bel
  refine hK.out _ _ trivial (fun hH2 => ?_)
  clear hK K
  simp only [Act.put, List.setIfInBounds_toArray, List.set_cons_zero, List.set_cons_succ]
  refine wpAnyH_done (by kernel_rfl) ?_ _
  have R80 := r76
  go_wp2_with (first | ((with_reducible show wpList _ _ _ (⟨some 82, _, _, _, _, _⟩ :: _) _ _); refine wpList_copy_rowk rfl (.tmp 80) (.tmp 81) 47 47 52 rfl Try.underlying47 en_size own (i * 14) (q + 1) (c - i) ⟨vb, 0, none⟩ 1 1 (enE x) rfl rfl HMX.out (en_vsrc hvb) HPX.out (enE_one x) _ rfl ?_; intro w10 own_ gw; clear own; have own := own_; clear own_; replace gk := gk.trans gw; clear gw hvb))
  try clear R80
  go_ret
  refine ⟨some ⟨gE, 0, none⟩, c, rfl, ?_, gk, fun _ _ h => h⟩
  rw [show (i + 1) * 14 = i * 14 + 14 by omega, ins_cells (m := q * 14) (by have := HFL.out; omega) HYS.out (enE_len x)] at own
  rw [en_insd]
  exact own
theorem en_insert {lo n c vb : Nat} {i : Nat} {A : Option Addr} {l : List En} {x : En} (w : World) (hlo : lo ≤ w.heap.size) (hown : w.ownsRow lo 52 14 (.slice A n c) n (l.flatMap enE)) (hn : n ≤ 1000) (hvb : w.heap[vb]? = some (.cells (enE x).toArray 52 (0, 0))) (hve : Ofs (.slice A n c) vb) (hi : i ≤ n) : Calls Try.prog 32 #[.slice A n c, .int .i64 (i : Int), .slice (some ⟨vb, 0, none⟩) 1 1] w fun e w' => ∃ A' c', e = .returned (.slice A' (n + 1) c') ∧ w'.ownsRow lo 52 14 (.slice A' (n + 1) c') (n + 1) ((l.take i ++ x :: l.drop i).flatMap enE) ∧ w.grownBy w' (Value.ownBlock (.slice A n c)) ∧ (∀ q, q < w.heap.size → Ofs (.slice A n c) q → Ofs (.slice A' (n + 1) c') q) := by
  rcases Nat.lt_or_ge i n with h | h
  · obtain ⟨gE, rfl, _⟩ := row_at hown (by omega)
    rcases Nat.lt_or_ge c (n + 1) with h2 | h2
    · exact en_ins_grow w hlo hown hn hvb hve h h2
    · exact en_ins_room w hlo hown hn hvb hve h h2
  · obtain rfl : i = n := by omega
    exact en_ins_end w hlo hown hn hvb
end Go.Proofs.Ytfghmckeogajnaa
