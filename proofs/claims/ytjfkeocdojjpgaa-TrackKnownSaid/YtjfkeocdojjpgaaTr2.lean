/- slices.Delete, slices.IndexFunc over rows of connections. -/
import Derived.Test.YtjfkeocdojjpgaaTr1
namespace Go.Proofs.Ytjfkeocdojjpgaa
open Go.RowKit

theorem Try.info_cn : (Try.prog.info? 51).map (fun i => (i.zero, i.size, i.bytes)) = some (some (.agg #[.int .i64 0, .int .u8 0, .int .u8 0, .int .u8 0, .int .u8 0, .int .i64 0, .int .i64 0, .bool false]), 8, 40) := by kernel_rfl
theorem cn_elem : Try.prog.underlying 43 = some (.slice (Try.prog.elem 43)) := by kernel_rfl
theorem cn_el : Try.prog.elem 43 = 51 := by kernel_rfl
theorem cn_sz (w : World) : (Go.sizeOf 51).run Try.prog w = .ok 8 w := by kernel_rfl
theorem cn_zero : (Try.prog.info? 51).bind (·.zero) = some (.agg #[.int .i64 0, .int .u8 0, .int .u8 0, .int .u8 0, .int .u8 0, .int .i64 0, .int .i64 0, .bool false]) := by kernel_rfl
theorem cn_zs : (Value.cells (.agg #[.int .i64 0, .int .u8 0, .int .u8 0, .int .u8 0, .int .u8 0, .int .i64 0, .int .i64 0, .bool false])).size = 8 := by kernel_rfl
theorem cn_z1 : (Value.cells (.agg #[.int .i64 0, .int .u8 0, .int .u8 0, .int .u8 0, .int .u8 0, .int .i64 0, .int .i64 0, .bool false])).all (·.oneCell') = true := by kernel_rfl
theorem cn_size : (Try.prog.info? 51).map (·.size) = some 8 := by kernel_rfl
/-- Pieces of a row. -/
theorem cn_front (g n c : Nat) (i : Nat) (hi : i ≤ c) (W : World) : (Instr.slice 43 (.slice (some ⟨g, 0, none⟩) n c) none (some (.int .i64 (i : Int))) none).run Try.prog W = .ok (.slice (some ⟨g, 0, none⟩) i c) W := by
  rw [run_slice_h W 43 _ n c cn_elem .i64 _ (by omega) (by omega), cn_el, cn_sz]
  simp [Result.andThen, sliced, Addr.add]
theorem cn_back (g n c : Nat) (i : Nat) (hi : i ≤ n) (hc : i < c) (W : World) : (Instr.slice 43 (.slice (some ⟨g, 0, none⟩) n c) (some (.int .i64 (i : Int))) none none).run Try.prog W = .ok (.slice (some ⟨g, i * 8, none⟩) (n - i) (c - i)) W := by
  rw [run_slice_l W 43 _ n c cn_elem .i64 _ (by omega) (by omega), cn_el, cn_sz]
  simp [Result.andThen, sliced, Addr.add_lit, show ¬ c = i by omega]
theorem cn_backany (A : Option Addr) (n c : Nat) (i : Nat) (hi : i ≤ n) : ∃ v, ∀ W, (Instr.slice 43 (.slice A n c) (some (.int .i64 (i : Int))) none none).run Try.prog W = .ok v W := by
  refine ⟨sliced A i n c 8, fun W => ?_⟩
  rw [run_slice_l W 43 _ n c cn_elem .i64 _ (by omega) (by omega), cn_el, cn_sz]
  simp [Result.andThen]
theorem cn_tail (g n c : Nat) (i : Nat) (hi : i ≤ n) : ∃ ad c2, (∀ W, (Instr.slice 43 (.slice (some ⟨g, 0, none⟩) n c) (some (.int .i64 (i : Int))) none none).run Try.prog W = .ok (.slice (some ad) (n - i) c2) W) ∧ (i < c → ad = ⟨g, i * 8, none⟩) := by
  refine ⟨if c = i then ⟨g, 0, none⟩ else ⟨g, i * 8, none⟩, c - i, fun W => ?_, fun h => by rw [if_neg (by omega)]⟩
  rw [run_slice_l W 43 _ n c cn_elem .i64 _ (by omega) (by omega), cn_el, cn_sz]
  by_cases h : c = i <;> simp [Result.andThen, sliced, Addr.add_lit, h]
theorem cn_two (g n c : Nat) (i j : Nat) (hi : i ≤ j) (hj : j ≤ c) (hc : i < c) (W : World) : (Instr.slice 43 (.slice (some ⟨g, 0, none⟩) n c) (some (.int .i64 (i : Int))) (some (.int .i64 (j : Int))) none).run Try.prog W = .ok (.slice (some ⟨g, i * 8, none⟩) (j - i) (c - i)) W := by
  rw [run_slice_lh W 43 _ n c cn_elem .i64 .i64 _ _ (by omega) (by omega) (by omega), cn_el, cn_sz]
  simp [Result.andThen, sliced, Addr.add_lit, show ¬ c = i by omega]
theorem cn_three (A : Option Addr) (n c : Nat) (i j m : Nat) (h1 : i ≤ j) (h2 : j ≤ m) (h3 : m ≤ c) : ∃ v, ∀ W, (Instr.slice 43 (.slice A n c) (some (.int .i64 (i : Int))) (some (.int .i64 (j : Int))) (some (.int .i64 (m : Int)))).run Try.prog W = .ok v W := by
  refine ⟨sliced A i j m 8, fun W => ?_⟩
  rw [run_slice_lhm W 43 _ n c cn_elem .i64 .i64 .i64 _ _ _ (by omega) (by omega) (by omega) (by omega), cn_el, cn_sz]
  simp [Result.andThen]
theorem cn_src {lo g n c i : Nat} {l : List Cn} {ad : Addr} {w : World} (own : w.ownsRow lo 51 8 (.slice (some ⟨g, 0, none⟩) n c) n (l.flatMap cnE)) (hl : l.length = n) (had : i < c → ad = ⟨g, i * 8, none⟩) : ∀ j v, ((l.flatMap cnE).drop (i * 8))[j]? = some v → w.cell? (ad.add j) = some v := fun j v hv => by
  have hj := (List.getElem?_eq_some_iff.1 hv).1
  rw [List.length_drop, flat_len cnE_len, hl] at hj
  rw [had (by have := row_cap own; omega)]
  exact row_piece own _ _ (by rw [List.take_of_length_le (Nat.le_refl _)]) j v hv
theorem flat_erase_cn {l : List Cn} (i : Nat) : (l.eraseIdx i).flatMap cnE = (l.flatMap cnE).take (i * 8) ++ (l.flatMap cnE).drop ((i + 1) * 8) := by
  rw [List.eraseIdx_eq_take_drop_succ, List.flatMap_append, flat_take cnE_len, flat_drop cnE_len]
theorem cn_del {l : List Cn} {n m i q : Nat} (hl : l.length = n) (hm : m + 1 = n) (hq : i + q = m) : (((l.flatMap cnE).take (i * 8) ++ (l.flatMap cnE).drop ((i + 1) * 8) ++ (l.flatMap cnE).drop (i * 8 + ((l.flatMap cnE).drop ((i + 1) * 8)).length))).take (m * 8) = (l.eraseIdx i).flatMap cnE := by
  have h1 : ((l.flatMap cnE).take (i * 8)).length = i * 8 := by rw [List.length_take, flat_len cnE_len, hl]; omega
  have h2 : ((l.flatMap cnE).drop ((i + 1) * 8)).length = q * 8 := by rw [List.length_drop, flat_len cnE_len, hl]; omega
  rw [List.take_append_of_le_length (by rw [List.length_append, h1, h2]; omega), List.take_of_length_le (by rw [List.length_append, h1, h2]; omega), flat_erase_cn]
set_option linter.unusedVariables false in
set_option linter.unusedSimpArgs false in
set_option maxRecDepth 100000 in
set_option maxHeartbeats 16000000 in
theorem cn_delete {lo gE n c i : Nat} {l : List Cn} (w : World) (hown : w.ownsRow lo 51 8 (.slice (some ⟨gE, 0, none⟩) n c) n (l.flatMap cnE)) (hi : i < n) : Calls Try.prog 23 #[.slice (some ⟨gE, 0, none⟩) n c, .int .i64 (i : Int), .int .i64 ((i : Int) + 1)] w fun e w' => ∃ m, m + 1 = n ∧ e = .returned (.slice (some ⟨gE, 0, none⟩) m c) ∧ w'.ownsRow lo 51 8 (.slice (some ⟨gE, 0, none⟩) m c) m ((l.eraseIdx i).flatMap cnE) ∧ w.grownBy w' (some gE) := by
  have own := hown
  clear hown
  have hl := row_len (by decide) cnE_len own
  have hcap := row_cap own
  obtain ⟨ie, hie, hie0, hie1, hie2⟩ := info_parts Try.info_cn
  obtain ⟨m, hnm⟩ : ∃ m, m + 1 = n := ⟨n - 1, by omega⟩
  obtain ⟨q, hq⟩ : ∃ q, i + q = m := ⟨m - i, by omega⟩
  obtain ⟨v13, r13⟩ := cn_three (some ⟨gE, 0, none⟩) n c i (i + 1) n (by omega) (by omega) (by omega)
  have r22 := fun W => cn_front gE n c i (by omega) W
  obtain ⟨ad, c25, r25, had⟩ := cn_tail gE n c (i + 1) (by omega)
  rw [show n - (i + 1) = q by omega] at r25
  have r31 := fun W => cn_two gE m c m n (by omega) (by omega) (by omega) W
  rw [show n - m = 1 by omega] at r31
  simp only [Int.natCast_add, Int.natCast_one] at r13 r25
  have hcl : ((l.flatMap cnE).drop ((i + 1) * 8)).length = q * 8 := by rw [List.length_drop, flat_len cnE_len, hl]; omega
  have HAD := Lib.hid had
  have HCL := Lib.hid hcl
  have HON : Hid (∀ v ∈ (l.flatMap cnE).drop ((i + 1) * 8), v.oneCell' = true) := Lib.hid (fun v hv => by obtain ⟨x, _, hx⟩ := List.mem_flatMap.1 (List.mem_of_mem_drop hv); exact cnE_one x v hx)
  have HM : Hid (m ≤ n) := Lib.hid (by omega)
  have HQ := Lib.hid hq
  have HNM := Lib.hid hnm
  have HLL := Lib.hid hl
  have hb_ := own.lt gE rfl
  have HGE := Lib.hid hb_.1
  have HLO : Hid (lo ≤ w.heap.size) := Lib.hid (by omega)
  have hne : ((i : Int) == i + 1) = false := beq_eq_false_iff_ne.2 (by omega)
  have gk := World.grownBy.refl w (some gE)
  clear hcl hq hnm hl had hcap hb_ hi
  have bel := Below.refl w.heap.size w
  go_enter Try.func23, Try.ntmps23
  have R13 := r13
  go_wp2_with fail
  clear R13
  replace bel := bel.drew
  replace own := World.ownsRow.drew own
  replace gk := gk_drew gk
  refine wp_region_held_drew (S := fun _ => True) (by kernel_rfl) trivial (fun hH => ?_)
  generalize w.drew = w1 at bel own gk hH ⊢
  refine wpAnyH_take (i := 0) (v := ?_) rfl (by kernel_rfl) (by kernel_rfl) (by kernel_rfl) (fun _ _ _ h => h) (Or.inl ⟨by rfl, ?_⟩) hH ?_
  rotate_left
  · ((intro W hW; clear hW; go_simp) <;> with_reducible rfl)
  simp only [Act.put, List.getElem_toArray, List.getElem_cons_zero, List.setIfInBounds_toArray, List.set_cons_zero, List.set_cons_succ]
  refine wpAnyH_take (i := 1) (v := ?_) rfl (by kernel_rfl) (by kernel_rfl) (by kernel_rfl) (fun _ _ _ h => h) (Or.inl ⟨by rfl, ?_⟩) hH ?_
  rotate_left
  · ((intro W hW; clear hW; go_simp) <;> with_reducible rfl)
  simp only [Act.put, List.getElem_toArray, List.getElem_cons_zero, List.getElem_cons_succ, List.setIfInBounds_toArray, List.set_cons_zero, List.set_cons_succ]
  refine wpAnyH_take (i := 2) (v := ?_) rfl (by kernel_rfl) (by kernel_rfl) (by kernel_rfl) (fun _ _ _ h => h) (Or.inl ⟨by rfl, ?_⟩) hH ?_
  rotate_left
  · ((intro W hW; clear hW; go_simp) <;> with_reducible rfl)
  simp only [Act.put, List.getElem_toArray, List.getElem_cons_zero, List.getElem_cons_succ, List.setIfInBounds_toArray, List.set_cons_zero, List.set_cons_succ]
  refine wpAnyH_take (i := 3) (v := ?_) rfl (by kernel_rfl) (by kernel_rfl) (by kernel_rfl) (fun _ _ _ h => h) (Or.inl ⟨by rfl, ?_⟩) hH ?_
  rotate_left
  · ((intro W hW; clear hW; go_simp) <;> with_reducible rfl)
  simp only [Act.put, List.getElem_toArray, List.getElem_cons_zero, List.getElem_cons_succ, List.setIfInBounds_toArray, List.set_cons_zero, List.set_cons_succ]
  refine wpAnyH_take (i := 4) (v := ?_) rfl (by kernel_rfl) (by kernel_rfl) (by kernel_rfl) (fun _ _ _ h => h) (Or.inl ⟨by rfl, ?_⟩) hH ?_
  rotate_left
  · ((intro W hW; clear hW; go_simp) <;> with_reducible rfl)
  simp only [Act.put, List.getElem_toArray, List.getElem_cons_zero, List.getElem_cons_succ, List.setIfInBounds_toArray, List.set_cons_zero, List.set_cons_succ]
  refine wpAnyH_take (i := 5) (v := ?_) rfl (by kernel_rfl) (by kernel_rfl) (by kernel_rfl) (fun _ _ _ h => h) (Or.inl ⟨by rfl, ?_⟩) hH ?_
  rotate_left
  · ((intro W hW; clear hW; go_simp) <;> with_reducible rfl)
  simp only [Act.put, List.getElem_toArray, List.getElem_cons_zero, List.getElem_cons_succ, List.setIfInBounds_toArray, List.set_cons_zero, List.set_cons_succ]
  refine wpAnyH_ready (rs := [6]) (by kernel_rfl) (by simp) ?_
  refine AllReadyH.cons (o := _) rfl (fun K hK => ?_) AllReadyH.nil
  simp only [List.getElem_toArray, List.getElem_cons_zero, List.getElem_cons_succ]
  rw [if_pos (by rfl)]
  refine wp_append_within (.tmp 22) (.tmp 25) 43 51 rfl ie Try.underlying43 hie hie1 own i q ad c25 ((l.flatMap cnE).drop ((i + 1) * 8)) rfl rfl HCL.out m HQ.out HM.out (cn_src own HLL.out HAD.out) HON.out ?_
  intro w9 own_ gw
  clear own
  have own := own_
  clear own_
  replace gk := gk.trans gw
  clear gw bel
  refine hK.out _ _ trivial (fun hH2 => ?_)
  clear hK K
  simp only [Act.put, List.setIfInBounds_toArray, List.set_cons_zero, List.set_cons_succ]
  refine wpAnyH_take (i := 7) (v := ?_) rfl (by kernel_rfl) (by kernel_rfl) (by kernel_rfl) (fun _ _ _ h => h) (Or.inl ⟨by rfl, ?_⟩) hH2 ?_
  rotate_left
  · ((intro W hW; clear hW; go_simp) <;> with_reducible rfl)
  simp only [Act.put, List.getElem_toArray, List.getElem_cons_zero, List.getElem_cons_succ, List.setIfInBounds_toArray, List.set_cons_zero]
  refine wpAnyH_done (by kernel_rfl) ?_ _
  have R31 := r31
  go_wp2_with (first | ((with_reducible show wpList _ _ _ (⟨none, Op.call _, _, _, _, _⟩ :: _) _ _); refine wpList_clear_row rfl (.tmp 31) 43 51 rfl (.agg #[.int .i64 0, .int .u8 0, .int .u8 0, .int .u8 0, .int .u8 0, .int .i64 0, .int .i64 0, .bool false]) Try.underlying43 cn_zero cn_zs cn_z1 n HNM.out own (by decide) _ rfl ?_; intro w10 own_ gw; clear own; have own := own_; clear own_; replace gk := gk.trans gw; clear gw))
  try clear R31
  go_ret
  exact ⟨m, by rw [HNM.out], rfl, by rw [cn_del HLL.out HNM.out HQ.out] at own; exact own, gk⟩
set_option linter.unusedVariables false in
set_option linter.unusedSimpArgs false in
set_option maxRecDepth 100000 in
set_option maxHeartbeats 16000000 in
theorem idxf_none_pos {n c gE oE : Nat} {ge_ : Nat} {o p : Int} {ad : Ad4} {l : List Cn} (w : World) (heb : w.heap[ge_]? = some (.cells #[.int .i64 o, .int .u8 (ad.a.toNat : Int), .int .u8 (ad.b.toNat : Int), .int .u8 (ad.c.toNat : Int), .int .u8 (ad.d.toNat : Int), .int .i64 p] 47 (0, 0))) (en : Sle cnE 8 w (some ⟨gE, oE, none⟩) n c l) (hn : n ≤ 1000) (hN : ∀ e ∈ l, isB o ad p e = false) : Calls Try.prog 19 #[.slice (some ⟨gE, oE, none⟩) n c, .func (.func 20) #[] #[.pointer (some ⟨ge_, 0, none⟩)]] w fun e w' => e = .returned (.int .i64 (-1)) ∧ Below w.heap.size w w' := by
  have HL := Lib.hid en.1
  have hn0 : (n : Int) ≤ 1000 := by omega
  have HN := Lib.hid hN
  clear hN
  have bel := Below.refl w.heap.size w
  go_enter Try.func19, Try.ntmps19
  go_wp2_with fail
  go_loopg [8] (n) (fun gk s8 wr => ∃ k : Nat, gk = n - k ∧ k ≤ n ∧ s8 = .int .i64 (k : Int) ∧ wr.heap[ge_]? = some (.cells #[.int .i64 o, .int .u8 (ad.a.toNat : Int), .int .u8 (ad.b.toNat : Int), .int .u8 (ad.c.toNat : Int), .int .u8 (ad.d.toNat : Int), .int .i64 p] 47 (0, 0)) ∧ Sle cnE 8 wr (some ⟨gE, oE, none⟩) (n) (c) (l) ∧ Below w.heap.size w wr)
  case atStart => exact ⟨0, Nat.sub_zero _, Nat.zero_le _, rfl, heb, en, bel⟩
  case round =>
    clear heb en bel
    obtain ⟨k, HGK, hkn, rfl, heb, en, bel⟩ := hrel
    have HGK_ := Lib.hid HGK
    clear HGK
    by_cases h : k < n
    rotate_left
    · obtain rfl : k = n := by omega
      replace h : decide (k < k) = false := decide_eq_false (by omega)
      go_wp2_with fail
      go_ret
      exact ⟨rfl, bel⟩
    obtain ⟨e, hx⟩ : ∃ e, l[k]? = some e := ⟨_, List.getElem?_eq_getElem (by have := HL.out; omega)⟩
    have k0 : (0 : Int) ≤ k := by omega
    have k1 : (k : Int) < n := by omega
    have HX := Lib.hid hx
    clear hx
    have HG : Hid (isB o ad p e = false) := Lib.hid (HN.out e (List.mem_of_getElem? HX.out))
    have R15 := Lib.hid (Sle.range0 en HX.out 8 [.int .i64 e.o, .int .u8 (e.ad.a.toNat : Int), .int .u8 (e.ad.b.toNat : Int), .int .u8 (e.ad.c.toNat : Int), .int .u8 (e.ad.d.toNat : Int), .int .i64 e.p, .int .i64 e.s, .bool e.d] rfl)
    go_wp2_with (first | ((with_reducible show wpList _ _ _ (⟨some 15, _, _, _, _, _⟩ :: _) _ _); refine wpList_load_rng 51 (.tmp 14) rfl (by kernel_rfl) _ _ rfl _ R15.out _ Try.underlying51 rfl (by kernel_rfl) ?_))
    try clear R15
    with_reducible refine (findf_any e _ heb).mono ?_
    rintro e w1 ⟨rfl, b1⟩
    replace heb := blk_u heb b1
    replace en := en.below b1
    replace bel := bel.trans (b1.mono bel.size)
    clear b1
    rw [HG.out]
    go_wp2_with fail
    go_roundg (n - (k + 1))
    case measure => have := HGK_.out; omega
    case rel => exact ⟨k + 1, rfl, by omega, by go_num, heb, en, bel⟩
set_option linter.unusedVariables false in
set_option linter.unusedSimpArgs false in
set_option maxRecDepth 100000 in
set_option maxHeartbeats 16000000 in
theorem idxf_some {n c gE oE : Nat} {ge_ : Nat} {o p : Int} {ad : Ad4} {l : List Cn} (w : World) (heb : w.heap[ge_]? = some (.cells #[.int .i64 o, .int .u8 (ad.a.toNat : Int), .int .u8 (ad.b.toNat : Int), .int .u8 (ad.c.toNat : Int), .int .u8 (ad.d.toNat : Int), .int .i64 p] 47 (0, 0))) (en : Sle cnE 8 w (some ⟨gE, oE, none⟩) n c l) (hn : n ≤ 1000) {i : Nat} {x : Cn} (hx : l[i]? = some x) (hg : isB o ad p x = true) (hN : ∀ j e, j < i → l[j]? = some e → isB o ad p e = false) : Calls Try.prog 19 #[.slice (some ⟨gE, oE, none⟩) n c, .func (.func 20) #[] #[.pointer (some ⟨ge_, 0, none⟩)]] w fun e w' => e = .returned (.int .i64 (i : Int)) ∧ Below w.heap.size w w' := by
  have HL := Lib.hid en.1
  have hn0 : (n : Int) ≤ 1000 := by omega
  have HIN : Hid (i < n) := Lib.hid (by have := (List.getElem?_eq_some_iff.1 hx).1; have h_ := en.1; omega)
  have HN := Lib.hid hN
  have HXI := Lib.hid hx
  have HGI := Lib.hid hg
  clear hN hx hg
  have bel := Below.refl w.heap.size w
  go_enter Try.func19, Try.ntmps19
  go_wp2_with fail
  go_loopg [8] (n) (fun gk s8 wr => ∃ k : Nat, gk = n - k ∧ k ≤ i ∧ s8 = .int .i64 (k : Int) ∧ wr.heap[ge_]? = some (.cells #[.int .i64 o, .int .u8 (ad.a.toNat : Int), .int .u8 (ad.b.toNat : Int), .int .u8 (ad.c.toNat : Int), .int .u8 (ad.d.toNat : Int), .int .i64 p] 47 (0, 0)) ∧ Sle cnE 8 wr (some ⟨gE, oE, none⟩) (n) (c) (l) ∧ Below w.heap.size w wr)
  case atStart => exact ⟨0, Nat.sub_zero _, Nat.zero_le _, rfl, heb, en, bel⟩
  case round =>
    clear heb en bel
    obtain ⟨k, HGK, hkn, rfl, heb, en, bel⟩ := hrel
    have HGK_ := Lib.hid HGK
    clear HGK
    by_cases h : k < n
    rotate_left
    · exfalso
      have := HIN.out
      omega
    obtain ⟨e, hx⟩ : ∃ e, l[k]? = some e := ⟨_, List.getElem?_eq_getElem (by have := HL.out; omega)⟩
    have k0 : (0 : Int) ≤ k := by omega
    have k1 : (k : Int) < n := by omega
    have HX := Lib.hid hx
    clear hx
    by_cases h2 : k < i
    rotate_left
    · obtain rfl : k = i := by omega
      obtain rfl : e = x := Option.some.inj (HX.out.symm.trans HXI.out)
      have HG := HGI
      have R15 := Lib.hid (Sle.range0 en HX.out 8 [.int .i64 e.o, .int .u8 (e.ad.a.toNat : Int), .int .u8 (e.ad.b.toNat : Int), .int .u8 (e.ad.c.toNat : Int), .int .u8 (e.ad.d.toNat : Int), .int .i64 e.p, .int .i64 e.s, .bool e.d] rfl)
      go_wp2_with (first | ((with_reducible show wpList _ _ _ (⟨some 15, _, _, _, _, _⟩ :: _) _ _); refine wpList_load_rng 51 (.tmp 14) rfl (by kernel_rfl) _ _ rfl _ R15.out _ Try.underlying51 rfl (by kernel_rfl) ?_))
      try clear R15
      with_reducible refine (findf_any e _ heb).mono ?_
      rintro e w1 ⟨rfl, b1⟩
      replace heb := blk_u heb b1
      replace en := en.below b1
      replace bel := bel.trans (b1.mono bel.size)
      clear b1
      rw [HG.out]
      go_wp2_with fail
      go_ret
      exact ⟨rfl, bel⟩
    have HG : Hid (isB o ad p e = false) := Lib.hid (HN.out k e h2 HX.out)
    have R15 := Lib.hid (Sle.range0 en HX.out 8 [.int .i64 e.o, .int .u8 (e.ad.a.toNat : Int), .int .u8 (e.ad.b.toNat : Int), .int .u8 (e.ad.c.toNat : Int), .int .u8 (e.ad.d.toNat : Int), .int .i64 e.p, .int .i64 e.s, .bool e.d] rfl)
    go_wp2_with (first | ((with_reducible show wpList _ _ _ (⟨some 15, _, _, _, _, _⟩ :: _) _ _); refine wpList_load_rng 51 (.tmp 14) rfl (by kernel_rfl) _ _ rfl _ R15.out _ Try.underlying51 rfl (by kernel_rfl) ?_))
    try clear R15
    with_reducible refine (findf_any e _ heb).mono ?_
    rintro e w1 ⟨rfl, b1⟩
    replace heb := blk_u heb b1
    replace en := en.below b1
    replace bel := bel.trans (b1.mono bel.size)
    clear b1
    rw [HG.out]
    go_wp2_with fail
    go_roundg (n - (k + 1))
    case measure => have := HGK_.out; omega
    case rel => exact ⟨k + 1, rfl, by omega, by go_num, heb, en, bel⟩
set_option linter.unusedVariables false in
set_option linter.unusedSimpArgs false in
set_option maxRecDepth 100000 in
set_option maxHeartbeats 16000000 in
theorem idxf_nil {ge_ : Nat} {n c : Nat} {A2 : Option Addr} (w : World) (hn : n = 0) : Calls Try.prog 19 #[.slice A2 n c, .func (.func 20) #[] #[.pointer (some ⟨ge_, 0, none⟩)]] w fun e w' => e = .returned (.int .i64 (-1)) ∧ w = w' := by
  subst hn
  skip
  go_enter Try.func19, Try.ntmps19
  go_wp2_with fail
  refine wp_loop_rounds 1 ?_
  rw [rounds_succ]
  go_wp2_with fail
  go_ret
  exact ⟨rfl, rfl⟩
theorem idxf_no {n c : Nat} {A2 : Option Addr} {ge_ : Nat} {o p : Int} {ad : Ad4} {l : List Cn} (w : World) (heb : w.heap[ge_]? = some (.cells #[.int .i64 o, .int .u8 (ad.a.toNat : Int), .int .u8 (ad.b.toNat : Int), .int .u8 (ad.c.toNat : Int), .int .u8 (ad.d.toNat : Int), .int .i64 p] 47 (0, 0))) (en : Sle cnE 8 w A2 n c l) (hn : n ≤ 1000) (hN : l.findIdx (isB o ad p) = l.length) : Calls Try.prog 19 #[.slice A2 n c, .func (.func 20) #[] #[.pointer (some ⟨ge_, 0, none⟩)]] w fun e w' => e = .returned (.int .i64 (-1)) ∧ Below w.heap.size w w' := by
  rcases Nat.eq_zero_or_pos n with h | h
  · refine (idxf_nil w h).mono ?_
    rintro e w' ⟨rfl, rfl⟩
    exact ⟨rfl, Below.refl _ _⟩
  · obtain ⟨g, o, rfl⟩ := en.place h
    exact idxf_none_pos w heb en hn (idx_none hN)
theorem idxf_yes {n c i : Nat} {A2 : Option Addr} {ge_ : Nat} {o p : Int} {ad : Ad4} {l : List Cn} (w : World) (heb : w.heap[ge_]? = some (.cells #[.int .i64 o, .int .u8 (ad.a.toNat : Int), .int .u8 (ad.b.toNat : Int), .int .u8 (ad.c.toNat : Int), .int .u8 (ad.d.toNat : Int), .int .i64 p] 47 (0, 0))) (en : Sle cnE 8 w A2 n c l) (hn : n ≤ 1000) (hI : l.findIdx (isB o ad p) = i) (hi : i < l.length) : Calls Try.prog 19 #[.slice A2 n c, .func (.func 20) #[] #[.pointer (some ⟨ge_, 0, none⟩)]] w fun e w' => e = .returned (.int .i64 (i : Int)) ∧ Below w.heap.size w w' := by
  obtain ⟨g, o, rfl⟩ := en.place (by have := en.1; omega)
  obtain ⟨x, h1, h2, h3⟩ := idx_some hI hi
  exact idxf_some w heb en hn h1 h2 h3
set_option linter.unusedVariables false in
set_option linter.unusedSimpArgs false in
set_option maxRecDepth 100000 in
set_option maxHeartbeats 16000000 in
theorem idxo_none_pos {n c gE oE : Nat} {l : List Cn} (w : World)  (en : Sle cnE 8 w (some ⟨gE, oE, none⟩) n c l) (hn : n ≤ 1000) (hN : ∀ e ∈ l, overB e = false) : Calls Try.prog 19 #[.slice (some ⟨gE, oE, none⟩) n c, .func (.func 24) #[] #[]] w fun e w' => e = .returned (.int .i64 (-1)) ∧ Below w.heap.size w w' := by
  have HL := Lib.hid en.1
  have hn0 : (n : Int) ≤ 1000 := by omega
  have HN := Lib.hid hN
  clear hN
  have bel := Below.refl w.heap.size w
  go_enter Try.func19, Try.ntmps19
  go_wp2_with fail
  go_loopg [8] (n) (fun gk s8 wr => ∃ k : Nat, gk = n - k ∧ k ≤ n ∧ s8 = .int .i64 (k : Int) ∧ Sle cnE 8 wr (some ⟨gE, oE, none⟩) (n) (c) (l) ∧ Below w.heap.size w wr)
  case atStart => exact ⟨0, Nat.sub_zero _, Nat.zero_le _, rfl, en, bel⟩
  case round =>
    clear en bel
    obtain ⟨k, HGK, hkn, rfl, en, bel⟩ := hrel
    have HGK_ := Lib.hid HGK
    clear HGK
    by_cases h : k < n
    rotate_left
    · obtain rfl : k = n := by omega
      replace h : decide (k < k) = false := decide_eq_false (by omega)
      go_wp2_with fail
      go_ret
      exact ⟨rfl, bel⟩
    obtain ⟨e, hx⟩ : ∃ e, l[k]? = some e := ⟨_, List.getElem?_eq_getElem (by have := HL.out; omega)⟩
    have k0 : (0 : Int) ≤ k := by omega
    have k1 : (k : Int) < n := by omega
    have HX := Lib.hid hx
    clear hx
    have HG : Hid (overB e = false) := Lib.hid (HN.out e (List.mem_of_getElem? HX.out))
    have R15 := Lib.hid (Sle.range0 en HX.out 8 [.int .i64 e.o, .int .u8 (e.ad.a.toNat : Int), .int .u8 (e.ad.b.toNat : Int), .int .u8 (e.ad.c.toNat : Int), .int .u8 (e.ad.d.toNat : Int), .int .i64 e.p, .int .i64 e.s, .bool e.d] rfl)
    go_wp2_with (first | ((with_reducible show wpList _ _ _ (⟨some 15, _, _, _, _, _⟩ :: _) _ _); refine wpList_load_rng 51 (.tmp 14) rfl (by kernel_rfl) _ _ rfl _ R15.out _ Try.underlying51 rfl (by kernel_rfl) ?_))
    try clear R15
    with_reducible refine (over_any e _).mono ?_
    rintro e w1 ⟨rfl, b1⟩
    replace en := en.below b1
    replace bel := bel.trans (b1.mono bel.size)
    clear b1
    rw [HG.out]
    go_wp2_with fail
    go_roundg (n - (k + 1))
    case measure => have := HGK_.out; omega
    case rel => exact ⟨k + 1, rfl, by omega, by go_num, en, bel⟩
set_option linter.unusedVariables false in
set_option linter.unusedSimpArgs false in
set_option maxRecDepth 100000 in
set_option maxHeartbeats 16000000 in
theorem idxo_some {n c gE oE : Nat} {l : List Cn} (w : World)  (en : Sle cnE 8 w (some ⟨gE, oE, none⟩) n c l) (hn : n ≤ 1000) {i : Nat} {x : Cn} (hx : l[i]? = some x) (hg : overB x = true) (hN : ∀ j e, j < i → l[j]? = some e → overB e = false) : Calls Try.prog 19 #[.slice (some ⟨gE, oE, none⟩) n c, .func (.func 24) #[] #[]] w fun e w' => e = .returned (.int .i64 (i : Int)) ∧ Below w.heap.size w w' := by
  have HL := Lib.hid en.1
  have hn0 : (n : Int) ≤ 1000 := by omega
  have HIN : Hid (i < n) := Lib.hid (by have := (List.getElem?_eq_some_iff.1 hx).1; have h_ := en.1; omega)
  have HN := Lib.hid hN
  have HXI := Lib.hid hx
  have HGI := Lib.hid hg
  clear hN hx hg
  have bel := Below.refl w.heap.size w
  go_enter Try.func19, Try.ntmps19
  go_wp2_with fail
  go_loopg [8] (n) (fun gk s8 wr => ∃ k : Nat, gk = n - k ∧ k ≤ i ∧ s8 = .int .i64 (k : Int) ∧ Sle cnE 8 wr (some ⟨gE, oE, none⟩) (n) (c) (l) ∧ Below w.heap.size w wr)
  case atStart => exact ⟨0, Nat.sub_zero _, Nat.zero_le _, rfl, en, bel⟩
  case round =>
    clear en bel
    obtain ⟨k, HGK, hkn, rfl, en, bel⟩ := hrel
    have HGK_ := Lib.hid HGK
    clear HGK
    by_cases h : k < n
    rotate_left
    · exfalso
      have := HIN.out
      omega
    obtain ⟨e, hx⟩ : ∃ e, l[k]? = some e := ⟨_, List.getElem?_eq_getElem (by have := HL.out; omega)⟩
    have k0 : (0 : Int) ≤ k := by omega
    have k1 : (k : Int) < n := by omega
    have HX := Lib.hid hx
    clear hx
    by_cases h2 : k < i
    rotate_left
    · obtain rfl : k = i := by omega
      obtain rfl : e = x := Option.some.inj (HX.out.symm.trans HXI.out)
      have HG := HGI
      have R15 := Lib.hid (Sle.range0 en HX.out 8 [.int .i64 e.o, .int .u8 (e.ad.a.toNat : Int), .int .u8 (e.ad.b.toNat : Int), .int .u8 (e.ad.c.toNat : Int), .int .u8 (e.ad.d.toNat : Int), .int .i64 e.p, .int .i64 e.s, .bool e.d] rfl)
      go_wp2_with (first | ((with_reducible show wpList _ _ _ (⟨some 15, _, _, _, _, _⟩ :: _) _ _); refine wpList_load_rng 51 (.tmp 14) rfl (by kernel_rfl) _ _ rfl _ R15.out _ Try.underlying51 rfl (by kernel_rfl) ?_))
      try clear R15
      with_reducible refine (over_any e _).mono ?_
      rintro e w1 ⟨rfl, b1⟩
      replace en := en.below b1
      replace bel := bel.trans (b1.mono bel.size)
      clear b1
      rw [HG.out]
      go_wp2_with fail
      go_ret
      exact ⟨rfl, bel⟩
    have HG : Hid (overB e = false) := Lib.hid (HN.out k e h2 HX.out)
    have R15 := Lib.hid (Sle.range0 en HX.out 8 [.int .i64 e.o, .int .u8 (e.ad.a.toNat : Int), .int .u8 (e.ad.b.toNat : Int), .int .u8 (e.ad.c.toNat : Int), .int .u8 (e.ad.d.toNat : Int), .int .i64 e.p, .int .i64 e.s, .bool e.d] rfl)
    go_wp2_with (first | ((with_reducible show wpList _ _ _ (⟨some 15, _, _, _, _, _⟩ :: _) _ _); refine wpList_load_rng 51 (.tmp 14) rfl (by kernel_rfl) _ _ rfl _ R15.out _ Try.underlying51 rfl (by kernel_rfl) ?_))
    try clear R15
    with_reducible refine (over_any e _).mono ?_
    rintro e w1 ⟨rfl, b1⟩
    replace en := en.below b1
    replace bel := bel.trans (b1.mono bel.size)
    clear b1
    rw [HG.out]
    go_wp2_with fail
    go_roundg (n - (k + 1))
    case measure => have := HGK_.out; omega
    case rel => exact ⟨k + 1, rfl, by omega, by go_num, en, bel⟩
set_option linter.unusedVariables false in
set_option linter.unusedSimpArgs false in
set_option maxRecDepth 100000 in
set_option maxHeartbeats 16000000 in
theorem idxo_nil {n c : Nat} {A2 : Option Addr} (w : World) (hn : n = 0) : Calls Try.prog 19 #[.slice A2 n c, .func (.func 24) #[] #[]] w fun e w' => e = .returned (.int .i64 (-1)) ∧ w = w' := by
  subst hn
  skip
  go_enter Try.func19, Try.ntmps19
  go_wp2_with fail
  refine wp_loop_rounds 1 ?_
  rw [rounds_succ]
  go_wp2_with fail
  go_ret
  exact ⟨rfl, rfl⟩
theorem idxo_no {n c : Nat} {A2 : Option Addr} {l : List Cn} (w : World)  (en : Sle cnE 8 w A2 n c l) (hn : n ≤ 1000) (hN : l.findIdx (overB) = l.length) : Calls Try.prog 19 #[.slice A2 n c, .func (.func 24) #[] #[]] w fun e w' => e = .returned (.int .i64 (-1)) ∧ Below w.heap.size w w' := by
  rcases Nat.eq_zero_or_pos n with h | h
  · refine (idxo_nil w h).mono ?_
    rintro e w' ⟨rfl, rfl⟩
    exact ⟨rfl, Below.refl _ _⟩
  · obtain ⟨g, o, rfl⟩ := en.place h
    exact idxo_none_pos w  en hn (idx_none hN)
theorem idxo_yes {n c i : Nat} {A2 : Option Addr} {l : List Cn} (w : World)  (en : Sle cnE 8 w A2 n c l) (hn : n ≤ 1000) (hI : l.findIdx (overB) = i) (hi : i < l.length) : Calls Try.prog 19 #[.slice A2 n c, .func (.func 24) #[] #[]] w fun e w' => e = .returned (.int .i64 (i : Int)) ∧ Below w.heap.size w w' := by
  obtain ⟨g, o, rfl⟩ := en.place (by have := en.1; omega)
  obtain ⟨x, h1, h2, h3⟩ := idx_some hI hi
  exact idxo_some w  en hn h1 h2 h3
set_option linter.unusedVariables false in
set_option linter.unusedSimpArgs false in
set_option maxRecDepth 100000 in
set_option maxHeartbeats 16000000 in
theorem find_no {gt n c : Nat} {rm : Int} {l : List Cn} {A : Option Addr} {o p : Int} {ad : Ad4} (w : World) (htb : w.heap[gt]? = some (.cells #[.int .i64 rm, .slice A n c] 45 (0, 0))) (en : Sle cnE 8 w A n c l) (h32 : n ≤ 1000) (hN : l.findIdx (isB o ad p) = l.length) : Calls Try.prog 16 #[.pointer (some ⟨gt, 0, none⟩), .agg #[.int .i64 o, .int .u8 (ad.a.toNat : Int), .int .u8 (ad.b.toNat : Int), .int .u8 (ad.c.toNat : Int), .int .u8 (ad.d.toNat : Int), .int .i64 p]] w fun e w' => e = .returned (.int .i64 (-1)) ∧ Below w.heap.size w w' := by
  have HN := Lib.hid hN
  clear hN
  have bel := Below.refl w.heap.size w
  go_enter Try.func16, Try.ntmps16
  go_wp2_with (first | ((with_reducible show wpList _ _ _ (⟨some 3, _, _, _, _, _⟩ :: _) _ _); refine wpList_box_n rfl 47 (.tmp 1) rfl #[.int .i64 o, .int .u8 (ad.a.toNat : Int), .int .u8 (ad.b.toNat : Int), .int .u8 (ad.c.toNat : Int), .int .u8 (ad.d.toNat : Int), .int .i64 p] rfl ?_; intro g3 w1 ge lt hh bb; have d_tb_eb := ne_new (hlt htb) ge; have av_en_eb := en.av_new ge; have oeb := Nat.le_trans bel.size ge; replace htb := blk_u htb bb; replace en := en.below bb; replace bel := bel.trans (bb.mono bel.size); have heb := hh; clear hh lt ge bb; have R8 := cell_lit htb 1 _ rfl))
  try clear R8
  with_reducible refine (idxf_no _ heb en h32 HN.out).mono ?_
  rintro e w2 ⟨rfl, b2⟩
  replace htb := blk_u htb b2
  replace heb := blk_u heb b2
  replace en := en.below b2
  replace bel := bel.trans (b2.mono bel.size)
  clear b2
  go_wp2_with fail
  go_ret
  exact ⟨rfl, bel⟩
set_option linter.unusedVariables false in
set_option linter.unusedSimpArgs false in
set_option maxRecDepth 100000 in
set_option maxHeartbeats 16000000 in
theorem find_yes {gt n c : Nat} {rm : Int} {l : List Cn} {A : Option Addr} {i : Nat} {o p : Int} {ad : Ad4} (w : World) (htb : w.heap[gt]? = some (.cells #[.int .i64 rm, .slice A n c] 45 (0, 0))) (en : Sle cnE 8 w A n c l) (h32 : n ≤ 1000) (hN : l.findIdx (isB o ad p) = i) (hi : i < l.length) : Calls Try.prog 16 #[.pointer (some ⟨gt, 0, none⟩), .agg #[.int .i64 o, .int .u8 (ad.a.toNat : Int), .int .u8 (ad.b.toNat : Int), .int .u8 (ad.c.toNat : Int), .int .u8 (ad.d.toNat : Int), .int .i64 p]] w fun e w' => e = .returned (.int .i64 (i : Int)) ∧ Below w.heap.size w w' := by
  have HN := Lib.hid hN
  have HI := Lib.hid hi
  clear hN hi
  have bel := Below.refl w.heap.size w
  go_enter Try.func16, Try.ntmps16
  go_wp2_with (first | ((with_reducible show wpList _ _ _ (⟨some 3, _, _, _, _, _⟩ :: _) _ _); refine wpList_box_n rfl 47 (.tmp 1) rfl #[.int .i64 o, .int .u8 (ad.a.toNat : Int), .int .u8 (ad.b.toNat : Int), .int .u8 (ad.c.toNat : Int), .int .u8 (ad.d.toNat : Int), .int .i64 p] rfl ?_; intro g3 w1 ge lt hh bb; have d_tb_eb := ne_new (hlt htb) ge; have av_en_eb := en.av_new ge; have oeb := Nat.le_trans bel.size ge; replace htb := blk_u htb bb; replace en := en.below bb; replace bel := bel.trans (bb.mono bel.size); have heb := hh; clear hh lt ge bb; have R8 := cell_lit htb 1 _ rfl))
  try clear R8
  with_reducible refine (idxf_yes _ heb en h32 HN.out HI.out).mono ?_
  rintro e w2 ⟨rfl, b2⟩
  replace htb := blk_u htb b2
  replace heb := blk_u heb b2
  replace en := en.below b2
  replace bel := bel.trans (b2.mono bel.size)
  clear b2
  go_wp2_with fail
  go_ret
  exact ⟨rfl, bel⟩
set_option linter.unusedVariables false in
set_option linter.unusedSimpArgs false in
set_option maxRecDepth 100000 in
set_option maxHeartbeats 16000000 in
theorem least_no {gt n c : Nat} {rm : Int} {l : List Cn} {A : Option Addr} (w : World) (htb : w.heap[gt]? = some (.cells #[.int .i64 rm, .slice A n c] 45 (0, 0))) (en : Sle cnE 8 w A n c l) (h32 : n ≤ 1000) (hN : l.findIdx overB = l.length) : Calls Try.prog 22 #[.pointer (some ⟨gt, 0, none⟩)] w fun e w' => e = .returned (.int .i64 0) ∧ Below w.heap.size w w' := by
  have HN := Lib.hid hN
  clear hN
  have bel := Below.refl w.heap.size w
  go_enter Try.func22, Try.ntmps22
  have R6 := cell_lit htb 1 _ rfl
  go_wp2_with fail
  clear R6
  with_reducible refine (idxo_no _ en h32 HN.out).mono ?_
  rintro e w1 ⟨rfl, b1⟩
  replace htb := blk_u htb b1
  replace en := en.below b1
  replace bel := bel.trans (b1.mono bel.size)
  clear b1
  go_wp2_with (first | ((with_reducible show wpList _ _ _ (⟨some 8, _, _, _, _, _⟩ :: _) _ _); refine wpList_max rfl (.const (.int .i64 0)) (.tmp 7) 3 3 rfl .i64 0 ((-1)) (0) rfl rfl (by split <;> omega) ?_))
  go_ret
  exact ⟨rfl, bel⟩
set_option linter.unusedVariables false in
set_option linter.unusedSimpArgs false in
set_option maxRecDepth 100000 in
set_option maxHeartbeats 16000000 in
theorem least_yes {gt n c : Nat} {rm : Int} {l : List Cn} {A : Option Addr} {i : Nat} (w : World) (htb : w.heap[gt]? = some (.cells #[.int .i64 rm, .slice A n c] 45 (0, 0))) (en : Sle cnE 8 w A n c l) (h32 : n ≤ 1000) (hN : l.findIdx overB = i) (hi : i < l.length) : Calls Try.prog 22 #[.pointer (some ⟨gt, 0, none⟩)] w fun e w' => e = .returned (.int .i64 (i : Int)) ∧ Below w.heap.size w w' := by
  have HN := Lib.hid hN
  have HI := Lib.hid hi
  clear hN hi
  have bel := Below.refl w.heap.size w
  go_enter Try.func22, Try.ntmps22
  have R6 := cell_lit htb 1 _ rfl
  go_wp2_with fail
  clear R6
  with_reducible refine (idxo_yes _ en h32 HN.out HI.out).mono ?_
  rintro e w1 ⟨rfl, b1⟩
  replace htb := blk_u htb b1
  replace en := en.below b1
  replace bel := bel.trans (b1.mono bel.size)
  clear b1
  go_wp2_with (first | ((with_reducible show wpList _ _ _ (⟨some 8, _, _, _, _, _⟩ :: _) _ _); refine wpList_max rfl (.const (.int .i64 0)) (.tmp 7) 3 3 rfl .i64 0 (i) ((i : Int)) rfl rfl (by split <;> omega) ?_))
  go_ret
  exact ⟨rfl, bel⟩
theorem least_any {gt n c : Nat} {rm : Int} {l : List Cn} {A : Option Addr} {i : Nat} (w : World) (htb : w.heap[gt]? = some (.cells #[.int .i64 rm, .slice A n c] 45 (0, 0))) (en : Sle cnE 8 w A n c l) (h32 : n ≤ 1000) (hI : least l = i) : Calls Try.prog 22 #[.pointer (some ⟨gt, 0, none⟩)] w fun e w' => e = .returned (.int .i64 (i : Int)) ∧ Below w.heap.size w w' := by
  unfold least at hI
  by_cases h : l.findIdx overB < l.length
  · rw [if_pos h] at hI; exact least_yes w htb en h32 hI (hI ▸ h)
  · rw [if_neg h] at hI; subst hI; exact least_no w htb en h32 (Nat.le_antisymm List.findIdx_le_length (Nat.le_of_not_lt h))
end Go.Proofs.Ytjfkeocdojjpgaa
