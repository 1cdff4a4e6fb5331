/- mayTake; liveOf and bestFor over the pool's own row. -/
import Derived.Test.YthcjepafcemmnaaPl3
namespace Go.Proofs.Ythcjepafcemmnaa
open Go.RowKit

theorem hm_drew {lo mb : Nat} {w : World} {hs : List (Mc6 × Ad4)} (h : Hm lo mb w hs) : Hm lo mb w.drew hs := h
set_option linter.unusedVariables false in
set_option linter.unusedSimpArgs false in
set_option maxRecDepth 100000 in
set_option maxHeartbeats 16000000 in
theorem may_home {lo gt mb n c : Nat} {now : Int} {l : List Sd} {hs : List (Mc6 × Ad4)} {A : Option Addr} {hm : Ad4} {b : Bool} {r : Int} (m : Mc6) (a : Ad4) (w : World) (htb : w.heap[gt]? = some (.cells #[.int .i64 now, .map (some mb), .slice A n c] 58 (0, 0))) (en : Sle slE 15 w A n c l) (h32 : n ≤ 1000) (av_en_tb : Av A n gt) (hM : Hm lo mb w hs) (hh : homeF hs m = some hm) (he : a.eqB hm = b) (hr : (if b = true then 0 else 8) = r) : Calls Try.prog 31 #[.pointer (some ⟨gt, 0, none⟩), .agg #[.int .u8 (m.a.toNat : Int), .int .u8 (m.b.toNat : Int), .int .u8 (m.c.toNat : Int), .int .u8 (m.d.toNat : Int), .int .u8 (m.e.toNat : Int), .int .u8 (m.f.toNat : Int)], .agg #[.int .u8 (a.a.toNat : Int), .int .u8 (a.b.toNat : Int), .int .u8 (a.c.toNat : Int), .int .u8 (a.d.toNat : Int)]] w fun e w' => e = .returned (.int .i64 r) ∧ Below w.heap.size w w' := by
  have HR := Lib.hid hr
  clear hr
  have HH := Lib.hid hh
  clear hh
  have HE := Lib.hid he
  have q24 : ∀ W, (binOp .neq 28 (.agg #[.int .u8 (a.a.toNat : Int), .int .u8 (a.b.toNat : Int), .int .u8 (a.c.toNat : Int), .int .u8 (a.d.toNat : Int)]) (.agg #[.int .u8 (hm.a.toNat : Int), .int .u8 (hm.b.toNat : Int), .int .u8 (hm.c.toNat : Int), .int .u8 (hm.d.toNat : Int)])).run Try.prog W = .ok (.bool (!b)) W := fun W => by have h_ := nea_b a hm W; rw [HE.out] at h_; exact h_
  clear he
  have bel := Below.refl w.heap.size w
  go_enter Try.func31, Try.ntmps31
  go_wp2_with (first | ((with_reducible show wpList _ _ _ (⟨some 4, _, _, _, _, _⟩ :: _) _ _); refine wpList_box_n rfl 31 (.tmp 1) rfl #[.int .u8 (m.a.toNat : Int), .int .u8 (m.b.toNat : Int), .int .u8 (m.c.toNat : Int), .int .u8 (m.d.toNat : Int), .int .u8 (m.e.toNat : Int), .int .u8 (m.f.toNat : Int)] rfl ?_; intro g4 w1 ge lt hh bb; have d_tb_mB := ne_new (hlt htb) ge; have av_en_mB := en.av_new ge; have omB := Nat.le_trans bel.size ge; replace htb := blk_u htb bb; replace en := en.below bb; replace hM := hM.below bb; replace bel := bel.trans (bb.mono bel.size); have hmB := hh; clear hh lt ge bb) | ((with_reducible show wpList _ _ _ (⟨some 5, _, _, _, _, _⟩ :: _) _ _); refine wpList_box_n rfl 28 (.tmp 2) rfl #[.int .u8 (a.a.toNat : Int), .int .u8 (a.b.toNat : Int), .int .u8 (a.c.toNat : Int), .int .u8 (a.d.toNat : Int)] rfl ?_; intro g5 w2 ge lt hh bb; have d_tb_aB := ne_new (hlt htb) ge; have d_mB_aB := ne_new (hlt hmB) ge; have av_en_aB := en.av_new ge; have oaB := Nat.le_trans bel.size ge; replace htb := blk_u htb bb; replace hmB := blk_u hmB bb; replace en := en.below bb; replace hM := hM.below bb; replace bel := bel.trans (bb.mono bel.size); have haB := hh; clear hh lt ge bb))
  replace bel := bel.drew
  replace htb : w2.drew.heap[gt]? = _ := htb
  replace hmB : w2.drew.heap[g4]? = _ := hmB
  replace haB : w2.drew.heap[g5]? = _ := haB
  replace en := en.drew
  replace hM := hm_drew hM
  refine wp_region_held_drew (S := fun W => W.heap[gt]? = some (.cells #[.int .i64 now, .map (some mb), .slice A n c] 58 (0, 0)) ∧ W.heap[g4]? = some (.cells #[.int .u8 (m.a.toNat : Int), .int .u8 (m.b.toNat : Int), .int .u8 (m.c.toNat : Int), .int .u8 (m.d.toNat : Int), .int .u8 (m.e.toNat : Int), .int .u8 (m.f.toNat : Int)] 31 (0, 0)) ∧ Hm lo mb W hs) (by kernel_rfl) ⟨htb, hmB, hM⟩ (fun hH => ?_)
  generalize w2.drew = w3 at bel htb hmB haB en hM hH ⊢
  refine wpAnyH_take (i := 0) (v := ?_) rfl (by kernel_rfl) (by kernel_rfl) (by kernel_rfl) (fun _ _ _ h => h) (Or.inl ⟨by rfl, ?_⟩) hH ?_
  rotate_left
  · ((intro W hW; clear hW; go_simp) <;> with_reducible rfl)
  simp only [Act.put, List.getElem_toArray, List.getElem_cons_zero, List.setIfInBounds_toArray, List.set_cons_zero, List.set_cons_succ]
  refine wpAnyH_take (i := 1) (v := ?_) rfl (by kernel_rfl) (by kernel_rfl) (by kernel_rfl) (fun _ _ _ h => h) (Or.inl ⟨by rfl, ?_⟩) hH ?_
  rotate_left
  · ((intro W hW; clear hW; go_simp) <;> with_reducible rfl)
  simp only [Act.put, List.getElem_toArray, List.getElem_cons_zero, List.getElem_cons_succ, List.setIfInBounds_toArray, List.set_cons_zero, List.set_cons_succ]
  refine wpAnyH_take (i := 2) (v := ?_) rfl (by kernel_rfl) (by kernel_rfl) (by kernel_rfl) (fun _ _ _ h => h) (Or.inl ⟨by rfl, ?_⟩) hH ?_
  rotate_left
  · ((intro W hW; clear hW; go_simp) <;> with_reducible rfl)
  simp only [Act.put, List.getElem_toArray, List.getElem_cons_zero, List.getElem_cons_succ, List.setIfInBounds_toArray, List.set_cons_zero, List.set_cons_succ]
  refine wpAnyH_take (i := 3) (v := ?_) rfl (by kernel_rfl) (by kernel_rfl) (by kernel_rfl) (fun _ _ _ h => h) (Or.inl ⟨by rfl, ?_⟩) hH ?_
  rotate_left
  · ((intro W hW; have hk := cell_lit (hW.1) 1 _ rfl; clear hW; go_simp) <;> with_reducible rfl)
  simp only [Act.put, List.getElem_toArray, List.getElem_cons_zero, List.getElem_cons_succ, List.setIfInBounds_toArray, List.set_cons_zero, List.set_cons_succ]
  refine wpAnyH_take (i := 4) (v := .agg #[.int .u8 (m.a.toNat : Int), .int .u8 (m.b.toNat : Int), .int .u8 (m.c.toNat : Int), .int .u8 (m.d.toNat : Int), .int .u8 (m.e.toNat : Int), .int .u8 (m.f.toNat : Int)]) rfl (by kernel_rfl) (by kernel_rfl) (by kernel_rfl) (fun _ _ _ h => h) (yieldsIf_load_part (by kernel_rfl) 31 _ rfl g4 0 6 rfl _ 31 (0, 0) (fun W hW => hW.2.1) _ rfl _ Try.underlying31 rfl (by kernel_rfl)) hH ?_
  simp only [Act.put, List.getElem_toArray, List.getElem_cons_zero, List.getElem_cons_succ, List.setIfInBounds_toArray, List.set_cons_zero, List.set_cons_succ]
  refine wpAnyH_take (i := 5) (v := ?_) rfl (by kernel_rfl) (by kernel_rfl) (by kernel_rfl) (fun _ _ _ h => h) (Or.inl ⟨by rfl, ?_⟩) hH ?_
  rotate_left
  · ((intro W hW; have hk := (by have h_ := ((hW.2.2)).look m; rw [HH.out] at h_; exact h_ : (Instr.lookup 55 (.map (some mb)) (.agg #[.int .u8 (m.a.toNat : Int), .int .u8 (m.b.toNat : Int), .int .u8 (m.c.toNat : Int), .int .u8 (m.d.toNat : Int), .int .u8 (m.e.toNat : Int), .int .u8 (m.f.toNat : Int)]) true).run Try.prog W = .ok (.tuple #[.agg #[.int .u8 (hm.a.toNat : Int), .int .u8 (hm.b.toNat : Int), .int .u8 (hm.c.toNat : Int), .int .u8 (hm.d.toNat : Int)], .bool true]) W); clear hW; go_simp) <;> with_reducible rfl)
  simp only [Act.put, List.getElem_toArray, List.getElem_cons_zero, List.getElem_cons_succ, List.setIfInBounds_toArray, List.set_cons_zero, List.set_cons_succ]
  refine wpAnyH_take (i := 6) (v := ?_) rfl (by kernel_rfl) (by kernel_rfl) (by kernel_rfl) (fun _ _ _ h => h) (Or.inl ⟨by rfl, ?_⟩) hH ?_
  rotate_left
  · ((intro W hW; clear hW; go_simp) <;> with_reducible rfl)
  simp only [Act.put, List.getElem_toArray, List.getElem_cons_zero, List.getElem_cons_succ, List.setIfInBounds_toArray, List.set_cons_zero, List.set_cons_succ]
  refine wpAnyH_take (i := 7) (v := ?_) rfl (by kernel_rfl) (by kernel_rfl) (by kernel_rfl) (fun _ _ _ h => h) (Or.inl ⟨by rfl, ?_⟩) hH ?_
  rotate_left
  · ((intro W hW; clear hW; go_simp) <;> with_reducible rfl)
  simp only [Act.put, List.getElem_toArray, List.getElem_cons_zero, List.getElem_cons_succ, List.setIfInBounds_toArray, List.set_cons_zero, List.set_cons_succ]
  refine wpAnyH_take (i := 8) (v := ?_) rfl (by kernel_rfl) (by kernel_rfl) (by kernel_rfl) (fun _ _ _ h => h) (Or.inl ⟨by rfl, ?_⟩) hH ?_
  rotate_left
  · ((intro W hW; clear hW; go_simp) <;> with_reducible rfl)
  simp only [Act.put, List.getElem_toArray, List.getElem_cons_zero, List.getElem_cons_succ, List.setIfInBounds_toArray, List.set_cons_zero, List.set_cons_succ]
  refine wpAnyH_ready (rs := [9]) (by kernel_rfl) (by simp) ?_
  refine AllReadyH.cons (o := _) rfl (fun K hK => ?_) AllReadyH.nil
  simp only [List.getElem_toArray, List.getElem_cons_zero, List.getElem_cons_succ]
  rw [if_pos (by rfl)]
  refine wp_new_a 28 rfl #[.int .u8 0, .int .u8 0, .int .u8 0, .int .u8 0] (by kernel_rfl) ?_
  intro g7 w4 ge hh bb
  have d_tb_hB := ne_new (hlt htb) ge
  have d_mB_hB := ne_new (hlt hmB) ge
  have d_aB_hB := ne_new (hlt haB) ge
  have av_en_hB := en.av_new ge
  have ohB := Nat.le_trans bel.size ge
  replace htb := blk_u htb bb
  replace hmB := blk_u hmB bb
  replace haB := blk_u haB bb
  replace en := en.below bb
  replace hM := hM.below bb
  replace bel := bel.trans (bb.mono bel.size)
  have hhB := hh
  clear hh ge bb
  refine hK.out _ _ ⟨htb, hmB, hM⟩ (fun hH5 => ?_)
  clear hK K
  simp only [Act.put, List.setIfInBounds_toArray, List.set_cons_zero, List.set_cons_succ]
  refine wpAnyH_ready (rs := [10]) (by kernel_rfl) (by simp) ?_
  refine AllReadyH.cons (o := _) rfl (fun K hK => ?_) AllReadyH.nil
  simp only [List.getElem_toArray, List.getElem_cons_zero, List.getElem_cons_succ]
  rw [if_pos (by rfl)]
  refine wp_store_blk 28 (.tmp 7) (.tmp 19) rfl g7 rfl _ rfl _ 28 hhB (by rfl) (by kernel_rfl) (by kernel_rfl) ?_
  intro w6 hq gr
  replace en := en.away av_en_hB gr
  replace htb := blk_a htb gr d_tb_hB
  replace hmB := blk_a hmB gr d_mB_hB
  replace haB := blk_a haB gr d_aB_hB
  replace hM := hM.grown gr hhB
  replace bel := below_grown bel gr ohB bel.size
  clear hhB
  have hhB := hq
  clear hq gr
  refine hK.out _ _ ⟨htb, hmB, hM⟩ (fun hH7 => ?_)
  clear hK K
  simp only [Act.put]
  refine wpAnyH_take (i := 11) (v := ?_) rfl (by kernel_rfl) (by kernel_rfl) (by kernel_rfl) (fun _ _ _ h => h) (Or.inl ⟨by rfl, ?_⟩) hH7 ?_
  rotate_left
  · ((intro W hW; clear hW; go_simp) <;> with_reducible rfl)
  simp only [Act.put, List.getElem_toArray, List.getElem_cons_zero, List.getElem_cons_succ, List.setIfInBounds_toArray, List.set_cons_zero, List.set_cons_succ]
  refine wpAnyH_done (by kernel_rfl) ?_ _
  rcases b with _ | _
  · have q24_ := q24
    clear q24
    have q24 : ∀ W, (binOp .neq 28 (.agg #[.int .u8 (a.a.toNat : Int), .int .u8 (a.b.toNat : Int), .int .u8 (a.c.toNat : Int), .int .u8 (a.d.toNat : Int)]) (.agg #[.int .u8 (hm.a.toNat : Int), .int .u8 (hm.b.toNat : Int), .int .u8 (hm.c.toNat : Int), .int .u8 (hm.d.toNat : Int)])).run Try.prog W = .ok (.bool true) W := q24_
    clear q24_
    have R22 := Lib.hid (range_lit haB 0 4 [.int .u8 (a.a.toNat : Int), .int .u8 (a.b.toNat : Int), .int .u8 (a.c.toNat : Int), .int .u8 (a.d.toNat : Int)] rfl)
    go_wp2_with (first | ((with_reducible show wpList _ _ _ (⟨some 22, _, _, _, _, _⟩ :: _) _ _); refine wpList_load_rng 28 (.tmp 5) rfl (by kernel_rfl) _ _ rfl _ R22.out _ Try.underlying28 rfl (by kernel_rfl) ?_; have R23 := Lib.hid (range_lit hhB 0 4 [.int .u8 (hm.a.toNat : Int), .int .u8 (hm.b.toNat : Int), .int .u8 (hm.c.toNat : Int), .int .u8 (hm.d.toNat : Int)] rfl)) | ((with_reducible show wpList _ _ _ (⟨some 23, _, _, _, _, _⟩ :: _) _ _); refine wpList_load_rng 28 (.tmp 7) rfl (by kernel_rfl) _ _ rfl _ R23.out _ Try.underlying28 rfl (by kernel_rfl) ?_))
    try clear R22
    try clear R23
    go_ret
    exact ⟨by rw [← HR.out]; rfl, bel⟩
  have q24_ := q24
  clear q24
  have q24 : ∀ W, (binOp .neq 28 (.agg #[.int .u8 (a.a.toNat : Int), .int .u8 (a.b.toNat : Int), .int .u8 (a.c.toNat : Int), .int .u8 (a.d.toNat : Int)]) (.agg #[.int .u8 (hm.a.toNat : Int), .int .u8 (hm.b.toNat : Int), .int .u8 (hm.c.toNat : Int), .int .u8 (hm.d.toNat : Int)])).run Try.prog W = .ok (.bool false) W := q24_
  clear q24_
  have R22 := Lib.hid (range_lit haB 0 4 [.int .u8 (a.a.toNat : Int), .int .u8 (a.b.toNat : Int), .int .u8 (a.c.toNat : Int), .int .u8 (a.d.toNat : Int)] rfl)
  go_wp2_with (first | ((with_reducible show wpList _ _ _ (⟨some 22, _, _, _, _, _⟩ :: _) _ _); refine wpList_load_rng 28 (.tmp 5) rfl (by kernel_rfl) _ _ rfl _ R22.out _ Try.underlying28 rfl (by kernel_rfl) ?_; have R23 := Lib.hid (range_lit hhB 0 4 [.int .u8 (hm.a.toNat : Int), .int .u8 (hm.b.toNat : Int), .int .u8 (hm.c.toNat : Int), .int .u8 (hm.d.toNat : Int)] rfl)) | ((with_reducible show wpList _ _ _ (⟨some 23, _, _, _, _, _⟩ :: _) _ _); refine wpList_load_rng 28 (.tmp 7) rfl (by kernel_rfl) _ _ rfl _ R23.out _ Try.underlying28 rfl (by kernel_rfl) ?_))
  try clear R22
  try clear R23
  go_ret
  exact ⟨by rw [← HR.out]; rfl, bel⟩
set_option linter.unusedVariables false in
set_option linter.unusedSimpArgs false in
set_option maxRecDepth 100000 in
set_option maxHeartbeats 16000000 in
theorem may_no {lo gt mb n c : Nat} {now : Int} {l : List Sd} {hs : List (Mc6 × Ad4)} {A : Option Addr} (m : Mc6) (a : Ad4) (w : World) (htb : w.heap[gt]? = some (.cells #[.int .i64 now, .map (some mb), .slice A n c] 58 (0, 0))) (en : Sle slE 15 w A n c l) (h32 : n ≤ 1000) (av_en_tb : Av A n gt) (hM : Hm lo mb w hs) (hS : SSrt l) (hh : homeF hs m = none) (hf : sfhas l a.num = false) : Calls Try.prog 31 #[.pointer (some ⟨gt, 0, none⟩), .agg #[.int .u8 (m.a.toNat : Int), .int .u8 (m.b.toNat : Int), .int .u8 (m.c.toNat : Int), .int .u8 (m.d.toNat : Int), .int .u8 (m.e.toNat : Int), .int .u8 (m.f.toNat : Int)], .agg #[.int .u8 (a.a.toNat : Int), .int .u8 (a.b.toNat : Int), .int .u8 (a.c.toNat : Int), .int .u8 (a.d.toNat : Int)]] w fun e w' => e = .returned (.int .i64 6) ∧ Below w.heap.size w w' := by
  have HH := Lib.hid hh
  clear hh
  have HS := Lib.hid hS
  clear hS
  have HF := Lib.hid hf
  clear hf
  obtain ⟨p, hp⟩ : ∃ p, sfpos l a.num = p := ⟨_, rfl⟩
  have HP := Lib.hid hp
  clear hp
  have bel := Below.refl w.heap.size w
  go_enter Try.func31, Try.ntmps31
  go_wp2_with (first | ((with_reducible show wpList _ _ _ (⟨some 4, _, _, _, _, _⟩ :: _) _ _); refine wpList_box_n rfl 31 (.tmp 1) rfl #[.int .u8 (m.a.toNat : Int), .int .u8 (m.b.toNat : Int), .int .u8 (m.c.toNat : Int), .int .u8 (m.d.toNat : Int), .int .u8 (m.e.toNat : Int), .int .u8 (m.f.toNat : Int)] rfl ?_; intro g4 w1 ge lt hh bb; have d_tb_mB := ne_new (hlt htb) ge; have av_en_mB := en.av_new ge; have omB := Nat.le_trans bel.size ge; replace htb := blk_u htb bb; replace en := en.below bb; replace hM := hM.below bb; replace bel := bel.trans (bb.mono bel.size); have hmB := hh; clear hh lt ge bb) | ((with_reducible show wpList _ _ _ (⟨some 5, _, _, _, _, _⟩ :: _) _ _); refine wpList_box_n rfl 28 (.tmp 2) rfl #[.int .u8 (a.a.toNat : Int), .int .u8 (a.b.toNat : Int), .int .u8 (a.c.toNat : Int), .int .u8 (a.d.toNat : Int)] rfl ?_; intro g5 w2 ge lt hh bb; have d_tb_aB := ne_new (hlt htb) ge; have d_mB_aB := ne_new (hlt hmB) ge; have av_en_aB := en.av_new ge; have oaB := Nat.le_trans bel.size ge; replace htb := blk_u htb bb; replace hmB := blk_u hmB bb; replace en := en.below bb; replace hM := hM.below bb; replace bel := bel.trans (bb.mono bel.size); have haB := hh; clear hh lt ge bb))
  replace bel := bel.drew
  replace htb : w2.drew.heap[gt]? = _ := htb
  replace hmB : w2.drew.heap[g4]? = _ := hmB
  replace haB : w2.drew.heap[g5]? = _ := haB
  replace en := en.drew
  replace hM := hm_drew hM
  refine wp_region_held_drew (S := fun W => W.heap[gt]? = some (.cells #[.int .i64 now, .map (some mb), .slice A n c] 58 (0, 0)) ∧ W.heap[g4]? = some (.cells #[.int .u8 (m.a.toNat : Int), .int .u8 (m.b.toNat : Int), .int .u8 (m.c.toNat : Int), .int .u8 (m.d.toNat : Int), .int .u8 (m.e.toNat : Int), .int .u8 (m.f.toNat : Int)] 31 (0, 0)) ∧ Hm lo mb W hs) (by kernel_rfl) ⟨htb, hmB, hM⟩ (fun hH => ?_)
  generalize w2.drew = w3 at bel htb hmB haB en hM hH ⊢
  refine wpAnyH_take (i := 0) (v := ?_) rfl (by kernel_rfl) (by kernel_rfl) (by kernel_rfl) (fun _ _ _ h => h) (Or.inl ⟨by rfl, ?_⟩) hH ?_
  rotate_left
  · ((intro W hW; clear hW; go_simp) <;> with_reducible rfl)
  simp only [Act.put, List.getElem_toArray, List.getElem_cons_zero, List.setIfInBounds_toArray, List.set_cons_zero, List.set_cons_succ]
  refine wpAnyH_take (i := 1) (v := ?_) rfl (by kernel_rfl) (by kernel_rfl) (by kernel_rfl) (fun _ _ _ h => h) (Or.inl ⟨by rfl, ?_⟩) hH ?_
  rotate_left
  · ((intro W hW; clear hW; go_simp) <;> with_reducible rfl)
  simp only [Act.put, List.getElem_toArray, List.getElem_cons_zero, List.getElem_cons_succ, List.setIfInBounds_toArray, List.set_cons_zero, List.set_cons_succ]
  refine wpAnyH_take (i := 2) (v := ?_) rfl (by kernel_rfl) (by kernel_rfl) (by kernel_rfl) (fun _ _ _ h => h) (Or.inl ⟨by rfl, ?_⟩) hH ?_
  rotate_left
  · ((intro W hW; clear hW; go_simp) <;> with_reducible rfl)
  simp only [Act.put, List.getElem_toArray, List.getElem_cons_zero, List.getElem_cons_succ, List.setIfInBounds_toArray, List.set_cons_zero, List.set_cons_succ]
  refine wpAnyH_take (i := 3) (v := ?_) rfl (by kernel_rfl) (by kernel_rfl) (by kernel_rfl) (fun _ _ _ h => h) (Or.inl ⟨by rfl, ?_⟩) hH ?_
  rotate_left
  · ((intro W hW; have hk := cell_lit (hW.1) 1 _ rfl; clear hW; go_simp) <;> with_reducible rfl)
  simp only [Act.put, List.getElem_toArray, List.getElem_cons_zero, List.getElem_cons_succ, List.setIfInBounds_toArray, List.set_cons_zero, List.set_cons_succ]
  refine wpAnyH_take (i := 4) (v := .agg #[.int .u8 (m.a.toNat : Int), .int .u8 (m.b.toNat : Int), .int .u8 (m.c.toNat : Int), .int .u8 (m.d.toNat : Int), .int .u8 (m.e.toNat : Int), .int .u8 (m.f.toNat : Int)]) rfl (by kernel_rfl) (by kernel_rfl) (by kernel_rfl) (fun _ _ _ h => h) (yieldsIf_load_part (by kernel_rfl) 31 _ rfl g4 0 6 rfl _ 31 (0, 0) (fun W hW => hW.2.1) _ rfl _ Try.underlying31 rfl (by kernel_rfl)) hH ?_
  simp only [Act.put, List.getElem_toArray, List.getElem_cons_zero, List.getElem_cons_succ, List.setIfInBounds_toArray, List.set_cons_zero, List.set_cons_succ]
  refine wpAnyH_take (i := 5) (v := ?_) rfl (by kernel_rfl) (by kernel_rfl) (by kernel_rfl) (fun _ _ _ h => h) (Or.inl ⟨by rfl, ?_⟩) hH ?_
  rotate_left
  · ((intro W hW; have hk := (by have h_ := ((hW.2.2)).look m; rw [HH.out] at h_; exact h_ : (Instr.lookup 55 (.map (some mb)) (.agg #[.int .u8 (m.a.toNat : Int), .int .u8 (m.b.toNat : Int), .int .u8 (m.c.toNat : Int), .int .u8 (m.d.toNat : Int), .int .u8 (m.e.toNat : Int), .int .u8 (m.f.toNat : Int)]) true).run Try.prog W = .ok (.tuple #[.agg #[.int .u8 0, .int .u8 0, .int .u8 0, .int .u8 0], .bool false]) W); clear hW; go_simp) <;> with_reducible rfl)
  simp only [Act.put, List.getElem_toArray, List.getElem_cons_zero, List.getElem_cons_succ, List.setIfInBounds_toArray, List.set_cons_zero, List.set_cons_succ]
  refine wpAnyH_take (i := 6) (v := ?_) rfl (by kernel_rfl) (by kernel_rfl) (by kernel_rfl) (fun _ _ _ h => h) (Or.inl ⟨by rfl, ?_⟩) hH ?_
  rotate_left
  · ((intro W hW; clear hW; go_simp) <;> with_reducible rfl)
  simp only [Act.put, List.getElem_toArray, List.getElem_cons_zero, List.getElem_cons_succ, List.setIfInBounds_toArray, List.set_cons_zero, List.set_cons_succ]
  refine wpAnyH_take (i := 7) (v := ?_) rfl (by kernel_rfl) (by kernel_rfl) (by kernel_rfl) (fun _ _ _ h => h) (Or.inl ⟨by rfl, ?_⟩) hH ?_
  rotate_left
  · ((intro W hW; clear hW; go_simp) <;> with_reducible rfl)
  simp only [Act.put, List.getElem_toArray, List.getElem_cons_zero, List.getElem_cons_succ, List.setIfInBounds_toArray, List.set_cons_zero, List.set_cons_succ]
  refine wpAnyH_take (i := 8) (v := ?_) rfl (by kernel_rfl) (by kernel_rfl) (by kernel_rfl) (fun _ _ _ h => h) (Or.inl ⟨by rfl, ?_⟩) hH ?_
  rotate_left
  · ((intro W hW; clear hW; go_simp) <;> with_reducible rfl)
  simp only [Act.put, List.getElem_toArray, List.getElem_cons_zero, List.getElem_cons_succ, List.setIfInBounds_toArray, List.set_cons_zero, List.set_cons_succ]
  refine wpAnyH_ready (rs := [9]) (by kernel_rfl) (by simp) ?_
  refine AllReadyH.cons (o := _) rfl (fun K hK => ?_) AllReadyH.nil
  simp only [List.getElem_toArray, List.getElem_cons_zero, List.getElem_cons_succ]
  rw [if_pos (by rfl)]
  refine wp_new_a 28 rfl #[.int .u8 0, .int .u8 0, .int .u8 0, .int .u8 0] (by kernel_rfl) ?_
  intro g7 w4 ge hh bb
  have d_tb_hB := ne_new (hlt htb) ge
  have d_mB_hB := ne_new (hlt hmB) ge
  have d_aB_hB := ne_new (hlt haB) ge
  have av_en_hB := en.av_new ge
  have ohB := Nat.le_trans bel.size ge
  replace htb := blk_u htb bb
  replace hmB := blk_u hmB bb
  replace haB := blk_u haB bb
  replace en := en.below bb
  replace hM := hM.below bb
  replace bel := bel.trans (bb.mono bel.size)
  have hhB := hh
  clear hh ge bb
  refine hK.out _ _ ⟨htb, hmB, hM⟩ (fun hH5 => ?_)
  clear hK K
  simp only [Act.put, List.setIfInBounds_toArray, List.set_cons_zero, List.set_cons_succ]
  refine wpAnyH_ready (rs := [10]) (by kernel_rfl) (by simp) ?_
  refine AllReadyH.cons (o := _) rfl (fun K hK => ?_) AllReadyH.nil
  simp only [List.getElem_toArray, List.getElem_cons_zero, List.getElem_cons_succ]
  rw [if_pos (by rfl)]
  refine wp_store_blk 28 (.tmp 7) (.tmp 19) rfl g7 rfl _ rfl _ 28 hhB (by rfl) (by kernel_rfl) (by kernel_rfl) ?_
  intro w6 hq gr
  replace en := en.away av_en_hB gr
  replace htb := blk_a htb gr d_tb_hB
  replace hmB := blk_a hmB gr d_mB_hB
  replace haB := blk_a haB gr d_aB_hB
  replace hM := hM.grown gr hhB
  replace bel := below_grown bel gr ohB bel.size
  clear hhB
  have hhB := hq
  clear hq gr
  refine hK.out _ _ ⟨htb, hmB, hM⟩ (fun hH7 => ?_)
  clear hK K
  simp only [Act.put]
  refine wpAnyH_take (i := 11) (v := ?_) rfl (by kernel_rfl) (by kernel_rfl) (by kernel_rfl) (fun _ _ _ h => h) (Or.inl ⟨by rfl, ?_⟩) hH7 ?_
  rotate_left
  · ((intro W hW; clear hW; go_simp) <;> with_reducible rfl)
  simp only [Act.put, List.getElem_toArray, List.getElem_cons_zero, List.getElem_cons_succ, List.setIfInBounds_toArray, List.set_cons_zero, List.set_cons_succ]
  refine wpAnyH_done (by kernel_rfl) ?_ _
  have R27 := Lib.hid (range_lit haB 0 4 [.int .u8 (a.a.toNat : Int), .int .u8 (a.b.toNat : Int), .int .u8 (a.c.toNat : Int), .int .u8 (a.d.toNat : Int)] rfl)
  go_wp2_with (first | ((with_reducible show wpList _ _ _ (⟨some 27, _, _, _, _, _⟩ :: _) _ _); refine wpList_load_rng 28 (.tmp 5) rfl (by kernel_rfl) _ _ rfl _ R27.out _ Try.underlying28 rfl (by kernel_rfl) ?_))
  try clear R27
  with_reducible refine (pfind_is a _ htb en HS.out h32 HP.out HF.out).mono ?_
  rintro e w8 ⟨rfl, b8⟩
  replace htb := blk_u htb b8
  replace hmB := blk_u hmB b8
  replace haB := blk_u haB b8
  replace hhB := blk_u hhB b8
  replace en := en.below b8
  replace hM := hM.below b8
  replace bel := bel.trans (b8.mono bel.size)
  clear b8
  have R37 := cell_lit htb 2 _ rfl
  go_wp2_with fail
  clear R37
  go_ret
  exact ⟨rfl, bel⟩
set_option linter.unusedVariables false in
set_option linter.unusedSimpArgs false in
set_option maxRecDepth 100000 in
set_option maxHeartbeats 16000000 in
theorem may_at {lo gt mb n c : Nat} {now : Int} {l : List Sd} {hs : List (Mc6 × Ad4)} {gE : Nat} {i : Nat} {x : Sd} {r : Int} (m : Mc6) (a : Ad4) (w : World) (htb : w.heap[gt]? = some (.cells #[.int .i64 now, .map (some mb), .slice (some ⟨gE, 0, none⟩) n c] 58 (0, 0))) (en : Sle slE 15 w (some ⟨gE, 0, none⟩) n c l) (h32 : n ≤ 1000) (av_en_tb : Av (some ⟨gE, 0, none⟩) n gt) (hM : Hm lo mb w hs) (hS : SSrt l) (hh : homeF hs m = none) (hx : l[i]? = some x) (hp : sfpos l a.num = i) (hf : sfhas l a.num = true) (hr : (if x.fx = true then 6 else if (!x.freeB now && !x.heldB m now) = true then 8 else 0) = r) : Calls Try.prog 31 #[.pointer (some ⟨gt, 0, none⟩), .agg #[.int .u8 (m.a.toNat : Int), .int .u8 (m.b.toNat : Int), .int .u8 (m.c.toNat : Int), .int .u8 (m.d.toNat : Int), .int .u8 (m.e.toNat : Int), .int .u8 (m.f.toNat : Int)], .agg #[.int .u8 (a.a.toNat : Int), .int .u8 (a.b.toNat : Int), .int .u8 (a.c.toNat : Int), .int .u8 (a.d.toNat : Int)]] w fun e w' => e = .returned (.int .i64 r) ∧ Below w.heap.size w w' := by
  have HR := Lib.hid hr
  clear hr
  have HH := Lib.hid hh
  clear hh
  have HS := Lib.hid hS
  clear hS
  have hin := (List.getElem?_eq_some_iff.1 hx).1
  have hl_ := en.1
  have hlt_ : i < n := by omega
  have i0 : (0 : Int) ≤ i := by omega
  have i1 : (i : Int) < n := by omega
  clear hin hl_ hlt_
  have HP := Lib.hid hp
  have HF := Lib.hid hf
  clear hp hf
  obtain ⟨xm, xa, xu, xf, xl, xr, xb⟩ := x
  have bel := Below.refl w.heap.size w
  go_enter Try.func31, Try.ntmps31
  go_wp2_with (first | ((with_reducible show wpList _ _ _ (⟨some 4, _, _, _, _, _⟩ :: _) _ _); refine wpList_box_n rfl 31 (.tmp 1) rfl #[.int .u8 (m.a.toNat : Int), .int .u8 (m.b.toNat : Int), .int .u8 (m.c.toNat : Int), .int .u8 (m.d.toNat : Int), .int .u8 (m.e.toNat : Int), .int .u8 (m.f.toNat : Int)] rfl ?_; intro g4 w1 ge lt hh bb; have d_tb_mB := ne_new (hlt htb) ge; have av_en_mB := en.av_new ge; have omB := Nat.le_trans bel.size ge; replace htb := blk_u htb bb; replace en := en.below bb; replace hM := hM.below bb; replace bel := bel.trans (bb.mono bel.size); have hmB := hh; clear hh lt ge bb) | ((with_reducible show wpList _ _ _ (⟨some 5, _, _, _, _, _⟩ :: _) _ _); refine wpList_box_n rfl 28 (.tmp 2) rfl #[.int .u8 (a.a.toNat : Int), .int .u8 (a.b.toNat : Int), .int .u8 (a.c.toNat : Int), .int .u8 (a.d.toNat : Int)] rfl ?_; intro g5 w2 ge lt hh bb; have d_tb_aB := ne_new (hlt htb) ge; have d_mB_aB := ne_new (hlt hmB) ge; have av_en_aB := en.av_new ge; have oaB := Nat.le_trans bel.size ge; replace htb := blk_u htb bb; replace hmB := blk_u hmB bb; replace en := en.below bb; replace hM := hM.below bb; replace bel := bel.trans (bb.mono bel.size); have haB := hh; clear hh lt ge bb))
  replace bel := bel.drew
  replace htb : w2.drew.heap[gt]? = _ := htb
  replace hmB : w2.drew.heap[g4]? = _ := hmB
  replace haB : w2.drew.heap[g5]? = _ := haB
  replace en := en.drew
  replace hM := hm_drew hM
  refine wp_region_held_drew (S := fun W => W.heap[gt]? = some (.cells #[.int .i64 now, .map (some mb), .slice (some ⟨gE, 0, none⟩) n c] 58 (0, 0)) ∧ W.heap[g4]? = some (.cells #[.int .u8 (m.a.toNat : Int), .int .u8 (m.b.toNat : Int), .int .u8 (m.c.toNat : Int), .int .u8 (m.d.toNat : Int), .int .u8 (m.e.toNat : Int), .int .u8 (m.f.toNat : Int)] 31 (0, 0)) ∧ Hm lo mb W hs) (by kernel_rfl) ⟨htb, hmB, hM⟩ (fun hH => ?_)
  generalize w2.drew = w3 at bel htb hmB haB en hM hH ⊢
  refine wpAnyH_take (i := 0) (v := ?_) rfl (by kernel_rfl) (by kernel_rfl) (by kernel_rfl) (fun _ _ _ h => h) (Or.inl ⟨by rfl, ?_⟩) hH ?_
  rotate_left
  · ((intro W hW; clear hW; go_simp) <;> with_reducible rfl)
  simp only [Act.put, List.getElem_toArray, List.getElem_cons_zero, List.setIfInBounds_toArray, List.set_cons_zero, List.set_cons_succ]
  refine wpAnyH_take (i := 1) (v := ?_) rfl (by kernel_rfl) (by kernel_rfl) (by kernel_rfl) (fun _ _ _ h => h) (Or.inl ⟨by rfl, ?_⟩) hH ?_
  rotate_left
  · ((intro W hW; clear hW; go_simp) <;> with_reducible rfl)
  simp only [Act.put, List.getElem_toArray, List.getElem_cons_zero, List.getElem_cons_succ, List.setIfInBounds_toArray, List.set_cons_zero, List.set_cons_succ]
  refine wpAnyH_take (i := 2) (v := ?_) rfl (by kernel_rfl) (by kernel_rfl) (by kernel_rfl) (fun _ _ _ h => h) (Or.inl ⟨by rfl, ?_⟩) hH ?_
  rotate_left
  · ((intro W hW; clear hW; go_simp) <;> with_reducible rfl)
  simp only [Act.put, List.getElem_toArray, List.getElem_cons_zero, List.getElem_cons_succ, List.setIfInBounds_toArray, List.set_cons_zero, List.set_cons_succ]
  refine wpAnyH_take (i := 3) (v := ?_) rfl (by kernel_rfl) (by kernel_rfl) (by kernel_rfl) (fun _ _ _ h => h) (Or.inl ⟨by rfl, ?_⟩) hH ?_
  rotate_left
  · ((intro W hW; have hk := cell_lit (hW.1) 1 _ rfl; clear hW; go_simp) <;> with_reducible rfl)
  simp only [Act.put, List.getElem_toArray, List.getElem_cons_zero, List.getElem_cons_succ, List.setIfInBounds_toArray, List.set_cons_zero, List.set_cons_succ]
  refine wpAnyH_take (i := 4) (v := .agg #[.int .u8 (m.a.toNat : Int), .int .u8 (m.b.toNat : Int), .int .u8 (m.c.toNat : Int), .int .u8 (m.d.toNat : Int), .int .u8 (m.e.toNat : Int), .int .u8 (m.f.toNat : Int)]) rfl (by kernel_rfl) (by kernel_rfl) (by kernel_rfl) (fun _ _ _ h => h) (yieldsIf_load_part (by kernel_rfl) 31 _ rfl g4 0 6 rfl _ 31 (0, 0) (fun W hW => hW.2.1) _ rfl _ Try.underlying31 rfl (by kernel_rfl)) hH ?_
  simp only [Act.put, List.getElem_toArray, List.getElem_cons_zero, List.getElem_cons_succ, List.setIfInBounds_toArray, List.set_cons_zero, List.set_cons_succ]
  refine wpAnyH_take (i := 5) (v := ?_) rfl (by kernel_rfl) (by kernel_rfl) (by kernel_rfl) (fun _ _ _ h => h) (Or.inl ⟨by rfl, ?_⟩) hH ?_
  rotate_left
  · ((intro W hW; have hk := (by have h_ := ((hW.2.2)).look m; rw [HH.out] at h_; exact h_ : (Instr.lookup 55 (.map (some mb)) (.agg #[.int .u8 (m.a.toNat : Int), .int .u8 (m.b.toNat : Int), .int .u8 (m.c.toNat : Int), .int .u8 (m.d.toNat : Int), .int .u8 (m.e.toNat : Int), .int .u8 (m.f.toNat : Int)]) true).run Try.prog W = .ok (.tuple #[.agg #[.int .u8 0, .int .u8 0, .int .u8 0, .int .u8 0], .bool false]) W); clear hW; go_simp) <;> with_reducible rfl)
  simp only [Act.put, List.getElem_toArray, List.getElem_cons_zero, List.getElem_cons_succ, List.setIfInBounds_toArray, List.set_cons_zero, List.set_cons_succ]
  refine wpAnyH_take (i := 6) (v := ?_) rfl (by kernel_rfl) (by kernel_rfl) (by kernel_rfl) (fun _ _ _ h => h) (Or.inl ⟨by rfl, ?_⟩) hH ?_
  rotate_left
  · ((intro W hW; clear hW; go_simp) <;> with_reducible rfl)
  simp only [Act.put, List.getElem_toArray, List.getElem_cons_zero, List.getElem_cons_succ, List.setIfInBounds_toArray, List.set_cons_zero, List.set_cons_succ]
  refine wpAnyH_take (i := 7) (v := ?_) rfl (by kernel_rfl) (by kernel_rfl) (by kernel_rfl) (fun _ _ _ h => h) (Or.inl ⟨by rfl, ?_⟩) hH ?_
  rotate_left
  · ((intro W hW; clear hW; go_simp) <;> with_reducible rfl)
  simp only [Act.put, List.getElem_toArray, List.getElem_cons_zero, List.getElem_cons_succ, List.setIfInBounds_toArray, List.set_cons_zero, List.set_cons_succ]
  refine wpAnyH_take (i := 8) (v := ?_) rfl (by kernel_rfl) (by kernel_rfl) (by kernel_rfl) (fun _ _ _ h => h) (Or.inl ⟨by rfl, ?_⟩) hH ?_
  rotate_left
  · ((intro W hW; clear hW; go_simp) <;> with_reducible rfl)
  simp only [Act.put, List.getElem_toArray, List.getElem_cons_zero, List.getElem_cons_succ, List.setIfInBounds_toArray, List.set_cons_zero, List.set_cons_succ]
  refine wpAnyH_ready (rs := [9]) (by kernel_rfl) (by simp) ?_
  refine AllReadyH.cons (o := _) rfl (fun K hK => ?_) AllReadyH.nil
  simp only [List.getElem_toArray, List.getElem_cons_zero, List.getElem_cons_succ]
  rw [if_pos (by rfl)]
  refine wp_new_a 28 rfl #[.int .u8 0, .int .u8 0, .int .u8 0, .int .u8 0] (by kernel_rfl) ?_
  intro g7 w4 ge hh bb
  have d_tb_hB := ne_new (hlt htb) ge
  have d_mB_hB := ne_new (hlt hmB) ge
  have d_aB_hB := ne_new (hlt haB) ge
  have av_en_hB := en.av_new ge
  have ohB := Nat.le_trans bel.size ge
  replace htb := blk_u htb bb
  replace hmB := blk_u hmB bb
  replace haB := blk_u haB bb
  replace en := en.below bb
  replace hM := hM.below bb
  replace bel := bel.trans (bb.mono bel.size)
  have hhB := hh
  clear hh ge bb
  refine hK.out _ _ ⟨htb, hmB, hM⟩ (fun hH5 => ?_)
  clear hK K
  simp only [Act.put, List.setIfInBounds_toArray, List.set_cons_zero, List.set_cons_succ]
  refine wpAnyH_ready (rs := [10]) (by kernel_rfl) (by simp) ?_
  refine AllReadyH.cons (o := _) rfl (fun K hK => ?_) AllReadyH.nil
  simp only [List.getElem_toArray, List.getElem_cons_zero, List.getElem_cons_succ]
  rw [if_pos (by rfl)]
  refine wp_store_blk 28 (.tmp 7) (.tmp 19) rfl g7 rfl _ rfl _ 28 hhB (by rfl) (by kernel_rfl) (by kernel_rfl) ?_
  intro w6 hq gr
  replace en := en.away av_en_hB gr
  replace htb := blk_a htb gr d_tb_hB
  replace hmB := blk_a hmB gr d_mB_hB
  replace haB := blk_a haB gr d_aB_hB
  replace hM := hM.grown gr hhB
  replace bel := below_grown bel gr ohB bel.size
  clear hhB
  have hhB := hq
  clear hq gr
  refine hK.out _ _ ⟨htb, hmB, hM⟩ (fun hH7 => ?_)
  clear hK K
  simp only [Act.put]
  refine wpAnyH_take (i := 11) (v := ?_) rfl (by kernel_rfl) (by kernel_rfl) (by kernel_rfl) (fun _ _ _ h => h) (Or.inl ⟨by rfl, ?_⟩) hH7 ?_
  rotate_left
  · ((intro W hW; clear hW; go_simp) <;> with_reducible rfl)
  simp only [Act.put, List.getElem_toArray, List.getElem_cons_zero, List.getElem_cons_succ, List.setIfInBounds_toArray, List.set_cons_zero, List.set_cons_succ]
  refine wpAnyH_done (by kernel_rfl) ?_ _
  have R27 := Lib.hid (range_lit haB 0 4 [.int .u8 (a.a.toNat : Int), .int .u8 (a.b.toNat : Int), .int .u8 (a.c.toNat : Int), .int .u8 (a.d.toNat : Int)] rfl)
  go_wp2_with (first | ((with_reducible show wpList _ _ _ (⟨some 27, _, _, _, _, _⟩ :: _) _ _); refine wpList_load_rng 28 (.tmp 5) rfl (by kernel_rfl) _ _ rfl _ R27.out _ Try.underlying28 rfl (by kernel_rfl) ?_))
  try clear R27
  with_reducible refine (pfind_is a _ htb en HS.out h32 HP.out HF.out).mono ?_
  rintro e w8 ⟨rfl, b8⟩
  replace htb := blk_u htb b8
  replace hmB := blk_u hmB b8
  replace haB := blk_u haB b8
  replace hhB := blk_u hhB b8
  replace en := en.below b8
  replace hM := hM.below b8
  replace bel := bel.trans (b8.mono bel.size)
  clear b8
  rcases xf with _ | _
  rotate_left
  · have HX := Lib.hid hx
    clear hx
    have R37 := cell_lit htb 2 _ rfl
    have R41 := Sle.zcell en HX.out 11 _ rfl
    go_wp2_with fail
    clear R37 R41
    go_ret
    exact ⟨by rw [← HR.out]; rfl, bel⟩
  have HX := Lib.hid hx
  clear hx
  obtain ⟨b1, HB1_⟩ : ∃ b, Sd.freeB now ⟨xm, xa, xu, false, xl, xr, xb⟩ = b := ⟨_, rfl⟩
  have HB1 := Lib.hid HB1_
  clear HB1_
  obtain ⟨b2, HB2_⟩ : ∃ b, Sd.heldB m now ⟨xm, xa, xu, false, xl, xr, xb⟩ = b := ⟨_, rfl⟩
  have HB2 := Lib.hid HB2_
  clear HB2_
  have R37 := cell_lit htb 2 _ rfl
  have R41 := Sle.zcell en HX.out 11 _ rfl
  have R46 := cell_lit htb 2 _ rfl
  go_wp2_with fail
  clear R37 R41 R46
  replace bel := bel.drew
  replace htb : w8.drew.heap[gt]? = _ := htb
  replace hmB : w8.drew.heap[g4]? = _ := hmB
  replace haB : w8.drew.heap[g5]? = _ := haB
  replace hhB : w8.drew.heap[g7]? = _ := hhB
  replace en := en.drew
  replace hM := hm_drew hM
  refine wp_region_held_drew (S := fun W => W.heap[gt]? = some (.cells #[.int .i64 now, .map (some mb), .slice (some ⟨gE, 0, none⟩) n c] 58 (0, 0)) ∧ W.heap[g4]? = some (.cells #[.int .u8 (m.a.toNat : Int), .int .u8 (m.b.toNat : Int), .int .u8 (m.c.toNat : Int), .int .u8 (m.d.toNat : Int), .int .u8 (m.e.toNat : Int), .int .u8 (m.f.toNat : Int)] 31 (0, 0))) (by kernel_rfl) ⟨htb, hmB⟩ (fun hH => ?_)
  generalize w8.drew = w9 at bel htb hmB haB hhB en hM hH ⊢
  refine wpAnyH_take (i := 0) (v := ?_) rfl (by kernel_rfl) (by kernel_rfl) (by kernel_rfl) (fun _ _ _ h => h) (Or.inl ⟨by rfl, ?_⟩) hH ?_
  rotate_left
  · ((intro W hW; clear hW; go_simp) <;> with_reducible rfl)
  simp only [Act.put, List.getElem_toArray, List.getElem_cons_zero, List.setIfInBounds_toArray, List.set_cons_zero, List.set_cons_succ]
  refine wpAnyH_take (i := 1) (v := ?_) rfl (by kernel_rfl) (by kernel_rfl) (by kernel_rfl) (fun _ _ _ h => h) (Or.inl ⟨by rfl, ?_⟩) hH ?_
  rotate_left
  · ((intro W hW; clear hW; go_simp) <;> with_reducible rfl)
  simp only [Act.put, List.getElem_toArray, List.getElem_cons_zero, List.getElem_cons_succ, List.setIfInBounds_toArray, List.set_cons_zero, List.set_cons_succ]
  refine wpAnyH_take (i := 2) (v := ?_) rfl (by kernel_rfl) (by kernel_rfl) (by kernel_rfl) (fun _ _ _ h => h) (Or.inl ⟨by rfl, ?_⟩) hH ?_
  rotate_left
  · ((intro W hW; clear hW; go_simp) <;> with_reducible rfl)
  simp only [Act.put, List.getElem_toArray, List.getElem_cons_zero, List.getElem_cons_succ, List.setIfInBounds_toArray, List.set_cons_zero, List.set_cons_succ]
  refine wpAnyH_take (i := 3) (v := ?_) rfl (by kernel_rfl) (by kernel_rfl) (by kernel_rfl) (fun _ _ _ h => h) (Or.inl ⟨by rfl, ?_⟩) hH ?_
  rotate_left
  · ((intro W hW; clear hW; go_simp) <;> with_reducible rfl)
  simp only [Act.put, List.getElem_toArray, List.getElem_cons_zero, List.getElem_cons_succ, List.setIfInBounds_toArray, List.set_cons_zero, List.set_cons_succ]
  refine wpAnyH_take (i := 4) (v := ?_) rfl (by kernel_rfl) (by kernel_rfl) (by kernel_rfl) (fun _ _ _ h => h) (Or.inl ⟨by rfl, ?_⟩) hH ?_
  rotate_left
  · ((intro W hW; have hk := cell_lit (hW.1) 0 _ rfl; clear hW; go_simp) <;> with_reducible rfl)
  simp only [Act.put, List.getElem_toArray, List.getElem_cons_zero, List.getElem_cons_succ, List.setIfInBounds_toArray, List.set_cons_zero, List.set_cons_succ]
  rcases b1 with _ | _
  rotate_left
  · refine wpAnyH_ready (rs := [5]) (by kernel_rfl) (by simp) ?_
    refine AllReadyH.cons (o := _) rfl (fun K hK => ?_) AllReadyH.nil
    simp only [List.getElem_toArray, List.getElem_cons_zero, List.getElem_cons_succ]
    go_simp
    with_reducible refine (free_el _ en HX.out HB1.out).mono ?_
    rintro e _ ⟨rfl, rfl⟩
    dsimp only
    refine hK.out _ _ ⟨htb, hmB⟩ (fun hH10 => ?_)
    clear hK K
    refine wpAnyH_take (i := 6) (v := ?_) rfl (by kernel_rfl) (by kernel_rfl) (by kernel_rfl) (fun _ _ _ h => h) (Or.inl ⟨by rfl, ?_⟩) hH10 ?_
    rotate_left
    · ((intro W hW; clear hW; go_simp) <;> with_reducible rfl)
    simp only [Act.put, List.getElem_toArray, List.getElem_cons_zero, List.getElem_cons_succ, List.setIfInBounds_toArray, List.set_cons_zero, List.set_cons_succ]
    refine wpAnyH_take (i := 7) (v := ?_) rfl (by kernel_rfl) (by kernel_rfl) (by kernel_rfl) (fun _ _ _ h => h) (Or.inl ⟨by rfl, ?_⟩) hH10 ?_
    rotate_left
    · ((intro W hW; clear hW; go_simp) <;> with_reducible rfl)
    simp only [Act.put, List.getElem_toArray, List.getElem_cons_zero, List.getElem_cons_succ, List.setIfInBounds_toArray, List.set_cons_zero, List.set_cons_succ]
    refine wpAnyH_take (i := 8) (v := undef) rfl (by kernel_rfl) (by kernel_rfl) (by kernel_rfl) (fun _ _ _ h => h) (Or.inr ⟨by rfl, rfl⟩) hH10 ?_
    simp only [Act.put, List.getElem_toArray, List.getElem_cons_zero, List.getElem_cons_succ, List.setIfInBounds_toArray, List.set_cons_zero, List.set_cons_succ]
    refine wpAnyH_take (i := 9) (v := undef) rfl (by kernel_rfl) (by kernel_rfl) (by kernel_rfl) (fun _ _ _ h => h) (Or.inr ⟨by rfl, rfl⟩) hH10 ?_
    simp only [Act.put, List.getElem_toArray, List.getElem_cons_zero, List.getElem_cons_succ, List.setIfInBounds_toArray, List.set_cons_zero, List.set_cons_succ]
    refine wpAnyH_take (i := 10) (v := undef) rfl (by kernel_rfl) (by kernel_rfl) (by kernel_rfl) (fun _ _ _ h => h) (Or.inr ⟨by rfl, rfl⟩) hH10 ?_
    simp only [Act.put, List.getElem_toArray, List.getElem_cons_zero, List.getElem_cons_succ, List.setIfInBounds_toArray, List.set_cons_zero, List.set_cons_succ]
    refine wpAnyH_take (i := 11) (v := undef) rfl (by kernel_rfl) (by kernel_rfl) (by kernel_rfl) (fun _ _ _ h => h) (Or.inr ⟨by rfl, rfl⟩) hH10 ?_
    simp only [Act.put, List.getElem_toArray, List.getElem_cons_zero, List.getElem_cons_succ, List.setIfInBounds_toArray, List.set_cons_zero, List.set_cons_succ]
    refine wpAnyH_take (i := 12) (v := undef) rfl (by kernel_rfl) (by kernel_rfl) (by kernel_rfl) (fun _ _ _ h => h) (Or.inr ⟨by rfl, rfl⟩) hH10 ?_
    simp only [Act.put, List.getElem_toArray, List.getElem_cons_zero, List.getElem_cons_succ, List.setIfInBounds_toArray, List.set_cons_zero, List.set_cons_succ]
    refine wpAnyH_take (i := 13) (v := undef) rfl (by kernel_rfl) (by kernel_rfl) (by kernel_rfl) (fun _ _ _ h => h) (Or.inr ⟨by rfl, rfl⟩) hH10 ?_
    simp only [Act.put, List.getElem_toArray, List.getElem_cons_zero, List.getElem_cons_succ, List.setIfInBounds_toArray, List.set_cons_zero, List.set_cons_succ]
    refine wpAnyH_take (i := 14) (v := undef) rfl (by kernel_rfl) (by kernel_rfl) (by kernel_rfl) (fun _ _ _ h => h) (Or.inr ⟨by rfl, rfl⟩) hH10 ?_
    simp only [Act.put, List.getElem_toArray, List.getElem_cons_zero, List.getElem_cons_succ, List.setIfInBounds_toArray, List.set_cons_zero, List.set_cons_succ]
    refine wpAnyH_take (i := 15) (v := undef) rfl (by kernel_rfl) (by kernel_rfl) (by kernel_rfl) (fun _ _ _ h => h) (Or.inr ⟨by rfl, rfl⟩) hH10 ?_
    simp only [Act.put, List.getElem_toArray, List.getElem_cons_zero, List.getElem_cons_succ, List.setIfInBounds_toArray, List.set_cons_zero, List.set_cons_succ]
    refine wpAnyH_take (i := 16) (v := ?_) rfl (by kernel_rfl) (by kernel_rfl) (by kernel_rfl) (fun _ _ _ h => h) (Or.inl ⟨by rfl, ?_⟩) hH10 ?_
    rotate_left
    · ((intro W hW; clear hW; go_simp) <;> with_reducible rfl)
    simp only [Act.put, List.getElem_toArray, List.getElem_cons_zero, List.getElem_cons_succ, List.setIfInBounds_toArray, List.set_cons_zero, List.set_cons_succ]
    refine wpAnyH_done (by kernel_rfl) ?_ _
    go_wp2_with fail
    go_ret
    exact ⟨by rw [← HR.out, HB1.out]; rfl, bel⟩
  refine wpAnyH_ready (rs := [5]) (by kernel_rfl) (by simp) ?_
  refine AllReadyH.cons (o := _) rfl (fun K hK => ?_) AllReadyH.nil
  simp only [List.getElem_toArray, List.getElem_cons_zero, List.getElem_cons_succ]
  go_simp
  with_reducible refine (free_el _ en HX.out HB1.out).mono ?_
  rintro e _ ⟨rfl, rfl⟩
  dsimp only
  refine hK.out _ _ ⟨htb, hmB⟩ (fun hH10 => ?_)
  clear hK K
  refine wpAnyH_take (i := 6) (v := ?_) rfl (by kernel_rfl) (by kernel_rfl) (by kernel_rfl) (fun _ _ _ h => h) (Or.inl ⟨by rfl, ?_⟩) hH10 ?_
  rotate_left
  · ((intro W hW; clear hW; go_simp) <;> with_reducible rfl)
  simp only [Act.put, List.getElem_toArray, List.getElem_cons_zero, List.getElem_cons_succ, List.setIfInBounds_toArray, List.set_cons_zero, List.set_cons_succ]
  refine wpAnyH_take (i := 7) (v := ?_) rfl (by kernel_rfl) (by kernel_rfl) (by kernel_rfl) (fun _ _ _ h => h) (Or.inl ⟨by rfl, ?_⟩) hH10 ?_
  rotate_left
  · ((intro W hW; clear hW; go_simp) <;> with_reducible rfl)
  simp only [Act.put, List.getElem_toArray, List.getElem_cons_zero, List.getElem_cons_succ, List.setIfInBounds_toArray, List.set_cons_zero, List.set_cons_succ]
  refine wpAnyH_take (i := 8) (v := ?_) rfl (by kernel_rfl) (by kernel_rfl) (by kernel_rfl) (fun _ _ _ h => h) (Or.inl ⟨by rfl, ?_⟩) hH10 ?_
  rotate_left
  · ((intro W hW; clear hW; go_simp) <;> with_reducible rfl)
  simp only [Act.put, List.getElem_toArray, List.getElem_cons_zero, List.getElem_cons_succ, List.setIfInBounds_toArray, List.set_cons_zero, List.set_cons_succ]
  refine wpAnyH_take (i := 9) (v := .agg #[.int .u8 (m.a.toNat : Int), .int .u8 (m.b.toNat : Int), .int .u8 (m.c.toNat : Int), .int .u8 (m.d.toNat : Int), .int .u8 (m.e.toNat : Int), .int .u8 (m.f.toNat : Int)]) rfl (by kernel_rfl) (by kernel_rfl) (by kernel_rfl) (fun _ _ _ h => h) (yieldsIf_load_part (by kernel_rfl) 31 _ rfl g4 0 6 rfl _ 31 (0, 0) (fun W hW => hW.2) _ rfl _ Try.underlying31 rfl (by kernel_rfl)) hH10 ?_
  simp only [Act.put, List.getElem_toArray, List.getElem_cons_zero, List.getElem_cons_succ, List.setIfInBounds_toArray, List.set_cons_zero, List.set_cons_succ]
  refine wpAnyH_take (i := 10) (v := ?_) rfl (by kernel_rfl) (by kernel_rfl) (by kernel_rfl) (fun _ _ _ h => h) (Or.inl ⟨by rfl, ?_⟩) hH10 ?_
  rotate_left
  · ((intro W hW; clear hW; go_simp) <;> with_reducible rfl)
  simp only [Act.put, List.getElem_toArray, List.getElem_cons_zero, List.getElem_cons_succ, List.setIfInBounds_toArray, List.set_cons_zero, List.set_cons_succ]
  refine wpAnyH_take (i := 11) (v := ?_) rfl (by kernel_rfl) (by kernel_rfl) (by kernel_rfl) (fun _ _ _ h => h) (Or.inl ⟨by rfl, ?_⟩) hH10 ?_
  rotate_left
  · ((intro W hW; clear hW; go_simp) <;> with_reducible rfl)
  simp only [Act.put, List.getElem_toArray, List.getElem_cons_zero, List.getElem_cons_succ, List.setIfInBounds_toArray, List.set_cons_zero, List.set_cons_succ]
  refine wpAnyH_take (i := 12) (v := ?_) rfl (by kernel_rfl) (by kernel_rfl) (by kernel_rfl) (fun _ _ _ h => h) (Or.inl ⟨by rfl, ?_⟩) hH10 ?_
  rotate_left
  · ((intro W hW; clear hW; go_simp) <;> with_reducible rfl)
  simp only [Act.put, List.getElem_toArray, List.getElem_cons_zero, List.getElem_cons_succ, List.setIfInBounds_toArray, List.set_cons_zero, List.set_cons_succ]
  refine wpAnyH_take (i := 13) (v := ?_) rfl (by kernel_rfl) (by kernel_rfl) (by kernel_rfl) (fun _ _ _ h => h) (Or.inl ⟨by rfl, ?_⟩) hH10 ?_
  rotate_left
  · ((intro W hW; have hk := cell_lit (hW.1) 0 _ rfl; clear hW; go_simp) <;> with_reducible rfl)
  simp only [Act.put, List.getElem_toArray, List.getElem_cons_zero, List.getElem_cons_succ, List.setIfInBounds_toArray, List.set_cons_zero, List.set_cons_succ]
  rcases b2 with _ | _
  rotate_left
  · refine wpAnyH_ready (rs := [14]) (by kernel_rfl) (by simp) ?_
    refine AllReadyH.cons (o := _) rfl (fun K hK => ?_) AllReadyH.nil
    simp only [List.getElem_toArray, List.getElem_cons_zero, List.getElem_cons_succ]
    go_simp
    with_reducible refine (held_el _ en HX.out HB2.out).mono ?_
    rintro e w11 ⟨rfl, b11⟩
    dsimp only
    replace htb := blk_u htb b11
    replace hmB := blk_u hmB b11
    replace haB := blk_u haB b11
    replace hhB := blk_u hhB b11
    replace en := en.below b11
    replace hM := hM.below b11
    replace bel := bel.trans (b11.mono bel.size)
    clear b11
    refine hK.out _ _ ⟨htb, hmB⟩ (fun hH12 => ?_)
    clear hK K
    refine wpAnyH_take (i := 15) (v := ?_) rfl (by kernel_rfl) (by kernel_rfl) (by kernel_rfl) (fun _ _ _ h => h) (Or.inl ⟨by rfl, ?_⟩) hH12 ?_
    rotate_left
    · ((intro W hW; clear hW; go_simp) <;> with_reducible rfl)
    simp only [Act.put, List.getElem_toArray, List.getElem_cons_zero, List.getElem_cons_succ, List.setIfInBounds_toArray, List.set_cons_zero, List.set_cons_succ]
    refine wpAnyH_take (i := 16) (v := ?_) rfl (by kernel_rfl) (by kernel_rfl) (by kernel_rfl) (fun _ _ _ h => h) (Or.inl ⟨by rfl, ?_⟩) hH12 ?_
    rotate_left
    · ((intro W hW; clear hW; go_simp) <;> with_reducible rfl)
    simp only [Act.put, List.getElem_toArray, List.getElem_cons_zero, List.getElem_cons_succ, List.setIfInBounds_toArray, List.set_cons_zero, List.set_cons_succ]
    refine wpAnyH_done (by kernel_rfl) ?_ _
    go_wp2_with fail
    go_ret
    exact ⟨by rw [← HR.out, HB1.out, HB2.out]; rfl, bel⟩
  refine wpAnyH_ready (rs := [14]) (by kernel_rfl) (by simp) ?_
  refine AllReadyH.cons (o := _) rfl (fun K hK => ?_) AllReadyH.nil
  simp only [List.getElem_toArray, List.getElem_cons_zero, List.getElem_cons_succ]
  go_simp
  with_reducible refine (held_el _ en HX.out HB2.out).mono ?_
  rintro e w11 ⟨rfl, b11⟩
  dsimp only
  replace htb := blk_u htb b11
  replace hmB := blk_u hmB b11
  replace haB := blk_u haB b11
  replace hhB := blk_u hhB b11
  replace en := en.below b11
  replace hM := hM.below b11
  replace bel := bel.trans (b11.mono bel.size)
  clear b11
  refine hK.out _ _ ⟨htb, hmB⟩ (fun hH12 => ?_)
  clear hK K
  refine wpAnyH_take (i := 15) (v := ?_) rfl (by kernel_rfl) (by kernel_rfl) (by kernel_rfl) (fun _ _ _ h => h) (Or.inl ⟨by rfl, ?_⟩) hH12 ?_
  rotate_left
  · ((intro W hW; clear hW; go_simp) <;> with_reducible rfl)
  simp only [Act.put, List.getElem_toArray, List.getElem_cons_zero, List.getElem_cons_succ, List.setIfInBounds_toArray, List.set_cons_zero, List.set_cons_succ]
  refine wpAnyH_take (i := 16) (v := ?_) rfl (by kernel_rfl) (by kernel_rfl) (by kernel_rfl) (fun _ _ _ h => h) (Or.inl ⟨by rfl, ?_⟩) hH12 ?_
  rotate_left
  · ((intro W hW; clear hW; go_simp) <;> with_reducible rfl)
  simp only [Act.put, List.getElem_toArray, List.getElem_cons_zero, List.getElem_cons_succ, List.setIfInBounds_toArray, List.set_cons_zero, List.set_cons_succ]
  refine wpAnyH_done (by kernel_rfl) ?_ _
  go_wp2_with fail
  go_ret
  exact ⟨by rw [← HR.out, HB1.out, HB2.out]; rfl, bel⟩
/-- mayTake, whichever way. -/
theorem may_any {lo gt mb n c : Nat} {now : Int} {l : List Sd} {hs : List (Mc6 × Ad4)} {A : Option Addr} {r : Int} (m : Mc6) (a : Ad4) (w : World) (htb : w.heap[gt]? = some (.cells #[.int .i64 now, .map (some mb), .slice A n c] 58 (0, 0))) (own : w.ownsRow lo 66 15 (.slice A n c) n (l.flatMap slE)) (h32 : n ≤ 1000) (hM : Hm lo mb w hs) (hS : SSrt l) (hr : mayE ⟨now, hs, l⟩ m a = r) : Calls Try.prog 31 #[.pointer (some ⟨gt, 0, none⟩), .agg #[.int .u8 (m.a.toNat : Int), .int .u8 (m.b.toNat : Int), .int .u8 (m.c.toNat : Int), .int .u8 (m.d.toNat : Int), .int .u8 (m.e.toNat : Int), .int .u8 (m.f.toNat : Int)], .agg #[.int .u8 (a.a.toNat : Int), .int .u8 (a.b.toNat : Int), .int .u8 (a.c.toNat : Int), .int .u8 (a.d.toNat : Int)]] w fun e w' => e = .returned (.int .i64 r) ∧ Below w.heap.size w w' := by
  have en := (owk_sle (by decide) slE_len own).1
  have av := owk_av own (ofs_type own htb (by decide))
  rw [← hr]
  unfold mayE
  cases hh : homeF hs m with
  | some b =>
    simp only
    exact may_home m a w htb en h32 av hM hh rfl rfl
  | none =>
    simp only
    cases hf : sfhas l a.num with
    | false =>
      rw [if_neg (by decide)]
      exact may_no m a w htb en h32 av hM hS hh hf
    | true =>
      rw [if_pos rfl]
      obtain ⟨x, hx, _⟩ := sfhas_at hf
      rw [hx]
      have hn : 0 < n := by have := (List.getElem?_eq_some_iff.1 hx).1; have := en.1; omega
      obtain ⟨gE, rfl, _⟩ := row_at own hn
      exact may_at m a w htb en h32 av hM hS hh hx rfl hf rfl
/-- liveOf, over the pool's own row. -/
theorem lof_none {lo gt mb n c : Nat} {now : Int} {l : List Sd} {A : Option Addr} (m : Mc6) (w : World) (htb : w.heap[gt]? = some (.cells #[.int .i64 now, .map (some mb), .slice A n c] 58 (0, 0))) (own : w.ownsRow lo 66 15 (.slice A n c) n (l.flatMap slE)) (h32 : n ≤ 1000) (hf : hldF m now l = none) : Calls Try.prog 26 #[.pointer (some ⟨gt, 0, none⟩), .agg #[.int .u8 (m.a.toNat : Int), .int .u8 (m.b.toNat : Int), .int .u8 (m.c.toNat : Int), .int .u8 (m.d.toNat : Int), .int .u8 (m.e.toNat : Int), .int .u8 (m.f.toNat : Int)]] w fun e w' => e = .returned (.pointer none) ∧ Below w.heap.size w w' := by
  rcases Nat.eq_zero_or_pos n with h0 | h0
  · subst h0
    exact lof_nil m w htb
  · obtain ⟨gE, rfl, _⟩ := row_at own h0
    exact lof_none_pos m w htb (owk_sle (by decide) slE_len own).1 h32 (owk_av own (ofs_type own htb (by decide))) hf
theorem lof_at {lo gt mb n c gE i : Nat} {now : Int} {l : List Sd} (m : Mc6) (w : World) (htb : w.heap[gt]? = some (.cells #[.int .i64 now, .map (some mb), .slice (some ⟨gE, 0, none⟩) n c] 58 (0, 0))) (own : w.ownsRow lo 66 15 (.slice (some ⟨gE, 0, none⟩) n c) n (l.flatMap slE)) (h32 : n ≤ 1000) (hf : hldF m now l = some i) : Calls Try.prog 26 #[.pointer (some ⟨gt, 0, none⟩), .agg #[.int .u8 (m.a.toNat : Int), .int .u8 (m.b.toNat : Int), .int .u8 (m.c.toNat : Int), .int .u8 (m.d.toNat : Int), .int .u8 (m.e.toNat : Int), .int .u8 (m.f.toNat : Int)]] w fun e w' => e = .returned (.pointer (some ⟨gE, i * 15, none⟩)) ∧ Below w.heap.size w w' :=
  lof_some m w htb (owk_sle (by decide) slE_len own).1 h32 (owk_av own (ofs_type own htb (by decide))) hf
theorem bf_none {lo gt mb n c : Nat} {now : Int} {l : List Sd} {A : Option Addr} (m : Mc6) (w : World) (htb : w.heap[gt]? = some (.cells #[.int .i64 now, .map (some mb), .slice A n c] 58 (0, 0))) (own : w.ownsRow lo 66 15 (.slice A n c) n (l.flatMap slE)) (h32 : n ≤ 1000) (hf : bestF m now l n = none) : Calls Try.prog 29 #[.pointer (some ⟨gt, 0, none⟩), .agg #[.int .u8 (m.a.toNat : Int), .int .u8 (m.b.toNat : Int), .int .u8 (m.c.toNat : Int), .int .u8 (m.d.toNat : Int), .int .u8 (m.e.toNat : Int), .int .u8 (m.f.toNat : Int)]] w fun e w' => e = .returned (.pointer none) ∧ Below w.heap.size w w' := by
  rcases Nat.eq_zero_or_pos n with h0 | h0
  · subst h0
    exact bf_nil m w htb
  · obtain ⟨gE, rfl, _⟩ := row_at own h0
    exact bf_none_pos m w htb (owk_sle (by decide) slE_len own).1 h32 (owk_av own (ofs_type own htb (by decide))) hf
theorem bf_at {lo gt mb n c gE i : Nat} {now : Int} {l : List Sd} (m : Mc6) (w : World) (htb : w.heap[gt]? = some (.cells #[.int .i64 now, .map (some mb), .slice (some ⟨gE, 0, none⟩) n c] 58 (0, 0))) (own : w.ownsRow lo 66 15 (.slice (some ⟨gE, 0, none⟩) n c) n (l.flatMap slE)) (h32 : n ≤ 1000) (hf : bestF m now l n = some i) : Calls Try.prog 29 #[.pointer (some ⟨gt, 0, none⟩), .agg #[.int .u8 (m.a.toNat : Int), .int .u8 (m.b.toNat : Int), .int .u8 (m.c.toNat : Int), .int .u8 (m.d.toNat : Int), .int .u8 (m.e.toNat : Int), .int .u8 (m.f.toNat : Int)]] w fun e w' => e = .returned (.pointer (some ⟨gE, i * 15, none⟩)) ∧ Below w.heap.size w w' :=
  bf_some m w htb (owk_sle (by decide) slE_len own).1 h32 (owk_av own (ofs_type own htb (by decide))) hf
end Go.Proofs.Ythcjepafcemmnaa
