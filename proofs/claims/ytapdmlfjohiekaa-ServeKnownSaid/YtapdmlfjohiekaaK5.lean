/- Texts put together: Pl3b, Nrs, Nrk, Pl4. -/
import Derived.Test.YtapdmlfjohiekaaK1
import Derived.Test.YtapdmlfjohiekaaK4
import Derived.Lib.Overlaps
import Derived.Laws.Externs
namespace Go.Proofs.Ytapdmlfjohiekaa
open Go.RowKit

theorem hm_drew {lo mb : Nat} {w : World} {hs : List (Mc6 × Ad4)} (h : Hm lo mb w hs) : Hm lo mb w.drew hs := h
set_option linter.unusedVariables false in
set_option linter.unusedSimpArgs false in
set_option maxRecDepth 100000 in
set_option maxHeartbeats 16000000 in
theorem may_home {lo gt mb n c : Nat} {now : Int} {l : List Sd} {hs : List (Mc6 × Ad4)} {A : Option Addr} {hm : Ad4} {b : Bool} {r : Int} (m : Mc6) (a : Ad4) (w : World) (htb : w.heap[gt]? = some (.cells #[.int .i64 now, .map (some mb), .slice A n c] 84 (0, 0))) (en : Sle slE 15 w A n c l) (h32 : n ≤ 1000) (av_en_tb : Av A n gt) (hM : Hm lo mb w hs) (hh : homeF hs m = some hm) (he : a.eqB hm = b) (hr : (if b = true then 0 else 8) = r) : Calls Try.prog 69 #[.pointer (some ⟨gt, 0, none⟩), .agg #[.int .u8 (m.a.toNat : Int), .int .u8 (m.b.toNat : Int), .int .u8 (m.c.toNat : Int), .int .u8 (m.d.toNat : Int), .int .u8 (m.e.toNat : Int), .int .u8 (m.f.toNat : Int)], .agg #[.int .u8 (a.a.toNat : Int), .int .u8 (a.b.toNat : Int), .int .u8 (a.c.toNat : Int), .int .u8 (a.d.toNat : Int)]] w fun e w' => e = .returned (.int .i64 r) ∧ Below w.heap.size w w' := by
  have HR := Lib.hid hr
  clear hr
  have HH := Lib.hid hh
  clear hh
  have HE := Lib.hid he
  have q24 : ∀ W, (binOp .neq 28 (.agg #[.int .u8 (a.a.toNat : Int), .int .u8 (a.b.toNat : Int), .int .u8 (a.c.toNat : Int), .int .u8 (a.d.toNat : Int)]) (.agg #[.int .u8 (hm.a.toNat : Int), .int .u8 (hm.b.toNat : Int), .int .u8 (hm.c.toNat : Int), .int .u8 (hm.d.toNat : Int)])).run Try.prog W = .ok (.bool (!b)) W := fun W => by have h_ := nea_b a hm W; rw [HE.out] at h_; exact h_
  clear he
  have bel := Below.refl w.heap.size w
  go_enter Try.func69, Try.ntmps69
  go_wp2_with (first | ((with_reducible show wpList _ _ _ (⟨some 4, _, _, _, _, _⟩ :: _) _ _); refine wpList_box_n rfl 32 (.tmp 1) rfl #[.int .u8 (m.a.toNat : Int), .int .u8 (m.b.toNat : Int), .int .u8 (m.c.toNat : Int), .int .u8 (m.d.toNat : Int), .int .u8 (m.e.toNat : Int), .int .u8 (m.f.toNat : Int)] rfl ?_; intro g4 w1 ge lt hh bb; have d_tb_mB := ne_new (hlt htb) ge; have av_en_mB := en.av_new ge; have omB := Nat.le_trans bel.size ge; replace htb := blk_u htb bb; replace en := en.below bb; replace hM := hM.below bb; replace bel := bel.trans (bb.mono bel.size); have hmB := hh; clear hh lt ge bb) | ((with_reducible show wpList _ _ _ (⟨some 5, _, _, _, _, _⟩ :: _) _ _); refine wpList_box_n rfl 28 (.tmp 2) rfl #[.int .u8 (a.a.toNat : Int), .int .u8 (a.b.toNat : Int), .int .u8 (a.c.toNat : Int), .int .u8 (a.d.toNat : Int)] rfl ?_; intro g5 w2 ge lt hh bb; have d_tb_aB := ne_new (hlt htb) ge; have d_mB_aB := ne_new (hlt hmB) ge; have av_en_aB := en.av_new ge; have oaB := Nat.le_trans bel.size ge; replace htb := blk_u htb bb; replace hmB := blk_u hmB bb; replace en := en.below bb; replace hM := hM.below bb; replace bel := bel.trans (bb.mono bel.size); have haB := hh; clear hh lt ge bb))
  replace bel := bel.drew
  replace htb : w2.drew.heap[gt]? = _ := htb
  replace hmB : w2.drew.heap[g4]? = _ := hmB
  replace haB : w2.drew.heap[g5]? = _ := haB
  replace en := en.drew
  replace hM := hm_drew hM
  refine wp_region_held_drew (S := fun W => W.heap[gt]? = some (.cells #[.int .i64 now, .map (some mb), .slice A n c] 84 (0, 0)) ∧ W.heap[g4]? = some (.cells #[.int .u8 (m.a.toNat : Int), .int .u8 (m.b.toNat : Int), .int .u8 (m.c.toNat : Int), .int .u8 (m.d.toNat : Int), .int .u8 (m.e.toNat : Int), .int .u8 (m.f.toNat : Int)] 32 (0, 0)) ∧ Hm lo mb W hs) (by kernel_rfl) ⟨htb, hmB, hM⟩ (fun hH => ?_)
  generalize w2.drew = w3 at bel htb hmB haB en hM hH ⊢
  refine wpAnyH_take (i := 0) (v := ?_) rfl (by kernel_rfl) (by kernel_rfl) (by kernel_rfl) (fun _ _ _ h => h) (Or.inl ⟨by rfl, ?_⟩) hH ?_
  rotate_left
  · ((intro W hW; clear hW; go_simp) <;> with_reducible rfl)
  simp only [Act.put, List.getElem_toArray, List.getElem_cons_zero, List.setIfInBounds_toArray, List.set_cons_zero, List.set_cons_succ]
  refine wpAnyH_take (i := 1) (v := ?_) rfl (by kernel_rfl) (by kernel_rfl) (by kernel_rfl) (fun _ _ _ h => h) (Or.inl ⟨by rfl, ?_⟩) hH ?_
  rotate_left
  · ((intro W hW; clear hW; go_simp) <;> with_reducible rfl)
  simp only [sq3, sq4]
  refine wpAnyH_take (i := 2) (v := ?_) rfl (by kernel_rfl) (by kernel_rfl) (by kernel_rfl) (fun _ _ _ h => h) (Or.inl ⟨by rfl, ?_⟩) hH ?_
  rotate_left
  · ((intro W hW; clear hW; go_simp) <;> with_reducible rfl)
  simp only [sq3, sq4]
  refine wpAnyH_take (i := 3) (v := ?_) rfl (by kernel_rfl) (by kernel_rfl) (by kernel_rfl) (fun _ _ _ h => h) (Or.inl ⟨by rfl, ?_⟩) hH ?_
  rotate_left
  · ((intro W hW; have hk := cell_lit (hW.1) 1 _ rfl; clear hW; go_simp) <;> with_reducible rfl)
  simp only [sq3, sq4]
  refine wpAnyH_take (i := 4) (v := .agg #[.int .u8 (m.a.toNat : Int), .int .u8 (m.b.toNat : Int), .int .u8 (m.c.toNat : Int), .int .u8 (m.d.toNat : Int), .int .u8 (m.e.toNat : Int), .int .u8 (m.f.toNat : Int)]) rfl (by kernel_rfl) (by kernel_rfl) (by kernel_rfl) (fun _ _ _ h => h) (yieldsIf_load_part (by kernel_rfl) 32 _ rfl g4 0 6 rfl _ 32 (0, 0) (fun W hW => hW.2.1) _ rfl _ Try.underlying32 rfl (by kernel_rfl)) hH ?_
  simp only [sq3, sq4]
  refine wpAnyH_take (i := 5) (v := ?_) rfl (by kernel_rfl) (by kernel_rfl) (by kernel_rfl) (fun _ _ _ h => h) (Or.inl ⟨by rfl, ?_⟩) hH ?_
  rotate_left
  · ((intro W hW; have hk := (by have h_ := ((hW.2.2)).look m; rw [HH.out] at h_; exact h_ : (Instr.lookup 81 (.map (some mb)) (.agg #[.int .u8 (m.a.toNat : Int), .int .u8 (m.b.toNat : Int), .int .u8 (m.c.toNat : Int), .int .u8 (m.d.toNat : Int), .int .u8 (m.e.toNat : Int), .int .u8 (m.f.toNat : Int)]) true).run Try.prog W = .ok (.tuple #[.agg #[.int .u8 (hm.a.toNat : Int), .int .u8 (hm.b.toNat : Int), .int .u8 (hm.c.toNat : Int), .int .u8 (hm.d.toNat : Int)], .bool true]) W); clear hW; go_simp) <;> with_reducible rfl)
  simp only [sq3, sq4]
  refine wpAnyH_take (i := 6) (v := ?_) rfl (by kernel_rfl) (by kernel_rfl) (by kernel_rfl) (fun _ _ _ h => h) (Or.inl ⟨by rfl, ?_⟩) hH ?_
  rotate_left
  · ((intro W hW; clear hW; go_simp) <;> with_reducible rfl)
  simp only [sq3, sq4]
  refine wpAnyH_take (i := 7) (v := ?_) rfl (by kernel_rfl) (by kernel_rfl) (by kernel_rfl) (fun _ _ _ h => h) (Or.inl ⟨by rfl, ?_⟩) hH ?_
  rotate_left
  · ((intro W hW; clear hW; go_simp) <;> with_reducible rfl)
  simp only [sq3, sq4]
  refine wpAnyH_take (i := 8) (v := ?_) rfl (by kernel_rfl) (by kernel_rfl) (by kernel_rfl) (fun _ _ _ h => h) (Or.inl ⟨by rfl, ?_⟩) hH ?_
  rotate_left
  · ((intro W hW; clear hW; go_simp) <;> with_reducible rfl)
  simp only [sq3, sq4]
  refine wpAnyH_ready (rs := [9]) (by kernel_rfl) (by simp) ?_
  refine AllReadyH.cons (o := _) rfl (fun K hK => ?_) AllReadyH.nil
  simp only [sq3]
  rw [if_pos (by rfl)]
  refine wp_new_a 28 rfl #[.int .u8 0, .int .u8 0, .int .u8 0, .int .u8 0] (by kernel_rfl) ?_
  intro g7 w4 ge hh bb
  have d_tb_hB := ne_new (hlt htb) ge
  have d_mB_hB := ne_new (hlt hmB) ge
  have d_aB_hB := ne_new (hlt haB) ge
  have av_en_hB := en.av_new ge
  have ohB := Nat.le_trans bel.size ge
  replace htb := blk_u htb bb
  replace hmB := blk_u hmB bb
  replace haB := blk_u haB bb
  replace en := en.below bb
  replace hM := hM.below bb
  replace bel := bel.trans (bb.mono bel.size)
  have hhB := hh
  clear hh ge bb
  refine hK.out _ _ ⟨htb, hmB, hM⟩ (fun hH5 => ?_)
  clear hK K
  simp only [sq4]
  refine wpAnyH_ready (rs := [10]) (by kernel_rfl) (by simp) ?_
  refine AllReadyH.cons (o := _) rfl (fun K hK => ?_) AllReadyH.nil
  simp only [sq3]
  rw [if_pos (by rfl)]
  refine wp_store_blk 28 (.tmp 7) (.tmp 19) rfl g7 rfl _ rfl _ 28 hhB (by rfl) (by kernel_rfl) (by kernel_rfl) ?_
  intro w6 hq gr
  replace en := en.away av_en_hB gr
  replace htb := blk_a htb gr d_tb_hB
  replace hmB := blk_a hmB gr d_mB_hB
  replace haB := blk_a haB gr d_aB_hB
  replace hM := hM.grown gr hhB
  replace bel := below_grown bel gr ohB bel.size
  clear hhB
  have hhB := hq
  clear hq gr
  refine hK.out _ _ ⟨htb, hmB, hM⟩ (fun hH7 => ?_)
  clear hK K
  simp only [Act.put]
  refine wpAnyH_take (i := 11) (v := ?_) rfl (by kernel_rfl) (by kernel_rfl) (by kernel_rfl) (fun _ _ _ h => h) (Or.inl ⟨by rfl, ?_⟩) hH7 ?_
  rotate_left
  · ((intro W hW; clear hW; go_simp) <;> with_reducible rfl)
  simp only [sq3, sq4]
  refine wpAnyH_done (by kernel_rfl) ?_ _
  rcases b with _ | _
  · have q24_ := q24
    clear q24
    have q24 : ∀ W, (binOp .neq 28 (.agg #[.int .u8 (a.a.toNat : Int), .int .u8 (a.b.toNat : Int), .int .u8 (a.c.toNat : Int), .int .u8 (a.d.toNat : Int)]) (.agg #[.int .u8 (hm.a.toNat : Int), .int .u8 (hm.b.toNat : Int), .int .u8 (hm.c.toNat : Int), .int .u8 (hm.d.toNat : Int)])).run Try.prog W = .ok (.bool true) W := q24_
    clear q24_
    have R22 := Lib.hid (range_lit haB 0 4 [.int .u8 (a.a.toNat : Int), .int .u8 (a.b.toNat : Int), .int .u8 (a.c.toNat : Int), .int .u8 (a.d.toNat : Int)] rfl)
    go_wp2_with (first | ((with_reducible show wpList _ _ _ (⟨some 22, _, _, _, _, _⟩ :: _) _ _); refine wpList_load_rng 28 (.tmp 5) rfl (by kernel_rfl) _ _ rfl _ R22.out _ Try.underlying28 rfl (by kernel_rfl) ?_; have R23 := Lib.hid (range_lit hhB 0 4 [.int .u8 (hm.a.toNat : Int), .int .u8 (hm.b.toNat : Int), .int .u8 (hm.c.toNat : Int), .int .u8 (hm.d.toNat : Int)] rfl)) | ((with_reducible show wpList _ _ _ (⟨some 23, _, _, _, _, _⟩ :: _) _ _); refine wpList_load_rng 28 (.tmp 7) rfl (by kernel_rfl) _ _ rfl _ R23.out _ Try.underlying28 rfl (by kernel_rfl) ?_))
    try clear R22
    try clear R23
    go_ret
    exact ⟨by rw [← HR.out]; rfl, bel⟩
  have q24_ := q24
  clear q24
  have q24 : ∀ W, (binOp .neq 28 (.agg #[.int .u8 (a.a.toNat : Int), .int .u8 (a.b.toNat : Int), .int .u8 (a.c.toNat : Int), .int .u8 (a.d.toNat : Int)]) (.agg #[.int .u8 (hm.a.toNat : Int), .int .u8 (hm.b.toNat : Int), .int .u8 (hm.c.toNat : Int), .int .u8 (hm.d.toNat : Int)])).run Try.prog W = .ok (.bool false) W := q24_
  clear q24_
  have R22 := Lib.hid (range_lit haB 0 4 [.int .u8 (a.a.toNat : Int), .int .u8 (a.b.toNat : Int), .int .u8 (a.c.toNat : Int), .int .u8 (a.d.toNat : Int)] rfl)
  go_wp2_with (first | ((with_reducible show wpList _ _ _ (⟨some 22, _, _, _, _, _⟩ :: _) _ _); refine wpList_load_rng 28 (.tmp 5) rfl (by kernel_rfl) _ _ rfl _ R22.out _ Try.underlying28 rfl (by kernel_rfl) ?_; have R23 := Lib.hid (range_lit hhB 0 4 [.int .u8 (hm.a.toNat : Int), .int .u8 (hm.b.toNat : Int), .int .u8 (hm.c.toNat : Int), .int .u8 (hm.d.toNat : Int)] rfl)) | ((with_reducible show wpList _ _ _ (⟨some 23, _, _, _, _, _⟩ :: _) _ _); refine wpList_load_rng 28 (.tmp 7) rfl (by kernel_rfl) _ _ rfl _ R23.out _ Try.underlying28 rfl (by kernel_rfl) ?_))
  try clear R22
  try clear R23
  go_ret
  exact ⟨by rw [← HR.out]; rfl, bel⟩
set_option linter.unusedVariables false in
set_option linter.unusedSimpArgs false in
set_option maxRecDepth 100000 in
set_option maxHeartbeats 16000000 in
theorem may_no {lo gt mb n c : Nat} {now : Int} {l : List Sd} {hs : List (Mc6 × Ad4)} {A : Option Addr} (m : Mc6) (a : Ad4) (w : World) (htb : w.heap[gt]? = some (.cells #[.int .i64 now, .map (some mb), .slice A n c] 84 (0, 0))) (en : Sle slE 15 w A n c l) (h32 : n ≤ 1000) (av_en_tb : Av A n gt) (hM : Hm lo mb w hs) (hS : SSrt l) (hh : homeF hs m = none) (hf : sfhas l a.num = false) : Calls Try.prog 69 #[.pointer (some ⟨gt, 0, none⟩), .agg #[.int .u8 (m.a.toNat : Int), .int .u8 (m.b.toNat : Int), .int .u8 (m.c.toNat : Int), .int .u8 (m.d.toNat : Int), .int .u8 (m.e.toNat : Int), .int .u8 (m.f.toNat : Int)], .agg #[.int .u8 (a.a.toNat : Int), .int .u8 (a.b.toNat : Int), .int .u8 (a.c.toNat : Int), .int .u8 (a.d.toNat : Int)]] w fun e w' => e = .returned (.int .i64 6) ∧ Below w.heap.size w w' := by
  have HH := Lib.hid hh
  clear hh
  have HS := Lib.hid hS
  clear hS
  have HF := Lib.hid hf
  clear hf
  obtain ⟨p, hp⟩ : ∃ p, sfpos l a.num = p := ⟨_, rfl⟩
  have HP := Lib.hid hp
  clear hp
  have bel := Below.refl w.heap.size w
  go_enter Try.func69, Try.ntmps69
  go_wp2_with (first | ((with_reducible show wpList _ _ _ (⟨some 4, _, _, _, _, _⟩ :: _) _ _); refine wpList_box_n rfl 32 (.tmp 1) rfl #[.int .u8 (m.a.toNat : Int), .int .u8 (m.b.toNat : Int), .int .u8 (m.c.toNat : Int), .int .u8 (m.d.toNat : Int), .int .u8 (m.e.toNat : Int), .int .u8 (m.f.toNat : Int)] rfl ?_; intro g4 w1 ge lt hh bb; have d_tb_mB := ne_new (hlt htb) ge; have av_en_mB := en.av_new ge; have omB := Nat.le_trans bel.size ge; replace htb := blk_u htb bb; replace en := en.below bb; replace hM := hM.below bb; replace bel := bel.trans (bb.mono bel.size); have hmB := hh; clear hh lt ge bb) | ((with_reducible show wpList _ _ _ (⟨some 5, _, _, _, _, _⟩ :: _) _ _); refine wpList_box_n rfl 28 (.tmp 2) rfl #[.int .u8 (a.a.toNat : Int), .int .u8 (a.b.toNat : Int), .int .u8 (a.c.toNat : Int), .int .u8 (a.d.toNat : Int)] rfl ?_; intro g5 w2 ge lt hh bb; have d_tb_aB := ne_new (hlt htb) ge; have d_mB_aB := ne_new (hlt hmB) ge; have av_en_aB := en.av_new ge; have oaB := Nat.le_trans bel.size ge; replace htb := blk_u htb bb; replace hmB := blk_u hmB bb; replace en := en.below bb; replace hM := hM.below bb; replace bel := bel.trans (bb.mono bel.size); have haB := hh; clear hh lt ge bb))
  replace bel := bel.drew
  replace htb : w2.drew.heap[gt]? = _ := htb
  replace hmB : w2.drew.heap[g4]? = _ := hmB
  replace haB : w2.drew.heap[g5]? = _ := haB
  replace en := en.drew
  replace hM := hm_drew hM
  refine wp_region_held_drew (S := fun W => W.heap[gt]? = some (.cells #[.int .i64 now, .map (some mb), .slice A n c] 84 (0, 0)) ∧ W.heap[g4]? = some (.cells #[.int .u8 (m.a.toNat : Int), .int .u8 (m.b.toNat : Int), .int .u8 (m.c.toNat : Int), .int .u8 (m.d.toNat : Int), .int .u8 (m.e.toNat : Int), .int .u8 (m.f.toNat : Int)] 32 (0, 0)) ∧ Hm lo mb W hs) (by kernel_rfl) ⟨htb, hmB, hM⟩ (fun hH => ?_)
  generalize w2.drew = w3 at bel htb hmB haB en hM hH ⊢
  refine wpAnyH_take (i := 0) (v := ?_) rfl (by kernel_rfl) (by kernel_rfl) (by kernel_rfl) (fun _ _ _ h => h) (Or.inl ⟨by rfl, ?_⟩) hH ?_
  rotate_left
  · ((intro W hW; clear hW; go_simp) <;> with_reducible rfl)
  simp only [Act.put, List.getElem_toArray, List.getElem_cons_zero, List.setIfInBounds_toArray, List.set_cons_zero, List.set_cons_succ]
  refine wpAnyH_take (i := 1) (v := ?_) rfl (by kernel_rfl) (by kernel_rfl) (by kernel_rfl) (fun _ _ _ h => h) (Or.inl ⟨by rfl, ?_⟩) hH ?_
  rotate_left
  · ((intro W hW; clear hW; go_simp) <;> with_reducible rfl)
  simp only [sq3, sq4]
  refine wpAnyH_take (i := 2) (v := ?_) rfl (by kernel_rfl) (by kernel_rfl) (by kernel_rfl) (fun _ _ _ h => h) (Or.inl ⟨by rfl, ?_⟩) hH ?_
  rotate_left
  · ((intro W hW; clear hW; go_simp) <;> with_reducible rfl)
  simp only [sq3, sq4]
  refine wpAnyH_take (i := 3) (v := ?_) rfl (by kernel_rfl) (by kernel_rfl) (by kernel_rfl) (fun _ _ _ h => h) (Or.inl ⟨by rfl, ?_⟩) hH ?_
  rotate_left
  · ((intro W hW; have hk := cell_lit (hW.1) 1 _ rfl; clear hW; go_simp) <;> with_reducible rfl)
  simp only [sq3, sq4]
  refine wpAnyH_take (i := 4) (v := .agg #[.int .u8 (m.a.toNat : Int), .int .u8 (m.b.toNat : Int), .int .u8 (m.c.toNat : Int), .int .u8 (m.d.toNat : Int), .int .u8 (m.e.toNat : Int), .int .u8 (m.f.toNat : Int)]) rfl (by kernel_rfl) (by kernel_rfl) (by kernel_rfl) (fun _ _ _ h => h) (yieldsIf_load_part (by kernel_rfl) 32 _ rfl g4 0 6 rfl _ 32 (0, 0) (fun W hW => hW.2.1) _ rfl _ Try.underlying32 rfl (by kernel_rfl)) hH ?_
  simp only [sq3, sq4]
  refine wpAnyH_take (i := 5) (v := ?_) rfl (by kernel_rfl) (by kernel_rfl) (by kernel_rfl) (fun _ _ _ h => h) (Or.inl ⟨by rfl, ?_⟩) hH ?_
  rotate_left
  · ((intro W hW; have hk := (by have h_ := ((hW.2.2)).look m; rw [HH.out] at h_; exact h_ : (Instr.lookup 81 (.map (some mb)) (.agg #[.int .u8 (m.a.toNat : Int), .int .u8 (m.b.toNat : Int), .int .u8 (m.c.toNat : Int), .int .u8 (m.d.toNat : Int), .int .u8 (m.e.toNat : Int), .int .u8 (m.f.toNat : Int)]) true).run Try.prog W = .ok (.tuple #[.agg #[.int .u8 0, .int .u8 0, .int .u8 0, .int .u8 0], .bool false]) W); clear hW; go_simp) <;> with_reducible rfl)
  simp only [sq3, sq4]
  refine wpAnyH_take (i := 6) (v := ?_) rfl (by kernel_rfl) (by kernel_rfl) (by kernel_rfl) (fun _ _ _ h => h) (Or.inl ⟨by rfl, ?_⟩) hH ?_
  rotate_left
  · ((intro W hW; clear hW; go_simp) <;> with_reducible rfl)
  simp only [sq3, sq4]
  refine wpAnyH_take (i := 7) (v := ?_) rfl (by kernel_rfl) (by kernel_rfl) (by kernel_rfl) (fun _ _ _ h => h) (Or.inl ⟨by rfl, ?_⟩) hH ?_
  rotate_left
  · ((intro W hW; clear hW; go_simp) <;> with_reducible rfl)
  simp only [sq3, sq4]
  refine wpAnyH_take (i := 8) (v := ?_) rfl (by kernel_rfl) (by kernel_rfl) (by kernel_rfl) (fun _ _ _ h => h) (Or.inl ⟨by rfl, ?_⟩) hH ?_
  rotate_left
  · ((intro W hW; clear hW; go_simp) <;> with_reducible rfl)
  simp only [sq3, sq4]
  refine wpAnyH_ready (rs := [9]) (by kernel_rfl) (by simp) ?_
  refine AllReadyH.cons (o := _) rfl (fun K hK => ?_) AllReadyH.nil
  simp only [sq3]
  rw [if_pos (by rfl)]
  refine wp_new_a 28 rfl #[.int .u8 0, .int .u8 0, .int .u8 0, .int .u8 0] (by kernel_rfl) ?_
  intro g7 w4 ge hh bb
  have d_tb_hB := ne_new (hlt htb) ge
  have d_mB_hB := ne_new (hlt hmB) ge
  have d_aB_hB := ne_new (hlt haB) ge
  have av_en_hB := en.av_new ge
  have ohB := Nat.le_trans bel.size ge
  replace htb := blk_u htb bb
  replace hmB := blk_u hmB bb
  replace haB := blk_u haB bb
  replace en := en.below bb
  replace hM := hM.below bb
  replace bel := bel.trans (bb.mono bel.size)
  have hhB := hh
  clear hh ge bb
  refine hK.out _ _ ⟨htb, hmB, hM⟩ (fun hH5 => ?_)
  clear hK K
  simp only [sq4]
  refine wpAnyH_ready (rs := [10]) (by kernel_rfl) (by simp) ?_
  refine AllReadyH.cons (o := _) rfl (fun K hK => ?_) AllReadyH.nil
  simp only [sq3]
  rw [if_pos (by rfl)]
  refine wp_store_blk 28 (.tmp 7) (.tmp 19) rfl g7 rfl _ rfl _ 28 hhB (by rfl) (by kernel_rfl) (by kernel_rfl) ?_
  intro w6 hq gr
  replace en := en.away av_en_hB gr
  replace htb := blk_a htb gr d_tb_hB
  replace hmB := blk_a hmB gr d_mB_hB
  replace haB := blk_a haB gr d_aB_hB
  replace hM := hM.grown gr hhB
  replace bel := below_grown bel gr ohB bel.size
  clear hhB
  have hhB := hq
  clear hq gr
  refine hK.out _ _ ⟨htb, hmB, hM⟩ (fun hH7 => ?_)
  clear hK K
  simp only [Act.put]
  refine wpAnyH_take (i := 11) (v := ?_) rfl (by kernel_rfl) (by kernel_rfl) (by kernel_rfl) (fun _ _ _ h => h) (Or.inl ⟨by rfl, ?_⟩) hH7 ?_
  rotate_left
  · ((intro W hW; clear hW; go_simp) <;> with_reducible rfl)
  simp only [sq3, sq4]
  refine wpAnyH_done (by kernel_rfl) ?_ _
  have R27 := Lib.hid (range_lit haB 0 4 [.int .u8 (a.a.toNat : Int), .int .u8 (a.b.toNat : Int), .int .u8 (a.c.toNat : Int), .int .u8 (a.d.toNat : Int)] rfl)
  go_wp2_with (first | ((with_reducible show wpList _ _ _ (⟨some 27, _, _, _, _, _⟩ :: _) _ _); refine wpList_load_rng 28 (.tmp 5) rfl (by kernel_rfl) _ _ rfl _ R27.out _ Try.underlying28 rfl (by kernel_rfl) ?_))
  try clear R27
  with_reducible refine (pfind_is a _ htb en HS.out h32 HP.out HF.out).mono ?_
  rintro e w8 ⟨rfl, b8⟩
  replace htb := blk_u htb b8
  replace hmB := blk_u hmB b8
  replace haB := blk_u haB b8
  replace hhB := blk_u hhB b8
  replace en := en.below b8
  replace hM := hM.below b8
  replace bel := bel.trans (b8.mono bel.size)
  clear b8
  have R37 := cell_lit htb 2 _ rfl
  go_wp2_with fail
  clear R37
  go_ret
  exact ⟨rfl, bel⟩
set_option linter.unusedVariables false in
set_option linter.unusedSimpArgs false in
set_option maxRecDepth 100000 in
set_option maxHeartbeats 16000000 in
theorem may_at {lo gt mb n c : Nat} {now : Int} {l : List Sd} {hs : List (Mc6 × Ad4)} {gE : Nat} {i : Nat} {x : Sd} {r : Int} (m : Mc6) (a : Ad4) (w : World) (htb : w.heap[gt]? = some (.cells #[.int .i64 now, .map (some mb), .slice (some ⟨gE, 0, none⟩) n c] 84 (0, 0))) (en : Sle slE 15 w (some ⟨gE, 0, none⟩) n c l) (h32 : n ≤ 1000) (av_en_tb : Av (some ⟨gE, 0, none⟩) n gt) (hM : Hm lo mb w hs) (hS : SSrt l) (hh : homeF hs m = none) (hx : l[i]? = some x) (hp : sfpos l a.num = i) (hf : sfhas l a.num = true) (hr : (if x.fx = true then 6 else if (!x.freeB now && !x.heldB m now) = true then 8 else 0) = r) : Calls Try.prog 69 #[.pointer (some ⟨gt, 0, none⟩), .agg #[.int .u8 (m.a.toNat : Int), .int .u8 (m.b.toNat : Int), .int .u8 (m.c.toNat : Int), .int .u8 (m.d.toNat : Int), .int .u8 (m.e.toNat : Int), .int .u8 (m.f.toNat : Int)], .agg #[.int .u8 (a.a.toNat : Int), .int .u8 (a.b.toNat : Int), .int .u8 (a.c.toNat : Int), .int .u8 (a.d.toNat : Int)]] w fun e w' => e = .returned (.int .i64 r) ∧ Below w.heap.size w w' := by
  have HR := Lib.hid hr
  clear hr
  have HH := Lib.hid hh
  clear hh
  have HS := Lib.hid hS
  clear hS
  have hin := (List.getElem?_eq_some_iff.1 hx).1
  have hl_ := en.1
  have hlt_ : i < n := by omega
  have i0 : (0 : Int) ≤ i := by omega
  have i1 : (i : Int) < n := by omega
  clear hin hl_ hlt_
  have HP := Lib.hid hp
  have HF := Lib.hid hf
  clear hp hf
  obtain ⟨xm, xa, xu, xf, xl, xr, xb⟩ := x
  have bel := Below.refl w.heap.size w
  go_enter Try.func69, Try.ntmps69
  go_wp2_with (first | ((with_reducible show wpList _ _ _ (⟨some 4, _, _, _, _, _⟩ :: _) _ _); refine wpList_box_n rfl 32 (.tmp 1) rfl #[.int .u8 (m.a.toNat : Int), .int .u8 (m.b.toNat : Int), .int .u8 (m.c.toNat : Int), .int .u8 (m.d.toNat : Int), .int .u8 (m.e.toNat : Int), .int .u8 (m.f.toNat : Int)] rfl ?_; intro g4 w1 ge lt hh bb; have d_tb_mB := ne_new (hlt htb) ge; have av_en_mB := en.av_new ge; have omB := Nat.le_trans bel.size ge; replace htb := blk_u htb bb; replace en := en.below bb; replace hM := hM.below bb; replace bel := bel.trans (bb.mono bel.size); have hmB := hh; clear hh lt ge bb) | ((with_reducible show wpList _ _ _ (⟨some 5, _, _, _, _, _⟩ :: _) _ _); refine wpList_box_n rfl 28 (.tmp 2) rfl #[.int .u8 (a.a.toNat : Int), .int .u8 (a.b.toNat : Int), .int .u8 (a.c.toNat : Int), .int .u8 (a.d.toNat : Int)] rfl ?_; intro g5 w2 ge lt hh bb; have d_tb_aB := ne_new (hlt htb) ge; have d_mB_aB := ne_new (hlt hmB) ge; have av_en_aB := en.av_new ge; have oaB := Nat.le_trans bel.size ge; replace htb := blk_u htb bb; replace hmB := blk_u hmB bb; replace en := en.below bb; replace hM := hM.below bb; replace bel := bel.trans (bb.mono bel.size); have haB := hh; clear hh lt ge bb))
  replace bel := bel.drew
  replace htb : w2.drew.heap[gt]? = _ := htb
  replace hmB : w2.drew.heap[g4]? = _ := hmB
  replace haB : w2.drew.heap[g5]? = _ := haB
  replace en := en.drew
  replace hM := hm_drew hM
  refine wp_region_held_drew (S := fun W => W.heap[gt]? = some (.cells #[.int .i64 now, .map (some mb), .slice (some ⟨gE, 0, none⟩) n c] 84 (0, 0)) ∧ W.heap[g4]? = some (.cells #[.int .u8 (m.a.toNat : Int), .int .u8 (m.b.toNat : Int), .int .u8 (m.c.toNat : Int), .int .u8 (m.d.toNat : Int), .int .u8 (m.e.toNat : Int), .int .u8 (m.f.toNat : Int)] 32 (0, 0)) ∧ Hm lo mb W hs) (by kernel_rfl) ⟨htb, hmB, hM⟩ (fun hH => ?_)
  generalize w2.drew = w3 at bel htb hmB haB en hM hH ⊢
  refine wpAnyH_take (i := 0) (v := ?_) rfl (by kernel_rfl) (by kernel_rfl) (by kernel_rfl) (fun _ _ _ h => h) (Or.inl ⟨by rfl, ?_⟩) hH ?_
  rotate_left
  · ((intro W hW; clear hW; go_simp) <;> with_reducible rfl)
  simp only [Act.put, List.getElem_toArray, List.getElem_cons_zero, List.setIfInBounds_toArray, List.set_cons_zero, List.set_cons_succ]
  refine wpAnyH_take (i := 1) (v := ?_) rfl (by kernel_rfl) (by kernel_rfl) (by kernel_rfl) (fun _ _ _ h => h) (Or.inl ⟨by rfl, ?_⟩) hH ?_
  rotate_left
  · ((intro W hW; clear hW; go_simp) <;> with_reducible rfl)
  simp only [sq3, sq4]
  refine wpAnyH_take (i := 2) (v := ?_) rfl (by kernel_rfl) (by kernel_rfl) (by kernel_rfl) (fun _ _ _ h => h) (Or.inl ⟨by rfl, ?_⟩) hH ?_
  rotate_left
  · ((intro W hW; clear hW; go_simp) <;> with_reducible rfl)
  simp only [sq3, sq4]
  refine wpAnyH_take (i := 3) (v := ?_) rfl (by kernel_rfl) (by kernel_rfl) (by kernel_rfl) (fun _ _ _ h => h) (Or.inl ⟨by rfl, ?_⟩) hH ?_
  rotate_left
  · ((intro W hW; have hk := cell_lit (hW.1) 1 _ rfl; clear hW; go_simp) <;> with_reducible rfl)
  simp only [sq3, sq4]
  refine wpAnyH_take (i := 4) (v := .agg #[.int .u8 (m.a.toNat : Int), .int .u8 (m.b.toNat : Int), .int .u8 (m.c.toNat : Int), .int .u8 (m.d.toNat : Int), .int .u8 (m.e.toNat : Int), .int .u8 (m.f.toNat : Int)]) rfl (by kernel_rfl) (by kernel_rfl) (by kernel_rfl) (fun _ _ _ h => h) (yieldsIf_load_part (by kernel_rfl) 32 _ rfl g4 0 6 rfl _ 32 (0, 0) (fun W hW => hW.2.1) _ rfl _ Try.underlying32 rfl (by kernel_rfl)) hH ?_
  simp only [sq3, sq4]
  refine wpAnyH_take (i := 5) (v := ?_) rfl (by kernel_rfl) (by kernel_rfl) (by kernel_rfl) (fun _ _ _ h => h) (Or.inl ⟨by rfl, ?_⟩) hH ?_
  rotate_left
  · ((intro W hW; have hk := (by have h_ := ((hW.2.2)).look m; rw [HH.out] at h_; exact h_ : (Instr.lookup 81 (.map (some mb)) (.agg #[.int .u8 (m.a.toNat : Int), .int .u8 (m.b.toNat : Int), .int .u8 (m.c.toNat : Int), .int .u8 (m.d.toNat : Int), .int .u8 (m.e.toNat : Int), .int .u8 (m.f.toNat : Int)]) true).run Try.prog W = .ok (.tuple #[.agg #[.int .u8 0, .int .u8 0, .int .u8 0, .int .u8 0], .bool false]) W); clear hW; go_simp) <;> with_reducible rfl)
  simp only [sq3, sq4]
  refine wpAnyH_take (i := 6) (v := ?_) rfl (by kernel_rfl) (by kernel_rfl) (by kernel_rfl) (fun _ _ _ h => h) (Or.inl ⟨by rfl, ?_⟩) hH ?_
  rotate_left
  · ((intro W hW; clear hW; go_simp) <;> with_reducible rfl)
  simp only [sq3, sq4]
  refine wpAnyH_take (i := 7) (v := ?_) rfl (by kernel_rfl) (by kernel_rfl) (by kernel_rfl) (fun _ _ _ h => h) (Or.inl ⟨by rfl, ?_⟩) hH ?_
  rotate_left
  · ((intro W hW; clear hW; go_simp) <;> with_reducible rfl)
  simp only [sq3, sq4]
  refine wpAnyH_take (i := 8) (v := ?_) rfl (by kernel_rfl) (by kernel_rfl) (by kernel_rfl) (fun _ _ _ h => h) (Or.inl ⟨by rfl, ?_⟩) hH ?_
  rotate_left
  · ((intro W hW; clear hW; go_simp) <;> with_reducible rfl)
  simp only [sq3, sq4]
  refine wpAnyH_ready (rs := [9]) (by kernel_rfl) (by simp) ?_
  refine AllReadyH.cons (o := _) rfl (fun K hK => ?_) AllReadyH.nil
  simp only [sq3]
  rw [if_pos (by rfl)]
  refine wp_new_a 28 rfl #[.int .u8 0, .int .u8 0, .int .u8 0, .int .u8 0] (by kernel_rfl) ?_
  intro g7 w4 ge hh bb
  have d_tb_hB := ne_new (hlt htb) ge
  have d_mB_hB := ne_new (hlt hmB) ge
  have d_aB_hB := ne_new (hlt haB) ge
  have av_en_hB := en.av_new ge
  have ohB := Nat.le_trans bel.size ge
  replace htb := blk_u htb bb
  replace hmB := blk_u hmB bb
  replace haB := blk_u haB bb
  replace en := en.below bb
  replace hM := hM.below bb
  replace bel := bel.trans (bb.mono bel.size)
  have hhB := hh
  clear hh ge bb
  refine hK.out _ _ ⟨htb, hmB, hM⟩ (fun hH5 => ?_)
  clear hK K
  simp only [sq4]
  refine wpAnyH_ready (rs := [10]) (by kernel_rfl) (by simp) ?_
  refine AllReadyH.cons (o := _) rfl (fun K hK => ?_) AllReadyH.nil
  simp only [sq3]
  rw [if_pos (by rfl)]
  refine wp_store_blk 28 (.tmp 7) (.tmp 19) rfl g7 rfl _ rfl _ 28 hhB (by rfl) (by kernel_rfl) (by kernel_rfl) ?_
  intro w6 hq gr
  replace en := en.away av_en_hB gr
  replace htb := blk_a htb gr d_tb_hB
  replace hmB := blk_a hmB gr d_mB_hB
  replace haB := blk_a haB gr d_aB_hB
  replace hM := hM.grown gr hhB
  replace bel := below_grown bel gr ohB bel.size
  clear hhB
  have hhB := hq
  clear hq gr
  refine hK.out _ _ ⟨htb, hmB, hM⟩ (fun hH7 => ?_)
  clear hK K
  simp only [Act.put]
  refine wpAnyH_take (i := 11) (v := ?_) rfl (by kernel_rfl) (by kernel_rfl) (by kernel_rfl) (fun _ _ _ h => h) (Or.inl ⟨by rfl, ?_⟩) hH7 ?_
  rotate_left
  · ((intro W hW; clear hW; go_simp) <;> with_reducible rfl)
  simp only [sq3, sq4]
  refine wpAnyH_done (by kernel_rfl) ?_ _
  have R27 := Lib.hid (range_lit haB 0 4 [.int .u8 (a.a.toNat : Int), .int .u8 (a.b.toNat : Int), .int .u8 (a.c.toNat : Int), .int .u8 (a.d.toNat : Int)] rfl)
  go_wp2_with (first | ((with_reducible show wpList _ _ _ (⟨some 27, _, _, _, _, _⟩ :: _) _ _); refine wpList_load_rng 28 (.tmp 5) rfl (by kernel_rfl) _ _ rfl _ R27.out _ Try.underlying28 rfl (by kernel_rfl) ?_))
  try clear R27
  with_reducible refine (pfind_is a _ htb en HS.out h32 HP.out HF.out).mono ?_
  rintro e w8 ⟨rfl, b8⟩
  replace htb := blk_u htb b8
  replace hmB := blk_u hmB b8
  replace haB := blk_u haB b8
  replace hhB := blk_u hhB b8
  replace en := en.below b8
  replace hM := hM.below b8
  replace bel := bel.trans (b8.mono bel.size)
  clear b8
  rcases xf with _ | _
  rotate_left
  · have HX := Lib.hid hx
    clear hx
    have R37 := cell_lit htb 2 _ rfl
    have R41 := Sle.zcell en HX.out 11 _ rfl
    go_wp2_with fail
    clear R37 R41
    go_ret
    exact ⟨by rw [← HR.out]; rfl, bel⟩
  have HX := Lib.hid hx
  clear hx
  obtain ⟨b1, HB1_⟩ : ∃ b, Sd.freeB now ⟨xm, xa, xu, false, xl, xr, xb⟩ = b := ⟨_, rfl⟩
  have HB1 := Lib.hid HB1_
  clear HB1_
  obtain ⟨b2, HB2_⟩ : ∃ b, Sd.heldB m now ⟨xm, xa, xu, false, xl, xr, xb⟩ = b := ⟨_, rfl⟩
  have HB2 := Lib.hid HB2_
  clear HB2_
  have R37 := cell_lit htb 2 _ rfl
  have R41 := Sle.zcell en HX.out 11 _ rfl
  have R46 := cell_lit htb 2 _ rfl
  go_wp2_with fail
  clear R37 R41 R46
  replace bel := bel.drew
  replace htb : w8.drew.heap[gt]? = _ := htb
  replace hmB : w8.drew.heap[g4]? = _ := hmB
  replace haB : w8.drew.heap[g5]? = _ := haB
  replace hhB : w8.drew.heap[g7]? = _ := hhB
  replace en := en.drew
  replace hM := hm_drew hM
  refine wp_region_held_drew (S := fun W => W.heap[gt]? = some (.cells #[.int .i64 now, .map (some mb), .slice (some ⟨gE, 0, none⟩) n c] 84 (0, 0)) ∧ W.heap[g4]? = some (.cells #[.int .u8 (m.a.toNat : Int), .int .u8 (m.b.toNat : Int), .int .u8 (m.c.toNat : Int), .int .u8 (m.d.toNat : Int), .int .u8 (m.e.toNat : Int), .int .u8 (m.f.toNat : Int)] 32 (0, 0))) (by kernel_rfl) ⟨htb, hmB⟩ (fun hH => ?_)
  generalize w8.drew = w9 at bel htb hmB haB hhB en hM hH ⊢
  refine wpAnyH_take (i := 0) (v := ?_) rfl (by kernel_rfl) (by kernel_rfl) (by kernel_rfl) (fun _ _ _ h => h) (Or.inl ⟨by rfl, ?_⟩) hH ?_
  rotate_left
  · ((intro W hW; clear hW; go_simp) <;> with_reducible rfl)
  simp only [Act.put, List.getElem_toArray, List.getElem_cons_zero, List.setIfInBounds_toArray, List.set_cons_zero, List.set_cons_succ]
  refine wpAnyH_take (i := 1) (v := ?_) rfl (by kernel_rfl) (by kernel_rfl) (by kernel_rfl) (fun _ _ _ h => h) (Or.inl ⟨by rfl, ?_⟩) hH ?_
  rotate_left
  · ((intro W hW; clear hW; go_simp) <;> with_reducible rfl)
  simp only [sq3, sq4]
  refine wpAnyH_take (i := 2) (v := ?_) rfl (by kernel_rfl) (by kernel_rfl) (by kernel_rfl) (fun _ _ _ h => h) (Or.inl ⟨by rfl, ?_⟩) hH ?_
  rotate_left
  · ((intro W hW; clear hW; go_simp) <;> with_reducible rfl)
  simp only [sq3, sq4]
  refine wpAnyH_take (i := 3) (v := ?_) rfl (by kernel_rfl) (by kernel_rfl) (by kernel_rfl) (fun _ _ _ h => h) (Or.inl ⟨by rfl, ?_⟩) hH ?_
  rotate_left
  · ((intro W hW; clear hW; go_simp) <;> with_reducible rfl)
  simp only [sq3, sq4]
  refine wpAnyH_take (i := 4) (v := ?_) rfl (by kernel_rfl) (by kernel_rfl) (by kernel_rfl) (fun _ _ _ h => h) (Or.inl ⟨by rfl, ?_⟩) hH ?_
  rotate_left
  · ((intro W hW; have hk := cell_lit (hW.1) 0 _ rfl; clear hW; go_simp) <;> with_reducible rfl)
  simp only [sq3, sq4]
  rcases b1 with _ | _
  rotate_left
  · refine wpAnyH_ready (rs := [5]) (by kernel_rfl) (by simp) ?_
    refine AllReadyH.cons (o := _) rfl (fun K hK => ?_) AllReadyH.nil
    simp only [sq3]
    go_simp
    with_reducible refine (free_el _ en HX.out HB1.out).mono ?_
    rintro e _ ⟨rfl, rfl⟩
    dsimp only
    refine hK.out _ _ ⟨htb, hmB⟩ (fun hH10 => ?_)
    clear hK K
    refine wpAnyH_take (i := 6) (v := ?_) rfl (by kernel_rfl) (by kernel_rfl) (by kernel_rfl) (fun _ _ _ h => h) (Or.inl ⟨by rfl, ?_⟩) hH10 ?_
    rotate_left
    · ((intro W hW; clear hW; go_simp) <;> with_reducible rfl)
    simp only [sq3, sq4]
    refine wpAnyH_take (i := 7) (v := ?_) rfl (by kernel_rfl) (by kernel_rfl) (by kernel_rfl) (fun _ _ _ h => h) (Or.inl ⟨by rfl, ?_⟩) hH10 ?_
    rotate_left
    · ((intro W hW; clear hW; go_simp) <;> with_reducible rfl)
    simp only [sq3, sq4]
    refine wpAnyH_take (i := 8) (v := undef) rfl (by kernel_rfl) (by kernel_rfl) (by kernel_rfl) (fun _ _ _ h => h) (Or.inr ⟨by rfl, rfl⟩) hH10 ?_
    simp only [sq3, sq4]
    refine wpAnyH_take (i := 9) (v := undef) rfl (by kernel_rfl) (by kernel_rfl) (by kernel_rfl) (fun _ _ _ h => h) (Or.inr ⟨by rfl, rfl⟩) hH10 ?_
    simp only [sq3, sq4]
    refine wpAnyH_take (i := 10) (v := undef) rfl (by kernel_rfl) (by kernel_rfl) (by kernel_rfl) (fun _ _ _ h => h) (Or.inr ⟨by rfl, rfl⟩) hH10 ?_
    simp only [sq3, sq4]
    refine wpAnyH_take (i := 11) (v := undef) rfl (by kernel_rfl) (by kernel_rfl) (by kernel_rfl) (fun _ _ _ h => h) (Or.inr ⟨by rfl, rfl⟩) hH10 ?_
    simp only [sq3, sq4]
    refine wpAnyH_take (i := 12) (v := undef) rfl (by kernel_rfl) (by kernel_rfl) (by kernel_rfl) (fun _ _ _ h => h) (Or.inr ⟨by rfl, rfl⟩) hH10 ?_
    simp only [sq3, sq4]
    refine wpAnyH_take (i := 13) (v := undef) rfl (by kernel_rfl) (by kernel_rfl) (by kernel_rfl) (fun _ _ _ h => h) (Or.inr ⟨by rfl, rfl⟩) hH10 ?_
    simp only [sq3, sq4]
    refine wpAnyH_take (i := 14) (v := undef) rfl (by kernel_rfl) (by kernel_rfl) (by kernel_rfl) (fun _ _ _ h => h) (Or.inr ⟨by rfl, rfl⟩) hH10 ?_
    simp only [sq3, sq4]
    refine wpAnyH_take (i := 15) (v := undef) rfl (by kernel_rfl) (by kernel_rfl) (by kernel_rfl) (fun _ _ _ h => h) (Or.inr ⟨by rfl, rfl⟩) hH10 ?_
    simp only [sq3, sq4]
    refine wpAnyH_take (i := 16) (v := ?_) rfl (by kernel_rfl) (by kernel_rfl) (by kernel_rfl) (fun _ _ _ h => h) (Or.inl ⟨by rfl, ?_⟩) hH10 ?_
    rotate_left
    · ((intro W hW; clear hW; go_simp) <;> with_reducible rfl)
    simp only [sq3, sq4]
    refine wpAnyH_done (by kernel_rfl) ?_ _
    go_wp2_with fail
    go_ret
    exact ⟨by rw [← HR.out, HB1.out]; rfl, bel⟩
  refine wpAnyH_ready (rs := [5]) (by kernel_rfl) (by simp) ?_
  refine AllReadyH.cons (o := _) rfl (fun K hK => ?_) AllReadyH.nil
  simp only [sq3]
  go_simp
  with_reducible refine (free_el _ en HX.out HB1.out).mono ?_
  rintro e _ ⟨rfl, rfl⟩
  dsimp only
  refine hK.out _ _ ⟨htb, hmB⟩ (fun hH10 => ?_)
  clear hK K
  refine wpAnyH_take (i := 6) (v := ?_) rfl (by kernel_rfl) (by kernel_rfl) (by kernel_rfl) (fun _ _ _ h => h) (Or.inl ⟨by rfl, ?_⟩) hH10 ?_
  rotate_left
  · ((intro W hW; clear hW; go_simp) <;> with_reducible rfl)
  simp only [sq3, sq4]
  refine wpAnyH_take (i := 7) (v := ?_) rfl (by kernel_rfl) (by kernel_rfl) (by kernel_rfl) (fun _ _ _ h => h) (Or.inl ⟨by rfl, ?_⟩) hH10 ?_
  rotate_left
  · ((intro W hW; clear hW; go_simp) <;> with_reducible rfl)
  simp only [sq3, sq4]
  refine wpAnyH_take (i := 8) (v := ?_) rfl (by kernel_rfl) (by kernel_rfl) (by kernel_rfl) (fun _ _ _ h => h) (Or.inl ⟨by rfl, ?_⟩) hH10 ?_
  rotate_left
  · ((intro W hW; clear hW; go_simp) <;> with_reducible rfl)
  simp only [sq3, sq4]
  refine wpAnyH_take (i := 9) (v := .agg #[.int .u8 (m.a.toNat : Int), .int .u8 (m.b.toNat : Int), .int .u8 (m.c.toNat : Int), .int .u8 (m.d.toNat : Int), .int .u8 (m.e.toNat : Int), .int .u8 (m.f.toNat : Int)]) rfl (by kernel_rfl) (by kernel_rfl) (by kernel_rfl) (fun _ _ _ h => h) (yieldsIf_load_part (by kernel_rfl) 32 _ rfl g4 0 6 rfl _ 32 (0, 0) (fun W hW => hW.2) _ rfl _ Try.underlying32 rfl (by kernel_rfl)) hH10 ?_
  simp only [sq3, sq4]
  refine wpAnyH_take (i := 10) (v := ?_) rfl (by kernel_rfl) (by kernel_rfl) (by kernel_rfl) (fun _ _ _ h => h) (Or.inl ⟨by rfl, ?_⟩) hH10 ?_
  rotate_left
  · ((intro W hW; clear hW; go_simp) <;> with_reducible rfl)
  simp only [sq3, sq4]
  refine wpAnyH_take (i := 11) (v := ?_) rfl (by kernel_rfl) (by kernel_rfl) (by kernel_rfl) (fun _ _ _ h => h) (Or.inl ⟨by rfl, ?_⟩) hH10 ?_
  rotate_left
  · ((intro W hW; clear hW; go_simp) <;> with_reducible rfl)
  simp only [sq3, sq4]
  refine wpAnyH_take (i := 12) (v := ?_) rfl (by kernel_rfl) (by kernel_rfl) (by kernel_rfl) (fun _ _ _ h => h) (Or.inl ⟨by rfl, ?_⟩) hH10 ?_
  rotate_left
  · ((intro W hW; clear hW; go_simp) <;> with_reducible rfl)
  simp only [sq3, sq4]
  refine wpAnyH_take (i := 13) (v := ?_) rfl (by kernel_rfl) (by kernel_rfl) (by kernel_rfl) (fun _ _ _ h => h) (Or.inl ⟨by rfl, ?_⟩) hH10 ?_
  rotate_left
  · ((intro W hW; have hk := cell_lit (hW.1) 0 _ rfl; clear hW; go_simp) <;> with_reducible rfl)
  simp only [sq3, sq4]
  rcases b2 with _ | _
  rotate_left
  · refine wpAnyH_ready (rs := [14]) (by kernel_rfl) (by simp) ?_
    refine AllReadyH.cons (o := _) rfl (fun K hK => ?_) AllReadyH.nil
    simp only [sq3]
    go_simp
    with_reducible refine (held_el _ en HX.out HB2.out).mono ?_
    rintro e w11 ⟨rfl, b11⟩
    dsimp only
    replace htb := blk_u htb b11
    replace hmB := blk_u hmB b11
    replace haB := blk_u haB b11
    replace hhB := blk_u hhB b11
    replace en := en.below b11
    replace hM := hM.below b11
    replace bel := bel.trans (b11.mono bel.size)
    clear b11
    refine hK.out _ _ ⟨htb, hmB⟩ (fun hH12 => ?_)
    clear hK K
    refine wpAnyH_take (i := 15) (v := ?_) rfl (by kernel_rfl) (by kernel_rfl) (by kernel_rfl) (fun _ _ _ h => h) (Or.inl ⟨by rfl, ?_⟩) hH12 ?_
    rotate_left
    · ((intro W hW; clear hW; go_simp) <;> with_reducible rfl)
    simp only [sq3, sq4]
    refine wpAnyH_take (i := 16) (v := ?_) rfl (by kernel_rfl) (by kernel_rfl) (by kernel_rfl) (fun _ _ _ h => h) (Or.inl ⟨by rfl, ?_⟩) hH12 ?_
    rotate_left
    · ((intro W hW; clear hW; go_simp) <;> with_reducible rfl)
    simp only [sq3, sq4]
    refine wpAnyH_done (by kernel_rfl) ?_ _
    go_wp2_with fail
    go_ret
    exact ⟨by rw [← HR.out, HB1.out, HB2.out]; rfl, bel⟩
  refine wpAnyH_ready (rs := [14]) (by kernel_rfl) (by simp) ?_
  refine AllReadyH.cons (o := _) rfl (fun K hK => ?_) AllReadyH.nil
  simp only [sq3]
  go_simp
  with_reducible refine (held_el _ en HX.out HB2.out).mono ?_
  rintro e w11 ⟨rfl, b11⟩
  dsimp only
  replace htb := blk_u htb b11
  replace hmB := blk_u hmB b11
  replace haB := blk_u haB b11
  replace hhB := blk_u hhB b11
  replace en := en.below b11
  replace hM := hM.below b11
  replace bel := bel.trans (b11.mono bel.size)
  clear b11
  refine hK.out _ _ ⟨htb, hmB⟩ (fun hH12 => ?_)
  clear hK K
  refine wpAnyH_take (i := 15) (v := ?_) rfl (by kernel_rfl) (by kernel_rfl) (by kernel_rfl) (fun _ _ _ h => h) (Or.inl ⟨by rfl, ?_⟩) hH12 ?_
  rotate_left
  · ((intro W hW; clear hW; go_simp) <;> with_reducible rfl)
  simp only [sq3, sq4]
  refine wpAnyH_take (i := 16) (v := ?_) rfl (by kernel_rfl) (by kernel_rfl) (by kernel_rfl) (fun _ _ _ h => h) (Or.inl ⟨by rfl, ?_⟩) hH12 ?_
  rotate_left
  · ((intro W hW; clear hW; go_simp) <;> with_reducible rfl)
  simp only [sq3, sq4]
  refine wpAnyH_done (by kernel_rfl) ?_ _
  go_wp2_with fail
  go_ret
  exact ⟨by rw [← HR.out, HB1.out, HB2.out]; rfl, bel⟩
/-- mayTake, whichever way. -/
theorem may_any {lo gt mb n c : Nat} {now : Int} {l : List Sd} {hs : List (Mc6 × Ad4)} {A : Option Addr} {r : Int} (m : Mc6) (a : Ad4) (w : World) (htb : w.heap[gt]? = some (.cells #[.int .i64 now, .map (some mb), .slice A n c] 84 (0, 0))) (own : w.ownsRow lo 101 15 (.slice A n c) n (l.flatMap slE)) (h32 : n ≤ 1000) (hM : Hm lo mb w hs) (hS : SSrt l) (hr : mayE ⟨now, hs, l⟩ m a = r) : Calls Try.prog 69 #[.pointer (some ⟨gt, 0, none⟩), .agg #[.int .u8 (m.a.toNat : Int), .int .u8 (m.b.toNat : Int), .int .u8 (m.c.toNat : Int), .int .u8 (m.d.toNat : Int), .int .u8 (m.e.toNat : Int), .int .u8 (m.f.toNat : Int)], .agg #[.int .u8 (a.a.toNat : Int), .int .u8 (a.b.toNat : Int), .int .u8 (a.c.toNat : Int), .int .u8 (a.d.toNat : Int)]] w fun e w' => e = .returned (.int .i64 r) ∧ Below w.heap.size w w' := by
  have en := (owk_sle (by decide) slE_len own).1
  have av := owk_av own (ofs_type own htb (by decide))
  rw [← hr]
  unfold mayE
  cases hh : homeF hs m with
  | some b =>
    simp only
    exact may_home m a w htb en h32 av hM hh rfl rfl
  | none =>
    simp only
    cases hf : sfhas l a.num with
    | false =>
      rw [if_neg (by decide)]
      exact may_no m a w htb en h32 av hM hS hh hf
    | true =>
      rw [if_pos rfl]
      obtain ⟨x, hx, _⟩ := sfhas_at hf
      rw [hx]
      have hn : 0 < n := by have := (List.getElem?_eq_some_iff.1 hx).1; have := en.1; omega
      obtain ⟨gE, rfl, _⟩ := row_at own hn
      exact may_at m a w htb en h32 av hM hS hh hx rfl hf rfl
/-- liveOf, over the pool's own row. -/
theorem lof_none {lo gt mb n c : Nat} {now : Int} {l : List Sd} {A : Option Addr} (m : Mc6) (w : World) (htb : w.heap[gt]? = some (.cells #[.int .i64 now, .map (some mb), .slice A n c] 84 (0, 0))) (own : w.ownsRow lo 101 15 (.slice A n c) n (l.flatMap slE)) (h32 : n ≤ 1000) (hf : hldF m now l = none) : Calls Try.prog 63 #[.pointer (some ⟨gt, 0, none⟩), .agg #[.int .u8 (m.a.toNat : Int), .int .u8 (m.b.toNat : Int), .int .u8 (m.c.toNat : Int), .int .u8 (m.d.toNat : Int), .int .u8 (m.e.toNat : Int), .int .u8 (m.f.toNat : Int)]] w fun e w' => e = .returned (.pointer none) ∧ Below w.heap.size w w' := by
  rcases Nat.eq_zero_or_pos n with h0 | h0
  · subst h0
    exact lof_nil m w htb
  · obtain ⟨gE, rfl, _⟩ := row_at own h0
    exact lof_none_pos m w htb (owk_sle (by decide) slE_len own).1 h32 (owk_av own (ofs_type own htb (by decide))) hf
theorem lof_at {lo gt mb n c gE i : Nat} {now : Int} {l : List Sd} (m : Mc6) (w : World) (htb : w.heap[gt]? = some (.cells #[.int .i64 now, .map (some mb), .slice (some ⟨gE, 0, none⟩) n c] 84 (0, 0))) (own : w.ownsRow lo 101 15 (.slice (some ⟨gE, 0, none⟩) n c) n (l.flatMap slE)) (h32 : n ≤ 1000) (hf : hldF m now l = some i) : Calls Try.prog 63 #[.pointer (some ⟨gt, 0, none⟩), .agg #[.int .u8 (m.a.toNat : Int), .int .u8 (m.b.toNat : Int), .int .u8 (m.c.toNat : Int), .int .u8 (m.d.toNat : Int), .int .u8 (m.e.toNat : Int), .int .u8 (m.f.toNat : Int)]] w fun e w' => e = .returned (.pointer (some ⟨gE, i * 15, none⟩)) ∧ Below w.heap.size w w' :=
  lof_some m w htb (owk_sle (by decide) slE_len own).1 h32 (owk_av own (ofs_type own htb (by decide))) hf
theorem bf_none {lo gt mb n c : Nat} {now : Int} {l : List Sd} {A : Option Addr} (m : Mc6) (w : World) (htb : w.heap[gt]? = some (.cells #[.int .i64 now, .map (some mb), .slice A n c] 84 (0, 0))) (own : w.ownsRow lo 101 15 (.slice A n c) n (l.flatMap slE)) (h32 : n ≤ 1000) (hf : bestF m now l n = none) : Calls Try.prog 65 #[.pointer (some ⟨gt, 0, none⟩), .agg #[.int .u8 (m.a.toNat : Int), .int .u8 (m.b.toNat : Int), .int .u8 (m.c.toNat : Int), .int .u8 (m.d.toNat : Int), .int .u8 (m.e.toNat : Int), .int .u8 (m.f.toNat : Int)]] w fun e w' => e = .returned (.pointer none) ∧ Below w.heap.size w w' := by
  rcases Nat.eq_zero_or_pos n with h0 | h0
  · subst h0
    exact bf_nil m w htb
  · obtain ⟨gE, rfl, _⟩ := row_at own h0
    exact bf_none_pos m w htb (owk_sle (by decide) slE_len own).1 h32 (owk_av own (ofs_type own htb (by decide))) hf
theorem bf_at {lo gt mb n c gE i : Nat} {now : Int} {l : List Sd} (m : Mc6) (w : World) (htb : w.heap[gt]? = some (.cells #[.int .i64 now, .map (some mb), .slice (some ⟨gE, 0, none⟩) n c] 84 (0, 0))) (own : w.ownsRow lo 101 15 (.slice (some ⟨gE, 0, none⟩) n c) n (l.flatMap slE)) (h32 : n ≤ 1000) (hf : bestF m now l n = some i) : Calls Try.prog 65 #[.pointer (some ⟨gt, 0, none⟩), .agg #[.int .u8 (m.a.toNat : Int), .int .u8 (m.b.toNat : Int), .int .u8 (m.c.toNat : Int), .int .u8 (m.d.toNat : Int), .int .u8 (m.e.toNat : Int), .int .u8 (m.f.toNat : Int)]] w fun e w' => e = .returned (.pointer (some ⟨gE, i * 15, none⟩)) ∧ Below w.heap.size w w' :=
  bf_some m w htb (owk_sle (by decide) slE_len own).1 h32 (owk_av own (ofs_type own htb (by decide))) hf
open Go.RowKit

section
variable {k : Nat} {w : World} {B n c g : Nat} {T : TypeId} {xs : List Value}
theorem row_of (h : w.ownsRow B T k (.slice (some ⟨g, 0, none⟩) n c) n xs) : xs.length = n * k ∧ ∃ cur : List Value, B ≤ g ∧ w.heap[g]? = some (.cells cur.toArray T (0, 0)) ∧ n ≤ c ∧ c ≤ maxLen ∧ cur.length = c * k ∧ cur.take (n * k) = xs := by
  refine ⟨h.1, ?_⟩
  rcases h.2 with ⟨e, _⟩ | ⟨g', cap, cur, e, hb, hh, hn, hc, hs, ht⟩
  · cases e
  · injection e with e1 e2 e3
    injection e1 with e1
    injection e1 with e1
    subst e1
    subst e3
    exact ⟨cur.toList, hb, by simpa using hh, hn, hc, by simpa using hs, ht⟩
theorem row_mk {cur : List Value} (hb : B ≤ g) (hh : w.heap[g]? = some (.cells cur.toArray T (0, 0))) (hn : n ≤ c) (hc : c ≤ maxLen) (hs : cur.length = c * k) (ht : cur.take (n * k) = xs) : w.ownsRow B T k (.slice (some ⟨g, 0, none⟩) n c) n xs := by
  refine ⟨?_, .inr ⟨g, c, cur.toArray, rfl, hb, hh, hn, hc, by simpa using hs, by simpa using ht⟩⟩
  rw [← ht, List.length_take, hs]
  exact Nat.min_eq_left (Nat.mul_le_mul_right k hn)
/-- Cells written into a row. -/
theorem row_cells (h : w.ownsRow B T k (.slice (some ⟨g, 0, none⟩) n c) n xs) (p : Nat) (cs : List Value) (hp : p + cs.length ≤ n * k) :
    (w.setCells g p cs).ownsRow B T k (.slice (some ⟨g, 0, none⟩) n c) n (xs.take p ++ cs ++ xs.drop (p + cs.length)) ∧ w.grownBy (w.setCells g p cs) (some g) := by
  refine ⟨?_, setCells_grown cs p w⟩
  obtain ⟨hl, cur, hb, hh, hn, hc, hs, ht⟩ := row_of h
  have hnk : n * k ≤ c * k := Nat.mul_le_mul_right k hn
  have hcur : cur = xs ++ cur.drop (n * k) := by rw [← ht, List.take_append_drop]
  have h2 := setCells_heap (T := T) (fr := (0, 0)) cs p w cur hh (by omega)
  have e4 : cur.take p ++ cs ++ cur.drop (p + cs.length) = (xs.take p ++ cs ++ xs.drop (p + cs.length)) ++ cur.drop (n * k) := by
    conv => lhs; rw [hcur]
    rw [List.take_append_of_le_length (by omega), List.drop_append_of_le_length (by omega)]
    simp [List.append_assoc]
  rw [e4] at h2
  refine row_mk hb h2 hn hc ?_ ?_
  · simp; omega
  · rw [List.take_append_of_le_length (by simp; omega), List.take_of_length_le (by simp; omega)]
theorem row_store {P : Program} (h : w.ownsRow B T k (.slice (some ⟨g, 0, none⟩) n c) n xs) (p : Nat) (cs : List Value) (hp : p + cs.length ≤ n * k) (h1 : ∀ v ∈ cs, v.oneCell' = true) :
    (storeCells ⟨g, p, none⟩ cs 0).run P w = .ok () (w.setCells g p cs) := by
  have hl := h.1
  have hc : ∀ j, j < cs.length → (w.cell? ⟨g, p + 0 + j, none⟩).isSome = true := by
    intro j hj
    rw [h.cellAt (p + 0 + j) (by omega), List.getElem?_eq_getElem (by omega)]; rfl
  have hfz : ∀ j, j < cs.length → w.frozen? ⟨g, p + 0 + j, none⟩ = false := fun j _ => h.frozenAt _
  have := run_storeCells_cells (P := P) g p cs 0 w hc hfz h1
  simpa only [Nat.add_zero] using this
/-- A row of fewer elements, of more. -/
theorem row_less (h : w.ownsRow B T k (.slice (some ⟨g, 0, none⟩) n c) n xs) {i : Nat} (hi : i ≤ n) : w.ownsRow B T k (.slice (some ⟨g, 0, none⟩) i c) i (xs.take (i * k)) := by
  obtain ⟨hl, cur, hb, hh, hn, hc, hs, ht⟩ := row_of h
  refine row_mk hb hh (by omega) hc hs ?_
  rw [← ht, List.take_take, Nat.min_eq_left (Nat.mul_le_mul_right k hi)]
theorem row_more (h : w.ownsRow B T k (.slice (some ⟨g, 0, none⟩) n c) n xs) {m : Nat} (hm : n + m ≤ c) : ∃ ys, ys.length = m * k ∧ w.ownsRow B T k (.slice (some ⟨g, 0, none⟩) (n + m) c) (n + m) (xs ++ ys) := by
  obtain ⟨hl, cur, hb, hh, hn, hc, hs, ht⟩ := row_of h
  have h1 : (n + m) * k ≤ c * k := Nat.mul_le_mul_right k hm
  rw [Nat.add_mul] at h1
  refine ⟨(cur.drop (n * k)).take (m * k), by simp; omega, row_mk hb hh hm hc hs ?_⟩
  rw [Nat.add_mul, List.take_add, ht]
/-- The cells of a piece of a row. -/
theorem row_piece (h : w.ownsRow B T k (.slice (some ⟨g, 0, none⟩) n c) n xs) (p : Nat) (cs : List Value) (hcs : (xs.drop p).take cs.length = cs) : ∀ j v, cs[j]? = some v → w.cell? ((⟨g, p, none⟩ : Addr).add j) = some v := by
  intro j v hv
  rw [← hcs, List.getElem?_take] at hv
  split at hv
  · rw [List.getElem?_drop] at hv
    have hj := (List.getElem?_eq_some_iff.1 hv).1
    rw [Addr.add_lit, h.cellAt (p + j) (by rw [← h.1]; exact hj)]
    exact hv
  · cases hv
end
/-- Zeros. -/
def zerosL (z : Value) (n : Nat) : List Value := (Builtin.zeroCells z.cells n).toList
theorem zerosL_len (z : Value) (n : Nat) {k : Nat} (hz : z.cells.size = k) : (zerosL z n).length = n * k := by
  unfold zerosL
  rw [Array.length_toList, size_zeroCells, hz]
section
variable {P : Program}
/-- copy into a row, from wherever the cells are read. -/
theorem run_copy_rowk {k : Nat} {w : World} {B n c g : Nat} {T : TypeId} {xs : List Value} (dT sT ty e : TypeId) (hu : P.underlying dT = some (.slice e)) (hs : (P.info? e).map (·.size) = some k)
    (h : w.ownsRow B T k (.slice (some ⟨g, 0, none⟩) n c) n xs) (p dl dc : Nat) (ad : Addr) (sl sc : Nat) (cs : List Value) (hn : cs.length = Nat.min sl dl * k) (hsrc : ∀ j v, cs[j]? = some v → w.cell? (ad.add j) = some v) (hp : p + cs.length ≤ n * k) (h1 : ∀ v ∈ cs, v.oneCell' = true) :
    (Builtin.copy_ #[dT, sT] ty #[.slice (some ⟨g, p, none⟩) dl dc, .slice (some ad) sl sc]).run P w = .ok (goInt (Nat.min sl dl)) (w.setCells g p cs) := by
  have hl := run_loadCells_list (P := P) w ad cs hsrc
  have hst := row_store (P := P) h p cs hp h1
  cases hq : P.info? e with
  | none => simp [hq] at hs
  | some i =>
    have hi : i.size = k := by simpa [hq] using hs
    simp [Builtin.copy_, run_underlying hu, Builtin.lenOf, Builtin.firstCells, sizeOf, typeInfo, hq, hi, ← hn, hl, hst]
theorem wp_copy_rowk {o : Oper} {a : Act} {K : Act → World → Prop} {Q : Exit → Act → World → Prop} {k : Nat} {w : World} {B n c g : Nat} {T : TypeId} {xs : List Value} (d s : Operand) (dT sT e : TypeId) (ho : o.op = .call { callee := .builtin .copy, args := #[d, s], argTypes := #[dT, sT] })
    (hu : P.underlying dT = some (.slice e)) (hs : (P.info? e).map (·.size) = some k) (h : w.ownsRow B T k (.slice (some ⟨g, 0, none⟩) n c) n xs) (p dl dc : Nat) (ad : Addr) (sl sc : Nat) (cs : List Value)
    (hd : a.eval d = .slice (some ⟨g, p, none⟩) dl dc) (hx : a.eval s = .slice (some ad) sl sc) (hn : cs.length = Nat.min sl dl * k) (hsrc : ∀ j v, cs[j]? = some v → w.cell? (ad.add j) = some v) (hp : p + cs.length ≤ n * k) (h1 : ∀ v ∈ cs, v.oneCell' = true)
    (xs' : List Value) (he : xs.take p ++ cs ++ xs.drop (p + cs.length) = xs')
    (hK : ∀ w', w'.ownsRow B T k (.slice (some ⟨g, 0, none⟩) n c) n xs' → w.grownBy w' (some g) → K (a.put o.dst (goInt (Nat.min sl dl))) w') : Oper.wp P o a w K Q := by
  have hr := run_copy_rowk (P := P) dT sT o.type e hu hs h p dl dc ad sl sc cs hn hsrc hp h1
  have hc := row_cells h p cs hp
  rw [he] at hc
  unfold Oper.wp execOp
  simp only [ho, resolve, invoke, builtin, Sem.run_bind, Sem.run_pure, Result.andThen_ok, List.map_toArray, List.map_cons, List.map_nil, hd, hx, hr]
  exact hK _ hc.1 hc.2
theorem wpList_copy_rowk {ops : Array Oper} {rest : List Oper} {o : Oper} {a : Act} {Q : Exit → Act → World → Prop} {k : Nat} {w : World} {B n c g : Nat} {T : TypeId} {xs : List Value} (hgd : o.guard = none) (d s : Operand) (dT sT e : TypeId) (ho : o.op = .call { callee := .builtin .copy, args := #[d, s], argTypes := #[dT, sT] })
    (hu : P.underlying dT = some (.slice e)) (hs : (P.info? e).map (·.size) = some k) (h : w.ownsRow B T k (.slice (some ⟨g, 0, none⟩) n c) n xs) (p dl dc : Nat) (ad : Addr) (sl sc : Nat) (cs : List Value)
    (hd : a.eval d = .slice (some ⟨g, p, none⟩) dl dc) (hx : a.eval s = .slice (some ad) sl sc) (hn : cs.length = Nat.min sl dl * k) (hsrc : ∀ j v, cs[j]? = some v → w.cell? (ad.add j) = some v) (hp : p + cs.length ≤ n * k) (h1 : ∀ v ∈ cs, v.oneCell' = true)
    (xs' : List Value) (he : xs.take p ++ cs ++ xs.drop (p + cs.length) = xs')
    (hK : ∀ w', w'.ownsRow B T k (.slice (some ⟨g, 0, none⟩) n c) n xs' → w.grownBy w' (some g) → wpList P ops Q rest (a.put o.dst (goInt (Nat.min sl dl))) w') : wpList P ops Q (o :: rest) a w :=
  wpList_plain hgd fun _ hK' => wp_copy_rowk d s dT sT e ho hu hs h p dl dc ad sl sc cs hd hx hn hsrc hp h1 xs' he (fun w' h1 h2 => hK' _ _ (hK w' h1 h2))
/-- append(s[:i], make(S, m)...) where there is no room: a new row. -/
theorem run_append_fresh {k : Nat} {w : World} {B i c g : Nat} {T : TypeId} {xs : List Value} (t tn ty e : TypeId) (z : TypeInfo) (zv : Value) (kn : IntKind) (bytes : Nat) (ht : P.underlying t = some (.slice e)) (htn : P.underlying tn = some (.int kn)) (hi : P.info? e = some z) (hz : z.zero = some zv) (hs : z.size = k) (hby : z.bytes = bytes) (hzs : zv.cells.size = k) (hk : 0 < k)
    (h : w.ownsRow B T k (.slice (some ⟨g, 0, none⟩) i c) i xs) (kq : IntKind) (m : Nat) (hm : 0 < m) (hg : c < i + m) (h63 : i + m ≤ maxLen) (h47 : (i + m) * bytes ≤ 140737488355328) :
    ∃ g' c' w', (Builtin.append_ #[t, tn] ty #[.slice (some ⟨g, 0, none⟩) i c, .int kq m]).run P w = .ok (.slice (some ⟨g', 0, none⟩) (i + m) c') w' ∧ w.heap.size ≤ g' ∧ w'.ownsRow w.heap.size e k (.slice (some ⟨g', 0, none⟩) (i + m) c') (i + m) (xs ++ zerosL zv m) ∧ Below w.heap.size w w' := by
  subst hs
  subst hby
  have hold := run_firstCells_some (P := P) w.drew z.size i ⟨g, 0, none⟩ i c xs h.1 (by simpa using h.cells (g := g) rfl)
  have hfit : m * z.bytes ≤ 281474976710656 := by
    have : m * z.bytes ≤ (i + m) * z.bytes := Nat.mul_le_mul_right _ (by omega)
    omega
  have hr := Lib.run_append_grow_zeros (P := P) w t tn ty e z zv kq kn ht htn hi hz (some ⟨g, 0, none⟩) i c xs hold m hm hk hg (by unfold maxLen at h63; omega) hfit (growslice_fits hg h47)
  have hge := grownCap_ge w (i + m) c e
  have hcm := grownCap_le_maxLen w (i + m) c e h63
  refine ⟨_, _, _, hr, Nat.le_refl _, ?_, (Below.refl _ _).drew.alloc (Nat.le_refl _) _⟩
  have hh := heap_alloc_new w.drew (.cells (xs.toArray ++ Builtin.zeroCells zv.cells m ++ Builtin.zeroCells zv.cells (grownCap w (i + m) c e - (i + m))) e)
  refine row_mk (cur := xs ++ zerosL zv m ++ zerosL zv (grownCap w (i + m) c e - (i + m))) (Nat.le_refl _) ?_ hge hcm ?_ ?_
  · rw [show w.drew.heap.size = w.heap.size from rfl] at hh
    rw [hh]
    simp [zerosL]
  · simp only [List.length_append, zerosL_len _ _ hzs, h.1, ← Nat.add_mul]
    congr 1; omega
  · rw [List.take_append_of_le_length (by simp only [List.length_append, zerosL_len _ _ hzs, h.1, ← Nat.add_mul]; omega), List.take_of_length_le (by simp only [List.length_append, zerosL_len _ _ hzs, h.1, ← Nat.add_mul]; omega)]
theorem wpList_append_fresh {ops : Array Oper} {rest : List Oper} {o : Oper} {a : Act} {Q : Exit → Act → World → Prop} {k : Nat} {w : World} {B i c g : Nat} {T : TypeId} {xs : List Value} (hgd : o.guard = none) (d s : Operand) (t tn e : TypeId) (ho : o.op = .call { callee := .builtin .append, args := #[d, s], argTypes := #[t, tn] })
    (z : TypeInfo) (zv : Value) (kn : IntKind) (bytes : Nat) (ht : P.underlying t = some (.slice e)) (htn : P.underlying tn = some (.int kn)) (hi : P.info? e = some z) (hz : z.zero = some zv) (hs : z.size = k) (hby : z.bytes = bytes) (hzs : zv.cells.size = k) (hk : 0 < k)
    (h : w.ownsRow B T k (.slice (some ⟨g, 0, none⟩) i c) i xs) (kq : IntKind) (m : Nat) (hd : a.eval d = .slice (some ⟨g, 0, none⟩) i c) (hx : a.eval s = .int kq m) (hm : 0 < m) (r : Nat) (hr : i + m = r) (hg : c < r) (h63 : r ≤ maxLen) (h47 : r * bytes ≤ 140737488355328)
    (hK : ∀ g' c' w', w.heap.size ≤ g' → w'.ownsRow w.heap.size e k (.slice (some ⟨g', 0, none⟩) r c') r (xs ++ zerosL zv m) → Below w.heap.size w w' → wpList P ops Q rest (a.put o.dst (.slice (some ⟨g', 0, none⟩) r c')) w') : wpList P ops Q (o :: rest) a w := by
  subst hr
  obtain ⟨g', c', w', hr, h1, h2, h3⟩ := run_append_fresh (P := P) t tn o.type e z zv kn bytes ht htn hi hz hs hby hzs hk h kq m hm hg h63 h47
  exact Lib.wpList_append_run w hgd d s t tn ho _ _ hd hx _ _ hr (hK g' c' w' h1 h2 h3)
end
open Go.RowKit

theorem Below.row {lo g : Nat} {w w' : World} (h : w.grownBy w' (some g)) (hg : lo ≤ g) (hs : lo ≤ w.heap.size) : Below lo w w' := (Below.refl lo w).grown h hs (fun k e => by cases e; exact hg)
theorem gk_drew {w0 w : World} {b : Option Nat} (h : w0.grownBy w b) : w0.grownBy w.drew b := ⟨h.os, h.tape, h.output, h.size, h.block⟩
theorem owk_lo {w : World} {B B' k n : Nat} {e : TypeId} {v : Value} {xs : List Value} (h : w.ownsRow B e k v n xs) (hb : B' ≤ B) : w.ownsRow B' e k v n xs := by
  refine ⟨h.1, ?_⟩
  rcases h.2 with h | ⟨g, cap, cur, e, hg, h⟩
  · exact .inl h
  · exact .inr ⟨g, cap, cur, e, Nat.le_trans hb hg, h⟩
theorem heap_drew {w : World} {b : Nat} {x : Obj} (h : w.heap[b]? = some x) : w.drew.heap[b]? = some x := h
theorem flat_take {α : Type} {f : α → List Value} {k : Nat} (hf : ∀ x, (f x).length = k) : ∀ (l : List α) (i : Nat), (l.take i).flatMap f = (l.flatMap f).take (i * k)
  | [], i => by simp
  | x :: l, 0 => by simp
  | x :: l, i + 1 => by
    rw [List.take_succ_cons, List.flatMap_cons, List.flatMap_cons, flat_take hf l i, Nat.succ_mul, Nat.add_comm (i * k) k, ← hf x, List.take_length_add_append]
theorem flat_drop {α : Type} {f : α → List Value} {k : Nat} (hf : ∀ x, (f x).length = k) : ∀ (l : List α) (i : Nat), (l.drop i).flatMap f = (l.flatMap f).drop (i * k)
  | [], i => by simp
  | x :: l, 0 => by simp
  | x :: l, i + 1 => by
    rw [List.drop_succ_cons, List.flatMap_cons, flat_drop hf l i, Nat.succ_mul, Nat.add_comm (i * k) k, ← hf x, List.drop_length_add_append]
theorem ins_cells {F ys X : List Value} {a k m : Nat} (ha : a + m = F.length) (hy : ys.length = k) (hX : X.length = k) :
    (((F ++ ys).take (a + k) ++ F.drop a ++ (F ++ ys).drop (a + k + (F.drop a).length)).take a ++ X ++ ((F ++ ys).take (a + k) ++ F.drop a ++ (F ++ ys).drop (a + k + (F.drop a).length)).drop (a + X.length)) = F.take a ++ X ++ F.drop a := by
  have h1 : (F.drop a).length = m := by rw [List.length_drop]; omega
  have h2 : (F ++ ys).drop (a + k + (F.drop a).length) = [] := List.drop_eq_nil_of_le (by rw [List.length_append, h1]; omega)
  have h3 : ((F ++ ys).take (a + k)).length = a + k := by rw [List.length_take, List.length_append]; omega
  rw [h2, List.append_nil]
  congr 1
  · congr 1
    rw [List.take_append_of_le_length (by omega), List.take_take, Nat.min_eq_left (by omega), List.take_append_of_le_length (by omega)]
  · rw [hX]; exact List.drop_left' h3
theorem ins_cells2 {F Z X : List Value} {a k m : Nat} (ha : a + m = F.length) (hz : Z.length = m + k) (hX : X.length = k) :
    (((F.take a ++ Z).take a ++ X ++ (F.take a ++ Z).drop (a + X.length)).take (a + k) ++ F.drop a ++ ((F.take a ++ Z).take a ++ X ++ (F.take a ++ Z).drop (a + X.length)).drop (a + k + (F.drop a).length)) = F.take a ++ X ++ F.drop a := by
  have h1 : (F.drop a).length = m := by rw [List.length_drop]; omega
  have h0 : (F.take a).length = a := by rw [List.length_take]; omega
  have h4 : (F.take a ++ Z).take a = F.take a := by
    conv => lhs; rw [← h0]
    rw [h0, List.take_append_of_le_length (by omega), List.take_take, Nat.min_self]
  have h5 : ((F.take a ++ Z).take a ++ X ++ (F.take a ++ Z).drop (a + X.length)).length = a + k + m := by
    rw [h4]; simp; omega
  have h6 : ((F.take a ++ Z).take a ++ X ++ (F.take a ++ Z).drop (a + X.length)).drop (a + k + (F.drop a).length) = [] := List.drop_eq_nil_of_le (by rw [h5, h1]; omega)
  rw [h6, List.append_nil]
  congr 1
  rw [h4, List.take_append_of_le_length (by simp; omega), List.take_of_length_le (by simp; omega)]
theorem off_ne {gE n c q : Nat} (h : Ofs (.slice (some ⟨gE, 0, none⟩) n c) q) : q ≠ gE := fun e => h gE rfl e.symm
theorem ne_off {gE n c q : Nat} (h : gE ≠ q) : Ofs (.slice (some ⟨gE, 0, none⟩) n c) q := fun g hg => by
  simp only [Value.ownBlock, Option.some.injEq] at hg
  subst hg; exact h
theorem Gr2.drew {w w' : World} {g : Nat} {v : Value} (h : Gr2 w w' g v) : Gr2 w w'.drew g v := ⟨h.os, h.tape, h.output, h.size, h.block⟩
theorem kt_drew {S : List TypeId} {w w' : World} (h : Kt S w w') : Kt S w w'.drew := h
open Go.RowKit

theorem Try.info_slot : (Try.prog.info? 101).map (fun i => (i.zero, i.size, i.bytes)) = some (some (.agg #[.int .u8 0, .int .u8 0, .int .u8 0, .int .u8 0, .int .u8 0, .int .u8 0, .int .u8 0, .int .u8 0, .int .u8 0, .int .u8 0, .int .i64 0, .bool false, .bool false, .bool false, .int .i64 0]), 15, 40) := by kernel_rfl
theorem sl_elem : Try.prog.underlying 82 = some (.slice (Try.prog.elem 82)) := by kernel_rfl
theorem sl_el : Try.prog.elem 82 = 101 := by kernel_rfl
theorem sl_sz (w : World) : (Go.sizeOf 101).run Try.prog w = .ok 15 w := by kernel_rfl
theorem sl_zs : (Value.cells (.agg #[.int .u8 0, .int .u8 0, .int .u8 0, .int .u8 0, .int .u8 0, .int .u8 0, .int .u8 0, .int .u8 0, .int .u8 0, .int .u8 0, .int .i64 0, .bool false, .bool false, .bool false, .int .i64 0])).size = 15 := by kernel_rfl
theorem sl_size : (Try.prog.info? 101).map (·.size) = some 15 := by kernel_rfl
/-- Pieces of a row. -/
theorem sl_front (g n c : Nat) (i : Nat) (hi : i ≤ c) (W : World) : (Instr.slice 82 (.slice (some ⟨g, 0, none⟩) n c) none (some (.int .i64 (i : Int))) none).run Try.prog W = .ok (.slice (some ⟨g, 0, none⟩) i c) W := by
  rw [run_slice_h W 82 _ n c sl_elem .i64 _ (by omega) (by omega), sl_el, sl_sz]
  simp [Result.andThen, sliced, Addr.add]
theorem sl_back (g n c : Nat) (i : Nat) (hi : i ≤ n) (hc : i < c) (W : World) : (Instr.slice 82 (.slice (some ⟨g, 0, none⟩) n c) (some (.int .i64 (i : Int))) none none).run Try.prog W = .ok (.slice (some ⟨g, i * 15, none⟩) (n - i) (c - i)) W := by
  rw [run_slice_l W 82 _ n c sl_elem .i64 _ (by omega) (by omega), sl_el, sl_sz]
  simp [Result.andThen, sliced, Addr.add_lit, show ¬ c = i by omega]
theorem sl_backany (A : Option Addr) (n c : Nat) (i : Nat) (hi : i ≤ n) : ∃ v, ∀ W, (Instr.slice 82 (.slice A n c) (some (.int .i64 (i : Int))) none none).run Try.prog W = .ok v W := by
  refine ⟨sliced A i n c 15, fun W => ?_⟩
  rw [run_slice_l W 82 _ n c sl_elem .i64 _ (by omega) (by omega), sl_el, sl_sz]
  simp [Result.andThen]
theorem sl_ov {w : World} {vb gE o lb cb : Nat} {n c lo : Nat} {xs cs : List Value} (hvb : w.heap[vb]? = some (.cells cs.toArray 101 (0, 0))) (hcs : cs.length = 15) (own : w.ownsRow lo 101 15 (.slice (some ⟨gE, 0, none⟩) n c) n xs) (hn : 0 < n) (hne : vb ≠ gE) : (callFunc 76 #[.slice (some ⟨vb, 0, none⟩) 1 1, .slice (some ⟨gE, o, none⟩) lb cb]).run Try.prog w = .ok (.value (.bool false)) w := by
  obtain ⟨_, cur, hb, hh, h1, h2, hs, _⟩ := row_of own
  have hc0 : 0 < c := by omega
  rw [run_callFunc_extern (f := 76) (fn := Try.f76) (by kernel_rfl) (by kernel_rfl) (by kernel_rfl) (by kernel_rfl) (e := Extern.SlicesOverlaps.overlaps #[82, 82] #[4]) (by kernel_rfl),
    Lib.run_overlaps_apart w 82 4 101 Try.underlying82 15 sl_sz ⟨vb, 0, none⟩ ⟨gE, o, none⟩ 1 1 lb cb hne 101 101 15 (c * 15) (by simp [World.shape?, hvb, hcs]) (by simp [World.shape?, hh, hs]) (by omega) (by simp [World.frozen?, hvb]) (by simp [World.frozen?, hvb])]
  rfl
theorem sl_vsrc {w : World} {vb : Nat} {x : Sd} {T : TypeId} {fr : Nat × Nat} (hvb : w.heap[vb]? = some (.cells (slE x).toArray T fr)) : ∀ j v, (slE x)[j]? = some v → w.cell? ((⟨vb, 0, none⟩ : Addr).add j) = some v := fun j v hv => by
  rw [Addr.add_lit, Nat.zero_add, cell_of_row w vb j _ T fr hvb]
  simpa using hv
theorem sl_insd {l : List Sd} {x : Sd} {i : Nat} : (l.take i ++ x :: l.drop i).flatMap slE = (l.flatMap slE).take (i * 15) ++ slE x ++ (l.flatMap slE).drop (i * 15) := by
  rw [List.flatMap_append, List.flatMap_cons, flat_take slE_len, flat_drop slE_len, List.append_assoc]
set_option linter.unusedVariables false in
set_option linter.unusedSimpArgs false in
set_option maxRecDepth 100000 in
set_option maxHeartbeats 16000000 in
theorem sl_ins_end {lo n c vb : Nat} {A : Option Addr} {l : List Sd} {x : Sd} (w : World) (hlo : lo ≤ w.heap.size) (hown : w.ownsRow lo 101 15 (.slice A n c) n (l.flatMap slE)) (hn : n ≤ 1000) (hvb : w.heap[vb]? = some (.cells (slE x).toArray 101 (0, 0))) : Calls Try.prog 61 #[.slice A n c, .int .i64 (n : Int), .slice (some ⟨vb, 0, none⟩) 1 1] w fun e w' => ∃ A' c', e = .returned (.slice A' (n + 1) c') ∧ w'.ownsRow lo 101 15 (.slice A' (n + 1) c') (n + 1) ((l.take n ++ x :: l.drop n).flatMap slE) ∧ w.grownBy w' (Value.ownBlock (.slice A n c)) ∧ (∀ q, q < w.heap.size → Ofs (.slice A n c) q → Ofs (.slice A' (n + 1) c') q) := by
  have own := hown
  clear hown
  have hl := row_len (by decide) slE_len own
  have hcap := row_cap own
  have HCAP := Lib.hid hcap
  have HLL := Lib.hid hl
  have HLO := Lib.hid hlo
  obtain ⟨ie, hie, hie0, hie1, hie2⟩ := info_parts Try.info_slot
  have n0 : (0 : Int) ≤ n := by omega
  have n1 : (n : Int) ≤ 1000 := by omega
  obtain ⟨v12, r12⟩ := sl_backany A n c n (Nat.le_refl _)
  have vv : Sle slE 15 w (some ⟨vb, 0, none⟩) 1 1 [x] := sle_lit [x] (by decide) slE_len (by simpa using hvb) rfl (by simp [maxLen])
  have HB1 : Hid (n + 1 ≤ maxLen) := Lib.hid (by unfold maxLen; omega)
  have HB2 : Hid ((n + 1) * 40 ≤ 140737488355328) := Lib.hid (by omega)
  clear hl hcap hlo
  have bel := Below.refl w.heap.size w
  go_enter Try.func61, Try.ntmps61
  have R12 := r12
  go_wp2_with (first | ((with_reducible show wpList _ _ _ (⟨some 25, _, _, _, _, _⟩ :: _) _ _); refine wpList_append_sle rfl (.tmp 23) (.tmp 24) 82 rfl lo 101 ie (.agg #[.int .u8 0, .int .u8 0, .int .u8 0, .int .u8 0, .int .u8 0, .int .u8 0, .int .u8 0, .int .u8 0, .int .u8 0, .int .u8 0, .int .i64 0, .bool false, .bool false, .bool false, .int .i64 0]) 40 Try.underlying82 hie hie0 hie1 hie2 sl_zs slE_one _ n l rfl own (some ⟨vb, 0, none⟩) 1 1 [x] rfl vv HB1.out HB2.out HLO.out ?_; intro v25 w9 own_ bb gw ofw; obtain ⟨A25, c25, rfl⟩ := owk_val own_))
  try clear R12
  go_ret
  exact ⟨A25, c25, rfl, by rw [List.take_of_length_le (by rw [HLL.out]; exact Nat.le_refl _), List.drop_eq_nil_of_le (by rw [HLL.out]; exact Nat.le_refl _)]; exact own_, gw, ofw⟩
set_option linter.unusedVariables false in
set_option linter.unusedSimpArgs false in
set_option maxRecDepth 100000 in
set_option maxHeartbeats 16000000 in
theorem sl_ins_grow {lo n c vb : Nat} {gE i : Nat} {l : List Sd} {x : Sd} (w : World) (hlo : lo ≤ w.heap.size) (hown : w.ownsRow lo 101 15 (.slice (some ⟨gE, 0, none⟩) n c) n (l.flatMap slE)) (hn : n ≤ 1000) (hvb : w.heap[vb]? = some (.cells (slE x).toArray 101 (0, 0))) (hve : Ofs (.slice (some ⟨gE, 0, none⟩) n c) vb) (hi : i < n) (hg : c < n + 1) : Calls Try.prog 61 #[.slice (some ⟨gE, 0, none⟩) n c, .int .i64 (i : Int), .slice (some ⟨vb, 0, none⟩) 1 1] w fun e w' => ∃ A' c', e = .returned (.slice A' (n + 1) c') ∧ w'.ownsRow lo 101 15 (.slice A' (n + 1) c') (n + 1) ((l.take i ++ x :: l.drop i).flatMap slE) ∧ w.grownBy w' (Value.ownBlock (.slice (some ⟨gE, 0, none⟩) n c)) ∧ (∀ q, q < w.heap.size → Ofs (.slice (some ⟨gE, 0, none⟩) n c) q → Ofs (.slice A' (n + 1) c') q) := by
  have own := hown
  clear hown
  have hl := row_len (by decide) slE_len own
  have hcap := row_cap own
  have HCAP := Lib.hid hcap
  have HLL := Lib.hid hl
  have HLO := Lib.hid hlo
  obtain ⟨ie, hie, hie0, hie1, hie2⟩ := info_parts Try.info_slot
  have n0 : (0 : Int) ≤ n := by omega
  have n1 : (n : Int) ≤ 1000 := by omega
  obtain ⟨q, hq⟩ : ∃ q, i + q = n := ⟨n - i, by omega⟩
  have i0 : (0 : Int) ≤ i := by omega
  have i1 : (i : Int) < n := by omega
  have hne : ((i : Int) == n) = false := beq_eq_false_iff_ne.2 (by omega)
  have hw1 : IntKind.i64.wrap ((i : Int) + 1) = (i : Int) + 1 := IntWalk.i64_in _ (by omega)
  have r53 := fun W => sl_back gE n c i (by omega) (by omega) W
  rw [show n - i = q by omega] at r53
  have HFL : Hid (15 * i + q * 15 = (l.flatMap slE).length) := Lib.hid (by rw [flat_len slE_len, hl, ← hq, Nat.add_mul]; omega)
  have HON : Hid (∀ v ∈ (l.flatMap slE).drop (i * 15), v.oneCell' = true) := Lib.hid (fun v hv => by obtain ⟨y, _, hy⟩ := List.mem_flatMap.1 (List.mem_of_mem_drop hv); exact slE_one y v hy)
  have HQ := Lib.hid hq
  have HD : Hid (((l.flatMap slE).drop (i * 15)).length = q * 15) := Lib.hid (by rw [List.length_drop]; have := HFL.out; omega)
  have HVE := Lib.hid hve
  obtain ⟨p, hp⟩ : ∃ p, i + p = n + 1 := ⟨n + 1 - i, by omega⟩
  have hpi : (n : Int) + 1 - i = (p : Int) := by omega
  have r34 := fun W => sl_front gE n c i (by omega) W
  have ownI := row_less own (i := i) (by omega)
  have HP0 : Hid (0 < p) := Lib.hid (by omega)
  have HPQ : Hid (p = q + 1) := Lib.hid (by omega)
  have HIP := Lib.hid hp
  have hcg : (c : Int) < (n : Int) + 1 := by omega
  have HCG : Hid (c < n + 1) := Lib.hid hg
  have HB1 : Hid (n + 1 ≤ maxLen) := Lib.hid (by unfold maxLen; omega)
  have HB2 : Hid ((n + 1) * 40 ≤ 140737488355328) := Lib.hid (by omega)
  have HMX : Hid ((slE x).length = Nat.min 1 (q + 1) * 15) := Lib.hid (by rw [slE_len, show Nat.min 1 (q + 1) = 1 by simp [Nat.min_def]])
  have HPX : Hid (i * 15 + (slE x).length ≤ (n + 1) * 15) := Lib.hid (by rw [slE_len]; omega)
  have HPD : Hid ((i + 1) * 15 + ((l.flatMap slE).drop (i * 15)).length ≤ (n + 1) * 15) := Lib.hid (by rw [HD.out]; omega)
  have HGE : Hid (gE < w.heap.size) := Lib.hid (own.lt gE rfl).2
  clear hl hcap hlo hp hq hi hg hn hve
  have bel := Below.refl w.heap.size w
  go_enter Try.func61, Try.ntmps61
  have R12 := r53
  have R34 := r34
  go_wp2_with (first | ((with_reducible show wpList _ _ _ (⟨some 40, _, _, _, _, _⟩ :: _) _ _); refine wpList_append_fresh rfl (.tmp 34) (.tmp 39) 82 3 101 rfl ie (.agg #[.int .u8 0, .int .u8 0, .int .u8 0, .int .u8 0, .int .u8 0, .int .u8 0, .int .u8 0, .int .u8 0, .int .u8 0, .int .u8 0, .int .i64 0, .bool false, .bool false, .bool false, .int .i64 0]) .i64 40 Try.underlying82 Try.underlying3 hie hie0 hie1 hie2 sl_zs (by decide) ownI .i64 p rfl rfl HP0.out (n + 1) HIP.out HCG.out HB1.out HB2.out ?_; intro gN cN w9 geN ownN bN; have hcN := row_cap ownN; have own9 := owk_under own bN; clear own; have own := own9; clear own9; replace hvb := blk_u hvb bN; replace bel := bel.trans bN; clear bN; have r43 := fun W => sl_back gN (n + 1) cN i (by omega) (by omega) W; have r50 := fun W => sl_back gN (n + 1) cN (i + 1) (by omega) (by omega) W; simp only [Int.natCast_add, Int.natCast_one] at r50; rw [show n + 1 - i = q + 1 by have := HQ.out; omega] at r43; rw [show n + 1 - (i + 1) = q by have := HQ.out; omega] at r50; have HGN := Lib.hid geN; clear hcN geN; have R43 := r43) | ((with_reducible show wpList _ _ _ (⟨some 45, _, _, _, _, _⟩ :: _) _ _); refine wpList_copy_rowk rfl (.tmp 43) (.tmp 44) 82 82 101 rfl Try.underlying82 sl_size ownN (i * 15) (q + 1) (cN - i) ⟨vb, 0, none⟩ 1 1 (slE x) rfl rfl HMX.out (sl_vsrc hvb) HPX.out (slE_one x) _ rfl ?_; intro w10 own_ gw; have own9 := owk_off own (ne_off (Nat.ne_of_lt (Nat.lt_of_lt_of_le HGE.out HGN.out))) gw; clear own ownN; have own := own9; have ownN := own_; clear own9 own_; replace bel := bel.trans (Below.row gw HGN.out bel.size); clear gw hvb))
  try clear R12
  try clear R34
  try clear R43
  replace bel := bel.drew
  replace own := World.ownsRow.drew own
  replace ownN := World.ownsRow.drew ownN
  refine wp_region_held_drew (S := fun _ => True) (by kernel_rfl) trivial (fun hH => ?_)
  generalize w10.drew = w1 at bel own ownN hH ⊢
  refine wpAnyH_take (i := 0) (v := ?_) rfl (by kernel_rfl) (by kernel_rfl) (by kernel_rfl) (fun _ _ _ h => h) (Or.inl ⟨by rfl, ?_⟩) hH ?_
  rotate_left
  · ((intro W hW; clear hW; go_simp) <;> with_reducible rfl)
  simp only [Act.put, List.getElem_toArray, List.getElem_cons_zero, List.setIfInBounds_toArray, List.set_cons_zero, List.set_cons_succ]
  refine wpAnyH_take (i := 1) (v := ?_) rfl (by kernel_rfl) (by kernel_rfl) (by kernel_rfl) (fun _ _ _ h => h) (Or.inl ⟨by rfl, ?_⟩) hH ?_
  rotate_left
  · ((intro W hW; clear hW; go_simp) <;> with_reducible rfl)
  simp only [sq3, sq4]
  refine wpAnyH_take (i := 2) (v := ?_) rfl (by kernel_rfl) (by kernel_rfl) (by kernel_rfl) (fun _ _ _ h => h) (Or.inl ⟨by rfl, ?_⟩) hH ?_
  rotate_left
  · ((intro W hW; clear hW; go_simp) <;> with_reducible rfl)
  simp only [sq3, sq4]
  refine wpAnyH_take (i := 3) (v := ?_) rfl (by kernel_rfl) (by kernel_rfl) (by kernel_rfl) (fun _ _ _ h => h) (Or.inl ⟨by rfl, ?_⟩) hH ?_
  rotate_left
  · ((intro W hW; clear hW; go_simp) <;> with_reducible rfl)
  simp only [sq3, sq4]
  refine wpAnyH_take (i := 4) (v := ?_) rfl (by kernel_rfl) (by kernel_rfl) (by kernel_rfl) (fun _ _ _ h => h) (Or.inl ⟨by rfl, ?_⟩) hH ?_
  rotate_left
  · ((intro W hW; clear hW; go_simp) <;> with_reducible rfl)
  simp only [sq3, sq4]
  refine wpAnyH_take (i := 5) (v := ?_) rfl (by kernel_rfl) (by kernel_rfl) (by kernel_rfl) (fun _ _ _ h => h) (Or.inl ⟨by rfl, ?_⟩) hH ?_
  rotate_left
  · ((intro W hW; clear hW; go_simp) <;> with_reducible rfl)
  simp only [sq3, sq4]
  refine wpAnyH_take (i := 6) (v := ?_) rfl (by kernel_rfl) (by kernel_rfl) (by kernel_rfl) (fun _ _ _ h => h) (Or.inl ⟨by rfl, ?_⟩) hH ?_
  rotate_left
  · ((intro W hW; clear hW; go_simp) <;> with_reducible rfl)
  simp only [sq3, sq4]
  refine wpAnyH_take (i := 7) (v := ?_) rfl (by kernel_rfl) (by kernel_rfl) (by kernel_rfl) (fun _ _ _ h => h) (Or.inl ⟨by rfl, ?_⟩) hH ?_
  rotate_left
  · ((intro W hW; clear hW; go_simp) <;> with_reducible rfl)
  simp only [sq3, sq4]
  refine wpAnyH_ready (rs := [8]) (by kernel_rfl) (by simp) ?_
  refine AllReadyH.cons (o := _) rfl (fun K hK => ?_) AllReadyH.nil
  simp only [sq3]
  rw [if_pos (by rfl)]
  refine wp_copy_rowk (.tmp 50) (.tmp 53) 82 82 101 rfl Try.underlying82 sl_size ownN ((i + 1) * 15) q (cN - (i + 1)) ⟨gE, i * 15, none⟩ q (c - i) ((l.flatMap slE).drop (i * 15)) rfl rfl (by rw [HD.out, show Nat.min q q = q from Nat.min_self q]) (row_piece own _ _ (by rw [List.take_of_length_le (Nat.le_refl _)])) HPD.out HON.out _ rfl ?_
  intro w11 own_ gw
  clear own ownN
  have ownN := own_
  clear own_
  replace bel := bel.trans (Below.row gw HGN.out bel.size)
  clear gw
  refine hK.out _ _ trivial (fun hH2 => ?_)
  clear hK K
  simp only [sq4]
  refine wpAnyH_done (by kernel_rfl) ?_ _
  go_wp2_with fail
  go_ret
  refine ⟨some ⟨gN, 0, none⟩, cN, rfl, ?_, grown_of_below bel, fun q hq _ => ne_off (Nat.ne_of_gt (Nat.lt_of_lt_of_le hq HGN.out))⟩
  rw [sl_insd, ← ins_cells2 (Z := zerosL (.agg #[.int .u8 0, .int .u8 0, .int .u8 0, .int .u8 0, .int .u8 0, .int .u8 0, .int .u8 0, .int .u8 0, .int .u8 0, .int .u8 0, .int .i64 0, .bool false, .bool false, .bool false, .int .i64 0]) p) (a := i * 15) (k := 15) (m := q * 15) (by have := HFL.out; omega) (by rw [zerosL_len _ _ sl_zs, HPQ.out, Nat.succ_mul]) (slE_len x), show i * 15 + 15 = (i + 1) * 15 by omega]
  exact owk_lo ownN HLO.out
set_option linter.unusedVariables false in
set_option linter.unusedSimpArgs false in
set_option maxRecDepth 100000 in
set_option maxHeartbeats 16000000 in
theorem sl_ins_room {lo n c vb : Nat} {gE i : Nat} {l : List Sd} {x : Sd} (w : World) (hlo : lo ≤ w.heap.size) (hown : w.ownsRow lo 101 15 (.slice (some ⟨gE, 0, none⟩) n c) n (l.flatMap slE)) (hn : n ≤ 1000) (hvb : w.heap[vb]? = some (.cells (slE x).toArray 101 (0, 0))) (hve : Ofs (.slice (some ⟨gE, 0, none⟩) n c) vb) (hi : i < n) (hg : n + 1 ≤ c) : Calls Try.prog 61 #[.slice (some ⟨gE, 0, none⟩) n c, .int .i64 (i : Int), .slice (some ⟨vb, 0, none⟩) 1 1] w fun e w' => ∃ A' c', e = .returned (.slice A' (n + 1) c') ∧ w'.ownsRow lo 101 15 (.slice A' (n + 1) c') (n + 1) ((l.take i ++ x :: l.drop i).flatMap slE) ∧ w.grownBy w' (Value.ownBlock (.slice (some ⟨gE, 0, none⟩) n c)) ∧ (∀ q, q < w.heap.size → Ofs (.slice (some ⟨gE, 0, none⟩) n c) q → Ofs (.slice A' (n + 1) c') q) := by
  have own := hown
  clear hown
  have hl := row_len (by decide) slE_len own
  have hcap := row_cap own
  have HCAP := Lib.hid hcap
  have HLL := Lib.hid hl
  have HLO := Lib.hid hlo
  obtain ⟨ie, hie, hie0, hie1, hie2⟩ := info_parts Try.info_slot
  have n0 : (0 : Int) ≤ n := by omega
  have n1 : (n : Int) ≤ 1000 := by omega
  obtain ⟨q, hq⟩ : ∃ q, i + q = n := ⟨n - i, by omega⟩
  have i0 : (0 : Int) ≤ i := by omega
  have i1 : (i : Int) < n := by omega
  have hne : ((i : Int) == n) = false := beq_eq_false_iff_ne.2 (by omega)
  have hw1 : IntKind.i64.wrap ((i : Int) + 1) = (i : Int) + 1 := IntWalk.i64_in _ (by omega)
  have r53 := fun W => sl_back gE n c i (by omega) (by omega) W
  rw [show n - i = q by omega] at r53
  have HFL : Hid (15 * i + q * 15 = (l.flatMap slE).length) := Lib.hid (by rw [flat_len slE_len, hl, ← hq, Nat.add_mul]; omega)
  have HON : Hid (∀ v ∈ (l.flatMap slE).drop (i * 15), v.oneCell' = true) := Lib.hid (fun v hv => by obtain ⟨y, _, hy⟩ := List.mem_flatMap.1 (List.mem_of_mem_drop hv); exact slE_one y v hy)
  have HQ := Lib.hid hq
  have HD : Hid (((l.flatMap slE).drop (i * 15)).length = q * 15) := Lib.hid (by rw [List.length_drop]; have := HFL.out; omega)
  have HVE := Lib.hid hve
  obtain ⟨ys, hys, own1⟩ := row_more own (m := 1) (by omega)
  have hov := sl_ov (o := (i + 1) * 15) (lb := q) (cb := c - (i + 1)) hvb (slE_len x) own1 (by omega) (off_ne hve)
  have r60 := fun W => sl_front gE n c (n + 1) (by omega) W
  have r66 := fun W => sl_back gE (n + 1) c (i + 1) (by omega) (by omega) W
  have r76 := fun W => sl_back gE (n + 1) c i (by omega) (by omega) W
  simp only [Int.natCast_add, Int.natCast_one] at r60 r66
  rw [show n + 1 - (i + 1) = q by omega] at r66
  rw [show n + 1 - i = q + 1 by omega] at r76
  have hcg : decide ((c : Int) < (n : Int) + 1) = false := decide_eq_false (by omega)
  have HYS : Hid (ys.length = 15) := Lib.hid (by omega)
  have HMX : Hid ((slE x).length = Nat.min 1 (q + 1) * 15) := Lib.hid (by rw [slE_len, show Nat.min 1 (q + 1) = 1 by simp [Nat.min_def]])
  have HPX : Hid (i * 15 + (slE x).length ≤ (n + 1) * 15) := Lib.hid (by rw [slE_len]; omega)
  have HPD : Hid ((i + 1) * 15 + ((l.flatMap slE).drop (i * 15)).length ≤ (n + 1) * 15) := Lib.hid (by rw [HD.out]; omega)
  have HMD : Hid (((l.flatMap slE).drop (i * 15)).length = Nat.min (q + 1) q * 15) := Lib.hid (by rw [HD.out, show Nat.min (q + 1) q = q by simp [Nat.min_def]])
  have HPC : Hid (((l.flatMap slE ++ ys).drop (i * 15)).take ((l.flatMap slE).drop (i * 15)).length = (l.flatMap slE).drop (i * 15)) := Lib.hid (by rw [List.drop_append_of_le_length (by have := HFL.out; omega)]; exact List.take_left' rfl)
  have HVN : Hid (Hid (vb ≠ gE)) := Lib.hid (Lib.hid (off_ne hve))
  have gk := World.grownBy.refl w (some gE)
  clear own
  have own := own1
  clear own1 hys hl hcap hlo hq hi hg hn hve
  have bel := Below.refl w.heap.size w
  go_enter Try.func61, Try.ntmps61
  have R12 := r53
  have R60 := r60
  have R66 := r66
  have R67 := hov
  go_wp2_with fail
  clear R12 R60 R66 R67
  replace bel := bel.drew
  replace own := World.ownsRow.drew own
  replace gk := gk_drew gk
  replace hvb := heap_drew hvb
  refine wp_region_held_drew (S := fun _ => True) (by kernel_rfl) trivial (fun hH => ?_)
  generalize w.drew = w1 at bel own gk hvb hH ⊢
  refine wpAnyH_take (i := 0) (v := ?_) rfl (by kernel_rfl) (by kernel_rfl) (by kernel_rfl) (fun _ _ _ h => h) (Or.inl ⟨by rfl, ?_⟩) hH ?_
  rotate_left
  · ((intro W hW; clear hW; go_simp) <;> with_reducible rfl)
  simp only [Act.put, List.getElem_toArray, List.getElem_cons_zero, List.setIfInBounds_toArray, List.set_cons_zero, List.set_cons_succ]
  refine wpAnyH_take (i := 1) (v := ?_) rfl (by kernel_rfl) (by kernel_rfl) (by kernel_rfl) (fun _ _ _ h => h) (Or.inl ⟨by rfl, ?_⟩) hH ?_
  rotate_left
  · ((intro W hW; clear hW; go_simp) <;> with_reducible rfl)
  simp only [sq3, sq4]
  refine wpAnyH_take (i := 2) (v := ?_) rfl (by kernel_rfl) (by kernel_rfl) (by kernel_rfl) (fun _ _ _ h => h) (Or.inl ⟨by rfl, ?_⟩) hH ?_
  rotate_left
  · ((intro W hW; clear hW; go_simp) <;> with_reducible rfl)
  simp only [sq3, sq4]
  refine wpAnyH_take (i := 3) (v := ?_) rfl (by kernel_rfl) (by kernel_rfl) (by kernel_rfl) (fun _ _ _ h => h) (Or.inl ⟨by rfl, ?_⟩) hH ?_
  rotate_left
  · ((intro W hW; clear hW; go_simp) <;> with_reducible rfl)
  simp only [sq3, sq4]
  refine wpAnyH_take (i := 4) (v := ?_) rfl (by kernel_rfl) (by kernel_rfl) (by kernel_rfl) (fun _ _ _ h => h) (Or.inl ⟨by rfl, ?_⟩) hH ?_
  rotate_left
  · ((intro W hW; clear hW; go_simp) <;> with_reducible rfl)
  simp only [sq3, sq4]
  refine wpAnyH_take (i := 5) (v := ?_) rfl (by kernel_rfl) (by kernel_rfl) (by kernel_rfl) (fun _ _ _ h => h) (Or.inl ⟨by rfl, ?_⟩) hH ?_
  rotate_left
  · ((intro W hW; clear hW; go_simp) <;> with_reducible rfl)
  simp only [sq3, sq4]
  refine wpAnyH_take (i := 6) (v := ?_) rfl (by kernel_rfl) (by kernel_rfl) (by kernel_rfl) (fun _ _ _ h => h) (Or.inl ⟨by rfl, ?_⟩) hH ?_
  rotate_left
  · ((intro W hW; clear hW; go_simp) <;> with_reducible rfl)
  simp only [sq3, sq4]
  refine wpAnyH_take (i := 7) (v := ?_) rfl (by kernel_rfl) (by kernel_rfl) (by kernel_rfl) (fun _ _ _ h => h) (Or.inl ⟨by rfl, ?_⟩) hH ?_
  rotate_left
  · ((intro W hW; clear hW; go_simp) <;> with_reducible rfl)
  simp only [sq3, sq4]
  refine wpAnyH_ready (rs := [8]) (by kernel_rfl) (by simp) ?_
  refine AllReadyH.cons (o := _) rfl (fun K hK => ?_) AllReadyH.nil
  simp only [sq3]
  rw [if_pos (by rfl)]
  refine wp_copy_rowk (.tmp 73) (.tmp 76) 82 82 101 rfl Try.underlying82 sl_size own ((i + 1) * 15) q (c - (i + 1)) ⟨gE, i * 15, none⟩ (q + 1) (c - i) ((l.flatMap slE).drop (i * 15)) rfl rfl HMD.out (row_piece own _ _ HPC.out) HPD.out HON.out _ rfl ?_
  intro w9 own_ gw
  clear own
  have own := own_
  clear own_
  replace gk := gk.trans gw
  replace hvb := blk_a hvb gw HVN.out
  clear gw bel
  refine hK.out _ _ trivial (fun hH2 => ?_)
  clear hK K
  simp only [sq4]
  refine wpAnyH_done (by kernel_rfl) ?_ _
  have R80 := r76
  go_wp2_with (first | ((with_reducible show wpList _ _ _ (⟨some 82, _, _, _, _, _⟩ :: _) _ _); refine wpList_copy_rowk rfl (.tmp 80) (.tmp 81) 82 82 101 rfl Try.underlying82 sl_size own (i * 15) (q + 1) (c - i) ⟨vb, 0, none⟩ 1 1 (slE x) rfl rfl HMX.out (sl_vsrc hvb) HPX.out (slE_one x) _ rfl ?_; intro w10 own_ gw; clear own; have own := own_; clear own_; replace gk := gk.trans gw; clear gw hvb))
  try clear R80
  go_ret
  refine ⟨some ⟨gE, 0, none⟩, c, rfl, ?_, gk, fun _ _ h => h⟩
  rw [show (i + 1) * 15 = i * 15 + 15 by omega, ins_cells (m := q * 15) (by have := HFL.out; omega) HYS.out (slE_len x)] at own
  rw [sl_insd]
  exact own
theorem sl_insert {lo n c vb : Nat} {i : Nat} {A : Option Addr} {l : List Sd} {x : Sd} (w : World) (hlo : lo ≤ w.heap.size) (hown : w.ownsRow lo 101 15 (.slice A n c) n (l.flatMap slE)) (hn : n ≤ 1000) (hvb : w.heap[vb]? = some (.cells (slE x).toArray 101 (0, 0))) (hve : Ofs (.slice A n c) vb) (hi : i ≤ n) : Calls Try.prog 61 #[.slice A n c, .int .i64 (i : Int), .slice (some ⟨vb, 0, none⟩) 1 1] w fun e w' => ∃ A' c', e = .returned (.slice A' (n + 1) c') ∧ w'.ownsRow lo 101 15 (.slice A' (n + 1) c') (n + 1) ((l.take i ++ x :: l.drop i).flatMap slE) ∧ w.grownBy w' (Value.ownBlock (.slice A n c)) ∧ (∀ q, q < w.heap.size → Ofs (.slice A n c) q → Ofs (.slice A' (n + 1) c') q) := by
  rcases Nat.lt_or_ge i n with h | h
  · obtain ⟨gE, rfl, _⟩ := row_at hown (by omega)
    rcases Nat.lt_or_ge c (n + 1) with h2 | h2
    · exact sl_ins_grow w hlo hown hn hvb hve h h2
    · exact sl_ins_room w hlo hown hn hvb hve h h2
  · obtain rfl : i = n := by omega
    exact sl_ins_end w hlo hown hn hvb
end Go.Proofs.Ytapdmlfjohiekaa
