/- ports' small functions. -/
import Derived.Test.YtmjmjfcdblapcaaPt0
import Derived.Laws.ResultCell
import Derived.IntWalk
import Derived.Deep.CutRange
import Derived.DeepKeys4
import Derived.Stop.BytesEq
namespace Go.Proofs.Ytmjmjfcdblapcaa
open Go.RowKit

def cmpI (x y : Int) : Int := if x < y then -1 else if y < x then 1 else 0
def orI (a b : Int) : Int := if a = 0 then b else a
theorem cmpP_is (p o q r : Int) : cmpP p o q r = orI (cmpI p q) (cmpI o r) := by
  unfold cmpP cmpI orI
  by_cases a : p < q
  · rw [if_pos a, if_pos a]; rfl
  · rw [if_neg a, if_neg a]
    by_cases b : q < p
    · rw [if_pos b, if_pos b]; rfl
    · rw [if_neg b, if_neg b]; rfl
def adV (x : Ad4) : Value := .agg #[.int .u8 (x.a.toNat : Int), .int .u8 (x.b.toNat : Int), .int .u8 (x.c.toNat : Int), .int .u8 (x.d.toNat : Int)]
theorem eqa_b (x y : Ad4) (W : World) : (binOp .eql 28 (adV x) (adV y)).run Try.prog W = .ok (.bool (x.eqB y)) W :=
  run_eql_bytes (P := Try.prog) W 28 5 4 (by kernel_rfl) (by kernel_rfl) (fun w => by kernel_rfl) x.l y.l rfl rfl
theorem nea_b (x y : Ad4) (W : World) : (binOp .neq 28 (adV x) (adV y)).run Try.prog W = .ok (.bool (!x.eqB y)) W := by
  have h := run_equalIn_bytes (P := Try.prog) W 9998 28 5 4 (by kernel_rfl) (by kernel_rfl) (fun w => by kernel_rfl) x.l y.l rfl rfl
  show (binOp .neq 28 (.agg (x.l.map u8v).toArray) (.agg (y.l.map u8v).toArray)).run Try.prog W = _
  rw [run_neq_struct]
  have h2 : (Op.equalIn 10000 28 (.agg (x.l.map u8v).toArray) (.agg (y.l.map u8v).toArray)).run Try.prog W = .ok (x.l == y.l) W := h
  rw [h2]
  rfl
set_option linter.unusedVariables false in
set_option linter.unusedSimpArgs false in
set_option maxRecDepth 100000 in
set_option maxHeartbeats 16000000 in
theorem nani_any (x : Int) (w : World)  : Calls Try.prog 64 #[.int .i64 x] w fun e w' => e = .returned (.bool false) ∧ w = w' := by
  skip
  go_enter Try.func64, Try.ntmps64
  go_wp2_with fail
  go_ret
  exact ⟨rfl, rfl⟩
set_option linter.unusedVariables false in
set_option linter.unusedSimpArgs false in
set_option maxRecDepth 100000 in
set_option maxHeartbeats 16000000 in
theorem cmpi_lt (x y : Int) (w : World) (h : x < y) : Calls Try.prog 53 #[.int .i64 x, .int .i64 y] w fun e w' => e = .returned (.int .i64 (-1)) ∧ w = w' := by
  skip
  go_enter Try.func53, Try.ntmps53
  go_wp2_with fail
  with_reducible refine (nani_any x _).mono ?_
  rintro e _ ⟨rfl, rfl⟩
  go_wp2_with fail
  with_reducible refine (nani_any y _).mono ?_
  rintro e _ ⟨rfl, rfl⟩
  go_wp2_with fail
  go_ret
  exact ⟨rfl, rfl⟩
set_option linter.unusedVariables false in
set_option linter.unusedSimpArgs false in
set_option maxRecDepth 100000 in
set_option maxHeartbeats 16000000 in
theorem cmpi_gt (x y : Int) (w : World) (h : y < x) : Calls Try.prog 53 #[.int .i64 x, .int .i64 y] w fun e w' => e = .returned (.int .i64 1) ∧ w = w' := by
  have h2 : decide (x < y) = false := decide_eq_false (by omega)
  have h3 : x > y := h
  skip
  go_enter Try.func53, Try.ntmps53
  go_wp2_with fail
  with_reducible refine (nani_any x _).mono ?_
  rintro e _ ⟨rfl, rfl⟩
  go_wp2_with fail
  with_reducible refine (nani_any y _).mono ?_
  rintro e _ ⟨rfl, rfl⟩
  go_wp2_with fail
  go_ret
  exact ⟨rfl, rfl⟩
set_option linter.unusedVariables false in
set_option linter.unusedSimpArgs false in
set_option maxRecDepth 100000 in
set_option maxHeartbeats 16000000 in
theorem cmpi_eq (x y : Int) (w : World) (h : x = y) : Calls Try.prog 53 #[.int .i64 x, .int .i64 y] w fun e w' => e = .returned (.int .i64 0) ∧ w = w' := by
  subst h
  have h2 : decide (x < x) = false := decide_eq_false (by omega)
  have h3 : decide (x > x) = false := decide_eq_false (by omega)
  skip
  go_enter Try.func53, Try.ntmps53
  go_wp2_with fail
  with_reducible refine (nani_any x _).mono ?_
  rintro e _ ⟨rfl, rfl⟩
  go_wp2_with fail
  with_reducible refine (nani_any x _).mono ?_
  rintro e _ ⟨rfl, rfl⟩
  go_wp2_with fail
  go_ret
  exact ⟨rfl, rfl⟩
theorem cmpi_any (x y : Int) (w : World) : Calls Try.prog 53 #[.int .i64 x, .int .i64 y] w fun e w' => e = .returned (.int .i64 (cmpI x y)) ∧ w = w' := by
  unfold cmpI
  by_cases h1 : x < y
  · rw [if_pos h1]; exact cmpi_lt x y w h1
  · by_cases h2 : y < x
    · rw [if_neg h1, if_pos h2]; exact cmpi_gt x y w h2
    · rw [if_neg h1, if_neg h2]; exact cmpi_eq x y w (by omega)
theorem or_two (w : World) {g : Nat} {a b : Int} (hg : w.heap[g]? = some (.cells #[.int .i64 a, .int .i64 b] 3 (0, 0))) : w.cell? ⟨g, 0, none⟩ = some (.int .i64 a) ∧ w.cell? ⟨g, 1, none⟩ = some (.int .i64 b) ∧ w.frozen? ⟨g, 0, none⟩ = false ∧ w.frozen? ⟨g, 1, none⟩ = false := by
  simp [World.cell?, World.frozen?, hg]
set_option linter.unusedVariables false in
set_option linter.unusedSimpArgs false in
set_option maxRecDepth 100000 in
set_option maxHeartbeats 16000000 in
theorem or_1 {g : Nat} {a b : Int} (w : World) (hg : w.heap[g]? = some (.cells #[.int .i64 a, .int .i64 b] 3 (0, 0))) (h : ¬ a = 0) : Calls Try.prog 52 #[.slice (some ⟨g, 0, none⟩) 2 2] w fun e w' => e = .returned (.int .i64 a) ∧ w = w' := by
  have hb : (a != 0) = true := by simpa using h
  obtain ⟨c0, c1, f0, f1⟩ := or_two w hg
  clear hg
  skip
  go_enter Try.func52, Try.ntmps52
  go_wp2_with fail
  refine wp_loop_rounds 4 ?_
  rw [rounds_succ]
  go_wp2_with fail
  go_ret
  exact ⟨rfl, rfl⟩
set_option linter.unusedVariables false in
set_option linter.unusedSimpArgs false in
set_option maxRecDepth 100000 in
set_option maxHeartbeats 16000000 in
theorem or_2 {g : Nat} {a b : Int} (w : World) (hg : w.heap[g]? = some (.cells #[.int .i64 a, .int .i64 b] 3 (0, 0))) (h : a = 0) (h2 : ¬ b = 0) : Calls Try.prog 52 #[.slice (some ⟨g, 0, none⟩) 2 2] w fun e w' => e = .returned (.int .i64 b) ∧ w = w' := by
  subst h
  have hb : (b != 0) = true := by simpa using h2
  obtain ⟨c0, c1, f0, f1⟩ := or_two w hg
  clear hg
  skip
  go_enter Try.func52, Try.ntmps52
  go_wp2_with fail
  refine wp_loop_rounds 4 ?_
  rw [rounds_succ]
  go_wp2_with fail
  rw [rounds_succ]
  go_wp2_with fail
  go_ret
  exact ⟨rfl, rfl⟩
set_option linter.unusedVariables false in
set_option linter.unusedSimpArgs false in
set_option maxRecDepth 100000 in
set_option maxHeartbeats 16000000 in
theorem or_3 {g : Nat} {a b : Int} (w : World) (hg : w.heap[g]? = some (.cells #[.int .i64 a, .int .i64 b] 3 (0, 0))) (h : a = 0) (h2 : b = 0) : Calls Try.prog 52 #[.slice (some ⟨g, 0, none⟩) 2 2] w fun e w' => e = .returned (.int .i64 0) ∧ w = w' := by
  subst h
  subst h2
  obtain ⟨c0, c1, f0, f1⟩ := or_two w hg
  clear hg
  skip
  go_enter Try.func52, Try.ntmps52
  go_wp2_with fail
  refine wp_loop_rounds 4 ?_
  rw [rounds_succ]
  go_wp2_with fail
  rw [rounds_succ]
  go_wp2_with fail
  rw [rounds_succ]
  go_wp2_with fail
  go_ret
  exact ⟨rfl, rfl⟩
theorem or_any {g : Nat} {a b : Int} (w : World) (hg : w.heap[g]? = some (.cells #[.int .i64 a, .int .i64 b] 3 (0, 0))) : Calls Try.prog 52 #[.slice (some ⟨g, 0, none⟩) 2 2] w fun e w' => e = .returned (.int .i64 (orI a b)) ∧ w = w' := by
  unfold orI
  by_cases h : a = 0
  · rw [if_pos h]
    by_cases h2 : b = 0
    · rw [h2]; exact or_3 w hg h h2
    · exact or_2 w hg h h2
  · rw [if_neg h]; exact or_1 w hg h
set_option linter.unusedVariables false in
set_option linter.unusedSimpArgs false in
set_option maxRecDepth 100000 in
set_option maxHeartbeats 16000000 in
theorem pcompare_any (p o q r : Int) (w : World)  : Calls Try.prog 36 #[.agg #[.int .i64 p, .int .i64 o], .agg #[.int .i64 q, .int .i64 r]] w fun e w' => e = .returned (.int .i64 (cmpP p o q r)) ∧ Below w.heap.size w w' := by
  obtain ⟨c1, H1_⟩ : ∃ b, cmpI p q = b := ⟨_, rfl⟩
  have H1 := Lib.hid H1_
  clear H1_
  obtain ⟨c2, H2_⟩ : ∃ b, cmpI o r = b := ⟨_, rfl⟩
  have H2 := Lib.hid H2_
  clear H2_
  have bel := Below.refl w.heap.size w
  go_enter Try.func36, Try.ntmps36
  go_wp2_with (first | ((with_reducible show wpList _ _ _ (⟨some 2, _, _, _, _, _⟩ :: _) _ _); refine wpList_box_n rfl 61 (.tmp 0) rfl #[.int .i64 p, .int .i64 o] rfl ?_; intro g2 w1 ge lt hh bb; have opb := Nat.le_trans bel.size ge; replace bel := bel.trans (bb.mono bel.size); have hpb := hh; clear hh lt ge bb) | ((with_reducible show wpList _ _ _ (⟨some 3, _, _, _, _, _⟩ :: _) _ _); refine wpList_box_n rfl 61 (.tmp 1) rfl #[.int .i64 q, .int .i64 r] rfl ?_; intro g3 w2 ge lt hh bb; have d_pb_qb := ne_new (hlt hpb) ge; have oqb := Nat.le_trans bel.size ge; replace hpb := blk_u hpb bb; replace bel := bel.trans (bb.mono bel.size); have hqb := hh; clear hh lt ge bb))
  replace bel := bel.drew
  replace hpb : w2.drew.heap[g2]? = _ := hpb
  replace hqb : w2.drew.heap[g3]? = _ := hqb
  refine wp_region_held_drew (S := fun W => W.heap[g2]? = some (.cells #[.int .i64 p, .int .i64 o] 61 (0, 0)) ∧ W.heap[g3]? = some (.cells #[.int .i64 q, .int .i64 r] 61 (0, 0))) (by kernel_rfl) ⟨hpb, hqb⟩ (fun hH => ?_)
  generalize w2.drew = w3 at bel hpb hqb hH ⊢
  refine wpAnyH_take (i := 0) (v := ?_) rfl (by kernel_rfl) (by kernel_rfl) (by kernel_rfl) (fun _ _ _ h => h) (Or.inl ⟨by rfl, ?_⟩) hH ?_
  rotate_left
  · ((intro W hW; clear hW; go_simp) <;> with_reducible rfl)
  simp only [Act.put, List.getElem_toArray, List.getElem_cons_zero, List.setIfInBounds_toArray, List.set_cons_zero, List.set_cons_succ]
  refine wpAnyH_take (i := 1) (v := ?_) rfl (by kernel_rfl) (by kernel_rfl) (by kernel_rfl) (fun _ _ _ h => h) (Or.inl ⟨by rfl, ?_⟩) hH ?_
  rotate_left
  · ((intro W hW; have hk := cell_lit (hW.1) 0 _ rfl; clear hW; go_simp) <;> with_reducible rfl)
  simp only [Act.put, List.getElem_toArray, List.getElem_cons_zero, List.getElem_cons_succ, List.setIfInBounds_toArray, List.set_cons_zero, List.set_cons_succ]
  refine wpAnyH_take (i := 2) (v := ?_) rfl (by kernel_rfl) (by kernel_rfl) (by kernel_rfl) (fun _ _ _ h => h) (Or.inl ⟨by rfl, ?_⟩) hH ?_
  rotate_left
  · ((intro W hW; clear hW; go_simp) <;> with_reducible rfl)
  simp only [Act.put, List.getElem_toArray, List.getElem_cons_zero, List.getElem_cons_succ, List.setIfInBounds_toArray, List.set_cons_zero, List.set_cons_succ]
  refine wpAnyH_take (i := 3) (v := ?_) rfl (by kernel_rfl) (by kernel_rfl) (by kernel_rfl) (fun _ _ _ h => h) (Or.inl ⟨by rfl, ?_⟩) hH ?_
  rotate_left
  · ((intro W hW; have hk := cell_lit (hW.2) 0 _ rfl; clear hW; go_simp) <;> with_reducible rfl)
  simp only [Act.put, List.getElem_toArray, List.getElem_cons_zero, List.getElem_cons_succ, List.setIfInBounds_toArray, List.set_cons_zero, List.set_cons_succ]
  refine wpAnyH_take (i := 5) (v := ?_) rfl (by kernel_rfl) (by kernel_rfl) (by kernel_rfl) (fun _ _ _ h => h) (Or.inl ⟨by rfl, ?_⟩) hH ?_
  rotate_left
  · ((intro W hW; clear hW; go_simp) <;> with_reducible rfl)
  simp only [Act.put, List.getElem_toArray, List.getElem_cons_zero, List.getElem_cons_succ, List.setIfInBounds_toArray, List.set_cons_zero, List.set_cons_succ]
  refine wpAnyH_take (i := 6) (v := ?_) rfl (by kernel_rfl) (by kernel_rfl) (by kernel_rfl) (fun _ _ _ h => h) (Or.inl ⟨by rfl, ?_⟩) hH ?_
  rotate_left
  · ((intro W hW; have hk := cell_lit (hW.1) 1 _ rfl; clear hW; go_simp) <;> with_reducible rfl)
  simp only [Act.put, List.getElem_toArray, List.getElem_cons_zero, List.getElem_cons_succ, List.setIfInBounds_toArray, List.set_cons_zero, List.set_cons_succ]
  refine wpAnyH_take (i := 7) (v := ?_) rfl (by kernel_rfl) (by kernel_rfl) (by kernel_rfl) (fun _ _ _ h => h) (Or.inl ⟨by rfl, ?_⟩) hH ?_
  rotate_left
  · ((intro W hW; clear hW; go_simp) <;> with_reducible rfl)
  simp only [Act.put, List.getElem_toArray, List.getElem_cons_zero, List.getElem_cons_succ, List.setIfInBounds_toArray, List.set_cons_zero, List.set_cons_succ]
  refine wpAnyH_take (i := 8) (v := ?_) rfl (by kernel_rfl) (by kernel_rfl) (by kernel_rfl) (fun _ _ _ h => h) (Or.inl ⟨by rfl, ?_⟩) hH ?_
  rotate_left
  · ((intro W hW; have hk := cell_lit (hW.2) 1 _ rfl; clear hW; go_simp) <;> with_reducible rfl)
  simp only [Act.put, List.getElem_toArray, List.getElem_cons_zero, List.getElem_cons_succ, List.setIfInBounds_toArray, List.set_cons_zero, List.set_cons_succ]
  refine wpAnyH_ready (rs := [4]) (by kernel_rfl) (by simp) ?_
  refine AllReadyH.cons (o := _) rfl (fun K hK => ?_) AllReadyH.nil
  simp only [List.getElem_toArray, List.getElem_cons_zero, List.getElem_cons_succ]
  go_simp
  with_reducible refine (cmpi_any p q _).mono ?_
  rintro e _ ⟨rfl, rfl⟩
  dsimp only
  rw [H1.out]
  refine hK.out _ _ ⟨hpb, hqb⟩ (fun hH4 => ?_)
  clear hK K
  refine wpAnyH_ready (rs := [9]) (by kernel_rfl) (by simp) ?_
  refine AllReadyH.cons (o := _) rfl (fun K hK => ?_) AllReadyH.nil
  simp only [List.getElem_toArray, List.getElem_cons_zero, List.getElem_cons_succ]
  go_simp
  with_reducible refine (cmpi_any o r _).mono ?_
  rintro e _ ⟨rfl, rfl⟩
  dsimp only
  rw [H2.out]
  refine hK.out _ _ ⟨hpb, hqb⟩ (fun hH5 => ?_)
  clear hK K
  refine wpAnyH_ready (rs := [10]) (by kernel_rfl) (by simp) ?_
  refine AllReadyH.cons (o := _) rfl (fun K hK => ?_) AllReadyH.nil
  simp only [List.getElem_toArray, List.getElem_cons_zero, List.getElem_cons_succ]
  rw [if_pos (by rfl)]
  refine wp_lit_n 98 3 2 _ rfl #[.int .i64 c1, .int .i64 c2] (.int .i64 0) Try.underlying98 (by kernel_rfl) 1 (by kernel_rfl) (by decide) (by kernel_rfl) ?_
  intro g15 w6 ge lt hh bb
  have d_pb_b15 := ne_new (hlt hpb) ge
  have d_qb_b15 := ne_new (hlt hqb) ge
  have ob15 := Nat.le_trans bel.size ge
  replace hpb := blk_u hpb bb
  replace hqb := blk_u hqb bb
  replace bel := bel.trans (bb.mono bel.size)
  have hb15 := hh
  clear hh lt ge bb
  refine hK.out _ _ ⟨hpb, hqb⟩ (fun hH7 => ?_)
  clear hK K
  simp only [Act.put, List.setIfInBounds_toArray, List.set_cons_zero, List.set_cons_succ]
  refine wpAnyH_ready (rs := [11]) (by kernel_rfl) (by simp) ?_
  refine AllReadyH.cons (o := _) rfl (fun K hK => ?_) AllReadyH.nil
  simp only [List.getElem_toArray, List.getElem_cons_zero, List.getElem_cons_succ]
  go_simp
  with_reducible refine (or_any _ hb15).mono ?_
  rintro e _ ⟨rfl, rfl⟩
  dsimp only
  refine hK.out _ _ ⟨hpb, hqb⟩ (fun hH8 => ?_)
  clear hK K
  refine wpAnyH_take (i := 12) (v := ?_) rfl (by kernel_rfl) (by kernel_rfl) (by kernel_rfl) (fun _ _ _ h => h) (Or.inl ⟨by rfl, ?_⟩) hH8 ?_
  rotate_left
  · ((intro W hW; clear hW; go_simp) <;> with_reducible rfl)
  simp only [Act.put, List.getElem_toArray, List.getElem_cons_zero, List.getElem_cons_succ, List.setIfInBounds_toArray, List.set_cons_zero, List.set_cons_succ]
  refine wpAnyH_done (by kernel_rfl) ?_ _
  go_wp2_with fail
  go_ret
  exact ⟨by show Ending.returned (.int .i64 (orI c1 c2)) = .returned (.int .i64 _); rw [cmpP_is, H1.out, H2.out], bel⟩
set_option linter.unusedVariables false in
set_option linter.unusedSimpArgs false in
set_option maxRecDepth 100000 in
set_option maxHeartbeats 16000000 in
theorem mport_any (m : Mp) (w : World)  : Calls Try.prog 25 #[.agg #[.int .i64 m.pr, .int .i64 m.o, .int .u8 (m.ad.a.toNat : Int), .int .u8 (m.ad.b.toNat : Int), .int .u8 (m.ad.c.toNat : Int), .int .u8 (m.ad.d.toNat : Int), .int .i64 m.i, .int .i64 m.k, .int .i64 m.u]] w fun e w' => e = .returned (.agg #[.int .i64 m.pr, .int .i64 m.o]) ∧ Below w.heap.size w w' := by
  have bel := Below.refl w.heap.size w
  go_enter Try.func25, Try.ntmps25
  go_wp2_with (first | ((with_reducible show wpList _ _ _ (⟨some 1, _, _, _, _, _⟩ :: _) _ _); refine wpList_box_n rfl 31 (.tmp 0) rfl #[.int .i64 m.pr, .int .i64 m.o, .int .u8 (m.ad.a.toNat : Int), .int .u8 (m.ad.b.toNat : Int), .int .u8 (m.ad.c.toNat : Int), .int .u8 (m.ad.d.toNat : Int), .int .i64 m.i, .int .i64 m.k, .int .i64 m.u] rfl ?_; intro g1 w1 ge lt hh bb; have oeb := Nat.le_trans bel.size ge; replace bel := bel.trans (bb.mono bel.size); have heb := hh; clear hh lt ge bb) | ((with_reducible show wpList _ _ _ (⟨some 2, _, _, _, _, _⟩ :: _) _ _); refine wpList_new_a rfl 61 rfl #[.int .i64 0, .int .i64 0] (by kernel_rfl) ?_; intro g2 w2 ge hh bb; have d_eb_rb := ne_new (hlt heb) ge; have orb := Nat.le_trans bel.size ge; replace heb := blk_u heb bb; replace bel := bel.trans (bb.mono bel.size); have hrb := hh; clear hh ge bb; have R4 := cell_lit heb 0 _ rfl; have R6 := cell_lit heb 1 _ rfl) | ((with_reducible show wpList _ _ _ (⟨none, Op.store _ (.tmp 2) _, _, _, _, _⟩ :: _) _ _); refine wpList_store_blk rfl 61 (.tmp 2) (.tmp 7) rfl g2 rfl _ rfl _ 61 hrb (by rfl) (by kernel_rfl) (by kernel_rfl) ?_; intro w3 hq gr; replace heb := blk_a heb gr d_eb_rb; replace bel := below_grown bel gr orb bel.size; clear hrb; have hrb := hq; clear hq gr))
  try clear R4
  try clear R6
  exact bodyPost_ret (results_cell_row' rfl _ _ _ _ _ _ _ rfl hrb Try.underlying61 rfl (by kernel_rfl)) rfl ⟨rfl, bel⟩
set_option linter.unusedVariables false in
set_option linter.unusedSimpArgs false in
set_option maxRecDepth 100000 in
set_option maxHeartbeats 16000000 in
theorem findf_any (x : Mp) (p o : Int) (w : World)  : Calls Try.prog 57 #[.agg #[.int .i64 x.pr, .int .i64 x.o, .int .u8 (x.ad.a.toNat : Int), .int .u8 (x.ad.b.toNat : Int), .int .u8 (x.ad.c.toNat : Int), .int .u8 (x.ad.d.toNat : Int), .int .i64 x.i, .int .i64 x.k, .int .i64 x.u], .agg #[.int .i64 p, .int .i64 o]] w fun e w' => e = .returned (.int .i64 (cmpP x.pr x.o p o)) ∧ Below w.heap.size w w' := by
  have bel := Below.refl w.heap.size w
  go_enter Try.func57, Try.ntmps57
  go_wp2_with (first | ((with_reducible show wpList _ _ _ (⟨some 2, _, _, _, _, _⟩ :: _) _ _); refine wpList_box_n rfl 31 (.tmp 0) rfl #[.int .i64 x.pr, .int .i64 x.o, .int .u8 (x.ad.a.toNat : Int), .int .u8 (x.ad.b.toNat : Int), .int .u8 (x.ad.c.toNat : Int), .int .u8 (x.ad.d.toNat : Int), .int .i64 x.i, .int .i64 x.k, .int .i64 x.u] rfl ?_; intro g2 w1 ge lt hh bb; have oeb := Nat.le_trans bel.size ge; replace bel := bel.trans (bb.mono bel.size); have heb := hh; clear hh lt ge bb) | ((with_reducible show wpList _ _ _ (⟨some 3, _, _, _, _, _⟩ :: _) _ _); refine wpList_box_n rfl 61 (.tmp 1) rfl #[.int .i64 p, .int .i64 o] rfl ?_; intro g3 w2 ge lt hh bb; have d_eb_ab := ne_new (hlt heb) ge; have oab := Nat.le_trans bel.size ge; replace heb := blk_u heb bb; replace bel := bel.trans (bb.mono bel.size); have hab := hh; clear hh lt ge bb))
  replace bel := bel.drew
  replace heb : w2.drew.heap[g2]? = _ := heb
  replace hab : w2.drew.heap[g3]? = _ := hab
  refine wp_region_held_drew (S := fun W => W.heap[g2]? = some (.cells #[.int .i64 x.pr, .int .i64 x.o, .int .u8 (x.ad.a.toNat : Int), .int .u8 (x.ad.b.toNat : Int), .int .u8 (x.ad.c.toNat : Int), .int .u8 (x.ad.d.toNat : Int), .int .i64 x.i, .int .i64 x.k, .int .i64 x.u] 31 (0, 0)) ∧ W.heap[g3]? = some (.cells #[.int .i64 p, .int .i64 o] 61 (0, 0))) (by kernel_rfl) ⟨heb, hab⟩ (fun hH => ?_)
  generalize w2.drew = w3 at bel heb hab hH ⊢
  refine wpAnyH_take (i := 0) (v := .agg #[.int .i64 x.pr, .int .i64 x.o, .int .u8 (x.ad.a.toNat : Int), .int .u8 (x.ad.b.toNat : Int), .int .u8 (x.ad.c.toNat : Int), .int .u8 (x.ad.d.toNat : Int), .int .i64 x.i, .int .i64 x.k, .int .i64 x.u]) rfl (by kernel_rfl) (by kernel_rfl) (by kernel_rfl) (fun _ _ _ h => h) (yieldsIf_load_part (by kernel_rfl) 31 _ rfl g2 0 9 rfl _ 31 (0, 0) (fun W hW => hW.1) _ rfl _ Try.underlying31 rfl (by kernel_rfl)) hH ?_
  simp only [Act.put, List.getElem_toArray, List.getElem_cons_zero, List.setIfInBounds_toArray, List.set_cons_zero, List.set_cons_succ]
  refine wpAnyH_take (i := 2) (v := .agg #[.int .i64 p, .int .i64 o]) rfl (by kernel_rfl) (by kernel_rfl) (by kernel_rfl) (fun _ _ _ h => h) (yieldsIf_load_part (by kernel_rfl) 61 _ rfl g3 0 2 rfl _ 61 (0, 0) (fun W hW => hW.2) _ rfl _ Try.underlying61 rfl (by kernel_rfl)) hH ?_
  simp only [Act.put, List.getElem_toArray, List.getElem_cons_zero, List.getElem_cons_succ, List.setIfInBounds_toArray, List.set_cons_zero, List.set_cons_succ]
  refine wpAnyH_ready (rs := [1]) (by kernel_rfl) (by simp) ?_
  refine AllReadyH.cons (o := _) rfl (fun K hK => ?_) AllReadyH.nil
  simp only [List.getElem_toArray, List.getElem_cons_zero, List.getElem_cons_succ]
  go_simp
  with_reducible refine (mport_any x _).mono ?_
  rintro e w4 ⟨rfl, b4⟩
  dsimp only
  replace heb := blk_u heb b4
  replace hab := blk_u hab b4
  replace bel := bel.trans (b4.mono bel.size)
  clear b4
  refine hK.out _ _ ⟨heb, hab⟩ (fun hH5 => ?_)
  clear hK K
  refine wpAnyH_ready (rs := [3]) (by kernel_rfl) (by simp) ?_
  refine AllReadyH.cons (o := _) rfl (fun K hK => ?_) AllReadyH.nil
  simp only [List.getElem_toArray, List.getElem_cons_zero, List.getElem_cons_succ]
  go_simp
  with_reducible refine (pcompare_any x.pr x.o p o _).mono ?_
  rintro e w6 ⟨rfl, b6⟩
  dsimp only
  replace heb := blk_u heb b6
  replace hab := blk_u hab b6
  replace bel := bel.trans (b6.mono bel.size)
  clear b6
  refine hK.out _ _ ⟨heb, hab⟩ (fun hH7 => ?_)
  clear hK K
  refine wpAnyH_take (i := 4) (v := ?_) rfl (by kernel_rfl) (by kernel_rfl) (by kernel_rfl) (fun _ _ _ h => h) (Or.inl ⟨by rfl, ?_⟩) hH7 ?_
  rotate_left
  · ((intro W hW; clear hW; go_simp) <;> with_reducible rfl)
  simp only [Act.put, List.getElem_toArray, List.getElem_cons_zero, List.getElem_cons_succ, List.setIfInBounds_toArray, List.set_cons_zero, List.set_cons_succ]
  refine wpAnyH_done (by kernel_rfl) ?_ _
  go_wp2_with fail
  go_ret
  exact ⟨rfl, bel⟩
set_option linter.unusedVariables false in
set_option linter.unusedSimpArgs false in
set_option maxRecDepth 100000 in
set_option maxHeartbeats 16000000 in
theorem tickf_any (x y : Mp) (w : World)  : Calls Try.prog 35 #[.agg #[.int .i64 x.pr, .int .i64 x.o, .int .u8 (x.ad.a.toNat : Int), .int .u8 (x.ad.b.toNat : Int), .int .u8 (x.ad.c.toNat : Int), .int .u8 (x.ad.d.toNat : Int), .int .i64 x.i, .int .i64 x.k, .int .i64 x.u], .agg #[.int .i64 y.pr, .int .i64 y.o, .int .u8 (y.ad.a.toNat : Int), .int .u8 (y.ad.b.toNat : Int), .int .u8 (y.ad.c.toNat : Int), .int .u8 (y.ad.d.toNat : Int), .int .i64 y.i, .int .i64 y.k, .int .i64 y.u]] w fun e w' => e = .returned (.int .i64 (cmpP x.pr x.o y.pr y.o)) ∧ Below w.heap.size w w' := by
  have bel := Below.refl w.heap.size w
  go_enter Try.func35, Try.ntmps35
  go_wp2_with (first | ((with_reducible show wpList _ _ _ (⟨some 2, _, _, _, _, _⟩ :: _) _ _); refine wpList_box_n rfl 31 (.tmp 0) rfl #[.int .i64 x.pr, .int .i64 x.o, .int .u8 (x.ad.a.toNat : Int), .int .u8 (x.ad.b.toNat : Int), .int .u8 (x.ad.c.toNat : Int), .int .u8 (x.ad.d.toNat : Int), .int .i64 x.i, .int .i64 x.k, .int .i64 x.u] rfl ?_; intro g2 w1 ge lt hh bb; have oeb := Nat.le_trans bel.size ge; replace bel := bel.trans (bb.mono bel.size); have heb := hh; clear hh lt ge bb) | ((with_reducible show wpList _ _ _ (⟨some 3, _, _, _, _, _⟩ :: _) _ _); refine wpList_box_n rfl 31 (.tmp 1) rfl #[.int .i64 y.pr, .int .i64 y.o, .int .u8 (y.ad.a.toNat : Int), .int .u8 (y.ad.b.toNat : Int), .int .u8 (y.ad.c.toNat : Int), .int .u8 (y.ad.d.toNat : Int), .int .i64 y.i, .int .i64 y.k, .int .i64 y.u] rfl ?_; intro g3 w2 ge lt hh bb; have d_eb_ab := ne_new (hlt heb) ge; have oab := Nat.le_trans bel.size ge; replace heb := blk_u heb bb; replace bel := bel.trans (bb.mono bel.size); have hab := hh; clear hh lt ge bb))
  replace bel := bel.drew
  replace heb : w2.drew.heap[g2]? = _ := heb
  replace hab : w2.drew.heap[g3]? = _ := hab
  refine wp_region_held_drew (S := fun W => W.heap[g2]? = some (.cells #[.int .i64 x.pr, .int .i64 x.o, .int .u8 (x.ad.a.toNat : Int), .int .u8 (x.ad.b.toNat : Int), .int .u8 (x.ad.c.toNat : Int), .int .u8 (x.ad.d.toNat : Int), .int .i64 x.i, .int .i64 x.k, .int .i64 x.u] 31 (0, 0)) ∧ W.heap[g3]? = some (.cells #[.int .i64 y.pr, .int .i64 y.o, .int .u8 (y.ad.a.toNat : Int), .int .u8 (y.ad.b.toNat : Int), .int .u8 (y.ad.c.toNat : Int), .int .u8 (y.ad.d.toNat : Int), .int .i64 y.i, .int .i64 y.k, .int .i64 y.u] 31 (0, 0))) (by kernel_rfl) ⟨heb, hab⟩ (fun hH => ?_)
  generalize w2.drew = w3 at bel heb hab hH ⊢
  refine wpAnyH_take (i := 0) (v := .agg #[.int .i64 x.pr, .int .i64 x.o, .int .u8 (x.ad.a.toNat : Int), .int .u8 (x.ad.b.toNat : Int), .int .u8 (x.ad.c.toNat : Int), .int .u8 (x.ad.d.toNat : Int), .int .i64 x.i, .int .i64 x.k, .int .i64 x.u]) rfl (by kernel_rfl) (by kernel_rfl) (by kernel_rfl) (fun _ _ _ h => h) (yieldsIf_load_part (by kernel_rfl) 31 _ rfl g2 0 9 rfl _ 31 (0, 0) (fun W hW => hW.1) _ rfl _ Try.underlying31 rfl (by kernel_rfl)) hH ?_
  simp only [Act.put, List.getElem_toArray, List.getElem_cons_zero, List.setIfInBounds_toArray, List.set_cons_zero, List.set_cons_succ]
  refine wpAnyH_take (i := 2) (v := .agg #[.int .i64 y.pr, .int .i64 y.o, .int .u8 (y.ad.a.toNat : Int), .int .u8 (y.ad.b.toNat : Int), .int .u8 (y.ad.c.toNat : Int), .int .u8 (y.ad.d.toNat : Int), .int .i64 y.i, .int .i64 y.k, .int .i64 y.u]) rfl (by kernel_rfl) (by kernel_rfl) (by kernel_rfl) (fun _ _ _ h => h) (yieldsIf_load_part (by kernel_rfl) 31 _ rfl g3 0 9 rfl _ 31 (0, 0) (fun W hW => hW.2) _ rfl _ Try.underlying31 rfl (by kernel_rfl)) hH ?_
  simp only [Act.put, List.getElem_toArray, List.getElem_cons_zero, List.getElem_cons_succ, List.setIfInBounds_toArray, List.set_cons_zero, List.set_cons_succ]
  refine wpAnyH_ready (rs := [1]) (by kernel_rfl) (by simp) ?_
  refine AllReadyH.cons (o := _) rfl (fun K hK => ?_) AllReadyH.nil
  simp only [List.getElem_toArray, List.getElem_cons_zero, List.getElem_cons_succ]
  go_simp
  with_reducible refine (mport_any x _).mono ?_
  rintro e w4 ⟨rfl, b4⟩
  dsimp only
  replace heb := blk_u heb b4
  replace hab := blk_u hab b4
  replace bel := bel.trans (b4.mono bel.size)
  clear b4
  refine hK.out _ _ ⟨heb, hab⟩ (fun hH5 => ?_)
  clear hK K
  refine wpAnyH_ready (rs := [3]) (by kernel_rfl) (by simp) ?_
  refine AllReadyH.cons (o := _) rfl (fun K hK => ?_) AllReadyH.nil
  simp only [List.getElem_toArray, List.getElem_cons_zero, List.getElem_cons_succ]
  go_simp
  with_reducible refine (mport_any y _).mono ?_
  rintro e w6 ⟨rfl, b6⟩
  dsimp only
  replace heb := blk_u heb b6
  replace hab := blk_u hab b6
  replace bel := bel.trans (b6.mono bel.size)
  clear b6
  refine hK.out _ _ ⟨heb, hab⟩ (fun hH7 => ?_)
  clear hK K
  refine wpAnyH_ready (rs := [4]) (by kernel_rfl) (by simp) ?_
  refine AllReadyH.cons (o := _) rfl (fun K hK => ?_) AllReadyH.nil
  simp only [List.getElem_toArray, List.getElem_cons_zero, List.getElem_cons_succ]
  go_simp
  with_reducible refine (pcompare_any x.pr x.o y.pr y.o _).mono ?_
  rintro e w8 ⟨rfl, b8⟩
  dsimp only
  replace heb := blk_u heb b8
  replace hab := blk_u hab b8
  replace bel := bel.trans (b8.mono bel.size)
  clear b8
  refine hK.out _ _ ⟨heb, hab⟩ (fun hH9 => ?_)
  clear hK K
  refine wpAnyH_take (i := 5) (v := ?_) rfl (by kernel_rfl) (by kernel_rfl) (by kernel_rfl) (fun _ _ _ h => h) (Or.inl ⟨by rfl, ?_⟩) hH9 ?_
  rotate_left
  · ((intro W hW; clear hW; go_simp) <;> with_reducible rfl)
  simp only [Act.put, List.getElem_toArray, List.getElem_cons_zero, List.getElem_cons_succ, List.setIfInBounds_toArray, List.set_cons_zero, List.set_cons_succ]
  refine wpAnyH_done (by kernel_rfl) ?_ _
  go_wp2_with fail
  go_ret
  exact ⟨rfl, bel⟩
set_option linter.unusedVariables false in
set_option linter.unusedSimpArgs false in
set_option maxRecDepth 100000 in
set_option maxHeartbeats 16000000 in
theorem live_4 {m : Mp} {now : Int} (w : World) (h : (m.k == 4) = true) : Calls Try.prog 23 #[.agg #[.int .i64 m.pr, .int .i64 m.o, .int .u8 (m.ad.a.toNat : Int), .int .u8 (m.ad.b.toNat : Int), .int .u8 (m.ad.c.toNat : Int), .int .u8 (m.ad.d.toNat : Int), .int .i64 m.i, .int .i64 m.k, .int .i64 m.u], .int .i64 now] w fun e w' => e = .returned (.bool true) ∧ Below w.heap.size w w' := by
  have bel := Below.refl w.heap.size w
  go_enter Try.func23, Try.ntmps23
  go_wp2_with (first | ((with_reducible show wpList _ _ _ (⟨some 2, _, _, _, _, _⟩ :: _) _ _); refine wpList_box_n rfl 31 (.tmp 0) rfl #[.int .i64 m.pr, .int .i64 m.o, .int .u8 (m.ad.a.toNat : Int), .int .u8 (m.ad.b.toNat : Int), .int .u8 (m.ad.c.toNat : Int), .int .u8 (m.ad.d.toNat : Int), .int .i64 m.i, .int .i64 m.k, .int .i64 m.u] rfl ?_; intro g2 w1 ge lt hh bb; have oeb := Nat.le_trans bel.size ge; replace bel := bel.trans (bb.mono bel.size); have heb := hh; clear hh lt ge bb; have R6 := cell_lit heb 7 _ rfl))
  try clear R6
  go_ret
  exact ⟨rfl, bel⟩
set_option linter.unusedVariables false in
set_option linter.unusedSimpArgs false in
set_option maxRecDepth 100000 in
set_option maxHeartbeats 16000000 in
theorem live_y {m : Mp} {now : Int} (w : World) (h : (m.k == 4) = false) (h2 : now < m.u) : Calls Try.prog 23 #[.agg #[.int .i64 m.pr, .int .i64 m.o, .int .u8 (m.ad.a.toNat : Int), .int .u8 (m.ad.b.toNat : Int), .int .u8 (m.ad.c.toNat : Int), .int .u8 (m.ad.d.toNat : Int), .int .i64 m.i, .int .i64 m.k, .int .i64 m.u], .int .i64 now] w fun e w' => e = .returned (.bool true) ∧ Below w.heap.size w w' := by
  have bel := Below.refl w.heap.size w
  go_enter Try.func23, Try.ntmps23
  go_wp2_with (first | ((with_reducible show wpList _ _ _ (⟨some 2, _, _, _, _, _⟩ :: _) _ _); refine wpList_box_n rfl 31 (.tmp 0) rfl #[.int .i64 m.pr, .int .i64 m.o, .int .u8 (m.ad.a.toNat : Int), .int .u8 (m.ad.b.toNat : Int), .int .u8 (m.ad.c.toNat : Int), .int .u8 (m.ad.d.toNat : Int), .int .i64 m.i, .int .i64 m.k, .int .i64 m.u] rfl ?_; intro g2 w1 ge lt hh bb; have oeb := Nat.le_trans bel.size ge; replace bel := bel.trans (bb.mono bel.size); have heb := hh; clear hh lt ge bb; have R6 := cell_lit heb 7 _ rfl; have R11 := cell_lit heb 8 _ rfl))
  try clear R6
  try clear R11
  go_ret
  exact ⟨rfl, bel⟩
set_option linter.unusedVariables false in
set_option linter.unusedSimpArgs false in
set_option maxRecDepth 100000 in
set_option maxHeartbeats 16000000 in
theorem live_n {m : Mp} {now : Int} (w : World) (h : (m.k == 4) = false) (h2 : ¬ now < m.u) : Calls Try.prog 23 #[.agg #[.int .i64 m.pr, .int .i64 m.o, .int .u8 (m.ad.a.toNat : Int), .int .u8 (m.ad.b.toNat : Int), .int .u8 (m.ad.c.toNat : Int), .int .u8 (m.ad.d.toNat : Int), .int .i64 m.i, .int .i64 m.k, .int .i64 m.u], .int .i64 now] w fun e w' => e = .returned (.bool false) ∧ Below w.heap.size w w' := by
  have h3 : decide (now < m.u) = false := decide_eq_false h2
  clear h2
  have bel := Below.refl w.heap.size w
  go_enter Try.func23, Try.ntmps23
  go_wp2_with (first | ((with_reducible show wpList _ _ _ (⟨some 2, _, _, _, _, _⟩ :: _) _ _); refine wpList_box_n rfl 31 (.tmp 0) rfl #[.int .i64 m.pr, .int .i64 m.o, .int .u8 (m.ad.a.toNat : Int), .int .u8 (m.ad.b.toNat : Int), .int .u8 (m.ad.c.toNat : Int), .int .u8 (m.ad.d.toNat : Int), .int .i64 m.i, .int .i64 m.k, .int .i64 m.u] rfl ?_; intro g2 w1 ge lt hh bb; have oeb := Nat.le_trans bel.size ge; replace bel := bel.trans (bb.mono bel.size); have heb := hh; clear hh lt ge bb; have R6 := cell_lit heb 7 _ rfl; have R11 := cell_lit heb 8 _ rfl))
  try clear R6
  try clear R11
  go_ret
  exact ⟨rfl, bel⟩
theorem live_any {m : Mp} {now : Int} {b : Bool} (w : World) (h : liveB now m = b) : Calls Try.prog 23 #[.agg #[.int .i64 m.pr, .int .i64 m.o, .int .u8 (m.ad.a.toNat : Int), .int .u8 (m.ad.b.toNat : Int), .int .u8 (m.ad.c.toNat : Int), .int .u8 (m.ad.d.toNat : Int), .int .i64 m.i, .int .i64 m.k, .int .i64 m.u], .int .i64 now] w fun e w' => e = .returned (.bool b) ∧ Below w.heap.size w w' := by
  unfold liveB at h
  cases h4 : m.k == 4 with
  | true => rw [h4, Bool.true_or] at h; subst h; exact live_4 w h4
  | false =>
    rw [h4, Bool.false_or] at h
    by_cases h2 : now < m.u
    · rw [decide_eq_true h2] at h; subst h; exact live_y w h4 h2
    · rw [decide_eq_false h2] at h; subst h; exact live_n w h4 h2
set_option linter.unusedVariables false in
set_option linter.unusedSimpArgs false in
set_option maxRecDepth 100000 in
set_option maxHeartbeats 16000000 in
theorem isport_a1 {p n : Int} (w : World) (h : (p == 1) = true) (h1 : 0 ≤ n) (h2 : n ≤ 65535) : Calls Try.prog 29 #[.int .i64 p, .int .i64 n] w fun e w' => e = .returned (.bool true) ∧ w = w' := by
  have g1 : n ≥ 0 := h1
  skip
  go_enter Try.func29, Try.ntmps29
  go_wp2_with fail
  go_ret
  exact ⟨rfl, rfl⟩
set_option linter.unusedVariables false in
set_option linter.unusedSimpArgs false in
set_option maxRecDepth 100000 in
set_option maxHeartbeats 16000000 in
theorem isport_a2 {p n : Int} (w : World) (h : (p == 1) = true) (h1 : ¬ 0 ≤ n) : Calls Try.prog 29 #[.int .i64 p, .int .i64 n] w fun e w' => e = .returned (.bool false) ∧ w = w' := by
  have g1 : decide (n ≥ 0) = false := decide_eq_false h1
  have g2 : decide (0 ≤ n) = false := decide_eq_false h1
  clear h1
  skip
  go_enter Try.func29, Try.ntmps29
  go_wp2_with fail
  go_ret
  exact ⟨rfl, rfl⟩
set_option linter.unusedVariables false in
set_option linter.unusedSimpArgs false in
set_option maxRecDepth 100000 in
set_option maxHeartbeats 16000000 in
theorem isport_a3 {p n : Int} (w : World) (h : (p == 1) = true) (h1 : 0 ≤ n) (h2 : ¬ n ≤ 65535) : Calls Try.prog 29 #[.int .i64 p, .int .i64 n] w fun e w' => e = .returned (.bool false) ∧ w = w' := by
  have g1 : n ≥ 0 := h1
  have g2 : decide (n ≤ 65535) = false := decide_eq_false h2
  clear h2
  skip
  go_enter Try.func29, Try.ntmps29
  go_wp2_with fail
  go_ret
  exact ⟨rfl, rfl⟩
set_option linter.unusedVariables false in
set_option linter.unusedSimpArgs false in
set_option maxRecDepth 100000 in
set_option maxHeartbeats 16000000 in
theorem isport_b1 {p n : Int} (w : World) (h : (p == 1) = false) (h6 : (p == 6) = true) (h1 : 1 ≤ n) (h2 : n ≤ 65535) : Calls Try.prog 29 #[.int .i64 p, .int .i64 n] w fun e w' => e = .returned (.bool true) ∧ w = w' := by
  have g1 : n ≥ 1 := h1
  skip
  go_enter Try.func29, Try.ntmps29
  go_wp2_with fail
  go_ret
  exact ⟨rfl, rfl⟩
set_option linter.unusedVariables false in
set_option linter.unusedSimpArgs false in
set_option maxRecDepth 100000 in
set_option maxHeartbeats 16000000 in
theorem isport_b2 {p n : Int} (w : World) (h : (p == 1) = false) (h6 : (p == 6) = true) (h1 : ¬ 1 ≤ n) : Calls Try.prog 29 #[.int .i64 p, .int .i64 n] w fun e w' => e = .returned (.bool false) ∧ w = w' := by
  have g1 : decide (n ≥ 1) = false := decide_eq_false h1
  have g2 : decide (1 ≤ n) = false := decide_eq_false h1
  clear h1
  skip
  go_enter Try.func29, Try.ntmps29
  go_wp2_with fail
  go_ret
  exact ⟨rfl, rfl⟩
set_option linter.unusedVariables false in
set_option linter.unusedSimpArgs false in
set_option maxRecDepth 100000 in
set_option maxHeartbeats 16000000 in
theorem isport_b3 {p n : Int} (w : World) (h : (p == 1) = false) (h6 : (p == 6) = true) (h1 : 1 ≤ n) (h2 : ¬ n ≤ 65535) : Calls Try.prog 29 #[.int .i64 p, .int .i64 n] w fun e w' => e = .returned (.bool false) ∧ w = w' := by
  have g1 : n ≥ 1 := h1
  have g2 : decide (n ≤ 65535) = false := decide_eq_false h2
  clear h2
  skip
  go_enter Try.func29, Try.ntmps29
  go_wp2_with fail
  go_ret
  exact ⟨rfl, rfl⟩
set_option linter.unusedVariables false in
set_option linter.unusedSimpArgs false in
set_option maxRecDepth 100000 in
set_option maxHeartbeats 16000000 in
theorem isport_c1 {p n : Int} (w : World) (h : (p == 1) = false) (h6 : (p == 6) = false) (h7 : (p == 17) = true) (h1 : 1 ≤ n) (h2 : n ≤ 65535) : Calls Try.prog 29 #[.int .i64 p, .int .i64 n] w fun e w' => e = .returned (.bool true) ∧ w = w' := by
  have g1 : n ≥ 1 := h1
  skip
  go_enter Try.func29, Try.ntmps29
  go_wp2_with fail
  go_ret
  exact ⟨rfl, rfl⟩
set_option linter.unusedVariables false in
set_option linter.unusedSimpArgs false in
set_option maxRecDepth 100000 in
set_option maxHeartbeats 16000000 in
theorem isport_c2 {p n : Int} (w : World) (h : (p == 1) = false) (h6 : (p == 6) = false) (h7 : (p == 17) = true) (h1 : ¬ 1 ≤ n) : Calls Try.prog 29 #[.int .i64 p, .int .i64 n] w fun e w' => e = .returned (.bool false) ∧ w = w' := by
  have g1 : decide (n ≥ 1) = false := decide_eq_false h1
  have g2 : decide (1 ≤ n) = false := decide_eq_false h1
  clear h1
  skip
  go_enter Try.func29, Try.ntmps29
  go_wp2_with fail
  go_ret
  exact ⟨rfl, rfl⟩
set_option linter.unusedVariables false in
set_option linter.unusedSimpArgs false in
set_option maxRecDepth 100000 in
set_option maxHeartbeats 16000000 in
theorem isport_c3 {p n : Int} (w : World) (h : (p == 1) = false) (h6 : (p == 6) = false) (h7 : (p == 17) = true) (h1 : 1 ≤ n) (h2 : ¬ n ≤ 65535) : Calls Try.prog 29 #[.int .i64 p, .int .i64 n] w fun e w' => e = .returned (.bool false) ∧ w = w' := by
  have g1 : n ≥ 1 := h1
  have g2 : decide (n ≤ 65535) = false := decide_eq_false h2
  clear h2
  skip
  go_enter Try.func29, Try.ntmps29
  go_wp2_with fail
  go_ret
  exact ⟨rfl, rfl⟩
set_option linter.unusedVariables false in
set_option linter.unusedSimpArgs false in
set_option maxRecDepth 100000 in
set_option maxHeartbeats 16000000 in
theorem isport_d {p n : Int} (w : World) (h : (p == 1) = false) (h6 : (p == 6) = false) (h7 : (p == 17) = false) : Calls Try.prog 29 #[.int .i64 p, .int .i64 n] w fun e w' => e = .returned (.bool false) ∧ w = w' := by
  skip
  go_enter Try.func29, Try.ntmps29
  go_wp2_with fail
  go_ret
  exact ⟨rfl, rfl⟩
theorem isport_any {p n : Int} {b : Bool} (w : World) (h : portB p n = b) : Calls Try.prog 29 #[.int .i64 p, .int .i64 n] w fun e w' => e = .returned (.bool b) ∧ w = w' := by
  have two : ∀ (q : Int), (decide (q ≤ n) && decide (n ≤ 65535)) = b → (q ≤ n ∧ n ≤ 65535 ∧ b = true) ∨ (¬ q ≤ n ∧ b = false) ∨ (q ≤ n ∧ ¬ n ≤ 65535 ∧ b = false) := fun q hq => by
    by_cases a : q ≤ n
    · by_cases c : n ≤ 65535
      · left; refine ⟨a, c, ?_⟩; rw [← hq, decide_eq_true a, decide_eq_true c]; rfl
      · right; right; refine ⟨a, c, ?_⟩; rw [← hq, decide_eq_true a, decide_eq_false c]; rfl
    · right; left; refine ⟨a, ?_⟩; rw [← hq, decide_eq_false a]; rfl
  unfold portB at h
  by_cases h1 : p = 1
  · rw [if_pos h1] at h
    have e1 : (p == 1) = true := beq_iff_eq.2 h1
    rcases two 0 h with ⟨a, c, rfl⟩ | ⟨a, rfl⟩ | ⟨a, c, rfl⟩
    · exact isport_a1 w e1 a c
    · exact isport_a2 w e1 a
    · exact isport_a3 w e1 a c
  · rw [if_neg h1] at h
    have e1 : (p == 1) = false := beq_eq_false_iff_ne.2 h1
    by_cases h6 : p = 6
    · have e6 : (p == 6) = true := beq_iff_eq.2 h6
      rw [if_pos (Or.inl h6)] at h
      rcases two 1 h with ⟨a, c, rfl⟩ | ⟨a, rfl⟩ | ⟨a, c, rfl⟩
      · exact isport_b1 w e1 e6 a c
      · exact isport_b2 w e1 e6 a
      · exact isport_b3 w e1 e6 a c
    · have e6 : (p == 6) = false := beq_eq_false_iff_ne.2 h6
      by_cases h7 : p = 17
      · have e7 : (p == 17) = true := beq_iff_eq.2 h7
        rw [if_pos (Or.inr h7)] at h
        rcases two 1 h with ⟨a, c, rfl⟩ | ⟨a, rfl⟩ | ⟨a, c, rfl⟩
        · exact isport_c1 w e1 e6 e7 a c
        · exact isport_c2 w e1 e6 e7 a
        · exact isport_c3 w e1 e6 e7 a c
      · have e7 : (p == 17) = false := beq_eq_false_iff_ne.2 h7
        rw [if_neg (by omega)] at h
        subst h
        exact isport_d w e1 e6 e7
set_option linter.unusedVariables false in
set_option linter.unusedSimpArgs false in
set_option maxRecDepth 100000 in
set_option maxHeartbeats 16000000 in
theorem secs_1 {s : Int} (w : World) (h1 : 1 ≤ s) (h2 : s ≤ 1000000000) : Calls Try.prog 30 #[.int .i64 s] w fun e w' => e = .returned (.bool true) ∧ w = w' := by
  have g1 : s ≥ 1 := h1
  skip
  go_enter Try.func30, Try.ntmps30
  go_wp2_with fail
  go_ret
  exact ⟨rfl, rfl⟩
set_option linter.unusedVariables false in
set_option linter.unusedSimpArgs false in
set_option maxRecDepth 100000 in
set_option maxHeartbeats 16000000 in
theorem secs_2 {s : Int} (w : World) (h1 : ¬ 1 ≤ s) : Calls Try.prog 30 #[.int .i64 s] w fun e w' => e = .returned (.bool false) ∧ w = w' := by
  have g1 : decide (s ≥ 1) = false := decide_eq_false h1
  have g2 : decide (1 ≤ s) = false := decide_eq_false h1
  clear h1
  skip
  go_enter Try.func30, Try.ntmps30
  go_wp2_with fail
  go_ret
  exact ⟨rfl, rfl⟩
set_option linter.unusedVariables false in
set_option linter.unusedSimpArgs false in
set_option maxRecDepth 100000 in
set_option maxHeartbeats 16000000 in
theorem secs_3 {s : Int} (w : World) (h1 : 1 ≤ s) (h2 : ¬ s ≤ 1000000000) : Calls Try.prog 30 #[.int .i64 s] w fun e w' => e = .returned (.bool false) ∧ w = w' := by
  have g1 : s ≥ 1 := h1
  have g2 : decide (s ≤ 1000000000) = false := decide_eq_false h2
  clear h2
  skip
  go_enter Try.func30, Try.ntmps30
  go_wp2_with fail
  go_ret
  exact ⟨rfl, rfl⟩
theorem secs_any {s : Int} {b : Bool} (w : World) (h : secsB s = b) : Calls Try.prog 30 #[.int .i64 s] w fun e w' => e = .returned (.bool b) ∧ w = w' := by
  unfold secsB at h
  by_cases a : 1 ≤ s
  · by_cases c : s ≤ 1000000000
    · rw [decide_eq_true a, decide_eq_true c] at h; subst h; exact secs_1 w a c
    · rw [decide_eq_true a, decide_eq_false c] at h; subst h; exact secs_3 w a c
  · rw [decide_eq_false a] at h; subst h; exact secs_2 w a
set_option linter.unusedVariables false in
set_option linter.unusedSimpArgs false in
set_option maxRecDepth 100000 in
set_option maxHeartbeats 16000000 in
theorem perm_1 {m : Mp} (w : World) (h : m.k < 2) : Calls Try.prog 22 #[.agg #[.int .i64 m.pr, .int .i64 m.o, .int .u8 (m.ad.a.toNat : Int), .int .u8 (m.ad.b.toNat : Int), .int .u8 (m.ad.c.toNat : Int), .int .u8 (m.ad.d.toNat : Int), .int .i64 m.i, .int .i64 m.k, .int .i64 m.u]] w fun e w' => e = .returned (.bool false) ∧ Below w.heap.size w w' := by
  have bel := Below.refl w.heap.size w
  go_enter Try.func22, Try.ntmps22
  go_wp2_with (first | ((with_reducible show wpList _ _ _ (⟨some 1, _, _, _, _, _⟩ :: _) _ _); refine wpList_box_n rfl 31 (.tmp 0) rfl #[.int .i64 m.pr, .int .i64 m.o, .int .u8 (m.ad.a.toNat : Int), .int .u8 (m.ad.b.toNat : Int), .int .u8 (m.ad.c.toNat : Int), .int .u8 (m.ad.d.toNat : Int), .int .i64 m.i, .int .i64 m.k, .int .i64 m.u] rfl ?_; intro g1 w1 ge lt hh bb; have oeb := Nat.le_trans bel.size ge; replace bel := bel.trans (bb.mono bel.size); have heb := hh; clear hh lt ge bb; have R4 := cell_lit heb 7 _ rfl))
  try clear R4
  go_ret
  exact ⟨rfl, bel⟩
set_option linter.unusedVariables false in
set_option linter.unusedSimpArgs false in
set_option maxRecDepth 100000 in
set_option maxHeartbeats 16000000 in
theorem perm_2 {m : Mp} (w : World) (h : ¬ m.k < 2) (h4 : 4 < m.k) : Calls Try.prog 22 #[.agg #[.int .i64 m.pr, .int .i64 m.o, .int .u8 (m.ad.a.toNat : Int), .int .u8 (m.ad.b.toNat : Int), .int .u8 (m.ad.c.toNat : Int), .int .u8 (m.ad.d.toNat : Int), .int .i64 m.i, .int .i64 m.k, .int .i64 m.u]] w fun e w' => e = .returned (.bool false) ∧ Below w.heap.size w w' := by
  have g2 : decide (m.k < 2) = false := decide_eq_false h
  clear h
  have g4 : m.k > 4 := h4
  have bel := Below.refl w.heap.size w
  go_enter Try.func22, Try.ntmps22
  go_wp2_with (first | ((with_reducible show wpList _ _ _ (⟨some 1, _, _, _, _, _⟩ :: _) _ _); refine wpList_box_n rfl 31 (.tmp 0) rfl #[.int .i64 m.pr, .int .i64 m.o, .int .u8 (m.ad.a.toNat : Int), .int .u8 (m.ad.b.toNat : Int), .int .u8 (m.ad.c.toNat : Int), .int .u8 (m.ad.d.toNat : Int), .int .i64 m.i, .int .i64 m.k, .int .i64 m.u] rfl ?_; intro g1 w1 ge lt hh bb; have oeb := Nat.le_trans bel.size ge; replace bel := bel.trans (bb.mono bel.size); have heb := hh; clear hh lt ge bb; have R4 := cell_lit heb 7 _ rfl; have R8 := cell_lit heb 7 _ rfl))
  try clear R4
  try clear R8
  go_ret
  exact ⟨rfl, bel⟩
set_option linter.unusedVariables false in
set_option linter.unusedSimpArgs false in
set_option maxRecDepth 100000 in
set_option maxHeartbeats 16000000 in
theorem perm_3 {m : Mp} (w : World) (h : ¬ m.k < 2) (h4 : ¬ 4 < m.k) (he : (m.k == 4) = true) (hu : (m.u == 0) = false) : Calls Try.prog 22 #[.agg #[.int .i64 m.pr, .int .i64 m.o, .int .u8 (m.ad.a.toNat : Int), .int .u8 (m.ad.b.toNat : Int), .int .u8 (m.ad.c.toNat : Int), .int .u8 (m.ad.d.toNat : Int), .int .i64 m.i, .int .i64 m.k, .int .i64 m.u]] w fun e w' => e = .returned (.bool false) ∧ Below w.heap.size w w' := by
  have g2 : decide (m.k < 2) = false := decide_eq_false h
  clear h
  have g4 : decide (m.k > 4) = false := decide_eq_false h4
  have g5 : decide (4 < m.k) = false := decide_eq_false h4
  clear h4
  have gu : (m.u != 0) = true := by rw [bne, hu]; rfl
  have bel := Below.refl w.heap.size w
  go_enter Try.func22, Try.ntmps22
  go_wp2_with (first | ((with_reducible show wpList _ _ _ (⟨some 1, _, _, _, _, _⟩ :: _) _ _); refine wpList_box_n rfl 31 (.tmp 0) rfl #[.int .i64 m.pr, .int .i64 m.o, .int .u8 (m.ad.a.toNat : Int), .int .u8 (m.ad.b.toNat : Int), .int .u8 (m.ad.c.toNat : Int), .int .u8 (m.ad.d.toNat : Int), .int .i64 m.i, .int .i64 m.k, .int .i64 m.u] rfl ?_; intro g1 w1 ge lt hh bb; have oeb := Nat.le_trans bel.size ge; replace bel := bel.trans (bb.mono bel.size); have heb := hh; clear hh lt ge bb; have R4 := cell_lit heb 7 _ rfl; have R8 := cell_lit heb 7 _ rfl; have R13 := cell_lit heb 7 _ rfl; have R17 := cell_lit heb 8 _ rfl))
  try clear R4
  try clear R8
  try clear R13
  try clear R17
  go_ret
  exact ⟨rfl, bel⟩
set_option linter.unusedVariables false in
set_option linter.unusedSimpArgs false in
set_option maxRecDepth 100000 in
set_option maxHeartbeats 16000000 in
theorem perm_4n {m : Mp} (w : World) (h : ¬ m.k < 2) (h4 : ¬ 4 < m.k) (he : (m.k == 4) = true) (hu : (m.u == 0) = true) (hp : portB m.pr m.o = false) : Calls Try.prog 22 #[.agg #[.int .i64 m.pr, .int .i64 m.o, .int .u8 (m.ad.a.toNat : Int), .int .u8 (m.ad.b.toNat : Int), .int .u8 (m.ad.c.toNat : Int), .int .u8 (m.ad.d.toNat : Int), .int .i64 m.i, .int .i64 m.k, .int .i64 m.u]] w fun e w' => e = .returned (.bool false) ∧ Below w.heap.size w w' := by
  have g2 : decide (m.k < 2) = false := decide_eq_false h
  clear h
  have g4 : decide (m.k > 4) = false := decide_eq_false h4
  have g5 : decide (4 < m.k) = false := decide_eq_false h4
  clear h4
  have gu : (m.u != 0) = false := by rw [bne, hu]; rfl
  have HP := Lib.hid hp
  clear hp
  have bel := Below.refl w.heap.size w
  go_enter Try.func22, Try.ntmps22
  go_wp2_with (first | ((with_reducible show wpList _ _ _ (⟨some 1, _, _, _, _, _⟩ :: _) _ _); refine wpList_box_n rfl 31 (.tmp 0) rfl #[.int .i64 m.pr, .int .i64 m.o, .int .u8 (m.ad.a.toNat : Int), .int .u8 (m.ad.b.toNat : Int), .int .u8 (m.ad.c.toNat : Int), .int .u8 (m.ad.d.toNat : Int), .int .i64 m.i, .int .i64 m.k, .int .i64 m.u] rfl ?_; intro g1 w1 ge lt hh bb; have oeb := Nat.le_trans bel.size ge; replace bel := bel.trans (bb.mono bel.size); have heb := hh; clear hh lt ge bb; have R4 := cell_lit heb 7 _ rfl; have R8 := cell_lit heb 7 _ rfl; have R13 := cell_lit heb 7 _ rfl; have R17 := cell_lit heb 8 _ rfl; have R22 := cell_lit heb 0 _ rfl; have R24 := cell_lit heb 1 _ rfl))
  try clear R4
  try clear R8
  try clear R13
  try clear R17
  try clear R22
  try clear R24
  with_reducible refine (isport_any (p := m.pr) (n := m.o) _ HP.out).mono ?_
  rintro e _ ⟨rfl, rfl⟩
  go_wp2_with fail
  go_ret
  exact ⟨rfl, bel⟩
set_option linter.unusedVariables false in
set_option linter.unusedSimpArgs false in
set_option maxRecDepth 100000 in
set_option maxHeartbeats 16000000 in
theorem perm_4y {m : Mp} {b1 : Bool} (w : World) (h : ¬ m.k < 2) (h4 : ¬ 4 < m.k) (he : (m.k == 4) = true) (hu : (m.u == 0) = true) (hp : portB m.pr m.o = true) (hp2 : portB m.pr m.i = b1) : Calls Try.prog 22 #[.agg #[.int .i64 m.pr, .int .i64 m.o, .int .u8 (m.ad.a.toNat : Int), .int .u8 (m.ad.b.toNat : Int), .int .u8 (m.ad.c.toNat : Int), .int .u8 (m.ad.d.toNat : Int), .int .i64 m.i, .int .i64 m.k, .int .i64 m.u]] w fun e w' => e = .returned (.bool b1) ∧ Below w.heap.size w w' := by
  have g2 : decide (m.k < 2) = false := decide_eq_false h
  clear h
  have g4 : decide (m.k > 4) = false := decide_eq_false h4
  have g5 : decide (4 < m.k) = false := decide_eq_false h4
  clear h4
  have gu : (m.u != 0) = false := by rw [bne, hu]; rfl
  have HP := Lib.hid hp
  have HP2 := Lib.hid hp2
  clear hp hp2
  have bel := Below.refl w.heap.size w
  go_enter Try.func22, Try.ntmps22
  go_wp2_with (first | ((with_reducible show wpList _ _ _ (⟨some 1, _, _, _, _, _⟩ :: _) _ _); refine wpList_box_n rfl 31 (.tmp 0) rfl #[.int .i64 m.pr, .int .i64 m.o, .int .u8 (m.ad.a.toNat : Int), .int .u8 (m.ad.b.toNat : Int), .int .u8 (m.ad.c.toNat : Int), .int .u8 (m.ad.d.toNat : Int), .int .i64 m.i, .int .i64 m.k, .int .i64 m.u] rfl ?_; intro g1 w1 ge lt hh bb; have oeb := Nat.le_trans bel.size ge; replace bel := bel.trans (bb.mono bel.size); have heb := hh; clear hh lt ge bb; have R4 := cell_lit heb 7 _ rfl; have R8 := cell_lit heb 7 _ rfl; have R13 := cell_lit heb 7 _ rfl; have R17 := cell_lit heb 8 _ rfl; have R22 := cell_lit heb 0 _ rfl; have R24 := cell_lit heb 1 _ rfl))
  try clear R4
  try clear R8
  try clear R13
  try clear R17
  try clear R22
  try clear R24
  with_reducible refine (isport_any (p := m.pr) (n := m.o) _ HP.out).mono ?_
  rintro e _ ⟨rfl, rfl⟩
  have R28 := cell_lit heb 0 _ rfl
  have R30 := cell_lit heb 6 _ rfl
  go_wp2_with fail
  clear R28 R30
  with_reducible refine (isport_any (p := m.pr) (n := m.i) _ HP2.out).mono ?_
  rintro e _ ⟨rfl, rfl⟩
  go_wp2_with fail
  go_ret
  exact ⟨rfl, bel⟩
set_option linter.unusedVariables false in
set_option linter.unusedSimpArgs false in
set_option maxRecDepth 100000 in
set_option maxHeartbeats 16000000 in
theorem perm_5n {m : Mp} (w : World) (h : ¬ m.k < 2) (h4 : ¬ 4 < m.k) (he : (m.k == 4) = false) (hp : portB m.pr m.o = false) : Calls Try.prog 22 #[.agg #[.int .i64 m.pr, .int .i64 m.o, .int .u8 (m.ad.a.toNat : Int), .int .u8 (m.ad.b.toNat : Int), .int .u8 (m.ad.c.toNat : Int), .int .u8 (m.ad.d.toNat : Int), .int .i64 m.i, .int .i64 m.k, .int .i64 m.u]] w fun e w' => e = .returned (.bool false) ∧ Below w.heap.size w w' := by
  have g2 : decide (m.k < 2) = false := decide_eq_false h
  clear h
  have g4 : decide (m.k > 4) = false := decide_eq_false h4
  have g5 : decide (4 < m.k) = false := decide_eq_false h4
  clear h4
  
  have HP := Lib.hid hp
  clear hp
  have bel := Below.refl w.heap.size w
  go_enter Try.func22, Try.ntmps22
  go_wp2_with (first | ((with_reducible show wpList _ _ _ (⟨some 1, _, _, _, _, _⟩ :: _) _ _); refine wpList_box_n rfl 31 (.tmp 0) rfl #[.int .i64 m.pr, .int .i64 m.o, .int .u8 (m.ad.a.toNat : Int), .int .u8 (m.ad.b.toNat : Int), .int .u8 (m.ad.c.toNat : Int), .int .u8 (m.ad.d.toNat : Int), .int .i64 m.i, .int .i64 m.k, .int .i64 m.u] rfl ?_; intro g1 w1 ge lt hh bb; have oeb := Nat.le_trans bel.size ge; replace bel := bel.trans (bb.mono bel.size); have heb := hh; clear hh lt ge bb; have R4 := cell_lit heb 7 _ rfl; have R8 := cell_lit heb 7 _ rfl; have R13 := cell_lit heb 7 _ rfl; have R22 := cell_lit heb 0 _ rfl; have R24 := cell_lit heb 1 _ rfl))
  try clear R4
  try clear R8
  try clear R13
  try clear R22
  try clear R24
  with_reducible refine (isport_any (p := m.pr) (n := m.o) _ HP.out).mono ?_
  rintro e _ ⟨rfl, rfl⟩
  go_wp2_with fail
  go_ret
  exact ⟨rfl, bel⟩
set_option linter.unusedVariables false in
set_option linter.unusedSimpArgs false in
set_option maxRecDepth 100000 in
set_option maxHeartbeats 16000000 in
theorem perm_5y {m : Mp} {b1 : Bool} (w : World) (h : ¬ m.k < 2) (h4 : ¬ 4 < m.k) (he : (m.k == 4) = false) (hp : portB m.pr m.o = true) (hp2 : portB m.pr m.i = b1) : Calls Try.prog 22 #[.agg #[.int .i64 m.pr, .int .i64 m.o, .int .u8 (m.ad.a.toNat : Int), .int .u8 (m.ad.b.toNat : Int), .int .u8 (m.ad.c.toNat : Int), .int .u8 (m.ad.d.toNat : Int), .int .i64 m.i, .int .i64 m.k, .int .i64 m.u]] w fun e w' => e = .returned (.bool b1) ∧ Below w.heap.size w w' := by
  have g2 : decide (m.k < 2) = false := decide_eq_false h
  clear h
  have g4 : decide (m.k > 4) = false := decide_eq_false h4
  have g5 : decide (4 < m.k) = false := decide_eq_false h4
  clear h4
  
  have HP := Lib.hid hp
  have HP2 := Lib.hid hp2
  clear hp hp2
  have bel := Below.refl w.heap.size w
  go_enter Try.func22, Try.ntmps22
  go_wp2_with (first | ((with_reducible show wpList _ _ _ (⟨some 1, _, _, _, _, _⟩ :: _) _ _); refine wpList_box_n rfl 31 (.tmp 0) rfl #[.int .i64 m.pr, .int .i64 m.o, .int .u8 (m.ad.a.toNat : Int), .int .u8 (m.ad.b.toNat : Int), .int .u8 (m.ad.c.toNat : Int), .int .u8 (m.ad.d.toNat : Int), .int .i64 m.i, .int .i64 m.k, .int .i64 m.u] rfl ?_; intro g1 w1 ge lt hh bb; have oeb := Nat.le_trans bel.size ge; replace bel := bel.trans (bb.mono bel.size); have heb := hh; clear hh lt ge bb; have R4 := cell_lit heb 7 _ rfl; have R8 := cell_lit heb 7 _ rfl; have R13 := cell_lit heb 7 _ rfl; have R22 := cell_lit heb 0 _ rfl; have R24 := cell_lit heb 1 _ rfl))
  try clear R4
  try clear R8
  try clear R13
  try clear R22
  try clear R24
  with_reducible refine (isport_any (p := m.pr) (n := m.o) _ HP.out).mono ?_
  rintro e _ ⟨rfl, rfl⟩
  have R28 := cell_lit heb 0 _ rfl
  have R30 := cell_lit heb 6 _ rfl
  go_wp2_with fail
  clear R28 R30
  with_reducible refine (isport_any (p := m.pr) (n := m.i) _ HP2.out).mono ?_
  rintro e _ ⟨rfl, rfl⟩
  go_wp2_with fail
  go_ret
  exact ⟨rfl, bel⟩
theorem perm_any {m : Mp} {b : Bool} (w : World) (h : permB m = b) : Calls Try.prog 22 #[.agg #[.int .i64 m.pr, .int .i64 m.o, .int .u8 (m.ad.a.toNat : Int), .int .u8 (m.ad.b.toNat : Int), .int .u8 (m.ad.c.toNat : Int), .int .u8 (m.ad.d.toNat : Int), .int .i64 m.i, .int .i64 m.k, .int .i64 m.u]] w fun e w' => e = .returned (.bool b) ∧ Below w.heap.size w w' := by
  unfold permB kindB at h
  by_cases a : m.k < 2
  · rw [decide_eq_true a] at h; simp at h; subst h; exact perm_1 w a
  rw [decide_eq_false a] at h
  by_cases c : 4 < m.k
  · rw [decide_eq_true c] at h; simp at h; subst h; exact perm_2 w a c
  rw [decide_eq_false c] at h
  cases e4 : m.k == 4 with
  | true =>
    cases e0 : m.u == 0 with
    | false => rw [e4, e0] at h; simp at h; subst h; exact perm_3 w a c e4 e0
    | true =>
      rw [e4, e0] at h
      cases ep : portB m.pr m.o with
      | false => rw [ep] at h; simp at h; subst h; exact perm_4n w a c e4 e0 ep
      | true => rw [ep] at h; exact perm_4y w a c e4 e0 ep (by simpa using h)
  | false =>
    rw [e4] at h
    cases ep : portB m.pr m.o with
    | false => rw [ep] at h; simp at h; subst h; exact perm_5n w a c e4 ep
    | true => rw [ep] at h; exact perm_5y w a c e4 ep (by simpa using h)
set_option linter.unusedVariables false in
set_option linter.unusedSimpArgs false in
set_option maxRecDepth 100000 in
set_option maxHeartbeats 16000000 in
theorem ext_n1 {m x : Mp} (w : World) (h1 : (m.k == x.k) = false) : Calls Try.prog 26 #[.agg #[.int .i64 m.pr, .int .i64 m.o, .int .u8 (m.ad.a.toNat : Int), .int .u8 (m.ad.b.toNat : Int), .int .u8 (m.ad.c.toNat : Int), .int .u8 (m.ad.d.toNat : Int), .int .i64 m.i, .int .i64 m.k, .int .i64 m.u], .agg #[.int .i64 x.pr, .int .i64 x.o, .int .u8 (x.ad.a.toNat : Int), .int .u8 (x.ad.b.toNat : Int), .int .u8 (x.ad.c.toNat : Int), .int .u8 (x.ad.d.toNat : Int), .int .i64 x.i, .int .i64 x.k, .int .i64 x.u]] w fun e w' => e = .returned (.bool false) ∧ Below w.heap.size w w' := by
  have bel := Below.refl w.heap.size w
  go_enter Try.func26, Try.ntmps26
  go_wp2_with (first | ((with_reducible show wpList _ _ _ (⟨some 2, _, _, _, _, _⟩ :: _) _ _); refine wpList_box_n rfl 31 (.tmp 0) rfl #[.int .i64 m.pr, .int .i64 m.o, .int .u8 (m.ad.a.toNat : Int), .int .u8 (m.ad.b.toNat : Int), .int .u8 (m.ad.c.toNat : Int), .int .u8 (m.ad.d.toNat : Int), .int .i64 m.i, .int .i64 m.k, .int .i64 m.u] rfl ?_; intro g2 w1 ge lt hh bb; have oeb := Nat.le_trans bel.size ge; replace bel := bel.trans (bb.mono bel.size); have heb := hh; clear hh lt ge bb) | ((with_reducible show wpList _ _ _ (⟨some 3, _, _, _, _, _⟩ :: _) _ _); refine wpList_box_n rfl 31 (.tmp 1) rfl #[.int .i64 x.pr, .int .i64 x.o, .int .u8 (x.ad.a.toNat : Int), .int .u8 (x.ad.b.toNat : Int), .int .u8 (x.ad.c.toNat : Int), .int .u8 (x.ad.d.toNat : Int), .int .i64 x.i, .int .i64 x.k, .int .i64 x.u] rfl ?_; intro g3 w2 ge lt hh bb; have d_eb_xb := ne_new (hlt heb) ge; have oxb := Nat.le_trans bel.size ge; replace heb := blk_u heb bb; replace bel := bel.trans (bb.mono bel.size); have hxb := hh; clear hh lt ge bb; have R6 := cell_lit heb 7 _ rfl; have R8 := cell_lit hxb 7 _ rfl))
  try clear R6
  try clear R8
  go_ret
  exact ⟨rfl, bel⟩
set_option linter.unusedVariables false in
set_option linter.unusedSimpArgs false in
set_option maxRecDepth 100000 in
set_option maxHeartbeats 16000000 in
theorem ext_n2 {m x : Mp} (w : World) (h1 : (m.k == x.k) = true) (h2 : m.ad.eqB x.ad = false) : Calls Try.prog 26 #[.agg #[.int .i64 m.pr, .int .i64 m.o, .int .u8 (m.ad.a.toNat : Int), .int .u8 (m.ad.b.toNat : Int), .int .u8 (m.ad.c.toNat : Int), .int .u8 (m.ad.d.toNat : Int), .int .i64 m.i, .int .i64 m.k, .int .i64 m.u], .agg #[.int .i64 x.pr, .int .i64 x.o, .int .u8 (x.ad.a.toNat : Int), .int .u8 (x.ad.b.toNat : Int), .int .u8 (x.ad.c.toNat : Int), .int .u8 (x.ad.d.toNat : Int), .int .i64 x.i, .int .i64 x.k, .int .i64 x.u]] w fun e w' => e = .returned (.bool false) ∧ Below w.heap.size w w' := by
  have q : ∀ W, (binOp .eql 28 (.agg #[.int .u8 (m.ad.a.toNat : Int), .int .u8 (m.ad.b.toNat : Int), .int .u8 (m.ad.c.toNat : Int), .int .u8 (m.ad.d.toNat : Int)]) (.agg #[.int .u8 (x.ad.a.toNat : Int), .int .u8 (x.ad.b.toNat : Int), .int .u8 (x.ad.c.toNat : Int), .int .u8 (x.ad.d.toNat : Int)])).run Try.prog W = .ok (.bool false) W := fun W => by have h_ := eqa_b m.ad x.ad W; rw [h2] at h_; exact h_
  have bel := Below.refl w.heap.size w
  go_enter Try.func26, Try.ntmps26
  go_wp2_with (first | ((with_reducible show wpList _ _ _ (⟨some 2, _, _, _, _, _⟩ :: _) _ _); refine wpList_box_n rfl 31 (.tmp 0) rfl #[.int .i64 m.pr, .int .i64 m.o, .int .u8 (m.ad.a.toNat : Int), .int .u8 (m.ad.b.toNat : Int), .int .u8 (m.ad.c.toNat : Int), .int .u8 (m.ad.d.toNat : Int), .int .i64 m.i, .int .i64 m.k, .int .i64 m.u] rfl ?_; intro g2 w1 ge lt hh bb; have oeb := Nat.le_trans bel.size ge; replace bel := bel.trans (bb.mono bel.size); have heb := hh; clear hh lt ge bb) | ((with_reducible show wpList _ _ _ (⟨some 3, _, _, _, _, _⟩ :: _) _ _); refine wpList_box_n rfl 31 (.tmp 1) rfl #[.int .i64 x.pr, .int .i64 x.o, .int .u8 (x.ad.a.toNat : Int), .int .u8 (x.ad.b.toNat : Int), .int .u8 (x.ad.c.toNat : Int), .int .u8 (x.ad.d.toNat : Int), .int .i64 x.i, .int .i64 x.k, .int .i64 x.u] rfl ?_; intro g3 w2 ge lt hh bb; have d_eb_xb := ne_new (hlt heb) ge; have oxb := Nat.le_trans bel.size ge; replace heb := blk_u heb bb; replace bel := bel.trans (bb.mono bel.size); have hxb := hh; clear hh lt ge bb; have R6 := cell_lit heb 7 _ rfl; have R8 := cell_lit hxb 7 _ rfl; have R12 := Lib.hid (range_lit heb 2 4 [.int .u8 (m.ad.a.toNat : Int), .int .u8 (m.ad.b.toNat : Int), .int .u8 (m.ad.c.toNat : Int), .int .u8 (m.ad.d.toNat : Int)] rfl)) | ((with_reducible show wpList _ _ _ (⟨some 12, _, _, _, _, _⟩ :: _) _ _); refine wpList_load_rng 28 (.tmp 11) rfl (by kernel_rfl) _ _ rfl _ R12.out _ Try.underlying28 rfl (by kernel_rfl) ?_; have R14 := Lib.hid (range_lit hxb 2 4 [.int .u8 (x.ad.a.toNat : Int), .int .u8 (x.ad.b.toNat : Int), .int .u8 (x.ad.c.toNat : Int), .int .u8 (x.ad.d.toNat : Int)] rfl)) | ((with_reducible show wpList _ _ _ (⟨some 14, _, _, _, _, _⟩ :: _) _ _); refine wpList_load_rng 28 (.tmp 13) rfl (by kernel_rfl) _ _ rfl _ R14.out _ Try.underlying28 rfl (by kernel_rfl) ?_))
  try clear R6
  try clear R8
  try clear R12
  try clear R14
  go_ret
  exact ⟨rfl, bel⟩
set_option linter.unusedVariables false in
set_option linter.unusedSimpArgs false in
set_option maxRecDepth 100000 in
set_option maxHeartbeats 16000000 in
theorem ext_y {m x : Mp} {b : Bool} (w : World) (h1 : (m.k == x.k) = true) (h2 : m.ad.eqB x.ad = true) (h3 : (m.i == x.i) = b) : Calls Try.prog 26 #[.agg #[.int .i64 m.pr, .int .i64 m.o, .int .u8 (m.ad.a.toNat : Int), .int .u8 (m.ad.b.toNat : Int), .int .u8 (m.ad.c.toNat : Int), .int .u8 (m.ad.d.toNat : Int), .int .i64 m.i, .int .i64 m.k, .int .i64 m.u], .agg #[.int .i64 x.pr, .int .i64 x.o, .int .u8 (x.ad.a.toNat : Int), .int .u8 (x.ad.b.toNat : Int), .int .u8 (x.ad.c.toNat : Int), .int .u8 (x.ad.d.toNat : Int), .int .i64 x.i, .int .i64 x.k, .int .i64 x.u]] w fun e w' => e = .returned (.bool b) ∧ Below w.heap.size w w' := by
  have q : ∀ W, (binOp .eql 28 (.agg #[.int .u8 (m.ad.a.toNat : Int), .int .u8 (m.ad.b.toNat : Int), .int .u8 (m.ad.c.toNat : Int), .int .u8 (m.ad.d.toNat : Int)]) (.agg #[.int .u8 (x.ad.a.toNat : Int), .int .u8 (x.ad.b.toNat : Int), .int .u8 (x.ad.c.toNat : Int), .int .u8 (x.ad.d.toNat : Int)])).run Try.prog W = .ok (.bool true) W := fun W => by have h_ := eqa_b m.ad x.ad W; rw [h2] at h_; exact h_
  have bel := Below.refl w.heap.size w
  go_enter Try.func26, Try.ntmps26
  go_wp2_with (first | ((with_reducible show wpList _ _ _ (⟨some 2, _, _, _, _, _⟩ :: _) _ _); refine wpList_box_n rfl 31 (.tmp 0) rfl #[.int .i64 m.pr, .int .i64 m.o, .int .u8 (m.ad.a.toNat : Int), .int .u8 (m.ad.b.toNat : Int), .int .u8 (m.ad.c.toNat : Int), .int .u8 (m.ad.d.toNat : Int), .int .i64 m.i, .int .i64 m.k, .int .i64 m.u] rfl ?_; intro g2 w1 ge lt hh bb; have oeb := Nat.le_trans bel.size ge; replace bel := bel.trans (bb.mono bel.size); have heb := hh; clear hh lt ge bb) | ((with_reducible show wpList _ _ _ (⟨some 3, _, _, _, _, _⟩ :: _) _ _); refine wpList_box_n rfl 31 (.tmp 1) rfl #[.int .i64 x.pr, .int .i64 x.o, .int .u8 (x.ad.a.toNat : Int), .int .u8 (x.ad.b.toNat : Int), .int .u8 (x.ad.c.toNat : Int), .int .u8 (x.ad.d.toNat : Int), .int .i64 x.i, .int .i64 x.k, .int .i64 x.u] rfl ?_; intro g3 w2 ge lt hh bb; have d_eb_xb := ne_new (hlt heb) ge; have oxb := Nat.le_trans bel.size ge; replace heb := blk_u heb bb; replace bel := bel.trans (bb.mono bel.size); have hxb := hh; clear hh lt ge bb; have R6 := cell_lit heb 7 _ rfl; have R8 := cell_lit hxb 7 _ rfl; have R12 := Lib.hid (range_lit heb 2 4 [.int .u8 (m.ad.a.toNat : Int), .int .u8 (m.ad.b.toNat : Int), .int .u8 (m.ad.c.toNat : Int), .int .u8 (m.ad.d.toNat : Int)] rfl)) | ((with_reducible show wpList _ _ _ (⟨some 12, _, _, _, _, _⟩ :: _) _ _); refine wpList_load_rng 28 (.tmp 11) rfl (by kernel_rfl) _ _ rfl _ R12.out _ Try.underlying28 rfl (by kernel_rfl) ?_; have R14 := Lib.hid (range_lit hxb 2 4 [.int .u8 (x.ad.a.toNat : Int), .int .u8 (x.ad.b.toNat : Int), .int .u8 (x.ad.c.toNat : Int), .int .u8 (x.ad.d.toNat : Int)] rfl)) | ((with_reducible show wpList _ _ _ (⟨some 14, _, _, _, _, _⟩ :: _) _ _); refine wpList_load_rng 28 (.tmp 13) rfl (by kernel_rfl) _ _ rfl _ R14.out _ Try.underlying28 rfl (by kernel_rfl) ?_; have R19 := cell_lit heb 6 _ rfl; have R21 := cell_lit hxb 6 _ rfl))
  try clear R6
  try clear R8
  try clear R12
  try clear R14
  try clear R19
  try clear R21
  go_ret
  exact ⟨rfl, bel⟩
set_option linter.unusedVariables false in
set_option linter.unusedSimpArgs false in
set_option maxRecDepth 100000 in
set_option maxHeartbeats 16000000 in
theorem isfor_n1 {m : Mp} {pr p : Int} {ad : Ad4} (w : World) (h1 : (m.pr == pr) = false) : Calls Try.prog 47 #[.agg #[.int .i64 m.pr, .int .i64 m.o, .int .u8 (m.ad.a.toNat : Int), .int .u8 (m.ad.b.toNat : Int), .int .u8 (m.ad.c.toNat : Int), .int .u8 (m.ad.d.toNat : Int), .int .i64 m.i, .int .i64 m.k, .int .i64 m.u], .agg #[.int .i64 pr, .int .u8 (ad.a.toNat : Int), .int .u8 (ad.b.toNat : Int), .int .u8 (ad.c.toNat : Int), .int .u8 (ad.d.toNat : Int), .int .i64 p]] w fun e w' => e = .returned (.bool false) ∧ Below w.heap.size w w' := by
  have bel := Below.refl w.heap.size w
  go_enter Try.func47, Try.ntmps47
  go_wp2_with (first | ((with_reducible show wpList _ _ _ (⟨some 2, _, _, _, _, _⟩ :: _) _ _); refine wpList_box_n rfl 31 (.tmp 0) rfl #[.int .i64 m.pr, .int .i64 m.o, .int .u8 (m.ad.a.toNat : Int), .int .u8 (m.ad.b.toNat : Int), .int .u8 (m.ad.c.toNat : Int), .int .u8 (m.ad.d.toNat : Int), .int .i64 m.i, .int .i64 m.k, .int .i64 m.u] rfl ?_; intro g2 w1 ge lt hh bb; have oeb := Nat.le_trans bel.size ge; replace bel := bel.trans (bb.mono bel.size); have heb := hh; clear hh lt ge bb) | ((with_reducible show wpList _ _ _ (⟨some 3, _, _, _, _, _⟩ :: _) _ _); refine wpList_box_n rfl 36 (.tmp 1) rfl #[.int .i64 pr, .int .u8 (ad.a.toNat : Int), .int .u8 (ad.b.toNat : Int), .int .u8 (ad.c.toNat : Int), .int .u8 (ad.d.toNat : Int), .int .i64 p] rfl ?_; intro g3 w2 ge lt hh bb; have d_eb_fb := ne_new (hlt heb) ge; have ofb := Nat.le_trans bel.size ge; replace heb := blk_u heb bb; replace bel := bel.trans (bb.mono bel.size); have hfb := hh; clear hh lt ge bb; have R6 := cell_lit heb 0 _ rfl; have R8 := cell_lit hfb 0 _ rfl))
  try clear R6
  try clear R8
  go_ret
  exact ⟨rfl, bel⟩
set_option linter.unusedVariables false in
set_option linter.unusedSimpArgs false in
set_option maxRecDepth 100000 in
set_option maxHeartbeats 16000000 in
theorem isfor_n2 {m : Mp} {pr p : Int} {ad : Ad4} (w : World) (h1 : (m.pr == pr) = true) (h2 : m.ad.eqB ad = false) : Calls Try.prog 47 #[.agg #[.int .i64 m.pr, .int .i64 m.o, .int .u8 (m.ad.a.toNat : Int), .int .u8 (m.ad.b.toNat : Int), .int .u8 (m.ad.c.toNat : Int), .int .u8 (m.ad.d.toNat : Int), .int .i64 m.i, .int .i64 m.k, .int .i64 m.u], .agg #[.int .i64 pr, .int .u8 (ad.a.toNat : Int), .int .u8 (ad.b.toNat : Int), .int .u8 (ad.c.toNat : Int), .int .u8 (ad.d.toNat : Int), .int .i64 p]] w fun e w' => e = .returned (.bool false) ∧ Below w.heap.size w w' := by
  have q : ∀ W, (binOp .eql 28 (.agg #[.int .u8 (m.ad.a.toNat : Int), .int .u8 (m.ad.b.toNat : Int), .int .u8 (m.ad.c.toNat : Int), .int .u8 (m.ad.d.toNat : Int)]) (.agg #[.int .u8 (ad.a.toNat : Int), .int .u8 (ad.b.toNat : Int), .int .u8 (ad.c.toNat : Int), .int .u8 (ad.d.toNat : Int)])).run Try.prog W = .ok (.bool false) W := fun W => by have h_ := eqa_b m.ad ad W; rw [h2] at h_; exact h_
  have bel := Below.refl w.heap.size w
  go_enter Try.func47, Try.ntmps47
  go_wp2_with (first | ((with_reducible show wpList _ _ _ (⟨some 2, _, _, _, _, _⟩ :: _) _ _); refine wpList_box_n rfl 31 (.tmp 0) rfl #[.int .i64 m.pr, .int .i64 m.o, .int .u8 (m.ad.a.toNat : Int), .int .u8 (m.ad.b.toNat : Int), .int .u8 (m.ad.c.toNat : Int), .int .u8 (m.ad.d.toNat : Int), .int .i64 m.i, .int .i64 m.k, .int .i64 m.u] rfl ?_; intro g2 w1 ge lt hh bb; have oeb := Nat.le_trans bel.size ge; replace bel := bel.trans (bb.mono bel.size); have heb := hh; clear hh lt ge bb) | ((with_reducible show wpList _ _ _ (⟨some 3, _, _, _, _, _⟩ :: _) _ _); refine wpList_box_n rfl 36 (.tmp 1) rfl #[.int .i64 pr, .int .u8 (ad.a.toNat : Int), .int .u8 (ad.b.toNat : Int), .int .u8 (ad.c.toNat : Int), .int .u8 (ad.d.toNat : Int), .int .i64 p] rfl ?_; intro g3 w2 ge lt hh bb; have d_eb_fb := ne_new (hlt heb) ge; have ofb := Nat.le_trans bel.size ge; replace heb := blk_u heb bb; replace bel := bel.trans (bb.mono bel.size); have hfb := hh; clear hh lt ge bb; have R6 := cell_lit heb 0 _ rfl; have R8 := cell_lit hfb 0 _ rfl; have R12 := Lib.hid (range_lit heb 2 4 [.int .u8 (m.ad.a.toNat : Int), .int .u8 (m.ad.b.toNat : Int), .int .u8 (m.ad.c.toNat : Int), .int .u8 (m.ad.d.toNat : Int)] rfl)) | ((with_reducible show wpList _ _ _ (⟨some 12, _, _, _, _, _⟩ :: _) _ _); refine wpList_load_rng 28 (.tmp 11) rfl (by kernel_rfl) _ _ rfl _ R12.out _ Try.underlying28 rfl (by kernel_rfl) ?_; have R14 := Lib.hid (range_lit hfb 1 4 [.int .u8 (ad.a.toNat : Int), .int .u8 (ad.b.toNat : Int), .int .u8 (ad.c.toNat : Int), .int .u8 (ad.d.toNat : Int)] rfl)) | ((with_reducible show wpList _ _ _ (⟨some 14, _, _, _, _, _⟩ :: _) _ _); refine wpList_load_rng 28 (.tmp 13) rfl (by kernel_rfl) _ _ rfl _ R14.out _ Try.underlying28 rfl (by kernel_rfl) ?_))
  try clear R6
  try clear R8
  try clear R12
  try clear R14
  go_ret
  exact ⟨rfl, bel⟩
set_option linter.unusedVariables false in
set_option linter.unusedSimpArgs false in
set_option maxRecDepth 100000 in
set_option maxHeartbeats 16000000 in
theorem isfor_y {m : Mp} {pr p : Int} {ad : Ad4} {b : Bool} (w : World) (h1 : (m.pr == pr) = true) (h2 : m.ad.eqB ad = true) (h3 : (m.i == p) = b) : Calls Try.prog 47 #[.agg #[.int .i64 m.pr, .int .i64 m.o, .int .u8 (m.ad.a.toNat : Int), .int .u8 (m.ad.b.toNat : Int), .int .u8 (m.ad.c.toNat : Int), .int .u8 (m.ad.d.toNat : Int), .int .i64 m.i, .int .i64 m.k, .int .i64 m.u], .agg #[.int .i64 pr, .int .u8 (ad.a.toNat : Int), .int .u8 (ad.b.toNat : Int), .int .u8 (ad.c.toNat : Int), .int .u8 (ad.d.toNat : Int), .int .i64 p]] w fun e w' => e = .returned (.bool b) ∧ Below w.heap.size w w' := by
  have q : ∀ W, (binOp .eql 28 (.agg #[.int .u8 (m.ad.a.toNat : Int), .int .u8 (m.ad.b.toNat : Int), .int .u8 (m.ad.c.toNat : Int), .int .u8 (m.ad.d.toNat : Int)]) (.agg #[.int .u8 (ad.a.toNat : Int), .int .u8 (ad.b.toNat : Int), .int .u8 (ad.c.toNat : Int), .int .u8 (ad.d.toNat : Int)])).run Try.prog W = .ok (.bool true) W := fun W => by have h_ := eqa_b m.ad ad W; rw [h2] at h_; exact h_
  have bel := Below.refl w.heap.size w
  go_enter Try.func47, Try.ntmps47
  go_wp2_with (first | ((with_reducible show wpList _ _ _ (⟨some 2, _, _, _, _, _⟩ :: _) _ _); refine wpList_box_n rfl 31 (.tmp 0) rfl #[.int .i64 m.pr, .int .i64 m.o, .int .u8 (m.ad.a.toNat : Int), .int .u8 (m.ad.b.toNat : Int), .int .u8 (m.ad.c.toNat : Int), .int .u8 (m.ad.d.toNat : Int), .int .i64 m.i, .int .i64 m.k, .int .i64 m.u] rfl ?_; intro g2 w1 ge lt hh bb; have oeb := Nat.le_trans bel.size ge; replace bel := bel.trans (bb.mono bel.size); have heb := hh; clear hh lt ge bb) | ((with_reducible show wpList _ _ _ (⟨some 3, _, _, _, _, _⟩ :: _) _ _); refine wpList_box_n rfl 36 (.tmp 1) rfl #[.int .i64 pr, .int .u8 (ad.a.toNat : Int), .int .u8 (ad.b.toNat : Int), .int .u8 (ad.c.toNat : Int), .int .u8 (ad.d.toNat : Int), .int .i64 p] rfl ?_; intro g3 w2 ge lt hh bb; have d_eb_fb := ne_new (hlt heb) ge; have ofb := Nat.le_trans bel.size ge; replace heb := blk_u heb bb; replace bel := bel.trans (bb.mono bel.size); have hfb := hh; clear hh lt ge bb; have R6 := cell_lit heb 0 _ rfl; have R8 := cell_lit hfb 0 _ rfl; have R12 := Lib.hid (range_lit heb 2 4 [.int .u8 (m.ad.a.toNat : Int), .int .u8 (m.ad.b.toNat : Int), .int .u8 (m.ad.c.toNat : Int), .int .u8 (m.ad.d.toNat : Int)] rfl)) | ((with_reducible show wpList _ _ _ (⟨some 12, _, _, _, _, _⟩ :: _) _ _); refine wpList_load_rng 28 (.tmp 11) rfl (by kernel_rfl) _ _ rfl _ R12.out _ Try.underlying28 rfl (by kernel_rfl) ?_; have R14 := Lib.hid (range_lit hfb 1 4 [.int .u8 (ad.a.toNat : Int), .int .u8 (ad.b.toNat : Int), .int .u8 (ad.c.toNat : Int), .int .u8 (ad.d.toNat : Int)] rfl)) | ((with_reducible show wpList _ _ _ (⟨some 14, _, _, _, _, _⟩ :: _) _ _); refine wpList_load_rng 28 (.tmp 13) rfl (by kernel_rfl) _ _ rfl _ R14.out _ Try.underlying28 rfl (by kernel_rfl) ?_; have R19 := cell_lit heb 6 _ rfl; have R21 := cell_lit hfb 5 _ rfl))
  try clear R6
  try clear R8
  try clear R12
  try clear R14
  try clear R19
  try clear R21
  go_ret
  exact ⟨rfl, bel⟩
theorem ext_any {m x : Mp} {b : Bool} (w : World) (h : extB m x = b) : Calls Try.prog 26 #[.agg #[.int .i64 m.pr, .int .i64 m.o, .int .u8 (m.ad.a.toNat : Int), .int .u8 (m.ad.b.toNat : Int), .int .u8 (m.ad.c.toNat : Int), .int .u8 (m.ad.d.toNat : Int), .int .i64 m.i, .int .i64 m.k, .int .i64 m.u], .agg #[.int .i64 x.pr, .int .i64 x.o, .int .u8 (x.ad.a.toNat : Int), .int .u8 (x.ad.b.toNat : Int), .int .u8 (x.ad.c.toNat : Int), .int .u8 (x.ad.d.toNat : Int), .int .i64 x.i, .int .i64 x.k, .int .i64 x.u]] w fun e w' => e = .returned (.bool b) ∧ Below w.heap.size w w' := by
  unfold extB at h
  cases e1 : m.k == x.k with
  | false => rw [e1, Bool.false_and] at h; subst h; exact ext_n1 w e1
  | true =>
    cases e2 : m.ad.eqB x.ad with
    | false => rw [e1, e2, Bool.true_and, Bool.false_and] at h; subst h; exact ext_n2 w e1 e2
    | true => rw [e1, e2, Bool.true_and, Bool.true_and] at h; exact ext_y w e1 e2 h
theorem isfor_any {m : Mp} {pr p : Int} {ad : Ad4} {b : Bool} (w : World) (h : forB pr ad p m = b) : Calls Try.prog 47 #[.agg #[.int .i64 m.pr, .int .i64 m.o, .int .u8 (m.ad.a.toNat : Int), .int .u8 (m.ad.b.toNat : Int), .int .u8 (m.ad.c.toNat : Int), .int .u8 (m.ad.d.toNat : Int), .int .i64 m.i, .int .i64 m.k, .int .i64 m.u], .agg #[.int .i64 pr, .int .u8 (ad.a.toNat : Int), .int .u8 (ad.b.toNat : Int), .int .u8 (ad.c.toNat : Int), .int .u8 (ad.d.toNat : Int), .int .i64 p]] w fun e w' => e = .returned (.bool b) ∧ Below w.heap.size w w' := by
  unfold forB at h
  cases e1 : m.pr == pr with
  | false => rw [e1, Bool.false_and] at h; subst h; exact isfor_n1 w e1
  | true =>
    cases e2 : m.ad.eqB ad with
    | false => rw [e1, e2, Bool.true_and, Bool.false_and] at h; subst h; exact isfor_n2 w e1 e2
    | true => rw [e1, e2, Bool.true_and, Bool.true_and] at h; exact isfor_y w e1 e2 h
set_option linter.unusedVariables false in
set_option linter.unusedSimpArgs false in
set_option maxRecDepth 100000 in
set_option maxHeartbeats 16000000 in
theorem rank_4 {m : Mp} (w : World) (h : (m.k == 4) = true) : Calls Try.prog 48 #[.agg #[.int .i64 m.pr, .int .i64 m.o, .int .u8 (m.ad.a.toNat : Int), .int .u8 (m.ad.b.toNat : Int), .int .u8 (m.ad.c.toNat : Int), .int .u8 (m.ad.d.toNat : Int), .int .i64 m.i, .int .i64 m.k, .int .i64 m.u]] w fun e w' => e = .returned (.int .i64 0) ∧ Below w.heap.size w w' := by
  have bel := Below.refl w.heap.size w
  go_enter Try.func48, Try.ntmps48
  go_wp2_with (first | ((with_reducible show wpList _ _ _ (⟨some 1, _, _, _, _, _⟩ :: _) _ _); refine wpList_box_n rfl 31 (.tmp 0) rfl #[.int .i64 m.pr, .int .i64 m.o, .int .u8 (m.ad.a.toNat : Int), .int .u8 (m.ad.b.toNat : Int), .int .u8 (m.ad.c.toNat : Int), .int .u8 (m.ad.d.toNat : Int), .int .i64 m.i, .int .i64 m.k, .int .i64 m.u] rfl ?_; intro g1 w1 ge lt hh bb; have oeb := Nat.le_trans bel.size ge; replace bel := bel.trans (bb.mono bel.size); have heb := hh; clear hh lt ge bb; have R4 := cell_lit heb 7 _ rfl))
  try clear R4
  go_ret
  exact ⟨rfl, bel⟩
set_option linter.unusedVariables false in
set_option linter.unusedSimpArgs false in
set_option maxRecDepth 100000 in
set_option maxHeartbeats 16000000 in
theorem rank_n {m : Mp} (w : World) (h : (m.k == 4) = false) : Calls Try.prog 48 #[.agg #[.int .i64 m.pr, .int .i64 m.o, .int .u8 (m.ad.a.toNat : Int), .int .u8 (m.ad.b.toNat : Int), .int .u8 (m.ad.c.toNat : Int), .int .u8 (m.ad.d.toNat : Int), .int .i64 m.i, .int .i64 m.k, .int .i64 m.u]] w fun e w' => e = .returned (.int .i64 m.k) ∧ Below w.heap.size w w' := by
  have bel := Below.refl w.heap.size w
  go_enter Try.func48, Try.ntmps48
  go_wp2_with (first | ((with_reducible show wpList _ _ _ (⟨some 1, _, _, _, _, _⟩ :: _) _ _); refine wpList_box_n rfl 31 (.tmp 0) rfl #[.int .i64 m.pr, .int .i64 m.o, .int .u8 (m.ad.a.toNat : Int), .int .u8 (m.ad.b.toNat : Int), .int .u8 (m.ad.c.toNat : Int), .int .u8 (m.ad.d.toNat : Int), .int .i64 m.i, .int .i64 m.k, .int .i64 m.u] rfl ?_; intro g1 w1 ge lt hh bb; have oeb := Nat.le_trans bel.size ge; replace bel := bel.trans (bb.mono bel.size); have heb := hh; clear hh lt ge bb; have R4 := cell_lit heb 7 _ rfl; have R7 := cell_lit heb 7 _ rfl))
  try clear R4
  try clear R7
  go_ret
  exact ⟨rfl, bel⟩
theorem rank_any {m : Mp} {r : Int} (w : World) (h : m.rank = r) : Calls Try.prog 48 #[.agg #[.int .i64 m.pr, .int .i64 m.o, .int .u8 (m.ad.a.toNat : Int), .int .u8 (m.ad.b.toNat : Int), .int .u8 (m.ad.c.toNat : Int), .int .u8 (m.ad.d.toNat : Int), .int .i64 m.i, .int .i64 m.k, .int .i64 m.u]] w fun e w' => e = .returned (.int .i64 r) ∧ Below w.heap.size w w' := by
  unfold Mp.rank at h
  by_cases e : m.k = 4
  · rw [if_pos e] at h; subst h; exact rank_4 w (beq_iff_eq.2 e)
  · rw [if_neg e] at h; subst h; exact rank_n w (beq_eq_false_iff_ne.2 e)
set_option linter.unusedVariables false in
set_option linter.unusedSimpArgs false in
set_option maxRecDepth 100000 in
set_option maxHeartbeats 16000000 in
theorem found_none (w : World)  : Calls Try.prog 42 #[.pointer none] w fun e w' => e = .returned (.tuple #[.agg #[.int .i64 0, .int .i64 0, .int .u8 0, .int .u8 0, .int .u8 0, .int .u8 0, .int .i64 0, .int .i64 0, .int .i64 0], .bool false]) ∧ Below w.heap.size w w' := by
  have bel := Below.refl w.heap.size w
  go_enter Try.func42, Try.ntmps42
  go_wp2_with (first | ((with_reducible show wpList _ _ _ (⟨some 2, _, _, _, _, _⟩ :: _) _ _); refine wpList_new_a rfl 31 rfl #[.int .i64 0, .int .i64 0, .int .u8 0, .int .u8 0, .int .u8 0, .int .u8 0, .int .i64 0, .int .i64 0, .int .i64 0] (by kernel_rfl) ?_; intro g2 w1 ge hh bb; have orb := Nat.le_trans bel.size ge; replace bel := bel.trans (bb.mono bel.size); have hrb := hh; clear hh ge bb) | ((with_reducible show wpList _ _ _ (⟨none, Op.store _ (.tmp 2) _, _, _, _, _⟩ :: _) _ _); refine wpList_store_blk rfl 31 (.tmp 2) (.tmp 6) rfl g2 rfl _ rfl _ 31 hrb (by rfl) (by kernel_rfl) (by kernel_rfl) ?_; intro w2 hq gr; replace bel := below_grown bel gr orb bel.size; clear hrb; have hrb := hq; clear hq gr))
  exact bodyPost_ret (results_cell_tmp_row rfl _ _ _ _ _ _ _ rfl hrb Try.underlying31 rfl (by kernel_rfl) (.bool false) rfl) rfl ⟨rfl, bel⟩
set_option linter.unusedVariables false in
set_option linter.unusedSimpArgs false in
set_option maxRecDepth 100000 in
set_option maxHeartbeats 16000000 in
theorem found_at {gE n c i : Nat} {l : List Mp} {x : Mp} (w : World) (en : Sle mpE 9 w (some ⟨gE, 0, none⟩) n c l) (hx : l[i]? = some x) : Calls Try.prog 42 #[.pointer (some ⟨gE, i * 9, none⟩)] w fun e w' => e = .returned (.tuple #[.agg #[.int .i64 x.pr, .int .i64 x.o, .int .u8 (x.ad.a.toNat : Int), .int .u8 (x.ad.b.toNat : Int), .int .u8 (x.ad.c.toNat : Int), .int .u8 (x.ad.d.toNat : Int), .int .i64 x.i, .int .i64 x.k, .int .i64 x.u], .bool true]) ∧ Below w.heap.size w w' := by
  have HX := Lib.hid hx
  clear hx
  have bel := Below.refl w.heap.size w
  go_enter Try.func42, Try.ntmps42
  go_wp2_with (first | ((with_reducible show wpList _ _ _ (⟨some 2, _, _, _, _, _⟩ :: _) _ _); refine wpList_new_a rfl 31 rfl #[.int .i64 0, .int .i64 0, .int .u8 0, .int .u8 0, .int .u8 0, .int .u8 0, .int .i64 0, .int .i64 0, .int .i64 0] (by kernel_rfl) ?_; intro g2 w1 ge hh bb; have av_en_rb := en.av_new ge; have orb := Nat.le_trans bel.size ge; replace en := en.below bb; replace bel := bel.trans (bb.mono bel.size); have hrb := hh; clear hh ge bb; have R9 := Lib.hid (Sle.zrange0 en HX.out 9 [.int .i64 x.pr, .int .i64 x.o, .int .u8 (x.ad.a.toNat : Int), .int .u8 (x.ad.b.toNat : Int), .int .u8 (x.ad.c.toNat : Int), .int .u8 (x.ad.d.toNat : Int), .int .i64 x.i, .int .i64 x.k, .int .i64 x.u] rfl)) | ((with_reducible show wpList _ _ _ (⟨some 9, _, _, _, _, _⟩ :: _) _ _); refine wpList_load_rng 31 (.tmp 8) rfl (by kernel_rfl) _ _ rfl _ R9.out _ Try.underlying31 rfl (by kernel_rfl) ?_) | ((with_reducible show wpList _ _ _ (⟨none, Op.store _ (.tmp 2) _, _, _, _, _⟩ :: _) _ _); refine wpList_store_blk rfl 31 (.tmp 2) (.tmp 9) rfl g2 rfl _ rfl _ 31 hrb (by rfl) (by kernel_rfl) (by kernel_rfl) ?_; intro w2 hq gr; replace en := en.away av_en_rb gr; replace bel := below_grown bel gr orb bel.size; clear hrb; have hrb := hq; clear hq gr))
  try clear R9
  exact bodyPost_ret (results_cell_tmp_row rfl _ _ _ _ _ _ _ rfl hrb Try.underlying31 rfl (by kernel_rfl) (.bool true) rfl) rfl ⟨rfl, bel⟩
end Go.Proofs.Ytmjmjfcdblapcaa
