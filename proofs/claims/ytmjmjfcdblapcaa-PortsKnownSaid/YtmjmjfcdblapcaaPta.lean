/- remove, Purge, Clear at a table where nothing is over; Drop. -/
import Derived.Test.YtmjmjfcdblapcaaPt9
import Derived.Maps.RangeRun
namespace Go.Proofs.Ytmjmjfcdblapcaa
open Go.RowKit

theorem wpList_mrange_n {ops : Array Oper} {rest : List Oper} {o : Oper} {a : Act} {w : World} {Q : Exit → Act → World → Prop} (hgd : o.guard = none) (x : Operand) (ho : o.op = .range 53 x) {mb ck : Nat} {es : Array MapEntry} (hx : a.eval x = .map (some mb)) (hb : w.heap[mb]? = some (.map es ck))
    (hK : ∀ g w', w.heap.size ≤ g → w'.heap[g]? = some (.mapIter (some mb) ck #[] ck) → Below w.heap.size w w' → wpList Try.prog ops Q rest (a.put o.dst (.pointer (some ⟨g, 0, none⟩))) w') : wpList Try.prog ops Q (o :: rest) a w :=
  wpList_plain hgd fun _ hK' => by
    have ht : Try.prog.underlying 53 = some (.map 61 31) := by kernel_rfl
    unfold Oper.wp execOp
    simp only [ho, hx, Instr.range, run_underlying ht, MapKept.run_getObj_map hb, Sem.run_bind, Sem.run_pure, Result.andThen_ok, newObj]
    exact hK' _ _ (hK _ _ (Nat.le_refl _) (MapKept.heap_alloc w _).1 ((Below.refl _ _).alloc (Nat.le_refl _) _))
/-- The step at a map without entries. -/
theorem mnext_end {w : World} {g mb ck : Nat} (ty : TypeId) (hr : w.heap[g]? = some (.mapIter (some mb) ck #[] ck)) (hb : w.heap[mb]? = some (.map #[] ck)) : (Instr.next (.pointer (some ⟨g, 0, none⟩)) false ty).run Try.prog w = .ok (.tuple #[.bool false]) w := by
  rcases run_next_at w ty g mb ck ck #[] #[] ck hr hb (fun x h => by simp at h) (Nat.le_refl _) with ⟨_, h⟩ | ⟨e, he, _⟩
  · exact h
  · simp [leftOf] at he
theorem Om.none {lo mb : Nat} {w : World} (h : Om lo mb w []) : ∃ ck, w.heap[mb]? = some (.map #[] ck) := by
  obtain ⟨es, ck, h1, _, h2, _⟩ := h
  have : es = #[] := by
    have h3 := congrArg List.length h2
    simp at h3
    exact h3
  subst this
  exact ⟨ck, h1⟩
set_option linter.unusedVariables false in
set_option linter.unusedSimpArgs false in
set_option maxRecDepth 100000 in
set_option maxHeartbeats 16000000 in
theorem mdf_nil {lo mb : Nat} {f : Value} (w : World) (hM : Om lo mb w []) : Calls Try.prog 54 #[.map (some mb), f] w fun e w' => e = .returned (.tuple #[]) ∧ Below w.heap.size w w' := by
  obtain ⟨ck, hmb⟩ := hM.none
  clear hM
  have bel := Below.refl w.heap.size w
  go_enter Try.func54, Try.ntmps54
  go_wp2_with (first | ((with_reducible show wpList _ _ _ (⟨some 7, _, _, _, _, _⟩ :: _) _ _); refine wpList_mrange_n rfl (.tmp 6) rfl rfl hmb ?_; intro g7 w80 ge hit bb; replace hmb := blk_u hmb bb; replace bel := bel.trans (bb.mono bel.size); clear bb ge))
  refine wp_loop_rounds 1 ?_
  rw [rounds_succ]
  have R8 := fun ty => mnext_end ty hit hmb
  go_wp2_with fail
  clear R8
  exact bodyPost_end (results_none rfl _ _ _) rfl ⟨rfl, bel⟩
theorem wp_om_leni {o : Oper} {a : Act} {w : World} {K : Act → World → Prop} {Q : Exit → Act → World → Prop} (px : Operand) (ho : o.op = .call { callee := .builtin .len, args := #[px], argTypes := #[53] }) {lo mb : Nat} {os : List Mp}
    (hx : a.eval px = .map (some mb)) (h : Om lo mb w os) {z : Int} (hn : (os.length : Int) = z) (hK : K (a.put o.dst (.int .i64 z)) w) : Oper.wp Try.prog o a w K Q := by
  subst hn
  exact wp_om_len px ho hx h rfl hK
set_option linter.unusedVariables false in
set_option linter.unusedSimpArgs false in
set_option maxRecDepth 100000 in
set_option maxHeartbeats 16000000 in
theorem rem_p {lo gt : Nat} {lw rm now : Int} {l : List Mp} {ga gq : Nat} {a : Ad4} {kp : Int} {r : Int} (w : World) (hT : Tp lo gt w ⟨lw, rm, now, l, []⟩) (hab : w.heap[ga]? = some (.cells #[.int .u8 (a.a.toNat : Int), .int .u8 (a.b.toNat : Int), .int .u8 (a.c.toNat : Int), .int .u8 (a.d.toNat : Int)] 28 (0, 0))) (ap_ab : Ap gt w ga) (hkb : w.heap[gq]? = some (.cells #[.int .i64 kp] 3 (0, 0))) (ap_kb : Ap gt w gq) (hr : (l.length : Int) - ((l.filter (fun e => !purB a kp e)).length : Int) = r) : Calls Try.prog 37 #[.pointer (some ⟨gt, 0, none⟩), .func (.func 38) #[] #[.pointer (some ⟨ga, 0, none⟩), .pointer (some ⟨gq, 0, none⟩)]] w fun e w' => e = .returned (.int .i64 r) ∧ Tp lo gt w' ⟨lw, rm, now, l.filter (fun e => !purB a kp e), []⟩ ∧ Fap gt w w' ∧ Below lo w w' := by
  have hlo : lo ≤ w.heap.size := hT.lo_le
  have HLO := Lib.hid hlo
  obtain ⟨A, n, c, mb, htb, otb, hM, own, hok⟩ := hT
  dsimp only at htb hM own
  have off_tb := ofs_type own htb (by decide)
  have hl := row_len (by decide) mpE_len own
  have HLL := Lib.hid hl
  have HOK := Lib.hid hok
  have H32 : Hid (n ≤ 1000) := Lib.hid (by have h1_ := hok.len; have h2_ := hok.r1; simp only at h1_ h2_; omega)
  have H128 : Hid (n ≤ 128) := Lib.hid (by have h1_ := hok.len; have h2_ := hok.r1; simp only at h1_ h2_; omega)
  clear hl hok
  have fo := Fo.refl htb
  have off_ab := ap_ab.ofs htb
  have d_ab_tb := Lib.hid ap_ab.1
  have off_kb := ap_kb.ofs htb
  have d_kb_tb := Lib.hid ap_kb.1
  have d_ab_kb : Hid (ga ≠ gq) := Lib.hid (blk_ne hab hkb (by decide))
  have HR := Lib.hid hr
  have HOK2 := Lib.hid (HOK.out.fil (fun e => !purB a kp e) [])
  have hn0 : IntKind.i64.wrap (n : Int) = n := IntWalk.i64_in _ (by have := H128.out; omega)
  clear hr ap_ab ap_kb
  have bel := Below.refl lo w
  go_enter Try.func37, Try.ntmps37
  go_wp2_with (first | ((with_reducible show wpList _ _ _ (⟨some 3, _, _, _, _, _⟩ :: _) _ _); refine wpList_box_n rfl 63 (.tmp 1) rfl #[.func (.func 38) #[] #[.pointer (some ⟨ga, 0, none⟩), .pointer (some ⟨gq, 0, none⟩)]] rfl ?_; intro g3 w1 ge lt hh bb; have d_tb_sB := ne_new (hlt htb) ge; have d_ab_sB := ne_new (hlt hab) ge; have d_kb_sB := ne_new (hlt hkb) ge; have osB := Nat.le_trans (Nat.le_trans hlo bel.size) ge; have off_sB := owk_new own ge; have pn_sB := Nat.le_trans bel.size ge; replace htb := blk_u htb bb; replace hab := blk_u hab bb; replace hkb := blk_u hkb bb; replace own := owk_under own bb; replace fo := fo.below bb; replace hM := hM.below bb; replace bel := bel.trans (bb.mono (Nat.le_trans hlo bel.size)); have hsB := hh; clear hh lt ge bb))
  replace bel := bel.drew
  replace htb : w1.drew.heap[gt]? = _ := htb
  replace hab : w1.drew.heap[ga]? = _ := hab
  replace hkb : w1.drew.heap[gq]? = _ := hkb
  replace hsB : w1.drew.heap[g3]? = _ := hsB
  replace own := World.ownsRow.drew own
  replace fo := fo_drew fo
  replace hM := om_drew hM
  refine wp_region_held_drew (S := fun W => W.heap[gt]? = some (.cells #[.int .i64 lw, .int .i64 rm, .int .i64 now, .slice A n c, .map (some mb)] 55 (0, 0))) (by kernel_rfl) htb (fun hH => ?_)
  generalize w1.drew = w2 at bel htb hab hkb hsB own fo hM hH ⊢
  refine wpAnyH_take (i := 0) (v := ?_) rfl (by kernel_rfl) (by kernel_rfl) (by kernel_rfl) (fun _ _ _ h => h) (Or.inl ⟨by rfl, ?_⟩) hH ?_
  rotate_left
  · ((intro W hW; clear hW; go_simp) <;> with_reducible rfl)
  simp only [Act.put, List.getElem_toArray, List.getElem_cons_zero, List.setIfInBounds_toArray, List.set_cons_zero, List.set_cons_succ]
  refine wpAnyH_take (i := 1) (v := ?_) rfl (by kernel_rfl) (by kernel_rfl) (by kernel_rfl) (fun _ _ _ h => h) (Or.inl ⟨by rfl, ?_⟩) hH ?_
  rotate_left
  · ((intro W hW; clear hW; go_simp) <;> with_reducible rfl)
  simp only [Act.put, List.getElem_toArray, List.getElem_cons_zero, List.getElem_cons_succ, List.setIfInBounds_toArray, List.set_cons_zero, List.set_cons_succ]
  refine wpAnyH_take (i := 2) (v := ?_) rfl (by kernel_rfl) (by kernel_rfl) (by kernel_rfl) (fun _ _ _ h => h) (Or.inl ⟨by rfl, ?_⟩) hH ?_
  rotate_left
  · ((intro W hW; clear hW; go_simp) <;> with_reducible rfl)
  simp only [Act.put, List.getElem_toArray, List.getElem_cons_zero, List.getElem_cons_succ, List.setIfInBounds_toArray, List.set_cons_zero, List.set_cons_succ]
  refine wpAnyH_take (i := 3) (v := ?_) rfl (by kernel_rfl) (by kernel_rfl) (by kernel_rfl) (fun _ _ _ h => h) (Or.inl ⟨by rfl, ?_⟩) hH ?_
  rotate_left
  · ((intro W hW; have hk := cell_lit (hW) 3 _ rfl; clear hW; go_simp) <;> with_reducible rfl)
  simp only [Act.put, List.getElem_toArray, List.getElem_cons_zero, List.getElem_cons_succ, List.setIfInBounds_toArray, List.set_cons_zero, List.set_cons_succ]
  refine wpAnyH_take (i := 4) (v := ?_) rfl (by kernel_rfl) (by kernel_rfl) (by kernel_rfl) (fun _ _ _ h => h) (Or.inl ⟨by rfl, ?_⟩) hH ?_
  rotate_left
  · ((intro W hW; clear hW; go_simp) <;> with_reducible rfl)
  simp only [Act.put, List.getElem_toArray, List.getElem_cons_zero, List.getElem_cons_succ, List.setIfInBounds_toArray, List.set_cons_zero, List.set_cons_succ]
  refine wpAnyH_take (i := 5) (v := ?_) rfl (by kernel_rfl) (by kernel_rfl) (by kernel_rfl) (fun _ _ _ h => h) (Or.inl ⟨by rfl, ?_⟩) hH ?_
  rotate_left
  · ((intro W hW; clear hW; go_simp) <;> with_reducible rfl)
  simp only [Act.put, List.getElem_toArray, List.getElem_cons_zero, List.getElem_cons_succ, List.setIfInBounds_toArray, List.set_cons_zero, List.set_cons_succ]
  refine wpAnyH_take (i := 6) (v := ?_) rfl (by kernel_rfl) (by kernel_rfl) (by kernel_rfl) (fun _ _ _ h => h) (Or.inl ⟨by rfl, ?_⟩) hH ?_
  rotate_left
  · ((intro W hW; clear hW; go_simp) <;> with_reducible rfl)
  simp only [Act.put, List.getElem_toArray, List.getElem_cons_zero, List.getElem_cons_succ, List.setIfInBounds_toArray, List.set_cons_zero, List.set_cons_succ]
  refine wpAnyH_take (i := 7) (v := ?_) rfl (by kernel_rfl) (by kernel_rfl) (by kernel_rfl) (fun _ _ _ h => h) (Or.inl ⟨by rfl, ?_⟩) hH ?_
  rotate_left
  · ((intro W hW; clear hW; go_simp) <;> with_reducible rfl)
  simp only [Act.put, List.getElem_toArray, List.getElem_cons_zero, List.getElem_cons_succ, List.setIfInBounds_toArray, List.set_cons_zero, List.set_cons_succ]
  refine wpAnyH_take (i := 8) (v := ?_) rfl (by kernel_rfl) (by kernel_rfl) (by kernel_rfl) (fun _ _ _ h => h) (Or.inl ⟨by rfl, ?_⟩) hH ?_
  rotate_left
  · ((intro W hW; have hk := cell_lit (hW) 4 _ rfl; clear hW; go_simp) <;> with_reducible rfl)
  simp only [Act.put, List.getElem_toArray, List.getElem_cons_zero, List.getElem_cons_succ, List.setIfInBounds_toArray, List.set_cons_zero, List.set_cons_succ]
  refine wpAnyH_ready (rs := [9]) (by kernel_rfl) (by simp) ?_
  refine AllReadyH.cons (o := _) rfl (fun K hK => ?_) AllReadyH.nil
  simp only [List.getElem_toArray, List.getElem_cons_zero, List.getElem_cons_succ]
  rw [if_pos (by rfl)]
  refine wp_om_leni (.tmp 14) rfl rfl hM (z := 0) rfl ?_
  refine hK.out _ _ htb (fun hH3 => ?_)
  clear hK K
  simp only [Act.put, List.setIfInBounds_toArray, List.set_cons_zero, List.set_cons_succ]
  refine wpAnyH_take (i := 10) (v := ?_) rfl (by kernel_rfl) (by kernel_rfl) (by kernel_rfl) (fun _ _ _ h => h) (Or.inl ⟨by rfl, ?_⟩) hH3 ?_
  rotate_left
  · ((intro W hW; clear hW; go_simp) <;> with_reducible rfl)
  simp only [Act.put, List.getElem_toArray, List.getElem_cons_zero, List.getElem_cons_succ, List.setIfInBounds_toArray, List.set_cons_zero, List.set_cons_succ]
  refine wpAnyH_take (i := 11) (v := ?_) rfl (by kernel_rfl) (by kernel_rfl) (by kernel_rfl) (fun _ _ _ h => h) (Or.inl ⟨by rfl, ?_⟩) hH3 ?_
  rotate_left
  · ((intro W hW; clear hW; go_simp) <;> with_reducible rfl)
  simp only [Act.put, List.getElem_toArray, List.getElem_cons_zero, List.getElem_cons_succ, List.setIfInBounds_toArray, List.set_cons_zero, List.set_cons_succ]
  refine wpAnyH_done (by kernel_rfl) ?_ _
  go_wp2_with fail
  replace bel := bel.drew
  replace htb : w2.drew.heap[gt]? = _ := htb
  replace hab : w2.drew.heap[ga]? = _ := hab
  replace hkb : w2.drew.heap[gq]? = _ := hkb
  replace hsB : w2.drew.heap[g3]? = _ := hsB
  replace own := World.ownsRow.drew own
  replace fo := fo_drew fo
  replace hM := om_drew hM
  refine wp_region_z 9 (S := fun W => W.heap[gt]? = some (.cells #[.int .i64 lw, .int .i64 rm, .int .i64 now, .slice A n c, .map (some mb)] 55 (0, 0)) ∧ W.heap[g3]? = some (.cells #[.func (.func 38) #[] #[.pointer (some ⟨ga, 0, none⟩), .pointer (some ⟨gq, 0, none⟩)]] 63 (0, 0))) (by kernel_rfl) ⟨htb, hsB⟩ (fun hH => ?_)
  generalize w2.drew = w4 at bel htb hab hkb hsB own fo hM hH ⊢
  refine wpAnyZ_take (i := 0) (v := ?_) rfl (by kernel_rfl) (by kernel_rfl) (by kernel_rfl) (fun _ _ _ h => h) (Or.inl ⟨by rfl, ?_⟩) hH ?_
  rotate_left
  · ((intro W hW; clear hW; go_simp) <;> with_reducible rfl)
  simp only [Act.put, List.getElem_toArray, List.getElem_cons_zero, List.setIfInBounds_toArray, List.set_cons_zero, List.set_cons_succ]
  refine wpAnyZ_take (i := 1) (v := ?_) rfl (by kernel_rfl) (by kernel_rfl) (by kernel_rfl) (fun _ _ _ h => h) (Or.inl ⟨by rfl, ?_⟩) hH ?_
  rotate_left
  · ((intro W hW; clear hW; go_simp) <;> with_reducible rfl)
  simp only [Act.put, List.getElem_toArray, List.getElem_cons_zero, List.getElem_cons_succ, List.setIfInBounds_toArray, List.set_cons_zero, List.set_cons_succ]
  refine wpAnyZ_take (i := 2) (v := ?_) rfl (by kernel_rfl) (by kernel_rfl) (by kernel_rfl) (fun _ _ _ h => h) (Or.inl ⟨by rfl, ?_⟩) hH ?_
  rotate_left
  · ((intro W hW; clear hW; go_simp) <;> with_reducible rfl)
  simp only [Act.put, List.getElem_toArray, List.getElem_cons_zero, List.getElem_cons_succ, List.setIfInBounds_toArray, List.set_cons_zero, List.set_cons_succ]
  refine wpAnyZ_take (i := 3) (v := ?_) rfl (by kernel_rfl) (by kernel_rfl) (by kernel_rfl) (fun _ _ _ h => h) (Or.inl ⟨by rfl, ?_⟩) hH ?_
  rotate_left
  · ((intro W hW; clear hW; go_simp) <;> with_reducible rfl)
  simp only [Act.put, List.getElem_toArray, List.getElem_cons_zero, List.getElem_cons_succ, List.setIfInBounds_toArray, List.set_cons_zero, List.set_cons_succ]
  refine wpAnyZ_take (i := 4) (v := ?_) rfl (by kernel_rfl) (by kernel_rfl) (by kernel_rfl) (fun _ _ _ h => h) (Or.inl ⟨by rfl, ?_⟩) hH ?_
  rotate_left
  · ((intro W hW; have hk := cell_lit (hW.1) 3 _ rfl; clear hW; go_simp) <;> with_reducible rfl)
  simp only [Act.put, List.getElem_toArray, List.getElem_cons_zero, List.getElem_cons_succ, List.setIfInBounds_toArray, List.set_cons_zero, List.set_cons_succ]
  refine wpAnyZ_take (i := 5) (v := ?_) rfl (by kernel_rfl) (by kernel_rfl) (by kernel_rfl) (fun _ _ _ h => h) (Or.inl ⟨by rfl, ?_⟩) hH ?_
  rotate_left
  · ((intro W hW; have hk := cell_lit (hW.2) 0 _ rfl; clear hW; go_simp) <;> with_reducible rfl)
  simp only [Act.put, List.getElem_toArray, List.getElem_cons_zero, List.getElem_cons_succ, List.setIfInBounds_toArray, List.set_cons_zero, List.set_cons_succ]
  refine wpAnyZ_ready (rs := [6]) (by kernel_rfl) (by simp) ?_
  refine AllReadyZ.cons (o := _) rfl (fun K hK => ?_) AllReadyZ.nil
  simp only [List.getElem_toArray, List.getElem_cons_zero, List.getElem_cons_succ]
  go_simp
  have HLO_ := Nat.le_trans HLO.out bel.size
  with_reducible refine (delp_any _ HLO_ hab hkb own H32.out).mono ?_
  rintro e w5 ⟨n3, rfl, own_, gw, ofw⟩
  dsimp only
  replace bel := bel.trans (row_bel gw own (Nat.le_trans hlo bel.size))
  have off_tb_ := ofw _ (hlt htb) off_tb
  replace htb := blk_own (v := .slice A n c) htb gw off_tb
  clear off_tb
  have off_tb := off_tb_
  clear off_tb_
  have off_ab_ := ofw _ (hlt hab) off_ab
  replace hab := blk_own (v := .slice A n c) hab gw off_ab
  clear off_ab
  have off_ab := off_ab_
  clear off_ab_
  have off_kb_ := ofw _ (hlt hkb) off_kb
  replace hkb := blk_own (v := .slice A n c) hkb gw off_kb
  clear off_kb
  have off_kb := off_kb_
  clear off_kb_
  have off_sB_ := ofw _ (hlt hsB) off_sB
  replace hsB := blk_own (v := .slice A n c) hsB gw off_sB
  clear off_sB
  have off_sB := off_sB_
  clear off_sB_
  replace fo := fo.row gw ofw
  replace hM := hM.row gw own
  clear own
  have own := own_
  clear own_ gw ofw
  clear HLO_
  have HN3 := Lib.hid (row_len (by decide) mpE_len own)
  have HNR : Hid ((n : Int) - (n3 : Int) = r) := Lib.hid (by rw [← HR.out, ← HLL.out, ← HN3.out])
  have hsub : (n : Int) - (n3 : Int) = r := HNR.out
  have hwr : IntKind.i64.wrap r = r := IntWalk.i64_in _ (by have := HNR.out; have := H128.out; have h3_ : n3 ≤ l.length := (by rw [← HN3.out]; exact List.length_filter_le _ _); rw [HLL.out] at h3_; omega)
  refine hK.out _ _ ⟨htb, hsB⟩ (fun hH6 => ?_)
  clear hK K
  refine wpAnyZ_take (i := 7) (v := ?_) rfl (by kernel_rfl) (by kernel_rfl) (by kernel_rfl) (fun _ _ _ h => h) (Or.inl ⟨by rfl, ?_⟩) hH6 ?_
  rotate_left
  · ((intro W hW; clear hW; go_simp) <;> with_reducible rfl)
  simp only [Act.put, List.getElem_toArray, List.getElem_cons_zero, List.getElem_cons_succ, List.setIfInBounds_toArray, List.set_cons_zero, List.set_cons_succ]
  refine wpAnyZ_take (i := 8) (v := ?_) rfl (by kernel_rfl) (by kernel_rfl) (by kernel_rfl) (fun _ _ _ h => h) (Or.inl ⟨by rfl, ?_⟩) hH6 ?_
  rotate_left
  · ((intro W hW; clear hW; go_simp) <;> with_reducible rfl)
  simp only [Act.put, List.getElem_toArray, List.getElem_cons_zero, List.getElem_cons_succ, List.setIfInBounds_toArray, List.set_cons_zero, List.set_cons_succ]
  refine wpAnyZ_ready (rs := [9]) (by kernel_rfl) (by simp) ?_
  refine AllReadyZ.last (o := _) rfl (fun K hK => ?_)
  simp only [List.getElem_toArray, List.getElem_cons_zero, List.getElem_cons_succ]
  rw [if_pos (by rfl)]
  refine wp_store_part 37 (.tmp 25) (.tmp 23) rfl gt 3 rfl [.slice A n3 c] rfl [.int .i64 lw, .int .i64 rm, .int .i64 now, .slice A n c, .map (some mb)] 55 htb (by simp) [.int .i64 lw, .int .i64 rm, .int .i64 now, .slice A n3 c, .map (some mb)] rfl (by kernel_rfl) (by rfl) ?_
  intro w7 hq gr
  replace hab := blk_a hab gr d_ab_tb
  replace hkb := blk_a hkb gr d_kb_tb
  replace hsB := blk_a hsB gr (ne_symm d_tb_sB)
  replace own := owk_off own off_tb gr
  replace fo := fo.tb gr
  replace hM := hM.grown gr htb
  replace bel := below_grown bel gr otb (Nat.le_trans hlo bel.size)
  clear htb
  have htb := hq
  clear hq gr
  refine hK.out _ _ trivial (fun hH8 => ?_)
  clear hK K
  simp only [Act.put]
  refine wpAnyZ_done (by kernel_rfl) ?_ _
  have R29 := cell_lit htb 4 _ rfl
  go_wp2_with fail
  clear R29
  with_reducible refine (mdf_nil _ hM).mono ?_
  rintro e w9 ⟨rfl, b9⟩
  replace htb := blk_u htb b9
  replace hab := blk_u hab b9
  replace hkb := blk_u hkb b9
  replace hsB := blk_u hsB b9
  replace own := owk_under own b9
  replace fo := fo.below b9
  replace hM := hM.below b9
  replace bel := bel.trans (b9.mono (Nat.le_trans hlo bel.size))
  clear b9
  go_wp2_with fail
  replace bel := bel.drew
  replace htb : w9.drew.heap[gt]? = _ := htb
  replace hab : w9.drew.heap[ga]? = _ := hab
  replace hkb : w9.drew.heap[gq]? = _ := hkb
  replace hsB : w9.drew.heap[g3]? = _ := hsB
  replace own := World.ownsRow.drew own
  replace fo := fo_drew fo
  replace hM := om_drew hM
  refine wp_region_held_drew (S := fun W => W.heap[gt]? = some (.cells #[.int .i64 lw, .int .i64 rm, .int .i64 now, .slice A n3 c, .map (some mb)] 55 (0, 0))) (by kernel_rfl) htb (fun hH => ?_)
  generalize w9.drew = w10 at bel htb hab hkb hsB own fo hM hH ⊢
  refine wpAnyH_take (i := 0) (v := ?_) rfl (by kernel_rfl) (by kernel_rfl) (by kernel_rfl) (fun _ _ _ h => h) (Or.inl ⟨by rfl, ?_⟩) hH ?_
  rotate_left
  · ((intro W hW; clear hW; go_simp) <;> with_reducible rfl)
  simp only [Act.put, List.getElem_toArray, List.getElem_cons_zero, List.setIfInBounds_toArray, List.set_cons_zero, List.set_cons_succ]
  refine wpAnyH_take (i := 1) (v := ?_) rfl (by kernel_rfl) (by kernel_rfl) (by kernel_rfl) (fun _ _ _ h => h) (Or.inl ⟨by rfl, ?_⟩) hH ?_
  rotate_left
  · ((intro W hW; clear hW; go_simp) <;> with_reducible rfl)
  simp only [Act.put, List.getElem_toArray, List.getElem_cons_zero, List.getElem_cons_succ, List.setIfInBounds_toArray, List.set_cons_zero, List.set_cons_succ]
  refine wpAnyH_take (i := 2) (v := ?_) rfl (by kernel_rfl) (by kernel_rfl) (by kernel_rfl) (fun _ _ _ h => h) (Or.inl ⟨by rfl, ?_⟩) hH ?_
  rotate_left
  · ((intro W hW; clear hW; go_simp) <;> with_reducible rfl)
  simp only [Act.put, List.getElem_toArray, List.getElem_cons_zero, List.getElem_cons_succ, List.setIfInBounds_toArray, List.set_cons_zero, List.set_cons_succ]
  refine wpAnyH_take (i := 3) (v := ?_) rfl (by kernel_rfl) (by kernel_rfl) (by kernel_rfl) (fun _ _ _ h => h) (Or.inl ⟨by rfl, ?_⟩) hH ?_
  rotate_left
  · ((intro W hW; clear hW; go_simp) <;> with_reducible rfl)
  simp only [Act.put, List.getElem_toArray, List.getElem_cons_zero, List.getElem_cons_succ, List.setIfInBounds_toArray, List.set_cons_zero, List.set_cons_succ]
  refine wpAnyH_take (i := 4) (v := ?_) rfl (by kernel_rfl) (by kernel_rfl) (by kernel_rfl) (fun _ _ _ h => h) (Or.inl ⟨by rfl, ?_⟩) hH ?_
  rotate_left
  · ((intro W hW; have hk := cell_lit (hW) 3 _ rfl; clear hW; go_simp) <;> with_reducible rfl)
  simp only [Act.put, List.getElem_toArray, List.getElem_cons_zero, List.getElem_cons_succ, List.setIfInBounds_toArray, List.set_cons_zero, List.set_cons_succ]
  refine wpAnyH_take (i := 5) (v := ?_) rfl (by kernel_rfl) (by kernel_rfl) (by kernel_rfl) (fun _ _ _ h => h) (Or.inl ⟨by rfl, ?_⟩) hH ?_
  rotate_left
  · ((intro W hW; clear hW; go_simp) <;> with_reducible rfl)
  simp only [Act.put, List.getElem_toArray, List.getElem_cons_zero, List.getElem_cons_succ, List.setIfInBounds_toArray, List.set_cons_zero, List.set_cons_succ]
  refine wpAnyH_take (i := 6) (v := ?_) rfl (by kernel_rfl) (by kernel_rfl) (by kernel_rfl) (fun _ _ _ h => h) (Or.inl ⟨by rfl, ?_⟩) hH ?_
  rotate_left
  · ((intro W hW; clear hW; go_simp) <;> with_reducible rfl)
  simp only [Act.put, List.getElem_toArray, List.getElem_cons_zero, List.getElem_cons_succ, List.setIfInBounds_toArray, List.set_cons_zero, List.set_cons_succ]
  refine wpAnyH_take (i := 7) (v := ?_) rfl (by kernel_rfl) (by kernel_rfl) (by kernel_rfl) (fun _ _ _ h => h) (Or.inl ⟨by rfl, ?_⟩) hH ?_
  rotate_left
  · ((intro W hW; clear hW; go_simp) <;> with_reducible rfl)
  simp only [Act.put, List.getElem_toArray, List.getElem_cons_zero, List.getElem_cons_succ, List.setIfInBounds_toArray, List.set_cons_zero, List.set_cons_succ]
  refine wpAnyH_take (i := 8) (v := ?_) rfl (by kernel_rfl) (by kernel_rfl) (by kernel_rfl) (fun _ _ _ h => h) (Or.inl ⟨by rfl, ?_⟩) hH ?_
  rotate_left
  · ((intro W hW; clear hW; go_simp) <;> with_reducible rfl)
  simp only [Act.put, List.getElem_toArray, List.getElem_cons_zero, List.getElem_cons_succ, List.setIfInBounds_toArray, List.set_cons_zero, List.set_cons_succ]
  refine wpAnyH_take (i := 9) (v := ?_) rfl (by kernel_rfl) (by kernel_rfl) (by kernel_rfl) (fun _ _ _ h => h) (Or.inl ⟨by rfl, ?_⟩) hH ?_
  rotate_left
  · ((intro W hW; clear hW; go_simp) <;> with_reducible rfl)
  simp only [Act.put, List.getElem_toArray, List.getElem_cons_zero, List.getElem_cons_succ, List.setIfInBounds_toArray, List.set_cons_zero, List.set_cons_succ]
  refine wpAnyH_take (i := 10) (v := ?_) rfl (by kernel_rfl) (by kernel_rfl) (by kernel_rfl) (fun _ _ _ h => h) (Or.inl ⟨by rfl, ?_⟩) hH ?_
  rotate_left
  · ((intro W hW; have hk := cell_lit (hW) 4 _ rfl; clear hW; go_simp) <;> with_reducible rfl)
  simp only [Act.put, List.getElem_toArray, List.getElem_cons_zero, List.getElem_cons_succ, List.setIfInBounds_toArray, List.set_cons_zero, List.set_cons_succ]
  refine wpAnyH_ready (rs := [11]) (by kernel_rfl) (by simp) ?_
  refine AllReadyH.cons (o := _) rfl (fun K hK => ?_) AllReadyH.nil
  simp only [List.getElem_toArray, List.getElem_cons_zero, List.getElem_cons_succ]
  rw [if_pos (by rfl)]
  refine wp_om_leni (.tmp 42) rfl rfl hM (z := 0) rfl ?_
  refine hK.out _ _ htb (fun hH11 => ?_)
  clear hK K
  simp only [Act.put, List.setIfInBounds_toArray, List.set_cons_zero, List.set_cons_succ]
  refine wpAnyH_take (i := 12) (v := ?_) rfl (by kernel_rfl) (by kernel_rfl) (by kernel_rfl) (fun _ _ _ h => h) (Or.inl ⟨by rfl, ?_⟩) hH11 ?_
  rotate_left
  · ((intro W hW; clear hW; go_simp) <;> with_reducible rfl)
  simp only [Act.put, List.getElem_toArray, List.getElem_cons_zero, List.getElem_cons_succ, List.setIfInBounds_toArray, List.set_cons_zero, List.set_cons_succ]
  refine wpAnyH_take (i := 13) (v := ?_) rfl (by kernel_rfl) (by kernel_rfl) (by kernel_rfl) (fun _ _ _ h => h) (Or.inl ⟨by rfl, ?_⟩) hH11 ?_
  rotate_left
  · ((intro W hW; clear hW; go_simp) <;> with_reducible rfl)
  simp only [Act.put, List.getElem_toArray, List.getElem_cons_zero, List.getElem_cons_succ, List.setIfInBounds_toArray, List.set_cons_zero, List.set_cons_succ]
  refine wpAnyH_done (by kernel_rfl) ?_ _
  go_wp2_with fail
  go_ret
  exact ⟨rfl, ⟨A, n3, c, mb, htb, otb, hM, own, HOK2.out⟩, fo.fr htb, bel⟩
set_option linter.unusedVariables false in
set_option linter.unusedSimpArgs false in
set_option maxRecDepth 100000 in
set_option maxHeartbeats 16000000 in
theorem rem_c {lo gt : Nat} {lw rm now : Int} {l : List Mp} {gq : Nat} {kp : Int} {r : Int} (w : World) (hT : Tp lo gt w ⟨lw, rm, now, l, []⟩) (hkb : w.heap[gq]? = some (.cells #[.int .i64 kp] 3 (0, 0))) (ap_kb : Ap gt w gq) (hr : (l.length : Int) - ((l.filter (fun e => !clrB kp e)).length : Int) = r) : Calls Try.prog 37 #[.pointer (some ⟨gt, 0, none⟩), .func (.func 43) #[] #[.pointer (some ⟨gq, 0, none⟩)]] w fun e w' => e = .returned (.int .i64 r) ∧ Tp lo gt w' ⟨lw, rm, now, l.filter (fun e => !clrB kp e), []⟩ ∧ Fap gt w w' ∧ Below lo w w' := by
  have hlo : lo ≤ w.heap.size := hT.lo_le
  have HLO := Lib.hid hlo
  obtain ⟨A, n, c, mb, htb, otb, hM, own, hok⟩ := hT
  dsimp only at htb hM own
  have off_tb := ofs_type own htb (by decide)
  have hl := row_len (by decide) mpE_len own
  have HLL := Lib.hid hl
  have HOK := Lib.hid hok
  have H32 : Hid (n ≤ 1000) := Lib.hid (by have h1_ := hok.len; have h2_ := hok.r1; simp only at h1_ h2_; omega)
  have H128 : Hid (n ≤ 128) := Lib.hid (by have h1_ := hok.len; have h2_ := hok.r1; simp only at h1_ h2_; omega)
  clear hl hok
  have fo := Fo.refl htb
  have off_kb := ap_kb.ofs htb
  have d_kb_tb := Lib.hid ap_kb.1
  have HR := Lib.hid hr
  have HOK2 := Lib.hid (HOK.out.fil (fun e => !clrB kp e) [])
  have hn0 : IntKind.i64.wrap (n : Int) = n := IntWalk.i64_in _ (by have := H128.out; omega)
  clear hr ap_kb
  have bel := Below.refl lo w
  go_enter Try.func37, Try.ntmps37
  go_wp2_with (first | ((with_reducible show wpList _ _ _ (⟨some 3, _, _, _, _, _⟩ :: _) _ _); refine wpList_box_n rfl 63 (.tmp 1) rfl #[.func (.func 43) #[] #[.pointer (some ⟨gq, 0, none⟩)]] rfl ?_; intro g3 w1 ge lt hh bb; have d_tb_sB := ne_new (hlt htb) ge; have d_kb_sB := ne_new (hlt hkb) ge; have osB := Nat.le_trans (Nat.le_trans hlo bel.size) ge; have off_sB := owk_new own ge; have pn_sB := Nat.le_trans bel.size ge; replace htb := blk_u htb bb; replace hkb := blk_u hkb bb; replace own := owk_under own bb; replace fo := fo.below bb; replace hM := hM.below bb; replace bel := bel.trans (bb.mono (Nat.le_trans hlo bel.size)); have hsB := hh; clear hh lt ge bb))
  replace bel := bel.drew
  replace htb : w1.drew.heap[gt]? = _ := htb
  replace hkb : w1.drew.heap[gq]? = _ := hkb
  replace hsB : w1.drew.heap[g3]? = _ := hsB
  replace own := World.ownsRow.drew own
  replace fo := fo_drew fo
  replace hM := om_drew hM
  refine wp_region_held_drew (S := fun W => W.heap[gt]? = some (.cells #[.int .i64 lw, .int .i64 rm, .int .i64 now, .slice A n c, .map (some mb)] 55 (0, 0))) (by kernel_rfl) htb (fun hH => ?_)
  generalize w1.drew = w2 at bel htb hkb hsB own fo hM hH ⊢
  refine wpAnyH_take (i := 0) (v := ?_) rfl (by kernel_rfl) (by kernel_rfl) (by kernel_rfl) (fun _ _ _ h => h) (Or.inl ⟨by rfl, ?_⟩) hH ?_
  rotate_left
  · ((intro W hW; clear hW; go_simp) <;> with_reducible rfl)
  simp only [Act.put, List.getElem_toArray, List.getElem_cons_zero, List.setIfInBounds_toArray, List.set_cons_zero, List.set_cons_succ]
  refine wpAnyH_take (i := 1) (v := ?_) rfl (by kernel_rfl) (by kernel_rfl) (by kernel_rfl) (fun _ _ _ h => h) (Or.inl ⟨by rfl, ?_⟩) hH ?_
  rotate_left
  · ((intro W hW; clear hW; go_simp) <;> with_reducible rfl)
  simp only [Act.put, List.getElem_toArray, List.getElem_cons_zero, List.getElem_cons_succ, List.setIfInBounds_toArray, List.set_cons_zero, List.set_cons_succ]
  refine wpAnyH_take (i := 2) (v := ?_) rfl (by kernel_rfl) (by kernel_rfl) (by kernel_rfl) (fun _ _ _ h => h) (Or.inl ⟨by rfl, ?_⟩) hH ?_
  rotate_left
  · ((intro W hW; clear hW; go_simp) <;> with_reducible rfl)
  simp only [Act.put, List.getElem_toArray, List.getElem_cons_zero, List.getElem_cons_succ, List.setIfInBounds_toArray, List.set_cons_zero, List.set_cons_succ]
  refine wpAnyH_take (i := 3) (v := ?_) rfl (by kernel_rfl) (by kernel_rfl) (by kernel_rfl) (fun _ _ _ h => h) (Or.inl ⟨by rfl, ?_⟩) hH ?_
  rotate_left
  · ((intro W hW; have hk := cell_lit (hW) 3 _ rfl; clear hW; go_simp) <;> with_reducible rfl)
  simp only [Act.put, List.getElem_toArray, List.getElem_cons_zero, List.getElem_cons_succ, List.setIfInBounds_toArray, List.set_cons_zero, List.set_cons_succ]
  refine wpAnyH_take (i := 4) (v := ?_) rfl (by kernel_rfl) (by kernel_rfl) (by kernel_rfl) (fun _ _ _ h => h) (Or.inl ⟨by rfl, ?_⟩) hH ?_
  rotate_left
  · ((intro W hW; clear hW; go_simp) <;> with_reducible rfl)
  simp only [Act.put, List.getElem_toArray, List.getElem_cons_zero, List.getElem_cons_succ, List.setIfInBounds_toArray, List.set_cons_zero, List.set_cons_succ]
  refine wpAnyH_take (i := 5) (v := ?_) rfl (by kernel_rfl) (by kernel_rfl) (by kernel_rfl) (fun _ _ _ h => h) (Or.inl ⟨by rfl, ?_⟩) hH ?_
  rotate_left
  · ((intro W hW; clear hW; go_simp) <;> with_reducible rfl)
  simp only [Act.put, List.getElem_toArray, List.getElem_cons_zero, List.getElem_cons_succ, List.setIfInBounds_toArray, List.set_cons_zero, List.set_cons_succ]
  refine wpAnyH_take (i := 6) (v := ?_) rfl (by kernel_rfl) (by kernel_rfl) (by kernel_rfl) (fun _ _ _ h => h) (Or.inl ⟨by rfl, ?_⟩) hH ?_
  rotate_left
  · ((intro W hW; clear hW; go_simp) <;> with_reducible rfl)
  simp only [Act.put, List.getElem_toArray, List.getElem_cons_zero, List.getElem_cons_succ, List.setIfInBounds_toArray, List.set_cons_zero, List.set_cons_succ]
  refine wpAnyH_take (i := 7) (v := ?_) rfl (by kernel_rfl) (by kernel_rfl) (by kernel_rfl) (fun _ _ _ h => h) (Or.inl ⟨by rfl, ?_⟩) hH ?_
  rotate_left
  · ((intro W hW; clear hW; go_simp) <;> with_reducible rfl)
  simp only [Act.put, List.getElem_toArray, List.getElem_cons_zero, List.getElem_cons_succ, List.setIfInBounds_toArray, List.set_cons_zero, List.set_cons_succ]
  refine wpAnyH_take (i := 8) (v := ?_) rfl (by kernel_rfl) (by kernel_rfl) (by kernel_rfl) (fun _ _ _ h => h) (Or.inl ⟨by rfl, ?_⟩) hH ?_
  rotate_left
  · ((intro W hW; have hk := cell_lit (hW) 4 _ rfl; clear hW; go_simp) <;> with_reducible rfl)
  simp only [Act.put, List.getElem_toArray, List.getElem_cons_zero, List.getElem_cons_succ, List.setIfInBounds_toArray, List.set_cons_zero, List.set_cons_succ]
  refine wpAnyH_ready (rs := [9]) (by kernel_rfl) (by simp) ?_
  refine AllReadyH.cons (o := _) rfl (fun K hK => ?_) AllReadyH.nil
  simp only [List.getElem_toArray, List.getElem_cons_zero, List.getElem_cons_succ]
  rw [if_pos (by rfl)]
  refine wp_om_leni (.tmp 14) rfl rfl hM (z := 0) rfl ?_
  refine hK.out _ _ htb (fun hH3 => ?_)
  clear hK K
  simp only [Act.put, List.setIfInBounds_toArray, List.set_cons_zero, List.set_cons_succ]
  refine wpAnyH_take (i := 10) (v := ?_) rfl (by kernel_rfl) (by kernel_rfl) (by kernel_rfl) (fun _ _ _ h => h) (Or.inl ⟨by rfl, ?_⟩) hH3 ?_
  rotate_left
  · ((intro W hW; clear hW; go_simp) <;> with_reducible rfl)
  simp only [Act.put, List.getElem_toArray, List.getElem_cons_zero, List.getElem_cons_succ, List.setIfInBounds_toArray, List.set_cons_zero, List.set_cons_succ]
  refine wpAnyH_take (i := 11) (v := ?_) rfl (by kernel_rfl) (by kernel_rfl) (by kernel_rfl) (fun _ _ _ h => h) (Or.inl ⟨by rfl, ?_⟩) hH3 ?_
  rotate_left
  · ((intro W hW; clear hW; go_simp) <;> with_reducible rfl)
  simp only [Act.put, List.getElem_toArray, List.getElem_cons_zero, List.getElem_cons_succ, List.setIfInBounds_toArray, List.set_cons_zero, List.set_cons_succ]
  refine wpAnyH_done (by kernel_rfl) ?_ _
  go_wp2_with fail
  replace bel := bel.drew
  replace htb : w2.drew.heap[gt]? = _ := htb
  replace hkb : w2.drew.heap[gq]? = _ := hkb
  replace hsB : w2.drew.heap[g3]? = _ := hsB
  replace own := World.ownsRow.drew own
  replace fo := fo_drew fo
  replace hM := om_drew hM
  refine wp_region_z 9 (S := fun W => W.heap[gt]? = some (.cells #[.int .i64 lw, .int .i64 rm, .int .i64 now, .slice A n c, .map (some mb)] 55 (0, 0)) ∧ W.heap[g3]? = some (.cells #[.func (.func 43) #[] #[.pointer (some ⟨gq, 0, none⟩)]] 63 (0, 0))) (by kernel_rfl) ⟨htb, hsB⟩ (fun hH => ?_)
  generalize w2.drew = w4 at bel htb hkb hsB own fo hM hH ⊢
  refine wpAnyZ_take (i := 0) (v := ?_) rfl (by kernel_rfl) (by kernel_rfl) (by kernel_rfl) (fun _ _ _ h => h) (Or.inl ⟨by rfl, ?_⟩) hH ?_
  rotate_left
  · ((intro W hW; clear hW; go_simp) <;> with_reducible rfl)
  simp only [Act.put, List.getElem_toArray, List.getElem_cons_zero, List.setIfInBounds_toArray, List.set_cons_zero, List.set_cons_succ]
  refine wpAnyZ_take (i := 1) (v := ?_) rfl (by kernel_rfl) (by kernel_rfl) (by kernel_rfl) (fun _ _ _ h => h) (Or.inl ⟨by rfl, ?_⟩) hH ?_
  rotate_left
  · ((intro W hW; clear hW; go_simp) <;> with_reducible rfl)
  simp only [Act.put, List.getElem_toArray, List.getElem_cons_zero, List.getElem_cons_succ, List.setIfInBounds_toArray, List.set_cons_zero, List.set_cons_succ]
  refine wpAnyZ_take (i := 2) (v := ?_) rfl (by kernel_rfl) (by kernel_rfl) (by kernel_rfl) (fun _ _ _ h => h) (Or.inl ⟨by rfl, ?_⟩) hH ?_
  rotate_left
  · ((intro W hW; clear hW; go_simp) <;> with_reducible rfl)
  simp only [Act.put, List.getElem_toArray, List.getElem_cons_zero, List.getElem_cons_succ, List.setIfInBounds_toArray, List.set_cons_zero, List.set_cons_succ]
  refine wpAnyZ_take (i := 3) (v := ?_) rfl (by kernel_rfl) (by kernel_rfl) (by kernel_rfl) (fun _ _ _ h => h) (Or.inl ⟨by rfl, ?_⟩) hH ?_
  rotate_left
  · ((intro W hW; clear hW; go_simp) <;> with_reducible rfl)
  simp only [Act.put, List.getElem_toArray, List.getElem_cons_zero, List.getElem_cons_succ, List.setIfInBounds_toArray, List.set_cons_zero, List.set_cons_succ]
  refine wpAnyZ_take (i := 4) (v := ?_) rfl (by kernel_rfl) (by kernel_rfl) (by kernel_rfl) (fun _ _ _ h => h) (Or.inl ⟨by rfl, ?_⟩) hH ?_
  rotate_left
  · ((intro W hW; have hk := cell_lit (hW.1) 3 _ rfl; clear hW; go_simp) <;> with_reducible rfl)
  simp only [Act.put, List.getElem_toArray, List.getElem_cons_zero, List.getElem_cons_succ, List.setIfInBounds_toArray, List.set_cons_zero, List.set_cons_succ]
  refine wpAnyZ_take (i := 5) (v := ?_) rfl (by kernel_rfl) (by kernel_rfl) (by kernel_rfl) (fun _ _ _ h => h) (Or.inl ⟨by rfl, ?_⟩) hH ?_
  rotate_left
  · ((intro W hW; have hk := cell_lit (hW.2) 0 _ rfl; clear hW; go_simp) <;> with_reducible rfl)
  simp only [Act.put, List.getElem_toArray, List.getElem_cons_zero, List.getElem_cons_succ, List.setIfInBounds_toArray, List.set_cons_zero, List.set_cons_succ]
  refine wpAnyZ_ready (rs := [6]) (by kernel_rfl) (by simp) ?_
  refine AllReadyZ.cons (o := _) rfl (fun K hK => ?_) AllReadyZ.nil
  simp only [List.getElem_toArray, List.getElem_cons_zero, List.getElem_cons_succ]
  go_simp
  have HLO_ := Nat.le_trans HLO.out bel.size
  with_reducible refine (delc_any _ HLO_ hkb own H32.out).mono ?_
  rintro e w5 ⟨n3, rfl, own_, gw, ofw⟩
  dsimp only
  replace bel := bel.trans (row_bel gw own (Nat.le_trans hlo bel.size))
  have off_tb_ := ofw _ (hlt htb) off_tb
  replace htb := blk_own (v := .slice A n c) htb gw off_tb
  clear off_tb
  have off_tb := off_tb_
  clear off_tb_
  have off_kb_ := ofw _ (hlt hkb) off_kb
  replace hkb := blk_own (v := .slice A n c) hkb gw off_kb
  clear off_kb
  have off_kb := off_kb_
  clear off_kb_
  have off_sB_ := ofw _ (hlt hsB) off_sB
  replace hsB := blk_own (v := .slice A n c) hsB gw off_sB
  clear off_sB
  have off_sB := off_sB_
  clear off_sB_
  replace fo := fo.row gw ofw
  replace hM := hM.row gw own
  clear own
  have own := own_
  clear own_ gw ofw
  clear HLO_
  have HN3 := Lib.hid (row_len (by decide) mpE_len own)
  have HNR : Hid ((n : Int) - (n3 : Int) = r) := Lib.hid (by rw [← HR.out, ← HLL.out, ← HN3.out])
  have hsub : (n : Int) - (n3 : Int) = r := HNR.out
  have hwr : IntKind.i64.wrap r = r := IntWalk.i64_in _ (by have := HNR.out; have := H128.out; have h3_ : n3 ≤ l.length := (by rw [← HN3.out]; exact List.length_filter_le _ _); rw [HLL.out] at h3_; omega)
  refine hK.out _ _ ⟨htb, hsB⟩ (fun hH6 => ?_)
  clear hK K
  refine wpAnyZ_take (i := 7) (v := ?_) rfl (by kernel_rfl) (by kernel_rfl) (by kernel_rfl) (fun _ _ _ h => h) (Or.inl ⟨by rfl, ?_⟩) hH6 ?_
  rotate_left
  · ((intro W hW; clear hW; go_simp) <;> with_reducible rfl)
  simp only [Act.put, List.getElem_toArray, List.getElem_cons_zero, List.getElem_cons_succ, List.setIfInBounds_toArray, List.set_cons_zero, List.set_cons_succ]
  refine wpAnyZ_take (i := 8) (v := ?_) rfl (by kernel_rfl) (by kernel_rfl) (by kernel_rfl) (fun _ _ _ h => h) (Or.inl ⟨by rfl, ?_⟩) hH6 ?_
  rotate_left
  · ((intro W hW; clear hW; go_simp) <;> with_reducible rfl)
  simp only [Act.put, List.getElem_toArray, List.getElem_cons_zero, List.getElem_cons_succ, List.setIfInBounds_toArray, List.set_cons_zero, List.set_cons_succ]
  refine wpAnyZ_ready (rs := [9]) (by kernel_rfl) (by simp) ?_
  refine AllReadyZ.last (o := _) rfl (fun K hK => ?_)
  simp only [List.getElem_toArray, List.getElem_cons_zero, List.getElem_cons_succ]
  rw [if_pos (by rfl)]
  refine wp_store_part 37 (.tmp 25) (.tmp 23) rfl gt 3 rfl [.slice A n3 c] rfl [.int .i64 lw, .int .i64 rm, .int .i64 now, .slice A n c, .map (some mb)] 55 htb (by simp) [.int .i64 lw, .int .i64 rm, .int .i64 now, .slice A n3 c, .map (some mb)] rfl (by kernel_rfl) (by rfl) ?_
  intro w7 hq gr
  replace hkb := blk_a hkb gr d_kb_tb
  replace hsB := blk_a hsB gr (ne_symm d_tb_sB)
  replace own := owk_off own off_tb gr
  replace fo := fo.tb gr
  replace hM := hM.grown gr htb
  replace bel := below_grown bel gr otb (Nat.le_trans hlo bel.size)
  clear htb
  have htb := hq
  clear hq gr
  refine hK.out _ _ trivial (fun hH8 => ?_)
  clear hK K
  simp only [Act.put]
  refine wpAnyZ_done (by kernel_rfl) ?_ _
  have R29 := cell_lit htb 4 _ rfl
  go_wp2_with fail
  clear R29
  with_reducible refine (mdf_nil _ hM).mono ?_
  rintro e w9 ⟨rfl, b9⟩
  replace htb := blk_u htb b9
  replace hkb := blk_u hkb b9
  replace hsB := blk_u hsB b9
  replace own := owk_under own b9
  replace fo := fo.below b9
  replace hM := hM.below b9
  replace bel := bel.trans (b9.mono (Nat.le_trans hlo bel.size))
  clear b9
  go_wp2_with fail
  replace bel := bel.drew
  replace htb : w9.drew.heap[gt]? = _ := htb
  replace hkb : w9.drew.heap[gq]? = _ := hkb
  replace hsB : w9.drew.heap[g3]? = _ := hsB
  replace own := World.ownsRow.drew own
  replace fo := fo_drew fo
  replace hM := om_drew hM
  refine wp_region_held_drew (S := fun W => W.heap[gt]? = some (.cells #[.int .i64 lw, .int .i64 rm, .int .i64 now, .slice A n3 c, .map (some mb)] 55 (0, 0))) (by kernel_rfl) htb (fun hH => ?_)
  generalize w9.drew = w10 at bel htb hkb hsB own fo hM hH ⊢
  refine wpAnyH_take (i := 0) (v := ?_) rfl (by kernel_rfl) (by kernel_rfl) (by kernel_rfl) (fun _ _ _ h => h) (Or.inl ⟨by rfl, ?_⟩) hH ?_
  rotate_left
  · ((intro W hW; clear hW; go_simp) <;> with_reducible rfl)
  simp only [Act.put, List.getElem_toArray, List.getElem_cons_zero, List.setIfInBounds_toArray, List.set_cons_zero, List.set_cons_succ]
  refine wpAnyH_take (i := 1) (v := ?_) rfl (by kernel_rfl) (by kernel_rfl) (by kernel_rfl) (fun _ _ _ h => h) (Or.inl ⟨by rfl, ?_⟩) hH ?_
  rotate_left
  · ((intro W hW; clear hW; go_simp) <;> with_reducible rfl)
  simp only [Act.put, List.getElem_toArray, List.getElem_cons_zero, List.getElem_cons_succ, List.setIfInBounds_toArray, List.set_cons_zero, List.set_cons_succ]
  refine wpAnyH_take (i := 2) (v := ?_) rfl (by kernel_rfl) (by kernel_rfl) (by kernel_rfl) (fun _ _ _ h => h) (Or.inl ⟨by rfl, ?_⟩) hH ?_
  rotate_left
  · ((intro W hW; clear hW; go_simp) <;> with_reducible rfl)
  simp only [Act.put, List.getElem_toArray, List.getElem_cons_zero, List.getElem_cons_succ, List.setIfInBounds_toArray, List.set_cons_zero, List.set_cons_succ]
  refine wpAnyH_take (i := 3) (v := ?_) rfl (by kernel_rfl) (by kernel_rfl) (by kernel_rfl) (fun _ _ _ h => h) (Or.inl ⟨by rfl, ?_⟩) hH ?_
  rotate_left
  · ((intro W hW; clear hW; go_simp) <;> with_reducible rfl)
  simp only [Act.put, List.getElem_toArray, List.getElem_cons_zero, List.getElem_cons_succ, List.setIfInBounds_toArray, List.set_cons_zero, List.set_cons_succ]
  refine wpAnyH_take (i := 4) (v := ?_) rfl (by kernel_rfl) (by kernel_rfl) (by kernel_rfl) (fun _ _ _ h => h) (Or.inl ⟨by rfl, ?_⟩) hH ?_
  rotate_left
  · ((intro W hW; have hk := cell_lit (hW) 3 _ rfl; clear hW; go_simp) <;> with_reducible rfl)
  simp only [Act.put, List.getElem_toArray, List.getElem_cons_zero, List.getElem_cons_succ, List.setIfInBounds_toArray, List.set_cons_zero, List.set_cons_succ]
  refine wpAnyH_take (i := 5) (v := ?_) rfl (by kernel_rfl) (by kernel_rfl) (by kernel_rfl) (fun _ _ _ h => h) (Or.inl ⟨by rfl, ?_⟩) hH ?_
  rotate_left
  · ((intro W hW; clear hW; go_simp) <;> with_reducible rfl)
  simp only [Act.put, List.getElem_toArray, List.getElem_cons_zero, List.getElem_cons_succ, List.setIfInBounds_toArray, List.set_cons_zero, List.set_cons_succ]
  refine wpAnyH_take (i := 6) (v := ?_) rfl (by kernel_rfl) (by kernel_rfl) (by kernel_rfl) (fun _ _ _ h => h) (Or.inl ⟨by rfl, ?_⟩) hH ?_
  rotate_left
  · ((intro W hW; clear hW; go_simp) <;> with_reducible rfl)
  simp only [Act.put, List.getElem_toArray, List.getElem_cons_zero, List.getElem_cons_succ, List.setIfInBounds_toArray, List.set_cons_zero, List.set_cons_succ]
  refine wpAnyH_take (i := 7) (v := ?_) rfl (by kernel_rfl) (by kernel_rfl) (by kernel_rfl) (fun _ _ _ h => h) (Or.inl ⟨by rfl, ?_⟩) hH ?_
  rotate_left
  · ((intro W hW; clear hW; go_simp) <;> with_reducible rfl)
  simp only [Act.put, List.getElem_toArray, List.getElem_cons_zero, List.getElem_cons_succ, List.setIfInBounds_toArray, List.set_cons_zero, List.set_cons_succ]
  refine wpAnyH_take (i := 8) (v := ?_) rfl (by kernel_rfl) (by kernel_rfl) (by kernel_rfl) (fun _ _ _ h => h) (Or.inl ⟨by rfl, ?_⟩) hH ?_
  rotate_left
  · ((intro W hW; clear hW; go_simp) <;> with_reducible rfl)
  simp only [Act.put, List.getElem_toArray, List.getElem_cons_zero, List.getElem_cons_succ, List.setIfInBounds_toArray, List.set_cons_zero, List.set_cons_succ]
  refine wpAnyH_take (i := 9) (v := ?_) rfl (by kernel_rfl) (by kernel_rfl) (by kernel_rfl) (fun _ _ _ h => h) (Or.inl ⟨by rfl, ?_⟩) hH ?_
  rotate_left
  · ((intro W hW; clear hW; go_simp) <;> with_reducible rfl)
  simp only [Act.put, List.getElem_toArray, List.getElem_cons_zero, List.getElem_cons_succ, List.setIfInBounds_toArray, List.set_cons_zero, List.set_cons_succ]
  refine wpAnyH_take (i := 10) (v := ?_) rfl (by kernel_rfl) (by kernel_rfl) (by kernel_rfl) (fun _ _ _ h => h) (Or.inl ⟨by rfl, ?_⟩) hH ?_
  rotate_left
  · ((intro W hW; have hk := cell_lit (hW) 4 _ rfl; clear hW; go_simp) <;> with_reducible rfl)
  simp only [Act.put, List.getElem_toArray, List.getElem_cons_zero, List.getElem_cons_succ, List.setIfInBounds_toArray, List.set_cons_zero, List.set_cons_succ]
  refine wpAnyH_ready (rs := [11]) (by kernel_rfl) (by simp) ?_
  refine AllReadyH.cons (o := _) rfl (fun K hK => ?_) AllReadyH.nil
  simp only [List.getElem_toArray, List.getElem_cons_zero, List.getElem_cons_succ]
  rw [if_pos (by rfl)]
  refine wp_om_leni (.tmp 42) rfl rfl hM (z := 0) rfl ?_
  refine hK.out _ _ htb (fun hH11 => ?_)
  clear hK K
  simp only [Act.put, List.setIfInBounds_toArray, List.set_cons_zero, List.set_cons_succ]
  refine wpAnyH_take (i := 12) (v := ?_) rfl (by kernel_rfl) (by kernel_rfl) (by kernel_rfl) (fun _ _ _ h => h) (Or.inl ⟨by rfl, ?_⟩) hH11 ?_
  rotate_left
  · ((intro W hW; clear hW; go_simp) <;> with_reducible rfl)
  simp only [Act.put, List.getElem_toArray, List.getElem_cons_zero, List.getElem_cons_succ, List.setIfInBounds_toArray, List.set_cons_zero, List.set_cons_succ]
  refine wpAnyH_take (i := 13) (v := ?_) rfl (by kernel_rfl) (by kernel_rfl) (by kernel_rfl) (fun _ _ _ h => h) (Or.inl ⟨by rfl, ?_⟩) hH11 ?_
  rotate_left
  · ((intro W hW; clear hW; go_simp) <;> with_reducible rfl)
  simp only [Act.put, List.getElem_toArray, List.getElem_cons_zero, List.getElem_cons_succ, List.setIfInBounds_toArray, List.set_cons_zero, List.set_cons_succ]
  refine wpAnyH_done (by kernel_rfl) ?_ _
  go_wp2_with fail
  go_ret
  exact ⟨rfl, ⟨A, n3, c, mb, htb, otb, hM, own, HOK2.out⟩, fo.fr htb, bel⟩
set_option linter.unusedVariables false in
set_option linter.unusedSimpArgs false in
set_option maxRecDepth 100000 in
set_option maxHeartbeats 16000000 in
theorem tpurge {lo gt : Nat} {lw rm now : Int} {l : List Mp} {a : Ad4} {kp : Int} {r : Int} (w : World) (hT : Tp lo gt w ⟨lw, rm, now, l, []⟩) (hr : (l.length : Int) - ((l.filter (fun e => !purB a kp e)).length : Int) = r) : Calls Try.prog 15 #[.pointer (some ⟨gt, 0, none⟩), .agg #[.int .u8 (a.a.toNat : Int), .int .u8 (a.b.toNat : Int), .int .u8 (a.c.toNat : Int), .int .u8 (a.d.toNat : Int)], .int .i64 kp] w fun e w' => e = .returned (.int .i64 r) ∧ Tp lo gt w' ⟨lw, rm, now, l.filter (fun e => !purB a kp e), []⟩ ∧ Fap gt w w' ∧ Below lo w w' := by
  have hlo : lo ≤ w.heap.size := hT.lo_le
  have HLO := Lib.hid hlo
  have fr := Fap.refl gt w
  have HR := Lib.hid hr
  clear hr
  have bel := Below.refl lo w
  go_enter Try.func15, Try.ntmps15
  go_wp2_with (first | ((with_reducible show wpList _ _ _ (⟨some 4, _, _, _, _, _⟩ :: _) _ _); refine wpList_box_n rfl 28 (.tmp 1) rfl #[.int .u8 (a.a.toNat : Int), .int .u8 (a.b.toNat : Int), .int .u8 (a.c.toNat : Int), .int .u8 (a.d.toNat : Int)] rfl ?_; intro g4 w1 ge lt hh bb; have ap_ab := hT.ap ge; have oab := Nat.le_trans (Nat.le_trans hlo bel.size) ge; have pn_ab := Nat.le_trans bel.size ge; replace fr := fr.below bb; replace hT := hT.below bb; replace ap_ab := ap_ab.below bb; replace bel := bel.trans (bb.mono (Nat.le_trans hlo bel.size)); have hab := hh; clear hh lt ge bb) | ((with_reducible show wpList _ _ _ (⟨some 5, _, _, _, _, _⟩ :: _) _ _); refine wpList_box_n rfl 3 (.tmp 2) rfl #[.int .i64 kp] rfl ?_; intro g5 w2 ge lt hh bb; have ap_kb := hT.ap ge; have d_ab_kb := ne_new (hlt hab) ge; have okb := Nat.le_trans (Nat.le_trans hlo bel.size) ge; have pn_kb := Nat.le_trans bel.size ge; replace hab := blk_u hab bb; replace fr := fr.below bb; replace hT := hT.below bb; replace ap_ab := ap_ab.below bb; replace ap_kb := ap_kb.below bb; replace bel := bel.trans (bb.mono (Nat.le_trans hlo bel.size)); have hkb := hh; clear hh lt ge bb))
  with_reducible refine (rem_p _ hT hab ap_ab hkb ap_kb HR.out).mono ?_
  rintro e w3 ⟨rfl, hT_, f_, bb⟩
  have x_ := f_ _ _ _ _ hab ap_ab
  replace hab := x_.1
  replace ap_ab := x_.2
  clear x_
  have x_ := f_ _ _ _ _ hkb ap_kb
  replace hkb := x_.1
  replace ap_kb := x_.2
  clear x_
  replace fr := fr.trans f_
  clear hT
  have hT := hT_
  replace bel := bel.trans bb
  clear bb f_ hT_
  go_wp2_with fail
  go_ret
  exact ⟨rfl, hT, fr, bel⟩
set_option linter.unusedVariables false in
set_option linter.unusedSimpArgs false in
set_option maxRecDepth 100000 in
set_option maxHeartbeats 16000000 in
theorem tclear {lo gt : Nat} {lw rm now : Int} {l : List Mp} {kp : Int} {r : Int} (w : World) (hT : Tp lo gt w ⟨lw, rm, now, l, []⟩) (hr : (l.length : Int) - ((l.filter (fun e => !clrB kp e)).length : Int) = r) : Calls Try.prog 20 #[.pointer (some ⟨gt, 0, none⟩), .int .i64 kp] w fun e w' => e = .returned (.int .i64 r) ∧ Tp lo gt w' ⟨lw, rm, now, l.filter (fun e => !clrB kp e), []⟩ ∧ Fap gt w w' ∧ Below lo w w' := by
  have hlo : lo ≤ w.heap.size := hT.lo_le
  have HLO := Lib.hid hlo
  have fr := Fap.refl gt w
  have HR := Lib.hid hr
  clear hr
  have bel := Below.refl lo w
  go_enter Try.func20, Try.ntmps20
  go_wp2_with (first | ((with_reducible show wpList _ _ _ (⟨some 3, _, _, _, _, _⟩ :: _) _ _); refine wpList_box_n rfl 3 (.tmp 1) rfl #[.int .i64 kp] rfl ?_; intro g3 w1 ge lt hh bb; have ap_kb := hT.ap ge; have okb := Nat.le_trans (Nat.le_trans hlo bel.size) ge; have pn_kb := Nat.le_trans bel.size ge; replace fr := fr.below bb; replace hT := hT.below bb; replace ap_kb := ap_kb.below bb; replace bel := bel.trans (bb.mono (Nat.le_trans hlo bel.size)); have hkb := hh; clear hh lt ge bb))
  with_reducible refine (rem_c _ hT hkb ap_kb HR.out).mono ?_
  rintro e w2 ⟨rfl, hT_, f_, bb⟩
  have x_ := f_ _ _ _ _ hkb ap_kb
  replace hkb := x_.1
  replace ap_kb := x_.2
  clear x_
  replace fr := fr.trans f_
  clear hT
  have hT := hT_
  replace bel := bel.trans bb
  clear bb f_ hT_
  go_wp2_with fail
  go_ret
  exact ⟨rfl, hT, fr, bel⟩
set_option linter.unusedVariables false in
set_option linter.unusedSimpArgs false in
set_option maxRecDepth 100000 in
set_option maxHeartbeats 16000000 in
theorem tdrop_yes {lo gt : Nat} {lw rm now : Int} {l os : List Mp} {p o kd : Int} {i : Nat} {x : Mp} (w : World) (hT : Tp lo gt w ⟨lw, rm, now, l, os⟩) (hpo : okP p o) (hf : mfhas l (kn p o) = true) (hq : mfpos l (kn p o) = i) (hx : l[i]? = some x) (hk : (x.k == kd) = true) : Calls Try.prog 16 #[.pointer (some ⟨gt, 0, none⟩), .int .i64 p, .int .i64 o, .int .i64 kd] w fun e w' => e = .returned (.bool true) ∧ Tp lo gt w' ⟨lw, rm, now, l.eraseIdx i, os⟩ ∧ Fap gt w w' ∧ Below lo w w' := by
  have hlo : lo ≤ w.heap.size := hT.lo_le
  have HLO := Lib.hid hlo
  obtain ⟨A, n, c, mb, htb, otb, hM, own, hok⟩ := hT
  dsimp only at htb hM own
  have off_tb := ofs_type own htb (by decide)
  have hl := row_len (by decide) mpE_len own
  have HLL := Lib.hid hl
  have HOK := Lib.hid hok
  have H32 : Hid (n ≤ 1000) := Lib.hid (by have h1_ := hok.len; have h2_ := hok.r1; simp only at h1_ h2_; omega)
  have H128 : Hid (n ≤ 128) := Lib.hid (by have h1_ := hok.len; have h2_ := hok.r1; simp only at h1_ h2_; omega)
  clear hl hok
  have fo := Fo.refl htb
  have hin_ : i < n := by have h1_ := (List.getElem?_eq_some_iff.1 hx).1; have h2_ := HLL.out; omega
  have i0 : (0 : Int) ≤ i := by omega
  have i1 : (i : Int) < n := by omega
  obtain ⟨gE, rfl, _⟩ := row_at own (by omega)
  have en := (owk_sle (by decide) mpE_len own).1
  have av_en_tb := owk_av own off_tb
  clear hin_
  have HX := Lib.hid hx
  have HPO := Lib.hid hpo
  have HQ := Lib.hid hq
  have HF := Lib.hid hf
  clear hx hpo hq hf
  have HIN : Hid (i < n) := Lib.hid (by omega)
  have hw1 : IntKind.i64.wrap ((i : Int) + 1) = (i : Int) + 1 := IntWalk.i64_in _ (by have := H128.out; omega)
  have HOK2 := Lib.hid (HOK.out.era i)
  have bel := Below.refl lo w
  go_enter Try.func16, Try.ntmps16
  go_wp2_with (first | ((with_reducible show wpList _ _ _ (⟨some 9, _, _, _, _, _⟩ :: _) _ _); refine wpList_new_a rfl 61 rfl #[.int .i64 0, .int .i64 0] (by kernel_rfl) ?_; intro g9 w1 ge hh bb; have d_tb_pB := ne_new (hlt htb) ge; have av_en_pB := en.av_new ge; have opB := Nat.le_trans (Nat.le_trans hlo bel.size) ge; have off_pB := owk_new own ge; have pn_pB := Nat.le_trans bel.size ge; replace htb := blk_u htb bb; replace en := en.below bb; replace own := owk_under own bb; replace fo := fo.below bb; replace hM := hM.below bb; replace bel := bel.trans (bb.mono (Nat.le_trans hlo bel.size)); have hpB := hh; clear hh ge bb) | ((with_reducible show wpList _ _ _ (⟨none, Op.store _ (.tmp 9) _, _, _, _, _⟩ :: _) _ _); refine wpList_store_blk rfl 61 (.tmp 9) (.tmp 16) rfl g9 rfl _ rfl _ 61 hpB (by rfl) (by kernel_rfl) (by kernel_rfl) ?_; intro w2 hq gr; replace en := en.away av_en_pB gr; replace htb := blk_a htb gr d_tb_pB; replace own := owk_off own off_pB gr; replace fo := fo.newer gr pn_pB; replace hM := hM.grown gr hpB; replace bel := below_grown bel gr opB (Nat.le_trans hlo bel.size); clear hpB; have hpB := hq; clear hq gr; have R19 := Lib.hid (range_lit hpB 0 2 [.int .i64 p, .int .i64 o] rfl)) | ((with_reducible show wpList _ _ _ (⟨some 19, _, _, _, _, _⟩ :: _) _ _); refine wpList_load_rng 61 (.tmp 9) rfl (by kernel_rfl) _ _ rfl _ R19.out _ Try.underlying61 rfl (by kernel_rfl) ?_))
  try clear R19
  with_reducible refine (mfind_is p o _ htb en HOK.out.srt HOK.out.okp HPO.out H32.out HQ.out HF.out).mono ?_
  rintro e w3 ⟨rfl, b3⟩
  replace htb := blk_u htb b3
  replace hpB := blk_u hpB b3
  replace en := en.below b3
  replace own := owk_under own b3
  replace fo := fo.below b3
  replace hM := hM.below b3
  replace bel := bel.trans (b3.mono (Nat.le_trans hlo bel.size))
  clear b3
  have R28 := cell_lit htb 3 _ rfl
  have R32 := Sle.zcell en HX.out 7 _ rfl
  have R40 := cell_lit htb 3 _ rfl
  go_wp2_with fail
  clear R28 R32 R40
  with_reducible refine (mp_delete _ own HIN.out).mono ?_
  rintro e w4 ⟨m, hmn, rfl, own_, gw⟩
  replace bel := bel.trans (row_bel gw own (Nat.le_trans hlo bel.size))
  replace htb := blk_own (v := .slice (some ⟨gE, 0, none⟩) n c) htb gw off_tb
  replace hpB := blk_own (v := .slice (some ⟨gE, 0, none⟩) n c) hpB gw off_pB
  replace fo := fo.row gw (fun _ _ h => h)
  replace hM := hM.row gw own
  clear own
  have own := own_
  clear own_ gw
  clear hmn
  clear en
  go_wp2_with (first | ((with_reducible show wpList _ _ _ (⟨none, Op.store _ (.tmp 46) _, _, _, _, _⟩ :: _) _ _); refine wpList_store_part rfl 37 (.tmp 46) (.tmp 44) rfl gt 3 rfl [.slice (some ⟨gE, 0, none⟩) m c] rfl [.int .i64 lw, .int .i64 rm, .int .i64 now, .slice (some ⟨gE, 0, none⟩) n c, .map (some mb)] 55 htb (by simp) [.int .i64 lw, .int .i64 rm, .int .i64 now, .slice (some ⟨gE, 0, none⟩) m c, .map (some mb)] rfl (by kernel_rfl) (by rfl) ?_; intro w5 hq gr; replace hpB := blk_a hpB gr (ne_symm d_tb_pB); replace own := owk_off own off_tb gr; replace fo := fo.tb gr; replace hM := hM.grown gr htb; replace bel := below_grown bel gr otb (Nat.le_trans hlo bel.size); clear htb; have htb := hq; clear hq gr))
  go_ret
  exact ⟨rfl, ⟨(some ⟨gE, 0, none⟩), m, c, mb, htb, otb, hM, own, HOK2.out⟩, (show Fo gt w _ (.slice (some ⟨gE, 0, none⟩) m c) from fo).fr htb, bel⟩
set_option linter.unusedVariables false in
set_option linter.unusedSimpArgs false in
set_option maxRecDepth 100000 in
set_option maxHeartbeats 16000000 in
theorem tdrop_no {lo gt : Nat} {lw rm now : Int} {l os : List Mp} {p o kd : Int} {i : Nat} {x : Mp} (w : World) (hT : Tp lo gt w ⟨lw, rm, now, l, os⟩) (hpo : okP p o) (hf : mfhas l (kn p o) = true) (hq : mfpos l (kn p o) = i) (hx : l[i]? = some x) (hk : (x.k == kd) = false) (hfo : ofind os (kn p o) = none) : Calls Try.prog 16 #[.pointer (some ⟨gt, 0, none⟩), .int .i64 p, .int .i64 o, .int .i64 kd] w fun e w' => e = .returned (.bool false) ∧ Tp lo gt w' ⟨lw, rm, now, l, os⟩ ∧ Fap gt w w' ∧ Below lo w w' := by
  have hlo : lo ≤ w.heap.size := hT.lo_le
  have HLO := Lib.hid hlo
  obtain ⟨A, n, c, mb, htb, otb, hM, own, hok⟩ := hT
  dsimp only at htb hM own
  have off_tb := ofs_type own htb (by decide)
  have hl := row_len (by decide) mpE_len own
  have HLL := Lib.hid hl
  have HOK := Lib.hid hok
  have H32 : Hid (n ≤ 1000) := Lib.hid (by have h1_ := hok.len; have h2_ := hok.r1; simp only at h1_ h2_; omega)
  have H128 : Hid (n ≤ 128) := Lib.hid (by have h1_ := hok.len; have h2_ := hok.r1; simp only at h1_ h2_; omega)
  clear hl hok
  have fo := Fo.refl htb
  have hin_ : i < n := by have h1_ := (List.getElem?_eq_some_iff.1 hx).1; have h2_ := HLL.out; omega
  have i0 : (0 : Int) ≤ i := by omega
  have i1 : (i : Int) < n := by omega
  obtain ⟨gE, rfl, _⟩ := row_at own (by omega)
  have en := (owk_sle (by decide) mpE_len own).1
  have av_en_tb := owk_av own off_tb
  clear hin_
  have HX := Lib.hid hx
  have HPO := Lib.hid hpo
  have HQ := Lib.hid hq
  have HF := Lib.hid hf
  clear hx hpo hq hf
  have HFO := Lib.hid hfo
  clear hfo
  have bel := Below.refl lo w
  go_enter Try.func16, Try.ntmps16
  go_wp2_with (first | ((with_reducible show wpList _ _ _ (⟨some 9, _, _, _, _, _⟩ :: _) _ _); refine wpList_new_a rfl 61 rfl #[.int .i64 0, .int .i64 0] (by kernel_rfl) ?_; intro g9 w1 ge hh bb; have d_tb_pB := ne_new (hlt htb) ge; have av_en_pB := en.av_new ge; have opB := Nat.le_trans (Nat.le_trans hlo bel.size) ge; have off_pB := owk_new own ge; have pn_pB := Nat.le_trans bel.size ge; replace htb := blk_u htb bb; replace en := en.below bb; replace own := owk_under own bb; replace fo := fo.below bb; replace hM := hM.below bb; replace bel := bel.trans (bb.mono (Nat.le_trans hlo bel.size)); have hpB := hh; clear hh ge bb) | ((with_reducible show wpList _ _ _ (⟨none, Op.store _ (.tmp 9) _, _, _, _, _⟩ :: _) _ _); refine wpList_store_blk rfl 61 (.tmp 9) (.tmp 16) rfl g9 rfl _ rfl _ 61 hpB (by rfl) (by kernel_rfl) (by kernel_rfl) ?_; intro w2 hq gr; replace en := en.away av_en_pB gr; replace htb := blk_a htb gr d_tb_pB; replace own := owk_off own off_pB gr; replace fo := fo.newer gr pn_pB; replace hM := hM.grown gr hpB; replace bel := below_grown bel gr opB (Nat.le_trans hlo bel.size); clear hpB; have hpB := hq; clear hq gr; have R19 := Lib.hid (range_lit hpB 0 2 [.int .i64 p, .int .i64 o] rfl)) | ((with_reducible show wpList _ _ _ (⟨some 19, _, _, _, _, _⟩ :: _) _ _); refine wpList_load_rng 61 (.tmp 9) rfl (by kernel_rfl) _ _ rfl _ R19.out _ Try.underlying61 rfl (by kernel_rfl) ?_))
  try clear R19
  with_reducible refine (mfind_is p o _ htb en HOK.out.srt HOK.out.okp HPO.out H32.out HQ.out HF.out).mono ?_
  rintro e w3 ⟨rfl, b3⟩
  replace htb := blk_u htb b3
  replace hpB := blk_u hpB b3
  replace en := en.below b3
  replace own := owk_under own b3
  replace fo := fo.below b3
  replace hM := hM.below b3
  replace bel := bel.trans (b3.mono (Nat.le_trans hlo bel.size))
  clear b3
  have R28 := cell_lit htb 3 _ rfl
  have R32 := Sle.zcell en HX.out 7 _ rfl
  go_wp2_with fail
  clear R28 R32
  replace bel := bel.drew
  replace htb : w3.drew.heap[gt]? = _ := htb
  replace hpB : w3.drew.heap[g9]? = _ := hpB
  replace en := en.drew
  replace own := World.ownsRow.drew own
  replace fo := fo_drew fo
  replace hM := om_drew hM
  refine wp_region_held_drew (S := fun W => W.heap[gt]? = some (.cells #[.int .i64 lw, .int .i64 rm, .int .i64 now, .slice (some ⟨gE, 0, none⟩) n c, .map (some mb)] 55 (0, 0)) ∧ W.heap[g9]? = some (.cells #[.int .i64 p, .int .i64 o] 61 (0, 0)) ∧ Om lo mb W os) (by kernel_rfl) ⟨htb, hpB, hM⟩ (fun hH => ?_)
  generalize w3.drew = w4 at bel htb hpB en own fo hM hH ⊢
  refine wpAnyH_take (i := 0) (v := ?_) rfl (by kernel_rfl) (by kernel_rfl) (by kernel_rfl) (fun _ _ _ h => h) (Or.inl ⟨by rfl, ?_⟩) hH ?_
  rotate_left
  · ((intro W hW; clear hW; go_simp) <;> with_reducible rfl)
  simp only [Act.put, List.getElem_toArray, List.getElem_cons_zero, List.setIfInBounds_toArray, List.set_cons_zero, List.set_cons_succ]
  refine wpAnyH_take (i := 1) (v := ?_) rfl (by kernel_rfl) (by kernel_rfl) (by kernel_rfl) (fun _ _ _ h => h) (Or.inl ⟨by rfl, ?_⟩) hH ?_
  rotate_left
  · ((intro W hW; clear hW; go_simp) <;> with_reducible rfl)
  simp only [Act.put, List.getElem_toArray, List.getElem_cons_zero, List.getElem_cons_succ, List.setIfInBounds_toArray, List.set_cons_zero, List.set_cons_succ]
  refine wpAnyH_take (i := 2) (v := ?_) rfl (by kernel_rfl) (by kernel_rfl) (by kernel_rfl) (fun _ _ _ h => h) (Or.inl ⟨by rfl, ?_⟩) hH ?_
  rotate_left
  · ((intro W hW; clear hW; go_simp) <;> with_reducible rfl)
  simp only [Act.put, List.getElem_toArray, List.getElem_cons_zero, List.getElem_cons_succ, List.setIfInBounds_toArray, List.set_cons_zero, List.set_cons_succ]
  refine wpAnyH_take (i := 3) (v := ?_) rfl (by kernel_rfl) (by kernel_rfl) (by kernel_rfl) (fun _ _ _ h => h) (Or.inl ⟨by rfl, ?_⟩) hH ?_
  rotate_left
  · ((intro W hW; have hk := cell_lit (hW.1) 4 _ rfl; clear hW; go_simp) <;> with_reducible rfl)
  simp only [Act.put, List.getElem_toArray, List.getElem_cons_zero, List.getElem_cons_succ, List.setIfInBounds_toArray, List.set_cons_zero, List.set_cons_succ]
  refine wpAnyH_take (i := 4) (v := .agg #[.int .i64 p, .int .i64 o]) rfl (by kernel_rfl) (by kernel_rfl) (by kernel_rfl) (fun _ _ _ h => h) (yieldsIf_load_part (by kernel_rfl) 61 _ rfl g9 0 2 rfl _ 61 (0, 0) (fun W hW => hW.2.1) _ rfl _ Try.underlying61 rfl (by kernel_rfl)) hH ?_
  simp only [Act.put, List.getElem_toArray, List.getElem_cons_zero, List.getElem_cons_succ, List.setIfInBounds_toArray, List.set_cons_zero, List.set_cons_succ]
  refine wpAnyH_take (i := 5) (v := ?_) rfl (by kernel_rfl) (by kernel_rfl) (by kernel_rfl) (fun _ _ _ h => h) (Or.inl ⟨by rfl, ?_⟩) hH ?_
  rotate_left
  · ((intro W hW; have hk := (by have h_ := ((hW.2.2)).look HPO.out; rw [HFO.out] at h_; exact h_ : (Instr.lookup 53 (.map (some mb)) (.agg #[.int .i64 p, .int .i64 o]) true).run Try.prog W = .ok (.tuple #[.agg #[.int .i64 0, .int .i64 0, .int .u8 0, .int .u8 0, .int .u8 0, .int .u8 0, .int .i64 0, .int .i64 0, .int .i64 0], .bool false]) W); clear hW; go_simp) <;> with_reducible rfl)
  simp only [Act.put, List.getElem_toArray, List.getElem_cons_zero, List.getElem_cons_succ, List.setIfInBounds_toArray, List.set_cons_zero, List.set_cons_succ]
  refine wpAnyH_take (i := 6) (v := ?_) rfl (by kernel_rfl) (by kernel_rfl) (by kernel_rfl) (fun _ _ _ h => h) (Or.inl ⟨by rfl, ?_⟩) hH ?_
  rotate_left
  · ((intro W hW; clear hW; go_simp) <;> with_reducible rfl)
  simp only [Act.put, List.getElem_toArray, List.getElem_cons_zero, List.getElem_cons_succ, List.setIfInBounds_toArray, List.set_cons_zero, List.set_cons_succ]
  refine wpAnyH_take (i := 7) (v := ?_) rfl (by kernel_rfl) (by kernel_rfl) (by kernel_rfl) (fun _ _ _ h => h) (Or.inl ⟨by rfl, ?_⟩) hH ?_
  rotate_left
  · ((intro W hW; clear hW; go_simp) <;> with_reducible rfl)
  simp only [Act.put, List.getElem_toArray, List.getElem_cons_zero, List.getElem_cons_succ, List.setIfInBounds_toArray, List.set_cons_zero, List.set_cons_succ]
  refine wpAnyH_take (i := 8) (v := ?_) rfl (by kernel_rfl) (by kernel_rfl) (by kernel_rfl) (fun _ _ _ h => h) (Or.inl ⟨by rfl, ?_⟩) hH ?_
  rotate_left
  · ((intro W hW; clear hW; go_simp) <;> with_reducible rfl)
  simp only [Act.put, List.getElem_toArray, List.getElem_cons_zero, List.getElem_cons_succ, List.setIfInBounds_toArray, List.set_cons_zero, List.set_cons_succ]
  refine wpAnyH_ready (rs := [9]) (by kernel_rfl) (by simp) ?_
  refine AllReadyH.cons (o := _) rfl (fun K hK => ?_) AllReadyH.nil
  simp only [List.getElem_toArray, List.getElem_cons_zero, List.getElem_cons_succ]
  rw [if_pos (by rfl)]
  refine wp_new_a 31 rfl #[.int .i64 0, .int .i64 0, .int .u8 0, .int .u8 0, .int .u8 0, .int .u8 0, .int .i64 0, .int .i64 0, .int .i64 0] (by kernel_rfl) ?_
  intro g12 w5 ge hh bb
  have d_tb_oB := ne_new (hlt htb) ge
  have d_pB_oB := ne_new (hlt hpB) ge
  have av_en_oB := en.av_new ge
  have ooB := Nat.le_trans (Nat.le_trans hlo bel.size) ge
  have off_oB := owk_new own ge
  have pn_oB := Nat.le_trans bel.size ge
  replace htb := blk_u htb bb
  replace hpB := blk_u hpB bb
  replace en := en.below bb
  replace own := owk_under own bb
  replace fo := fo.below bb
  replace hM := hM.below bb
  replace bel := bel.trans (bb.mono (Nat.le_trans hlo bel.size))
  have hoB := hh
  clear hh ge bb
  refine hK.out _ _ ⟨htb, hpB, hM⟩ (fun hH6 => ?_)
  clear hK K
  simp only [Act.put, List.setIfInBounds_toArray, List.set_cons_zero, List.set_cons_succ]
  refine wpAnyH_ready (rs := [10]) (by kernel_rfl) (by simp) ?_
  refine AllReadyH.cons (o := _) rfl (fun K hK => ?_) AllReadyH.nil
  simp only [List.getElem_toArray, List.getElem_cons_zero, List.getElem_cons_succ]
  rw [if_pos (by rfl)]
  refine wp_store_blk 31 (.tmp 12) (.tmp 54) rfl g12 rfl _ rfl _ 31 hoB (by rfl) (by kernel_rfl) (by kernel_rfl) ?_
  intro w7 hq gr
  replace en := en.away av_en_oB gr
  replace htb := blk_a htb gr d_tb_oB
  replace hpB := blk_a hpB gr d_pB_oB
  replace own := owk_off own off_oB gr
  replace fo := fo.newer gr pn_oB
  replace hM := hM.grown gr hoB
  replace bel := below_grown bel gr ooB (Nat.le_trans hlo bel.size)
  clear hoB
  have hoB := hq
  clear hq gr
  refine hK.out _ _ ⟨htb, hpB, hM⟩ (fun hH8 => ?_)
  clear hK K
  simp only [Act.put]
  refine wpAnyH_take (i := 11) (v := ?_) rfl (by kernel_rfl) (by kernel_rfl) (by kernel_rfl) (fun _ _ _ h => h) (Or.inl ⟨by rfl, ?_⟩) hH8 ?_
  rotate_left
  · ((intro W hW; clear hW; go_simp) <;> with_reducible rfl)
  simp only [Act.put, List.getElem_toArray, List.getElem_cons_zero, List.getElem_cons_succ, List.setIfInBounds_toArray, List.set_cons_zero, List.set_cons_succ]
  refine wpAnyH_done (by kernel_rfl) ?_ _
  go_wp2_with fail
  go_ret
  exact ⟨rfl, ⟨(some ⟨gE, 0, none⟩), n, c, mb, htb, otb, hM, own, HOK.out⟩, fo.fr htb, bel⟩
end Go.Proofs.Ytmjmjfcdblapcaa
