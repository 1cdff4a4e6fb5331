/- New, Put, Make, In, Len, All over the table's predicate. -/
import Derived.Test.YtmjmjfcdblapcaaPt7
namespace Go.Proofs.Ytmjmjfcdblapcaa
open Go.RowKit

/-- What freeOut answers. -/
def FoP (lw : Int) (l : List Mp) (pr : Int) (ad : Ad4) (p q : Int) (b : Bool) : Prop := ∀ (W : World) (lo gt mb n c : Nat) (A : Option Addr) (rm now : Int), W.heap[gt]? = some (.cells #[.int .i64 lw, .int .i64 rm, .int .i64 now, .slice A n c, .map (some mb)] 55 (0, 0)) → W.ownsRow lo 31 9 (.slice A n c) n (l.flatMap mpE) → n ≤ 1000 → Calls Try.prog 32 #[.pointer (some ⟨gt, 0, none⟩), .agg #[.int .i64 pr, .int .u8 (ad.a.toNat : Int), .int .u8 (ad.b.toNat : Int), .int .u8 (ad.c.toNat : Int), .int .u8 (ad.d.toNat : Int), .int .i64 p]] W fun e w' => e = .returned (.tuple #[.int .i64 q, .bool b]) ∧ Below W.heap.size W w'
set_option linter.unusedVariables false in
set_option linter.unusedSimpArgs false in
set_option maxRecDepth 100000 in
set_option maxHeartbeats 16000000 in
theorem tput_1 {lo gt : Nat} {s : Ts} {lw rm now : Int} {l os : List Mp} {m : Mp} (t : Int) (w : World) (hT : Tp lo gt w s) (ha : s.adv t = ⟨lw, rm, now, l, os⟩) (hpm : permB m = false) : Calls Try.prog 12 #[.pointer (some ⟨gt, 0, none⟩), .agg #[.int .i64 m.pr, .int .i64 m.o, .int .u8 (m.ad.a.toNat : Int), .int .u8 (m.ad.b.toNat : Int), .int .u8 (m.ad.c.toNat : Int), .int .u8 (m.ad.d.toNat : Int), .int .i64 m.i, .int .i64 m.k, .int .i64 m.u], .int .i64 t] w fun e w' => e = .returned (.int .i64 1) ∧ Tp lo gt w' ⟨lw, rm, now, l, os⟩ ∧ Fap gt w w' ∧ Below lo w w' := by
  have hlo : lo ≤ w.heap.size := hT.lo_le
  have HLO := Lib.hid hlo
  have fr := Fap.refl gt w
  have HPM := Lib.hid hpm
  clear hpm
  have bel := Below.refl lo w
  go_enter Try.func12, Try.ntmps12
  go_wp2_with (first | ((with_reducible show wpList _ _ _ (⟨some 4, _, _, _, _, _⟩ :: _) _ _); refine wpList_box_n rfl 31 (.tmp 1) rfl #[.int .i64 m.pr, .int .i64 m.o, .int .u8 (m.ad.a.toNat : Int), .int .u8 (m.ad.b.toNat : Int), .int .u8 (m.ad.c.toNat : Int), .int .u8 (m.ad.d.toNat : Int), .int .i64 m.i, .int .i64 m.k, .int .i64 m.u] rfl ?_; intro g4 w1 ge lt hh bb; have ap_mB := hT.ap ge; have omB := Nat.le_trans (Nat.le_trans hlo bel.size) ge; have pn_mB := Nat.le_trans bel.size ge; replace fr := fr.below bb; replace hT := hT.below bb; replace ap_mB := ap_mB.below bb; replace bel := bel.trans (bb.mono (Nat.le_trans hlo bel.size)); have hmB := hh; clear hh lt ge bb))
  with_reducible refine (tadv_any _ _ hT ha).mono ?_
  rintro e w2 ⟨rfl, hT_, f_, bb⟩
  have x_ := f_ _ _ _ _ hmB ap_mB
  replace hmB := x_.1
  replace ap_mB := x_.2
  clear x_
  replace fr := fr.trans f_
  clear hT
  have hT := hT_
  replace bel := bel.trans bb
  clear bb f_ hT_
  obtain ⟨A, n, c, mb, htb, otb, hM, own, hok⟩ := hT
  dsimp only at htb hM own
  have off_tb := ofs_type own htb (by decide)
  have hl := row_len (by decide) mpE_len own
  have HLL := Lib.hid hl
  have HOK := Lib.hid hok
  have H32 : Hid (n ≤ 1000) := Lib.hid (by have h1_ := hok.len; have h2_ := hok.r1; simp only at h1_ h2_; omega)
  have H128 : Hid (n ≤ 128) := Lib.hid (by have h1_ := hok.len; have h2_ := hok.r1; simp only at h1_ h2_; omega)
  clear hl hok
  have fo := fr.fo htb
  clear fr
  have off_mB := ap_mB.ofs htb
  have d_mB_tb := Lib.hid ap_mB.1
  clear ap_mB
  go_wp2_with fail
  replace bel := bel.drew
  replace hmB : w2.drew.heap[g4]? = _ := hmB
  replace htb : w2.drew.heap[gt]? = _ := htb
  replace own := World.ownsRow.drew own
  replace fo := fo_drew fo
  replace hM := om_drew hM
  refine wp_region_held_drew (S := fun W => W.heap[g4]? = some (.cells #[.int .i64 m.pr, .int .i64 m.o, .int .u8 (m.ad.a.toNat : Int), .int .u8 (m.ad.b.toNat : Int), .int .u8 (m.ad.c.toNat : Int), .int .u8 (m.ad.d.toNat : Int), .int .i64 m.i, .int .i64 m.k, .int .i64 m.u] 31 (0, 0)) ∧ W.heap[gt]? = some (.cells #[.int .i64 lw, .int .i64 rm, .int .i64 now, .slice A n c, .map (some mb)] 55 (0, 0))) (by kernel_rfl) ⟨hmB, htb⟩ (fun hH => ?_)
  generalize w2.drew = w3 at bel hmB htb own fo hM hH ⊢
  refine wpAnyH_take (i := 0) (v := .agg #[.int .i64 m.pr, .int .i64 m.o, .int .u8 (m.ad.a.toNat : Int), .int .u8 (m.ad.b.toNat : Int), .int .u8 (m.ad.c.toNat : Int), .int .u8 (m.ad.d.toNat : Int), .int .i64 m.i, .int .i64 m.k, .int .i64 m.u]) rfl (by kernel_rfl) (by kernel_rfl) (by kernel_rfl) (fun _ _ _ h => h) (yieldsIf_load_part (by kernel_rfl) 31 _ rfl g4 0 9 rfl _ 31 (0, 0) (fun W hW => hW.1) _ rfl _ Try.underlying31 rfl (by kernel_rfl)) hH ?_
  simp only [Act.put, List.getElem_toArray, List.getElem_cons_zero, List.setIfInBounds_toArray, List.set_cons_zero, List.set_cons_succ]
  refine wpAnyH_ready (rs := [1]) (by kernel_rfl) (by simp) ?_
  refine AllReadyH.cons (o := _) rfl (fun K hK => ?_) AllReadyH.nil
  simp only [List.getElem_toArray, List.getElem_cons_zero, List.getElem_cons_succ]
  go_simp
  with_reducible refine (perm_any _ HPM.out).mono ?_
  rintro e w4 ⟨rfl, b4⟩
  dsimp only
  replace hmB := blk_u hmB b4
  replace htb := blk_u htb b4
  replace own := owk_under own b4
  replace fo := fo.below b4
  replace hM := hM.below b4
  replace bel := bel.trans (b4.mono (Nat.le_trans hlo bel.size))
  clear b4
  refine hK.out _ _ ⟨hmB, htb⟩ (fun hH5 => ?_)
  clear hK K
  refine wpAnyH_take (i := 2) (v := ?_) rfl (by kernel_rfl) (by kernel_rfl) (by kernel_rfl) (fun _ _ _ h => h) (Or.inl ⟨by rfl, ?_⟩) hH5 ?_
  rotate_left
  · ((intro W hW; clear hW; go_simp) <;> with_reducible rfl)
  simp only [Act.put, List.getElem_toArray, List.getElem_cons_zero, List.getElem_cons_succ, List.setIfInBounds_toArray, List.set_cons_zero, List.set_cons_succ]
  refine wpAnyH_take (i := 3) (v := ?_) rfl (by kernel_rfl) (by kernel_rfl) (by kernel_rfl) (fun _ _ _ h => h) (Or.inl ⟨by rfl, ?_⟩) hH5 ?_
  rotate_left
  · ((intro W hW; clear hW; go_simp) <;> with_reducible rfl)
  simp only [Act.put, List.getElem_toArray, List.getElem_cons_zero, List.getElem_cons_succ, List.setIfInBounds_toArray, List.set_cons_zero, List.set_cons_succ]
  refine wpAnyH_take (i := 4) (v := undef) rfl (by kernel_rfl) (by kernel_rfl) (by kernel_rfl) (fun _ _ _ h => h) (Or.inr ⟨by rfl, rfl⟩) hH5 ?_
  simp only [Act.put, List.getElem_toArray, List.getElem_cons_zero, List.getElem_cons_succ, List.setIfInBounds_toArray, List.set_cons_zero, List.set_cons_succ]
  refine wpAnyH_take (i := 5) (v := undef) rfl (by kernel_rfl) (by kernel_rfl) (by kernel_rfl) (fun _ _ _ h => h) (Or.inr ⟨by rfl, rfl⟩) hH5 ?_
  simp only [Act.put, List.getElem_toArray, List.getElem_cons_zero, List.getElem_cons_succ, List.setIfInBounds_toArray, List.set_cons_zero, List.set_cons_succ]
  refine wpAnyH_take (i := 6) (v := undef) rfl (by kernel_rfl) (by kernel_rfl) (by kernel_rfl) (fun _ _ _ h => h) (Or.inr ⟨by rfl, rfl⟩) hH5 ?_
  simp only [Act.put, List.getElem_toArray, List.getElem_cons_zero, List.getElem_cons_succ, List.setIfInBounds_toArray, List.set_cons_zero, List.set_cons_succ]
  refine wpAnyH_take (i := 7) (v := undef) rfl (by kernel_rfl) (by kernel_rfl) (by kernel_rfl) (fun _ _ _ h => h) (Or.inr ⟨by rfl, rfl⟩) hH5 ?_
  simp only [Act.put, List.getElem_toArray, List.getElem_cons_zero, List.getElem_cons_succ, List.setIfInBounds_toArray, List.set_cons_zero, List.set_cons_succ]
  refine wpAnyH_take (i := 8) (v := undef) rfl (by kernel_rfl) (by kernel_rfl) (by kernel_rfl) (fun _ _ _ h => h) (Or.inr ⟨by rfl, rfl⟩) hH5 ?_
  simp only [Act.put, List.getElem_toArray, List.getElem_cons_zero, List.getElem_cons_succ, List.setIfInBounds_toArray, List.set_cons_zero, List.set_cons_succ]
  refine wpAnyH_take (i := 9) (v := undef) rfl (by kernel_rfl) (by kernel_rfl) (by kernel_rfl) (fun _ _ _ h => h) (Or.inr ⟨by rfl, rfl⟩) hH5 ?_
  simp only [Act.put, List.getElem_toArray, List.getElem_cons_zero, List.getElem_cons_succ, List.setIfInBounds_toArray, List.set_cons_zero, List.set_cons_succ]
  refine wpAnyH_take (i := 10) (v := undef) rfl (by kernel_rfl) (by kernel_rfl) (by kernel_rfl) (fun _ _ _ h => h) (Or.inr ⟨by rfl, rfl⟩) hH5 ?_
  simp only [Act.put, List.getElem_toArray, List.getElem_cons_zero, List.getElem_cons_succ, List.setIfInBounds_toArray, List.set_cons_zero, List.set_cons_succ]
  refine wpAnyH_take (i := 11) (v := ?_) rfl (by kernel_rfl) (by kernel_rfl) (by kernel_rfl) (fun _ _ _ h => h) (Or.inl ⟨by rfl, ?_⟩) hH5 ?_
  rotate_left
  · ((intro W hW; clear hW; go_simp) <;> with_reducible rfl)
  simp only [Act.put, List.getElem_toArray, List.getElem_cons_zero, List.getElem_cons_succ, List.setIfInBounds_toArray, List.set_cons_zero, List.set_cons_succ]
  refine wpAnyH_done (by kernel_rfl) ?_ _
  go_wp2_with fail
  go_ret
  exact ⟨rfl, ⟨A, n, c, mb, htb, otb, hM, own, HOK.out⟩, fo.fr htb, bel⟩
set_option linter.unusedVariables false in
set_option linter.unusedSimpArgs false in
set_option maxRecDepth 100000 in
set_option maxHeartbeats 16000000 in
theorem tput_2 {lo gt : Nat} {s : Ts} {lw rm now : Int} {l os : List Mp} {m : Mp} (t : Int) (w : World) (hT : Tp lo gt w s) (ha : s.adv t = ⟨lw, rm, now, l, os⟩) (hpm : permB m = true) (hlv : liveB now m = false) : Calls Try.prog 12 #[.pointer (some ⟨gt, 0, none⟩), .agg #[.int .i64 m.pr, .int .i64 m.o, .int .u8 (m.ad.a.toNat : Int), .int .u8 (m.ad.b.toNat : Int), .int .u8 (m.ad.c.toNat : Int), .int .u8 (m.ad.d.toNat : Int), .int .i64 m.i, .int .i64 m.k, .int .i64 m.u], .int .i64 t] w fun e w' => e = .returned (.int .i64 1) ∧ Tp lo gt w' ⟨lw, rm, now, l, os⟩ ∧ Fap gt w w' ∧ Below lo w w' := by
  have hlo : lo ≤ w.heap.size := hT.lo_le
  have HLO := Lib.hid hlo
  have fr := Fap.refl gt w
  have HPM := Lib.hid hpm
  have HLV := Lib.hid hlv
  clear hpm hlv
  have bel := Below.refl lo w
  go_enter Try.func12, Try.ntmps12
  go_wp2_with (first | ((with_reducible show wpList _ _ _ (⟨some 4, _, _, _, _, _⟩ :: _) _ _); refine wpList_box_n rfl 31 (.tmp 1) rfl #[.int .i64 m.pr, .int .i64 m.o, .int .u8 (m.ad.a.toNat : Int), .int .u8 (m.ad.b.toNat : Int), .int .u8 (m.ad.c.toNat : Int), .int .u8 (m.ad.d.toNat : Int), .int .i64 m.i, .int .i64 m.k, .int .i64 m.u] rfl ?_; intro g4 w1 ge lt hh bb; have ap_mB := hT.ap ge; have omB := Nat.le_trans (Nat.le_trans hlo bel.size) ge; have pn_mB := Nat.le_trans bel.size ge; replace fr := fr.below bb; replace hT := hT.below bb; replace ap_mB := ap_mB.below bb; replace bel := bel.trans (bb.mono (Nat.le_trans hlo bel.size)); have hmB := hh; clear hh lt ge bb))
  with_reducible refine (tadv_any _ _ hT ha).mono ?_
  rintro e w2 ⟨rfl, hT_, f_, bb⟩
  have x_ := f_ _ _ _ _ hmB ap_mB
  replace hmB := x_.1
  replace ap_mB := x_.2
  clear x_
  replace fr := fr.trans f_
  clear hT
  have hT := hT_
  replace bel := bel.trans bb
  clear bb f_ hT_
  obtain ⟨A, n, c, mb, htb, otb, hM, own, hok⟩ := hT
  dsimp only at htb hM own
  have off_tb := ofs_type own htb (by decide)
  have hl := row_len (by decide) mpE_len own
  have HLL := Lib.hid hl
  have HOK := Lib.hid hok
  have H32 : Hid (n ≤ 1000) := Lib.hid (by have h1_ := hok.len; have h2_ := hok.r1; simp only at h1_ h2_; omega)
  have H128 : Hid (n ≤ 128) := Lib.hid (by have h1_ := hok.len; have h2_ := hok.r1; simp only at h1_ h2_; omega)
  clear hl hok
  have fo := fr.fo htb
  clear fr
  have off_mB := ap_mB.ofs htb
  have d_mB_tb := Lib.hid ap_mB.1
  clear ap_mB
  go_wp2_with fail
  replace bel := bel.drew
  replace hmB : w2.drew.heap[g4]? = _ := hmB
  replace htb : w2.drew.heap[gt]? = _ := htb
  replace own := World.ownsRow.drew own
  replace fo := fo_drew fo
  replace hM := om_drew hM
  refine wp_region_held_drew (S := fun W => W.heap[g4]? = some (.cells #[.int .i64 m.pr, .int .i64 m.o, .int .u8 (m.ad.a.toNat : Int), .int .u8 (m.ad.b.toNat : Int), .int .u8 (m.ad.c.toNat : Int), .int .u8 (m.ad.d.toNat : Int), .int .i64 m.i, .int .i64 m.k, .int .i64 m.u] 31 (0, 0)) ∧ W.heap[gt]? = some (.cells #[.int .i64 lw, .int .i64 rm, .int .i64 now, .slice A n c, .map (some mb)] 55 (0, 0))) (by kernel_rfl) ⟨hmB, htb⟩ (fun hH => ?_)
  generalize w2.drew = w3 at bel hmB htb own fo hM hH ⊢
  refine wpAnyH_take (i := 0) (v := .agg #[.int .i64 m.pr, .int .i64 m.o, .int .u8 (m.ad.a.toNat : Int), .int .u8 (m.ad.b.toNat : Int), .int .u8 (m.ad.c.toNat : Int), .int .u8 (m.ad.d.toNat : Int), .int .i64 m.i, .int .i64 m.k, .int .i64 m.u]) rfl (by kernel_rfl) (by kernel_rfl) (by kernel_rfl) (fun _ _ _ h => h) (yieldsIf_load_part (by kernel_rfl) 31 _ rfl g4 0 9 rfl _ 31 (0, 0) (fun W hW => hW.1) _ rfl _ Try.underlying31 rfl (by kernel_rfl)) hH ?_
  simp only [Act.put, List.getElem_toArray, List.getElem_cons_zero, List.setIfInBounds_toArray, List.set_cons_zero, List.set_cons_succ]
  refine wpAnyH_ready (rs := [1]) (by kernel_rfl) (by simp) ?_
  refine AllReadyH.cons (o := _) rfl (fun K hK => ?_) AllReadyH.nil
  simp only [List.getElem_toArray, List.getElem_cons_zero, List.getElem_cons_succ]
  go_simp
  with_reducible refine (perm_any _ HPM.out).mono ?_
  rintro e w4 ⟨rfl, b4⟩
  dsimp only
  replace hmB := blk_u hmB b4
  replace htb := blk_u htb b4
  replace own := owk_under own b4
  replace fo := fo.below b4
  replace hM := hM.below b4
  replace bel := bel.trans (b4.mono (Nat.le_trans hlo bel.size))
  clear b4
  refine hK.out _ _ ⟨hmB, htb⟩ (fun hH5 => ?_)
  clear hK K
  refine wpAnyH_take (i := 2) (v := ?_) rfl (by kernel_rfl) (by kernel_rfl) (by kernel_rfl) (fun _ _ _ h => h) (Or.inl ⟨by rfl, ?_⟩) hH5 ?_
  rotate_left
  · ((intro W hW; clear hW; go_simp) <;> with_reducible rfl)
  simp only [Act.put, List.getElem_toArray, List.getElem_cons_zero, List.getElem_cons_succ, List.setIfInBounds_toArray, List.set_cons_zero, List.set_cons_succ]
  refine wpAnyH_take (i := 3) (v := ?_) rfl (by kernel_rfl) (by kernel_rfl) (by kernel_rfl) (fun _ _ _ h => h) (Or.inl ⟨by rfl, ?_⟩) hH5 ?_
  rotate_left
  · ((intro W hW; clear hW; go_simp) <;> with_reducible rfl)
  simp only [Act.put, List.getElem_toArray, List.getElem_cons_zero, List.getElem_cons_succ, List.setIfInBounds_toArray, List.set_cons_zero, List.set_cons_succ]
  refine wpAnyH_take (i := 4) (v := .agg #[.int .i64 m.pr, .int .i64 m.o, .int .u8 (m.ad.a.toNat : Int), .int .u8 (m.ad.b.toNat : Int), .int .u8 (m.ad.c.toNat : Int), .int .u8 (m.ad.d.toNat : Int), .int .i64 m.i, .int .i64 m.k, .int .i64 m.u]) rfl (by kernel_rfl) (by kernel_rfl) (by kernel_rfl) (fun _ _ _ h => h) (yieldsIf_load_part (by kernel_rfl) 31 _ rfl g4 0 9 rfl _ 31 (0, 0) (fun W hW => hW.1) _ rfl _ Try.underlying31 rfl (by kernel_rfl)) hH5 ?_
  simp only [Act.put, List.getElem_toArray, List.getElem_cons_zero, List.getElem_cons_succ, List.setIfInBounds_toArray, List.set_cons_zero, List.set_cons_succ]
  refine wpAnyH_take (i := 5) (v := ?_) rfl (by kernel_rfl) (by kernel_rfl) (by kernel_rfl) (fun _ _ _ h => h) (Or.inl ⟨by rfl, ?_⟩) hH5 ?_
  rotate_left
  · ((intro W hW; clear hW; go_simp) <;> with_reducible rfl)
  simp only [Act.put, List.getElem_toArray, List.getElem_cons_zero, List.getElem_cons_succ, List.setIfInBounds_toArray, List.set_cons_zero, List.set_cons_succ]
  refine wpAnyH_take (i := 6) (v := ?_) rfl (by kernel_rfl) (by kernel_rfl) (by kernel_rfl) (fun _ _ _ h => h) (Or.inl ⟨by rfl, ?_⟩) hH5 ?_
  rotate_left
  · ((intro W hW; clear hW; go_simp) <;> with_reducible rfl)
  simp only [Act.put, List.getElem_toArray, List.getElem_cons_zero, List.getElem_cons_succ, List.setIfInBounds_toArray, List.set_cons_zero, List.set_cons_succ]
  refine wpAnyH_take (i := 7) (v := ?_) rfl (by kernel_rfl) (by kernel_rfl) (by kernel_rfl) (fun _ _ _ h => h) (Or.inl ⟨by rfl, ?_⟩) hH5 ?_
  rotate_left
  · ((intro W hW; clear hW; go_simp) <;> with_reducible rfl)
  simp only [Act.put, List.getElem_toArray, List.getElem_cons_zero, List.getElem_cons_succ, List.setIfInBounds_toArray, List.set_cons_zero, List.set_cons_succ]
  refine wpAnyH_take (i := 8) (v := ?_) rfl (by kernel_rfl) (by kernel_rfl) (by kernel_rfl) (fun _ _ _ h => h) (Or.inl ⟨by rfl, ?_⟩) hH5 ?_
  rotate_left
  · ((intro W hW; have hk := cell_lit (hW.2) 2 _ rfl; clear hW; go_simp) <;> with_reducible rfl)
  simp only [Act.put, List.getElem_toArray, List.getElem_cons_zero, List.getElem_cons_succ, List.setIfInBounds_toArray, List.set_cons_zero, List.set_cons_succ]
  refine wpAnyH_ready (rs := [9]) (by kernel_rfl) (by simp) ?_
  refine AllReadyH.cons (o := _) rfl (fun K hK => ?_) AllReadyH.nil
  simp only [List.getElem_toArray, List.getElem_cons_zero, List.getElem_cons_succ]
  go_simp
  with_reducible refine (live_any _ HLV.out).mono ?_
  rintro e w6 ⟨rfl, b6⟩
  dsimp only
  replace hmB := blk_u hmB b6
  replace htb := blk_u htb b6
  replace own := owk_under own b6
  replace fo := fo.below b6
  replace hM := hM.below b6
  replace bel := bel.trans (b6.mono (Nat.le_trans hlo bel.size))
  clear b6
  refine hK.out _ _ ⟨hmB, htb⟩ (fun hH7 => ?_)
  clear hK K
  refine wpAnyH_take (i := 10) (v := ?_) rfl (by kernel_rfl) (by kernel_rfl) (by kernel_rfl) (fun _ _ _ h => h) (Or.inl ⟨by rfl, ?_⟩) hH7 ?_
  rotate_left
  · ((intro W hW; clear hW; go_simp) <;> with_reducible rfl)
  simp only [Act.put, List.getElem_toArray, List.getElem_cons_zero, List.getElem_cons_succ, List.setIfInBounds_toArray, List.set_cons_zero, List.set_cons_succ]
  refine wpAnyH_take (i := 11) (v := ?_) rfl (by kernel_rfl) (by kernel_rfl) (by kernel_rfl) (fun _ _ _ h => h) (Or.inl ⟨by rfl, ?_⟩) hH7 ?_
  rotate_left
  · ((intro W hW; clear hW; go_simp) <;> with_reducible rfl)
  simp only [Act.put, List.getElem_toArray, List.getElem_cons_zero, List.getElem_cons_succ, List.setIfInBounds_toArray, List.set_cons_zero, List.set_cons_succ]
  refine wpAnyH_done (by kernel_rfl) ?_ _
  go_wp2_with fail
  go_ret
  exact ⟨rfl, ⟨A, n, c, mb, htb, otb, hM, own, HOK.out⟩, fo.fr htb, bel⟩
set_option linter.unusedVariables false in
set_option linter.unusedSimpArgs false in
set_option maxRecDepth 100000 in
set_option maxHeartbeats 16000000 in
theorem tput_full {lo gt : Nat} {s : Ts} {lw rm now : Int} {l os : List Mp} {m : Mp} (t : Int) (w : World) (hT : Tp lo gt w s) (ha : s.adv t = ⟨lw, rm, now, l, os⟩) (hpm : permB m = true) (hlv : liveB now m = true) (hf : mfhas l (kn m.pr m.o) = false) (hr : rm ≤ (l.length : Int)) : Calls Try.prog 12 #[.pointer (some ⟨gt, 0, none⟩), .agg #[.int .i64 m.pr, .int .i64 m.o, .int .u8 (m.ad.a.toNat : Int), .int .u8 (m.ad.b.toNat : Int), .int .u8 (m.ad.c.toNat : Int), .int .u8 (m.ad.d.toNat : Int), .int .i64 m.i, .int .i64 m.k, .int .i64 m.u], .int .i64 t] w fun e w' => e = .returned (.int .i64 7) ∧ Tp lo gt w' ⟨lw, rm, now, l, os⟩ ∧ Fap gt w w' ∧ Below lo w w' := by
  have hlo : lo ≤ w.heap.size := hT.lo_le
  have HLO := Lib.hid hlo
  have fr := Fap.refl gt w
  have HMO : Hid (okP m.pr m.o) := Lib.hid (permB_okp hpm)
  have HPM := Lib.hid hpm
  have HLV := Lib.hid hlv
  have HF := Lib.hid hf
  clear hpm hlv hf
  have bel := Below.refl lo w
  go_enter Try.func12, Try.ntmps12
  go_wp2_with (first | ((with_reducible show wpList _ _ _ (⟨some 4, _, _, _, _, _⟩ :: _) _ _); refine wpList_box_n rfl 31 (.tmp 1) rfl #[.int .i64 m.pr, .int .i64 m.o, .int .u8 (m.ad.a.toNat : Int), .int .u8 (m.ad.b.toNat : Int), .int .u8 (m.ad.c.toNat : Int), .int .u8 (m.ad.d.toNat : Int), .int .i64 m.i, .int .i64 m.k, .int .i64 m.u] rfl ?_; intro g4 w1 ge lt hh bb; have ap_mB := hT.ap ge; have omB := Nat.le_trans (Nat.le_trans hlo bel.size) ge; have pn_mB := Nat.le_trans bel.size ge; replace fr := fr.below bb; replace hT := hT.below bb; replace ap_mB := ap_mB.below bb; replace bel := bel.trans (bb.mono (Nat.le_trans hlo bel.size)); have hmB := hh; clear hh lt ge bb))
  with_reducible refine (tadv_any _ _ hT ha).mono ?_
  rintro e w2 ⟨rfl, hT_, f_, bb⟩
  have x_ := f_ _ _ _ _ hmB ap_mB
  replace hmB := x_.1
  replace ap_mB := x_.2
  clear x_
  replace fr := fr.trans f_
  clear hT
  have hT := hT_
  replace bel := bel.trans bb
  clear bb f_ hT_
  obtain ⟨A, n, c, mb, htb, otb, hM, own, hok⟩ := hT
  dsimp only at htb hM own
  have off_tb := ofs_type own htb (by decide)
  have hl := row_len (by decide) mpE_len own
  have HLL := Lib.hid hl
  have HOK := Lib.hid hok
  have H32 : Hid (n ≤ 1000) := Lib.hid (by have h1_ := hok.len; have h2_ := hok.r1; simp only at h1_ h2_; omega)
  have H128 : Hid (n ≤ 128) := Lib.hid (by have h1_ := hok.len; have h2_ := hok.r1; simp only at h1_ h2_; omega)
  clear hl hok
  have fo := fr.fo htb
  clear fr
  have HFU : Hid (rm ≤ (n : Int)) := Lib.hid (by rw [HLL.out] at hr; exact hr)
  clear hr
  have off_mB := ap_mB.ofs htb
  have d_mB_tb := Lib.hid ap_mB.1
  clear ap_mB
  go_wp2_with fail
  replace bel := bel.drew
  replace hmB : w2.drew.heap[g4]? = _ := hmB
  replace htb : w2.drew.heap[gt]? = _ := htb
  replace own := World.ownsRow.drew own
  replace fo := fo_drew fo
  replace hM := om_drew hM
  refine wp_region_held_drew (S := fun W => W.heap[g4]? = some (.cells #[.int .i64 m.pr, .int .i64 m.o, .int .u8 (m.ad.a.toNat : Int), .int .u8 (m.ad.b.toNat : Int), .int .u8 (m.ad.c.toNat : Int), .int .u8 (m.ad.d.toNat : Int), .int .i64 m.i, .int .i64 m.k, .int .i64 m.u] 31 (0, 0)) ∧ W.heap[gt]? = some (.cells #[.int .i64 lw, .int .i64 rm, .int .i64 now, .slice A n c, .map (some mb)] 55 (0, 0))) (by kernel_rfl) ⟨hmB, htb⟩ (fun hH => ?_)
  generalize w2.drew = w3 at bel hmB htb own fo hM hH ⊢
  refine wpAnyH_take (i := 0) (v := .agg #[.int .i64 m.pr, .int .i64 m.o, .int .u8 (m.ad.a.toNat : Int), .int .u8 (m.ad.b.toNat : Int), .int .u8 (m.ad.c.toNat : Int), .int .u8 (m.ad.d.toNat : Int), .int .i64 m.i, .int .i64 m.k, .int .i64 m.u]) rfl (by kernel_rfl) (by kernel_rfl) (by kernel_rfl) (fun _ _ _ h => h) (yieldsIf_load_part (by kernel_rfl) 31 _ rfl g4 0 9 rfl _ 31 (0, 0) (fun W hW => hW.1) _ rfl _ Try.underlying31 rfl (by kernel_rfl)) hH ?_
  simp only [Act.put, List.getElem_toArray, List.getElem_cons_zero, List.setIfInBounds_toArray, List.set_cons_zero, List.set_cons_succ]
  refine wpAnyH_ready (rs := [1]) (by kernel_rfl) (by simp) ?_
  refine AllReadyH.cons (o := _) rfl (fun K hK => ?_) AllReadyH.nil
  simp only [List.getElem_toArray, List.getElem_cons_zero, List.getElem_cons_succ]
  go_simp
  with_reducible refine (perm_any _ HPM.out).mono ?_
  rintro e w4 ⟨rfl, b4⟩
  dsimp only
  replace hmB := blk_u hmB b4
  replace htb := blk_u htb b4
  replace own := owk_under own b4
  replace fo := fo.below b4
  replace hM := hM.below b4
  replace bel := bel.trans (b4.mono (Nat.le_trans hlo bel.size))
  clear b4
  refine hK.out _ _ ⟨hmB, htb⟩ (fun hH5 => ?_)
  clear hK K
  refine wpAnyH_take (i := 2) (v := ?_) rfl (by kernel_rfl) (by kernel_rfl) (by kernel_rfl) (fun _ _ _ h => h) (Or.inl ⟨by rfl, ?_⟩) hH5 ?_
  rotate_left
  · ((intro W hW; clear hW; go_simp) <;> with_reducible rfl)
  simp only [Act.put, List.getElem_toArray, List.getElem_cons_zero, List.getElem_cons_succ, List.setIfInBounds_toArray, List.set_cons_zero, List.set_cons_succ]
  refine wpAnyH_take (i := 3) (v := ?_) rfl (by kernel_rfl) (by kernel_rfl) (by kernel_rfl) (fun _ _ _ h => h) (Or.inl ⟨by rfl, ?_⟩) hH5 ?_
  rotate_left
  · ((intro W hW; clear hW; go_simp) <;> with_reducible rfl)
  simp only [Act.put, List.getElem_toArray, List.getElem_cons_zero, List.getElem_cons_succ, List.setIfInBounds_toArray, List.set_cons_zero, List.set_cons_succ]
  refine wpAnyH_take (i := 4) (v := .agg #[.int .i64 m.pr, .int .i64 m.o, .int .u8 (m.ad.a.toNat : Int), .int .u8 (m.ad.b.toNat : Int), .int .u8 (m.ad.c.toNat : Int), .int .u8 (m.ad.d.toNat : Int), .int .i64 m.i, .int .i64 m.k, .int .i64 m.u]) rfl (by kernel_rfl) (by kernel_rfl) (by kernel_rfl) (fun _ _ _ h => h) (yieldsIf_load_part (by kernel_rfl) 31 _ rfl g4 0 9 rfl _ 31 (0, 0) (fun W hW => hW.1) _ rfl _ Try.underlying31 rfl (by kernel_rfl)) hH5 ?_
  simp only [Act.put, List.getElem_toArray, List.getElem_cons_zero, List.getElem_cons_succ, List.setIfInBounds_toArray, List.set_cons_zero, List.set_cons_succ]
  refine wpAnyH_take (i := 5) (v := ?_) rfl (by kernel_rfl) (by kernel_rfl) (by kernel_rfl) (fun _ _ _ h => h) (Or.inl ⟨by rfl, ?_⟩) hH5 ?_
  rotate_left
  · ((intro W hW; clear hW; go_simp) <;> with_reducible rfl)
  simp only [Act.put, List.getElem_toArray, List.getElem_cons_zero, List.getElem_cons_succ, List.setIfInBounds_toArray, List.set_cons_zero, List.set_cons_succ]
  refine wpAnyH_take (i := 6) (v := ?_) rfl (by kernel_rfl) (by kernel_rfl) (by kernel_rfl) (fun _ _ _ h => h) (Or.inl ⟨by rfl, ?_⟩) hH5 ?_
  rotate_left
  · ((intro W hW; clear hW; go_simp) <;> with_reducible rfl)
  simp only [Act.put, List.getElem_toArray, List.getElem_cons_zero, List.getElem_cons_succ, List.setIfInBounds_toArray, List.set_cons_zero, List.set_cons_succ]
  refine wpAnyH_take (i := 7) (v := ?_) rfl (by kernel_rfl) (by kernel_rfl) (by kernel_rfl) (fun _ _ _ h => h) (Or.inl ⟨by rfl, ?_⟩) hH5 ?_
  rotate_left
  · ((intro W hW; clear hW; go_simp) <;> with_reducible rfl)
  simp only [Act.put, List.getElem_toArray, List.getElem_cons_zero, List.getElem_cons_succ, List.setIfInBounds_toArray, List.set_cons_zero, List.set_cons_succ]
  refine wpAnyH_take (i := 8) (v := ?_) rfl (by kernel_rfl) (by kernel_rfl) (by kernel_rfl) (fun _ _ _ h => h) (Or.inl ⟨by rfl, ?_⟩) hH5 ?_
  rotate_left
  · ((intro W hW; have hk := cell_lit (hW.2) 2 _ rfl; clear hW; go_simp) <;> with_reducible rfl)
  simp only [Act.put, List.getElem_toArray, List.getElem_cons_zero, List.getElem_cons_succ, List.setIfInBounds_toArray, List.set_cons_zero, List.set_cons_succ]
  refine wpAnyH_ready (rs := [9]) (by kernel_rfl) (by simp) ?_
  refine AllReadyH.cons (o := _) rfl (fun K hK => ?_) AllReadyH.nil
  simp only [List.getElem_toArray, List.getElem_cons_zero, List.getElem_cons_succ]
  go_simp
  with_reducible refine (live_any _ HLV.out).mono ?_
  rintro e w6 ⟨rfl, b6⟩
  dsimp only
  replace hmB := blk_u hmB b6
  replace htb := blk_u htb b6
  replace own := owk_under own b6
  replace fo := fo.below b6
  replace hM := hM.below b6
  replace bel := bel.trans (b6.mono (Nat.le_trans hlo bel.size))
  clear b6
  refine hK.out _ _ ⟨hmB, htb⟩ (fun hH7 => ?_)
  clear hK K
  refine wpAnyH_take (i := 10) (v := ?_) rfl (by kernel_rfl) (by kernel_rfl) (by kernel_rfl) (fun _ _ _ h => h) (Or.inl ⟨by rfl, ?_⟩) hH7 ?_
  rotate_left
  · ((intro W hW; clear hW; go_simp) <;> with_reducible rfl)
  simp only [Act.put, List.getElem_toArray, List.getElem_cons_zero, List.getElem_cons_succ, List.setIfInBounds_toArray, List.set_cons_zero, List.set_cons_succ]
  refine wpAnyH_take (i := 11) (v := ?_) rfl (by kernel_rfl) (by kernel_rfl) (by kernel_rfl) (fun _ _ _ h => h) (Or.inl ⟨by rfl, ?_⟩) hH7 ?_
  rotate_left
  · ((intro W hW; clear hW; go_simp) <;> with_reducible rfl)
  simp only [Act.put, List.getElem_toArray, List.getElem_cons_zero, List.getElem_cons_succ, List.setIfInBounds_toArray, List.set_cons_zero, List.set_cons_succ]
  refine wpAnyH_done (by kernel_rfl) ?_ _
  have R24 := Lib.hid (range_lit hmB 0 9 [.int .i64 m.pr, .int .i64 m.o, .int .u8 (m.ad.a.toNat : Int), .int .u8 (m.ad.b.toNat : Int), .int .u8 (m.ad.c.toNat : Int), .int .u8 (m.ad.d.toNat : Int), .int .i64 m.i, .int .i64 m.k, .int .i64 m.u] rfl)
  go_wp2_with (first | ((with_reducible show wpList _ _ _ (⟨some 24, _, _, _, _, _⟩ :: _) _ _); refine wpList_load_rng 31 (.tmp 4) rfl (by kernel_rfl) _ _ rfl _ R24.out _ Try.underlying31 rfl (by kernel_rfl) ?_))
  try clear R24
  with_reducible refine (mport_any m _).mono ?_
  rintro e w8 ⟨rfl, b8⟩
  replace hmB := blk_u hmB b8
  replace htb := blk_u htb b8
  replace own := owk_under own b8
  replace fo := fo.below b8
  replace hM := hM.below b8
  replace bel := bel.trans (b8.mono (Nat.le_trans hlo bel.size))
  clear b8
  go_wp2_with fail
  with_reducible refine (mat_none m.pr m.o _ htb (owk_sle (by decide) mpE_len own).1 HOK.out.srt HOK.out.okp HMO.out H32.out HF.out).mono ?_
  rintro e w9 ⟨rfl, b9⟩
  replace hmB := blk_u hmB b9
  replace htb := blk_u htb b9
  replace own := owk_under own b9
  replace fo := fo.below b9
  replace hM := hM.below b9
  replace bel := bel.trans (b9.mono (Nat.le_trans hlo bel.size))
  clear b9
  go_wp2_with fail
  with_reducible refine (full_y (l := []) _ htb HFU.out).mono ?_
  rintro e w10 ⟨rfl, b10⟩
  replace hmB := blk_u hmB b10
  replace htb := blk_u htb b10
  replace own := owk_under own b10
  replace fo := fo.below b10
  replace hM := hM.below b10
  replace bel := bel.trans (b10.mono (Nat.le_trans hlo bel.size))
  clear b10
  go_wp2_with fail
  go_ret
  exact ⟨rfl, ⟨A, n, c, mb, htb, otb, hM, own, HOK.out⟩, fo.fr htb, bel⟩
set_option linter.unusedVariables false in
set_option linter.unusedSimpArgs false in
set_option maxRecDepth 100000 in
set_option maxHeartbeats 16000000 in
theorem tput_new {lo gt : Nat} {s : Ts} {lw rm now : Int} {l os : List Mp} {m : Mp} (t : Int) (w : World) (hT : Tp lo gt w s) (ha : s.adv t = ⟨lw, rm, now, l, os⟩) (hpm : permB m = true) (hlv : liveB now m = true) (hf : mfhas l (kn m.pr m.o) = false) (hr : (l.length : Int) < rm) : Calls Try.prog 12 #[.pointer (some ⟨gt, 0, none⟩), .agg #[.int .i64 m.pr, .int .i64 m.o, .int .u8 (m.ad.a.toNat : Int), .int .u8 (m.ad.b.toNat : Int), .int .u8 (m.ad.c.toNat : Int), .int .u8 (m.ad.d.toNat : Int), .int .i64 m.i, .int .i64 m.k, .int .i64 m.u], .int .i64 t] w fun e w' => e = .returned (.int .i64 0) ∧ Tp lo gt w' ⟨lw, rm, now, mins l m, odel os m.num⟩ ∧ Fap gt w w' ∧ Below lo w w' := by
  have hlo : lo ≤ w.heap.size := hT.lo_le
  have HLO := Lib.hid hlo
  have fr := Fap.refl gt w
  have HMK : Hid m.okp := Lib.hid (permB_okp hpm)
  have HFK : Hid (mfhas l m.num = false) := Lib.hid hf
  have HMO : Hid (okP m.pr m.o) := Lib.hid (permB_okp hpm)
  have HPM := Lib.hid hpm
  have HLV := Lib.hid hlv
  have HF := Lib.hid hf
  clear hpm hlv hf
  have bel := Below.refl lo w
  go_enter Try.func12, Try.ntmps12
  go_wp2_with (first | ((with_reducible show wpList _ _ _ (⟨some 4, _, _, _, _, _⟩ :: _) _ _); refine wpList_box_n rfl 31 (.tmp 1) rfl #[.int .i64 m.pr, .int .i64 m.o, .int .u8 (m.ad.a.toNat : Int), .int .u8 (m.ad.b.toNat : Int), .int .u8 (m.ad.c.toNat : Int), .int .u8 (m.ad.d.toNat : Int), .int .i64 m.i, .int .i64 m.k, .int .i64 m.u] rfl ?_; intro g4 w1 ge lt hh bb; have ap_mB := hT.ap ge; have omB := Nat.le_trans (Nat.le_trans hlo bel.size) ge; have pn_mB := Nat.le_trans bel.size ge; replace fr := fr.below bb; replace hT := hT.below bb; replace ap_mB := ap_mB.below bb; replace bel := bel.trans (bb.mono (Nat.le_trans hlo bel.size)); have hmB := hh; clear hh lt ge bb))
  with_reducible refine (tadv_any _ _ hT ha).mono ?_
  rintro e w2 ⟨rfl, hT_, f_, bb⟩
  have x_ := f_ _ _ _ _ hmB ap_mB
  replace hmB := x_.1
  replace ap_mB := x_.2
  clear x_
  replace fr := fr.trans f_
  clear hT
  have hT := hT_
  replace bel := bel.trans bb
  clear bb f_ hT_
  obtain ⟨A, n, c, mb, htb, otb, hM, own, hok⟩ := hT
  dsimp only at htb hM own
  have off_tb := ofs_type own htb (by decide)
  have hl := row_len (by decide) mpE_len own
  have HLL := Lib.hid hl
  have HOK := Lib.hid hok
  have H32 : Hid (n ≤ 1000) := Lib.hid (by have h1_ := hok.len; have h2_ := hok.r1; simp only at h1_ h2_; omega)
  have H128 : Hid (n ≤ 128) := Lib.hid (by have h1_ := hok.len; have h2_ := hok.r1; simp only at h1_ h2_; omega)
  clear hl hok
  have fo := fr.fo htb
  clear fr
  have HRM := Lib.hid hr
  have HFU : Hid ((n : Int) < rm) := Lib.hid (by rw [HLL.out] at hr; exact hr)
  clear hr
  have off_mB := ap_mB.ofs htb
  have d_mB_tb := Lib.hid ap_mB.1
  clear ap_mB
  go_wp2_with fail
  replace bel := bel.drew
  replace hmB : w2.drew.heap[g4]? = _ := hmB
  replace htb : w2.drew.heap[gt]? = _ := htb
  replace own := World.ownsRow.drew own
  replace fo := fo_drew fo
  replace hM := om_drew hM
  refine wp_region_held_drew (S := fun W => W.heap[g4]? = some (.cells #[.int .i64 m.pr, .int .i64 m.o, .int .u8 (m.ad.a.toNat : Int), .int .u8 (m.ad.b.toNat : Int), .int .u8 (m.ad.c.toNat : Int), .int .u8 (m.ad.d.toNat : Int), .int .i64 m.i, .int .i64 m.k, .int .i64 m.u] 31 (0, 0)) ∧ W.heap[gt]? = some (.cells #[.int .i64 lw, .int .i64 rm, .int .i64 now, .slice A n c, .map (some mb)] 55 (0, 0))) (by kernel_rfl) ⟨hmB, htb⟩ (fun hH => ?_)
  generalize w2.drew = w3 at bel hmB htb own fo hM hH ⊢
  refine wpAnyH_take (i := 0) (v := .agg #[.int .i64 m.pr, .int .i64 m.o, .int .u8 (m.ad.a.toNat : Int), .int .u8 (m.ad.b.toNat : Int), .int .u8 (m.ad.c.toNat : Int), .int .u8 (m.ad.d.toNat : Int), .int .i64 m.i, .int .i64 m.k, .int .i64 m.u]) rfl (by kernel_rfl) (by kernel_rfl) (by kernel_rfl) (fun _ _ _ h => h) (yieldsIf_load_part (by kernel_rfl) 31 _ rfl g4 0 9 rfl _ 31 (0, 0) (fun W hW => hW.1) _ rfl _ Try.underlying31 rfl (by kernel_rfl)) hH ?_
  simp only [Act.put, List.getElem_toArray, List.getElem_cons_zero, List.setIfInBounds_toArray, List.set_cons_zero, List.set_cons_succ]
  refine wpAnyH_ready (rs := [1]) (by kernel_rfl) (by simp) ?_
  refine AllReadyH.cons (o := _) rfl (fun K hK => ?_) AllReadyH.nil
  simp only [List.getElem_toArray, List.getElem_cons_zero, List.getElem_cons_succ]
  go_simp
  with_reducible refine (perm_any _ HPM.out).mono ?_
  rintro e w4 ⟨rfl, b4⟩
  dsimp only
  replace hmB := blk_u hmB b4
  replace htb := blk_u htb b4
  replace own := owk_under own b4
  replace fo := fo.below b4
  replace hM := hM.below b4
  replace bel := bel.trans (b4.mono (Nat.le_trans hlo bel.size))
  clear b4
  refine hK.out _ _ ⟨hmB, htb⟩ (fun hH5 => ?_)
  clear hK K
  refine wpAnyH_take (i := 2) (v := ?_) rfl (by kernel_rfl) (by kernel_rfl) (by kernel_rfl) (fun _ _ _ h => h) (Or.inl ⟨by rfl, ?_⟩) hH5 ?_
  rotate_left
  · ((intro W hW; clear hW; go_simp) <;> with_reducible rfl)
  simp only [Act.put, List.getElem_toArray, List.getElem_cons_zero, List.getElem_cons_succ, List.setIfInBounds_toArray, List.set_cons_zero, List.set_cons_succ]
  refine wpAnyH_take (i := 3) (v := ?_) rfl (by kernel_rfl) (by kernel_rfl) (by kernel_rfl) (fun _ _ _ h => h) (Or.inl ⟨by rfl, ?_⟩) hH5 ?_
  rotate_left
  · ((intro W hW; clear hW; go_simp) <;> with_reducible rfl)
  simp only [Act.put, List.getElem_toArray, List.getElem_cons_zero, List.getElem_cons_succ, List.setIfInBounds_toArray, List.set_cons_zero, List.set_cons_succ]
  refine wpAnyH_take (i := 4) (v := .agg #[.int .i64 m.pr, .int .i64 m.o, .int .u8 (m.ad.a.toNat : Int), .int .u8 (m.ad.b.toNat : Int), .int .u8 (m.ad.c.toNat : Int), .int .u8 (m.ad.d.toNat : Int), .int .i64 m.i, .int .i64 m.k, .int .i64 m.u]) rfl (by kernel_rfl) (by kernel_rfl) (by kernel_rfl) (fun _ _ _ h => h) (yieldsIf_load_part (by kernel_rfl) 31 _ rfl g4 0 9 rfl _ 31 (0, 0) (fun W hW => hW.1) _ rfl _ Try.underlying31 rfl (by kernel_rfl)) hH5 ?_
  simp only [Act.put, List.getElem_toArray, List.getElem_cons_zero, List.getElem_cons_succ, List.setIfInBounds_toArray, List.set_cons_zero, List.set_cons_succ]
  refine wpAnyH_take (i := 5) (v := ?_) rfl (by kernel_rfl) (by kernel_rfl) (by kernel_rfl) (fun _ _ _ h => h) (Or.inl ⟨by rfl, ?_⟩) hH5 ?_
  rotate_left
  · ((intro W hW; clear hW; go_simp) <;> with_reducible rfl)
  simp only [Act.put, List.getElem_toArray, List.getElem_cons_zero, List.getElem_cons_succ, List.setIfInBounds_toArray, List.set_cons_zero, List.set_cons_succ]
  refine wpAnyH_take (i := 6) (v := ?_) rfl (by kernel_rfl) (by kernel_rfl) (by kernel_rfl) (fun _ _ _ h => h) (Or.inl ⟨by rfl, ?_⟩) hH5 ?_
  rotate_left
  · ((intro W hW; clear hW; go_simp) <;> with_reducible rfl)
  simp only [Act.put, List.getElem_toArray, List.getElem_cons_zero, List.getElem_cons_succ, List.setIfInBounds_toArray, List.set_cons_zero, List.set_cons_succ]
  refine wpAnyH_take (i := 7) (v := ?_) rfl (by kernel_rfl) (by kernel_rfl) (by kernel_rfl) (fun _ _ _ h => h) (Or.inl ⟨by rfl, ?_⟩) hH5 ?_
  rotate_left
  · ((intro W hW; clear hW; go_simp) <;> with_reducible rfl)
  simp only [Act.put, List.getElem_toArray, List.getElem_cons_zero, List.getElem_cons_succ, List.setIfInBounds_toArray, List.set_cons_zero, List.set_cons_succ]
  refine wpAnyH_take (i := 8) (v := ?_) rfl (by kernel_rfl) (by kernel_rfl) (by kernel_rfl) (fun _ _ _ h => h) (Or.inl ⟨by rfl, ?_⟩) hH5 ?_
  rotate_left
  · ((intro W hW; have hk := cell_lit (hW.2) 2 _ rfl; clear hW; go_simp) <;> with_reducible rfl)
  simp only [Act.put, List.getElem_toArray, List.getElem_cons_zero, List.getElem_cons_succ, List.setIfInBounds_toArray, List.set_cons_zero, List.set_cons_succ]
  refine wpAnyH_ready (rs := [9]) (by kernel_rfl) (by simp) ?_
  refine AllReadyH.cons (o := _) rfl (fun K hK => ?_) AllReadyH.nil
  simp only [List.getElem_toArray, List.getElem_cons_zero, List.getElem_cons_succ]
  go_simp
  with_reducible refine (live_any _ HLV.out).mono ?_
  rintro e w6 ⟨rfl, b6⟩
  dsimp only
  replace hmB := blk_u hmB b6
  replace htb := blk_u htb b6
  replace own := owk_under own b6
  replace fo := fo.below b6
  replace hM := hM.below b6
  replace bel := bel.trans (b6.mono (Nat.le_trans hlo bel.size))
  clear b6
  refine hK.out _ _ ⟨hmB, htb⟩ (fun hH7 => ?_)
  clear hK K
  refine wpAnyH_take (i := 10) (v := ?_) rfl (by kernel_rfl) (by kernel_rfl) (by kernel_rfl) (fun _ _ _ h => h) (Or.inl ⟨by rfl, ?_⟩) hH7 ?_
  rotate_left
  · ((intro W hW; clear hW; go_simp) <;> with_reducible rfl)
  simp only [Act.put, List.getElem_toArray, List.getElem_cons_zero, List.getElem_cons_succ, List.setIfInBounds_toArray, List.set_cons_zero, List.set_cons_succ]
  refine wpAnyH_take (i := 11) (v := ?_) rfl (by kernel_rfl) (by kernel_rfl) (by kernel_rfl) (fun _ _ _ h => h) (Or.inl ⟨by rfl, ?_⟩) hH7 ?_
  rotate_left
  · ((intro W hW; clear hW; go_simp) <;> with_reducible rfl)
  simp only [Act.put, List.getElem_toArray, List.getElem_cons_zero, List.getElem_cons_succ, List.setIfInBounds_toArray, List.set_cons_zero, List.set_cons_succ]
  refine wpAnyH_done (by kernel_rfl) ?_ _
  have R24 := Lib.hid (range_lit hmB 0 9 [.int .i64 m.pr, .int .i64 m.o, .int .u8 (m.ad.a.toNat : Int), .int .u8 (m.ad.b.toNat : Int), .int .u8 (m.ad.c.toNat : Int), .int .u8 (m.ad.d.toNat : Int), .int .i64 m.i, .int .i64 m.k, .int .i64 m.u] rfl)
  go_wp2_with (first | ((with_reducible show wpList _ _ _ (⟨some 24, _, _, _, _, _⟩ :: _) _ _); refine wpList_load_rng 31 (.tmp 4) rfl (by kernel_rfl) _ _ rfl _ R24.out _ Try.underlying31 rfl (by kernel_rfl) ?_))
  try clear R24
  with_reducible refine (mport_any m _).mono ?_
  rintro e w8 ⟨rfl, b8⟩
  replace hmB := blk_u hmB b8
  replace htb := blk_u htb b8
  replace own := owk_under own b8
  replace fo := fo.below b8
  replace hM := hM.below b8
  replace bel := bel.trans (b8.mono (Nat.le_trans hlo bel.size))
  clear b8
  go_wp2_with fail
  with_reducible refine (mat_none m.pr m.o _ htb (owk_sle (by decide) mpE_len own).1 HOK.out.srt HOK.out.okp HMO.out H32.out HF.out).mono ?_
  rintro e w9 ⟨rfl, b9⟩
  replace hmB := blk_u hmB b9
  replace htb := blk_u htb b9
  replace own := owk_under own b9
  replace fo := fo.below b9
  replace hM := hM.below b9
  replace bel := bel.trans (b9.mono (Nat.le_trans hlo bel.size))
  clear b9
  go_wp2_with fail
  with_reducible refine (full_n (l := []) _ htb (Int.not_le.2 HFU.out)).mono ?_
  rintro e w10 ⟨rfl, b10⟩
  replace hmB := blk_u hmB b10
  replace htb := blk_u htb b10
  replace own := owk_under own b10
  replace fo := fo.below b10
  replace hM := hM.below b10
  replace bel := bel.trans (b10.mono (Nat.le_trans hlo bel.size))
  clear b10
  have R43 := Lib.hid (range_lit hmB 0 9 [.int .i64 m.pr, .int .i64 m.o, .int .u8 (m.ad.a.toNat : Int), .int .u8 (m.ad.b.toNat : Int), .int .u8 (m.ad.c.toNat : Int), .int .u8 (m.ad.d.toNat : Int), .int .i64 m.i, .int .i64 m.k, .int .i64 m.u] rfl)
  go_wp2_with (first | ((with_reducible show wpList _ _ _ (⟨some 43, _, _, _, _, _⟩ :: _) _ _); refine wpList_load_rng 31 (.tmp 4) rfl (by kernel_rfl) _ _ rfl _ R43.out _ Try.underlying31 rfl (by kernel_rfl) ?_))
  try clear R43
  have ap_mB := Ap.mk htb off_mB d_mB_tb.out
  have fr := fo.fr htb
  have hT : Tp lo gt w10 ⟨lw, rm, now, l, os⟩ := ⟨A, n, c, mb, htb, otb, hM, own, HOK.out⟩
  clear htb hM own off_tb fo
  with_reducible refine (tadd_any (m := m) _ hT HMK.out HFK.out HRM.out).mono ?_
  rintro e w11 ⟨rfl, hT_, f_, bb⟩
  have x_ := f_ _ _ _ _ hmB ap_mB
  replace hmB := x_.1
  replace ap_mB := x_.2
  clear x_
  replace fr := fr.trans f_
  clear hT
  have hT := hT_
  replace bel := bel.trans bb
  clear bb f_ hT_
  go_wp2_with fail
  go_ret
  exact ⟨rfl, hT, fr, bel⟩
set_option linter.unusedVariables false in
set_option linter.unusedSimpArgs false in
set_option maxRecDepth 100000 in
set_option maxHeartbeats 16000000 in
theorem tput_tak {lo gt : Nat} {s : Ts} {lw rm now : Int} {l os : List Mp} {m x : Mp} {i : Nat} (t : Int) (w : World) (hT : Tp lo gt w s) (ha : s.adv t = ⟨lw, rm, now, l, os⟩) (hpm : permB m = true) (hlv : liveB now m = true) (hf : mfhas l (kn m.pr m.o) = true) (hq : mfpos l (kn m.pr m.o) = i) (hx : l[i]? = some x) (hex : extB m x = false) : Calls Try.prog 12 #[.pointer (some ⟨gt, 0, none⟩), .agg #[.int .i64 m.pr, .int .i64 m.o, .int .u8 (m.ad.a.toNat : Int), .int .u8 (m.ad.b.toNat : Int), .int .u8 (m.ad.c.toNat : Int), .int .u8 (m.ad.d.toNat : Int), .int .i64 m.i, .int .i64 m.k, .int .i64 m.u], .int .i64 t] w fun e w' => e = .returned (.int .i64 8) ∧ Tp lo gt w' ⟨lw, rm, now, l, os⟩ ∧ Fap gt w w' ∧ Below lo w w' := by
  have hlo : lo ≤ w.heap.size := hT.lo_le
  have HLO := Lib.hid hlo
  have fr := Fap.refl gt w
  have HMO : Hid (okP m.pr m.o) := Lib.hid (permB_okp hpm)
  have HPM := Lib.hid hpm
  have HLV := Lib.hid hlv
  have HF := Lib.hid hf
  clear hpm hlv hf
  have HQ := Lib.hid hq
  have HEX := Lib.hid hex
  clear hq hex
  have bel := Below.refl lo w
  go_enter Try.func12, Try.ntmps12
  go_wp2_with (first | ((with_reducible show wpList _ _ _ (⟨some 4, _, _, _, _, _⟩ :: _) _ _); refine wpList_box_n rfl 31 (.tmp 1) rfl #[.int .i64 m.pr, .int .i64 m.o, .int .u8 (m.ad.a.toNat : Int), .int .u8 (m.ad.b.toNat : Int), .int .u8 (m.ad.c.toNat : Int), .int .u8 (m.ad.d.toNat : Int), .int .i64 m.i, .int .i64 m.k, .int .i64 m.u] rfl ?_; intro g4 w1 ge lt hh bb; have ap_mB := hT.ap ge; have omB := Nat.le_trans (Nat.le_trans hlo bel.size) ge; have pn_mB := Nat.le_trans bel.size ge; replace fr := fr.below bb; replace hT := hT.below bb; replace ap_mB := ap_mB.below bb; replace bel := bel.trans (bb.mono (Nat.le_trans hlo bel.size)); have hmB := hh; clear hh lt ge bb))
  with_reducible refine (tadv_any _ _ hT ha).mono ?_
  rintro e w2 ⟨rfl, hT_, f_, bb⟩
  have x_ := f_ _ _ _ _ hmB ap_mB
  replace hmB := x_.1
  replace ap_mB := x_.2
  clear x_
  replace fr := fr.trans f_
  clear hT
  have hT := hT_
  replace bel := bel.trans bb
  clear bb f_ hT_
  obtain ⟨A, n, c, mb, htb, otb, hM, own, hok⟩ := hT
  dsimp only at htb hM own
  have off_tb := ofs_type own htb (by decide)
  have hl := row_len (by decide) mpE_len own
  have HLL := Lib.hid hl
  have HOK := Lib.hid hok
  have H32 : Hid (n ≤ 1000) := Lib.hid (by have h1_ := hok.len; have h2_ := hok.r1; simp only at h1_ h2_; omega)
  have H128 : Hid (n ≤ 128) := Lib.hid (by have h1_ := hok.len; have h2_ := hok.r1; simp only at h1_ h2_; omega)
  clear hl hok
  have fo := fr.fo htb
  clear fr
  have hin_ : i < n := by have h1_ := (List.getElem?_eq_some_iff.1 hx).1; have h2_ := HLL.out; omega
  have i0 : (0 : Int) ≤ i := by omega
  have i1 : (i : Int) < n := by omega
  obtain ⟨gE, rfl, _⟩ := row_at own (by omega)
  have en := (owk_sle (by decide) mpE_len own).1
  have av_en_tb := owk_av own off_tb
  clear hin_
  have HX := Lib.hid hx
  clear hx
  have off_mB := ap_mB.ofs htb
  have d_mB_tb := Lib.hid ap_mB.1
  clear ap_mB
  have av_en_mB := owk_av own off_mB
  go_wp2_with fail
  replace bel := bel.drew
  replace hmB : w2.drew.heap[g4]? = _ := hmB
  replace htb : w2.drew.heap[gt]? = _ := htb
  replace en := en.drew
  replace own := World.ownsRow.drew own
  replace fo := fo_drew fo
  replace hM := om_drew hM
  refine wp_region_held_drew (S := fun W => W.heap[g4]? = some (.cells #[.int .i64 m.pr, .int .i64 m.o, .int .u8 (m.ad.a.toNat : Int), .int .u8 (m.ad.b.toNat : Int), .int .u8 (m.ad.c.toNat : Int), .int .u8 (m.ad.d.toNat : Int), .int .i64 m.i, .int .i64 m.k, .int .i64 m.u] 31 (0, 0)) ∧ W.heap[gt]? = some (.cells #[.int .i64 lw, .int .i64 rm, .int .i64 now, .slice (some ⟨gE, 0, none⟩) n c, .map (some mb)] 55 (0, 0))) (by kernel_rfl) ⟨hmB, htb⟩ (fun hH => ?_)
  generalize w2.drew = w3 at bel hmB htb en own fo hM hH ⊢
  refine wpAnyH_take (i := 0) (v := .agg #[.int .i64 m.pr, .int .i64 m.o, .int .u8 (m.ad.a.toNat : Int), .int .u8 (m.ad.b.toNat : Int), .int .u8 (m.ad.c.toNat : Int), .int .u8 (m.ad.d.toNat : Int), .int .i64 m.i, .int .i64 m.k, .int .i64 m.u]) rfl (by kernel_rfl) (by kernel_rfl) (by kernel_rfl) (fun _ _ _ h => h) (yieldsIf_load_part (by kernel_rfl) 31 _ rfl g4 0 9 rfl _ 31 (0, 0) (fun W hW => hW.1) _ rfl _ Try.underlying31 rfl (by kernel_rfl)) hH ?_
  simp only [Act.put, List.getElem_toArray, List.getElem_cons_zero, List.setIfInBounds_toArray, List.set_cons_zero, List.set_cons_succ]
  refine wpAnyH_ready (rs := [1]) (by kernel_rfl) (by simp) ?_
  refine AllReadyH.cons (o := _) rfl (fun K hK => ?_) AllReadyH.nil
  simp only [List.getElem_toArray, List.getElem_cons_zero, List.getElem_cons_succ]
  go_simp
  with_reducible refine (perm_any _ HPM.out).mono ?_
  rintro e w4 ⟨rfl, b4⟩
  dsimp only
  replace hmB := blk_u hmB b4
  replace htb := blk_u htb b4
  replace en := en.below b4
  replace own := owk_under own b4
  replace fo := fo.below b4
  replace hM := hM.below b4
  replace bel := bel.trans (b4.mono (Nat.le_trans hlo bel.size))
  clear b4
  refine hK.out _ _ ⟨hmB, htb⟩ (fun hH5 => ?_)
  clear hK K
  refine wpAnyH_take (i := 2) (v := ?_) rfl (by kernel_rfl) (by kernel_rfl) (by kernel_rfl) (fun _ _ _ h => h) (Or.inl ⟨by rfl, ?_⟩) hH5 ?_
  rotate_left
  · ((intro W hW; clear hW; go_simp) <;> with_reducible rfl)
  simp only [Act.put, List.getElem_toArray, List.getElem_cons_zero, List.getElem_cons_succ, List.setIfInBounds_toArray, List.set_cons_zero, List.set_cons_succ]
  refine wpAnyH_take (i := 3) (v := ?_) rfl (by kernel_rfl) (by kernel_rfl) (by kernel_rfl) (fun _ _ _ h => h) (Or.inl ⟨by rfl, ?_⟩) hH5 ?_
  rotate_left
  · ((intro W hW; clear hW; go_simp) <;> with_reducible rfl)
  simp only [Act.put, List.getElem_toArray, List.getElem_cons_zero, List.getElem_cons_succ, List.setIfInBounds_toArray, List.set_cons_zero, List.set_cons_succ]
  refine wpAnyH_take (i := 4) (v := .agg #[.int .i64 m.pr, .int .i64 m.o, .int .u8 (m.ad.a.toNat : Int), .int .u8 (m.ad.b.toNat : Int), .int .u8 (m.ad.c.toNat : Int), .int .u8 (m.ad.d.toNat : Int), .int .i64 m.i, .int .i64 m.k, .int .i64 m.u]) rfl (by kernel_rfl) (by kernel_rfl) (by kernel_rfl) (fun _ _ _ h => h) (yieldsIf_load_part (by kernel_rfl) 31 _ rfl g4 0 9 rfl _ 31 (0, 0) (fun W hW => hW.1) _ rfl _ Try.underlying31 rfl (by kernel_rfl)) hH5 ?_
  simp only [Act.put, List.getElem_toArray, List.getElem_cons_zero, List.getElem_cons_succ, List.setIfInBounds_toArray, List.set_cons_zero, List.set_cons_succ]
  refine wpAnyH_take (i := 5) (v := ?_) rfl (by kernel_rfl) (by kernel_rfl) (by kernel_rfl) (fun _ _ _ h => h) (Or.inl ⟨by rfl, ?_⟩) hH5 ?_
  rotate_left
  · ((intro W hW; clear hW; go_simp) <;> with_reducible rfl)
  simp only [Act.put, List.getElem_toArray, List.getElem_cons_zero, List.getElem_cons_succ, List.setIfInBounds_toArray, List.set_cons_zero, List.set_cons_succ]
  refine wpAnyH_take (i := 6) (v := ?_) rfl (by kernel_rfl) (by kernel_rfl) (by kernel_rfl) (fun _ _ _ h => h) (Or.inl ⟨by rfl, ?_⟩) hH5 ?_
  rotate_left
  · ((intro W hW; clear hW; go_simp) <;> with_reducible rfl)
  simp only [Act.put, List.getElem_toArray, List.getElem_cons_zero, List.getElem_cons_succ, List.setIfInBounds_toArray, List.set_cons_zero, List.set_cons_succ]
  refine wpAnyH_take (i := 7) (v := ?_) rfl (by kernel_rfl) (by kernel_rfl) (by kernel_rfl) (fun _ _ _ h => h) (Or.inl ⟨by rfl, ?_⟩) hH5 ?_
  rotate_left
  · ((intro W hW; clear hW; go_simp) <;> with_reducible rfl)
  simp only [Act.put, List.getElem_toArray, List.getElem_cons_zero, List.getElem_cons_succ, List.setIfInBounds_toArray, List.set_cons_zero, List.set_cons_succ]
  refine wpAnyH_take (i := 8) (v := ?_) rfl (by kernel_rfl) (by kernel_rfl) (by kernel_rfl) (fun _ _ _ h => h) (Or.inl ⟨by rfl, ?_⟩) hH5 ?_
  rotate_left
  · ((intro W hW; have hk := cell_lit (hW.2) 2 _ rfl; clear hW; go_simp) <;> with_reducible rfl)
  simp only [Act.put, List.getElem_toArray, List.getElem_cons_zero, List.getElem_cons_succ, List.setIfInBounds_toArray, List.set_cons_zero, List.set_cons_succ]
  refine wpAnyH_ready (rs := [9]) (by kernel_rfl) (by simp) ?_
  refine AllReadyH.cons (o := _) rfl (fun K hK => ?_) AllReadyH.nil
  simp only [List.getElem_toArray, List.getElem_cons_zero, List.getElem_cons_succ]
  go_simp
  with_reducible refine (live_any _ HLV.out).mono ?_
  rintro e w6 ⟨rfl, b6⟩
  dsimp only
  replace hmB := blk_u hmB b6
  replace htb := blk_u htb b6
  replace en := en.below b6
  replace own := owk_under own b6
  replace fo := fo.below b6
  replace hM := hM.below b6
  replace bel := bel.trans (b6.mono (Nat.le_trans hlo bel.size))
  clear b6
  refine hK.out _ _ ⟨hmB, htb⟩ (fun hH7 => ?_)
  clear hK K
  refine wpAnyH_take (i := 10) (v := ?_) rfl (by kernel_rfl) (by kernel_rfl) (by kernel_rfl) (fun _ _ _ h => h) (Or.inl ⟨by rfl, ?_⟩) hH7 ?_
  rotate_left
  · ((intro W hW; clear hW; go_simp) <;> with_reducible rfl)
  simp only [Act.put, List.getElem_toArray, List.getElem_cons_zero, List.getElem_cons_succ, List.setIfInBounds_toArray, List.set_cons_zero, List.set_cons_succ]
  refine wpAnyH_take (i := 11) (v := ?_) rfl (by kernel_rfl) (by kernel_rfl) (by kernel_rfl) (fun _ _ _ h => h) (Or.inl ⟨by rfl, ?_⟩) hH7 ?_
  rotate_left
  · ((intro W hW; clear hW; go_simp) <;> with_reducible rfl)
  simp only [Act.put, List.getElem_toArray, List.getElem_cons_zero, List.getElem_cons_succ, List.setIfInBounds_toArray, List.set_cons_zero, List.set_cons_succ]
  refine wpAnyH_done (by kernel_rfl) ?_ _
  have R24 := Lib.hid (range_lit hmB 0 9 [.int .i64 m.pr, .int .i64 m.o, .int .u8 (m.ad.a.toNat : Int), .int .u8 (m.ad.b.toNat : Int), .int .u8 (m.ad.c.toNat : Int), .int .u8 (m.ad.d.toNat : Int), .int .i64 m.i, .int .i64 m.k, .int .i64 m.u] rfl)
  go_wp2_with (first | ((with_reducible show wpList _ _ _ (⟨some 24, _, _, _, _, _⟩ :: _) _ _); refine wpList_load_rng 31 (.tmp 4) rfl (by kernel_rfl) _ _ rfl _ R24.out _ Try.underlying31 rfl (by kernel_rfl) ?_))
  try clear R24
  with_reducible refine (mport_any m _).mono ?_
  rintro e w8 ⟨rfl, b8⟩
  replace hmB := blk_u hmB b8
  replace htb := blk_u htb b8
  replace en := en.below b8
  replace own := owk_under own b8
  replace fo := fo.below b8
  replace hM := hM.below b8
  replace bel := bel.trans (b8.mono (Nat.le_trans hlo bel.size))
  clear b8
  go_wp2_with fail
  with_reducible refine (mat_some m.pr m.o _ htb en av_en_tb HOK.out.srt HOK.out.okp HMO.out H32.out HQ.out HF.out HX.out).mono ?_
  rintro e w9 ⟨rfl, b9⟩
  replace hmB := blk_u hmB b9
  replace htb := blk_u htb b9
  replace en := en.below b9
  replace own := owk_under own b9
  replace fo := fo.below b9
  replace hM := hM.below b9
  replace bel := bel.trans (b9.mono (Nat.le_trans hlo bel.size))
  clear b9
  go_wp2_with fail
  replace bel := bel.drew
  replace hmB : w9.drew.heap[g4]? = _ := hmB
  replace htb : w9.drew.heap[gt]? = _ := htb
  replace en := en.drew
  replace own := World.ownsRow.drew own
  replace fo := fo_drew fo
  replace hM := om_drew hM
  refine wp_region_held_drew (S := fun W => W.heap[g4]? = some (.cells #[.int .i64 m.pr, .int .i64 m.o, .int .u8 (m.ad.a.toNat : Int), .int .u8 (m.ad.b.toNat : Int), .int .u8 (m.ad.c.toNat : Int), .int .u8 (m.ad.d.toNat : Int), .int .i64 m.i, .int .i64 m.k, .int .i64 m.u] 31 (0, 0)) ∧ Sle mpE 9 W (some ⟨gE, 0, none⟩) (n) (c) (l)) (by kernel_rfl) ⟨hmB, en⟩ (fun hH => ?_)
  generalize w9.drew = w10 at bel hmB htb en own fo hM hH ⊢
  refine wpAnyH_take (i := 0) (v := .agg #[.int .i64 m.pr, .int .i64 m.o, .int .u8 (m.ad.a.toNat : Int), .int .u8 (m.ad.b.toNat : Int), .int .u8 (m.ad.c.toNat : Int), .int .u8 (m.ad.d.toNat : Int), .int .i64 m.i, .int .i64 m.k, .int .i64 m.u]) rfl (by kernel_rfl) (by kernel_rfl) (by kernel_rfl) (fun _ _ _ h => h) (yieldsIf_load_part (by kernel_rfl) 31 _ rfl g4 0 9 rfl _ 31 (0, 0) (fun W hW => hW.1) _ rfl _ Try.underlying31 rfl (by kernel_rfl)) hH ?_
  simp only [Act.put, List.getElem_toArray, List.getElem_cons_zero, List.setIfInBounds_toArray, List.set_cons_zero, List.set_cons_succ]
  refine wpAnyH_take (i := 1) (v := ?_) rfl (by kernel_rfl) (by kernel_rfl) (by kernel_rfl) (fun _ _ _ h => h) (Or.inl ⟨by rfl, ?_⟩) hH ?_
  rotate_left
  · ((intro W hW; clear hW; go_simp) <;> with_reducible rfl)
  simp only [Act.put, List.getElem_toArray, List.getElem_cons_zero, List.getElem_cons_succ, List.setIfInBounds_toArray, List.set_cons_zero, List.set_cons_succ]
  refine wpAnyH_take (i := 2) (v := ?_) rfl (by kernel_rfl) (by kernel_rfl) (by kernel_rfl) (fun _ _ _ h => h) (Or.inl ⟨by rfl, ?_⟩) hH ?_
  rotate_left
  · ((intro W hW; clear hW; go_simp) <;> with_reducible rfl)
  simp only [Act.put, List.getElem_toArray, List.getElem_cons_zero, List.getElem_cons_succ, List.setIfInBounds_toArray, List.set_cons_zero, List.set_cons_succ]
  refine wpAnyH_take (i := 3) (v := .agg #[.int .i64 x.pr, .int .i64 x.o, .int .u8 (x.ad.a.toNat : Int), .int .u8 (x.ad.b.toNat : Int), .int .u8 (x.ad.c.toNat : Int), .int .u8 (x.ad.d.toNat : Int), .int .i64 x.i, .int .i64 x.k, .int .i64 x.u]) rfl (by kernel_rfl) (by kernel_rfl) (by kernel_rfl) (fun _ _ _ h => h) (yieldsIf_load_mid (by kernel_rfl) 31 _ rfl gE (i * 9) rfl [.int .i64 x.pr, .int .i64 x.o, .int .u8 (x.ad.a.toNat : Int), .int .u8 (x.ad.b.toNat : Int), .int .u8 (x.ad.c.toNat : Int), .int .u8 (x.ad.d.toNat : Int), .int .i64 x.i, .int .i64 x.k, .int .i64 x.u] _ (fun W hW => Sle.zrange0 (hW.2) HX.out 9 [.int .i64 x.pr, .int .i64 x.o, .int .u8 (x.ad.a.toNat : Int), .int .u8 (x.ad.b.toNat : Int), .int .u8 (x.ad.c.toNat : Int), .int .u8 (x.ad.d.toNat : Int), .int .i64 x.i, .int .i64 x.k, .int .i64 x.u] rfl) Try.underlying31 rfl (by kernel_rfl)) hH ?_
  simp only [Act.put, List.getElem_toArray, List.getElem_cons_zero, List.getElem_cons_succ, List.setIfInBounds_toArray, List.set_cons_zero, List.set_cons_succ]
  refine wpAnyH_ready (rs := [4]) (by kernel_rfl) (by simp) ?_
  refine AllReadyH.cons (o := _) rfl (fun K hK => ?_) AllReadyH.nil
  simp only [List.getElem_toArray, List.getElem_cons_zero, List.getElem_cons_succ]
  go_simp
  with_reducible refine (ext_any _ HEX.out).mono ?_
  rintro e w11 ⟨rfl, b11⟩
  dsimp only
  replace hmB := blk_u hmB b11
  replace htb := blk_u htb b11
  replace en := en.below b11
  replace own := owk_under own b11
  replace fo := fo.below b11
  replace hM := hM.below b11
  replace bel := bel.trans (b11.mono (Nat.le_trans hlo bel.size))
  clear b11
  refine hK.out _ _ ⟨hmB, en⟩ (fun hH12 => ?_)
  clear hK K
  refine wpAnyH_take (i := 5) (v := ?_) rfl (by kernel_rfl) (by kernel_rfl) (by kernel_rfl) (fun _ _ _ h => h) (Or.inl ⟨by rfl, ?_⟩) hH12 ?_
  rotate_left
  · ((intro W hW; clear hW; go_simp) <;> with_reducible rfl)
  simp only [Act.put, List.getElem_toArray, List.getElem_cons_zero, List.getElem_cons_succ, List.setIfInBounds_toArray, List.set_cons_zero, List.set_cons_succ]
  refine wpAnyH_done (by kernel_rfl) ?_ _
  go_wp2_with fail
  go_ret
  exact ⟨rfl, ⟨(some ⟨gE, 0, none⟩), n, c, mb, htb, otb, hM, own, HOK.out⟩, fo.fr htb, bel⟩
set_option linter.unusedVariables false in
set_option linter.unusedSimpArgs false in
set_option maxRecDepth 100000 in
set_option maxHeartbeats 16000000 in
theorem tput_ext {lo gt : Nat} {s : Ts} {lw rm now : Int} {l os : List Mp} {m x : Mp} {i : Nat} (t : Int) (w : World) (hT : Tp lo gt w s) (ha : s.adv t = ⟨lw, rm, now, l, os⟩) (hpm : permB m = true) (hlv : liveB now m = true) (hf : mfhas l (kn m.pr m.o) = true) (hq : mfpos l (kn m.pr m.o) = i) (hx : l[i]? = some x) (hex : extB m x = true) : Calls Try.prog 12 #[.pointer (some ⟨gt, 0, none⟩), .agg #[.int .i64 m.pr, .int .i64 m.o, .int .u8 (m.ad.a.toNat : Int), .int .u8 (m.ad.b.toNat : Int), .int .u8 (m.ad.c.toNat : Int), .int .u8 (m.ad.d.toNat : Int), .int .i64 m.i, .int .i64 m.k, .int .i64 m.u], .int .i64 t] w fun e w' => e = .returned (.int .i64 0) ∧ Tp lo gt w' ⟨lw, rm, now, l.set i ⟨x.pr, x.o, x.ad, x.i, x.k, m.u⟩, os⟩ ∧ Fap gt w w' ∧ Below lo w w' := by
  have hlo : lo ≤ w.heap.size := hT.lo_le
  have HLO := Lib.hid hlo
  have fr := Fap.refl gt w
  have HMO : Hid (okP m.pr m.o) := Lib.hid (permB_okp hpm)
  have HPM := Lib.hid hpm
  have HLV := Lib.hid hlv
  have HF := Lib.hid hf
  clear hpm hlv hf
  have HQ := Lib.hid hq
  have HEX := Lib.hid hex
  clear hq hex
  have bel := Below.refl lo w
  go_enter Try.func12, Try.ntmps12
  go_wp2_with (first | ((with_reducible show wpList _ _ _ (⟨some 4, _, _, _, _, _⟩ :: _) _ _); refine wpList_box_n rfl 31 (.tmp 1) rfl #[.int .i64 m.pr, .int .i64 m.o, .int .u8 (m.ad.a.toNat : Int), .int .u8 (m.ad.b.toNat : Int), .int .u8 (m.ad.c.toNat : Int), .int .u8 (m.ad.d.toNat : Int), .int .i64 m.i, .int .i64 m.k, .int .i64 m.u] rfl ?_; intro g4 w1 ge lt hh bb; have ap_mB := hT.ap ge; have omB := Nat.le_trans (Nat.le_trans hlo bel.size) ge; have pn_mB := Nat.le_trans bel.size ge; replace fr := fr.below bb; replace hT := hT.below bb; replace ap_mB := ap_mB.below bb; replace bel := bel.trans (bb.mono (Nat.le_trans hlo bel.size)); have hmB := hh; clear hh lt ge bb))
  with_reducible refine (tadv_any _ _ hT ha).mono ?_
  rintro e w2 ⟨rfl, hT_, f_, bb⟩
  have x_ := f_ _ _ _ _ hmB ap_mB
  replace hmB := x_.1
  replace ap_mB := x_.2
  clear x_
  replace fr := fr.trans f_
  clear hT
  have hT := hT_
  replace bel := bel.trans bb
  clear bb f_ hT_
  obtain ⟨A, n, c, mb, htb, otb, hM, own, hok⟩ := hT
  dsimp only at htb hM own
  have off_tb := ofs_type own htb (by decide)
  have hl := row_len (by decide) mpE_len own
  have HLL := Lib.hid hl
  have HOK := Lib.hid hok
  have H32 : Hid (n ≤ 1000) := Lib.hid (by have h1_ := hok.len; have h2_ := hok.r1; simp only at h1_ h2_; omega)
  have H128 : Hid (n ≤ 128) := Lib.hid (by have h1_ := hok.len; have h2_ := hok.r1; simp only at h1_ h2_; omega)
  clear hl hok
  have fo := fr.fo htb
  clear fr
  have hin_ : i < n := by have h1_ := (List.getElem?_eq_some_iff.1 hx).1; have h2_ := HLL.out; omega
  have i0 : (0 : Int) ≤ i := by omega
  have i1 : (i : Int) < n := by omega
  obtain ⟨gE, rfl, _⟩ := row_at own (by omega)
  have en := (owk_sle (by decide) mpE_len own).1
  have av_en_tb := owk_av own off_tb
  clear hin_
  have HX := Lib.hid hx
  clear hx
  have HOK2 := Lib.hid (HOK.out.set (y := ⟨x.pr, x.o, x.ad, x.i, x.k, m.u⟩) HX.out rfl rfl)
  have off_mB := ap_mB.ofs htb
  have d_mB_tb := Lib.hid ap_mB.1
  clear ap_mB
  have av_en_mB := owk_av own off_mB
  go_wp2_with fail
  replace bel := bel.drew
  replace hmB : w2.drew.heap[g4]? = _ := hmB
  replace htb : w2.drew.heap[gt]? = _ := htb
  replace en := en.drew
  replace own := World.ownsRow.drew own
  replace fo := fo_drew fo
  replace hM := om_drew hM
  refine wp_region_held_drew (S := fun W => W.heap[g4]? = some (.cells #[.int .i64 m.pr, .int .i64 m.o, .int .u8 (m.ad.a.toNat : Int), .int .u8 (m.ad.b.toNat : Int), .int .u8 (m.ad.c.toNat : Int), .int .u8 (m.ad.d.toNat : Int), .int .i64 m.i, .int .i64 m.k, .int .i64 m.u] 31 (0, 0)) ∧ W.heap[gt]? = some (.cells #[.int .i64 lw, .int .i64 rm, .int .i64 now, .slice (some ⟨gE, 0, none⟩) n c, .map (some mb)] 55 (0, 0))) (by kernel_rfl) ⟨hmB, htb⟩ (fun hH => ?_)
  generalize w2.drew = w3 at bel hmB htb en own fo hM hH ⊢
  refine wpAnyH_take (i := 0) (v := .agg #[.int .i64 m.pr, .int .i64 m.o, .int .u8 (m.ad.a.toNat : Int), .int .u8 (m.ad.b.toNat : Int), .int .u8 (m.ad.c.toNat : Int), .int .u8 (m.ad.d.toNat : Int), .int .i64 m.i, .int .i64 m.k, .int .i64 m.u]) rfl (by kernel_rfl) (by kernel_rfl) (by kernel_rfl) (fun _ _ _ h => h) (yieldsIf_load_part (by kernel_rfl) 31 _ rfl g4 0 9 rfl _ 31 (0, 0) (fun W hW => hW.1) _ rfl _ Try.underlying31 rfl (by kernel_rfl)) hH ?_
  simp only [Act.put, List.getElem_toArray, List.getElem_cons_zero, List.setIfInBounds_toArray, List.set_cons_zero, List.set_cons_succ]
  refine wpAnyH_ready (rs := [1]) (by kernel_rfl) (by simp) ?_
  refine AllReadyH.cons (o := _) rfl (fun K hK => ?_) AllReadyH.nil
  simp only [List.getElem_toArray, List.getElem_cons_zero, List.getElem_cons_succ]
  go_simp
  with_reducible refine (perm_any _ HPM.out).mono ?_
  rintro e w4 ⟨rfl, b4⟩
  dsimp only
  replace hmB := blk_u hmB b4
  replace htb := blk_u htb b4
  replace en := en.below b4
  replace own := owk_under own b4
  replace fo := fo.below b4
  replace hM := hM.below b4
  replace bel := bel.trans (b4.mono (Nat.le_trans hlo bel.size))
  clear b4
  refine hK.out _ _ ⟨hmB, htb⟩ (fun hH5 => ?_)
  clear hK K
  refine wpAnyH_take (i := 2) (v := ?_) rfl (by kernel_rfl) (by kernel_rfl) (by kernel_rfl) (fun _ _ _ h => h) (Or.inl ⟨by rfl, ?_⟩) hH5 ?_
  rotate_left
  · ((intro W hW; clear hW; go_simp) <;> with_reducible rfl)
  simp only [Act.put, List.getElem_toArray, List.getElem_cons_zero, List.getElem_cons_succ, List.setIfInBounds_toArray, List.set_cons_zero, List.set_cons_succ]
  refine wpAnyH_take (i := 3) (v := ?_) rfl (by kernel_rfl) (by kernel_rfl) (by kernel_rfl) (fun _ _ _ h => h) (Or.inl ⟨by rfl, ?_⟩) hH5 ?_
  rotate_left
  · ((intro W hW; clear hW; go_simp) <;> with_reducible rfl)
  simp only [Act.put, List.getElem_toArray, List.getElem_cons_zero, List.getElem_cons_succ, List.setIfInBounds_toArray, List.set_cons_zero, List.set_cons_succ]
  refine wpAnyH_take (i := 4) (v := .agg #[.int .i64 m.pr, .int .i64 m.o, .int .u8 (m.ad.a.toNat : Int), .int .u8 (m.ad.b.toNat : Int), .int .u8 (m.ad.c.toNat : Int), .int .u8 (m.ad.d.toNat : Int), .int .i64 m.i, .int .i64 m.k, .int .i64 m.u]) rfl (by kernel_rfl) (by kernel_rfl) (by kernel_rfl) (fun _ _ _ h => h) (yieldsIf_load_part (by kernel_rfl) 31 _ rfl g4 0 9 rfl _ 31 (0, 0) (fun W hW => hW.1) _ rfl _ Try.underlying31 rfl (by kernel_rfl)) hH5 ?_
  simp only [Act.put, List.getElem_toArray, List.getElem_cons_zero, List.getElem_cons_succ, List.setIfInBounds_toArray, List.set_cons_zero, List.set_cons_succ]
  refine wpAnyH_take (i := 5) (v := ?_) rfl (by kernel_rfl) (by kernel_rfl) (by kernel_rfl) (fun _ _ _ h => h) (Or.inl ⟨by rfl, ?_⟩) hH5 ?_
  rotate_left
  · ((intro W hW; clear hW; go_simp) <;> with_reducible rfl)
  simp only [Act.put, List.getElem_toArray, List.getElem_cons_zero, List.getElem_cons_succ, List.setIfInBounds_toArray, List.set_cons_zero, List.set_cons_succ]
  refine wpAnyH_take (i := 6) (v := ?_) rfl (by kernel_rfl) (by kernel_rfl) (by kernel_rfl) (fun _ _ _ h => h) (Or.inl ⟨by rfl, ?_⟩) hH5 ?_
  rotate_left
  · ((intro W hW; clear hW; go_simp) <;> with_reducible rfl)
  simp only [Act.put, List.getElem_toArray, List.getElem_cons_zero, List.getElem_cons_succ, List.setIfInBounds_toArray, List.set_cons_zero, List.set_cons_succ]
  refine wpAnyH_take (i := 7) (v := ?_) rfl (by kernel_rfl) (by kernel_rfl) (by kernel_rfl) (fun _ _ _ h => h) (Or.inl ⟨by rfl, ?_⟩) hH5 ?_
  rotate_left
  · ((intro W hW; clear hW; go_simp) <;> with_reducible rfl)
  simp only [Act.put, List.getElem_toArray, List.getElem_cons_zero, List.getElem_cons_succ, List.setIfInBounds_toArray, List.set_cons_zero, List.set_cons_succ]
  refine wpAnyH_take (i := 8) (v := ?_) rfl (by kernel_rfl) (by kernel_rfl) (by kernel_rfl) (fun _ _ _ h => h) (Or.inl ⟨by rfl, ?_⟩) hH5 ?_
  rotate_left
  · ((intro W hW; have hk := cell_lit (hW.2) 2 _ rfl; clear hW; go_simp) <;> with_reducible rfl)
  simp only [Act.put, List.getElem_toArray, List.getElem_cons_zero, List.getElem_cons_succ, List.setIfInBounds_toArray, List.set_cons_zero, List.set_cons_succ]
  refine wpAnyH_ready (rs := [9]) (by kernel_rfl) (by simp) ?_
  refine AllReadyH.cons (o := _) rfl (fun K hK => ?_) AllReadyH.nil
  simp only [List.getElem_toArray, List.getElem_cons_zero, List.getElem_cons_succ]
  go_simp
  with_reducible refine (live_any _ HLV.out).mono ?_
  rintro e w6 ⟨rfl, b6⟩
  dsimp only
  replace hmB := blk_u hmB b6
  replace htb := blk_u htb b6
  replace en := en.below b6
  replace own := owk_under own b6
  replace fo := fo.below b6
  replace hM := hM.below b6
  replace bel := bel.trans (b6.mono (Nat.le_trans hlo bel.size))
  clear b6
  refine hK.out _ _ ⟨hmB, htb⟩ (fun hH7 => ?_)
  clear hK K
  refine wpAnyH_take (i := 10) (v := ?_) rfl (by kernel_rfl) (by kernel_rfl) (by kernel_rfl) (fun _ _ _ h => h) (Or.inl ⟨by rfl, ?_⟩) hH7 ?_
  rotate_left
  · ((intro W hW; clear hW; go_simp) <;> with_reducible rfl)
  simp only [Act.put, List.getElem_toArray, List.getElem_cons_zero, List.getElem_cons_succ, List.setIfInBounds_toArray, List.set_cons_zero, List.set_cons_succ]
  refine wpAnyH_take (i := 11) (v := ?_) rfl (by kernel_rfl) (by kernel_rfl) (by kernel_rfl) (fun _ _ _ h => h) (Or.inl ⟨by rfl, ?_⟩) hH7 ?_
  rotate_left
  · ((intro W hW; clear hW; go_simp) <;> with_reducible rfl)
  simp only [Act.put, List.getElem_toArray, List.getElem_cons_zero, List.getElem_cons_succ, List.setIfInBounds_toArray, List.set_cons_zero, List.set_cons_succ]
  refine wpAnyH_done (by kernel_rfl) ?_ _
  have R24 := Lib.hid (range_lit hmB 0 9 [.int .i64 m.pr, .int .i64 m.o, .int .u8 (m.ad.a.toNat : Int), .int .u8 (m.ad.b.toNat : Int), .int .u8 (m.ad.c.toNat : Int), .int .u8 (m.ad.d.toNat : Int), .int .i64 m.i, .int .i64 m.k, .int .i64 m.u] rfl)
  go_wp2_with (first | ((with_reducible show wpList _ _ _ (⟨some 24, _, _, _, _, _⟩ :: _) _ _); refine wpList_load_rng 31 (.tmp 4) rfl (by kernel_rfl) _ _ rfl _ R24.out _ Try.underlying31 rfl (by kernel_rfl) ?_))
  try clear R24
  with_reducible refine (mport_any m _).mono ?_
  rintro e w8 ⟨rfl, b8⟩
  replace hmB := blk_u hmB b8
  replace htb := blk_u htb b8
  replace en := en.below b8
  replace own := owk_under own b8
  replace fo := fo.below b8
  replace hM := hM.below b8
  replace bel := bel.trans (b8.mono (Nat.le_trans hlo bel.size))
  clear b8
  go_wp2_with fail
  with_reducible refine (mat_some m.pr m.o _ htb en av_en_tb HOK.out.srt HOK.out.okp HMO.out H32.out HQ.out HF.out HX.out).mono ?_
  rintro e w9 ⟨rfl, b9⟩
  replace hmB := blk_u hmB b9
  replace htb := blk_u htb b9
  replace en := en.below b9
  replace own := owk_under own b9
  replace fo := fo.below b9
  replace hM := hM.below b9
  replace bel := bel.trans (b9.mono (Nat.le_trans hlo bel.size))
  clear b9
  go_wp2_with fail
  replace bel := bel.drew
  replace hmB : w9.drew.heap[g4]? = _ := hmB
  replace htb : w9.drew.heap[gt]? = _ := htb
  replace en := en.drew
  replace own := World.ownsRow.drew own
  replace fo := fo_drew fo
  replace hM := om_drew hM
  refine wp_region_held_drew (S := fun W => W.heap[g4]? = some (.cells #[.int .i64 m.pr, .int .i64 m.o, .int .u8 (m.ad.a.toNat : Int), .int .u8 (m.ad.b.toNat : Int), .int .u8 (m.ad.c.toNat : Int), .int .u8 (m.ad.d.toNat : Int), .int .i64 m.i, .int .i64 m.k, .int .i64 m.u] 31 (0, 0)) ∧ Sle mpE 9 W (some ⟨gE, 0, none⟩) (n) (c) (l)) (by kernel_rfl) ⟨hmB, en⟩ (fun hH => ?_)
  generalize w9.drew = w10 at bel hmB htb en own fo hM hH ⊢
  refine wpAnyH_take (i := 0) (v := .agg #[.int .i64 m.pr, .int .i64 m.o, .int .u8 (m.ad.a.toNat : Int), .int .u8 (m.ad.b.toNat : Int), .int .u8 (m.ad.c.toNat : Int), .int .u8 (m.ad.d.toNat : Int), .int .i64 m.i, .int .i64 m.k, .int .i64 m.u]) rfl (by kernel_rfl) (by kernel_rfl) (by kernel_rfl) (fun _ _ _ h => h) (yieldsIf_load_part (by kernel_rfl) 31 _ rfl g4 0 9 rfl _ 31 (0, 0) (fun W hW => hW.1) _ rfl _ Try.underlying31 rfl (by kernel_rfl)) hH ?_
  simp only [Act.put, List.getElem_toArray, List.getElem_cons_zero, List.setIfInBounds_toArray, List.set_cons_zero, List.set_cons_succ]
  refine wpAnyH_take (i := 1) (v := ?_) rfl (by kernel_rfl) (by kernel_rfl) (by kernel_rfl) (fun _ _ _ h => h) (Or.inl ⟨by rfl, ?_⟩) hH ?_
  rotate_left
  · ((intro W hW; clear hW; go_simp) <;> with_reducible rfl)
  simp only [Act.put, List.getElem_toArray, List.getElem_cons_zero, List.getElem_cons_succ, List.setIfInBounds_toArray, List.set_cons_zero, List.set_cons_succ]
  refine wpAnyH_take (i := 2) (v := ?_) rfl (by kernel_rfl) (by kernel_rfl) (by kernel_rfl) (fun _ _ _ h => h) (Or.inl ⟨by rfl, ?_⟩) hH ?_
  rotate_left
  · ((intro W hW; clear hW; go_simp) <;> with_reducible rfl)
  simp only [Act.put, List.getElem_toArray, List.getElem_cons_zero, List.getElem_cons_succ, List.setIfInBounds_toArray, List.set_cons_zero, List.set_cons_succ]
  refine wpAnyH_take (i := 3) (v := .agg #[.int .i64 x.pr, .int .i64 x.o, .int .u8 (x.ad.a.toNat : Int), .int .u8 (x.ad.b.toNat : Int), .int .u8 (x.ad.c.toNat : Int), .int .u8 (x.ad.d.toNat : Int), .int .i64 x.i, .int .i64 x.k, .int .i64 x.u]) rfl (by kernel_rfl) (by kernel_rfl) (by kernel_rfl) (fun _ _ _ h => h) (yieldsIf_load_mid (by kernel_rfl) 31 _ rfl gE (i * 9) rfl [.int .i64 x.pr, .int .i64 x.o, .int .u8 (x.ad.a.toNat : Int), .int .u8 (x.ad.b.toNat : Int), .int .u8 (x.ad.c.toNat : Int), .int .u8 (x.ad.d.toNat : Int), .int .i64 x.i, .int .i64 x.k, .int .i64 x.u] _ (fun W hW => Sle.zrange0 (hW.2) HX.out 9 [.int .i64 x.pr, .int .i64 x.o, .int .u8 (x.ad.a.toNat : Int), .int .u8 (x.ad.b.toNat : Int), .int .u8 (x.ad.c.toNat : Int), .int .u8 (x.ad.d.toNat : Int), .int .i64 x.i, .int .i64 x.k, .int .i64 x.u] rfl) Try.underlying31 rfl (by kernel_rfl)) hH ?_
  simp only [Act.put, List.getElem_toArray, List.getElem_cons_zero, List.getElem_cons_succ, List.setIfInBounds_toArray, List.set_cons_zero, List.set_cons_succ]
  refine wpAnyH_ready (rs := [4]) (by kernel_rfl) (by simp) ?_
  refine AllReadyH.cons (o := _) rfl (fun K hK => ?_) AllReadyH.nil
  simp only [List.getElem_toArray, List.getElem_cons_zero, List.getElem_cons_succ]
  go_simp
  with_reducible refine (ext_any _ HEX.out).mono ?_
  rintro e w11 ⟨rfl, b11⟩
  dsimp only
  replace hmB := blk_u hmB b11
  replace htb := blk_u htb b11
  replace en := en.below b11
  replace own := owk_under own b11
  replace fo := fo.below b11
  replace hM := hM.below b11
  replace bel := bel.trans (b11.mono (Nat.le_trans hlo bel.size))
  clear b11
  refine hK.out _ _ ⟨hmB, en⟩ (fun hH12 => ?_)
  clear hK K
  refine wpAnyH_take (i := 5) (v := ?_) rfl (by kernel_rfl) (by kernel_rfl) (by kernel_rfl) (fun _ _ _ h => h) (Or.inl ⟨by rfl, ?_⟩) hH12 ?_
  rotate_left
  · ((intro W hW; clear hW; go_simp) <;> with_reducible rfl)
  simp only [Act.put, List.getElem_toArray, List.getElem_cons_zero, List.getElem_cons_succ, List.setIfInBounds_toArray, List.set_cons_zero, List.set_cons_succ]
  refine wpAnyH_done (by kernel_rfl) ?_ _
  have R37 := cell_lit hmB 8 _ rfl
  go_wp2_with (first | ((with_reducible show wpList _ _ _ (⟨none, Op.store _ (.tmp 39) _, _, _, _, _⟩ :: _) _ _); refine wpList_store_el rfl 2 (.tmp 39) (.tmp 37) rfl gE i 8 x (⟨x.pr, x.o, x.ad, x.i, x.k, m.u⟩) rfl [.int .i64 m.u] rfl (by decide) mpE_len own HX.out (Nat.le_of_ble_eq_true rfl) rfl (by kernel_rfl) (by rfl) ?_; intro w13 own_ gw; replace bel := bel.trans (row_bel gw own (Nat.le_trans hlo bel.size)); replace hmB := blk_own (v := .slice (some ⟨gE, 0, none⟩) n c) hmB gw off_mB; replace htb := blk_own (v := .slice (some ⟨gE, 0, none⟩) n c) htb gw off_tb; replace fo := fo.row gw (fun _ _ h => h); replace hM := hM.row gw own; clear own; have own := own_; clear own_ gw; replace en := (owk_sle (by decide) mpE_len own).1))
  try clear R37
  go_ret
  exact ⟨rfl, ⟨(some ⟨gE, 0, none⟩), n, c, mb, htb, otb, hM, own, HOK2.out⟩, fo.fr htb, bel⟩
set_option linter.unusedVariables false in
set_option linter.unusedSimpArgs false in
set_option maxRecDepth 100000 in
set_option maxHeartbeats 16000000 in
theorem tin_none {lo gt : Nat} {s : Ts} {lw rm now : Int} {l os : List Mp} {p o : Int} (t : Int) (w : World) (hT : Tp lo gt w s) (ha : s.adv t = ⟨lw, rm, now, l, os⟩) (hpo : okP p o) (hf : mfhas l (kn p o) = false) : Calls Try.prog 19 #[.pointer (some ⟨gt, 0, none⟩), .int .i64 p, .int .i64 o, .int .i64 t] w fun e w' => e = .returned (.tuple #[.agg #[.int .i64 0, .int .i64 0, .int .u8 0, .int .u8 0, .int .u8 0, .int .u8 0, .int .i64 0, .int .i64 0, .int .i64 0], .bool false]) ∧ Tp lo gt w' ⟨lw, rm, now, l, os⟩ ∧ Fap gt w w' ∧ Below lo w w' := by
  have hlo : lo ≤ w.heap.size := hT.lo_le
  have HLO := Lib.hid hlo
  have fr := Fap.refl gt w
  have HPO := Lib.hid hpo
  have HF := Lib.hid hf
  clear hpo hf
  have bel := Below.refl lo w
  go_enter Try.func19, Try.ntmps19
  go_wp2_with (first | ((with_reducible show wpList _ _ _ (⟨some 8, _, _, _, _, _⟩ :: _) _ _); refine wpList_new_a rfl 31 rfl #[.int .i64 0, .int .i64 0, .int .u8 0, .int .u8 0, .int .u8 0, .int .u8 0, .int .i64 0, .int .i64 0, .int .i64 0] (by kernel_rfl) ?_; intro g8 w1 ge hh bb; have ap_rB := hT.ap ge; have orB := Nat.le_trans (Nat.le_trans hlo bel.size) ge; have pn_rB := Nat.le_trans bel.size ge; replace fr := fr.below bb; replace hT := hT.below bb; replace ap_rB := ap_rB.below bb; replace bel := bel.trans (bb.mono (Nat.le_trans hlo bel.size)); have hrB := hh; clear hh ge bb))
  with_reducible refine (tadv_any _ _ hT ha).mono ?_
  rintro e w2 ⟨rfl, hT_, f_, bb⟩
  have x_ := f_ _ _ _ _ hrB ap_rB
  replace hrB := x_.1
  replace ap_rB := x_.2
  clear x_
  replace fr := fr.trans f_
  clear hT
  have hT := hT_
  replace bel := bel.trans bb
  clear bb f_ hT_
  obtain ⟨A, n, c, mb, htb, otb, hM, own, hok⟩ := hT
  dsimp only at htb hM own
  have off_tb := ofs_type own htb (by decide)
  have hl := row_len (by decide) mpE_len own
  have HLL := Lib.hid hl
  have HOK := Lib.hid hok
  have H32 : Hid (n ≤ 1000) := Lib.hid (by have h1_ := hok.len; have h2_ := hok.r1; simp only at h1_ h2_; omega)
  have H128 : Hid (n ≤ 128) := Lib.hid (by have h1_ := hok.len; have h2_ := hok.r1; simp only at h1_ h2_; omega)
  clear hl hok
  have fo := fr.fo htb
  clear fr
  have off_rB := ap_rB.ofs htb
  have d_rB_tb := Lib.hid ap_rB.1
  clear ap_rB
  go_wp2_with fail
  with_reducible refine (mat_none p o _ htb (owk_sle (by decide) mpE_len own).1 HOK.out.srt HOK.out.okp HPO.out H32.out HF.out).mono ?_
  rintro e w3 ⟨rfl, b3⟩
  replace hrB := blk_u hrB b3
  replace htb := blk_u htb b3
  replace own := owk_under own b3
  replace fo := fo.below b3
  replace hM := hM.below b3
  replace bel := bel.trans (b3.mono (Nat.le_trans hlo bel.size))
  clear b3
  go_wp2_with fail
  with_reducible refine (found_none _).mono ?_
  rintro e w4 ⟨rfl, b4⟩
  replace hrB := blk_u hrB b4
  replace htb := blk_u htb b4
  replace own := owk_under own b4
  replace fo := fo.below b4
  replace hM := hM.below b4
  replace bel := bel.trans (b4.mono (Nat.le_trans hlo bel.size))
  clear b4
  go_wp2_with (first | ((with_reducible show wpList _ _ _ (⟨none, Op.store _ (.tmp 8) _, _, _, _, _⟩ :: _) _ _); refine wpList_store_blk rfl 31 (.tmp 8) (.tmp 19) rfl g8 rfl _ rfl _ 31 hrB (by rfl) (by kernel_rfl) (by kernel_rfl) ?_; intro w5 hq gr; replace htb := blk_a htb gr (ne_symm d_rB_tb); replace own := owk_off own off_rB gr; replace fo := fo.newer gr pn_rB; replace hM := hM.grown gr hrB; replace bel := below_grown bel gr orB (Nat.le_trans hlo bel.size); clear hrB; have hrB := hq; clear hq gr))
  exact bodyPost_ret (results_cell_tmp_row rfl _ _ _ _ _ _ _ rfl hrB Try.underlying31 rfl (by kernel_rfl) (.bool false) rfl) rfl ⟨rfl, ⟨A, n, c, mb, htb, otb, hM, own, HOK.out⟩, fo.fr htb, bel⟩
set_option linter.unusedVariables false in
set_option linter.unusedSimpArgs false in
set_option maxRecDepth 100000 in
set_option maxHeartbeats 16000000 in
theorem tin_some {lo gt : Nat} {s : Ts} {lw rm now : Int} {l os : List Mp} {p o : Int} {i : Nat} {x : Mp} (t : Int) (w : World) (hT : Tp lo gt w s) (ha : s.adv t = ⟨lw, rm, now, l, os⟩) (hpo : okP p o) (hf : mfhas l (kn p o) = true) (hq : mfpos l (kn p o) = i) (hx : l[i]? = some x) : Calls Try.prog 19 #[.pointer (some ⟨gt, 0, none⟩), .int .i64 p, .int .i64 o, .int .i64 t] w fun e w' => e = .returned (.tuple #[.agg #[.int .i64 x.pr, .int .i64 x.o, .int .u8 (x.ad.a.toNat : Int), .int .u8 (x.ad.b.toNat : Int), .int .u8 (x.ad.c.toNat : Int), .int .u8 (x.ad.d.toNat : Int), .int .i64 x.i, .int .i64 x.k, .int .i64 x.u], .bool true]) ∧ Tp lo gt w' ⟨lw, rm, now, l, os⟩ ∧ Fap gt w w' ∧ Below lo w w' := by
  have hlo : lo ≤ w.heap.size := hT.lo_le
  have HLO := Lib.hid hlo
  have fr := Fap.refl gt w
  have HPO := Lib.hid hpo
  have HF := Lib.hid hf
  clear hpo hf
  have HQ := Lib.hid hq
  clear hq
  have bel := Below.refl lo w
  go_enter Try.func19, Try.ntmps19
  go_wp2_with (first | ((with_reducible show wpList _ _ _ (⟨some 8, _, _, _, _, _⟩ :: _) _ _); refine wpList_new_a rfl 31 rfl #[.int .i64 0, .int .i64 0, .int .u8 0, .int .u8 0, .int .u8 0, .int .u8 0, .int .i64 0, .int .i64 0, .int .i64 0] (by kernel_rfl) ?_; intro g8 w1 ge hh bb; have ap_rB := hT.ap ge; have orB := Nat.le_trans (Nat.le_trans hlo bel.size) ge; have pn_rB := Nat.le_trans bel.size ge; replace fr := fr.below bb; replace hT := hT.below bb; replace ap_rB := ap_rB.below bb; replace bel := bel.trans (bb.mono (Nat.le_trans hlo bel.size)); have hrB := hh; clear hh ge bb))
  with_reducible refine (tadv_any _ _ hT ha).mono ?_
  rintro e w2 ⟨rfl, hT_, f_, bb⟩
  have x_ := f_ _ _ _ _ hrB ap_rB
  replace hrB := x_.1
  replace ap_rB := x_.2
  clear x_
  replace fr := fr.trans f_
  clear hT
  have hT := hT_
  replace bel := bel.trans bb
  clear bb f_ hT_
  obtain ⟨A, n, c, mb, htb, otb, hM, own, hok⟩ := hT
  dsimp only at htb hM own
  have off_tb := ofs_type own htb (by decide)
  have hl := row_len (by decide) mpE_len own
  have HLL := Lib.hid hl
  have HOK := Lib.hid hok
  have H32 : Hid (n ≤ 1000) := Lib.hid (by have h1_ := hok.len; have h2_ := hok.r1; simp only at h1_ h2_; omega)
  have H128 : Hid (n ≤ 128) := Lib.hid (by have h1_ := hok.len; have h2_ := hok.r1; simp only at h1_ h2_; omega)
  clear hl hok
  have fo := fr.fo htb
  clear fr
  have hin_ : i < n := by have h1_ := (List.getElem?_eq_some_iff.1 hx).1; have h2_ := HLL.out; omega
  have i0 : (0 : Int) ≤ i := by omega
  have i1 : (i : Int) < n := by omega
  obtain ⟨gE, rfl, _⟩ := row_at own (by omega)
  have en := (owk_sle (by decide) mpE_len own).1
  have av_en_tb := owk_av own off_tb
  clear hin_
  have HX := Lib.hid hx
  clear hx
  have off_rB := ap_rB.ofs htb
  have d_rB_tb := Lib.hid ap_rB.1
  clear ap_rB
  have av_en_rB := owk_av own off_rB
  go_wp2_with fail
  with_reducible refine (mat_some p o _ htb en av_en_tb HOK.out.srt HOK.out.okp HPO.out H32.out HQ.out HF.out HX.out).mono ?_
  rintro e w3 ⟨rfl, b3⟩
  replace hrB := blk_u hrB b3
  replace htb := blk_u htb b3
  replace en := en.below b3
  replace own := owk_under own b3
  replace fo := fo.below b3
  replace hM := hM.below b3
  replace bel := bel.trans (b3.mono (Nat.le_trans hlo bel.size))
  clear b3
  go_wp2_with fail
  with_reducible refine (found_at _ en HX.out).mono ?_
  rintro e w4 ⟨rfl, b4⟩
  replace hrB := blk_u hrB b4
  replace htb := blk_u htb b4
  replace en := en.below b4
  replace own := owk_under own b4
  replace fo := fo.below b4
  replace hM := hM.below b4
  replace bel := bel.trans (b4.mono (Nat.le_trans hlo bel.size))
  clear b4
  go_wp2_with (first | ((with_reducible show wpList _ _ _ (⟨none, Op.store _ (.tmp 8) _, _, _, _, _⟩ :: _) _ _); refine wpList_store_blk rfl 31 (.tmp 8) (.tmp 19) rfl g8 rfl _ rfl _ 31 hrB (by rfl) (by kernel_rfl) (by kernel_rfl) ?_; intro w5 hq gr; replace en := en.away av_en_rB gr; replace htb := blk_a htb gr (ne_symm d_rB_tb); replace own := owk_off own off_rB gr; replace fo := fo.newer gr pn_rB; replace hM := hM.grown gr hrB; replace bel := below_grown bel gr orB (Nat.le_trans hlo bel.size); clear hrB; have hrB := hq; clear hq gr))
  exact bodyPost_ret (results_cell_tmp_row rfl _ _ _ _ _ _ _ rfl hrB Try.underlying31 rfl (by kernel_rfl) (.bool true) rfl) rfl ⟨rfl, ⟨(some ⟨gE, 0, none⟩), n, c, mb, htb, otb, hM, own, HOK.out⟩, fo.fr htb, bel⟩
set_option linter.unusedVariables false in
set_option linter.unusedSimpArgs false in
set_option maxRecDepth 100000 in
set_option maxHeartbeats 16000000 in
theorem tlen_any {lo gt : Nat} {s : Ts} {lw rm now : Int} {l os : List Mp} (t : Int) (w : World) (hT : Tp lo gt w s) (ha : s.adv t = ⟨lw, rm, now, l, os⟩)  : Calls Try.prog 17 #[.pointer (some ⟨gt, 0, none⟩), .int .i64 t] w fun e w' => e = .returned (.int .i64 (l.length : Int)) ∧ Tp lo gt w' ⟨lw, rm, now, l, os⟩ ∧ Fap gt w w' ∧ Below lo w w' := by
  have hlo : lo ≤ w.heap.size := hT.lo_le
  have HLO := Lib.hid hlo
  have fr := Fap.refl gt w
  have bel := Below.refl lo w
  go_enter Try.func17, Try.ntmps17
  go_wp2_with fail
  with_reducible refine (tadv_any _ _ hT ha).mono ?_
  rintro e w1 ⟨rfl, hT_, f_, bb⟩
  replace fr := fr.trans f_
  clear hT
  have hT := hT_
  replace bel := bel.trans bb
  clear bb f_ hT_
  obtain ⟨A, n, c, mb, htb, otb, hM, own, hok⟩ := hT
  dsimp only at htb hM own
  have off_tb := ofs_type own htb (by decide)
  have hl := row_len (by decide) mpE_len own
  have HLL := Lib.hid hl
  have HOK := Lib.hid hok
  have H32 : Hid (n ≤ 1000) := Lib.hid (by have h1_ := hok.len; have h2_ := hok.r1; simp only at h1_ h2_; omega)
  have H128 : Hid (n ≤ 128) := Lib.hid (by have h1_ := hok.len; have h2_ := hok.r1; simp only at h1_ h2_; omega)
  clear hl hok
  have fo := fr.fo htb
  clear fr
  have R11 := cell_lit htb 3 _ rfl
  go_wp2_with fail
  clear R11
  go_ret
  exact ⟨by rw [HLL.out]; rfl, ⟨A, n, c, mb, htb, otb, hM, own, HOK.out⟩, fo.fr htb, bel⟩
set_option linter.unusedVariables false in
set_option linter.unusedSimpArgs false in
set_option maxRecDepth 100000 in
set_option maxHeartbeats 16000000 in
theorem tmake_1 {lo gt : Nat} {s : Ts} {lw rm now : Int} {l os : List Mp} {pr p : Int} {ad : Ad4} {sc : Int} (t : Int) (w : World) (hT : Tp lo gt w s) (ha : s.adv t = ⟨lw, rm, now, l, os⟩) (hpb : portB pr p = false) : Calls Try.prog 13 #[.pointer (some ⟨gt, 0, none⟩), .agg #[.int .i64 pr, .int .u8 (ad.a.toNat : Int), .int .u8 (ad.b.toNat : Int), .int .u8 (ad.c.toNat : Int), .int .u8 (ad.d.toNat : Int), .int .i64 p], .int .i64 t, .int .i64 sc] w fun e w' => e = .returned (.tuple #[.agg #[.int .i64 0, .int .i64 0, .int .u8 0, .int .u8 0, .int .u8 0, .int .u8 0, .int .i64 0, .int .i64 0, .int .i64 0], .int .i64 1]) ∧ Tp lo gt w' ⟨lw, rm, now, l, os⟩ ∧ Fap gt w w' ∧ Below lo w w' := by
  have hlo : lo ≤ w.heap.size := hT.lo_le
  have HLO := Lib.hid hlo
  have fr := Fap.refl gt w
  have HPB := Lib.hid hpb
  clear hpb
  have bel := Below.refl lo w
  go_enter Try.func13, Try.ntmps13
  go_wp2_with (first | ((with_reducible show wpList _ _ _ (⟨some 5, _, _, _, _, _⟩ :: _) _ _); refine wpList_box_n rfl 36 (.tmp 1) rfl #[.int .i64 pr, .int .u8 (ad.a.toNat : Int), .int .u8 (ad.b.toNat : Int), .int .u8 (ad.c.toNat : Int), .int .u8 (ad.d.toNat : Int), .int .i64 p] rfl ?_; intro g5 w1 ge lt hh bb; have ap_fB := hT.ap ge; have ofB := Nat.le_trans (Nat.le_trans hlo bel.size) ge; have pn_fB := Nat.le_trans bel.size ge; replace fr := fr.below bb; replace hT := hT.below bb; replace ap_fB := ap_fB.below bb; replace bel := bel.trans (bb.mono (Nat.le_trans hlo bel.size)); have hfB := hh; clear hh lt ge bb) | ((with_reducible show wpList _ _ _ (⟨some 8, _, _, _, _, _⟩ :: _) _ _); refine wpList_new_a rfl 31 rfl #[.int .i64 0, .int .i64 0, .int .u8 0, .int .u8 0, .int .u8 0, .int .u8 0, .int .i64 0, .int .i64 0, .int .i64 0] (by kernel_rfl) ?_; intro g8 w2 ge hh bb; have ap_rB := hT.ap ge; have d_fB_rB := ne_new (hlt hfB) ge; have orB := Nat.le_trans (Nat.le_trans hlo bel.size) ge; have pn_rB := Nat.le_trans bel.size ge; replace hfB := blk_u hfB bb; replace fr := fr.below bb; replace hT := hT.below bb; replace ap_fB := ap_fB.below bb; replace ap_rB := ap_rB.below bb; replace bel := bel.trans (bb.mono (Nat.le_trans hlo bel.size)); have hrB := hh; clear hh ge bb))
  with_reducible refine (tadv_any _ _ hT ha).mono ?_
  rintro e w3 ⟨rfl, hT_, f_, bb⟩
  have x_ := f_ _ _ _ _ hfB ap_fB
  replace hfB := x_.1
  replace ap_fB := x_.2
  clear x_
  have x_ := f_ _ _ _ _ hrB ap_rB
  replace hrB := x_.1
  replace ap_rB := x_.2
  clear x_
  replace fr := fr.trans f_
  clear hT
  have hT := hT_
  replace bel := bel.trans bb
  clear bb f_ hT_
  obtain ⟨A, n, c, mb, htb, otb, hM, own, hok⟩ := hT
  dsimp only at htb hM own
  have off_tb := ofs_type own htb (by decide)
  have hl := row_len (by decide) mpE_len own
  have HLL := Lib.hid hl
  have HOK := Lib.hid hok
  have H32 : Hid (n ≤ 1000) := Lib.hid (by have h1_ := hok.len; have h2_ := hok.r1; simp only at h1_ h2_; omega)
  have H128 : Hid (n ≤ 128) := Lib.hid (by have h1_ := hok.len; have h2_ := hok.r1; simp only at h1_ h2_; omega)
  clear hl hok
  have fo := fr.fo htb
  clear fr
  have off_fB := ap_fB.ofs htb
  have d_fB_tb := Lib.hid ap_fB.1
  clear ap_fB
  have off_rB := ap_rB.ofs htb
  have d_rB_tb := Lib.hid ap_rB.1
  clear ap_rB
  have R19 := cell_lit hfB 0 _ rfl
  have R21 := cell_lit hfB 5 _ rfl
  go_wp2_with fail
  clear R19 R21
  with_reducible refine (isport_any _ HPB.out).mono ?_
  rintro e _ ⟨rfl, rfl⟩
  go_wp2_with (first | ((with_reducible show wpList _ _ _ (⟨none, Op.store _ (.tmp 8) _, _, _, _, _⟩ :: _) _ _); refine wpList_store_blk rfl 31 (.tmp 8) (.tmp 29) rfl g8 rfl _ rfl _ 31 hrB (by rfl) (by kernel_rfl) (by kernel_rfl) ?_; intro w4 hq gr; replace hfB := blk_a hfB gr d_fB_rB; replace htb := blk_a htb gr (ne_symm d_rB_tb); replace own := owk_off own off_rB gr; replace fo := fo.newer gr pn_rB; replace hM := hM.grown gr hrB; replace bel := below_grown bel gr orB (Nat.le_trans hlo bel.size); clear hrB; have hrB := hq; clear hq gr))
  exact bodyPost_ret (results_cell_tmp_row rfl _ _ _ _ _ _ _ rfl hrB Try.underlying31 rfl (by kernel_rfl) (.int .i64 1) rfl) rfl ⟨rfl, ⟨A, n, c, mb, htb, otb, hM, own, HOK.out⟩, fo.fr htb, bel⟩
set_option linter.unusedVariables false in
set_option linter.unusedSimpArgs false in
set_option maxRecDepth 100000 in
set_option maxHeartbeats 16000000 in
theorem tmake_2 {lo gt : Nat} {s : Ts} {lw rm now : Int} {l os : List Mp} {pr p : Int} {ad : Ad4} {sc : Int} (t : Int) (w : World) (hT : Tp lo gt w s) (ha : s.adv t = ⟨lw, rm, now, l, os⟩) (hpb : portB pr p = true) (hsc : secsB sc = false) : Calls Try.prog 13 #[.pointer (some ⟨gt, 0, none⟩), .agg #[.int .i64 pr, .int .u8 (ad.a.toNat : Int), .int .u8 (ad.b.toNat : Int), .int .u8 (ad.c.toNat : Int), .int .u8 (ad.d.toNat : Int), .int .i64 p], .int .i64 t, .int .i64 sc] w fun e w' => e = .returned (.tuple #[.agg #[.int .i64 0, .int .i64 0, .int .u8 0, .int .u8 0, .int .u8 0, .int .u8 0, .int .i64 0, .int .i64 0, .int .i64 0], .int .i64 1]) ∧ Tp lo gt w' ⟨lw, rm, now, l, os⟩ ∧ Fap gt w w' ∧ Below lo w w' := by
  have hlo : lo ≤ w.heap.size := hT.lo_le
  have HLO := Lib.hid hlo
  have fr := Fap.refl gt w
  have HPB := Lib.hid hpb
  have HSC := Lib.hid hsc
  clear hpb hsc
  have bel := Below.refl lo w
  go_enter Try.func13, Try.ntmps13
  go_wp2_with (first | ((with_reducible show wpList _ _ _ (⟨some 5, _, _, _, _, _⟩ :: _) _ _); refine wpList_box_n rfl 36 (.tmp 1) rfl #[.int .i64 pr, .int .u8 (ad.a.toNat : Int), .int .u8 (ad.b.toNat : Int), .int .u8 (ad.c.toNat : Int), .int .u8 (ad.d.toNat : Int), .int .i64 p] rfl ?_; intro g5 w1 ge lt hh bb; have ap_fB := hT.ap ge; have ofB := Nat.le_trans (Nat.le_trans hlo bel.size) ge; have pn_fB := Nat.le_trans bel.size ge; replace fr := fr.below bb; replace hT := hT.below bb; replace ap_fB := ap_fB.below bb; replace bel := bel.trans (bb.mono (Nat.le_trans hlo bel.size)); have hfB := hh; clear hh lt ge bb) | ((with_reducible show wpList _ _ _ (⟨some 8, _, _, _, _, _⟩ :: _) _ _); refine wpList_new_a rfl 31 rfl #[.int .i64 0, .int .i64 0, .int .u8 0, .int .u8 0, .int .u8 0, .int .u8 0, .int .i64 0, .int .i64 0, .int .i64 0] (by kernel_rfl) ?_; intro g8 w2 ge hh bb; have ap_rB := hT.ap ge; have d_fB_rB := ne_new (hlt hfB) ge; have orB := Nat.le_trans (Nat.le_trans hlo bel.size) ge; have pn_rB := Nat.le_trans bel.size ge; replace hfB := blk_u hfB bb; replace fr := fr.below bb; replace hT := hT.below bb; replace ap_fB := ap_fB.below bb; replace ap_rB := ap_rB.below bb; replace bel := bel.trans (bb.mono (Nat.le_trans hlo bel.size)); have hrB := hh; clear hh ge bb))
  with_reducible refine (tadv_any _ _ hT ha).mono ?_
  rintro e w3 ⟨rfl, hT_, f_, bb⟩
  have x_ := f_ _ _ _ _ hfB ap_fB
  replace hfB := x_.1
  replace ap_fB := x_.2
  clear x_
  have x_ := f_ _ _ _ _ hrB ap_rB
  replace hrB := x_.1
  replace ap_rB := x_.2
  clear x_
  replace fr := fr.trans f_
  clear hT
  have hT := hT_
  replace bel := bel.trans bb
  clear bb f_ hT_
  obtain ⟨A, n, c, mb, htb, otb, hM, own, hok⟩ := hT
  dsimp only at htb hM own
  have off_tb := ofs_type own htb (by decide)
  have hl := row_len (by decide) mpE_len own
  have HLL := Lib.hid hl
  have HOK := Lib.hid hok
  have H32 : Hid (n ≤ 1000) := Lib.hid (by have h1_ := hok.len; have h2_ := hok.r1; simp only at h1_ h2_; omega)
  have H128 : Hid (n ≤ 128) := Lib.hid (by have h1_ := hok.len; have h2_ := hok.r1; simp only at h1_ h2_; omega)
  clear hl hok
  have fo := fr.fo htb
  clear fr
  have off_fB := ap_fB.ofs htb
  have d_fB_tb := Lib.hid ap_fB.1
  clear ap_fB
  have off_rB := ap_rB.ofs htb
  have d_rB_tb := Lib.hid ap_rB.1
  clear ap_rB
  have R19 := cell_lit hfB 0 _ rfl
  have R21 := cell_lit hfB 5 _ rfl
  go_wp2_with fail
  clear R19 R21
  with_reducible refine (isport_any _ HPB.out).mono ?_
  rintro e _ ⟨rfl, rfl⟩
  go_wp2_with fail
  with_reducible refine (secs_any _ HSC.out).mono ?_
  rintro e _ ⟨rfl, rfl⟩
  go_wp2_with (first | ((with_reducible show wpList _ _ _ (⟨none, Op.store _ (.tmp 8) _, _, _, _, _⟩ :: _) _ _); refine wpList_store_blk rfl 31 (.tmp 8) (.tmp 29) rfl g8 rfl _ rfl _ 31 hrB (by rfl) (by kernel_rfl) (by kernel_rfl) ?_; intro w4 hq gr; replace hfB := blk_a hfB gr d_fB_rB; replace htb := blk_a htb gr (ne_symm d_rB_tb); replace own := owk_off own off_rB gr; replace fo := fo.newer gr pn_rB; replace hM := hM.grown gr hrB; replace bel := below_grown bel gr orB (Nat.le_trans hlo bel.size); clear hrB; have hrB := hq; clear hq gr))
  exact bodyPost_ret (results_cell_tmp_row rfl _ _ _ _ _ _ _ rfl hrB Try.underlying31 rfl (by kernel_rfl) (.int .i64 1) rfl) rfl ⟨rfl, ⟨A, n, c, mb, htb, otb, hM, own, HOK.out⟩, fo.fr htb, bel⟩
set_option linter.unusedVariables false in
set_option linter.unusedSimpArgs false in
set_option maxRecDepth 100000 in
set_option maxHeartbeats 16000000 in
theorem tmake_old {lo gt : Nat} {s : Ts} {lw rm now : Int} {l os : List Mp} {pr p : Int} {ad : Ad4} {i : Nat} {x : Mp} {sc un : Int} (t : Int) (w : World) (hT : Tp lo gt w s) (ha : s.adv t = ⟨lw, rm, now, l, os⟩) (hpb : portB pr p = true) (hsc : secsB sc = true) (hu : now + sc = un) (hbf : bestF pr ad p l l.length = some i) (hx : l[i]? = some x) (hk : (x.k == 1) = true) : Calls Try.prog 13 #[.pointer (some ⟨gt, 0, none⟩), .agg #[.int .i64 pr, .int .u8 (ad.a.toNat : Int), .int .u8 (ad.b.toNat : Int), .int .u8 (ad.c.toNat : Int), .int .u8 (ad.d.toNat : Int), .int .i64 p], .int .i64 t, .int .i64 sc] w fun e w' => e = .returned (.tuple #[.agg #[.int .i64 x.pr, .int .i64 x.o, .int .u8 (x.ad.a.toNat : Int), .int .u8 (x.ad.b.toNat : Int), .int .u8 (x.ad.c.toNat : Int), .int .u8 (x.ad.d.toNat : Int), .int .i64 x.i, .int .i64 x.k, .int .i64 un], .int .i64 0]) ∧ Tp lo gt w' ⟨lw, rm, now, l.set i ⟨x.pr, x.o, x.ad, x.i, x.k, un⟩, os⟩ ∧ Fap gt w w' ∧ Below lo w w' := by
  have hlo : lo ≤ w.heap.size := hT.lo_le
  have HLO := Lib.hid hlo
  have fr := Fap.refl gt w
  have HPB := Lib.hid hpb
  have HSC := Lib.hid hsc
  have HU := Lib.hid hu
  have HSR : Hid (1 ≤ sc ∧ sc ≤ 1000000000) := Lib.hid (by unfold secsB at hsc; simpa using hsc)
  clear hpb hsc hu
  have bel := Below.refl lo w
  go_enter Try.func13, Try.ntmps13
  go_wp2_with (first | ((with_reducible show wpList _ _ _ (⟨some 5, _, _, _, _, _⟩ :: _) _ _); refine wpList_box_n rfl 36 (.tmp 1) rfl #[.int .i64 pr, .int .u8 (ad.a.toNat : Int), .int .u8 (ad.b.toNat : Int), .int .u8 (ad.c.toNat : Int), .int .u8 (ad.d.toNat : Int), .int .i64 p] rfl ?_; intro g5 w1 ge lt hh bb; have ap_fB := hT.ap ge; have ofB := Nat.le_trans (Nat.le_trans hlo bel.size) ge; have pn_fB := Nat.le_trans bel.size ge; replace fr := fr.below bb; replace hT := hT.below bb; replace ap_fB := ap_fB.below bb; replace bel := bel.trans (bb.mono (Nat.le_trans hlo bel.size)); have hfB := hh; clear hh lt ge bb) | ((with_reducible show wpList _ _ _ (⟨some 8, _, _, _, _, _⟩ :: _) _ _); refine wpList_new_a rfl 31 rfl #[.int .i64 0, .int .i64 0, .int .u8 0, .int .u8 0, .int .u8 0, .int .u8 0, .int .i64 0, .int .i64 0, .int .i64 0] (by kernel_rfl) ?_; intro g8 w2 ge hh bb; have ap_rB := hT.ap ge; have d_fB_rB := ne_new (hlt hfB) ge; have orB := Nat.le_trans (Nat.le_trans hlo bel.size) ge; have pn_rB := Nat.le_trans bel.size ge; replace hfB := blk_u hfB bb; replace fr := fr.below bb; replace hT := hT.below bb; replace ap_fB := ap_fB.below bb; replace ap_rB := ap_rB.below bb; replace bel := bel.trans (bb.mono (Nat.le_trans hlo bel.size)); have hrB := hh; clear hh ge bb))
  with_reducible refine (tadv_any _ _ hT ha).mono ?_
  rintro e w3 ⟨rfl, hT_, f_, bb⟩
  have x_ := f_ _ _ _ _ hfB ap_fB
  replace hfB := x_.1
  replace ap_fB := x_.2
  clear x_
  have x_ := f_ _ _ _ _ hrB ap_rB
  replace hrB := x_.1
  replace ap_rB := x_.2
  clear x_
  replace fr := fr.trans f_
  clear hT
  have hT := hT_
  replace bel := bel.trans bb
  clear bb f_ hT_
  obtain ⟨A, n, c, mb, htb, otb, hM, own, hok⟩ := hT
  dsimp only at htb hM own
  have off_tb := ofs_type own htb (by decide)
  have hl := row_len (by decide) mpE_len own
  have HLL := Lib.hid hl
  have HOK := Lib.hid hok
  have H32 : Hid (n ≤ 1000) := Lib.hid (by have h1_ := hok.len; have h2_ := hok.r1; simp only at h1_ h2_; omega)
  have H128 : Hid (n ≤ 128) := Lib.hid (by have h1_ := hok.len; have h2_ := hok.r1; simp only at h1_ h2_; omega)
  clear hl hok
  have fo := fr.fo htb
  clear fr
  have hin_ : i < n := by have h1_ := (List.getElem?_eq_some_iff.1 hx).1; have h2_ := HLL.out; omega
  have i0 : (0 : Int) ≤ i := by omega
  have i1 : (i : Int) < n := by omega
  obtain ⟨gE, rfl, _⟩ := row_at own (by omega)
  have en := (owk_sle (by decide) mpE_len own).1
  have av_en_tb := owk_av own off_tb
  clear hin_
  have hw : IntKind.i64.wrap (now + sc) = un := by rw [← HU.out]; exact IntWalk.i64_in _ (by have h1_ := HOK.out.n0; have h2_ := HOK.out.n1; have h3_ := HSR.out; simp only at h1_ h2_; omega)
  have HBF : Hid (bestF pr ad p l n = some i) := Lib.hid (by rw [HLL.out] at hbf; exact hbf)
  clear hbf
  have HX := Lib.hid hx
  clear hx
  have HOK2 := Lib.hid (HOK.out.set (y := ⟨x.pr, x.o, x.ad, x.i, x.k, un⟩) HX.out rfl rfl)
  have off_fB := ap_fB.ofs htb
  have d_fB_tb := Lib.hid ap_fB.1
  clear ap_fB
  have av_en_fB := owk_av own off_fB
  have off_rB := ap_rB.ofs htb
  have d_rB_tb := Lib.hid ap_rB.1
  clear ap_rB
  have av_en_rB := owk_av own off_rB
  have R19 := cell_lit hfB 0 _ rfl
  have R21 := cell_lit hfB 5 _ rfl
  go_wp2_with fail
  clear R19 R21
  with_reducible refine (isport_any _ HPB.out).mono ?_
  rintro e _ ⟨rfl, rfl⟩
  go_wp2_with fail
  with_reducible refine (secs_any _ HSC.out).mono ?_
  rintro e _ ⟨rfl, rfl⟩
  have R33 := cell_lit htb 2 _ rfl
  have R37 := Lib.hid (range_lit hfB 0 6 [.int .i64 pr, .int .u8 (ad.a.toNat : Int), .int .u8 (ad.b.toNat : Int), .int .u8 (ad.c.toNat : Int), .int .u8 (ad.d.toNat : Int), .int .i64 p] rfl)
  go_wp2_with (first | ((with_reducible show wpList _ _ _ (⟨some 37, _, _, _, _, _⟩ :: _) _ _); refine wpList_load_rng 36 (.tmp 5) rfl (by kernel_rfl) _ _ rfl _ R37.out _ Try.underlying36 rfl (by kernel_rfl) ?_))
  try clear R33
  try clear R37
  with_reducible refine (bf_some _ htb en H32.out av_en_tb HBF.out).mono ?_
  rintro e w4 ⟨rfl, b4⟩
  replace hfB := blk_u hfB b4
  replace hrB := blk_u hrB b4
  replace htb := blk_u htb b4
  replace en := en.below b4
  replace own := owk_under own b4
  replace fo := fo.below b4
  replace hM := hM.below b4
  replace bel := bel.trans (b4.mono (Nat.le_trans hlo bel.size))
  clear b4
  have R44 := Sle.zcell en HX.out 7 _ rfl
  go_wp2_with (first | ((with_reducible show wpList _ _ _ (⟨none, Op.store _ (.tmp 49) _, _, _, _, _⟩ :: _) _ _); refine wpList_store_el rfl 2 (.tmp 49) (.tmp 47) rfl gE i 8 x (⟨x.pr, x.o, x.ad, x.i, x.k, un⟩) rfl [.int .i64 un] rfl (by decide) mpE_len own HX.out (Nat.le_of_ble_eq_true rfl) rfl (by kernel_rfl) (by rfl) ?_; intro w5 own_ gw; replace bel := bel.trans (row_bel gw own (Nat.le_trans hlo bel.size)); replace hfB := blk_own (v := .slice (some ⟨gE, 0, none⟩) n c) hfB gw off_fB; replace hrB := blk_own (v := .slice (some ⟨gE, 0, none⟩) n c) hrB gw off_rB; replace htb := blk_own (v := .slice (some ⟨gE, 0, none⟩) n c) htb gw off_tb; replace fo := fo.row gw (fun _ _ h => h); replace hM := hM.row gw own; clear own; have own := own_; clear own_ gw; replace en := (owk_sle (by decide) mpE_len own).1; have HXY : Hid ((l.set i ⟨x.pr, x.o, x.ad, x.i, x.k, un⟩)[i]? = some ⟨x.pr, x.o, x.ad, x.i, x.k, un⟩) := Lib.hid (List.getElem?_set_self (List.getElem?_eq_some_iff.1 HX.out).1); have R52 := Lib.hid (Sle.zrange0 en HXY.out 9 [.int .i64 x.pr, .int .i64 x.o, .int .u8 (x.ad.a.toNat : Int), .int .u8 (x.ad.b.toNat : Int), .int .u8 (x.ad.c.toNat : Int), .int .u8 (x.ad.d.toNat : Int), .int .i64 x.i, .int .i64 x.k, .int .i64 un] rfl)) | ((with_reducible show wpList _ _ _ (⟨some 52, _, _, _, _, _⟩ :: _) _ _); refine wpList_load_rng 31 (.tmp 51) rfl (by kernel_rfl) _ _ rfl _ R52.out _ Try.underlying31 rfl (by kernel_rfl) ?_) | ((with_reducible show wpList _ _ _ (⟨none, Op.store _ (.tmp 8) _, _, _, _, _⟩ :: _) _ _); refine wpList_store_blk rfl 31 (.tmp 8) (.tmp 52) rfl g8 rfl _ rfl _ 31 hrB (by rfl) (by kernel_rfl) (by kernel_rfl) ?_; intro w6 hq gr; replace en := en.away av_en_rB gr; replace hfB := blk_a hfB gr d_fB_rB; replace htb := blk_a htb gr (ne_symm d_rB_tb); replace own := owk_off own off_rB gr; replace fo := fo.newer gr pn_rB; replace hM := hM.grown gr hrB; replace bel := below_grown bel gr orB (Nat.le_trans hlo bel.size); clear hrB; have hrB := hq; clear hq gr))
  try clear R44
  try clear R52
  exact bodyPost_ret (results_cell_tmp_row rfl _ _ _ _ _ _ _ rfl hrB Try.underlying31 rfl (by kernel_rfl) (.int .i64 0) rfl) rfl ⟨rfl, ⟨(some ⟨gE, 0, none⟩), n, c, mb, htb, otb, hM, own, HOK2.out⟩, fo.fr htb, bel⟩
set_option linter.unusedVariables false in
set_option linter.unusedSimpArgs false in
set_option maxRecDepth 100000 in
set_option maxHeartbeats 16000000 in
theorem tmake_oth {lo gt : Nat} {s : Ts} {lw rm now : Int} {l os : List Mp} {pr p : Int} {ad : Ad4} {i : Nat} {x : Mp} {sc un : Int} (t : Int) (w : World) (hT : Tp lo gt w s) (ha : s.adv t = ⟨lw, rm, now, l, os⟩) (hpb : portB pr p = true) (hsc : secsB sc = true) (hu : now + sc = un) (hbf : bestF pr ad p l l.length = some i) (hx : l[i]? = some x) (hk : (x.k == 1) = false) : Calls Try.prog 13 #[.pointer (some ⟨gt, 0, none⟩), .agg #[.int .i64 pr, .int .u8 (ad.a.toNat : Int), .int .u8 (ad.b.toNat : Int), .int .u8 (ad.c.toNat : Int), .int .u8 (ad.d.toNat : Int), .int .i64 p], .int .i64 t, .int .i64 sc] w fun e w' => e = .returned (.tuple #[.agg #[.int .i64 x.pr, .int .i64 x.o, .int .u8 (x.ad.a.toNat : Int), .int .u8 (x.ad.b.toNat : Int), .int .u8 (x.ad.c.toNat : Int), .int .u8 (x.ad.d.toNat : Int), .int .i64 x.i, .int .i64 x.k, .int .i64 x.u], .int .i64 0]) ∧ Tp lo gt w' ⟨lw, rm, now, l, os⟩ ∧ Fap gt w w' ∧ Below lo w w' := by
  have hlo : lo ≤ w.heap.size := hT.lo_le
  have HLO := Lib.hid hlo
  have fr := Fap.refl gt w
  have HPB := Lib.hid hpb
  have HSC := Lib.hid hsc
  have HU := Lib.hid hu
  have HSR : Hid (1 ≤ sc ∧ sc ≤ 1000000000) := Lib.hid (by unfold secsB at hsc; simpa using hsc)
  clear hpb hsc hu
  have bel := Below.refl lo w
  go_enter Try.func13, Try.ntmps13
  go_wp2_with (first | ((with_reducible show wpList _ _ _ (⟨some 5, _, _, _, _, _⟩ :: _) _ _); refine wpList_box_n rfl 36 (.tmp 1) rfl #[.int .i64 pr, .int .u8 (ad.a.toNat : Int), .int .u8 (ad.b.toNat : Int), .int .u8 (ad.c.toNat : Int), .int .u8 (ad.d.toNat : Int), .int .i64 p] rfl ?_; intro g5 w1 ge lt hh bb; have ap_fB := hT.ap ge; have ofB := Nat.le_trans (Nat.le_trans hlo bel.size) ge; have pn_fB := Nat.le_trans bel.size ge; replace fr := fr.below bb; replace hT := hT.below bb; replace ap_fB := ap_fB.below bb; replace bel := bel.trans (bb.mono (Nat.le_trans hlo bel.size)); have hfB := hh; clear hh lt ge bb) | ((with_reducible show wpList _ _ _ (⟨some 8, _, _, _, _, _⟩ :: _) _ _); refine wpList_new_a rfl 31 rfl #[.int .i64 0, .int .i64 0, .int .u8 0, .int .u8 0, .int .u8 0, .int .u8 0, .int .i64 0, .int .i64 0, .int .i64 0] (by kernel_rfl) ?_; intro g8 w2 ge hh bb; have ap_rB := hT.ap ge; have d_fB_rB := ne_new (hlt hfB) ge; have orB := Nat.le_trans (Nat.le_trans hlo bel.size) ge; have pn_rB := Nat.le_trans bel.size ge; replace hfB := blk_u hfB bb; replace fr := fr.below bb; replace hT := hT.below bb; replace ap_fB := ap_fB.below bb; replace ap_rB := ap_rB.below bb; replace bel := bel.trans (bb.mono (Nat.le_trans hlo bel.size)); have hrB := hh; clear hh ge bb))
  with_reducible refine (tadv_any _ _ hT ha).mono ?_
  rintro e w3 ⟨rfl, hT_, f_, bb⟩
  have x_ := f_ _ _ _ _ hfB ap_fB
  replace hfB := x_.1
  replace ap_fB := x_.2
  clear x_
  have x_ := f_ _ _ _ _ hrB ap_rB
  replace hrB := x_.1
  replace ap_rB := x_.2
  clear x_
  replace fr := fr.trans f_
  clear hT
  have hT := hT_
  replace bel := bel.trans bb
  clear bb f_ hT_
  obtain ⟨A, n, c, mb, htb, otb, hM, own, hok⟩ := hT
  dsimp only at htb hM own
  have off_tb := ofs_type own htb (by decide)
  have hl := row_len (by decide) mpE_len own
  have HLL := Lib.hid hl
  have HOK := Lib.hid hok
  have H32 : Hid (n ≤ 1000) := Lib.hid (by have h1_ := hok.len; have h2_ := hok.r1; simp only at h1_ h2_; omega)
  have H128 : Hid (n ≤ 128) := Lib.hid (by have h1_ := hok.len; have h2_ := hok.r1; simp only at h1_ h2_; omega)
  clear hl hok
  have fo := fr.fo htb
  clear fr
  have hin_ : i < n := by have h1_ := (List.getElem?_eq_some_iff.1 hx).1; have h2_ := HLL.out; omega
  have i0 : (0 : Int) ≤ i := by omega
  have i1 : (i : Int) < n := by omega
  obtain ⟨gE, rfl, _⟩ := row_at own (by omega)
  have en := (owk_sle (by decide) mpE_len own).1
  have av_en_tb := owk_av own off_tb
  clear hin_
  have hw : IntKind.i64.wrap (now + sc) = un := by rw [← HU.out]; exact IntWalk.i64_in _ (by have h1_ := HOK.out.n0; have h2_ := HOK.out.n1; have h3_ := HSR.out; simp only at h1_ h2_; omega)
  have HBF : Hid (bestF pr ad p l n = some i) := Lib.hid (by rw [HLL.out] at hbf; exact hbf)
  clear hbf
  have HX := Lib.hid hx
  clear hx
  have off_fB := ap_fB.ofs htb
  have d_fB_tb := Lib.hid ap_fB.1
  clear ap_fB
  have av_en_fB := owk_av own off_fB
  have off_rB := ap_rB.ofs htb
  have d_rB_tb := Lib.hid ap_rB.1
  clear ap_rB
  have av_en_rB := owk_av own off_rB
  have R19 := cell_lit hfB 0 _ rfl
  have R21 := cell_lit hfB 5 _ rfl
  go_wp2_with fail
  clear R19 R21
  with_reducible refine (isport_any _ HPB.out).mono ?_
  rintro e _ ⟨rfl, rfl⟩
  go_wp2_with fail
  with_reducible refine (secs_any _ HSC.out).mono ?_
  rintro e _ ⟨rfl, rfl⟩
  have R33 := cell_lit htb 2 _ rfl
  have R37 := Lib.hid (range_lit hfB 0 6 [.int .i64 pr, .int .u8 (ad.a.toNat : Int), .int .u8 (ad.b.toNat : Int), .int .u8 (ad.c.toNat : Int), .int .u8 (ad.d.toNat : Int), .int .i64 p] rfl)
  go_wp2_with (first | ((with_reducible show wpList _ _ _ (⟨some 37, _, _, _, _, _⟩ :: _) _ _); refine wpList_load_rng 36 (.tmp 5) rfl (by kernel_rfl) _ _ rfl _ R37.out _ Try.underlying36 rfl (by kernel_rfl) ?_))
  try clear R33
  try clear R37
  with_reducible refine (bf_some _ htb en H32.out av_en_tb HBF.out).mono ?_
  rintro e w4 ⟨rfl, b4⟩
  replace hfB := blk_u hfB b4
  replace hrB := blk_u hrB b4
  replace htb := blk_u htb b4
  replace en := en.below b4
  replace own := owk_under own b4
  replace fo := fo.below b4
  replace hM := hM.below b4
  replace bel := bel.trans (b4.mono (Nat.le_trans hlo bel.size))
  clear b4
  have R44 := Sle.zcell en HX.out 7 _ rfl
  have R52 := Lib.hid (Sle.zrange0 en HX.out 9 [.int .i64 x.pr, .int .i64 x.o, .int .u8 (x.ad.a.toNat : Int), .int .u8 (x.ad.b.toNat : Int), .int .u8 (x.ad.c.toNat : Int), .int .u8 (x.ad.d.toNat : Int), .int .i64 x.i, .int .i64 x.k, .int .i64 x.u] rfl)
  go_wp2_with (first | ((with_reducible show wpList _ _ _ (⟨some 52, _, _, _, _, _⟩ :: _) _ _); refine wpList_load_rng 31 (.tmp 51) rfl (by kernel_rfl) _ _ rfl _ R52.out _ Try.underlying31 rfl (by kernel_rfl) ?_) | ((with_reducible show wpList _ _ _ (⟨none, Op.store _ (.tmp 8) _, _, _, _, _⟩ :: _) _ _); refine wpList_store_blk rfl 31 (.tmp 8) (.tmp 52) rfl g8 rfl _ rfl _ 31 hrB (by rfl) (by kernel_rfl) (by kernel_rfl) ?_; intro w5 hq gr; replace en := en.away av_en_rB gr; replace hfB := blk_a hfB gr d_fB_rB; replace htb := blk_a htb gr (ne_symm d_rB_tb); replace own := owk_off own off_rB gr; replace fo := fo.newer gr pn_rB; replace hM := hM.grown gr hrB; replace bel := below_grown bel gr orB (Nat.le_trans hlo bel.size); clear hrB; have hrB := hq; clear hq gr))
  try clear R44
  try clear R52
  exact bodyPost_ret (results_cell_tmp_row rfl _ _ _ _ _ _ _ rfl hrB Try.underlying31 rfl (by kernel_rfl) (.int .i64 0) rfl) rfl ⟨rfl, ⟨(some ⟨gE, 0, none⟩), n, c, mb, htb, otb, hM, own, HOK.out⟩, fo.fr htb, bel⟩
set_option linter.unusedVariables false in
set_option linter.unusedSimpArgs false in
set_option maxRecDepth 100000 in
set_option maxHeartbeats 16000000 in
theorem tmake_full {lo gt : Nat} {s : Ts} {lw rm now : Int} {l os : List Mp} {pr p : Int} {b : Bool} {ad : Ad4} {q sc un : Int} (t : Int) (w : World) (hT : Tp lo gt w s) (ha : s.adv t = ⟨lw, rm, now, l, os⟩) (hpb : portB pr p = true) (hsc : secsB sc = true) (hu : now + sc = un) (hbf : bestF pr ad p l l.length = none) (hfo : FoP lw l pr ad p q b) (hr : rm ≤ (l.length : Int)) : Calls Try.prog 13 #[.pointer (some ⟨gt, 0, none⟩), .agg #[.int .i64 pr, .int .u8 (ad.a.toNat : Int), .int .u8 (ad.b.toNat : Int), .int .u8 (ad.c.toNat : Int), .int .u8 (ad.d.toNat : Int), .int .i64 p], .int .i64 t, .int .i64 sc] w fun e w' => e = .returned (.tuple #[.agg #[.int .i64 0, .int .i64 0, .int .u8 0, .int .u8 0, .int .u8 0, .int .u8 0, .int .i64 0, .int .i64 0, .int .i64 0], .int .i64 7]) ∧ Tp lo gt w' ⟨lw, rm, now, l, os⟩ ∧ Fap gt w w' ∧ Below lo w w' := by
  have hlo : lo ≤ w.heap.size := hT.lo_le
  have HLO := Lib.hid hlo
  have fr := Fap.refl gt w
  have HPB := Lib.hid hpb
  have HSC := Lib.hid hsc
  have HU := Lib.hid hu
  have HSR : Hid (1 ≤ sc ∧ sc ≤ 1000000000) := Lib.hid (by unfold secsB at hsc; simpa using hsc)
  clear hpb hsc hu
  have HFO := hfo
  unfold FoP at HFO
  clear hfo
  have bel := Below.refl lo w
  go_enter Try.func13, Try.ntmps13
  go_wp2_with (first | ((with_reducible show wpList _ _ _ (⟨some 5, _, _, _, _, _⟩ :: _) _ _); refine wpList_box_n rfl 36 (.tmp 1) rfl #[.int .i64 pr, .int .u8 (ad.a.toNat : Int), .int .u8 (ad.b.toNat : Int), .int .u8 (ad.c.toNat : Int), .int .u8 (ad.d.toNat : Int), .int .i64 p] rfl ?_; intro g5 w1 ge lt hh bb; have ap_fB := hT.ap ge; have ofB := Nat.le_trans (Nat.le_trans hlo bel.size) ge; have pn_fB := Nat.le_trans bel.size ge; replace fr := fr.below bb; replace hT := hT.below bb; replace ap_fB := ap_fB.below bb; replace bel := bel.trans (bb.mono (Nat.le_trans hlo bel.size)); have hfB := hh; clear hh lt ge bb) | ((with_reducible show wpList _ _ _ (⟨some 8, _, _, _, _, _⟩ :: _) _ _); refine wpList_new_a rfl 31 rfl #[.int .i64 0, .int .i64 0, .int .u8 0, .int .u8 0, .int .u8 0, .int .u8 0, .int .i64 0, .int .i64 0, .int .i64 0] (by kernel_rfl) ?_; intro g8 w2 ge hh bb; have ap_rB := hT.ap ge; have d_fB_rB := ne_new (hlt hfB) ge; have orB := Nat.le_trans (Nat.le_trans hlo bel.size) ge; have pn_rB := Nat.le_trans bel.size ge; replace hfB := blk_u hfB bb; replace fr := fr.below bb; replace hT := hT.below bb; replace ap_fB := ap_fB.below bb; replace ap_rB := ap_rB.below bb; replace bel := bel.trans (bb.mono (Nat.le_trans hlo bel.size)); have hrB := hh; clear hh ge bb))
  with_reducible refine (tadv_any _ _ hT ha).mono ?_
  rintro e w3 ⟨rfl, hT_, f_, bb⟩
  have x_ := f_ _ _ _ _ hfB ap_fB
  replace hfB := x_.1
  replace ap_fB := x_.2
  clear x_
  have x_ := f_ _ _ _ _ hrB ap_rB
  replace hrB := x_.1
  replace ap_rB := x_.2
  clear x_
  replace fr := fr.trans f_
  clear hT
  have hT := hT_
  replace bel := bel.trans bb
  clear bb f_ hT_
  obtain ⟨A, n, c, mb, htb, otb, hM, own, hok⟩ := hT
  dsimp only at htb hM own
  have off_tb := ofs_type own htb (by decide)
  have hl := row_len (by decide) mpE_len own
  have HLL := Lib.hid hl
  have HOK := Lib.hid hok
  have H32 : Hid (n ≤ 1000) := Lib.hid (by have h1_ := hok.len; have h2_ := hok.r1; simp only at h1_ h2_; omega)
  have H128 : Hid (n ≤ 128) := Lib.hid (by have h1_ := hok.len; have h2_ := hok.r1; simp only at h1_ h2_; omega)
  clear hl hok
  have fo := fr.fo htb
  clear fr
  have hw : IntKind.i64.wrap (now + sc) = un := by rw [← HU.out]; exact IntWalk.i64_in _ (by have h1_ := HOK.out.n0; have h2_ := HOK.out.n1; have h3_ := HSR.out; simp only at h1_ h2_; omega)
  have HBF : Hid (bestF pr ad p l n = none) := Lib.hid (by rw [HLL.out] at hbf; exact hbf)
  clear hbf
  have HFU : Hid (rm ≤ (n : Int)) := Lib.hid (by rw [HLL.out] at hr; exact hr)
  clear hr
  have off_fB := ap_fB.ofs htb
  have d_fB_tb := Lib.hid ap_fB.1
  clear ap_fB
  have off_rB := ap_rB.ofs htb
  have d_rB_tb := Lib.hid ap_rB.1
  clear ap_rB
  have R19 := cell_lit hfB 0 _ rfl
  have R21 := cell_lit hfB 5 _ rfl
  go_wp2_with fail
  clear R19 R21
  with_reducible refine (isport_any _ HPB.out).mono ?_
  rintro e _ ⟨rfl, rfl⟩
  go_wp2_with fail
  with_reducible refine (secs_any _ HSC.out).mono ?_
  rintro e _ ⟨rfl, rfl⟩
  have R33 := cell_lit htb 2 _ rfl
  have R37 := Lib.hid (range_lit hfB 0 6 [.int .i64 pr, .int .u8 (ad.a.toNat : Int), .int .u8 (ad.b.toNat : Int), .int .u8 (ad.c.toNat : Int), .int .u8 (ad.d.toNat : Int), .int .i64 p] rfl)
  go_wp2_with (first | ((with_reducible show wpList _ _ _ (⟨some 37, _, _, _, _, _⟩ :: _) _ _); refine wpList_load_rng 36 (.tmp 5) rfl (by kernel_rfl) _ _ rfl _ R37.out _ Try.underlying36 rfl (by kernel_rfl) ?_))
  try clear R33
  try clear R37
  with_reducible refine (bf_none _ htb own H32.out HBF.out).mono ?_
  rintro e w4 ⟨rfl, b4⟩
  replace hfB := blk_u hfB b4
  replace hrB := blk_u hrB b4
  replace htb := blk_u htb b4
  replace own := owk_under own b4
  replace fo := fo.below b4
  replace hM := hM.below b4
  replace bel := bel.trans (b4.mono (Nat.le_trans hlo bel.size))
  clear b4
  have R55 := Lib.hid (range_lit hfB 0 6 [.int .i64 pr, .int .u8 (ad.a.toNat : Int), .int .u8 (ad.b.toNat : Int), .int .u8 (ad.c.toNat : Int), .int .u8 (ad.d.toNat : Int), .int .i64 p] rfl)
  go_wp2_with (first | ((with_reducible show wpList _ _ _ (⟨some 55, _, _, _, _, _⟩ :: _) _ _); refine wpList_load_rng 36 (.tmp 5) rfl (by kernel_rfl) _ _ rfl _ R55.out _ Try.underlying36 rfl (by kernel_rfl) ?_))
  try clear R55
  with_reducible refine (HFO _ _ _ _ _ _ _ _ _ htb own H32.out).mono ?_
  rintro e w5 ⟨rfl, b5⟩
  replace hfB := blk_u hfB b5
  replace hrB := blk_u hrB b5
  replace htb := blk_u htb b5
  replace own := owk_under own b5
  replace fo := fo.below b5
  replace hM := hM.below b5
  replace bel := bel.trans (b5.mono (Nat.le_trans hlo bel.size))
  clear b5
  go_wp2_with fail
  with_reducible refine (full_y (l := []) _ htb HFU.out).mono ?_
  rintro e w6 ⟨rfl, b6⟩
  replace hfB := blk_u hfB b6
  replace hrB := blk_u hrB b6
  replace htb := blk_u htb b6
  replace own := owk_under own b6
  replace fo := fo.below b6
  replace hM := hM.below b6
  replace bel := bel.trans (b6.mono (Nat.le_trans hlo bel.size))
  clear b6
  go_wp2_with (first | ((with_reducible show wpList _ _ _ (⟨none, Op.store _ (.tmp 8) _, _, _, _, _⟩ :: _) _ _); refine wpList_store_blk rfl 31 (.tmp 8) (.tmp 65) rfl g8 rfl _ rfl _ 31 hrB (by rfl) (by kernel_rfl) (by kernel_rfl) ?_; intro w7 hq gr; replace hfB := blk_a hfB gr d_fB_rB; replace htb := blk_a htb gr (ne_symm d_rB_tb); replace own := owk_off own off_rB gr; replace fo := fo.newer gr pn_rB; replace hM := hM.grown gr hrB; replace bel := below_grown bel gr orB (Nat.le_trans hlo bel.size); clear hrB; have hrB := hq; clear hq gr))
  exact bodyPost_ret (results_cell_tmp_row rfl _ _ _ _ _ _ _ rfl hrB Try.underlying31 rfl (by kernel_rfl) (.int .i64 7) rfl) rfl ⟨rfl, ⟨A, n, c, mb, htb, otb, hM, own, HOK.out⟩, fo.fr htb, bel⟩
set_option linter.unusedVariables false in
set_option linter.unusedSimpArgs false in
set_option maxRecDepth 100000 in
set_option maxHeartbeats 16000000 in
theorem tmake_no {lo gt : Nat} {s : Ts} {lw rm now : Int} {l os : List Mp} {pr p : Int} {ad : Ad4} {q sc un : Int} (t : Int) (w : World) (hT : Tp lo gt w s) (ha : s.adv t = ⟨lw, rm, now, l, os⟩) (hpb : portB pr p = true) (hsc : secsB sc = true) (hu : now + sc = un) (hbf : bestF pr ad p l l.length = none) (hfo : FoP lw l pr ad p q false) (hr : (l.length : Int) < rm) : Calls Try.prog 13 #[.pointer (some ⟨gt, 0, none⟩), .agg #[.int .i64 pr, .int .u8 (ad.a.toNat : Int), .int .u8 (ad.b.toNat : Int), .int .u8 (ad.c.toNat : Int), .int .u8 (ad.d.toNat : Int), .int .i64 p], .int .i64 t, .int .i64 sc] w fun e w' => e = .returned (.tuple #[.agg #[.int .i64 0, .int .i64 0, .int .u8 0, .int .u8 0, .int .u8 0, .int .u8 0, .int .i64 0, .int .i64 0, .int .i64 0], .int .i64 7]) ∧ Tp lo gt w' ⟨lw, rm, now, l, os⟩ ∧ Fap gt w w' ∧ Below lo w w' := by
  have hlo : lo ≤ w.heap.size := hT.lo_le
  have HLO := Lib.hid hlo
  have fr := Fap.refl gt w
  have HPB := Lib.hid hpb
  have HSC := Lib.hid hsc
  have HU := Lib.hid hu
  have HSR : Hid (1 ≤ sc ∧ sc ≤ 1000000000) := Lib.hid (by unfold secsB at hsc; simpa using hsc)
  clear hpb hsc hu
  have HFO := hfo
  unfold FoP at HFO
  clear hfo
  have bel := Below.refl lo w
  go_enter Try.func13, Try.ntmps13
  go_wp2_with (first | ((with_reducible show wpList _ _ _ (⟨some 5, _, _, _, _, _⟩ :: _) _ _); refine wpList_box_n rfl 36 (.tmp 1) rfl #[.int .i64 pr, .int .u8 (ad.a.toNat : Int), .int .u8 (ad.b.toNat : Int), .int .u8 (ad.c.toNat : Int), .int .u8 (ad.d.toNat : Int), .int .i64 p] rfl ?_; intro g5 w1 ge lt hh bb; have ap_fB := hT.ap ge; have ofB := Nat.le_trans (Nat.le_trans hlo bel.size) ge; have pn_fB := Nat.le_trans bel.size ge; replace fr := fr.below bb; replace hT := hT.below bb; replace ap_fB := ap_fB.below bb; replace bel := bel.trans (bb.mono (Nat.le_trans hlo bel.size)); have hfB := hh; clear hh lt ge bb) | ((with_reducible show wpList _ _ _ (⟨some 8, _, _, _, _, _⟩ :: _) _ _); refine wpList_new_a rfl 31 rfl #[.int .i64 0, .int .i64 0, .int .u8 0, .int .u8 0, .int .u8 0, .int .u8 0, .int .i64 0, .int .i64 0, .int .i64 0] (by kernel_rfl) ?_; intro g8 w2 ge hh bb; have ap_rB := hT.ap ge; have d_fB_rB := ne_new (hlt hfB) ge; have orB := Nat.le_trans (Nat.le_trans hlo bel.size) ge; have pn_rB := Nat.le_trans bel.size ge; replace hfB := blk_u hfB bb; replace fr := fr.below bb; replace hT := hT.below bb; replace ap_fB := ap_fB.below bb; replace ap_rB := ap_rB.below bb; replace bel := bel.trans (bb.mono (Nat.le_trans hlo bel.size)); have hrB := hh; clear hh ge bb))
  with_reducible refine (tadv_any _ _ hT ha).mono ?_
  rintro e w3 ⟨rfl, hT_, f_, bb⟩
  have x_ := f_ _ _ _ _ hfB ap_fB
  replace hfB := x_.1
  replace ap_fB := x_.2
  clear x_
  have x_ := f_ _ _ _ _ hrB ap_rB
  replace hrB := x_.1
  replace ap_rB := x_.2
  clear x_
  replace fr := fr.trans f_
  clear hT
  have hT := hT_
  replace bel := bel.trans bb
  clear bb f_ hT_
  obtain ⟨A, n, c, mb, htb, otb, hM, own, hok⟩ := hT
  dsimp only at htb hM own
  have off_tb := ofs_type own htb (by decide)
  have hl := row_len (by decide) mpE_len own
  have HLL := Lib.hid hl
  have HOK := Lib.hid hok
  have H32 : Hid (n ≤ 1000) := Lib.hid (by have h1_ := hok.len; have h2_ := hok.r1; simp only at h1_ h2_; omega)
  have H128 : Hid (n ≤ 128) := Lib.hid (by have h1_ := hok.len; have h2_ := hok.r1; simp only at h1_ h2_; omega)
  clear hl hok
  have fo := fr.fo htb
  clear fr
  have hw : IntKind.i64.wrap (now + sc) = un := by rw [← HU.out]; exact IntWalk.i64_in _ (by have h1_ := HOK.out.n0; have h2_ := HOK.out.n1; have h3_ := HSR.out; simp only at h1_ h2_; omega)
  have HBF : Hid (bestF pr ad p l n = none) := Lib.hid (by rw [HLL.out] at hbf; exact hbf)
  clear hbf
  have HRM := Lib.hid hr
  have HFU : Hid ((n : Int) < rm) := Lib.hid (by rw [HLL.out] at hr; omega)
  clear hr
  have off_fB := ap_fB.ofs htb
  have d_fB_tb := Lib.hid ap_fB.1
  clear ap_fB
  have off_rB := ap_rB.ofs htb
  have d_rB_tb := Lib.hid ap_rB.1
  clear ap_rB
  have R19 := cell_lit hfB 0 _ rfl
  have R21 := cell_lit hfB 5 _ rfl
  go_wp2_with fail
  clear R19 R21
  with_reducible refine (isport_any _ HPB.out).mono ?_
  rintro e _ ⟨rfl, rfl⟩
  go_wp2_with fail
  with_reducible refine (secs_any _ HSC.out).mono ?_
  rintro e _ ⟨rfl, rfl⟩
  have R33 := cell_lit htb 2 _ rfl
  have R37 := Lib.hid (range_lit hfB 0 6 [.int .i64 pr, .int .u8 (ad.a.toNat : Int), .int .u8 (ad.b.toNat : Int), .int .u8 (ad.c.toNat : Int), .int .u8 (ad.d.toNat : Int), .int .i64 p] rfl)
  go_wp2_with (first | ((with_reducible show wpList _ _ _ (⟨some 37, _, _, _, _, _⟩ :: _) _ _); refine wpList_load_rng 36 (.tmp 5) rfl (by kernel_rfl) _ _ rfl _ R37.out _ Try.underlying36 rfl (by kernel_rfl) ?_))
  try clear R33
  try clear R37
  with_reducible refine (bf_none _ htb own H32.out HBF.out).mono ?_
  rintro e w4 ⟨rfl, b4⟩
  replace hfB := blk_u hfB b4
  replace hrB := blk_u hrB b4
  replace htb := blk_u htb b4
  replace own := owk_under own b4
  replace fo := fo.below b4
  replace hM := hM.below b4
  replace bel := bel.trans (b4.mono (Nat.le_trans hlo bel.size))
  clear b4
  have R55 := Lib.hid (range_lit hfB 0 6 [.int .i64 pr, .int .u8 (ad.a.toNat : Int), .int .u8 (ad.b.toNat : Int), .int .u8 (ad.c.toNat : Int), .int .u8 (ad.d.toNat : Int), .int .i64 p] rfl)
  go_wp2_with (first | ((with_reducible show wpList _ _ _ (⟨some 55, _, _, _, _, _⟩ :: _) _ _); refine wpList_load_rng 36 (.tmp 5) rfl (by kernel_rfl) _ _ rfl _ R55.out _ Try.underlying36 rfl (by kernel_rfl) ?_))
  try clear R55
  with_reducible refine (HFO _ _ _ _ _ _ _ _ _ htb own H32.out).mono ?_
  rintro e w5 ⟨rfl, b5⟩
  replace hfB := blk_u hfB b5
  replace hrB := blk_u hrB b5
  replace htb := blk_u htb b5
  replace own := owk_under own b5
  replace fo := fo.below b5
  replace hM := hM.below b5
  replace bel := bel.trans (b5.mono (Nat.le_trans hlo bel.size))
  clear b5
  go_wp2_with fail
  with_reducible refine (full_n (l := []) _ htb (Int.not_le.2 HFU.out)).mono ?_
  rintro e w6 ⟨rfl, b6⟩
  replace hfB := blk_u hfB b6
  replace hrB := blk_u hrB b6
  replace htb := blk_u htb b6
  replace own := owk_under own b6
  replace fo := fo.below b6
  replace hM := hM.below b6
  replace bel := bel.trans (b6.mono (Nat.le_trans hlo bel.size))
  clear b6
  go_wp2_with (first | ((with_reducible show wpList _ _ _ (⟨none, Op.store _ (.tmp 8) _, _, _, _, _⟩ :: _) _ _); refine wpList_store_blk rfl 31 (.tmp 8) (.tmp 65) rfl g8 rfl _ rfl _ 31 hrB (by rfl) (by kernel_rfl) (by kernel_rfl) ?_; intro w7 hq gr; replace hfB := blk_a hfB gr d_fB_rB; replace htb := blk_a htb gr (ne_symm d_rB_tb); replace own := owk_off own off_rB gr; replace fo := fo.newer gr pn_rB; replace hM := hM.grown gr hrB; replace bel := below_grown bel gr orB (Nat.le_trans hlo bel.size); clear hrB; have hrB := hq; clear hq gr))
  exact bodyPost_ret (results_cell_tmp_row rfl _ _ _ _ _ _ _ rfl hrB Try.underlying31 rfl (by kernel_rfl) (.int .i64 7) rfl) rfl ⟨rfl, ⟨A, n, c, mb, htb, otb, hM, own, HOK.out⟩, fo.fr htb, bel⟩
set_option linter.unusedVariables false in
set_option linter.unusedSimpArgs false in
set_option maxRecDepth 100000 in
set_option maxHeartbeats 16000000 in
theorem tmake_new {lo gt : Nat} {s : Ts} {lw rm now : Int} {l os : List Mp} {pr p : Int} {ad : Ad4} {q sc un : Int} (t : Int) (w : World) (hT : Tp lo gt w s) (ha : s.adv t = ⟨lw, rm, now, l, os⟩) (hpb : portB pr p = true) (hsc : secsB sc = true) (hu : now + sc = un) (hbf : bestF pr ad p l l.length = none) (hfo : FoP lw l pr ad p q true) (hr : (l.length : Int) < rm) (hqo : okP pr q) (hqf : mfhas l (kn pr q) = false) : Calls Try.prog 13 #[.pointer (some ⟨gt, 0, none⟩), .agg #[.int .i64 pr, .int .u8 (ad.a.toNat : Int), .int .u8 (ad.b.toNat : Int), .int .u8 (ad.c.toNat : Int), .int .u8 (ad.d.toNat : Int), .int .i64 p], .int .i64 t, .int .i64 sc] w fun e w' => e = .returned (.tuple #[.agg #[.int .i64 pr, .int .i64 q, .int .u8 (ad.a.toNat : Int), .int .u8 (ad.b.toNat : Int), .int .u8 (ad.c.toNat : Int), .int .u8 (ad.d.toNat : Int), .int .i64 p, .int .i64 1, .int .i64 un], .int .i64 0]) ∧ Tp lo gt w' ⟨lw, rm, now, mins l ⟨pr, q, ad, p, 1, un⟩, odel os (kn pr q)⟩ ∧ Fap gt w w' ∧ Below lo w w' := by
  have hlo : lo ≤ w.heap.size := hT.lo_le
  have HLO := Lib.hid hlo
  have fr := Fap.refl gt w
  have HMK : Hid (Mp.okp ⟨pr, q, ad, p, 1, un⟩) := Lib.hid hqo
  have HFK : Hid (mfhas l (Mp.num ⟨pr, q, ad, p, 1, un⟩) = false) := Lib.hid hqf
  clear hqo hqf
  have HPB := Lib.hid hpb
  have HSC := Lib.hid hsc
  have HU := Lib.hid hu
  have HSR : Hid (1 ≤ sc ∧ sc ≤ 1000000000) := Lib.hid (by unfold secsB at hsc; simpa using hsc)
  clear hpb hsc hu
  have HFO := hfo
  unfold FoP at HFO
  clear hfo
  have bel := Below.refl lo w
  go_enter Try.func13, Try.ntmps13
  go_wp2_with (first | ((with_reducible show wpList _ _ _ (⟨some 5, _, _, _, _, _⟩ :: _) _ _); refine wpList_box_n rfl 36 (.tmp 1) rfl #[.int .i64 pr, .int .u8 (ad.a.toNat : Int), .int .u8 (ad.b.toNat : Int), .int .u8 (ad.c.toNat : Int), .int .u8 (ad.d.toNat : Int), .int .i64 p] rfl ?_; intro g5 w1 ge lt hh bb; have ap_fB := hT.ap ge; have ofB := Nat.le_trans (Nat.le_trans hlo bel.size) ge; have pn_fB := Nat.le_trans bel.size ge; replace fr := fr.below bb; replace hT := hT.below bb; replace ap_fB := ap_fB.below bb; replace bel := bel.trans (bb.mono (Nat.le_trans hlo bel.size)); have hfB := hh; clear hh lt ge bb) | ((with_reducible show wpList _ _ _ (⟨some 8, _, _, _, _, _⟩ :: _) _ _); refine wpList_new_a rfl 31 rfl #[.int .i64 0, .int .i64 0, .int .u8 0, .int .u8 0, .int .u8 0, .int .u8 0, .int .i64 0, .int .i64 0, .int .i64 0] (by kernel_rfl) ?_; intro g8 w2 ge hh bb; have ap_rB := hT.ap ge; have d_fB_rB := ne_new (hlt hfB) ge; have orB := Nat.le_trans (Nat.le_trans hlo bel.size) ge; have pn_rB := Nat.le_trans bel.size ge; replace hfB := blk_u hfB bb; replace fr := fr.below bb; replace hT := hT.below bb; replace ap_fB := ap_fB.below bb; replace ap_rB := ap_rB.below bb; replace bel := bel.trans (bb.mono (Nat.le_trans hlo bel.size)); have hrB := hh; clear hh ge bb))
  with_reducible refine (tadv_any _ _ hT ha).mono ?_
  rintro e w3 ⟨rfl, hT_, f_, bb⟩
  have x_ := f_ _ _ _ _ hfB ap_fB
  replace hfB := x_.1
  replace ap_fB := x_.2
  clear x_
  have x_ := f_ _ _ _ _ hrB ap_rB
  replace hrB := x_.1
  replace ap_rB := x_.2
  clear x_
  replace fr := fr.trans f_
  clear hT
  have hT := hT_
  replace bel := bel.trans bb
  clear bb f_ hT_
  obtain ⟨A, n, c, mb, htb, otb, hM, own, hok⟩ := hT
  dsimp only at htb hM own
  have off_tb := ofs_type own htb (by decide)
  have hl := row_len (by decide) mpE_len own
  have HLL := Lib.hid hl
  have HOK := Lib.hid hok
  have H32 : Hid (n ≤ 1000) := Lib.hid (by have h1_ := hok.len; have h2_ := hok.r1; simp only at h1_ h2_; omega)
  have H128 : Hid (n ≤ 128) := Lib.hid (by have h1_ := hok.len; have h2_ := hok.r1; simp only at h1_ h2_; omega)
  clear hl hok
  have fo := fr.fo htb
  clear fr
  have hw : IntKind.i64.wrap (now + sc) = un := by rw [← HU.out]; exact IntWalk.i64_in _ (by have h1_ := HOK.out.n0; have h2_ := HOK.out.n1; have h3_ := HSR.out; simp only at h1_ h2_; omega)
  have HBF : Hid (bestF pr ad p l n = none) := Lib.hid (by rw [HLL.out] at hbf; exact hbf)
  clear hbf
  have HRM := Lib.hid hr
  have HFU : Hid ((n : Int) < rm) := Lib.hid (by rw [HLL.out] at hr; omega)
  clear hr
  have off_fB := ap_fB.ofs htb
  have d_fB_tb := Lib.hid ap_fB.1
  clear ap_fB
  have off_rB := ap_rB.ofs htb
  have d_rB_tb := Lib.hid ap_rB.1
  clear ap_rB
  have R19 := cell_lit hfB 0 _ rfl
  have R21 := cell_lit hfB 5 _ rfl
  go_wp2_with fail
  clear R19 R21
  with_reducible refine (isport_any _ HPB.out).mono ?_
  rintro e _ ⟨rfl, rfl⟩
  go_wp2_with fail
  with_reducible refine (secs_any _ HSC.out).mono ?_
  rintro e _ ⟨rfl, rfl⟩
  have R33 := cell_lit htb 2 _ rfl
  have R37 := Lib.hid (range_lit hfB 0 6 [.int .i64 pr, .int .u8 (ad.a.toNat : Int), .int .u8 (ad.b.toNat : Int), .int .u8 (ad.c.toNat : Int), .int .u8 (ad.d.toNat : Int), .int .i64 p] rfl)
  go_wp2_with (first | ((with_reducible show wpList _ _ _ (⟨some 37, _, _, _, _, _⟩ :: _) _ _); refine wpList_load_rng 36 (.tmp 5) rfl (by kernel_rfl) _ _ rfl _ R37.out _ Try.underlying36 rfl (by kernel_rfl) ?_))
  try clear R33
  try clear R37
  with_reducible refine (bf_none _ htb own H32.out HBF.out).mono ?_
  rintro e w4 ⟨rfl, b4⟩
  replace hfB := blk_u hfB b4
  replace hrB := blk_u hrB b4
  replace htb := blk_u htb b4
  replace own := owk_under own b4
  replace fo := fo.below b4
  replace hM := hM.below b4
  replace bel := bel.trans (b4.mono (Nat.le_trans hlo bel.size))
  clear b4
  have R55 := Lib.hid (range_lit hfB 0 6 [.int .i64 pr, .int .u8 (ad.a.toNat : Int), .int .u8 (ad.b.toNat : Int), .int .u8 (ad.c.toNat : Int), .int .u8 (ad.d.toNat : Int), .int .i64 p] rfl)
  go_wp2_with (first | ((with_reducible show wpList _ _ _ (⟨some 55, _, _, _, _, _⟩ :: _) _ _); refine wpList_load_rng 36 (.tmp 5) rfl (by kernel_rfl) _ _ rfl _ R55.out _ Try.underlying36 rfl (by kernel_rfl) ?_))
  try clear R55
  with_reducible refine (HFO _ _ _ _ _ _ _ _ _ htb own H32.out).mono ?_
  rintro e w5 ⟨rfl, b5⟩
  replace hfB := blk_u hfB b5
  replace hrB := blk_u hrB b5
  replace htb := blk_u htb b5
  replace own := owk_under own b5
  replace fo := fo.below b5
  replace hM := hM.below b5
  replace bel := bel.trans (b5.mono (Nat.le_trans hlo bel.size))
  clear b5
  go_wp2_with fail
  with_reducible refine (full_n (l := []) _ htb (Int.not_le.2 HFU.out)).mono ?_
  rintro e w6 ⟨rfl, b6⟩
  replace hfB := blk_u hfB b6
  replace hrB := blk_u hrB b6
  replace htb := blk_u htb b6
  replace own := owk_under own b6
  replace fo := fo.below b6
  replace hM := hM.below b6
  replace bel := bel.trans (b6.mono (Nat.le_trans hlo bel.size))
  clear b6
  have R67 := cell_lit hfB 0 _ rfl
  have R70 := Lib.hid (range_lit hfB 1 4 [.int .u8 (ad.a.toNat : Int), .int .u8 (ad.b.toNat : Int), .int .u8 (ad.c.toNat : Int), .int .u8 (ad.d.toNat : Int)] rfl)
  go_wp2_with (first | ((with_reducible show wpList _ _ _ (⟨some 70, _, _, _, _, _⟩ :: _) _ _); refine wpList_load_rng 28 (.tmp 69) rfl (by kernel_rfl) _ _ rfl _ R70.out _ Try.underlying28 rfl (by kernel_rfl) ?_; have R72 := cell_lit hfB 5 _ rfl) | ((with_reducible show wpList _ _ _ (⟨some 14, _, _, _, _, _⟩ :: _) _ _); refine wpList_new_a rfl 31 rfl #[.int .i64 0, .int .i64 0, .int .u8 0, .int .u8 0, .int .u8 0, .int .u8 0, .int .i64 0, .int .i64 0, .int .i64 0] (by kernel_rfl) ?_; intro g14 w7 ge hh bb; have d_fB_nB := ne_new (hlt hfB) ge; have d_rB_nB := ne_new (hlt hrB) ge; have d_tb_nB := ne_new (hlt htb) ge; have onB := Nat.le_trans (Nat.le_trans hlo bel.size) ge; have off_nB := owk_new own ge; have pn_nB := Nat.le_trans bel.size ge; replace hfB := blk_u hfB bb; replace hrB := blk_u hrB bb; replace htb := blk_u htb bb; replace own := owk_under own bb; replace fo := fo.below bb; replace hM := hM.below bb; replace bel := bel.trans (bb.mono (Nat.le_trans hlo bel.size)); have hnB := hh; clear hh ge bb) | ((with_reducible show wpList _ _ _ (⟨none, Op.store _ (.tmp 14) _, _, _, _, _⟩ :: _) _ _); refine wpList_store_blk rfl 31 (.tmp 14) (.tmp 74) rfl g14 rfl _ rfl _ 31 hnB (by rfl) (by kernel_rfl) (by kernel_rfl) ?_; intro w8 hq gr; replace hfB := blk_a hfB gr d_fB_nB; replace hrB := blk_a hrB gr d_rB_nB; replace htb := blk_a htb gr d_tb_nB; replace own := owk_off own off_nB gr; replace fo := fo.newer gr pn_nB; replace hM := hM.grown gr hnB; replace bel := below_grown bel gr onB (Nat.le_trans hlo bel.size); clear hnB; have hnB := hq; clear hq gr; have R76 := Lib.hid (range_lit hnB 0 9 [.int .i64 pr, .int .i64 q, .int .u8 (ad.a.toNat : Int), .int .u8 (ad.b.toNat : Int), .int .u8 (ad.c.toNat : Int), .int .u8 (ad.d.toNat : Int), .int .i64 p, .int .i64 1, .int .i64 un] rfl)) | ((with_reducible show wpList _ _ _ (⟨some 76, _, _, _, _, _⟩ :: _) _ _); refine wpList_load_rng 31 (.tmp 14) rfl (by kernel_rfl) _ _ rfl _ R76.out _ Try.underlying31 rfl (by kernel_rfl) ?_))
  try clear R67
  try clear R70
  try clear R72
  try clear R76
  have ap_fB := Ap.mk htb off_fB d_fB_tb.out
  have ap_rB := Ap.mk htb off_rB d_rB_tb.out
  have ap_nB := Ap.mk htb off_nB (ne_symm d_tb_nB).out
  have fr := fo.fr htb
  have hT : Tp lo gt w8 ⟨lw, rm, now, l, os⟩ := ⟨A, n, c, mb, htb, otb, hM, own, HOK.out⟩
  clear htb hM own off_tb fo
  with_reducible refine (tadd_any (m := ⟨pr, q, ad, p, 1, un⟩) _ hT HMK.out HFK.out HRM.out).mono ?_
  rintro e w9 ⟨rfl, hT_, f_, bb⟩
  have x_ := f_ _ _ _ _ hfB ap_fB
  replace hfB := x_.1
  replace ap_fB := x_.2
  clear x_
  have x_ := f_ _ _ _ _ hrB ap_rB
  replace hrB := x_.1
  replace ap_rB := x_.2
  clear x_
  have x_ := f_ _ _ _ _ hnB ap_nB
  replace hnB := x_.1
  replace ap_nB := x_.2
  clear x_
  replace fr := fr.trans f_
  clear hT
  have hT := hT_
  replace bel := bel.trans bb
  clear bb f_ hT_
  have R78 := Lib.hid (range_lit hnB 0 9 [.int .i64 pr, .int .i64 q, .int .u8 (ad.a.toNat : Int), .int .u8 (ad.b.toNat : Int), .int .u8 (ad.c.toNat : Int), .int .u8 (ad.d.toNat : Int), .int .i64 p, .int .i64 1, .int .i64 un] rfl)
  go_wp2_with (first | ((with_reducible show wpList _ _ _ (⟨some 78, _, _, _, _, _⟩ :: _) _ _); refine wpList_load_rng 31 (.tmp 14) rfl (by kernel_rfl) _ _ rfl _ R78.out _ Try.underlying31 rfl (by kernel_rfl) ?_) | ((with_reducible show wpList _ _ _ (⟨none, Op.store _ (.tmp 8) _, _, _, _, _⟩ :: _) _ _); refine wpList_store_blk rfl 31 (.tmp 8) (.tmp 78) rfl g8 rfl _ rfl _ 31 hrB (by rfl) (by kernel_rfl) (by kernel_rfl) ?_; intro w10 hq gr; replace hfB := blk_a hfB gr d_fB_rB; replace hnB := blk_a hnB gr (ne_symm d_rB_nB); replace fr := fr.newer ap_rB gr pn_rB; replace hT := hT.away ap_rB gr hrB; replace ap_fB := ap_fB.grown ap_rB.1 gr; replace ap_rB := ap_rB.grown ap_rB.1 gr; replace ap_nB := ap_nB.grown ap_rB.1 gr; replace bel := below_grown bel gr orB (Nat.le_trans hlo bel.size); clear hrB; have hrB := hq; clear hq gr))
  try clear R78
  exact bodyPost_ret (results_cell_tmp_row rfl _ _ _ _ _ _ _ rfl hrB Try.underlying31 rfl (by kernel_rfl) (.int .i64 0) rfl) rfl ⟨rfl, hT, fr, bel⟩
end Go.Proofs.Ytmjmjfcdblapcaa
