/- Texts put together: Pt8, Pt9, Tr0, Tr1, Tr2, Tr3, Tr4, Tr5, Na0. -/
import Derived.Test.YtbdaejodbcjmfaaGreatQ1
import Derived.Test.YtbdaejodbcjmfaaGreatQ2
import Derived.Test.YtbdaejodbcjmfaaGreatQ5
import Derived.Test.YtbdaejodbcjmfaaGreatQ6
import Derived.Laws.ResultCell
import Derived.IntWalk
import Derived.Deep.CutRange
import Derived.DeepKeys4
import Derived.Stop.BytesEq
import Derived.Deep.Cut
namespace Go.Proofs.YtbdaejodbcjmfaaGreat
open Go.RowKit

/-- What freeOut answers. -/
def FoP (lw : Int) (l : List Mp) (pr : Int) (ad : Ad4) (p q : Int) (b : Bool) : Prop := ∀ (W : World) (lo gt mb n c : Nat) (A : Option Addr) (rm now : Int), W.heap[gt]? = some (.cells #[.int .i64 lw, .int .i64 rm, .int .i64 now, .slice A n c, .map (some mb)] 76 (0, 0)) → W.ownsRow lo 65 9 (.slice A n c) n (l.flatMap mpE) → n ≤ 1000 → Calls Tryz.prog 136 #[.pointer (some ⟨gt, 0, none⟩), .agg #[.int .i64 pr, .int .u8 (ad.a.toNat : Int), .int .u8 (ad.b.toNat : Int), .int .u8 (ad.c.toNat : Int), .int .u8 (ad.d.toNat : Int), .int .i64 p]] W fun e w' => e = .returned (.tuple #[.int .i64 q, .bool b]) ∧ Below W.heap.size W w'
set_option linter.unusedVariables false in
set_option linter.unusedSimpArgs false in
set_option maxRecDepth 100000 in
set_option maxHeartbeats 16000000 in
theorem tput_new {lo gt : Nat} {s : Ts} {lw rm now : Int} {l os : List Mp} {m : Mp} (t : Int) (w : World) (hT : Tp lo gt w s) (ha : s.adv t = ⟨lw, rm, now, l, os⟩) (hpm : permB m = true) (hlv : liveB now m = true) (hf : mfhas l (kn m.pr m.o) = false) (hr : (l.length : Int) < rm) : Calls Tryz.prog 27 #[.pointer (some ⟨gt, 0, none⟩), .agg #[.int .i64 m.pr, .int .i64 m.o, .int .u8 (m.ad.a.toNat : Int), .int .u8 (m.ad.b.toNat : Int), .int .u8 (m.ad.c.toNat : Int), .int .u8 (m.ad.d.toNat : Int), .int .i64 m.i, .int .i64 m.k, .int .i64 m.u], .int .i64 t] w fun e w' => e = .returned (.int .i64 0) ∧ Tp lo gt w' ⟨lw, rm, now, mins l m, odel os m.num⟩ ∧ Fap gt w w' ∧ Below lo w w' := by
  have hlo : lo ≤ w.heap.size := hT.lo_le
  have HLO := Lib.hid hlo
  have fr := Fap.refl gt w
  have HMK : Hid m.okp := Lib.hid (permB_okp hpm)
  have HFK : Hid (mfhas l m.num = false) := Lib.hid hf
  have HMO : Hid (okP m.pr m.o) := Lib.hid (permB_okp hpm)
  have HPM := Lib.hid hpm
  have HLV := Lib.hid hlv
  have HF := Lib.hid hf
  clear hpm hlv hf
  have bel := Below.refl lo w
  go_enter Tryz.func27, Tryz.ntmps27
  go_wp2_with (first | ((with_reducible show wpList _ _ _ (⟨some 4, _, _, _, _, _⟩ :: _) _ _); refine wpList_box_n rfl 65 (.tmp 1) rfl #[.int .i64 m.pr, .int .i64 m.o, .int .u8 (m.ad.a.toNat : Int), .int .u8 (m.ad.b.toNat : Int), .int .u8 (m.ad.c.toNat : Int), .int .u8 (m.ad.d.toNat : Int), .int .i64 m.i, .int .i64 m.k, .int .i64 m.u] rfl ?_; intro g4 w1 ge lt hh bb; have ap_mB := hT.ap ge; have omB := Nat.le_trans (Nat.le_trans hlo bel.size) ge; have pn_mB := Nat.le_trans bel.size ge; replace fr := fr.below bb; replace hT := hT.below bb; replace ap_mB := ap_mB.below bb; replace bel := bel.trans (bb.mono (Nat.le_trans hlo bel.size)); have hmB := hh; clear hh lt ge bb))
  with_reducible refine (tadv_any _ _ hT ha).mono ?_
  rintro e w2 ⟨rfl, hT_, f_, bb⟩
  have x_ := f_ _ _ _ _ hmB ap_mB
  replace hmB := x_.1
  replace ap_mB := x_.2
  clear x_
  replace fr := fr.trans f_
  clear hT
  have hT := hT_
  replace bel := bel.trans bb
  clear bb f_ hT_
  obtain ⟨A, n, c, mb, htb, otb, hM, own, hok⟩ := hT
  dsimp only at htb hM own
  have off_tb := ofs_type own htb (by decide)
  have hl := row_len (by decide) mpE_len own
  have HLL := Lib.hid hl
  have HOK := Lib.hid hok
  have H32 : Hid (n ≤ 1000) := Lib.hid (by have h1_ := hok.len; have h2_ := hok.r1; simp only at h1_ h2_; omega)
  have H128 : Hid (n ≤ 128) := Lib.hid (by have h1_ := hok.len; have h2_ := hok.r1; simp only at h1_ h2_; omega)
  clear hl hok
  have fo := fr.fo htb
  clear fr
  have HRM := Lib.hid hr
  have HFU : Hid ((n : Int) < rm) := Lib.hid (by rw [HLL.out] at hr; exact hr)
  clear hr
  have off_mB := ap_mB.ofs htb
  have d_mB_tb := Lib.hid ap_mB.1
  clear ap_mB
  go_wp2_with fail
  replace bel := bel.drew
  replace hmB : w2.drew.heap[g4]? = _ := hmB
  replace htb : w2.drew.heap[gt]? = _ := htb
  replace own := World.ownsRow.drew own
  replace fo := fo_drew fo
  replace hM := om_drew hM
  refine wp_region_held_drew (S := fun W => W.heap[g4]? = some (.cells #[.int .i64 m.pr, .int .i64 m.o, .int .u8 (m.ad.a.toNat : Int), .int .u8 (m.ad.b.toNat : Int), .int .u8 (m.ad.c.toNat : Int), .int .u8 (m.ad.d.toNat : Int), .int .i64 m.i, .int .i64 m.k, .int .i64 m.u] 65 (0, 0)) ∧ W.heap[gt]? = some (.cells #[.int .i64 lw, .int .i64 rm, .int .i64 now, .slice A n c, .map (some mb)] 76 (0, 0))) (by kernel_rfl) ⟨hmB, htb⟩ (fun hH => ?_)
  generalize w2.drew = w3 at bel hmB htb own fo hM hH ⊢
  refine wpAnyH_take (i := 0) (v := .agg #[.int .i64 m.pr, .int .i64 m.o, .int .u8 (m.ad.a.toNat : Int), .int .u8 (m.ad.b.toNat : Int), .int .u8 (m.ad.c.toNat : Int), .int .u8 (m.ad.d.toNat : Int), .int .i64 m.i, .int .i64 m.k, .int .i64 m.u]) rfl (by kernel_rfl) (by kernel_rfl) (by kernel_rfl) (fun _ _ _ h => h) (yieldsIf_load_part (by kernel_rfl) 65 _ rfl g4 0 9 rfl _ 65 (0, 0) (fun W hW => hW.1) _ rfl _ Tryz.underlying65 rfl (by kernel_rfl)) hH ?_
  simp only [Act.put, List.getElem_toArray, List.getElem_cons_zero, List.setIfInBounds_toArray, List.set_cons_zero, List.set_cons_succ]
  refine wpAnyH_ready (rs := [1]) (by kernel_rfl) (by simp) ?_
  refine AllReadyH.cons (o := _) rfl (fun K hK => ?_) AllReadyH.nil
  simp only [sq3]
  go_simp
  with_reducible refine (perm_any _ HPM.out).mono ?_
  rintro e w4 ⟨rfl, b4⟩
  dsimp only
  replace hmB := blk_u hmB b4
  replace htb := blk_u htb b4
  replace own := owk_under own b4
  replace fo := fo.below b4
  replace hM := hM.below b4
  replace bel := bel.trans (b4.mono (Nat.le_trans hlo bel.size))
  clear b4
  refine hK.out _ _ ⟨hmB, htb⟩ (fun hH5 => ?_)
  clear hK K
  refine wpAnyH_take (i := 2) (v := ?_) rfl (by kernel_rfl) (by kernel_rfl) (by kernel_rfl) (fun _ _ _ h => h) (Or.inl ⟨by rfl, ?_⟩) hH5 ?_
  rotate_left
  · ((intro W hW; clear hW; go_simp) <;> with_reducible rfl)
  simp only [sq3, sq4]
  refine wpAnyH_take (i := 3) (v := ?_) rfl (by kernel_rfl) (by kernel_rfl) (by kernel_rfl) (fun _ _ _ h => h) (Or.inl ⟨by rfl, ?_⟩) hH5 ?_
  rotate_left
  · ((intro W hW; clear hW; go_simp) <;> with_reducible rfl)
  simp only [sq3, sq4]
  refine wpAnyH_take (i := 4) (v := .agg #[.int .i64 m.pr, .int .i64 m.o, .int .u8 (m.ad.a.toNat : Int), .int .u8 (m.ad.b.toNat : Int), .int .u8 (m.ad.c.toNat : Int), .int .u8 (m.ad.d.toNat : Int), .int .i64 m.i, .int .i64 m.k, .int .i64 m.u]) rfl (by kernel_rfl) (by kernel_rfl) (by kernel_rfl) (fun _ _ _ h => h) (yieldsIf_load_part (by kernel_rfl) 65 _ rfl g4 0 9 rfl _ 65 (0, 0) (fun W hW => hW.1) _ rfl _ Tryz.underlying65 rfl (by kernel_rfl)) hH5 ?_
  simp only [sq3, sq4]
  refine wpAnyH_take (i := 5) (v := ?_) rfl (by kernel_rfl) (by kernel_rfl) (by kernel_rfl) (fun _ _ _ h => h) (Or.inl ⟨by rfl, ?_⟩) hH5 ?_
  rotate_left
  · ((intro W hW; clear hW; go_simp) <;> with_reducible rfl)
  simp only [sq3, sq4]
  refine wpAnyH_take (i := 6) (v := ?_) rfl (by kernel_rfl) (by kernel_rfl) (by kernel_rfl) (fun _ _ _ h => h) (Or.inl ⟨by rfl, ?_⟩) hH5 ?_
  rotate_left
  · ((intro W hW; clear hW; go_simp) <;> with_reducible rfl)
  simp only [sq3, sq4]
  refine wpAnyH_take (i := 7) (v := ?_) rfl (by kernel_rfl) (by kernel_rfl) (by kernel_rfl) (fun _ _ _ h => h) (Or.inl ⟨by rfl, ?_⟩) hH5 ?_
  rotate_left
  · ((intro W hW; clear hW; go_simp) <;> with_reducible rfl)
  simp only [sq3, sq4]
  refine wpAnyH_take (i := 8) (v := ?_) rfl (by kernel_rfl) (by kernel_rfl) (by kernel_rfl) (fun _ _ _ h => h) (Or.inl ⟨by rfl, ?_⟩) hH5 ?_
  rotate_left
  · ((intro W hW; have hk := cell_lit (hW.2) 2 _ rfl; clear hW; go_simp) <;> with_reducible rfl)
  simp only [sq3, sq4]
  refine wpAnyH_ready (rs := [9]) (by kernel_rfl) (by simp) ?_
  refine AllReadyH.cons (o := _) rfl (fun K hK => ?_) AllReadyH.nil
  simp only [sq3]
  go_simp
  with_reducible refine (live_any _ HLV.out).mono ?_
  rintro e w6 ⟨rfl, b6⟩
  dsimp only
  replace hmB := blk_u hmB b6
  replace htb := blk_u htb b6
  replace own := owk_under own b6
  replace fo := fo.below b6
  replace hM := hM.below b6
  replace bel := bel.trans (b6.mono (Nat.le_trans hlo bel.size))
  clear b6
  refine hK.out _ _ ⟨hmB, htb⟩ (fun hH7 => ?_)
  clear hK K
  refine wpAnyH_take (i := 10) (v := ?_) rfl (by kernel_rfl) (by kernel_rfl) (by kernel_rfl) (fun _ _ _ h => h) (Or.inl ⟨by rfl, ?_⟩) hH7 ?_
  rotate_left
  · ((intro W hW; clear hW; go_simp) <;> with_reducible rfl)
  simp only [sq3, sq4]
  refine wpAnyH_take (i := 11) (v := ?_) rfl (by kernel_rfl) (by kernel_rfl) (by kernel_rfl) (fun _ _ _ h => h) (Or.inl ⟨by rfl, ?_⟩) hH7 ?_
  rotate_left
  · ((intro W hW; clear hW; go_simp) <;> with_reducible rfl)
  simp only [sq3, sq4]
  refine wpAnyH_done (by kernel_rfl) ?_ _
  have R24 := Lib.hid (range_lit hmB 0 9 [.int .i64 m.pr, .int .i64 m.o, .int .u8 (m.ad.a.toNat : Int), .int .u8 (m.ad.b.toNat : Int), .int .u8 (m.ad.c.toNat : Int), .int .u8 (m.ad.d.toNat : Int), .int .i64 m.i, .int .i64 m.k, .int .i64 m.u] rfl)
  go_wp2_with (first | ((with_reducible show wpList _ _ _ (⟨some 24, _, _, _, _, _⟩ :: _) _ _); refine wpList_load_rng 65 (.tmp 4) rfl (by kernel_rfl) _ _ rfl _ R24.out _ Tryz.underlying65 rfl (by kernel_rfl) ?_))
  try clear R24
  with_reducible refine (mport_any m _).mono ?_
  rintro e w8 ⟨rfl, b8⟩
  replace hmB := blk_u hmB b8
  replace htb := blk_u htb b8
  replace own := owk_under own b8
  replace fo := fo.below b8
  replace hM := hM.below b8
  replace bel := bel.trans (b8.mono (Nat.le_trans hlo bel.size))
  clear b8
  go_wp2_with fail
  with_reducible refine (mat_none m.pr m.o _ htb (owk_sle (by decide) mpE_len own).1 HOK.out.srt HOK.out.okp HMO.out H32.out HF.out).mono ?_
  rintro e w9 ⟨rfl, b9⟩
  replace hmB := blk_u hmB b9
  replace htb := blk_u htb b9
  replace own := owk_under own b9
  replace fo := fo.below b9
  replace hM := hM.below b9
  replace bel := bel.trans (b9.mono (Nat.le_trans hlo bel.size))
  clear b9
  go_wp2_with fail
  with_reducible refine (full_n (l := []) _ htb (Int.not_le.2 HFU.out)).mono ?_
  rintro e w10 ⟨rfl, b10⟩
  replace hmB := blk_u hmB b10
  replace htb := blk_u htb b10
  replace own := owk_under own b10
  replace fo := fo.below b10
  replace hM := hM.below b10
  replace bel := bel.trans (b10.mono (Nat.le_trans hlo bel.size))
  clear b10
  have R43 := Lib.hid (range_lit hmB 0 9 [.int .i64 m.pr, .int .i64 m.o, .int .u8 (m.ad.a.toNat : Int), .int .u8 (m.ad.b.toNat : Int), .int .u8 (m.ad.c.toNat : Int), .int .u8 (m.ad.d.toNat : Int), .int .i64 m.i, .int .i64 m.k, .int .i64 m.u] rfl)
  go_wp2_with (first | ((with_reducible show wpList _ _ _ (⟨some 43, _, _, _, _, _⟩ :: _) _ _); refine wpList_load_rng 65 (.tmp 4) rfl (by kernel_rfl) _ _ rfl _ R43.out _ Tryz.underlying65 rfl (by kernel_rfl) ?_))
  try clear R43
  have ap_mB := Ap.mk htb off_mB d_mB_tb.out
  have fr := fo.fr htb
  have hT : Tp lo gt w10 ⟨lw, rm, now, l, os⟩ := ⟨A, n, c, mb, htb, otb, hM, own, HOK.out⟩
  clear htb hM own off_tb fo
  with_reducible refine (tadd_any (m := m) _ hT HMK.out HFK.out HRM.out).mono ?_
  rintro e w11 ⟨rfl, hT_, f_, bb⟩
  have x_ := f_ _ _ _ _ hmB ap_mB
  replace hmB := x_.1
  replace ap_mB := x_.2
  clear x_
  replace fr := fr.trans f_
  clear hT
  have hT := hT_
  replace bel := bel.trans bb
  clear bb f_ hT_
  go_wp2_with fail
  go_ret
  exact ⟨rfl, hT, fr, bel⟩
set_option linter.unusedVariables false in
set_option linter.unusedSimpArgs false in
set_option maxRecDepth 100000 in
set_option maxHeartbeats 16000000 in
theorem tin_none {lo gt : Nat} {s : Ts} {lw rm now : Int} {l os : List Mp} {p o : Int} (t : Int) (w : World) (hT : Tp lo gt w s) (ha : s.adv t = ⟨lw, rm, now, l, os⟩) (hpo : okP p o) (hf : mfhas l (kn p o) = false) : Calls Tryz.prog 29 #[.pointer (some ⟨gt, 0, none⟩), .int .i64 p, .int .i64 o, .int .i64 t] w fun e w' => e = .returned (.tuple #[.agg #[.int .i64 0, .int .i64 0, .int .u8 0, .int .u8 0, .int .u8 0, .int .u8 0, .int .i64 0, .int .i64 0, .int .i64 0], .bool false]) ∧ Tp lo gt w' ⟨lw, rm, now, l, os⟩ ∧ Fap gt w w' ∧ Below lo w w' := by
  have hlo : lo ≤ w.heap.size := hT.lo_le
  have HLO := Lib.hid hlo
  have fr := Fap.refl gt w
  have HPO := Lib.hid hpo
  have HF := Lib.hid hf
  clear hpo hf
  have bel := Below.refl lo w
  go_enter Tryz.func29, Tryz.ntmps29
  go_wp2_with (first | ((with_reducible show wpList _ _ _ (⟨some 8, _, _, _, _, _⟩ :: _) _ _); refine wpList_new_a rfl 65 rfl #[.int .i64 0, .int .i64 0, .int .u8 0, .int .u8 0, .int .u8 0, .int .u8 0, .int .i64 0, .int .i64 0, .int .i64 0] (by kernel_rfl) ?_; intro g8 w1 ge hh bb; have ap_rB := hT.ap ge; have orB := Nat.le_trans (Nat.le_trans hlo bel.size) ge; have pn_rB := Nat.le_trans bel.size ge; replace fr := fr.below bb; replace hT := hT.below bb; replace ap_rB := ap_rB.below bb; replace bel := bel.trans (bb.mono (Nat.le_trans hlo bel.size)); have hrB := hh; clear hh ge bb))
  with_reducible refine (tadv_any _ _ hT ha).mono ?_
  rintro e w2 ⟨rfl, hT_, f_, bb⟩
  have x_ := f_ _ _ _ _ hrB ap_rB
  replace hrB := x_.1
  replace ap_rB := x_.2
  clear x_
  replace fr := fr.trans f_
  clear hT
  have hT := hT_
  replace bel := bel.trans bb
  clear bb f_ hT_
  obtain ⟨A, n, c, mb, htb, otb, hM, own, hok⟩ := hT
  dsimp only at htb hM own
  have off_tb := ofs_type own htb (by decide)
  have hl := row_len (by decide) mpE_len own
  have HLL := Lib.hid hl
  have HOK := Lib.hid hok
  have H32 : Hid (n ≤ 1000) := Lib.hid (by have h1_ := hok.len; have h2_ := hok.r1; simp only at h1_ h2_; omega)
  have H128 : Hid (n ≤ 128) := Lib.hid (by have h1_ := hok.len; have h2_ := hok.r1; simp only at h1_ h2_; omega)
  clear hl hok
  have fo := fr.fo htb
  clear fr
  have off_rB := ap_rB.ofs htb
  have d_rB_tb := Lib.hid ap_rB.1
  clear ap_rB
  go_wp2_with fail
  with_reducible refine (mat_none p o _ htb (owk_sle (by decide) mpE_len own).1 HOK.out.srt HOK.out.okp HPO.out H32.out HF.out).mono ?_
  rintro e w3 ⟨rfl, b3⟩
  replace hrB := blk_u hrB b3
  replace htb := blk_u htb b3
  replace own := owk_under own b3
  replace fo := fo.below b3
  replace hM := hM.below b3
  replace bel := bel.trans (b3.mono (Nat.le_trans hlo bel.size))
  clear b3
  go_wp2_with fail
  with_reducible refine (found_none _).mono ?_
  rintro e w4 ⟨rfl, b4⟩
  replace hrB := blk_u hrB b4
  replace htb := blk_u htb b4
  replace own := owk_under own b4
  replace fo := fo.below b4
  replace hM := hM.below b4
  replace bel := bel.trans (b4.mono (Nat.le_trans hlo bel.size))
  clear b4
  go_wp2_with (first | ((with_reducible show wpList _ _ _ (⟨none, Op.store _ (.tmp 8) _, _, _, _, _⟩ :: _) _ _); refine wpList_store_blk rfl 65 (.tmp 8) (.tmp 19) rfl g8 rfl _ rfl _ 65 hrB (by rfl) (by kernel_rfl) (by kernel_rfl) ?_; intro w5 hq gr; replace htb := blk_a htb gr (ne_symm d_rB_tb); replace own := owk_off own off_rB gr; replace fo := fo.newer gr pn_rB; replace hM := hM.grown gr hrB; replace bel := below_grown bel gr orB (Nat.le_trans hlo bel.size); clear hrB; have hrB := hq; clear hq gr))
  exact bodyPost_ret (results_cell_tmp_row rfl _ _ _ _ _ _ _ rfl hrB Tryz.underlying65 rfl (by kernel_rfl) (.bool false) rfl) rfl ⟨rfl, ⟨A, n, c, mb, htb, otb, hM, own, HOK.out⟩, fo.fr htb, bel⟩
set_option linter.unusedVariables false in
set_option linter.unusedSimpArgs false in
set_option maxRecDepth 100000 in
set_option maxHeartbeats 16000000 in
theorem tin_some {lo gt : Nat} {s : Ts} {lw rm now : Int} {l os : List Mp} {p o : Int} {i : Nat} {x : Mp} (t : Int) (w : World) (hT : Tp lo gt w s) (ha : s.adv t = ⟨lw, rm, now, l, os⟩) (hpo : okP p o) (hf : mfhas l (kn p o) = true) (hq : mfpos l (kn p o) = i) (hx : l[i]? = some x) : Calls Tryz.prog 29 #[.pointer (some ⟨gt, 0, none⟩), .int .i64 p, .int .i64 o, .int .i64 t] w fun e w' => e = .returned (.tuple #[.agg #[.int .i64 x.pr, .int .i64 x.o, .int .u8 (x.ad.a.toNat : Int), .int .u8 (x.ad.b.toNat : Int), .int .u8 (x.ad.c.toNat : Int), .int .u8 (x.ad.d.toNat : Int), .int .i64 x.i, .int .i64 x.k, .int .i64 x.u], .bool true]) ∧ Tp lo gt w' ⟨lw, rm, now, l, os⟩ ∧ Fap gt w w' ∧ Below lo w w' := by
  have hlo : lo ≤ w.heap.size := hT.lo_le
  have HLO := Lib.hid hlo
  have fr := Fap.refl gt w
  have HPO := Lib.hid hpo
  have HF := Lib.hid hf
  clear hpo hf
  have HQ := Lib.hid hq
  clear hq
  have bel := Below.refl lo w
  go_enter Tryz.func29, Tryz.ntmps29
  go_wp2_with (first | ((with_reducible show wpList _ _ _ (⟨some 8, _, _, _, _, _⟩ :: _) _ _); refine wpList_new_a rfl 65 rfl #[.int .i64 0, .int .i64 0, .int .u8 0, .int .u8 0, .int .u8 0, .int .u8 0, .int .i64 0, .int .i64 0, .int .i64 0] (by kernel_rfl) ?_; intro g8 w1 ge hh bb; have ap_rB := hT.ap ge; have orB := Nat.le_trans (Nat.le_trans hlo bel.size) ge; have pn_rB := Nat.le_trans bel.size ge; replace fr := fr.below bb; replace hT := hT.below bb; replace ap_rB := ap_rB.below bb; replace bel := bel.trans (bb.mono (Nat.le_trans hlo bel.size)); have hrB := hh; clear hh ge bb))
  with_reducible refine (tadv_any _ _ hT ha).mono ?_
  rintro e w2 ⟨rfl, hT_, f_, bb⟩
  have x_ := f_ _ _ _ _ hrB ap_rB
  replace hrB := x_.1
  replace ap_rB := x_.2
  clear x_
  replace fr := fr.trans f_
  clear hT
  have hT := hT_
  replace bel := bel.trans bb
  clear bb f_ hT_
  obtain ⟨A, n, c, mb, htb, otb, hM, own, hok⟩ := hT
  dsimp only at htb hM own
  have off_tb := ofs_type own htb (by decide)
  have hl := row_len (by decide) mpE_len own
  have HLL := Lib.hid hl
  have HOK := Lib.hid hok
  have H32 : Hid (n ≤ 1000) := Lib.hid (by have h1_ := hok.len; have h2_ := hok.r1; simp only at h1_ h2_; omega)
  have H128 : Hid (n ≤ 128) := Lib.hid (by have h1_ := hok.len; have h2_ := hok.r1; simp only at h1_ h2_; omega)
  clear hl hok
  have fo := fr.fo htb
  clear fr
  have hin_ : i < n := by have h1_ := (List.getElem?_eq_some_iff.1 hx).1; have h2_ := HLL.out; omega
  have i0 : (0 : Int) ≤ i := by omega
  have i1 : (i : Int) < n := by omega
  obtain ⟨gE, rfl, _⟩ := row_at own (by omega)
  have en := (owk_sle (by decide) mpE_len own).1
  have av_en_tb := owk_av own off_tb
  clear hin_
  have HX := Lib.hid hx
  clear hx
  have off_rB := ap_rB.ofs htb
  have d_rB_tb := Lib.hid ap_rB.1
  clear ap_rB
  have av_en_rB := owk_av own off_rB
  go_wp2_with fail
  with_reducible refine (mat_some p o _ htb en av_en_tb HOK.out.srt HOK.out.okp HPO.out H32.out HQ.out HF.out HX.out).mono ?_
  rintro e w3 ⟨rfl, b3⟩
  replace hrB := blk_u hrB b3
  replace htb := blk_u htb b3
  replace en := en.below b3
  replace own := owk_under own b3
  replace fo := fo.below b3
  replace hM := hM.below b3
  replace bel := bel.trans (b3.mono (Nat.le_trans hlo bel.size))
  clear b3
  go_wp2_with fail
  with_reducible refine (found_at _ en HX.out).mono ?_
  rintro e w4 ⟨rfl, b4⟩
  replace hrB := blk_u hrB b4
  replace htb := blk_u htb b4
  replace en := en.below b4
  replace own := owk_under own b4
  replace fo := fo.below b4
  replace hM := hM.below b4
  replace bel := bel.trans (b4.mono (Nat.le_trans hlo bel.size))
  clear b4
  go_wp2_with (first | ((with_reducible show wpList _ _ _ (⟨none, Op.store _ (.tmp 8) _, _, _, _, _⟩ :: _) _ _); refine wpList_store_blk rfl 65 (.tmp 8) (.tmp 19) rfl g8 rfl _ rfl _ 65 hrB (by rfl) (by kernel_rfl) (by kernel_rfl) ?_; intro w5 hq gr; replace en := en.away av_en_rB gr; replace htb := blk_a htb gr (ne_symm d_rB_tb); replace own := owk_off own off_rB gr; replace fo := fo.newer gr pn_rB; replace hM := hM.grown gr hrB; replace bel := below_grown bel gr orB (Nat.le_trans hlo bel.size); clear hrB; have hrB := hq; clear hq gr))
  exact bodyPost_ret (results_cell_tmp_row rfl _ _ _ _ _ _ _ rfl hrB Tryz.underlying65 rfl (by kernel_rfl) (.bool true) rfl) rfl ⟨rfl, ⟨(some ⟨gE, 0, none⟩), n, c, mb, htb, otb, hM, own, HOK.out⟩, fo.fr htb, bel⟩
set_option linter.unusedVariables false in
set_option linter.unusedSimpArgs false in
set_option maxRecDepth 100000 in
set_option maxHeartbeats 16000000 in
theorem tlen_any {lo gt : Nat} {s : Ts} {lw rm now : Int} {l os : List Mp} (t : Int) (w : World) (hT : Tp lo gt w s) (ha : s.adv t = ⟨lw, rm, now, l, os⟩)  : Calls Tryz.prog 26 #[.pointer (some ⟨gt, 0, none⟩), .int .i64 t] w fun e w' => e = .returned (.int .i64 (l.length : Int)) ∧ Tp lo gt w' ⟨lw, rm, now, l, os⟩ ∧ Fap gt w w' ∧ Below lo w w' := by
  have hlo : lo ≤ w.heap.size := hT.lo_le
  have HLO := Lib.hid hlo
  have fr := Fap.refl gt w
  have bel := Below.refl lo w
  go_enter Tryz.func26, Tryz.ntmps26
  go_wp2_with fail
  with_reducible refine (tadv_any _ _ hT ha).mono ?_
  rintro e w1 ⟨rfl, hT_, f_, bb⟩
  replace fr := fr.trans f_
  clear hT
  have hT := hT_
  replace bel := bel.trans bb
  clear bb f_ hT_
  obtain ⟨A, n, c, mb, htb, otb, hM, own, hok⟩ := hT
  dsimp only at htb hM own
  have off_tb := ofs_type own htb (by decide)
  have hl := row_len (by decide) mpE_len own
  have HLL := Lib.hid hl
  have HOK := Lib.hid hok
  have H32 : Hid (n ≤ 1000) := Lib.hid (by have h1_ := hok.len; have h2_ := hok.r1; simp only at h1_ h2_; omega)
  have H128 : Hid (n ≤ 128) := Lib.hid (by have h1_ := hok.len; have h2_ := hok.r1; simp only at h1_ h2_; omega)
  clear hl hok
  have fo := fr.fo htb
  clear fr
  have R11 := cell_lit htb 3 _ rfl
  go_wp2_with fail
  clear R11
  go_ret
  exact ⟨by rw [HLL.out]; rfl, ⟨A, n, c, mb, htb, otb, hM, own, HOK.out⟩, fo.fr htb, bel⟩
set_option linter.unusedVariables false in
set_option linter.unusedSimpArgs false in
set_option maxRecDepth 100000 in
set_option maxHeartbeats 16000000 in
theorem tmake_old {lo gt : Nat} {s : Ts} {lw rm now : Int} {l os : List Mp} {pr p : Int} {ad : Ad4} {i : Nat} {x : Mp} {sc un : Int} (t : Int) (w : World) (hT : Tp lo gt w s) (ha : s.adv t = ⟨lw, rm, now, l, os⟩) (hpb : portB pr p = true) (hsc : secsB sc = true) (hu : now + sc = un) (hbf : bestF pr ad p l l.length = some i) (hx : l[i]? = some x) (hk : (x.k == 1) = true) : Calls Tryz.prog 110 #[.pointer (some ⟨gt, 0, none⟩), .agg #[.int .i64 pr, .int .u8 (ad.a.toNat : Int), .int .u8 (ad.b.toNat : Int), .int .u8 (ad.c.toNat : Int), .int .u8 (ad.d.toNat : Int), .int .i64 p], .int .i64 t, .int .i64 sc] w fun e w' => e = .returned (.tuple #[.agg #[.int .i64 x.pr, .int .i64 x.o, .int .u8 (x.ad.a.toNat : Int), .int .u8 (x.ad.b.toNat : Int), .int .u8 (x.ad.c.toNat : Int), .int .u8 (x.ad.d.toNat : Int), .int .i64 x.i, .int .i64 x.k, .int .i64 un], .int .i64 0]) ∧ Tp lo gt w' ⟨lw, rm, now, l.set i ⟨x.pr, x.o, x.ad, x.i, x.k, un⟩, os⟩ ∧ Fap gt w w' ∧ Below lo w w' := by
  have hlo : lo ≤ w.heap.size := hT.lo_le
  have HLO := Lib.hid hlo
  have fr := Fap.refl gt w
  have HPB := Lib.hid hpb
  have HSC := Lib.hid hsc
  have HU := Lib.hid hu
  have HSR : Hid (1 ≤ sc ∧ sc ≤ 1000000000) := Lib.hid (by unfold secsB at hsc; simpa using hsc)
  clear hpb hsc hu
  have bel := Below.refl lo w
  go_enter Tryz.func110, Tryz.ntmps110
  go_wp2_with (first | ((with_reducible show wpList _ _ _ (⟨some 5, _, _, _, _, _⟩ :: _) _ _); refine wpList_box_n rfl 164 (.tmp 1) rfl #[.int .i64 pr, .int .u8 (ad.a.toNat : Int), .int .u8 (ad.b.toNat : Int), .int .u8 (ad.c.toNat : Int), .int .u8 (ad.d.toNat : Int), .int .i64 p] rfl ?_; intro g5 w1 ge lt hh bb; have ap_fB := hT.ap ge; have ofB := Nat.le_trans (Nat.le_trans hlo bel.size) ge; have pn_fB := Nat.le_trans bel.size ge; replace fr := fr.below bb; replace hT := hT.below bb; replace ap_fB := ap_fB.below bb; replace bel := bel.trans (bb.mono (Nat.le_trans hlo bel.size)); have hfB := hh; clear hh lt ge bb) | ((with_reducible show wpList _ _ _ (⟨some 8, _, _, _, _, _⟩ :: _) _ _); refine wpList_new_a rfl 65 rfl #[.int .i64 0, .int .i64 0, .int .u8 0, .int .u8 0, .int .u8 0, .int .u8 0, .int .i64 0, .int .i64 0, .int .i64 0] (by kernel_rfl) ?_; intro g8 w2 ge hh bb; have ap_rB := hT.ap ge; have d_fB_rB := ne_new (hlt hfB) ge; have orB := Nat.le_trans (Nat.le_trans hlo bel.size) ge; have pn_rB := Nat.le_trans bel.size ge; replace hfB := blk_u hfB bb; replace fr := fr.below bb; replace hT := hT.below bb; replace ap_fB := ap_fB.below bb; replace ap_rB := ap_rB.below bb; replace bel := bel.trans (bb.mono (Nat.le_trans hlo bel.size)); have hrB := hh; clear hh ge bb))
  with_reducible refine (tadv_any _ _ hT ha).mono ?_
  rintro e w3 ⟨rfl, hT_, f_, bb⟩
  have x_ := f_ _ _ _ _ hfB ap_fB
  replace hfB := x_.1
  replace ap_fB := x_.2
  clear x_
  have x_ := f_ _ _ _ _ hrB ap_rB
  replace hrB := x_.1
  replace ap_rB := x_.2
  clear x_
  replace fr := fr.trans f_
  clear hT
  have hT := hT_
  replace bel := bel.trans bb
  clear bb f_ hT_
  obtain ⟨A, n, c, mb, htb, otb, hM, own, hok⟩ := hT
  dsimp only at htb hM own
  have off_tb := ofs_type own htb (by decide)
  have hl := row_len (by decide) mpE_len own
  have HLL := Lib.hid hl
  have HOK := Lib.hid hok
  have H32 : Hid (n ≤ 1000) := Lib.hid (by have h1_ := hok.len; have h2_ := hok.r1; simp only at h1_ h2_; omega)
  have H128 : Hid (n ≤ 128) := Lib.hid (by have h1_ := hok.len; have h2_ := hok.r1; simp only at h1_ h2_; omega)
  clear hl hok
  have fo := fr.fo htb
  clear fr
  have hin_ : i < n := by have h1_ := (List.getElem?_eq_some_iff.1 hx).1; have h2_ := HLL.out; omega
  have i0 : (0 : Int) ≤ i := by omega
  have i1 : (i : Int) < n := by omega
  obtain ⟨gE, rfl, _⟩ := row_at own (by omega)
  have en := (owk_sle (by decide) mpE_len own).1
  have av_en_tb := owk_av own off_tb
  clear hin_
  have hw : IntKind.i64.wrap (now + sc) = un := by rw [← HU.out]; exact IntWalk.i64_in _ (by have h1_ := HOK.out.n0; have h2_ := HOK.out.n1; have h3_ := HSR.out; simp only at h1_ h2_; omega)
  have HBF : Hid (bestF pr ad p l n = some i) := Lib.hid (by rw [HLL.out] at hbf; exact hbf)
  clear hbf
  have HX := Lib.hid hx
  clear hx
  have HOK2 := Lib.hid (HOK.out.set (y := ⟨x.pr, x.o, x.ad, x.i, x.k, un⟩) HX.out rfl rfl)
  have off_fB := ap_fB.ofs htb
  have d_fB_tb := Lib.hid ap_fB.1
  clear ap_fB
  have av_en_fB := owk_av own off_fB
  have off_rB := ap_rB.ofs htb
  have d_rB_tb := Lib.hid ap_rB.1
  clear ap_rB
  have av_en_rB := owk_av own off_rB
  have R19 := cell_lit hfB 0 _ rfl
  have R21 := cell_lit hfB 5 _ rfl
  go_wp2_with fail
  clear R19 R21
  with_reducible refine (isport_any _ HPB.out).mono ?_
  rintro e _ ⟨rfl, rfl⟩
  go_wp2_with fail
  with_reducible refine (secs_any _ HSC.out).mono ?_
  rintro e _ ⟨rfl, rfl⟩
  have R33 := cell_lit htb 2 _ rfl
  have R37 := Lib.hid (range_lit hfB 0 6 [.int .i64 pr, .int .u8 (ad.a.toNat : Int), .int .u8 (ad.b.toNat : Int), .int .u8 (ad.c.toNat : Int), .int .u8 (ad.d.toNat : Int), .int .i64 p] rfl)
  go_wp2_with (first | ((with_reducible show wpList _ _ _ (⟨some 37, _, _, _, _, _⟩ :: _) _ _); refine wpList_load_rng 164 (.tmp 5) rfl (by kernel_rfl) _ _ rfl _ R37.out _ Tryz.underlying164 rfl (by kernel_rfl) ?_))
  try clear R33
  try clear R37
  with_reducible refine (bf_some _ htb en H32.out av_en_tb HBF.out).mono ?_
  rintro e w4 ⟨rfl, b4⟩
  replace hfB := blk_u hfB b4
  replace hrB := blk_u hrB b4
  replace htb := blk_u htb b4
  replace en := en.below b4
  replace own := owk_under own b4
  replace fo := fo.below b4
  replace hM := hM.below b4
  replace bel := bel.trans (b4.mono (Nat.le_trans hlo bel.size))
  clear b4
  have R44 := Sle.zcell en HX.out 7 _ rfl
  go_wp2_with (first | ((with_reducible show wpList _ _ _ (⟨none, Op.store _ (.tmp 49) _, _, _, _, _⟩ :: _) _ _); refine wpList_store_el rfl 2 (.tmp 49) (.tmp 47) rfl gE i 8 x (⟨x.pr, x.o, x.ad, x.i, x.k, un⟩) rfl [.int .i64 un] rfl (by decide) mpE_len own HX.out (Nat.le_of_ble_eq_true rfl) rfl (by kernel_rfl) (by rfl) ?_; intro w5 own_ gw; replace bel := bel.trans (row_bel gw own (Nat.le_trans hlo bel.size)); replace hfB := blk_own (v := .slice (some ⟨gE, 0, none⟩) n c) hfB gw off_fB; replace hrB := blk_own (v := .slice (some ⟨gE, 0, none⟩) n c) hrB gw off_rB; replace htb := blk_own (v := .slice (some ⟨gE, 0, none⟩) n c) htb gw off_tb; replace fo := fo.row gw (fun _ _ h => h); replace hM := hM.row gw own; clear own; have own := own_; clear own_ gw; replace en := (owk_sle (by decide) mpE_len own).1; have HXY : Hid ((l.set i ⟨x.pr, x.o, x.ad, x.i, x.k, un⟩)[i]? = some ⟨x.pr, x.o, x.ad, x.i, x.k, un⟩) := Lib.hid (List.getElem?_set_self (List.getElem?_eq_some_iff.1 HX.out).1); have R52 := Lib.hid (Sle.zrange0 en HXY.out 9 [.int .i64 x.pr, .int .i64 x.o, .int .u8 (x.ad.a.toNat : Int), .int .u8 (x.ad.b.toNat : Int), .int .u8 (x.ad.c.toNat : Int), .int .u8 (x.ad.d.toNat : Int), .int .i64 x.i, .int .i64 x.k, .int .i64 un] rfl)) | ((with_reducible show wpList _ _ _ (⟨some 52, _, _, _, _, _⟩ :: _) _ _); refine wpList_load_rng 65 (.tmp 51) rfl (by kernel_rfl) _ _ rfl _ R52.out _ Tryz.underlying65 rfl (by kernel_rfl) ?_) | ((with_reducible show wpList _ _ _ (⟨none, Op.store _ (.tmp 8) _, _, _, _, _⟩ :: _) _ _); refine wpList_store_blk rfl 65 (.tmp 8) (.tmp 52) rfl g8 rfl _ rfl _ 65 hrB (by rfl) (by kernel_rfl) (by kernel_rfl) ?_; intro w6 hq gr; replace en := en.away av_en_rB gr; replace hfB := blk_a hfB gr d_fB_rB; replace htb := blk_a htb gr (ne_symm d_rB_tb); replace own := owk_off own off_rB gr; replace fo := fo.newer gr pn_rB; replace hM := hM.grown gr hrB; replace bel := below_grown bel gr orB (Nat.le_trans hlo bel.size); clear hrB; have hrB := hq; clear hq gr))
  try clear R44
  try clear R52
  exact bodyPost_ret (results_cell_tmp_row rfl _ _ _ _ _ _ _ rfl hrB Tryz.underlying65 rfl (by kernel_rfl) (.int .i64 0) rfl) rfl ⟨rfl, ⟨(some ⟨gE, 0, none⟩), n, c, mb, htb, otb, hM, own, HOK2.out⟩, fo.fr htb, bel⟩
set_option linter.unusedVariables false in
set_option linter.unusedSimpArgs false in
set_option maxRecDepth 100000 in
set_option maxHeartbeats 16000000 in
theorem tmake_new {lo gt : Nat} {s : Ts} {lw rm now : Int} {l os : List Mp} {pr p : Int} {ad : Ad4} {q sc un : Int} (t : Int) (w : World) (hT : Tp lo gt w s) (ha : s.adv t = ⟨lw, rm, now, l, os⟩) (hpb : portB pr p = true) (hsc : secsB sc = true) (hu : now + sc = un) (hbf : bestF pr ad p l l.length = none) (hfo : FoP lw l pr ad p q true) (hr : (l.length : Int) < rm) (hqo : okP pr q) (hqf : mfhas l (kn pr q) = false) : Calls Tryz.prog 110 #[.pointer (some ⟨gt, 0, none⟩), .agg #[.int .i64 pr, .int .u8 (ad.a.toNat : Int), .int .u8 (ad.b.toNat : Int), .int .u8 (ad.c.toNat : Int), .int .u8 (ad.d.toNat : Int), .int .i64 p], .int .i64 t, .int .i64 sc] w fun e w' => e = .returned (.tuple #[.agg #[.int .i64 pr, .int .i64 q, .int .u8 (ad.a.toNat : Int), .int .u8 (ad.b.toNat : Int), .int .u8 (ad.c.toNat : Int), .int .u8 (ad.d.toNat : Int), .int .i64 p, .int .i64 1, .int .i64 un], .int .i64 0]) ∧ Tp lo gt w' ⟨lw, rm, now, mins l ⟨pr, q, ad, p, 1, un⟩, odel os (kn pr q)⟩ ∧ Fap gt w w' ∧ Below lo w w' := by
  have hlo : lo ≤ w.heap.size := hT.lo_le
  have HLO := Lib.hid hlo
  have fr := Fap.refl gt w
  have HMK : Hid (Mp.okp ⟨pr, q, ad, p, 1, un⟩) := Lib.hid hqo
  have HFK : Hid (mfhas l (Mp.num ⟨pr, q, ad, p, 1, un⟩) = false) := Lib.hid hqf
  clear hqo hqf
  have HPB := Lib.hid hpb
  have HSC := Lib.hid hsc
  have HU := Lib.hid hu
  have HSR : Hid (1 ≤ sc ∧ sc ≤ 1000000000) := Lib.hid (by unfold secsB at hsc; simpa using hsc)
  clear hpb hsc hu
  have HFO := hfo
  unfold FoP at HFO
  clear hfo
  have bel := Below.refl lo w
  go_enter Tryz.func110, Tryz.ntmps110
  go_wp2_with (first | ((with_reducible show wpList _ _ _ (⟨some 5, _, _, _, _, _⟩ :: _) _ _); refine wpList_box_n rfl 164 (.tmp 1) rfl #[.int .i64 pr, .int .u8 (ad.a.toNat : Int), .int .u8 (ad.b.toNat : Int), .int .u8 (ad.c.toNat : Int), .int .u8 (ad.d.toNat : Int), .int .i64 p] rfl ?_; intro g5 w1 ge lt hh bb; have ap_fB := hT.ap ge; have ofB := Nat.le_trans (Nat.le_trans hlo bel.size) ge; have pn_fB := Nat.le_trans bel.size ge; replace fr := fr.below bb; replace hT := hT.below bb; replace ap_fB := ap_fB.below bb; replace bel := bel.trans (bb.mono (Nat.le_trans hlo bel.size)); have hfB := hh; clear hh lt ge bb) | ((with_reducible show wpList _ _ _ (⟨some 8, _, _, _, _, _⟩ :: _) _ _); refine wpList_new_a rfl 65 rfl #[.int .i64 0, .int .i64 0, .int .u8 0, .int .u8 0, .int .u8 0, .int .u8 0, .int .i64 0, .int .i64 0, .int .i64 0] (by kernel_rfl) ?_; intro g8 w2 ge hh bb; have ap_rB := hT.ap ge; have d_fB_rB := ne_new (hlt hfB) ge; have orB := Nat.le_trans (Nat.le_trans hlo bel.size) ge; have pn_rB := Nat.le_trans bel.size ge; replace hfB := blk_u hfB bb; replace fr := fr.below bb; replace hT := hT.below bb; replace ap_fB := ap_fB.below bb; replace ap_rB := ap_rB.below bb; replace bel := bel.trans (bb.mono (Nat.le_trans hlo bel.size)); have hrB := hh; clear hh ge bb))
  with_reducible refine (tadv_any _ _ hT ha).mono ?_
  rintro e w3 ⟨rfl, hT_, f_, bb⟩
  have x_ := f_ _ _ _ _ hfB ap_fB
  replace hfB := x_.1
  replace ap_fB := x_.2
  clear x_
  have x_ := f_ _ _ _ _ hrB ap_rB
  replace hrB := x_.1
  replace ap_rB := x_.2
  clear x_
  replace fr := fr.trans f_
  clear hT
  have hT := hT_
  replace bel := bel.trans bb
  clear bb f_ hT_
  obtain ⟨A, n, c, mb, htb, otb, hM, own, hok⟩ := hT
  dsimp only at htb hM own
  have off_tb := ofs_type own htb (by decide)
  have hl := row_len (by decide) mpE_len own
  have HLL := Lib.hid hl
  have HOK := Lib.hid hok
  have H32 : Hid (n ≤ 1000) := Lib.hid (by have h1_ := hok.len; have h2_ := hok.r1; simp only at h1_ h2_; omega)
  have H128 : Hid (n ≤ 128) := Lib.hid (by have h1_ := hok.len; have h2_ := hok.r1; simp only at h1_ h2_; omega)
  clear hl hok
  have fo := fr.fo htb
  clear fr
  have hw : IntKind.i64.wrap (now + sc) = un := by rw [← HU.out]; exact IntWalk.i64_in _ (by have h1_ := HOK.out.n0; have h2_ := HOK.out.n1; have h3_ := HSR.out; simp only at h1_ h2_; omega)
  have HBF : Hid (bestF pr ad p l n = none) := Lib.hid (by rw [HLL.out] at hbf; exact hbf)
  clear hbf
  have HRM := Lib.hid hr
  have HFU : Hid ((n : Int) < rm) := Lib.hid (by rw [HLL.out] at hr; omega)
  clear hr
  have off_fB := ap_fB.ofs htb
  have d_fB_tb := Lib.hid ap_fB.1
  clear ap_fB
  have off_rB := ap_rB.ofs htb
  have d_rB_tb := Lib.hid ap_rB.1
  clear ap_rB
  have R19 := cell_lit hfB 0 _ rfl
  have R21 := cell_lit hfB 5 _ rfl
  go_wp2_with fail
  clear R19 R21
  with_reducible refine (isport_any _ HPB.out).mono ?_
  rintro e _ ⟨rfl, rfl⟩
  go_wp2_with fail
  with_reducible refine (secs_any _ HSC.out).mono ?_
  rintro e _ ⟨rfl, rfl⟩
  have R33 := cell_lit htb 2 _ rfl
  have R37 := Lib.hid (range_lit hfB 0 6 [.int .i64 pr, .int .u8 (ad.a.toNat : Int), .int .u8 (ad.b.toNat : Int), .int .u8 (ad.c.toNat : Int), .int .u8 (ad.d.toNat : Int), .int .i64 p] rfl)
  go_wp2_with (first | ((with_reducible show wpList _ _ _ (⟨some 37, _, _, _, _, _⟩ :: _) _ _); refine wpList_load_rng 164 (.tmp 5) rfl (by kernel_rfl) _ _ rfl _ R37.out _ Tryz.underlying164 rfl (by kernel_rfl) ?_))
  try clear R33
  try clear R37
  with_reducible refine (bf_none _ htb own H32.out HBF.out).mono ?_
  rintro e w4 ⟨rfl, b4⟩
  replace hfB := blk_u hfB b4
  replace hrB := blk_u hrB b4
  replace htb := blk_u htb b4
  replace own := owk_under own b4
  replace fo := fo.below b4
  replace hM := hM.below b4
  replace bel := bel.trans (b4.mono (Nat.le_trans hlo bel.size))
  clear b4
  have R55 := Lib.hid (range_lit hfB 0 6 [.int .i64 pr, .int .u8 (ad.a.toNat : Int), .int .u8 (ad.b.toNat : Int), .int .u8 (ad.c.toNat : Int), .int .u8 (ad.d.toNat : Int), .int .i64 p] rfl)
  go_wp2_with (first | ((with_reducible show wpList _ _ _ (⟨some 55, _, _, _, _, _⟩ :: _) _ _); refine wpList_load_rng 164 (.tmp 5) rfl (by kernel_rfl) _ _ rfl _ R55.out _ Tryz.underlying164 rfl (by kernel_rfl) ?_))
  try clear R55
  with_reducible refine (HFO _ _ _ _ _ _ _ _ _ htb own H32.out).mono ?_
  rintro e w5 ⟨rfl, b5⟩
  replace hfB := blk_u hfB b5
  replace hrB := blk_u hrB b5
  replace htb := blk_u htb b5
  replace own := owk_under own b5
  replace fo := fo.below b5
  replace hM := hM.below b5
  replace bel := bel.trans (b5.mono (Nat.le_trans hlo bel.size))
  clear b5
  go_wp2_with fail
  with_reducible refine (full_n (l := []) _ htb (Int.not_le.2 HFU.out)).mono ?_
  rintro e w6 ⟨rfl, b6⟩
  replace hfB := blk_u hfB b6
  replace hrB := blk_u hrB b6
  replace htb := blk_u htb b6
  replace own := owk_under own b6
  replace fo := fo.below b6
  replace hM := hM.below b6
  replace bel := bel.trans (b6.mono (Nat.le_trans hlo bel.size))
  clear b6
  have R67 := cell_lit hfB 0 _ rfl
  have R70 := Lib.hid (range_lit hfB 1 4 [.int .u8 (ad.a.toNat : Int), .int .u8 (ad.b.toNat : Int), .int .u8 (ad.c.toNat : Int), .int .u8 (ad.d.toNat : Int)] rfl)
  go_wp2_with (first | ((with_reducible show wpList _ _ _ (⟨some 70, _, _, _, _, _⟩ :: _) _ _); refine wpList_load_rng 35 (.tmp 69) rfl (by kernel_rfl) _ _ rfl _ R70.out _ Tryz.underlying35 rfl (by kernel_rfl) ?_; have R72 := cell_lit hfB 5 _ rfl) | ((with_reducible show wpList _ _ _ (⟨some 14, _, _, _, _, _⟩ :: _) _ _); refine wpList_new_a rfl 65 rfl #[.int .i64 0, .int .i64 0, .int .u8 0, .int .u8 0, .int .u8 0, .int .u8 0, .int .i64 0, .int .i64 0, .int .i64 0] (by kernel_rfl) ?_; intro g14 w7 ge hh bb; have d_fB_nB := ne_new (hlt hfB) ge; have d_rB_nB := ne_new (hlt hrB) ge; have d_tb_nB := ne_new (hlt htb) ge; have onB := Nat.le_trans (Nat.le_trans hlo bel.size) ge; have off_nB := owk_new own ge; have pn_nB := Nat.le_trans bel.size ge; replace hfB := blk_u hfB bb; replace hrB := blk_u hrB bb; replace htb := blk_u htb bb; replace own := owk_under own bb; replace fo := fo.below bb; replace hM := hM.below bb; replace bel := bel.trans (bb.mono (Nat.le_trans hlo bel.size)); have hnB := hh; clear hh ge bb) | ((with_reducible show wpList _ _ _ (⟨none, Op.store _ (.tmp 14) _, _, _, _, _⟩ :: _) _ _); refine wpList_store_blk rfl 65 (.tmp 14) (.tmp 74) rfl g14 rfl _ rfl _ 65 hnB (by rfl) (by kernel_rfl) (by kernel_rfl) ?_; intro w8 hq gr; replace hfB := blk_a hfB gr d_fB_nB; replace hrB := blk_a hrB gr d_rB_nB; replace htb := blk_a htb gr d_tb_nB; replace own := owk_off own off_nB gr; replace fo := fo.newer gr pn_nB; replace hM := hM.grown gr hnB; replace bel := below_grown bel gr onB (Nat.le_trans hlo bel.size); clear hnB; have hnB := hq; clear hq gr; have R76 := Lib.hid (range_lit hnB 0 9 [.int .i64 pr, .int .i64 q, .int .u8 (ad.a.toNat : Int), .int .u8 (ad.b.toNat : Int), .int .u8 (ad.c.toNat : Int), .int .u8 (ad.d.toNat : Int), .int .i64 p, .int .i64 1, .int .i64 un] rfl)) | ((with_reducible show wpList _ _ _ (⟨some 76, _, _, _, _, _⟩ :: _) _ _); refine wpList_load_rng 65 (.tmp 14) rfl (by kernel_rfl) _ _ rfl _ R76.out _ Tryz.underlying65 rfl (by kernel_rfl) ?_))
  try clear R67
  try clear R70
  try clear R72
  try clear R76
  have ap_fB := Ap.mk htb off_fB d_fB_tb.out
  have ap_rB := Ap.mk htb off_rB d_rB_tb.out
  have ap_nB := Ap.mk htb off_nB (ne_symm d_tb_nB).out
  have fr := fo.fr htb
  have hT : Tp lo gt w8 ⟨lw, rm, now, l, os⟩ := ⟨A, n, c, mb, htb, otb, hM, own, HOK.out⟩
  clear htb hM own off_tb fo
  with_reducible refine (tadd_any (m := ⟨pr, q, ad, p, 1, un⟩) _ hT HMK.out HFK.out HRM.out).mono ?_
  rintro e w9 ⟨rfl, hT_, f_, bb⟩
  have x_ := f_ _ _ _ _ hfB ap_fB
  replace hfB := x_.1
  replace ap_fB := x_.2
  clear x_
  have x_ := f_ _ _ _ _ hrB ap_rB
  replace hrB := x_.1
  replace ap_rB := x_.2
  clear x_
  have x_ := f_ _ _ _ _ hnB ap_nB
  replace hnB := x_.1
  replace ap_nB := x_.2
  clear x_
  replace fr := fr.trans f_
  clear hT
  have hT := hT_
  replace bel := bel.trans bb
  clear bb f_ hT_
  have R78 := Lib.hid (range_lit hnB 0 9 [.int .i64 pr, .int .i64 q, .int .u8 (ad.a.toNat : Int), .int .u8 (ad.b.toNat : Int), .int .u8 (ad.c.toNat : Int), .int .u8 (ad.d.toNat : Int), .int .i64 p, .int .i64 1, .int .i64 un] rfl)
  go_wp2_with (first | ((with_reducible show wpList _ _ _ (⟨some 78, _, _, _, _, _⟩ :: _) _ _); refine wpList_load_rng 65 (.tmp 14) rfl (by kernel_rfl) _ _ rfl _ R78.out _ Tryz.underlying65 rfl (by kernel_rfl) ?_) | ((with_reducible show wpList _ _ _ (⟨none, Op.store _ (.tmp 8) _, _, _, _, _⟩ :: _) _ _); refine wpList_store_blk rfl 65 (.tmp 8) (.tmp 78) rfl g8 rfl _ rfl _ 65 hrB (by rfl) (by kernel_rfl) (by kernel_rfl) ?_; intro w10 hq gr; replace hfB := blk_a hfB gr d_fB_rB; replace hnB := blk_a hnB gr (ne_symm d_rB_nB); replace fr := fr.newer ap_rB gr pn_rB; replace hT := hT.away ap_rB gr hrB; replace ap_fB := ap_fB.grown ap_rB.1 gr; replace ap_rB := ap_rB.grown ap_rB.1 gr; replace ap_nB := ap_nB.grown ap_rB.1 gr; replace bel := below_grown bel gr orB (Nat.le_trans hlo bel.size); clear hrB; have hrB := hq; clear hq gr))
  try clear R78
  exact bodyPost_ret (results_cell_tmp_row rfl _ _ _ _ _ _ _ rfl hrB Tryz.underlying65 rfl (by kernel_rfl) (.int .i64 0) rfl) rfl ⟨rfl, hT, fr, bel⟩
open Go.RowKit

set_option linter.unusedVariables false in
set_option linter.unusedSimpArgs false in
set_option maxRecDepth 100000 in
set_option maxHeartbeats 16000000 in
theorem tnew_any {lw rm : Int} (w : World) (h1 : ¬ lw < 1024) (h2 : ¬ 60000 < lw) (h3 : ¬ rm < 1) (h4 : ¬ 128 < rm) : Calls Tryz.prog 11 #[.int .i64 lw, .int .i64 rm] w fun e w' => ∃ gt, e = .returned (.tuple #[.pointer (some ⟨gt, 0, none⟩), .int .i64 0]) ∧ Tp w.heap.size gt w' ⟨lw, rm, 0, [], []⟩ ∧ Below w.heap.size w w' := by
  have HOK : Hid (Ts.ok ⟨lw, rm, 0, [], []⟩) := Lib.hid ⟨List.Pairwise.nil, (fun e h => by cases h), Int.le_refl _, by show (0 : Int) ≤ 1099511627776; decide, by show 1024 ≤ lw; omega, by show lw ≤ 60000; omega, by show 1 ≤ rm; omega, by show rm ≤ 128; omega, by show ((0 : Nat) : Int) ≤ rm; omega⟩
  have g1 : decide (lw < 1024) = false := decide_eq_false h1
  have g2 : decide (lw > 60000) = false := decide_eq_false h2
  have g3 : decide (rm < 1) = false := decide_eq_false h3
  have g22 : decide (60000 < lw) = false := decide_eq_false h2
  have g4 : decide (rm > 128) = false := decide_eq_false h4
  have g44 : decide (128 < rm) = false := decide_eq_false h4
  clear h1 h2 h3 h4
  have bel := Below.refl w.heap.size w
  go_enter Tryz.func11, Tryz.ntmps11
  go_wp2_with (first | ((with_reducible show wpList _ _ _ (⟨some 22, _, _, _, _, _⟩ :: _) _ _); refine wpList_makemap_n rfl 73 rfl ?_; intro g22 w80 ge hM_ bb; have hM := hM_.lo_le bel.size; replace bel := bel.trans (bb.mono bel.size); clear hM_ bb ge) | ((with_reducible show wpList _ _ _ (⟨some 24, _, _, _, _, _⟩ :: _) _ _); refine wpList_box_n rfl 76 (.tmp 23) rfl #[.int .i64 lw, .int .i64 rm, .int .i64 0, .slice none 0 0, .map (some g22)] rfl ?_; intro g24 w1 ge lt hh bb; have otb := Nat.le_trans bel.size ge; replace hM := hM.below bb; replace bel := bel.trans (bb.mono bel.size); have htb := hh; clear hh lt ge bb))
  exact bodyPost_ret (v := .tuple #[.pointer (some ⟨g24, 0, none⟩), .int .i64 0]) (by simp [results, Tryz.results11, go_sem]) rfl ⟨g24, rfl, ⟨none, 0, 0, g22, htb, otb, hM, World.ownsRow_nil _ _ _ _, HOK.out⟩, bel⟩
set_option linter.unusedVariables false in
set_option linter.unusedSimpArgs false in
set_option maxRecDepth 100000 in
set_option maxHeartbeats 16000000 in
theorem fo_lt_0 {gt mb n c : Nat} {lw rm now : Int} {l : List Mp} {pr p : Int} {ad : Ad4} {A : Option Addr} (w : World) (htb : w.heap[gt]? = some (.cells #[.int .i64 lw, .int .i64 rm, .int .i64 now, .slice A n c, .map (some mb)] 76 (0, 0))) (en : Sle mpE 9 w A n c l) (hS : MSrt l) (hO : ∀ e ∈ l, e.okp) (h32 : n ≤ 1000) (hpo : okP pr lw) (hlw : lw ≤ 65535) (h1 : ¬ lw ≤ p) (hf : mfhas l (kn pr lw) = false) : Calls Tryz.prog 136 #[.pointer (some ⟨gt, 0, none⟩), .agg #[.int .i64 pr, .int .u8 (ad.a.toNat : Int), .int .u8 (ad.b.toNat : Int), .int .u8 (ad.c.toNat : Int), .int .u8 (ad.d.toNat : Int), .int .i64 p]] w fun e w' => e = .returned (.tuple #[.int .i64 lw, .bool true]) ∧ Below w.heap.size w w' := by
  have HS := Lib.hid hS
  have HOK := Lib.hid hO
  have HPO := Lib.hid hpo
  have HF := Lib.hid hf
  have h2 : decide (p ≥ lw) = false := decide_eq_false h1
  have h3 : decide (lw ≤ p) = false := decide_eq_false h1
  clear hS hO hpo hf h1
  have bel := Below.refl w.heap.size w
  go_enter Tryz.func136, Tryz.ntmps136
  go_wp2_with (first | ((with_reducible show wpList _ _ _ (⟨some 3, _, _, _, _, _⟩ :: _) _ _); refine wpList_box_n rfl 164 (.tmp 1) rfl #[.int .i64 pr, .int .u8 (ad.a.toNat : Int), .int .u8 (ad.b.toNat : Int), .int .u8 (ad.c.toNat : Int), .int .u8 (ad.d.toNat : Int), .int .i64 p] rfl ?_; intro g3 w1 ge lt hh bb; have d_tb_fb := ne_new (hlt htb) ge; have av_en_fb := en.av_new ge; have ofb := Nat.le_trans bel.size ge; replace htb := blk_u htb bb; replace en := en.below bb; replace bel := bel.trans (bb.mono bel.size); have hfb := hh; clear hh lt ge bb))
  replace bel := bel.drew
  replace htb : w1.drew.heap[gt]? = _ := htb
  replace hfb : w1.drew.heap[g3]? = _ := hfb
  replace en := en.drew
  refine wp_region_held_drew (S := fun W => W.heap[g3]? = some (.cells #[.int .i64 pr, .int .u8 (ad.a.toNat : Int), .int .u8 (ad.b.toNat : Int), .int .u8 (ad.c.toNat : Int), .int .u8 (ad.d.toNat : Int), .int .i64 p] 164 (0, 0)) ∧ W.heap[gt]? = some (.cells #[.int .i64 lw, .int .i64 rm, .int .i64 now, .slice A n c, .map (some mb)] 76 (0, 0))) (by kernel_rfl) ⟨hfb, htb⟩ (fun hH => ?_)
  generalize w1.drew = w2 at bel htb hfb en hH ⊢
  refine wpAnyH_take (i := 0) (v := ?_) rfl (by kernel_rfl) (by kernel_rfl) (by kernel_rfl) (fun _ _ _ h => h) (Or.inl ⟨by rfl, ?_⟩) hH ?_
  rotate_left
  · ((intro W hW; clear hW; go_simp) <;> with_reducible rfl)
  simp only [Act.put, List.getElem_toArray, List.getElem_cons_zero, List.setIfInBounds_toArray, List.set_cons_zero, List.set_cons_succ]
  refine wpAnyH_take (i := 1) (v := ?_) rfl (by kernel_rfl) (by kernel_rfl) (by kernel_rfl) (fun _ _ _ h => h) (Or.inl ⟨by rfl, ?_⟩) hH ?_
  rotate_left
  · ((intro W hW; have hk := cell_lit (hW.1) 5 _ rfl; clear hW; go_simp) <;> with_reducible rfl)
  simp only [sq3, sq4]
  refine wpAnyH_take (i := 2) (v := ?_) rfl (by kernel_rfl) (by kernel_rfl) (by kernel_rfl) (fun _ _ _ h => h) (Or.inl ⟨by rfl, ?_⟩) hH ?_
  rotate_left
  · ((intro W hW; clear hW; go_simp) <;> with_reducible rfl)
  simp only [sq3, sq4]
  refine wpAnyH_take (i := 3) (v := ?_) rfl (by kernel_rfl) (by kernel_rfl) (by kernel_rfl) (fun _ _ _ h => h) (Or.inl ⟨by rfl, ?_⟩) hH ?_
  rotate_left
  · ((intro W hW; clear hW; go_simp) <;> with_reducible rfl)
  simp only [sq3, sq4]
  refine wpAnyH_take (i := 4) (v := ?_) rfl (by kernel_rfl) (by kernel_rfl) (by kernel_rfl) (fun _ _ _ h => h) (Or.inl ⟨by rfl, ?_⟩) hH ?_
  rotate_left
  · ((intro W hW; clear hW; go_simp) <;> with_reducible rfl)
  simp only [sq3, sq4]
  refine wpAnyH_take (i := 5) (v := ?_) rfl (by kernel_rfl) (by kernel_rfl) (by kernel_rfl) (fun _ _ _ h => h) (Or.inl ⟨by rfl, ?_⟩) hH ?_
  rotate_left
  · ((intro W hW; have hk := cell_lit (hW.2) 0 _ rfl; clear hW; go_simp) <;> with_reducible rfl)
  simp only [sq3, sq4]
  refine wpAnyH_take (i := 6) (v := ?_) rfl (by kernel_rfl) (by kernel_rfl) (by kernel_rfl) (fun _ _ _ h => h) (Or.inl ⟨by rfl, ?_⟩) hH ?_
  rotate_left
  · ((intro W hW; clear hW; go_simp) <;> with_reducible rfl)
  simp only [sq3, sq4]
  refine wpAnyH_take (i := 7) (v := ?_) rfl (by kernel_rfl) (by kernel_rfl) (by kernel_rfl) (fun _ _ _ h => h) (Or.inl ⟨by rfl, ?_⟩) hH ?_
  rotate_left
  · ((intro W hW; clear hW; go_simp) <;> with_reducible rfl)
  simp only [sq3, sq4]
  refine wpAnyH_take (i := 8) (v := undef) rfl (by kernel_rfl) (by kernel_rfl) (by kernel_rfl) (fun _ _ _ h => h) (Or.inr ⟨by rfl, rfl⟩) hH ?_
  simp only [sq3, sq4]
  refine wpAnyH_take (i := 9) (v := undef) rfl (by kernel_rfl) (by kernel_rfl) (by kernel_rfl) (fun _ _ _ h => h) (Or.inr ⟨by rfl, rfl⟩) hH ?_
  simp only [sq3, sq4]
  refine wpAnyH_take (i := 10) (v := undef) rfl (by kernel_rfl) (by kernel_rfl) (by kernel_rfl) (fun _ _ _ h => h) (Or.inr ⟨by rfl, rfl⟩) hH ?_
  simp only [sq3, sq4]
  refine wpAnyH_take (i := 11) (v := undef) rfl (by kernel_rfl) (by kernel_rfl) (by kernel_rfl) (fun _ _ _ h => h) (Or.inr ⟨by rfl, rfl⟩) hH ?_
  simp only [sq3, sq4]
  refine wpAnyH_take (i := 12) (v := undef) rfl (by kernel_rfl) (by kernel_rfl) (by kernel_rfl) (fun _ _ _ h => h) (Or.inr ⟨by rfl, rfl⟩) hH ?_
  simp only [sq3, sq4]
  refine wpAnyH_take (i := 13) (v := undef) rfl (by kernel_rfl) (by kernel_rfl) (by kernel_rfl) (fun _ _ _ h => h) (Or.inr ⟨by rfl, rfl⟩) hH ?_
  simp only [sq3, sq4]
  refine wpAnyH_take (i := 14) (v := undef) rfl (by kernel_rfl) (by kernel_rfl) (by kernel_rfl) (fun _ _ _ h => h) (Or.inr ⟨by rfl, rfl⟩) hH ?_
  simp only [sq3, sq4]
  refine wpAnyH_take (i := 15) (v := undef) rfl (by kernel_rfl) (by kernel_rfl) (by kernel_rfl) (fun _ _ _ h => h) (Or.inr ⟨by rfl, rfl⟩) hH ?_
  simp only [sq3, sq4]
  refine wpAnyH_take (i := 16) (v := ?_) rfl (by kernel_rfl) (by kernel_rfl) (by kernel_rfl) (fun _ _ _ h => h) (Or.inl ⟨by rfl, ?_⟩) hH ?_
  rotate_left
  · ((intro W hW; clear hW; go_simp) <;> with_reducible rfl)
  simp only [sq3, sq4]
  refine wpAnyH_done (by kernel_rfl) ?_ _
  have R29 := cell_lit htb 0 _ rfl
  go_wp2_with fail
  clear R29
  refine wp_loop_rounds 1 ?_
  rw [rounds_succ]
  have R36 := cell_lit hfb 0 _ rfl
  go_wp2_with fail
  clear R36
  with_reducible refine (mat_none pr lw _ htb en HS.out HOK.out HPO.out h32 HF.out).mono ?_
  rintro e w3 ⟨rfl, b3⟩
  replace htb := blk_u htb b3
  replace hfb := blk_u hfb b3
  replace en := en.below b3
  replace bel := bel.trans (b3.mono bel.size)
  clear b3
  go_wp2_with fail
  exact bodyPost_ret (v := .tuple #[.int .i64 lw, .bool true]) (by simp [results, Tryz.results136, go_sem]) rfl ⟨rfl, bel⟩
theorem fop_own {lw : Int} {l : List Mp} {pr p : Int} {ad : Ad4} (hS : MSrt l) (hO : ∀ e ∈ l, e.okp) (hpo : okP pr p) (h1 : lw ≤ p) (hf : mfhas l (kn pr p) = false) : FoP lw l pr ad p p true :=
  fun W lo gt mb n c A rm now htb own h32 => fo_own W htb (owk_sle (by decide) mpE_len own).1 hS hO h32 hpo h1 hf
/-- The least one: all below it are somebody's; the flow's own is too small or somebody's. -/
theorem fop_least {lw : Int} {l : List Mp} {pr p q : Int} {ad : Ad4} (hS : MSrt l) (hO : ∀ e ∈ l, e.okp) (hlo : 0 ≤ lw) (hlq : lw ≤ q) (hq5 : q ≤ 65535) (hpr : 0 ≤ pr ∧ pr ≤ 255) (hp : lw ≤ p → okP pr p ∧ mfhas l (kn pr p) = true) (hall : ∀ o, lw ≤ o → o < q → mfhas l (kn pr o) = true) (hno : mfhas l (kn pr q) = false) : FoP lw l pr ad p q true := by
  intro W lo gt mb n c A rm now htb own h32
  have en := (owk_sle (by decide) mpE_len own).1
  have hl := row_len (by decide) mpE_len own
  have pos : ∀ x, mfhas l x = true → 0 < n := fun x hx => by
    obtain ⟨e, he, _⟩ := mfhas_true hx
    have := (List.getElem?_eq_some_iff.1 he).1
    omega
  by_cases h1 : lw ≤ p
  · obtain ⟨hpo, hb⟩ := hp h1
    obtain ⟨gE, rfl, _⟩ := row_at own (pos _ hb)
    obtain ⟨i, x, hq, hx, _⟩ := mfhas_ex hb
    exact fo_has_y W htb en (owk_av own (ofs_type own htb (by decide))) hS hO h32 hlo hlq (by omega) hpr hall h1 hpo hq hb hx hq5 hno
  · by_cases h0 : lw = q
    · subst h0
      exact fo_lt_0 W htb en hS hO h32 ⟨hpr.1, hpr.2, hlo, hq5⟩ hq5 h1 hno
    · obtain ⟨gE, rfl, _⟩ := row_at own (pos _ (hall lw (Int.le_refl _) (by omega)))
      exact fo_lt_y W htb en (owk_av own (ofs_type own htb (by decide))) hS hO h32 hlo hlq (by omega) hpr hall h1 hq5 hno
open Go.RowKit

/-- A connection: the gateway's port, the peer, its port, the state, a direction. -/
structure Cn where
  o : Int
  ad : Ad4
  p : Int
  s : Int
  d : Bool
def cnE (e : Cn) : List Value := [.int .i64 e.o, .int .u8 (e.ad.a.toNat : Int), .int .u8 (e.ad.b.toNat : Int), .int .u8 (e.ad.c.toNat : Int), .int .u8 (e.ad.d.toNat : Int), .int .i64 e.p, .int .i64 e.s, .bool e.d]
def Cn.okp (e : Cn) : Prop := 0 ≤ e.s ∧ e.s ≤ 6
def overB (e : Cn) : Bool := (e.s == 5) || (e.s == 6)
/-- A flag. -/
def fl (f m : Int) : Bool := !(bits .and .i64 f m == 0)
/-- The first one that is over, or the first one of all. -/
def least (l : List Cn) : Nat := if l.findIdx overB < l.length then l.findIdx overB else 0
/-- What a table holds: its room, its connections. -/
structure Ks where
  rm : Int
  l : List Cn
structure Ks.ok (s : Ks) : Prop where
  okp : ∀ e ∈ s.l, e.okp
  r0 : 1 ≤ s.rm
  r1 : s.rm ≤ 256
  len : (s.l.length : Int) ≤ s.rm
theorem Ks.ok.set {s : Ks} (h : s.ok) (i : Nat) {y : Cn} (hy : y.okp) : ({ s with l := s.l.set i y } : Ks).ok := by
  refine ⟨fun e he => ?_, h.r0, h.r1, by show ((s.l.set i y).length : Int) ≤ s.rm; rw [List.length_set]; exact h.len⟩
  rcases List.mem_or_eq_of_mem_set he with h1 | h1
  · exact h.okp e h1
  · rw [h1]; exact hy
theorem Ks.ok.put {s : Ks} (h : s.ok) {y : Cn} (hy : y.okp) (hr : (s.l.length : Int) < s.rm) : ({ s with l := s.l ++ [y] } : Ks).ok := by
  refine ⟨fun e he => ?_, h.r0, h.r1, by show ((s.l ++ [y]).length : Int) ≤ s.rm; rw [List.length_append, List.length_singleton]; omega⟩
  rcases List.mem_append.1 he with h1 | h1
  · exact h.okp e h1
  · rw [List.mem_singleton.1 h1]; exact hy
open Go.RowKit

open Go.RowKit

open Go.RowKit

open Go.RowKit

/-- The table at block gt: what is of the call's own from lo on; what it holds. -/
def Tk (lo gt : Nat) (w : World) (s : Ks) : Prop := ∃ (A : Option Addr) (n c : Nat), w.heap[gt]? = some (.cells #[.int .i64 s.rm, .slice A n c] 110 (0, 0)) ∧ lo ≤ gt ∧ w.ownsRow lo 154 8 (.slice A n c) n (s.l.flatMap cnE) ∧ s.ok
theorem Tk.below {lo gt : Nat} {w w' : World} {s : Ks} (h : Tk lo gt w s) (b : Below w.heap.size w w') : Tk lo gt w' s := by
  obtain ⟨A, n, c, h1, h2, h4, h5⟩ := h
  exact ⟨A, n, c, blk_u h1 b, h2, owk_under h4 b, h5⟩
theorem Tk.lo_le {lo gt : Nat} {w : World} {s : Ks} (h : Tk lo gt w s) : lo ≤ w.heap.size := by
  obtain ⟨A, n, c, h1, h2, _⟩ := h
  exact Nat.le_trans h2 (Nat.le_of_lt (hlt h1))
theorem Tk.lo_mono {lo lo' gt : Nat} {w : World} {s : Ks} (h : Tk lo gt w s) (hl : lo' ≤ lo) : Tk lo' gt w s := by
  obtain ⟨A, n, c, h1, h2, h4, h5⟩ := h
  exact ⟨A, n, c, h1, Nat.le_trans hl h2, owk_lo h4 hl, h5⟩
theorem Tk.ok {lo gt : Nat} {w : World} {s : Ks} (h : Tk lo gt w s) : s.ok := by
  obtain ⟨_, _, _, _, _, _, h⟩ := h
  exact h
def KbB (w : World) (gt : Nat) (a : Int) (A : Option Addr) (n c : Nat) : Prop := w.heap[gt]? = some (.cells #[.int .i64 a, .slice A n c] 110 (0, 0))
/-- A block that lies apart from the table's. -/
def Kp (gt : Nat) (w : World) (q : Nat) : Prop := q ≠ gt ∧ gt < w.heap.size ∧ ∀ (a : Int) (A : Option Addr) (n c : Nat), KbB w gt a A n c → Ofs (.slice A n c) q
theorem Kp.below {gt q : Nat} {w w' : World} (h : Kp gt w q) (b : Below w.heap.size w w') : Kp gt w' q := ⟨h.1, Nat.lt_of_lt_of_le h.2.1 b.size, fun a A n c hh => h.2.2 a A n c ((b.block gt h.2.1).symm.trans hh)⟩
theorem Kp.grown {gt q r : Nat} {w w' : World} (h : Kp gt w q) (hr : r ≠ gt) (g : w.grownBy w' (some r)) : Kp gt w' q := ⟨h.1, Nat.lt_of_lt_of_le h.2.1 g.size, fun a A n c hh => h.2.2 a A n c ((g.block gt h.2.1 (fun e => hr (by injection e with e; exact e.symm))).symm.trans hh)⟩
theorem Kp.ofs {gt q : Nat} {w : World} {a : Int} {A : Option Addr} {n c : Nat} (h : Kp gt w q) (htb : w.heap[gt]? = some (.cells #[.int .i64 a, .slice A n c] 110 (0, 0))) : Ofs (.slice A n c) q := h.2.2 _ _ _ _ htb
theorem Kp.mk {gt q : Nat} {w : World} {a : Int} {A : Option Addr} {n c : Nat} (htb : w.heap[gt]? = some (.cells #[.int .i64 a, .slice A n c] 110 (0, 0))) (h : Ofs (.slice A n c) q) (hq : q ≠ gt) : Kp gt w q := by
  refine ⟨hq, hlt htb, fun a' A' n' c' hh => ?_⟩
  unfold KbB at hh
  rw [htb] at hh
  simp only [Option.some.injEq, Obj.cells.injEq, Array.mk.injEq, List.cons.injEq, Value.slice.injEq, and_true] at hh
  obtain ⟨_, h1, h2, h3⟩ := hh
  rw [← h1, ← h2, ← h3]; exact h
theorem Tk.ap {lo gt q : Nat} {w : World} {s : Ks} (h : Tk lo gt w s) (hq : w.heap.size ≤ q) : Kp gt w q := by
  obtain ⟨A, n, c, h1, h2, h4, h5⟩ := h
  exact Kp.mk h1 (owk_new h4 hq) (Nat.ne_of_gt (Nat.lt_of_lt_of_le (hlt h1) hq))
theorem Tk.away {lo gt q : Nat} {w w' : World} {s : Ks} {c : Array Value} {T : TypeId} {fz : Nat × Nat} (h : Tk lo gt w s) (ap : Kp gt w q) (g : w.grownBy w' (some q)) (_hq : w.heap[q]? = some (.cells c T fz)) : Tk lo gt w' s := by
  obtain ⟨A, n, c', h1, h2, h4, h5⟩ := h
  exact ⟨A, n, c', (g.block gt (hlt h1) (fun e => ap.1 (by injection e with e; exact e.symm))).trans h1, h2, owk_off h4 (ap.ofs h1) g, h5⟩
/-- What lies apart stays, and lies apart. -/
def Kap (gt : Nat) (w w' : World) : Prop := ∀ (k : Nat) (x : Obj), w.heap[k]? = some x → Kp gt w k → w'.heap[k]? = some x ∧ Kp gt w' k
theorem Kap.refl (gt : Nat) (w : World) : Kap gt w w := fun _ _ h a => ⟨h, a⟩
theorem Kap.trans {gt : Nat} {a b c : World} (h : Kap gt a b) (h' : Kap gt b c) : Kap gt a c := fun k x hx ap => h' k x (h k x hx ap).1 (h k x hx ap).2
theorem Kap.below {gt : Nat} {w W W' : World} (h : Kap gt w W) (b : Below W.heap.size W W') : Kap gt w W' := fun k x hx ap => ⟨blk_u (h k x hx ap).1 b, (h k x hx ap).2.below b⟩
theorem Kap.newer {gt q : Nat} {w W W' : World} (h : Kap gt w W) (ap : Kp gt W q) (g : W.grownBy W' (some q)) (hq : w.heap.size ≤ q) : Kap gt w W' := fun k x hx a => by
  have h1 := h k x hx a
  exact ⟨(g.block k (hlt h1.1) (fun e => by injection e with e; have := hlt hx; omega)).trans h1.1, h1.2.grown ap.1 g⟩
def Ko (gt : Nat) (w W : World) (v : Value) : Prop := ∀ (k : Nat) (x : Obj), w.heap[k]? = some x → Kp gt w k → W.heap[k]? = some x ∧ k ≠ gt ∧ Ofs v k
theorem Ko.refl {gt : Nat} {w : World} {a : Int} {A : Option Addr} {n c : Nat} (htb : w.heap[gt]? = some (.cells #[.int .i64 a, .slice A n c] 110 (0, 0))) : Ko gt w w (.slice A n c) := fun _ _ h ap => ⟨h, ap.1, ap.ofs htb⟩
theorem Kap.fo {gt : Nat} {w W : World} {a : Int} {A : Option Addr} {n c : Nat} (h : Kap gt w W) (htb : W.heap[gt]? = some (.cells #[.int .i64 a, .slice A n c] 110 (0, 0))) : Ko gt w W (.slice A n c) := fun k x hx ap => ⟨(h k x hx ap).1, (h k x hx ap).2.1, (h k x hx ap).2.ofs htb⟩
theorem Ko.fr {gt : Nat} {w W : World} {a : Int} {A : Option Addr} {n c : Nat} (h : Ko gt w W (.slice A n c)) (htb : W.heap[gt]? = some (.cells #[.int .i64 a, .slice A n c] 110 (0, 0))) : Kap gt w W := fun k x hx ap => ⟨(h k x hx ap).1, Kp.mk htb (h k x hx ap).2.2 (h k x hx ap).2.1⟩
theorem Ko.below {gt : Nat} {w W W' : World} {v : Value} (h : Ko gt w W v) (b : Below W.heap.size W W') : Ko gt w W' v := fun k x hx ap => ⟨blk_u (h k x hx ap).1 b, (h k x hx ap).2⟩
theorem Ko.tb {gt : Nat} {w W W' : World} {v : Value} (h : Ko gt w W v) (g : W.grownBy W' (some gt)) : Ko gt w W' v := fun k x hx ap => by
  have h1 := h k x hx ap
  exact ⟨(g.block k (hlt h1.1) (fun e => h1.2.1 (by injection e))).trans h1.1, h1.2⟩
theorem Ko.newer {gt q : Nat} {w W W' : World} {v : Value} (h : Ko gt w W v) (g : W.grownBy W' (some q)) (hq : w.heap.size ≤ q) : Ko gt w W' v := fun k x hx ap => by
  have h1 := h k x hx ap
  exact ⟨(g.block k (hlt h1.1) (fun e => by injection e with e; have := hlt hx; omega)).trans h1.1, h1.2⟩
theorem Ko.row {gt : Nat} {w W W' : World} {v v' : Value} (h : Ko gt w W v) (g : W.grownBy W' v.ownBlock) (o : ∀ q, q < W.heap.size → Ofs v q → Ofs v' q) : Ko gt w W' v' := fun k x hx ap => by
  have h1 := h k x hx ap
  exact ⟨blk_own h1.1 g h1.2.2, h1.2.1, o k (hlt h1.1) h1.2.2⟩
set_option linter.unusedVariables false in
set_option linter.unusedSimpArgs false in
set_option maxRecDepth 100000 in
set_option maxHeartbeats 16000000 in
theorem knew_any {rm : Int} (w : World) (h1 : ¬ rm < 1) (h4 : ¬ 256 < rm) : Calls Tryz.prog 31 #[.int .i64 rm] w fun e w' => ∃ gt, e = .returned (.tuple #[.pointer (some ⟨gt, 0, none⟩), .int .i64 0]) ∧ Tk w.heap.size gt w' ⟨rm, []⟩ ∧ Below w.heap.size w w' := by
  have HOK : Hid (Ks.ok ⟨rm, []⟩) := Lib.hid ⟨(fun e h => by cases h), by show 1 ≤ rm; omega, by show rm ≤ 256; omega, by show ((0 : Nat) : Int) ≤ rm; omega⟩
  have g1 : decide (rm < 1) = false := decide_eq_false h1
  have g4 : decide (rm > 256) = false := decide_eq_false h4
  have g44 : decide (256 < rm) = false := decide_eq_false h4
  clear h1 h4
  have bel := Below.refl w.heap.size w
  go_enter Tryz.func31, Tryz.ntmps31
  go_wp2_with (first | ((with_reducible show wpList _ _ _ (⟨some 12, _, _, _, _, _⟩ :: _) _ _); refine wpList_box_n rfl 110 (.tmp 11) rfl #[.int .i64 rm, .slice none 0 0] rfl ?_; intro g12 w1 ge lt hh bb; have otb := Nat.le_trans bel.size ge; replace bel := bel.trans (bb.mono bel.size); have htb := hh; clear hh lt ge bb))
  exact bodyPost_ret (v := .tuple #[.pointer (some ⟨g12, 0, none⟩), .int .i64 0]) (by simp [results, Tryz.results31, go_sem]) rfl ⟨g12, rfl, ⟨none, 0, 0, htb, otb, World.ownsRow_nil _ _ _ _, HOK.out⟩, bel⟩
open Go.RowKit

open Go.RowKit

/-- The Nat at block gn: the table of mappings at gt (s), that of talks at gk (k). -/
def Np (lo gn gt gk : Nat) (w : World) (s : Ts) (k : Ks) : Prop :=
  w.heap[gn]? = some (.cells #[.pointer (some ⟨gt, 0, none⟩), .pointer (some ⟨gk, 0, none⟩), .int .i64 120, .int .i64 7200, .int .i64 30] 82 (0, 0)) ∧ lo ≤ gn ∧ Tp lo gt w s ∧ Tk lo gk w k
/-- A block that lies apart from all of it. -/
def Anp (gn gt gk : Nat) (w : World) (q : Nat) : Prop := q ≠ gn ∧ gn < w.heap.size ∧ Ap gt w q ∧ Kp gk w q
/-- What lies apart stays, and lies apart. -/
def Fn (gn gt gk : Nat) (w w' : World) : Prop := ∀ (k : Nat) (c : Array Value) (T : TypeId) (fz : Nat × Nat), w.heap[k]? = some (.cells c T fz) → Anp gn gt gk w k → w'.heap[k]? = some (.cells c T fz) ∧ Anp gn gt gk w' k
/-- A slice of bytes that lies apart. -/
def An (gn gt gk : Nat) (w : World) (A : Option Addr) (n : Nat) : Prop := 0 < n → ∀ a o p, A = some ⟨a, o, p⟩ → Anp gn gt gk w a

theorem Tp.apt {lo gt q : Nat} {w : World} {s : Ts} {c : Array Value} {T : TypeId} {fz : Nat × Nat} (h : Tp lo gt w s) (hq : w.heap[q]? = some (.cells c T fz)) (h1 : T ≠ 76) (h2 : T ≠ 65) : Ap gt w q := by
  obtain ⟨A, n, c', mb, h3, h4, h5, h6, _⟩ := h
  exact Ap.mk h3 (ofs_type h6 hq h2) (fun e => blk_ne hq h3 h1 e)
theorem Tk.kpt {lo gk q : Nat} {w : World} {s : Ks} {c : Array Value} {T : TypeId} {fz : Nat × Nat} (h : Tk lo gk w s) (hq : w.heap[q]? = some (.cells c T fz)) (h1 : T ≠ 110) (h2 : T ≠ 154) : Kp gk w q := by
  obtain ⟨A, n, c', h3, h4, h6, _⟩ := h
  exact Kp.mk h3 (ofs_type h6 hq h2) (fun e => blk_ne hq h3 h1 e)
theorem Np.tp {lo gn gt gk : Nat} {w : World} {s : Ts} {k : Ks} (h : Np lo gn gt gk w s k) : Tp lo gt w s := h.2.2.1
theorem Np.tk {lo gn gt gk : Nat} {w : World} {s : Ts} {k : Ks} (h : Np lo gn gt gk w s k) : Tk lo gk w k := h.2.2.2
theorem Np.nat {lo gn gt gk : Nat} {w : World} {s : Ts} {k : Ks} (h : Np lo gn gt gk w s k) : w.heap[gn]? = some (.cells #[.pointer (some ⟨gt, 0, none⟩), .pointer (some ⟨gk, 0, none⟩), .int .i64 120, .int .i64 7200, .int .i64 30] 82 (0, 0)) := h.1
theorem Np.lo_le {lo gn gt gk : Nat} {w : World} {s : Ts} {k : Ks} (h : Np lo gn gt gk w s k) : lo ≤ w.heap.size := h.tp.lo_le
theorem Np.lo_mono {lo lo' gn gt gk : Nat} {w : World} {s : Ts} {k : Ks} (h : Np lo gn gt gk w s k) (hl : lo' ≤ lo) : Np lo' gn gt gk w s k := ⟨h.1, Nat.le_trans hl h.2.1, h.tp.lo_mono hl, h.tk.lo_mono hl⟩
theorem Np.below {lo gn gt gk : Nat} {w w' : World} {s : Ts} {k : Ks} (h : Np lo gn gt gk w s k) (b : Below w.heap.size w w') : Np lo gn gt gk w' s k := ⟨blk_u h.1 b, h.2.1, h.tp.below b, h.tk.below b⟩
theorem np_drew {lo gn gt gk : Nat} {w : World} {s : Ts} {k : Ks} (h : Np lo gn gt gk w s k) : Np lo gn gt gk w.drew s k := h
theorem Np.ap {lo gn gt gk q : Nat} {w : World} {s : Ts} {k : Ks} (h : Np lo gn gt gk w s k) (hq : w.heap.size ≤ q) : Anp gn gt gk w q := ⟨Nat.ne_of_gt (Nat.lt_of_lt_of_le (hlt h.1) hq), hlt h.1, h.tp.ap hq, h.tk.ap hq⟩
theorem Np.away {lo gn gt gk q : Nat} {w w' : World} {s : Ts} {k : Ks} {c : Array Value} {T : TypeId} {fz : Nat × Nat} (h : Np lo gn gt gk w s k) (ap : Anp gn gt gk w q) (g : w.grownBy w' (some q)) (hq : w.heap[q]? = some (.cells c T fz)) : Np lo gn gt gk w' s k :=
  ⟨(g.block gn (hlt h.1) (fun e => ap.1 (by injection e with e; exact e.symm))).trans h.1, h.2.1, h.tp.away ap.2.2.1 g hq, h.tk.away ap.2.2.2 g hq⟩
theorem Anp.below {gn gt gk q : Nat} {w w' : World} (h : Anp gn gt gk w q) (b : Below w.heap.size w w') : Anp gn gt gk w' q := ⟨h.1, Nat.lt_of_lt_of_le h.2.1 b.size, h.2.2.1.below b, h.2.2.2.below b⟩
theorem anp_drew {gn gt gk q : Nat} {w : World} (h : Anp gn gt gk w q) : Anp gn gt gk w.drew q := h
theorem Anp.grown {gn gt gk q r : Nat} {w0 w w' : World} (h : Anp gn gt gk w q) (hr : Anp gn gt gk w0 r) (g : w.grownBy w' (some r)) : Anp gn gt gk w' q := ⟨h.1, Nat.lt_of_lt_of_le h.2.1 g.size, h.2.2.1.grown hr.2.2.1.1 g, h.2.2.2.grown hr.2.2.2.1 g⟩
theorem Fn.refl (gn gt gk : Nat) (w : World) : Fn gn gt gk w w := fun _ _ _ _ h a => ⟨h, a⟩
theorem Fn.trans {gn gt gk : Nat} {a b c : World} (h : Fn gn gt gk a b) (h' : Fn gn gt gk b c) : Fn gn gt gk a c := fun k x T fz hx ap => h' k x T fz (h k x T fz hx ap).1 (h k x T fz hx ap).2
theorem Fn.below {gn gt gk : Nat} {w W W' : World} (h : Fn gn gt gk w W) (b : Below W.heap.size W W') : Fn gn gt gk w W' := fun k x T fz hx ap => ⟨blk_u (h k x T fz hx ap).1 b, (h k x T fz hx ap).2.below b⟩
theorem fn_drew {gn gt gk : Nat} {w W : World} (h : Fn gn gt gk w W) : Fn gn gt gk w W.drew := h
theorem Fn.newer {gn gt gk q : Nat} {w0 w W W' : World} (h : Fn gn gt gk w W) (ap : Anp gn gt gk w0 q) (g : W.grownBy W' (some q)) (hq : w.heap.size ≤ q) : Fn gn gt gk w W' := fun k x T fz hx a => by
  have h1 := h k x T fz hx a
  exact ⟨(g.block k (hlt h1.1) (fun e => by injection e with e; have := hlt hx; omega)).trans h1.1, h1.2.grown ap g⟩
theorem An.below {gn gt gk n : Nat} {A : Option Addr} {w w' : World} (h : An gn gt gk w A n) (b : Below w.heap.size w w') : An gn gt gk w' A n := fun hn a o p e => (h hn a o p e).below b
theorem an_drew {gn gt gk n : Nat} {A : Option Addr} {w : World} (h : An gn gt gk w A n) : An gn gt gk w.drew A n := h
theorem An.grown {gn gt gk n r : Nat} {A : Option Addr} {w0 w w' : World} (h : An gn gt gk w A n) (hr : Anp gn gt gk w0 r) (g : w.grownBy w' (some r)) : An gn gt gk w' A n := fun hn a o p e => (h hn a o p e).grown hr g
theorem An.sub {gn gt gk n k : Nat} {A A' : Option Addr} {w : World} (h : An gn gt gk w A n) (hs : Sub A' k A n) : An gn gt gk w A' k := fun hk a o p e => by
  obtain ⟨hn, h2⟩ := hs hk
  obtain ⟨o', p', e'⟩ := h2 a o p e
  exact h hn a o' p' e'
theorem Np.an {lo gn gt gk n : Nat} {A : Option Addr} {w : World} {s : Ts} {k : Ks} (h : Np lo gn gt gk w s k) (f : Fr w.heap.size A n) : An gn gt gk w A n := fun hn a o p e => by
  obtain ⟨a', o', e', hb⟩ := f hn
  rw [e] at e'
  injection e' with e'
  injection e' with e1
  subst e1
  exact h.ap hb
theorem Tp.old {lo gt q : Nat} {w : World} {s : Ts} (h : Tp lo gt w s) (hq : q < lo) : Ap gt w q := by
  obtain ⟨A, n, c', mb, h3, h4, h5, h6, _⟩ := h
  refine Ap.mk h3 (fun g hg e => ?_) (by omega)
  have := (h6.lt g hg).1
  omega
theorem Tk.old {lo gk q : Nat} {w : World} {s : Ks} (h : Tk lo gk w s) (hq : q < lo) : Kp gk w q := by
  obtain ⟨A, n, c', h3, h4, h6, _⟩ := h
  refine Kp.mk h3 (fun g hg e => ?_) (by omega)
  have := (h6.lt g hg).1
  omega
theorem Np.old {lo gn gt gk q : Nat} {w : World} {s : Ts} {k : Ks} (h : Np lo gn gt gk w s k) (hq : q < lo) : Anp gn gt gk w q := ⟨by have := h.2.1; omega, hlt h.1, h.tp.old hq, h.tk.old hq⟩
/-- Slices that lie apart read as before. -/
theorem Fn.sl {gn gt gk n c : Nat} {A : Option Addr} {l : List UInt8} {w w' : World} (h : Fn gn gt gk w w') (s : Sl w A n c l) (a : An gn gt gk w A n) : Sl w' A n c l ∧ An gn gt gk w' A n := by
  have hk : ∀ q v o, Anp gn gt gk w q → w.cell? ⟨q, o, none⟩ = some v → w'.cell? ⟨q, o, none⟩ = some v ∧ Anp gn gt gk w' q := by
    intro q v o ap hc
    rcases hb : w.heap[q]? with _ | x
    · simp [World.cell?, hb] at hc
    · cases x with
      | cells cs T fz =>
        have h1 := h q cs T fz hb ap
        refine ⟨?_, h1.2⟩
        have e : w'.heap[q]? = w.heap[q]? := by rw [h1.1, hb]
        exact (World.cell?_of_block (w := w) e).trans hc
      | _ => simp [World.cell?, hb] at hc
  refine ⟨⟨s.1, s.2.1, s.2.2.1, fun hn => ?_⟩, fun hn q o p e => ?_⟩
  · obtain ⟨g, o, e, hc⟩ := s.2.2.2 hn
    exact ⟨g, o, e, fun j b hj => (hk g _ _ (a hn g o none e) (hc j b hj)).1⟩
  · obtain ⟨g, o', e', hc⟩ := s.2.2.2 hn
    rw [e] at e'
    injection e' with e'
    injection e' with e1
    subst e1
    have hx : ∃ b, l[0]? = some b := by
      have h1 := s.1
      exact ⟨_, List.getElem?_eq_getElem (by omega)⟩
    obtain ⟨b, hb⟩ := hx
    exact (hk q _ _ (a hn q o p e) (hc 0 b hb)).2
/-- A call on the table of mappings. -/
theorem Np.left {lo gn gt gk : Nat} {w w' : World} {s s' : Ts} {k : Ks} (h : Np lo gn gt gk w s k) (h1 : Tp lo gt w' s') (f : Fap gt w w') : Np lo gn gt gk w' s' k ∧ Fn gn gt gk w w' := by
  obtain ⟨hn, hl, ht, hk⟩ := h
  have hN := f _ _ _ _ hn (ht.apt hn (by decide) (by decide))
  obtain ⟨A, n, c, k1, k2, k3, k4⟩ := hk
  have hK := f _ _ _ _ k1 (ht.apt k1 (by decide) (by decide))
  have hR := f.own k3 (fun g hg => by
    rcases k3.2 with h2 | ⟨g', cap, cur, e2, hb, hh, h3⟩
    · rw [h2.1] at hg; simp [Value.ownBlock] at hg
    · have hv : (Value.slice A n c).ownBlock = some g' := by rw [e2]; rfl
      rw [hv] at hg; cases hg
      exact ht.apt hh (by decide) (by decide))
  have hK2 : Tk lo gk w' k := ⟨A, n, c, hK.1, k2, hR.1, k4⟩
  refine ⟨⟨hN.1, hl, h1, hK2⟩, fun q x T fz hq ap => ?_⟩
  have h7 := f q x T fz hq ap.2.2.1
  refine ⟨h7.1, ap.1, hlt hN.1, h7.2, Kp.mk hK.1 (ap.2.2.2.ofs k1) ap.2.2.2.1⟩
/-- A call on the table of talks. -/
theorem Np.right {lo gn gt gk : Nat} {w w' : World} {s : Ts} {k k' : Ks} (h : Np lo gn gt gk w s k) (h1 : Tk lo gk w' k') (f : Kap gk w w') : Np lo gn gt gk w' s k' ∧ Fn gn gt gk w w' := by
  obtain ⟨hn, hl, ht, hk⟩ := h
  have hN := f _ _ hn (hk.kpt hn (by decide) (by decide))
  obtain ⟨A, n, c, mb, t1, t2, t3, t4, t5⟩ := ht
  have hT := f _ _ t1 (hk.kpt t1 (by decide) (by decide))
  have hM : ∀ x, w.heap[mb]? = some x → w'.heap[mb]? = some x := fun x hx => (f _ _ hx (by
    obtain ⟨A', n', c', k1, k2, k3, _⟩ := hk
    refine Kp.mk k1 (fun g hg e => ?_) (fun e => t3.ne k1 e)
    rcases k3.2 with h2 | ⟨g', cap, cur, e2, hb, hh, h3⟩
    · rw [h2.1] at hg; simp [Value.ownBlock] at hg
    · have hv : (Value.slice A' n' c').ownBlock = some g' := by rw [e2]; rfl
      rw [hv] at hg; cases hg
      exact t3.ne hh e.symm)).1
  have hR : w'.ownsRow lo 65 9 (.slice A n c) n (s.l.flatMap mpE) := by
    rcases t4.2 with h2 | ⟨g', cap, cur, e2, hb, hh, h3⟩
    · exact ⟨t4.1, .inl h2⟩
    · exact ⟨t4.1, .inr ⟨g', cap, cur, e2, hb, (f _ _ hh (hk.kpt hh (by decide) (by decide))).1, h3⟩⟩
  refine ⟨⟨hN.1, hl, ⟨A, n, c, mb, hT.1, t2, t3.of hM, hR, t5⟩, h1⟩, fun q x T fz hq ap => ?_⟩
  have h7 := f q _ hq ap.2.2.2
  exact ⟨h7.1, ap.1, hlt hN.1, Ap.mk hT.1 (ap.2.2.1.ofs t1) ap.2.2.1.1, h7.2⟩
theorem np_t {lo gn gt gk : Nat} {w : World} {s s' : Ts} {k : Ks} {F : FuncId} {args : Array Value} {R : Ending} (h : Np lo gn gt gk w s k) (c : Calls Tryz.prog F args w fun e w' => e = R ∧ Tp lo gt w' s' ∧ Fap gt w w' ∧ Below lo w w') : Calls Tryz.prog F args w fun e w' => e = R ∧ Np lo gn gt gk w' s' k ∧ Fn gn gt gk w w' ∧ Below lo w w' :=
  c.mono fun _ _ x => ⟨x.1, (h.left x.2.1 x.2.2.1).1, (h.left x.2.1 x.2.2.1).2, x.2.2.2⟩
end Go.Proofs.YtbdaejodbcjmfaaGreat
