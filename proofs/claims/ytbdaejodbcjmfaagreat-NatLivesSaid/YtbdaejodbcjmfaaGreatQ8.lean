/- Texts put together: Ptl, Walkw, Sum, Sumw, Sumr, Sumc, Slices, Eth1, Eth5, Rad, Ipr1, Ipr2, Ipr3, Ipl, Udl, Rdo, Rd2, Ipa, Ipd, Eth4. -/
import Derived.Test.YtbdaejodbcjmfaaGreatQ1
import Derived.Test.YtbdaejodbcjmfaaGreatQ7
import Derived.Deep.Cut
import Derived.Deep.QuietTactic
import Derived.BigQuiet
import Derived.Lib.Hide
import Derived.Deep.LoopGhost
import Derived.BigRegion
import Derived.Stop.BytesEq
import Derived.Deep.RegionHeld3
import Derived.Laws.ResultCell
namespace Go.Proofs.YtbdaejodbcjmfaaGreat
open Go.RowKit

set_option linter.unusedVariables false in
set_option linter.unusedSimpArgs false in
set_option maxRecDepth 100000 in
set_option maxHeartbeats 16000000 in
theorem tlive_oth {lo gt : Nat} {s : Ts} {lw rm now : Int} {l os : List Mp} {p o sc : Int} {i : Nat} {x : Mp} (t : Int) (w : World) (hT : Tp lo gt w s) (ha : s.adv t = ⟨lw, rm, now, l, os⟩) (hpo : okP p o) (hf : mfhas l (kn p o) = true) (hq : mfpos l (kn p o) = i) (hx : l[i]? = some x) (hk : (x.k == 1) = false)  : Calls Tryz.prog 67 #[.pointer (some ⟨gt, 0, none⟩), .int .i64 p, .int .i64 o, .int .i64 t, .int .i64 sc] w fun e w' => e = .returned (.bool false) ∧ Tp lo gt w' ⟨lw, rm, now, l, os⟩ ∧ Fap gt w w' ∧ Below lo w w' := by
  have hlo : lo ≤ w.heap.size := hT.lo_le
  have HLO := Lib.hid hlo
  have fr := Fap.refl gt w
  have HPO := Lib.hid hpo
  have HF := Lib.hid hf
  have HQ := Lib.hid hq
  clear hpo hf hq
  have bel := Below.refl lo w
  go_enter Tryz.func67, Tryz.ntmps67
  go_wp2_with fail
  with_reducible refine (tadv_any _ _ hT ha).mono ?_
  rintro e w1 ⟨rfl, hT_, f_, bb⟩
  replace fr := fr.trans f_
  clear hT
  have hT := hT_
  replace bel := bel.trans bb
  clear bb f_ hT_
  obtain ⟨A, n, c, mb, htb, otb, hM, own, hok⟩ := hT
  dsimp only at htb hM own
  have off_tb := ofs_type own htb (by decide)
  have hl := row_len (by decide) mpE_len own
  have HLL := Lib.hid hl
  have HOK := Lib.hid hok
  have H32 : Hid (n ≤ 1000) := Lib.hid (by have h1_ := hok.len; have h2_ := hok.r1; simp only at h1_ h2_; omega)
  have H128 : Hid (n ≤ 128) := Lib.hid (by have h1_ := hok.len; have h2_ := hok.r1; simp only at h1_ h2_; omega)
  clear hl hok
  have fo := fr.fo htb
  clear fr
  have hin_ : i < n := by have h1_ := (List.getElem?_eq_some_iff.1 hx).1; have h2_ := HLL.out; omega
  have i0 : (0 : Int) ≤ i := by omega
  have i1 : (i : Int) < n := by omega
  obtain ⟨gE, rfl, _⟩ := row_at own (by omega)
  have en := (owk_sle (by decide) mpE_len own).1
  have av_en_tb := owk_av own off_tb
  clear hin_
  have HX := Lib.hid hx
  clear hx
  have hk2 : (x.k != 1) = true := by unfold bne; rw [hk]; rfl
  go_wp2_with fail
  with_reducible refine (mat_some p o _ htb en av_en_tb HOK.out.srt HOK.out.okp HPO.out H32.out HQ.out HF.out HX.out).mono ?_
  rintro e w2 ⟨rfl, b2⟩
  replace htb := blk_u htb b2
  replace en := en.below b2
  replace own := owk_under own b2
  replace fo := fo.below b2
  replace hM := hM.below b2
  replace bel := bel.trans (b2.mono (Nat.le_trans hlo bel.size))
  clear b2
  go_wp2_with fail
  replace bel := bel.drew
  replace htb : w2.drew.heap[gt]? = _ := htb
  replace en := en.drew
  replace own := World.ownsRow.drew own
  replace fo := fo_drew fo
  replace hM := om_drew hM
  refine wp_region_held_drew (S := fun W => W.heap[gt]? = some (.cells #[.int .i64 lw, .int .i64 rm, .int .i64 now, .slice (some ⟨gE, 0, none⟩) n c, .map (some mb)] 76 (0, 0)) ∧ Sle mpE 9 W (some ⟨gE, 0, none⟩) (n) (c) (l)) (by kernel_rfl) ⟨htb, en⟩ (fun hH => ?_)
  generalize w2.drew = w3 at bel htb en own fo hM hH ⊢
  refine wpAnyH_take (i := 0) (v := ?_) rfl (by kernel_rfl) (by kernel_rfl) (by kernel_rfl) (fun _ _ _ h => h) (Or.inl ⟨by rfl, ?_⟩) hH ?_
  rotate_left
  · ((intro W hW; clear hW; go_simp) <;> with_reducible rfl)
  simp only [Act.put, List.getElem_toArray, List.getElem_cons_zero, List.setIfInBounds_toArray, List.set_cons_zero, List.set_cons_succ]
  refine wpAnyH_take (i := 1) (v := ?_) rfl (by kernel_rfl) (by kernel_rfl) (by kernel_rfl) (fun _ _ _ h => h) (Or.inl ⟨by rfl, ?_⟩) hH ?_
  rotate_left
  · ((intro W hW; clear hW; go_simp) <;> with_reducible rfl)
  simp only [sq3, sq4]
  refine wpAnyH_take (i := 2) (v := ?_) rfl (by kernel_rfl) (by kernel_rfl) (by kernel_rfl) (fun _ _ _ h => h) (Or.inl ⟨by rfl, ?_⟩) hH ?_
  rotate_left
  · ((intro W hW; clear hW; go_simp) <;> with_reducible rfl)
  simp only [sq3, sq4]
  refine wpAnyH_take (i := 3) (v := ?_) rfl (by kernel_rfl) (by kernel_rfl) (by kernel_rfl) (fun _ _ _ h => h) (Or.inl ⟨by rfl, ?_⟩) hH ?_
  rotate_left
  · ((intro W hW; clear hW; go_simp) <;> with_reducible rfl)
  simp only [sq3, sq4]
  refine wpAnyH_take (i := 4) (v := ?_) rfl (by kernel_rfl) (by kernel_rfl) (by kernel_rfl) (fun _ _ _ h => h) (Or.inl ⟨by rfl, ?_⟩) hH ?_
  rotate_left
  · ((intro W hW; clear hW; go_simp) <;> with_reducible rfl)
  simp only [sq3, sq4]
  refine wpAnyH_take (i := 5) (v := ?_) rfl (by kernel_rfl) (by kernel_rfl) (by kernel_rfl) (fun _ _ _ h => h) (Or.inl ⟨by rfl, ?_⟩) hH ?_
  rotate_left
  · ((intro W hW; clear hW; go_simp) <;> with_reducible rfl)
  simp only [sq3, sq4]
  refine wpAnyH_take (i := 6) (v := ?_) rfl (by kernel_rfl) (by kernel_rfl) (by kernel_rfl) (fun _ _ _ h => h) (Or.inl ⟨by rfl, ?_⟩) hH ?_
  rotate_left
  · ((intro W hW; have hk := Sle.zcell (hW.2) HX.out 7 _ rfl; clear hW; go_simp) <;> with_reducible rfl)
  simp only [sq3, sq4]
  refine wpAnyH_take (i := 7) (v := ?_) rfl (by kernel_rfl) (by kernel_rfl) (by kernel_rfl) (fun _ _ _ h => h) (Or.inl ⟨by rfl, ?_⟩) hH ?_
  rotate_left
  · ((intro W hW; clear hW; go_simp) <;> with_reducible rfl)
  simp only [sq3, sq4]
  refine wpAnyH_take (i := 8) (v := ?_) rfl (by kernel_rfl) (by kernel_rfl) (by kernel_rfl) (fun _ _ _ h => h) (Or.inl ⟨by rfl, ?_⟩) hH ?_
  rotate_left
  · ((intro W hW; clear hW; go_simp) <;> with_reducible rfl)
  simp only [sq3, sq4]
  refine wpAnyH_take (i := 9) (v := ?_) rfl (by kernel_rfl) (by kernel_rfl) (by kernel_rfl) (fun _ _ _ h => h) (Or.inl ⟨by rfl, ?_⟩) hH ?_
  rotate_left
  · ((intro W hW; clear hW; go_simp) <;> with_reducible rfl)
  simp only [sq3, sq4]
  refine wpAnyH_take (i := 10) (v := undef) rfl (by kernel_rfl) (by kernel_rfl) (by kernel_rfl) (fun _ _ _ h => h) (Or.inr ⟨by rfl, rfl⟩) hH ?_
  simp only [sq3, sq4]
  refine wpAnyH_take (i := 11) (v := undef) rfl (by kernel_rfl) (by kernel_rfl) (by kernel_rfl) (fun _ _ _ h => h) (Or.inr ⟨by rfl, rfl⟩) hH ?_
  simp only [sq3, sq4]
  refine wpAnyH_take (i := 12) (v := undef) rfl (by kernel_rfl) (by kernel_rfl) (by kernel_rfl) (fun _ _ _ h => h) (Or.inr ⟨by rfl, rfl⟩) hH ?_
  simp only [sq3, sq4]
  refine wpAnyH_take (i := 13) (v := ?_) rfl (by kernel_rfl) (by kernel_rfl) (by kernel_rfl) (fun _ _ _ h => h) (Or.inl ⟨by rfl, ?_⟩) hH ?_
  rotate_left
  · ((intro W hW; clear hW; go_simp) <;> with_reducible rfl)
  simp only [sq3, sq4]
  refine wpAnyH_take (i := 14) (v := ?_) rfl (by kernel_rfl) (by kernel_rfl) (by kernel_rfl) (fun _ _ _ h => h) (Or.inl ⟨by rfl, ?_⟩) hH ?_
  rotate_left
  · ((intro W hW; clear hW; go_simp) <;> with_reducible rfl)
  simp only [sq3, sq4]
  refine wpAnyH_take (i := 15) (v := undef) rfl (by kernel_rfl) (by kernel_rfl) (by kernel_rfl) (fun _ _ _ h => h) (Or.inr ⟨by rfl, rfl⟩) hH ?_
  simp only [sq3, sq4]
  refine wpAnyH_take (i := 16) (v := undef) rfl (by kernel_rfl) (by kernel_rfl) (by kernel_rfl) (fun _ _ _ h => h) (Or.inr ⟨by rfl, rfl⟩) hH ?_
  simp only [sq3, sq4]
  refine wpAnyH_take (i := 17) (v := undef) rfl (by kernel_rfl) (by kernel_rfl) (by kernel_rfl) (fun _ _ _ h => h) (Or.inr ⟨by rfl, rfl⟩) hH ?_
  simp only [sq3, sq4]
  refine wpAnyH_take (i := 18) (v := undef) rfl (by kernel_rfl) (by kernel_rfl) (by kernel_rfl) (fun _ _ _ h => h) (Or.inr ⟨by rfl, rfl⟩) hH ?_
  simp only [sq3, sq4]
  refine wpAnyH_take (i := 19) (v := undef) rfl (by kernel_rfl) (by kernel_rfl) (by kernel_rfl) (fun _ _ _ h => h) (Or.inr ⟨by rfl, rfl⟩) hH ?_
  simp only [sq3, sq4]
  refine wpAnyH_take (i := 20) (v := undef) rfl (by kernel_rfl) (by kernel_rfl) (by kernel_rfl) (fun _ _ _ h => h) (Or.inr ⟨by rfl, rfl⟩) hH ?_
  simp only [sq3, sq4]
  refine wpAnyH_take (i := 21) (v := undef) rfl (by kernel_rfl) (by kernel_rfl) (by kernel_rfl) (fun _ _ _ h => h) (Or.inr ⟨by rfl, rfl⟩) hH ?_
  simp only [sq3, sq4]
  refine wpAnyH_take (i := 22) (v := undef) rfl (by kernel_rfl) (by kernel_rfl) (by kernel_rfl) (fun _ _ _ h => h) (Or.inr ⟨by rfl, rfl⟩) hH ?_
  simp only [sq3, sq4]
  refine wpAnyH_take (i := 23) (v := undef) rfl (by kernel_rfl) (by kernel_rfl) (by kernel_rfl) (fun _ _ _ h => h) (Or.inr ⟨by rfl, rfl⟩) hH ?_
  simp only [sq3, sq4]
  refine wpAnyH_take (i := 24) (v := undef) rfl (by kernel_rfl) (by kernel_rfl) (by kernel_rfl) (fun _ _ _ h => h) (Or.inr ⟨by rfl, rfl⟩) hH ?_
  simp only [sq3, sq4]
  refine wpAnyH_take (i := 25) (v := undef) rfl (by kernel_rfl) (by kernel_rfl) (by kernel_rfl) (fun _ _ _ h => h) (Or.inr ⟨by rfl, rfl⟩) hH ?_
  simp only [sq3, sq4]
  refine wpAnyH_take (i := 26) (v := ?_) rfl (by kernel_rfl) (by kernel_rfl) (by kernel_rfl) (fun _ _ _ h => h) (Or.inl ⟨by rfl, ?_⟩) hH ?_
  rotate_left
  · ((intro W hW; clear hW; go_simp) <;> with_reducible rfl)
  simp only [sq3, sq4]
  refine wpAnyH_done (by kernel_rfl) ?_ _
  go_wp2_with fail
  go_ret
  exact ⟨rfl, ⟨(some ⟨gE, 0, none⟩), n, c, mb, htb, otb, hM, own, HOK.out⟩, fo.fr htb, bel⟩
set_option linter.unusedVariables false in
set_option linter.unusedSimpArgs false in
set_option maxRecDepth 100000 in
set_option maxHeartbeats 16000000 in
theorem tlive_set {lo gt : Nat} {s : Ts} {lw rm now : Int} {l os : List Mp} {p o sc un : Int} {i : Nat} {x : Mp} (t : Int) (w : World) (hT : Tp lo gt w s) (ha : s.adv t = ⟨lw, rm, now, l, os⟩) (hpo : okP p o) (hf : mfhas l (kn p o) = true) (hq : mfpos l (kn p o) = i) (hx : l[i]? = some x) (hk : (x.k == 1) = true) (hsc : secsB sc = true) (hu : now + sc = un) (hl : x.u < un) : Calls Tryz.prog 67 #[.pointer (some ⟨gt, 0, none⟩), .int .i64 p, .int .i64 o, .int .i64 t, .int .i64 sc] w fun e w' => e = .returned (.bool true) ∧ Tp lo gt w' ⟨lw, rm, now, l.set i ⟨x.pr, x.o, x.ad, x.i, x.k, un⟩, os⟩ ∧ Fap gt w w' ∧ Below lo w w' := by
  have hlo : lo ≤ w.heap.size := hT.lo_le
  have HLO := Lib.hid hlo
  have fr := Fap.refl gt w
  have HPO := Lib.hid hpo
  have HF := Lib.hid hf
  have HQ := Lib.hid hq
  clear hpo hf hq
  have HSC := Lib.hid hsc
  have HU := Lib.hid hu
  have HSR : Hid (1 ≤ sc ∧ sc ≤ 1000000000) := Lib.hid (by unfold secsB at hsc; simpa using hsc)
  clear hsc hu
  have bel := Below.refl lo w
  go_enter Tryz.func67, Tryz.ntmps67
  go_wp2_with fail
  with_reducible refine (tadv_any _ _ hT ha).mono ?_
  rintro e w1 ⟨rfl, hT_, f_, bb⟩
  replace fr := fr.trans f_
  clear hT
  have hT := hT_
  replace bel := bel.trans bb
  clear bb f_ hT_
  obtain ⟨A, n, c, mb, htb, otb, hM, own, hok⟩ := hT
  dsimp only at htb hM own
  have off_tb := ofs_type own htb (by decide)
  have hl := row_len (by decide) mpE_len own
  have HLL := Lib.hid hl
  have HOK := Lib.hid hok
  have H32 : Hid (n ≤ 1000) := Lib.hid (by have h1_ := hok.len; have h2_ := hok.r1; simp only at h1_ h2_; omega)
  have H128 : Hid (n ≤ 128) := Lib.hid (by have h1_ := hok.len; have h2_ := hok.r1; simp only at h1_ h2_; omega)
  clear hl hok
  have fo := fr.fo htb
  clear fr
  have hin_ : i < n := by have h1_ := (List.getElem?_eq_some_iff.1 hx).1; have h2_ := HLL.out; omega
  have i0 : (0 : Int) ≤ i := by omega
  have i1 : (i : Int) < n := by omega
  obtain ⟨gE, rfl, _⟩ := row_at own (by omega)
  have en := (owk_sle (by decide) mpE_len own).1
  have av_en_tb := owk_av own off_tb
  clear hin_
  have HX := Lib.hid hx
  clear hx
  have hk2 : (x.k != 1) = false := by unfold bne; rw [hk]; rfl
  have hw : IntKind.i64.wrap (now + sc) = un := by rw [← HU.out]; exact IntWalk.i64_in _ (by have h1_ := HOK.out.n0; have h2_ := HOK.out.n1; have h3_ := HSR.out; simp only at h1_ h2_; omega)
  have hl2 : decide (un ≤ x.u) = false := decide_eq_false (Int.not_le.2 hl)
  clear hl
  have HOK2 := Lib.hid (HOK.out.set (y := ⟨x.pr, x.o, x.ad, x.i, x.k, un⟩) HX.out rfl rfl)
  go_wp2_with fail
  with_reducible refine (mat_some p o _ htb en av_en_tb HOK.out.srt HOK.out.okp HPO.out H32.out HQ.out HF.out HX.out).mono ?_
  rintro e w2 ⟨rfl, b2⟩
  replace htb := blk_u htb b2
  replace en := en.below b2
  replace own := owk_under own b2
  replace fo := fo.below b2
  replace hM := hM.below b2
  replace bel := bel.trans (b2.mono (Nat.le_trans hlo bel.size))
  clear b2
  go_wp2_with fail
  replace bel := bel.drew
  replace htb : w2.drew.heap[gt]? = _ := htb
  replace en := en.drew
  replace own := World.ownsRow.drew own
  replace fo := fo_drew fo
  replace hM := om_drew hM
  refine wp_region_held_drew (S := fun W => W.heap[gt]? = some (.cells #[.int .i64 lw, .int .i64 rm, .int .i64 now, .slice (some ⟨gE, 0, none⟩) n c, .map (some mb)] 76 (0, 0)) ∧ Sle mpE 9 W (some ⟨gE, 0, none⟩) (n) (c) (l)) (by kernel_rfl) ⟨htb, en⟩ (fun hH => ?_)
  generalize w2.drew = w3 at bel htb en own fo hM hH ⊢
  refine wpAnyH_take (i := 0) (v := ?_) rfl (by kernel_rfl) (by kernel_rfl) (by kernel_rfl) (fun _ _ _ h => h) (Or.inl ⟨by rfl, ?_⟩) hH ?_
  rotate_left
  · ((intro W hW; clear hW; go_simp) <;> with_reducible rfl)
  simp only [Act.put, List.getElem_toArray, List.getElem_cons_zero, List.setIfInBounds_toArray, List.set_cons_zero, List.set_cons_succ]
  refine wpAnyH_take (i := 1) (v := ?_) rfl (by kernel_rfl) (by kernel_rfl) (by kernel_rfl) (fun _ _ _ h => h) (Or.inl ⟨by rfl, ?_⟩) hH ?_
  rotate_left
  · ((intro W hW; clear hW; go_simp) <;> with_reducible rfl)
  simp only [sq3, sq4]
  refine wpAnyH_take (i := 2) (v := ?_) rfl (by kernel_rfl) (by kernel_rfl) (by kernel_rfl) (fun _ _ _ h => h) (Or.inl ⟨by rfl, ?_⟩) hH ?_
  rotate_left
  · ((intro W hW; clear hW; go_simp) <;> with_reducible rfl)
  simp only [sq3, sq4]
  refine wpAnyH_take (i := 3) (v := ?_) rfl (by kernel_rfl) (by kernel_rfl) (by kernel_rfl) (fun _ _ _ h => h) (Or.inl ⟨by rfl, ?_⟩) hH ?_
  rotate_left
  · ((intro W hW; clear hW; go_simp) <;> with_reducible rfl)
  simp only [sq3, sq4]
  refine wpAnyH_take (i := 4) (v := ?_) rfl (by kernel_rfl) (by kernel_rfl) (by kernel_rfl) (fun _ _ _ h => h) (Or.inl ⟨by rfl, ?_⟩) hH ?_
  rotate_left
  · ((intro W hW; clear hW; go_simp) <;> with_reducible rfl)
  simp only [sq3, sq4]
  refine wpAnyH_take (i := 5) (v := ?_) rfl (by kernel_rfl) (by kernel_rfl) (by kernel_rfl) (fun _ _ _ h => h) (Or.inl ⟨by rfl, ?_⟩) hH ?_
  rotate_left
  · ((intro W hW; clear hW; go_simp) <;> with_reducible rfl)
  simp only [sq3, sq4]
  refine wpAnyH_take (i := 6) (v := ?_) rfl (by kernel_rfl) (by kernel_rfl) (by kernel_rfl) (fun _ _ _ h => h) (Or.inl ⟨by rfl, ?_⟩) hH ?_
  rotate_left
  · ((intro W hW; have hk := Sle.zcell (hW.2) HX.out 7 _ rfl; clear hW; go_simp) <;> with_reducible rfl)
  simp only [sq3, sq4]
  refine wpAnyH_take (i := 7) (v := ?_) rfl (by kernel_rfl) (by kernel_rfl) (by kernel_rfl) (fun _ _ _ h => h) (Or.inl ⟨by rfl, ?_⟩) hH ?_
  rotate_left
  · ((intro W hW; clear hW; go_simp) <;> with_reducible rfl)
  simp only [sq3, sq4]
  refine wpAnyH_take (i := 8) (v := ?_) rfl (by kernel_rfl) (by kernel_rfl) (by kernel_rfl) (fun _ _ _ h => h) (Or.inl ⟨by rfl, ?_⟩) hH ?_
  rotate_left
  · ((intro W hW; clear hW; go_simp) <;> with_reducible rfl)
  simp only [sq3, sq4]
  refine wpAnyH_take (i := 9) (v := ?_) rfl (by kernel_rfl) (by kernel_rfl) (by kernel_rfl) (fun _ _ _ h => h) (Or.inl ⟨by rfl, ?_⟩) hH ?_
  rotate_left
  · ((intro W hW; clear hW; go_simp) <;> with_reducible rfl)
  simp only [sq3, sq4]
  refine wpAnyH_take (i := 10) (v := ?_) rfl (by kernel_rfl) (by kernel_rfl) (by kernel_rfl) (fun _ _ _ h => h) (Or.inl ⟨by rfl, ?_⟩) hH ?_
  rotate_left
  · ((intro W hW; clear hW; go_simp) <;> with_reducible rfl)
  simp only [sq3, sq4]
  refine wpAnyH_ready (rs := [11]) (by kernel_rfl) (by simp) ?_
  refine AllReadyH.cons (o := _) rfl (fun K hK => ?_) AllReadyH.nil
  simp only [sq3]
  go_simp
  with_reducible refine (secs_any _ HSC.out).mono ?_
  rintro e _ ⟨rfl, rfl⟩
  dsimp only
  refine hK.out _ _ ⟨htb, en⟩ (fun hH4 => ?_)
  clear hK K
  refine wpAnyH_take (i := 12) (v := ?_) rfl (by kernel_rfl) (by kernel_rfl) (by kernel_rfl) (fun _ _ _ h => h) (Or.inl ⟨by rfl, ?_⟩) hH4 ?_
  rotate_left
  · ((intro W hW; clear hW; go_simp) <;> with_reducible rfl)
  simp only [sq3, sq4]
  refine wpAnyH_take (i := 13) (v := ?_) rfl (by kernel_rfl) (by kernel_rfl) (by kernel_rfl) (fun _ _ _ h => h) (Or.inl ⟨by rfl, ?_⟩) hH4 ?_
  rotate_left
  · ((intro W hW; clear hW; go_simp) <;> with_reducible rfl)
  simp only [sq3, sq4]
  refine wpAnyH_take (i := 14) (v := ?_) rfl (by kernel_rfl) (by kernel_rfl) (by kernel_rfl) (fun _ _ _ h => h) (Or.inl ⟨by rfl, ?_⟩) hH4 ?_
  rotate_left
  · ((intro W hW; clear hW; go_simp) <;> with_reducible rfl)
  simp only [sq3, sq4]
  refine wpAnyH_take (i := 15) (v := ?_) rfl (by kernel_rfl) (by kernel_rfl) (by kernel_rfl) (fun _ _ _ h => h) (Or.inl ⟨by rfl, ?_⟩) hH4 ?_
  rotate_left
  · ((intro W hW; clear hW; go_simp) <;> with_reducible rfl)
  simp only [sq3, sq4]
  refine wpAnyH_take (i := 16) (v := ?_) rfl (by kernel_rfl) (by kernel_rfl) (by kernel_rfl) (fun _ _ _ h => h) (Or.inl ⟨by rfl, ?_⟩) hH4 ?_
  rotate_left
  · ((intro W hW; clear hW; go_simp) <;> with_reducible rfl)
  simp only [sq3, sq4]
  refine wpAnyH_take (i := 17) (v := ?_) rfl (by kernel_rfl) (by kernel_rfl) (by kernel_rfl) (fun _ _ _ h => h) (Or.inl ⟨by rfl, ?_⟩) hH4 ?_
  rotate_left
  · ((intro W hW; clear hW; go_simp) <;> with_reducible rfl)
  simp only [sq3, sq4]
  refine wpAnyH_take (i := 18) (v := ?_) rfl (by kernel_rfl) (by kernel_rfl) (by kernel_rfl) (fun _ _ _ h => h) (Or.inl ⟨by rfl, ?_⟩) hH4 ?_
  rotate_left
  · ((intro W hW; have hk := cell_lit (hW.1) 2 _ rfl; clear hW; go_simp) <;> with_reducible rfl)
  simp only [sq3, sq4]
  refine wpAnyH_take (i := 19) (v := ?_) rfl (by kernel_rfl) (by kernel_rfl) (by kernel_rfl) (fun _ _ _ h => h) (Or.inl ⟨by rfl, ?_⟩) hH4 ?_
  rotate_left
  · ((intro W hW; clear hW; go_simp) <;> with_reducible rfl)
  simp only [sq3, sq4]
  refine wpAnyH_take (i := 20) (v := ?_) rfl (by kernel_rfl) (by kernel_rfl) (by kernel_rfl) (fun _ _ _ h => h) (Or.inl ⟨by rfl, ?_⟩) hH4 ?_
  rotate_left
  · ((intro W hW; clear hW; go_simp) <;> with_reducible rfl)
  simp only [sq3, sq4]
  refine wpAnyH_take (i := 21) (v := ?_) rfl (by kernel_rfl) (by kernel_rfl) (by kernel_rfl) (fun _ _ _ h => h) (Or.inl ⟨by rfl, ?_⟩) hH4 ?_
  rotate_left
  · ((intro W hW; clear hW; go_simp) <;> with_reducible rfl)
  simp only [sq3, sq4]
  refine wpAnyH_take (i := 22) (v := ?_) rfl (by kernel_rfl) (by kernel_rfl) (by kernel_rfl) (fun _ _ _ h => h) (Or.inl ⟨by rfl, ?_⟩) hH4 ?_
  rotate_left
  · ((intro W hW; clear hW; go_simp) <;> with_reducible rfl)
  simp only [sq3, sq4]
  refine wpAnyH_take (i := 23) (v := ?_) rfl (by kernel_rfl) (by kernel_rfl) (by kernel_rfl) (fun _ _ _ h => h) (Or.inl ⟨by rfl, ?_⟩) hH4 ?_
  rotate_left
  · ((intro W hW; clear hW; go_simp) <;> with_reducible rfl)
  simp only [sq3, sq4]
  refine wpAnyH_take (i := 24) (v := ?_) rfl (by kernel_rfl) (by kernel_rfl) (by kernel_rfl) (fun _ _ _ h => h) (Or.inl ⟨by rfl, ?_⟩) hH4 ?_
  rotate_left
  · ((intro W hW; have hk := Sle.zcell (hW.2) HX.out 8 _ rfl; clear hW; go_simp) <;> with_reducible rfl)
  simp only [sq3, sq4]
  refine wpAnyH_take (i := 25) (v := ?_) rfl (by kernel_rfl) (by kernel_rfl) (by kernel_rfl) (fun _ _ _ h => h) (Or.inl ⟨by rfl, ?_⟩) hH4 ?_
  rotate_left
  · ((intro W hW; clear hW; go_simp) <;> with_reducible rfl)
  simp only [sq3, sq4]
  refine wpAnyH_take (i := 26) (v := ?_) rfl (by kernel_rfl) (by kernel_rfl) (by kernel_rfl) (fun _ _ _ h => h) (Or.inl ⟨by rfl, ?_⟩) hH4 ?_
  rotate_left
  · ((intro W hW; clear hW; go_simp) <;> with_reducible rfl)
  simp only [sq3, sq4]
  refine wpAnyH_done (by kernel_rfl) ?_ _
  have R51 := cell_lit htb 2 _ rfl
  go_wp2_with (first | ((with_reducible show wpList _ _ _ (⟨none, Op.store _ (.tmp 55) _, _, _, _, _⟩ :: _) _ _); refine wpList_store_el rfl 2 (.tmp 55) (.tmp 53) rfl gE i 8 x (⟨x.pr, x.o, x.ad, x.i, x.k, un⟩) rfl [.int .i64 un] rfl (by decide) mpE_len own HX.out (Nat.le_of_ble_eq_true rfl) rfl (by kernel_rfl) (by rfl) ?_; intro w5 own_ gw; replace bel := bel.trans (row_bel gw own (Nat.le_trans hlo bel.size)); replace htb := blk_own (v := .slice (some ⟨gE, 0, none⟩) n c) htb gw off_tb; replace fo := fo.row gw (fun _ _ h => h); replace hM := hM.row gw own; clear own; have own := own_; clear own_ gw; replace en := (owk_sle (by decide) mpE_len own).1))
  try clear R51
  go_ret
  exact ⟨rfl, ⟨(some ⟨gE, 0, none⟩), n, c, mb, htb, otb, hM, own, HOK2.out⟩, fo.fr htb, bel⟩
theorem Ts.adv_no {s : Ts} {t : Int} (h : ¬ s.now < t) : s.adv t = s := by
  unfold Ts.adv
  rw [if_neg (by omega)]
theorem Ts.adv_yes {s : Ts} {t : Int} (h : s.now < t) (h2 : t ≤ 1099511627776) : s.adv t = advS s t := by
  unfold Ts.adv
  rw [if_pos ⟨h, h2⟩]
theorem mk_own {lo gt : Nat} {s s1 s2 : Ts} {pr p sc un t : Int} {ad : Ad4} (w : World) (hT : Tp lo gt w s) (ha : s.adv t = s1) (hpb : portB pr p = true) (hsc : secsB sc = true) (hu : s1.now + sc = un) (hbf : bestF pr ad p s1.l s1.l.length = none) (hr : (s1.l.length : Int) < s1.rm) (h1 : s1.lw ≤ p) (hf : mfhas s1.l (kn pr p) = false) (h2 : (⟨s1.lw, s1.rm, s1.now, mins s1.l ⟨pr, p, ad, p, 1, un⟩, odel s1.os (kn pr p)⟩ : Ts) = s2) : Calls Tryz.prog 110 #[.pointer (some ⟨gt, 0, none⟩), .agg #[.int .i64 pr, .int .u8 (ad.a.toNat : Int), .int .u8 (ad.b.toNat : Int), .int .u8 (ad.c.toNat : Int), .int .u8 (ad.d.toNat : Int), .int .i64 p], .int .i64 t, .int .i64 sc] w fun e w' => e = .returned (.tuple #[.agg #[.int .i64 pr, .int .i64 p, .int .u8 (ad.a.toNat : Int), .int .u8 (ad.b.toNat : Int), .int .u8 (ad.c.toNat : Int), .int .u8 (ad.d.toNat : Int), .int .i64 p, .int .i64 1, .int .i64 un], .int .i64 0]) ∧ Tp lo gt w' s2 ∧ Fap gt w w' ∧ Below lo w w' := by
  have hok : s1.ok := ha ▸ hT.ok.adv t
  obtain ⟨lw, rm, now, l, os⟩ := s1
  subst h2
  exact tmake_new t w hT ha hpb hsc hu hbf (fop_own hok.srt hok.okp (portB_ok hpb) h1 hf) hr (portB_ok hpb) hf
theorem mk_least {lo gt : Nat} {s s1 s2 : Ts} {q pr p sc un t : Int} {ad : Ad4} (w : World) (hT : Tp lo gt w s) (ha : s.adv t = s1) (hpb : portB pr p = true) (hsc : secsB sc = true) (hu : s1.now + sc = un) (hbf : bestF pr ad p s1.l s1.l.length = none) (hr : (s1.l.length : Int) < s1.rm) (hp : s1.lw ≤ p → mfhas s1.l (kn pr p) = true) (hq1 : s1.lw ≤ q) (hq2 : q ≤ 65535) (hall : ∀ o, s1.lw ≤ o → o < q → mfhas s1.l (kn pr o) = true) (hno : mfhas s1.l (kn pr q) = false) (h2 : (⟨s1.lw, s1.rm, s1.now, mins s1.l ⟨pr, q, ad, p, 1, un⟩, odel s1.os (kn pr q)⟩ : Ts) = s2) : Calls Tryz.prog 110 #[.pointer (some ⟨gt, 0, none⟩), .agg #[.int .i64 pr, .int .u8 (ad.a.toNat : Int), .int .u8 (ad.b.toNat : Int), .int .u8 (ad.c.toNat : Int), .int .u8 (ad.d.toNat : Int), .int .i64 p], .int .i64 t, .int .i64 sc] w fun e w' => e = .returned (.tuple #[.agg #[.int .i64 pr, .int .i64 q, .int .u8 (ad.a.toNat : Int), .int .u8 (ad.b.toNat : Int), .int .u8 (ad.c.toNat : Int), .int .u8 (ad.d.toNat : Int), .int .i64 p, .int .i64 1, .int .i64 un], .int .i64 0]) ∧ Tp lo gt w' s2 ∧ Fap gt w w' ∧ Below lo w w' := by
  have hok : s1.ok := ha ▸ hT.ok.adv t
  obtain ⟨lw, rm, now, l, os⟩ := s1
  subst h2
  have hpo := portB_ok hpb
  have hl0 := hok.l0
  simp only at hl0 hq1
  exact tmake_new t w hT ha hpb hsc hu hbf (fop_least hok.srt hok.okp (by show 0 ≤ lw; omega) hq1 hq2 ⟨hpo.1, hpo.2.1⟩ (fun h => ⟨hpo, hp h⟩) hall hno) hr ⟨hpo.1, hpo.2.1, by omega, hq2⟩ hno
theorem mk_old {lo gt : Nat} {s s1 s2 : Ts} {xp xo xi xk xu pr p sc un t : Int} {xa ad : Ad4} {i : Nat} (w : World) (hT : Tp lo gt w s) (ha : s.adv t = s1) (hpb : portB pr p = true) (hsc : secsB sc = true) (hu : s1.now + sc = un) (hbf : bestF pr ad p s1.l s1.l.length = some i) (hx : s1.l[i]? = some ⟨xp, xo, xa, xi, xk, xu⟩) (hk : (xk == 1) = true) (h2 : (⟨s1.lw, s1.rm, s1.now, s1.l.set i ⟨xp, xo, xa, xi, xk, un⟩, s1.os⟩ : Ts) = s2) : Calls Tryz.prog 110 #[.pointer (some ⟨gt, 0, none⟩), .agg #[.int .i64 pr, .int .u8 (ad.a.toNat : Int), .int .u8 (ad.b.toNat : Int), .int .u8 (ad.c.toNat : Int), .int .u8 (ad.d.toNat : Int), .int .i64 p], .int .i64 t, .int .i64 sc] w fun e w' => e = .returned (.tuple #[.agg #[.int .i64 xp, .int .i64 xo, .int .u8 (xa.a.toNat : Int), .int .u8 (xa.b.toNat : Int), .int .u8 (xa.c.toNat : Int), .int .u8 (xa.d.toNat : Int), .int .i64 xi, .int .i64 xk, .int .i64 un], .int .i64 0]) ∧ Tp lo gt w' s2 ∧ Fap gt w w' ∧ Below lo w w' := by
  have hok : s1.ok := ha ▸ hT.ok.adv t
  obtain ⟨lw, rm, now, l, os⟩ := s1
  subst h2
  exact tmake_old t w hT ha hpb hsc hu hbf hx hk
theorem pt_new {lo gt : Nat} {s s1 s2 : Ts} {mp mo mi mk mu t : Int} {ma : Ad4} (w : World) (hT : Tp lo gt w s) (ha : s.adv t = s1) (hpm : permB ⟨mp, mo, ma, mi, mk, mu⟩ = true) (hlv : liveB s1.now ⟨mp, mo, ma, mi, mk, mu⟩ = true) (hf : mfhas s1.l (kn mp mo) = false) (hr : (s1.l.length : Int) < s1.rm) (h2 : (⟨s1.lw, s1.rm, s1.now, mins s1.l ⟨mp, mo, ma, mi, mk, mu⟩, odel s1.os (kn mp mo)⟩ : Ts) = s2) : Calls Tryz.prog 27 #[.pointer (some ⟨gt, 0, none⟩), .agg #[.int .i64 mp, .int .i64 mo, .int .u8 (ma.a.toNat : Int), .int .u8 (ma.b.toNat : Int), .int .u8 (ma.c.toNat : Int), .int .u8 (ma.d.toNat : Int), .int .i64 mi, .int .i64 mk, .int .i64 mu], .int .i64 t] w fun e w' => e = .returned (.int .i64 0) ∧ Tp lo gt w' s2 ∧ Fap gt w w' ∧ Below lo w w' := by
  have hok : s1.ok := ha ▸ hT.ok.adv t
  obtain ⟨lw, rm, now, l, os⟩ := s1
  subst h2
  exact tput_new (m := ⟨mp, mo, ma, mi, mk, mu⟩) t w hT ha hpm hlv hf hr
theorem in_none {lo gt : Nat} {s s1 : Ts} {p o t : Int} (w : World) (hT : Tp lo gt w s) (ha : s.adv t = s1) (hpo : okP p o) (hf : mfhas s1.l (kn p o) = false) : Calls Tryz.prog 29 #[.pointer (some ⟨gt, 0, none⟩), .int .i64 p, .int .i64 o, .int .i64 t] w fun e w' => e = .returned (.tuple #[.agg #[.int .i64 0, .int .i64 0, .int .u8 0, .int .u8 0, .int .u8 0, .int .u8 0, .int .i64 0, .int .i64 0, .int .i64 0], .bool false]) ∧ Tp lo gt w' s1 ∧ Fap gt w w' ∧ Below lo w w' := by
  obtain ⟨lw, rm, now, l, os⟩ := s1
  exact tin_none t w hT ha hpo hf
theorem in_some {lo gt : Nat} {s s1 : Ts} {p o t : Int} {xp xo xi xk xu : Int} {xa : Ad4} {i : Nat} (w : World) (hT : Tp lo gt w s) (ha : s.adv t = s1) (hpo : okP p o) (hf : mfhas s1.l (kn p o) = true) (hq : mfpos s1.l (kn p o) = i) (hx : s1.l[i]? = some ⟨xp, xo, xa, xi, xk, xu⟩) : Calls Tryz.prog 29 #[.pointer (some ⟨gt, 0, none⟩), .int .i64 p, .int .i64 o, .int .i64 t] w fun e w' => e = .returned (.tuple #[.agg #[.int .i64 xp, .int .i64 xo, .int .u8 (xa.a.toNat : Int), .int .u8 (xa.b.toNat : Int), .int .u8 (xa.c.toNat : Int), .int .u8 (xa.d.toNat : Int), .int .i64 xi, .int .i64 xk, .int .i64 xu], .bool true]) ∧ Tp lo gt w' s1 ∧ Fap gt w w' ∧ Below lo w w' := by
  obtain ⟨lw, rm, now, l, os⟩ := s1
  exact tin_some t w hT ha hpo hf hq hx
theorem len_is {lo gt : Nat} {s s1 : Ts} {t n : Int} (w : World) (hT : Tp lo gt w s) (ha : s.adv t = s1) (hn : (s1.l.length : Int) = n) : Calls Tryz.prog 26 #[.pointer (some ⟨gt, 0, none⟩), .int .i64 t] w fun e w' => e = .returned (.int .i64 n) ∧ Tp lo gt w' s1 ∧ Fap gt w w' ∧ Below lo w w' := by
  obtain ⟨lw, rm, now, l, os⟩ := s1
  subst hn
  exact tlen_any t w hT ha
theorem lv_oth {lo gt : Nat} {s s1 : Ts} {p o t sc : Int} {xp xo xi xk xu : Int} {xa : Ad4} {i : Nat} (w : World) (hT : Tp lo gt w s) (ha : s.adv t = s1) (hpo : okP p o) (hf : mfhas s1.l (kn p o) = true) (hq : mfpos s1.l (kn p o) = i) (hx : s1.l[i]? = some ⟨xp, xo, xa, xi, xk, xu⟩) (hk : (xk == 1) = false) : Calls Tryz.prog 67 #[.pointer (some ⟨gt, 0, none⟩), .int .i64 p, .int .i64 o, .int .i64 t, .int .i64 sc] w fun e w' => e = .returned (.bool false) ∧ Tp lo gt w' s1 ∧ Fap gt w w' ∧ Below lo w w' := by
  obtain ⟨lw, rm, now, l, os⟩ := s1
  exact tlive_oth t w hT ha hpo hf hq hx hk
theorem lv_set {lo gt : Nat} {s s1 s2 : Ts} {p o t sc : Int} {xp xo xi xk xu : Int} {xa : Ad4} {i : Nat} (w : World) (hT : Tp lo gt w s) (ha : s.adv t = s1) (hpo : okP p o) (hf : mfhas s1.l (kn p o) = true) (hq : mfpos s1.l (kn p o) = i) (hx : s1.l[i]? = some ⟨xp, xo, xa, xi, xk, xu⟩) (hk : (xk == 1) = true) (hsc : secsB sc = true) (hl : xu < s1.now + sc) (h2 : (⟨s1.lw, s1.rm, s1.now, s1.l.set i ⟨xp, xo, xa, xi, xk, s1.now + sc⟩, s1.os⟩ : Ts) = s2) : Calls Tryz.prog 67 #[.pointer (some ⟨gt, 0, none⟩), .int .i64 p, .int .i64 o, .int .i64 t, .int .i64 sc] w fun e w' => e = .returned (.bool true) ∧ Tp lo gt w' s2 ∧ Fap gt w w' ∧ Below lo w w' := by
  obtain ⟨lw, rm, now, l, os⟩ := s1
  subst h2
  exact tlive_set t w hT ha hpo hf hq hx hk hsc rfl hl
open Go.RowKit

theorem made2 (v : Int) (w : World) : Sl (w.alloc (.cells #[.int .u8 (v / 256 % 256), .int .u8 (v % 256)] 5)) (some ⟨w.heap.size, 0, none⟩) 2 2 (two v) := by
  have h := Sl.made w 5 (two v) (by simp [two, maxLen])
  simpa [two, u8v, byteOf_val] using h
theorem made4 (v : Int) (w : World) (h0 : 0 ≤ v) (h1 : v < 4294967296) :
    Sl (w.alloc (.cells #[.int .u8 (v / 16777216), .int .u8 (v / 65536 % 256), .int .u8 (v / 256 % 256), .int .u8 (v % 256)] 5)) (some ⟨w.heap.size, 0, none⟩) 4 4 (four v) := by
  have h := Sl.made w 5 (four v) (by simp [four, maxLen])
  have e : v / 16777216 % 256 = v / 16777216 := by omega
  simpa [four, u8v, byteOf_val, e] using h

theorem w32_any (A : Option Addr) (n c : Nat) (l : List UInt8) (v : Int) (w : World) (h0 : 0 ≤ v) (h1 : v < 4294967296) (hl : Sl w A n c l) (hs : n + 4 ≤ 140737488355328) :
    Calls Tryz.prog 78 #[.slice A n c, .int .u32 v] w fun e w' => ∃ A' c', e = .returned (.slice A' (n + 4) c') ∧ Sl w' A' (n + 4) c' (l ++ four v) ∧ Below w.heap.size w w' := by
  have hm := made4 v w h0 h1
  have bel := (Below.refl w.heap.size w).alloc (Nat.le_refl _) (.cells #[.int .u8 (v / 16777216), .int .u8 (v / 65536 % 256), .int .u8 (v / 256 % 256), .int .u8 (v % 256)] 5)
  have hl1 := hl.below bel
  go_enter Tryz.func78, Tryz.ntmps78
  go_wp2_with (go_at_call 81; refine (join_any A _ n c 4 4 l (four v) _ hl1 hm hs).mono ?_; rintro e w1 ⟨A', c', rfl, hsl, bel1⟩)
  go_ret
  exact ⟨A', c', rfl, hsl, bel.trans (bel1.mono bel.size)⟩

/-- The ones' complement reading of a plain sum: what is left of it by 65535, where only 0 is 0. -/
def nrm (n : Nat) : Nat := if n = 0 then 0 else (n - 1) % 65535 + 1
theorem nrm_le (n : Nat) : nrm n ≤ 65535 := by unfold nrm; split <;> omega
theorem nrm_zero : nrm 0 = 0 := rfl
theorem nrm_eq {n m : Nat} (h : n % 65535 = m % 65535) (hz : n = 0 ↔ m = 0) : nrm n = nrm m := by
  unfold nrm
  by_cases h0 : n = 0
  · rw [if_pos h0, if_pos (hz.1 h0)]
  · rw [if_neg h0, if_neg (fun e => h0 (hz.2 e))]
    have : m ≠ 0 := fun e => h0 (hz.2 e)
    omega
theorem nrm_mod (n : Nat) : nrm n % 65535 = n % 65535 := by unfold nrm; split <;> omega
theorem nrm_pos {n : Nat} (h : 0 < n) : 0 < nrm n := by unfold nrm; split <;> omega
theorem nrm_add (a b : Nat) : nrm (nrm a + b) = nrm (a + b) := by
  have h := nrm_mod a
  refine nrm_eq (by omega) ?_
  rcases Nat.eq_zero_or_pos a with h0 | h0
  · subst h0; rw [nrm_zero]
  · have := nrm_pos h0; omega

/-- The sum that the document's Add gives. -/
def addI (a b : Int) : Int := (a % 65536 + b % 65536) % 65536 + (a % 65536 + b % 65536) / 65536
theorem addI_nat (x y : Nat) (hx : x ≤ 65535) (hy : y ≤ 65535) : addI x y = nrm (x + y) := by
  unfold addI nrm; split <;> omega
theorem addI_nrm (x y : Nat) (hy : y ≤ 65535) : addI (nrm x) y = nrm (x + y) := by
  rw [addI_nat _ _ (nrm_le x) hy, nrm_add]
/-- The weighted sum of bytes: the first one (if so told) of a pair is the greater. -/
def ws : Bool → List UInt8 → Nat
  | _, [] => 0
  | true, a :: t => a.toNat * 256 + ws false t
  | false, a :: t => a.toNat + ws true t
def par (h : Bool) (n : Nat) : Bool := if n % 2 = 0 then h else !h
theorem par_succ (h : Bool) (n : Nat) : par h (n + 1) = !par h n := by
  unfold par
  rcases Nat.mod_two_eq_zero_or_one n with e | e
  · rw [if_neg (by omega), if_pos e]
  · rw [if_pos (by omega), if_neg (by omega)]; simp
theorem par_not (h : Bool) (n : Nat) : par (!h) n = !par h n := by
  unfold par; split <;> rfl
theorem ws_append (l t : List UInt8) : ∀ h, ws h (l ++ t) = ws h l + ws (par h l.length) t := by
  induction l with
  | nil => intro h; cases h <;> simp [ws, par]
  | cons a l ih =>
    intro h
    cases h
    · rw [List.cons_append, ws, ih, ws, List.length_cons, par_succ, ← par_not]; simp; omega
    · rw [List.cons_append, ws, ih, ws, List.length_cons, par_succ, ← par_not]; simp; omega
theorem ws_one (h : Bool) (b : UInt8) : ws h [b] = if h then b.toNat * 256 else b.toNat := by cases h <;> simp [ws]
theorem ws_pair (a b : UInt8) (t : List UInt8) : ws true (a :: b :: t) = a.toNat * 256 + b.toNat + ws true t := by simp [ws]; omega
theorem ws_even (l t : List UInt8) (h : l.length % 2 = 0) : ws true (l ++ t) = ws true l + ws true t := by
  rw [ws_append, par, if_pos h]
/-- The checksum. -/
def ck (l : List UInt8) : Int := 65535 - (nrm (ws true l) : Int)
theorem ck_bounds (l : List UInt8) : 0 ≤ ck l ∧ ck l ≤ 65535 := by
  have := nrm_le (ws true l); unfold ck; omega
/-- The sum behind a turn: from b on, each old pair out, each new one in. -/
def ts : Nat → List UInt8 → List UInt8 → Nat
  | s, a :: b :: o, c :: d :: n => ts (s + (65535 - (a.toNat * 256 + b.toNat)) + (c.toNat * 256 + d.toNat)) o n
  | s, _, _ => s
def tk (s : Int) (o n : List UInt8) : Int := if o.length ≠ n.length ∨ o.length % 2 = 1 then s else 65535 - (nrm (ts (65535 - (s % 65536).toNat) o n) : Int)

/-- Bytes with a pair at an even place. -/
theorem ws_at (p q : List UInt8) (a b : UInt8) (hp : p.length % 2 = 0) : ws true (p ++ a :: b :: q) = ws true p + (a.toNat * 256 + b.toNat) + ws true q := by
  rw [ws_even _ _ hp, ws_pair]; omega

theorem ck_zero (l : List UInt8) : ck l = 0 ↔ 0 < ws true l ∧ ws true l % 65535 = 0 := by
  unfold ck nrm
  split <;> omega
open Go.RowKit

theorem ret_i64 {a b : Int} (h : a = b) : Ending.returned (.int .i64 a) = .returned (.int .i64 b) := by rw [h]

theorem add_any (a b : Int) (w : World) : Calls Tryz.prog 113 #[.int .i64 a, .int .i64 b] w fun e w' => e = .returned (.int .i64 (addI a b)) ∧ w = w' := by
  have e1 := i64_and65535 a
  have e2 := i64_and65535 b
  have e3 := i64_and65535 (a % 65536 + b % 65536)
  have b1 : 0 ≤ a % 65536 := by omega
  have b2 : a % 65536 ≤ 65535 := by omega
  have b3 : 0 ≤ b % 65536 := by omega
  have b4 : b % 65536 ≤ 65535 := by omega
  have b5 : 0 ≤ (a % 65536 + b % 65536) % 65536 := by omega
  have b6 : (a % 65536 + b % 65536) % 65536 ≤ 65535 := by omega
  go_enter Tryz.func113, Tryz.ntmps113
  go_wp2
  go_ret
  exact ⟨ret_i64 (by unfold addI; omega), rfl⟩
/-- A slice of slices of bytes. -/
def Sls (w : World) (A : Option Addr) (m : Nat) (ls : List (List UInt8)) : Prop :=
  ls.length = m ∧ (0 < m → ∃ g o, A = some ⟨g, o, none⟩ ∧ ∀ j l, ls[j]? = some l → ∃ B n d, w.cell? ⟨g, o + j, none⟩ = some (.slice B n d) ∧ Sl w B n d l)

def shf (n : Nat) : Int := if n % 2 = 0 then 8 else 0
theorem shf_even {n : Nat} (h : n % 2 = 0) : shf n = 8 := if_pos h
theorem shf_odd {n : Nat} (h : ¬ n % 2 = 0) : shf n = 0 := if_neg h

theorem flat_succ {ls : List (List UInt8)} {k : Nat} (h : k < ls.length) : (ls.take (k + 1)).flatten = (ls.take k).flatten ++ ls[k] := by
  rw [List.take_succ_eq_append_getElem h, List.flatten_append]; simp

set_option maxHeartbeats 400000 in
theorem many_any (A : Option Addr) (m c : Nat) (ls : List (List UInt8)) (w : World) (hm : m ≤ maxLen) (hl : Sls w A m ls) :
    Calls Tryz.prog 79 #[.slice A m c] w fun e w' => e = .returned (.int .i64 (ck ls.flatten)) ∧ w = w' := by
  unfold maxLen at hm
  obtain ⟨hlen, hcell⟩ := hl
  go_enter Tryz.func79, Tryz.ntmps79
  go_wp2
  go_loop [3, 4, 11] (fun s sh i => ∃ (k : Nat) (v : Int), k ≤ m ∧ i = .int .i64 k ∧ s = .int .i64 (nrm (ws true (ls.take k).flatten)) ∧ sh = .int .i64 v ∧ v = shf (ls.take k).flatten.length) (fun _ _ i => m - (intOf i).toNat)
  case atStart => exact ⟨0, 8, by omega, rfl, rfl, rfl, rfl⟩
  case round =>
    obtain ⟨k, v, hk, rfl, rfl, rfl, hv⟩ := hrel
    by_cases hlt : k < m
    · have hkl : k < ls.length := by omega
      obtain ⟨g, o, rfl, hc⟩ := hcell (by omega)
      obtain ⟨B, n, d, hb, hsl⟩ := hc k _ (List.getElem?_eq_getElem hkl)
      have hfs := Lib.hid (flat_succ hkl)
      obtain ⟨p, hp⟩ : ∃ p, Hid ((ls.take k).flatten = p) := ⟨_, Lib.hid rfl⟩
      obtain ⟨l, hlk⟩ : ∃ l, Hid (ls[k] = l) := ⟨_, Lib.hid rfl⟩
      rw [hp.out] at hv ⊢
      rw [hp.out, hlk.out] at hfs
      rw [hlk.out] at hsl
      obtain ⟨h1, h2, h3, h4⟩ := hsl
      unfold maxLen at h3
      have b0 : (0 : Int) ≤ k := by omega
      have b1 : (k : Int) < m := by omega
      have b2 : (0 : Int) ≤ n := by omega
      have b3 : (n : Int) ≤ 9223372036854775807 := by omega
      have hv' := Lib.hid hv
      have h1' := Lib.hid h1
      have hlen' := Lib.hid hlen
      clear hv hcell hc h1 h2 hlen hp hlk
      go_wp2
      go_loop [3, 4, 17] (fun s sh i => ∃ (j : Nat) (v : Int), j ≤ n ∧ i = .int .i64 j ∧ s = .int .i64 (nrm (ws true (p ++ l.take j))) ∧ sh = .int .i64 v ∧ v = shf (p.length + j)) (fun _ _ i => n - (intOf i).toNat)
      case atStart => exact ⟨0, v, by omega, rfl, by simp, rfl, hv'.out⟩
      case round =>
        obtain ⟨j, u, hj, rfl, rfl, rfl, hu⟩ := hrel
        by_cases hjn : j < n
        · obtain ⟨g', o', rfl, hc⟩ := h4 (by omega)
          have hl1 := h1'.out
          have hjl : j < l.length := by omega
          have hcell := hc j _ (List.getElem?_eq_getElem hjl)
          have hsn : Hid (l.take (j + 1) = l.take j ++ [l[j]]) := Lib.hid (List.take_succ_eq_append_getElem hjl)
          obtain ⟨x, hx⟩ : ∃ x, Hid (l[j] = x) := ⟨_, Lib.hid rfl⟩
          rw [hx.out] at hcell hsn
          have hsum : Hid (ws true (p ++ l.take (j + 1)) = ws true (p ++ l.take j) + (if par true (p.length + j) then x.toNat * 256 else x.toNat)) := Lib.hid (by
            rw [hsn.out, ← List.append_assoc, ws_append, ws_one]
            rw [show (p ++ l.take j).length = p.length + j by rw [List.length_append, List.length_take]; omega])
          have hlx := x.toNat_lt
          unfold u8v at hcell
          have b4 : (0 : Int) ≤ j := by omega
          have b5 : (j : Int) < n := by omega
          have b6 : (0 : Int) ≤ x.toNat := by omega
          have b7 : (x.toNat : Int) < 256 := by omega
          clear hl1 hjl hc hx h4
          obtain ⟨y, hy⟩ : ∃ y, Hid (ws true (p ++ l.take j) = y) := ⟨_, Lib.hid rfl⟩
          rw [hy.out] at hsum ⊢
          have hny := nrm_le y
          by_cases hp : (p.length + j) % 2 = 0
          · obtain rfl : u = 8 := hu.trans (shf_even hp)
            have hs8 : Hid (shf (p.length + (j + 1)) = 0) := Lib.hid (shf_odd (by omega))
            have hadd : Hid (addI (nrm y) ((x.toNat : Int) * 256) = nrm (ws true (p ++ l.take (j + 1)))) := Lib.hid (by
              have h := addI_nrm y (x.toNat * 256) (by omega)
              rw [Int.natCast_mul] at h
              rw [hsum.out, show par true (p.length + j) = true from if_pos hp]
              exact h)
            clear hu hp hny hsum hsn
            go_wp2_with (go_at_call 113; refine (add_any _ _ _).mono ?_; rintro e w1 ⟨rfl, rfl⟩)
            go_round
            case rel => exact ⟨j + 1, 0, by omega, by go_num, by rw [hadd.out], rfl, hs8.out.symm⟩
            case measure => simp [intOf]; omega
          · obtain rfl : u = 0 := hu.trans (shf_odd hp)
            have hs8 : Hid (shf (p.length + (j + 1)) = 8) := Lib.hid (shf_even (by omega))
            have hadd : Hid (addI (nrm y) (x.toNat : Int) = nrm (ws true (p ++ l.take (j + 1)))) := Lib.hid (by
              have h := addI_nrm y x.toNat (by omega)
              rw [hsum.out, show par true (p.length + j) = false from if_neg hp]
              exact h)
            clear hu hp hny hsum hsn
            go_wp2_with (go_at_call 113; refine (add_any _ _ _).mono ?_; rintro e w1 ⟨rfl, rfl⟩)
            go_round
            case rel => exact ⟨j + 1, 8, by omega, by go_num, by rw [hadd.out], rfl, hs8.out.symm⟩
            case measure => simp [intOf]; omega
        · obtain rfl : j = n := by omega
          have e1 : l.take j = l := List.take_of_length_le (by have := h1'.out; omega)
          rw [e1]
          have hu' := Lib.hid hu
          clear hu e1
          go_wp2
          go_round
          case rel => exact ⟨k + 1, u, by omega, by go_num, by rw [hfs.out], rfl, by rw [hfs.out, hu'.out, List.length_append, h1'.out]⟩
          case measure => simp [intOf]; omega
    · obtain rfl : k = m := by omega
      have e1 : ls.take k = ls := List.take_of_length_le (by omega)
      rw [e1]
      have hb := ck_bounds ls.flatten
      have hck : (65535 : Int) - (nrm (ws true ls.flatten) : Int) = ck ls.flatten := rfl
      have hn := nrm_le (ws true ls.flatten)
      generalize nrm (ws true ls.flatten) = x at *
      have HK := Lib.hid hck
      clear hck e1 hv hlen hcell
      go_wp2
      go_ret
      exact ⟨ret_i64 HK.out, rfl⟩

theorem Sls.one {w : World} {A : Option Addr} {n c : Nat} {l : List UInt8} (h : Sl w A n c l) :
    Sls (w.alloc (.cells #[.slice A n c] 36)) (some ⟨w.heap.size, 0, none⟩) 1 [l] := by
  refine ⟨rfl, fun _ => ⟨_, _, rfl, fun j x hj => ?_⟩⟩
  match j, hj with
  | 0, hj =>
    obtain rfl : l = x := by simpa using hj
    refine ⟨A, n, c, ?_, h.below ((Below.refl _ _).alloc (Nat.le_refl _) _)⟩
    have h1 := heap_alloc_new w (.cells #[.slice A n c] 36)
    simp only [World.cell?, h1]; simp
  | j + 1, hj => simp at hj
theorem Sls.two {w : World} {A B : Option Addr} {n c m d : Nat} {l t : List UInt8} (h : Sl w A n c l) (h2 : Sl w B m d t) :
    Sls (w.alloc (.cells #[.slice A n c, .slice B m d] 36)) (some ⟨w.heap.size, 0, none⟩) 2 [l, t] := by
  have h1 := heap_alloc_new w (.cells #[.slice A n c, .slice B m d] 36)
  have bel := (Below.refl w.heap.size w).alloc (Nat.le_refl _) (.cells #[.slice A n c, .slice B m d] 36)
  refine ⟨rfl, fun _ => ⟨_, _, rfl, fun j x hj => ?_⟩⟩
  match j, hj with
  | 0, hj =>
    obtain rfl : l = x := by simpa using hj
    exact ⟨A, n, c, by simp only [World.cell?, h1]; simp, h.below bel⟩
  | 1, hj =>
    obtain rfl : t = x := by simpa using hj
    exact ⟨B, m, d, by simp only [World.cell?, h1]; simp, h2.below bel⟩
  | j + 2, hj => simp at hj

theorem of_any (A : Option Addr) (n c : Nat) (l : List UInt8) (w : World) (hl : Sl w A n c l) :
    Calls Tryz.prog 83 #[.slice A n c] w fun e w' => e = .returned (.int .i64 (ck l)) ∧ Below w.heap.size w w' := by
  have hs := Sls.one hl
  have bel := (Below.refl w.heap.size w).alloc (Nat.le_refl _) (.cells #[.slice A n c] 36)
  have hf : Hid ([l].flatten = l) := Lib.hid (by simp)
  go_enter Tryz.func83, Tryz.ntmps83
  go_wp2_with fail
  refine (many_any _ 1 1 [l] _ (by unfold maxLen; omega) hs).mono ?_
  rintro e w1 ⟨rfl, rfl⟩
  rw [hf.out]
  go_wp2
  go_ret
  exact ⟨rfl, bel⟩
theorem fits_yes (A : Option Addr) (n c : Nat) (l : List UInt8) (w : World) (hl : Sl w A n c l) (h : ck l = 0) :
    Calls Tryz.prog 46 #[.slice A n c] w fun e w' => e = .returned (.bool true) ∧ Below w.heap.size w w' := by
  have h0 := Lib.hid h
  clear h
  go_enter Tryz.func46, Tryz.ntmps46
  go_wp2_with fail
  refine (of_any A n c l _ hl).mono ?_
  rintro e w1 ⟨rfl, bel⟩
  rw [h0.out]
  go_wp2
  go_ret
  exact ⟨rfl, bel⟩
theorem fits_no (A : Option Addr) (n c : Nat) (l : List UInt8) (w : World) (hl : Sl w A n c l) (h : ck l ≠ 0) :
    Calls Tryz.prog 46 #[.slice A n c] w fun e w' => e = .returned (.bool false) ∧ Below w.heap.size w w' := by
  have h0 : ((ck l) == 0) = false := by simpa using h
  go_enter Tryz.func46, Tryz.ntmps46
  go_wp2_with fail
  refine (of_any A n c l _ hl).mono ?_
  rintro e w1 ⟨rfl, bel⟩
  go_wp2
  go_ret
  exact ⟨rfl, bel⟩
open Go.RowKit

open Go.RowKit

open Go.RowKit

open Go.RowKit

open Go.RowKit
open Go.RowKit
open Go.RowKit

/-- A packet of zeros. -/
abbrev packz : Value := .agg #[.int .i64 0, .int .i64 0, .int .i64 0, .int .i64 0, .int .i64 0, .int .i64 0, .int .u8 0, .int .u8 0, .int .u8 0, .int .u8 0, .int .u8 0, .int .u8 0, .int .u8 0, .int .u8 0, .slice none 0 0, .slice none 0 0]
/-- The length of the header that the first byte tells. -/
def hlen (x : UInt8) : Nat := x.toNat % 16 * 4
open Go.RowKit

open Go.RowKit

open Go.RowKit

open Go.RowKit

/-- What precedes the data in the sums. -/
def l4Ps (a0 a1 a2 a3 a4 a5 a6 a7 : UInt8) (pr k : Int) : List UInt8 := [a0, a1, a2, a3, a4, a5, a6, a7] ++ [0, byteOf pr] ++ two k
/-- The error of Get. -/
def udErr (fl pt pr : Int) (a0 a1 a2 a3 a4 a5 a6 a7 : UInt8) (b : List UInt8) : Int :=
  if pr ≠ 17 then 1 else if ¬ (pt = 0 ∧ fl % 2 = 0) then 10 else if b.length < 8 then 3 else if b.length < be ((b.drop 4).take 2) then 3 else if be ((b.drop 4).take 2) < 8 then 4
  else if be ((b.drop 6).take 2) ≠ 0 ∧ ck (l4Ps a0 a1 a2 a3 a4 a5 a6 a7 pr (be ((b.drop 4).take 2) : Nat) ++ b.take (be ((b.drop 4).take 2))) ≠ 0 then 5 else 0
def udGet (fl pt pr : Int) (a0 a1 a2 a3 a4 a5 a6 a7 : UInt8) (b : List UInt8) : (Int × Int) × List UInt8 × Int :=
  if udErr fl pt pr a0 a1 a2 a3 a4 a5 a6 a7 b ≠ 0 then ((0, 0), [], udErr fl pt pr a0 a1 a2 a3 a4 a5 a6 a7 b)
  else (((be (b.take 2) : Nat), (be ((b.drop 2).take 2) : Nat)), (b.drop 8).take (be ((b.drop 4).take 2) - 8), 0)
/-- The bytes of a datagram. -/
def udHd (df dt : Int) (n : Nat) : List UInt8 := two df ++ two dt ++ two (8 + (n : Int))
def udSum (a0 a1 a2 a3 a4 a5 a6 a7 : UInt8) (df dt : Int) (b : List UInt8) : Int :=
  if ck [l4Ps a0 a1 a2 a3 a4 a5 a6 a7 17 (8 + (b.length : Int)), udHd df dt b.length, b].flatten = 0 then 65535 else ck [l4Ps a0 a1 a2 a3 a4 a5 a6 a7 17 (8 + (b.length : Int)), udHd df dt b.length, b].flatten
def udBytes (a0 a1 a2 a3 a4 a5 a6 a7 : UInt8) (df dt : Int) (b : List UInt8) : List UInt8 := udHd df dt b.length ++ two (udSum a0 a1 a2 a3 a4 a5 a6 a7 df dt b) ++ b
def portOk (v : Int) : Bool := decide (0 ≤ v) && decide (v ≤ 65535)
/-- A packet in lists: its numbers, its addresses, its options and body; an error. -/
abbrev PkL := (List Int × List UInt8) × (List UInt8 × List UInt8) × Int
def pkNone (er : Int) : PkL := (([0, 0, 0, 0, 0, 0], [0, 0, 0, 0, 0, 0, 0, 0]), ([], []), er)
def udPut (tos id fl pt ttl : Int) (a0 a1 a2 a3 a4 a5 a6 a7 : UInt8) (lo : List UInt8) (df dt : Int) (b : List UInt8) : PkL :=
  if (portOk df && portOk dt) = false then pkNone 1 else if 1472 < b.length then pkNone 2 else (([tos, id, fl, pt, ttl, 17], [a0, a1, a2, a3, a4, a5, a6, a7]), (lo, udBytes a0 a1 a2 a3 a4 a5 a6 a7 df dt b), 0)
theorem udBytes_len (a0 a1 a2 a3 a4 a5 a6 a7 : UInt8) (df dt : Int) (b : List UInt8) : (udBytes a0 a1 a2 a3 a4 a5 a6 a7 df dt b).length = 8 + b.length := by
  simp [udBytes, udHd, two]
  omega
/-- What Get and Put answer. -/
def UdPost (R : (Int × Int) × List UInt8 × Int) (w : World) (e : Ending) (w' : World) : Prop :=
  ∃ (df dt : Int) (lb : List UInt8) (A : Option Addr) (c : Nat) (er : Int), e = .returned (.tuple #[.agg #[.int .i64 df, .int .i64 dt, .slice A lb.length c], .int .i64 er]) ∧ Sl w' A lb.length c lb ∧ Fr w.heap.size A lb.length ∧ Below w.heap.size w w' ∧ ((df, dt), lb, er) = R
def PkPost (R : PkL) (w : World) (e : Ending) (w' : World) : Prop :=
  ∃ (f0 f1 f2 f3 f4 f5 : Int) (a0 a1 a2 a3 a4 a5 a6 a7 : UInt8) (lo lb : List UInt8) (Ao Ab : Option Addr) (co cb : Nat) (er : Int), e = .returned (.tuple #[.agg #[.int .i64 f0, .int .i64 f1, .int .i64 f2, .int .i64 f3, .int .i64 f4, .int .i64 f5, .int .u8 (a0.toNat : Int), .int .u8 (a1.toNat : Int), .int .u8 (a2.toNat : Int), .int .u8 (a3.toNat : Int), .int .u8 (a4.toNat : Int), .int .u8 (a5.toNat : Int), .int .u8 (a6.toNat : Int), .int .u8 (a7.toNat : Int), .slice Ao lo.length co, .slice Ab lb.length cb], .int .i64 er]) ∧ Sl w' Ao lo.length co lo ∧ Sl w' Ab lb.length cb lb ∧ Fr w.heap.size Ao lo.length ∧ Fr w.heap.size Ab lb.length ∧ Below w.heap.size w w' ∧ (([f0, f1, f2, f3, f4, f5], [a0, a1, a2, a3, a4, a5, a6, a7]), (lo, lb), er) = R
theorem PkPost.none {er : Int} {w w' : World} (b : Below w.heap.size w w') : PkPost (pkNone er) w (.returned (.tuple #[packz, .int .i64 er])) w' :=
  ⟨0, 0, 0, 0, 0, 0, 0, 0, 0, 0, 0, 0, 0, 0, [], [], Option.none, Option.none, 0, 0, er, rfl, Sl.nil _, Sl.nil _, fun h => absurd h (by simp), fun h => absurd h (by simp), b, rfl⟩
theorem UdPost.none {er : Int} {R : (Int × Int) × List UInt8 × Int} {w w' : World} (h : ((0, 0), [], er) = R) (b : Below w.heap.size w w') : UdPost R w (.returned (.tuple #[.agg #[.int .i64 0, .int .i64 0, .slice Option.none 0 0], .int .i64 er])) w' :=
  ⟨0, 0, [], Option.none, 0, er, rfl, Sl.nil _, fun h => absurd h (by simp), b, h⟩
theorem list8 (l : List UInt8) (h : 8 ≤ l.length) : ∃ h0 h1 h2 h3 h4 h5 h6 h7 r, l = h0 :: h1 :: h2 :: h3 :: h4 :: h5 :: h6 :: h7 :: r := by
  rcases l with _ | ⟨x0, l⟩
  · simp at h
  rcases l with _ | ⟨x1, l⟩
  · simp at h
  rcases l with _ | ⟨x2, l⟩
  · simp at h
  rcases l with _ | ⟨x3, l⟩
  · simp at h
  rcases l with _ | ⟨x4, l⟩
  · simp at h
  rcases l with _ | ⟨x5, l⟩
  · simp at h
  rcases l with _ | ⟨x6, l⟩
  · simp at h
  rcases l with _ | ⟨x7, l⟩
  · simp at h
  exact ⟨x0, x1, x2, x3, x4, x5, x6, x7, l, rfl⟩
theorem ud_at {fl pt : Int} {a0 a1 a2 a3 a4 a5 a6 a7 : UInt8} {h0 h1 h2 h3 h4 h5 h6 h7 : UInt8} {r : List UInt8} {ln sm : Nat} (hln : be [h4, h5] = ln) (hsm : be [h6, h7] = sm) (hw : (decide (pt = 0) && decide (fl % 2 = 0)) = true) : udErr fl pt 17 a0 a1 a2 a3 a4 a5 a6 a7 (h0 :: h1 :: h2 :: h3 :: h4 :: h5 :: h6 :: h7 :: r) =
    if (h0 :: h1 :: h2 :: h3 :: h4 :: h5 :: h6 :: h7 :: r).length < ln then 3 else if ln < 8 then 4 else if sm ≠ 0 ∧ ck (l4Ps a0 a1 a2 a3 a4 a5 a6 a7 17 (ln : Int) ++ (h0 :: h1 :: h2 :: h3 :: h4 :: h5 :: h6 :: h7 :: r).take ln) ≠ 0 then 5 else 0 := by
  subst hln
  subst hsm
  unfold udErr
  rw [if_neg (by decide), if_neg (by simpa using hw), if_neg (by simp)]
  rfl
theorem ud_ok {fl pt pr : Int} {a0 a1 a2 a3 a4 a5 a6 a7 : UInt8} {h0 h1 h2 h3 h4 h5 h6 h7 : UInt8} {r : List UInt8} {ln k : Nat} (e : udErr fl pt pr a0 a1 a2 a3 a4 a5 a6 a7 (h0 :: h1 :: h2 :: h3 :: h4 :: h5 :: h6 :: h7 :: r) = 0) (hl : be [h4, h5] = ln) (hk : ln = k + 8) : udGet fl pt pr a0 a1 a2 a3 a4 a5 a6 a7 (h0 :: h1 :: h2 :: h3 :: h4 :: h5 :: h6 :: h7 :: r) = ((((be [h0, h1] : Nat) : Int), ((be [h2, h3] : Nat) : Int)), r.take k, 0) := by
  unfold udGet
  rw [if_neg (by rw [e]; decide)]
  have e8 : be (List.take 2 (List.drop 4 (h0 :: h1 :: h2 :: h3 :: h4 :: h5 :: h6 :: h7 :: r))) - 8 = k := by
    show be [h4, h5] - 8 = k
    omega
  rw [e8]
  rfl
open Go.RowKit

/-- A Reader at block g whose rest, where it is not empty, lies in a block that meets ok. -/
def Ro (w : World) (T : TypeId) (g : Nat) (ok : Nat → Prop) (l : List UInt8) (s : Bool) : Prop :=
  ∃ A n c, w.heap[g]? = some (.cells #[.slice A n c, .bool s] T (0, 0)) ∧ Sl w A n c l ∧ (0 < n → ∃ a o, A = some ⟨a, o, none⟩ ∧ ok a)
theorem Ro.rd {w : World} {T : TypeId} {g : Nat} {ok : Nat → Prop} {l : List UInt8} {s : Bool} (h : Ro w T g ok l s) : Rd w T g l s := by
  obtain ⟨A, n, c, h1, h2, _⟩ := h
  exact ⟨A, n, c, h1, h2⟩
theorem Ro.below {w w' : World} {T : TypeId} {g : Nat} {ok : Nat → Prop} {l : List UInt8} {s : Bool} (h : Ro w T g ok l s) (hb : Below w.heap.size w w') : Ro w' T g ok l s := by
  have hlt := h.rd.lt
  obtain ⟨A, n, c, h1, h2, h3⟩ := h
  exact ⟨A, n, c, (hb.block g hlt).trans h1, h2.below hb, h3⟩
/-- A store into a block that is neither the Reader's nor below the bound. -/
theorem Ro.setCell {w : World} {T : TypeId} {g q : Nat} {ok : Nat → Prop} {l : List UInt8} {s : Bool} (h : Ro w T g ok l s) (hq : ¬ ok q) (hne : q ≠ g) (i : Nat) (u : Value) : Ro (w.setCell ⟨q, i, none⟩ u) T g ok l s := by
  obtain ⟨A, n, c, h1, h2, h3⟩ := h
  have other : ∀ k, k ≠ q → (w.setCell ⟨q, i, none⟩ u).heap[k]? = w.heap[k]? := fun k hk => Below.heap_setCell w ⟨q, i, none⟩ u k (fun e => hk (by rw [e]))
  refine ⟨A, n, c, (other g (Ne.symm hne)).trans h1, ⟨h2.1, h2.2.1, h2.2.2.1, fun hn => ?_⟩, h3⟩
  obtain ⟨a, o, e, hc⟩ := h2.2.2.2 hn
  obtain ⟨a', o', e', hlt⟩ := h3 hn
  rw [e] at e'
  obtain ⟨rfl, rfl⟩ : a = a' ∧ o = o' := by injection e' with e'; injection e' with e1 e2; exact ⟨e1, e2⟩
  refine ⟨a, o, e, fun j b hj => ?_⟩
  exact (World.cell?_of_block (w := w) (other a (fun e => hq (e ▸ hlt)))).trans (hc j b hj)
theorem Ro.set {w w' : World} {T : TypeId} {g : Nat} {ok : Nat → Prop} {l l' : List UInt8} {s s' : Bool} {A : Option Addr} {n c : Nat} (hr : Ro w T g ok l s) (hg : w.grownBy w' (some g)) (hb : w'.heap[g]? = some (.cells #[.slice A n c, .bool s'] T (0, 0)))
    (hs : Sl w A n c l') (hB : 0 < n → ∃ a o, A = some ⟨a, o, none⟩ ∧ ok a) : Ro w' T g ok l' s' := ⟨A, n, c, hb, hs.far hr.rd hg, hB⟩
theorem take_yes_q (g : Nat) (ok : Nat → Prop) (l : List UInt8) (s : Bool) (k : Nat) (w : World) (hr : Ro w 134 g ok l s) (hk : k ≤ l.length) :
    Calls Tryz.prog 84 #[.pointer (some ⟨g, 0, none⟩), .int .i64 k] w fun e w' => ∃ A c, e = .returned (.slice A k c) ∧ Sl w' A k c (l.take k) ∧ Ro w' 134 g ok (l.drop k) s ∧ w.grownBy w' (some g) := by
  have hr' := hr
  obtain ⟨A, n, c, hb, hsl, hB⟩ := hr'
  have hn := hsl.1
  obtain ⟨hc0, hc1⟩ := cell_of_rd hb
  have hf0 : w.frozen? ⟨g, 0, none⟩ = false := by simp [World.frozen?, hb]
  have hf1 : w.frozen? ⟨g, 1, none⟩ = false := by simp [World.frozen?, hb]
  have hcap := hsl.2.1
  have b0 : (0 : Int) ≤ k := by omega
  have b1 : (k : Int) ≤ n := by omega
  have b2 : (n : Int) ≤ c := by omega
  have b3 : k ≤ n := by omega
  have hd := hsl.drop b3
  have ht := hsl.take b3
  by_cases hck : c = k
  · rw [if_pos hck] at hd
    have hg : w.grownBy (w.setCell ⟨g, 0, none⟩ (.slice A (n - k) (c - k))) (some g) := grown_set (World.grownBy.refl w _) 0 _
    have R : Ro (w.setCell ⟨g, 0, none⟩ (.slice A (n - k) (c - k))) 134 g ok (l.drop k) s := hr.set hg (set_first hb) hd (fun h => hB (by omega))
    have T := ht.far hr.rd hg
    clear hn hb hd ht hsl hB
    subst hck
    have b4 : n = c := by omega
    subst b4
    simp only [Nat.sub_self] at R T hg
    go_enter Tryz.func84, Tryz.ntmps84
    go_wp2
    go_ret
    exact ⟨A, n, rfl, T, R, hg⟩
  · rw [if_neg hck] at hd
    simp only [Nat.mul_one] at hd
    have hg : w.grownBy (w.setCell ⟨g, 0, none⟩ (.slice (A.map fun x => x.add k) (n - k) (c - k))) (some g) := grown_set (World.grownBy.refl w _) 0 _
    have R : Ro (w.setCell ⟨g, 0, none⟩ (.slice (A.map fun x => x.add k) (n - k) (c - k))) 134 g ok (l.drop k) s := hr.set hg (set_first hb) hd (fun h => by
      obtain ⟨a, o, rfl, hlt⟩ := hB (by omega)
      exact ⟨a, o + k, by simp [Addr.add_lit], hlt⟩)
    have T := ht.far hr.rd hg
    clear hn hb hd ht hsl hB
    have h0 : ¬ k = c := fun e => hck e.symm
    go_enter Tryz.func84, Tryz.ntmps84
    go_wp2
    all_goals (go_ret; exact ⟨A, c, rfl, T, R, hg⟩)

theorem number_yes_q (g : Nat) (ok : Nat → Prop) (l : List UInt8) (s : Bool) (k : Nat) (w : World) (hr : Ro w 134 g ok l s) (hk : k ≤ l.length) (h4 : k ≤ 4) (h0 : 0 < k) :
    Calls Tryz.prog 82 #[.pointer (some ⟨g, 0, none⟩), .int .i64 k] w fun e w' => e = .returned (.int .u32 (be (l.take k))) ∧ Ro w' 134 g ok (l.drop k) s ∧ w.grownBy w' (some g) := by
  go_enter Tryz.func82, Tryz.ntmps82
  go_wp2_with (go_at_call 84; refine (take_yes_q g ok l s k _ hr hk).mono ?_; rintro e w1 ⟨A, c, rfl, hsl, hr1, hg1⟩)
  obtain ⟨d, o, rfl, hc⟩ := hsl.2.2.2 h0
  have hlen := hsl.1
  obtain ⟨t, HT⟩ : ∃ t, Hid (l.take k = t) := ⟨_, rfl⟩
  rw [HT.out] at hc hlen
  clear hsl
  go_loop [5, 12] (fun v i => ∃ j : Nat, j ≤ k ∧ i = .int .i64 j ∧ v = .int .u32 (be (t.take j))) (fun _ i => k - (intOf i).toNat)
  case atStart => exact ⟨0, by omega, rfl, rfl⟩
  case round =>
    obtain ⟨j, hj, rfl, rfl⟩ := hrel
    have b0 : (0 : Int) ≤ k := by omega
    have b1 : (k : Int) ≤ 4 := by omega
    have b2 : (0 : Int) ≤ j := by omega
    by_cases hlt : j < k
    · have hjl : j < t.length := by omega
      have hcell := hc j _ (List.getElem?_eq_getElem hjl)
      have hbe : be (t.take (j + 1)) = be (t.take j) * 256 + t[j].toNat := by
        rw [List.take_succ_eq_append_getElem hjl, be_snoc]
      have hv : be (t.take j) < 256 ^ j := be_lt j _ (by rw [List.length_take]; omega)
      have hv' : (256 : Nat) ^ j ≤ 256 ^ 3 := Nat.pow_le_pow_right (by omega) (by omega)
      have hu := t[j].toNat_lt
      unfold u8v at hcell
      generalize t[j].toNat = u at *
      clear hc hlen hr1 hr hg1
      have HBE : Hid (be (t.take (j + 1)) = be (t.take j) * 256 + u) := hbe
      clear hbe
      generalize be (t.take j) = v at *
      have b3 : (0 : Int) ≤ v := by omega
      have b4 : (v : Int) < 16777216 := by omega
      have b5 : (0 : Int) ≤ u := by omega
      have b6 : (u : Int) < 256 := by omega
      clear hv hv'
      have hor := or_u32 v u (by omega) (by omega)
      go_wp2
      go_round
      case rel => exact ⟨j + 1, by omega, by go_num, by rw [HBE.out]; go_num⟩
      case measure => simp [intOf]; omega
    · go_wp2
      obtain rfl : j = k := by omega
      go_ret
      refine ⟨?_, hr1, hg1⟩
      rw [HT.out]
      show Ending.returned (.int .u32 (be (t.take j))) = _
      rw [List.take_of_length_le (by omega)]

theorem u16_yes_q (g : Nat) (ok : Nat → Prop) (l : List UInt8) (s : Bool) (w : World) (hr : Ro w 134 g ok l s) (hk : 2 ≤ l.length) :
    Calls Tryz.prog 43 #[.pointer (some ⟨g, 0, none⟩)] w fun e w' => e = .returned (.int .i64 (be (l.take 2))) ∧ Ro w' 134 g ok (l.drop 2) s ∧ w.grownBy w' (some g) := by
  have hlt := be_lt 2 (l.take 2) (by rw [List.length_take]; omega)
  have b1 : (be (l.take 2) : Int) < 65536 := by omega
  have b0 : 0 ≤ (be (l.take 2) : Int) := by omega
  go_enter Tryz.func43, Tryz.ntmps43
  go_wp2_with (go_at_call 82; refine (number_yes_q g ok l s 2 _ hr hk (by omega) (by omega)).mono ?_; rintro e w1 ⟨rfl, hr1, hg1⟩)
  go_ret
  exact ⟨rfl, hr1, hg1⟩
theorem Ro.grown {w w' : World} {T : TypeId} {g q : Nat} {ok : Nat → Prop} {l : List UInt8} {s : Bool} (h : Ro w T g ok l s) (hg : w.grownBy w' (some q)) (hq : ¬ ok q) (hne : q ≠ g) : Ro w' T g ok l s := by
  have hlt := h.rd.lt
  obtain ⟨A, n, c, h1, h2, h3⟩ := h
  refine ⟨A, n, c, (hg.block g hlt (fun e => hne (by injection e with e; exact e.symm))).trans h1, ⟨h2.1, h2.2.1, h2.2.2.1, fun hn => ?_⟩, h3⟩
  obtain ⟨a, o, e, hc⟩ := h2.2.2.2 hn
  obtain ⟨a', o', e', hlt'⟩ := h3 hn
  rw [e] at e'
  obtain ⟨rfl, rfl⟩ : a = a' ∧ o = o' := by injection e' with e'; injection e' with e1 e2; exact ⟨e1, e2⟩
  refine ⟨a, o, e, fun j b hj => ?_⟩
  have hc' := hc j b hj
  exact (World.cell?_of_block (w := w) (hg.block a (cell_lt hc') (fun e => by injection e with e; exact hq (e ▸ hlt')))).trans hc'
theorem Ro.drew {w : World} {T : TypeId} {g : Nat} {ok : Nat → Prop} {l : List UInt8} {s : Bool} (h : Ro w T g ok l s) : Ro w.drew T g ok l s := by
  obtain ⟨A, n, c, h1, h2, h3⟩ := h
  exact ⟨A, n, c, h1, h2.keep fun _ _ _ h => h, h3⟩
theorem bytes_q (g : Nat) (ok : Nat → Prop) (l : List UInt8) (s : Bool) (k : Nat) (w : World) (hr : Ro w 134 g ok l s) (hk : k ≤ l.length) (hs : k ≤ 140737488355328) :
    Calls Tryz.prog 47 #[.pointer (some ⟨g, 0, none⟩), .int .i64 k] w fun e w' => ∃ A c, e = .returned (.slice A k c) ∧ Sl w' A k c (l.take k) ∧ Ro w' 134 g ok (l.drop k) s ∧ w.grownBy w' (some g) ∧ Fr w.heap.size A k := by
  go_enter Tryz.func47, Tryz.ntmps47
  go_wp2_with (go_at_call 84; refine (take_yes_q g ok l s k _ hr hk).mono ?_; rintro e w1 ⟨A, c, rfl, hsl, hr1, hg1⟩)
  go_wp2_with (go_at_call 81; refine (join_f A none k c 0 0 _ [] w1 hsl (Sl.nil w1) (by omega)).mono ?_; rintro e w2 ⟨A', c', rfl, hsl2, bel, hfr⟩)
  go_ret
  simp only [Nat.add_zero, List.append_nil] at hsl2 hfr
  exact ⟨A', c', rfl, hsl2, hr1.below bel, hg1.trans (grown_of_below bel), hfr.mono hg1.size⟩

/-- A Reader's rest is new memory. -/
theorem read_q (A : Option Addr) (n c : Nat) (l : List UInt8) (w : World) (hl : Sl w A n c l) (hs : n ≤ 140737488355328) :
    Calls Tryz.prog 41 #[.slice A n c] w fun e w' => ∃ g, e = .returned (.pointer (some ⟨g, 0, none⟩)) ∧ Ro w' 134 g (fun k => w.heap.size ≤ k) l false ∧ Below w.heap.size w w' ∧ w.heap.size ≤ g := by
  go_enter Tryz.func41, Tryz.ntmps41
  go_wp2_with (go_at_call 81; refine (join_f A none n c 0 0 l [] w hl (Sl.nil w) (by omega)).mono ?_; rintro e w1 ⟨A', c', rfl, hsl, bel, hfr⟩)
  simp only [Nat.add_zero, List.append_nil] at hsl hfr
  go_ret
  have hn : Below w1.heap.size w1 (w1.alloc (Obj.cells #[Value.slice A' n c', Value.bool false] 134)) := (Below.refl _ _).alloc (Nat.le_refl _) _
  exact ⟨w1.heap.size, rfl, ⟨A', n, c', heap_alloc_new w1 _, hsl.below hn, hfr⟩, bel.alloc bel.size _, bel.size⟩
theorem u16_q2 (g : Nat) (ok : Nat → Prop) (x y : UInt8) (r : List UInt8) (s : Bool) (w : World) (hr : Ro w 134 g ok (x :: y :: r) s) :
    Calls Tryz.prog 43 #[.pointer (some ⟨g, 0, none⟩)] w fun e w' => e = .returned (.int .i64 (be [x, y] : Nat)) ∧ Ro w' 134 g ok r s ∧ w.grownBy w' (some g) := u16_yes_q g ok (x :: y :: r) s w hr (by simp)
open Go.RowKit

theorem av_rd {w : World} {T : TypeId} {A B : Option Addr} {n c m d g : Nat} {s : Bool} {l : List UInt8} (hs : Sl w A n c l) (h : w.heap[g]? = some (.cells #[.slice B m d, .bool s] T (0, 0))) : Av A n g := fun hn a o p e => by
  obtain ⟨a', o', e', hc⟩ := hs.2.2.2 hn
  rw [e] at e'
  injection e' with e'
  injection e' with e1 e2
  subst e1
  have hl : 0 < l.length := by have := hs.1; omega
  exact byte_not_rd h (hc 0 _ (List.getElem?_eq_getElem hl))
/-- The Reader's rest lies in A's block, or is empty. -/
theorem ro_in {w : World} {T : TypeId} {A : Option Addr} {n c g : Nat} {s : Bool} {l : List UInt8} (h : w.heap[g]? = some (.cells #[.slice A n c, .bool s] T (0, 0))) (hs : Sl w A n c l) : Ro w T g (fun a => ∃ o p, A = some ⟨a, o, p⟩) l s :=
  ⟨A, n, c, h, hs, fun hn => by obtain ⟨a, o, e, _⟩ := hs.2.2.2 hn; exact ⟨a, o, e, o, none, e⟩⟩
theorem ro_out {w : World} {T : TypeId} {A : Option Addr} {n g : Nat} {s : Bool} {l : List UInt8} (hn : l.length ≤ n) (h : Ro w T g (fun a => ∃ o p, A = some ⟨a, o, p⟩) l s) : ∃ A' n' c', w.heap[g]? = some (.cells #[.slice A' n' c', .bool s] T (0, 0)) ∧ Sl w A' n' c' l ∧ Sub A' n' A n := by
  obtain ⟨A', n', c', h1, h2, h3⟩ := h
  refine ⟨A', n', c', h1, h2, fun h0 => ⟨by have := h2.1; omega, fun a o p e => ?_⟩⟩
  obtain ⟨a', o', e', h⟩ := h3 h0
  rw [e] at e'
  injection e' with e'
  injection e' with e1 e2
  subst e1
  exact h
theorem rd_read (A : Option Addr) (n c : Nat) (l : List UInt8) (w : World) (hl : Sl w A n c l) (hs : n ≤ 140737488355328) :
    Calls Tryz.prog 41 #[.slice A n c] w fun e w' => ∃ g A' c', e = .returned (.pointer (some ⟨g, 0, none⟩)) ∧ w.heap.size ≤ g ∧ w'.heap[g]? = some (.cells #[.slice A' n c', .bool false] 134 (0, 0)) ∧ Sl w' A' n c' l ∧ Fr w.heap.size A' n ∧ Av A' n g ∧ Below w.heap.size w w' := by
  refine (read_q A n c l w hl hs).mono ?_
  rintro e w' ⟨g, rfl, ⟨A', n', c', h1, h2, h3⟩, hb, hg⟩
  obtain rfl : n = n' := hl.1.symm.trans h2.1
  exact ⟨g, A', c', rfl, hg, h1, h2, h3, av_rd h2 h1, hb⟩
theorem rd_u16c (x y : UInt8) (r : List UInt8) (g : Nat) (A : Option Addr) (n c : Nat) (s : Bool) (w : World) (h : w.heap[g]? = some (.cells #[.slice A n c, .bool s] 134 (0, 0))) (hs : Sl w A n c (x :: y :: r)) :
    Calls Tryz.prog 43 #[.pointer (some ⟨g, 0, none⟩)] w fun e w' => ∃ A' n' c', e = .returned (.int .i64 (be [x, y] : Nat)) ∧ w'.heap[g]? = some (.cells #[.slice A' n' c', .bool s] 134 (0, 0)) ∧ Sl w' A' n' c' r ∧ Sub A' n' A n ∧ w.grownBy w' (some g) := by
  refine (u16_q2 g _ x y r s w (ro_in h hs)).mono ?_
  rintro e w' ⟨rfl, h1, h3⟩
  obtain ⟨A', n', c', h4, h5, h6⟩ := ro_out (n := n) (by have := hs.1; simp at this; omega) h1
  exact ⟨A', n', c', rfl, h4, h5, h6, h3⟩
theorem rd_bytes (k : Nat) (g : Nat) (A : Option Addr) (n c : Nat) (l : List UInt8) (s : Bool) (w : World) (h : w.heap[g]? = some (.cells #[.slice A n c, .bool s] 134 (0, 0))) (hs : Sl w A n c l) (hk : k ≤ l.length) (hm : k ≤ 140737488355328) :
    Calls Tryz.prog 47 #[.pointer (some ⟨g, 0, none⟩), .int .i64 (k : Int)] w fun e w' => ∃ Ab cb A' n' c', e = .returned (.slice Ab k cb) ∧ w'.heap[g]? = some (.cells #[.slice A' n' c', .bool s] 134 (0, 0)) ∧ Sl w' A' n' c' (l.drop k) ∧ Sub A' n' A n ∧ Sl w' Ab k cb (l.take k) ∧ Fr w.heap.size Ab k ∧ w.grownBy w' (some g) := by
  refine (bytes_q g _ l s k w (ro_in h hs) hk hm).mono ?_
  rintro e w' ⟨Ab, cb, rfl, h0, h1, h3, hf⟩
  obtain ⟨A', n', c', h4, h5, h6⟩ := ro_out (n := n) (by rw [List.length_drop]; have := hs.1; omega) h1
  exact ⟨Ab, cb, A', n', c', rfl, h4, h5, h6, h0, hf, h3⟩
theorem rd_short (g : Nat) (A : Option Addr) (n c : Nat) (l : List UInt8) (s : Bool) (w : World) (h : w.heap[g]? = some (.cells #[.slice A n c, .bool s] 134 (0, 0))) (hs : Sl w A n c l) :
    Calls Tryz.prog 45 #[.pointer (some ⟨g, 0, none⟩)] w fun e w' => e = .returned (.bool s) ∧ w = w' := short_any g l s w ⟨A, n, c, h, hs⟩
open Go.RowKit

theorem ret_k {k : IntKind} {a b : Int} (h : a = b) : Ending.returned (.int k a) = .returned (.int k b) := by rw [h]
theorem idx4 (x0 x1 x2 x3 : Value) (W : World) : (Instr.index 35 (.agg #[x0, x1, x2, x3]) (.int .i64 0)).run Tryz.prog W = .ok x0 W ∧ (Instr.index 35 (.agg #[x0, x1, x2, x3]) (.int .i64 1)).run Tryz.prog W = .ok x1 W ∧
    (Instr.index 35 (.agg #[x0, x1, x2, x3]) (.int .i64 2)).run Tryz.prog W = .ok x2 W ∧ (Instr.index 35 (.agg #[x0, x1, x2, x3]) (.int .i64 3)).run Tryz.prog W = .ok x3 W := by
  simp [Instr.index, run_underlying Tryz.underlying35, asIntOf, go_sem]

set_option maxRecDepth 100000 in
set_option maxHeartbeats 1000000 in
theorem anum_any (a b c d : UInt8) (w : World) : Calls Tryz.prog 114 #[.agg #[.int .u8 (a.toNat : Int), .int .u8 (b.toNat : Int), .int .u8 (c.toNat : Int), .int .u8 (d.toNat : Int)]] w fun e w' => e = .returned (.int .u32 (be [a, b, c, d])) ∧ Below w.heap.size w w' := by
  have bel := (Below.refl w.heap.size w).alloc (Nat.le_refl _) (.cells #[.int .u8 (a.toNat : Int), .int .u8 (b.toNat : Int), .int .u8 (c.toNat : Int), .int .u8 (d.toNat : Int)] 35)
  have i0 := fun W => (idx4 (.int .u8 (a.toNat : Int)) (.int .u8 (b.toNat : Int)) (.int .u8 (c.toNat : Int)) (.int .u8 (d.toNat : Int)) W).1
  have i1 := fun W => (idx4 (.int .u8 (a.toNat : Int)) (.int .u8 (b.toNat : Int)) (.int .u8 (c.toNat : Int)) (.int .u8 (d.toNat : Int)) W).2.1
  have i2 := fun W => (idx4 (.int .u8 (a.toNat : Int)) (.int .u8 (b.toNat : Int)) (.int .u8 (c.toNat : Int)) (.int .u8 (d.toNat : Int)) W).2.2.1
  have i3 := fun W => (idx4 (.int .u8 (a.toNat : Int)) (.int .u8 (b.toNat : Int)) (.int .u8 (c.toNat : Int)) (.int .u8 (d.toNat : Int)) W).2.2.2
  have ha := a.toNat_lt; have hb := b.toNat_lt; have hc := c.toNat_lt; have hd := d.toNat_lt
  have h1 := or_u32 0 a.toNat (by omega) (by omega)
  have h1' : bits .or .u32 0 (a.toNat : Int) = a.toNat := by simpa using h1
  obtain ⟨n2, e2⟩ : ∃ n, n = a.toNat * 256 + b.toNat := ⟨_, rfl⟩
  have h2 : bits .or .u32 ((a.toNat : Int) * 256) (b.toNat : Int) = (n2 : Int) := by rw [e2]; exact or_u32 a.toNat b.toNat (by omega) (by omega)
  have g2 : n2 < 65536 := by omega
  obtain ⟨n3, e3⟩ : ∃ n, n = n2 * 256 + c.toNat := ⟨_, rfl⟩
  have h3 : bits .or .u32 ((n2 : Int) * 256) (c.toNat : Int) = (n3 : Int) := by rw [e3]; exact or_u32 n2 c.toNat (by omega) (by omega)
  have g3 : n3 < 16777216 := by omega
  obtain ⟨n4, e4⟩ : ∃ n, n = n3 * 256 + d.toNat := ⟨_, rfl⟩
  have h4 : bits .or .u32 ((n3 : Int) * 256) (d.toNat : Int) = (n4 : Int) := by rw [e4]; exact or_u32 n3 d.toNat (by omega) (by omega)
  have e : Hid (n4 = be [a, b, c, d]) := Lib.hid (by simp [be, e4, e3, e2])
  clear e2 e3 e4
  have x0 : (0 : Int) ≤ a.toNat := by omega
  have x1 : (a.toNat : Int) < 256 := by omega
  have x2 : (0 : Int) ≤ b.toNat := by omega
  have x3 : (b.toNat : Int) < 256 := by omega
  have x4 : (0 : Int) ≤ c.toNat := by omega
  have x5 : (c.toNat : Int) < 256 := by omega
  have x6 : (0 : Int) ≤ d.toNat := by omega
  have x7 : (d.toNat : Int) < 256 := by omega
  have y0 : (0 : Int) ≤ n2 := by omega
  have y1 : (n2 : Int) < 65536 := by omega
  have y2 : (0 : Int) ≤ n3 := by omega
  have y3 : (n3 : Int) < 16777216 := by omega
  clear h1 ha hb hc hd g2 g3
  go_enter Tryz.func114, Tryz.ntmps114
  go_wp2
  refine wp_loop_rounds 5 ?_
  rw [rounds_succ]
  go_wp2_with fail
  rw [rounds_succ]
  go_wp2_with fail
  rw [rounds_succ]
  go_wp2_with fail
  rw [rounds_succ]
  go_wp2_with fail
  rw [rounds_succ]
  go_wp2
  go_ret
  exact ⟨ret_k (congrArg _ e.out), bel⟩

/-- An address out of four bytes' number. -/
theorem four_of (p0 p1 p2 p3 : UInt8) : ((be [p0, p1, p2, p3] : Nat) : Int) / 16777216 = p0.toNat ∧ ((be [p0, p1, p2, p3] : Nat) : Int) / 65536 % 256 = p1.toNat ∧ ((be [p0, p1, p2, p3] : Nat) : Int) / 256 % 256 = p2.toNat ∧ ((be [p0, p1, p2, p3] : Nat) : Int) % 256 = p3.toNat := by
  have h0 := p0.toNat_lt; have h1 := p1.toNat_lt; have h2 := p2.toNat_lt; have h3 := p3.toNat_lt
  have e : be [p0, p1, p2, p3] = ((p0.toNat * 256 + p1.toNat) * 256 + p2.toNat) * 256 + p3.toNat := by simp [be]
  rw [e]
  generalize p0.toNat = a at *
  generalize p1.toNat = b at *
  generalize p2.toNat = c at *
  generalize p3.toNat = d at *
  omega
open Go.RowKit

theorem and1_i64 (n : Int) : bits .and .i64 n 1 = n % 2 := by
  show IntKind.i64.wrap ((BitVec.ofInt 64 n &&& BitVec.ofInt 64 1).toNat : Int) = _
  rw [BitVec.toNat_and, show (BitVec.ofInt 64 1).toNat = 2 ^ 1 - 1 from rfl, Nat.and_two_pow_sub_one_eq_mod, BitVec.toNat_ofInt]
  rw [IntKind.wrap_i64]
  omega
set_option maxRecDepth 100000 in
set_option maxHeartbeats 16000000 in
theorem whole_p (tos id fl pt ttl pr : Int) (a0 a1 a2 a3 a4 a5 a6 a7 : UInt8) (So Sb : Option Addr) (no co nb cb : Nat) (w : World) (hp0 : pt ≠ 0) : Calls Tryz.prog 32 #[.agg #[.int .i64 tos, .int .i64 id, .int .i64 fl, .int .i64 pt, .int .i64 ttl, .int .i64 pr, .int .u8 (a0.toNat : Int), .int .u8 (a1.toNat : Int), .int .u8 (a2.toNat : Int), .int .u8 (a3.toNat : Int), .int .u8 (a4.toNat : Int), .int .u8 (a5.toNat : Int), .int .u8 (a6.toNat : Int), .int .u8 (a7.toNat : Int), .slice So no co, .slice Sb nb cb]] w fun e w' => e = .returned (.bool false) ∧ Below w.heap.size w w' := by
  have t0 : (pt == 0) = false := by simpa using hp0
  clear hp0
  have bel := Below.refl w.heap.size w
  have hp : (w.alloc (.cells #[.int .i64 tos, .int .i64 id, .int .i64 fl, .int .i64 pt, .int .i64 ttl, .int .i64 pr, .int .u8 (a0.toNat : Int), .int .u8 (a1.toNat : Int), .int .u8 (a2.toNat : Int), .int .u8 (a3.toNat : Int), .int .u8 (a4.toNat : Int), .int .u8 (a5.toNat : Int), .int .u8 (a6.toNat : Int), .int .u8 (a7.toNat : Int), .slice So no co, .slice Sb nb cb] 38)).heap[w.heap.size]? = some (.cells #[.int .i64 tos, .int .i64 id, .int .i64 fl, .int .i64 pt, .int .i64 ttl, .int .i64 pr, .int .u8 (a0.toNat : Int), .int .u8 (a1.toNat : Int), .int .u8 (a2.toNat : Int), .int .u8 (a3.toNat : Int), .int .u8 (a4.toNat : Int), .int .u8 (a5.toNat : Int), .int .u8 (a6.toNat : Int), .int .u8 (a7.toNat : Int), .slice So no co, .slice Sb nb cb] 38 (0, 0)) := by have := heap_alloc_new w (.cells #[.int .i64 tos, .int .i64 id, .int .i64 fl, .int .i64 pt, .int .i64 ttl, .int .i64 pr, .int .u8 (a0.toNat : Int), .int .u8 (a1.toNat : Int), .int .u8 (a2.toNat : Int), .int .u8 (a3.toNat : Int), .int .u8 (a4.toNat : Int), .int .u8 (a5.toNat : Int), .int .u8 (a6.toNat : Int), .int .u8 (a7.toNat : Int), .slice So no co, .slice Sb nb cb] 38); simpa using this
  have zp : w.heap.size < (w.alloc (.cells #[.int .i64 tos, .int .i64 id, .int .i64 fl, .int .i64 pt, .int .i64 ttl, .int .i64 pr, .int .u8 (a0.toNat : Int), .int .u8 (a1.toNat : Int), .int .u8 (a2.toNat : Int), .int .u8 (a3.toNat : Int), .int .u8 (a4.toNat : Int), .int .u8 (a5.toNat : Int), .int .u8 (a6.toNat : Int), .int .u8 (a7.toNat : Int), .slice So no co, .slice Sb nb cb] 38)).heap.size := by simp
  replace bel := bel.alloc bel.size (.cells #[.int .i64 tos, .int .i64 id, .int .i64 fl, .int .i64 pt, .int .i64 ttl, .int .i64 pr, .int .u8 (a0.toNat : Int), .int .u8 (a1.toNat : Int), .int .u8 (a2.toNat : Int), .int .u8 (a3.toNat : Int), .int .u8 (a4.toNat : Int), .int .u8 (a5.toNat : Int), .int .u8 (a6.toNat : Int), .int .u8 (a7.toNat : Int), .slice So no co, .slice Sb nb cb] 38)
  go_enter Tryz.func32, Tryz.ntmps32
  have R3 := cell_lit hp 3 _ rfl
  have R7 := cell_lit hp 2 _ rfl
  go_wp2
  go_ret
  exact ⟨rfl, bel⟩
set_option maxRecDepth 100000 in
set_option maxHeartbeats 16000000 in
theorem whole_f (tos id fl pt ttl pr : Int) (a0 a1 a2 a3 a4 a5 a6 a7 : UInt8) (So Sb : Option Addr) (no co nb cb : Nat) (w : World) (hp0 : pt = 0) (hf0 : fl % 2 ≠ 0) : Calls Tryz.prog 32 #[.agg #[.int .i64 tos, .int .i64 id, .int .i64 fl, .int .i64 pt, .int .i64 ttl, .int .i64 pr, .int .u8 (a0.toNat : Int), .int .u8 (a1.toNat : Int), .int .u8 (a2.toNat : Int), .int .u8 (a3.toNat : Int), .int .u8 (a4.toNat : Int), .int .u8 (a5.toNat : Int), .int .u8 (a6.toNat : Int), .int .u8 (a7.toNat : Int), .slice So no co, .slice Sb nb cb]] w fun e w' => e = .returned (.bool false) ∧ Below w.heap.size w w' := by
  have t0 : (pt == 0) = true := by simpa using hp0
  clear hp0
  have ea := and1_i64 fl
  have t1 : (fl % 2 == 0) = false := by simpa using hf0
  clear hf0
  have bel := Below.refl w.heap.size w
  have hp : (w.alloc (.cells #[.int .i64 tos, .int .i64 id, .int .i64 fl, .int .i64 pt, .int .i64 ttl, .int .i64 pr, .int .u8 (a0.toNat : Int), .int .u8 (a1.toNat : Int), .int .u8 (a2.toNat : Int), .int .u8 (a3.toNat : Int), .int .u8 (a4.toNat : Int), .int .u8 (a5.toNat : Int), .int .u8 (a6.toNat : Int), .int .u8 (a7.toNat : Int), .slice So no co, .slice Sb nb cb] 38)).heap[w.heap.size]? = some (.cells #[.int .i64 tos, .int .i64 id, .int .i64 fl, .int .i64 pt, .int .i64 ttl, .int .i64 pr, .int .u8 (a0.toNat : Int), .int .u8 (a1.toNat : Int), .int .u8 (a2.toNat : Int), .int .u8 (a3.toNat : Int), .int .u8 (a4.toNat : Int), .int .u8 (a5.toNat : Int), .int .u8 (a6.toNat : Int), .int .u8 (a7.toNat : Int), .slice So no co, .slice Sb nb cb] 38 (0, 0)) := by have := heap_alloc_new w (.cells #[.int .i64 tos, .int .i64 id, .int .i64 fl, .int .i64 pt, .int .i64 ttl, .int .i64 pr, .int .u8 (a0.toNat : Int), .int .u8 (a1.toNat : Int), .int .u8 (a2.toNat : Int), .int .u8 (a3.toNat : Int), .int .u8 (a4.toNat : Int), .int .u8 (a5.toNat : Int), .int .u8 (a6.toNat : Int), .int .u8 (a7.toNat : Int), .slice So no co, .slice Sb nb cb] 38); simpa using this
  have zp : w.heap.size < (w.alloc (.cells #[.int .i64 tos, .int .i64 id, .int .i64 fl, .int .i64 pt, .int .i64 ttl, .int .i64 pr, .int .u8 (a0.toNat : Int), .int .u8 (a1.toNat : Int), .int .u8 (a2.toNat : Int), .int .u8 (a3.toNat : Int), .int .u8 (a4.toNat : Int), .int .u8 (a5.toNat : Int), .int .u8 (a6.toNat : Int), .int .u8 (a7.toNat : Int), .slice So no co, .slice Sb nb cb] 38)).heap.size := by simp
  replace bel := bel.alloc bel.size (.cells #[.int .i64 tos, .int .i64 id, .int .i64 fl, .int .i64 pt, .int .i64 ttl, .int .i64 pr, .int .u8 (a0.toNat : Int), .int .u8 (a1.toNat : Int), .int .u8 (a2.toNat : Int), .int .u8 (a3.toNat : Int), .int .u8 (a4.toNat : Int), .int .u8 (a5.toNat : Int), .int .u8 (a6.toNat : Int), .int .u8 (a7.toNat : Int), .slice So no co, .slice Sb nb cb] 38)
  go_enter Tryz.func32, Tryz.ntmps32
  have R3 := cell_lit hp 3 _ rfl
  have R7 := cell_lit hp 2 _ rfl
  go_wp2
  go_ret
  exact ⟨rfl, bel⟩
set_option maxRecDepth 100000 in
set_option maxHeartbeats 16000000 in
theorem whole_y (tos id fl pt ttl pr : Int) (a0 a1 a2 a3 a4 a5 a6 a7 : UInt8) (So Sb : Option Addr) (no co nb cb : Nat) (w : World) (hp0 : pt = 0) (hf0 : fl % 2 = 0) : Calls Tryz.prog 32 #[.agg #[.int .i64 tos, .int .i64 id, .int .i64 fl, .int .i64 pt, .int .i64 ttl, .int .i64 pr, .int .u8 (a0.toNat : Int), .int .u8 (a1.toNat : Int), .int .u8 (a2.toNat : Int), .int .u8 (a3.toNat : Int), .int .u8 (a4.toNat : Int), .int .u8 (a5.toNat : Int), .int .u8 (a6.toNat : Int), .int .u8 (a7.toNat : Int), .slice So no co, .slice Sb nb cb]] w fun e w' => e = .returned (.bool true) ∧ Below w.heap.size w w' := by
  have t0 : (pt == 0) = true := by simpa using hp0
  have ea := and1_i64 fl
  have t1 : (fl % 2 == 0) = true := by simpa using hf0
  clear hf0 hp0
  have bel := Below.refl w.heap.size w
  have hp : (w.alloc (.cells #[.int .i64 tos, .int .i64 id, .int .i64 fl, .int .i64 pt, .int .i64 ttl, .int .i64 pr, .int .u8 (a0.toNat : Int), .int .u8 (a1.toNat : Int), .int .u8 (a2.toNat : Int), .int .u8 (a3.toNat : Int), .int .u8 (a4.toNat : Int), .int .u8 (a5.toNat : Int), .int .u8 (a6.toNat : Int), .int .u8 (a7.toNat : Int), .slice So no co, .slice Sb nb cb] 38)).heap[w.heap.size]? = some (.cells #[.int .i64 tos, .int .i64 id, .int .i64 fl, .int .i64 pt, .int .i64 ttl, .int .i64 pr, .int .u8 (a0.toNat : Int), .int .u8 (a1.toNat : Int), .int .u8 (a2.toNat : Int), .int .u8 (a3.toNat : Int), .int .u8 (a4.toNat : Int), .int .u8 (a5.toNat : Int), .int .u8 (a6.toNat : Int), .int .u8 (a7.toNat : Int), .slice So no co, .slice Sb nb cb] 38 (0, 0)) := by have := heap_alloc_new w (.cells #[.int .i64 tos, .int .i64 id, .int .i64 fl, .int .i64 pt, .int .i64 ttl, .int .i64 pr, .int .u8 (a0.toNat : Int), .int .u8 (a1.toNat : Int), .int .u8 (a2.toNat : Int), .int .u8 (a3.toNat : Int), .int .u8 (a4.toNat : Int), .int .u8 (a5.toNat : Int), .int .u8 (a6.toNat : Int), .int .u8 (a7.toNat : Int), .slice So no co, .slice Sb nb cb] 38); simpa using this
  have zp : w.heap.size < (w.alloc (.cells #[.int .i64 tos, .int .i64 id, .int .i64 fl, .int .i64 pt, .int .i64 ttl, .int .i64 pr, .int .u8 (a0.toNat : Int), .int .u8 (a1.toNat : Int), .int .u8 (a2.toNat : Int), .int .u8 (a3.toNat : Int), .int .u8 (a4.toNat : Int), .int .u8 (a5.toNat : Int), .int .u8 (a6.toNat : Int), .int .u8 (a7.toNat : Int), .slice So no co, .slice Sb nb cb] 38)).heap.size := by simp
  replace bel := bel.alloc bel.size (.cells #[.int .i64 tos, .int .i64 id, .int .i64 fl, .int .i64 pt, .int .i64 ttl, .int .i64 pr, .int .u8 (a0.toNat : Int), .int .u8 (a1.toNat : Int), .int .u8 (a2.toNat : Int), .int .u8 (a3.toNat : Int), .int .u8 (a4.toNat : Int), .int .u8 (a5.toNat : Int), .int .u8 (a6.toNat : Int), .int .u8 (a7.toNat : Int), .slice So no co, .slice Sb nb cb] 38)
  go_enter Tryz.func32, Tryz.ntmps32
  have R3 := cell_lit hp 3 _ rfl
  have R7 := cell_lit hp 2 _ rfl
  go_wp2
  go_ret
  exact ⟨rfl, bel⟩
theorem ipwhole_any (tos id fl pt ttl pr : Int) (a0 a1 a2 a3 a4 a5 a6 a7 : UInt8) (So Sb : Option Addr) (no co nb cb : Nat) (w : World) : Calls Tryz.prog 32 #[.agg #[.int .i64 tos, .int .i64 id, .int .i64 fl, .int .i64 pt, .int .i64 ttl, .int .i64 pr, .int .u8 (a0.toNat : Int), .int .u8 (a1.toNat : Int), .int .u8 (a2.toNat : Int), .int .u8 (a3.toNat : Int), .int .u8 (a4.toNat : Int), .int .u8 (a5.toNat : Int), .int .u8 (a6.toNat : Int), .int .u8 (a7.toNat : Int), .slice So no co, .slice Sb nb cb]] w fun e w' => e = .returned (.bool (decide (pt = 0) && decide (fl % 2 = 0))) ∧ Below w.heap.size w w' := by
  by_cases h : pt = 0
  · by_cases h2 : fl % 2 = 0
    · rw [decide_eq_true h, decide_eq_true h2]; exact whole_y tos id fl pt ttl pr a0 a1 a2 a3 a4 a5 a6 a7 So Sb no co nb cb w h h2
    · rw [decide_eq_true h, decide_eq_false h2]; exact whole_f tos id fl pt ttl pr a0 a1 a2 a3 a4 a5 a6 a7 So Sb no co nb cb w h h2
  · rw [decide_eq_false h]; exact whole_p tos id fl pt ttl pr a0 a1 a2 a3 a4 a5 a6 a7 So Sb no co nb cb w h
open Go.RowKit

set_option maxHeartbeats 400000 in
theorem join_o (A B : Option Addr) (n c m d : Nat) (l t : List UInt8) (w : World) (hl : Sl w A n c l) (ht : Sl w B m d t) (hs : n + m ≤ 140737488355328) :
    Calls Tryz.prog 81 #[.slice A n c, .slice B m d] w fun e w' => ∃ v, e = .returned v ∧ w'.ownsRow w.heap.size 5 1 v (n + m) ((l ++ t).map u8v) ∧ Below w.heap.size w w' := by
  obtain ⟨i, hi, hz0, hz1, hz2⟩ := info_parts Tryz.info5
  have hb1 : (0 : Int) ≤ n := by omega
  have hb2 : (0 : Int) ≤ m := by omega
  have hb3 : (n : Int) + m ≤ 140737488355328 := by omega
  go_enter Tryz.func81, Tryz.ntmps81
  go_wp2_with (at_make; refine wpList_make_own _ rfl _ _ 36 rfl w.heap.size 5 i (.int .u8 0) 1 Tryz.underlying36 hi hz0 hz1 _ _ _ (n + m) rfl rfl ?b1 ?b2 ?b3 (Nat.le_refl _) ?_)
  case b1 => simp
  case b2 => rw [hz2]; omega
  case b3 => unfold maxLen; omega
  intro w1 hown hg1
  have bel1 : Below w.heap.size w w1 := (Below.refl _ _).grown hg1 (Nat.le_refl _) (fun k h => by cases h)
  have hsz : w.heap.size ≤ w1.heap.size := bel1.size
  go_wp2_with (at_builtin; refine wpList_append_bytes w1 rfl (.tmp 12) (.tmp 13) 36 rfl w.heap.size 5 i (.int .u8 0) Tryz.underlying36 hi hz0 hz1 hz2 rfl _ 0 [] rfl hown A n c l rfl (hl.below bel1) ?c1 ?c2 ?_)
  case c1 => omega
  case c2 => exact hsz
  intro v2 w2 hown2 hg2 hat2
  have bel2 : Below w.heap.size w w2 := bel1.grown hg2 hsz (fun k h => by simp [Value.ownBlock] at h; omega)
  have hv2 : ∀ k, v2.ownBlock = some k → w.heap.size ≤ k := by
    intro k hk
    rcases hat2 with h | h
    · rw [h] at hk; simp [Value.ownBlock] at hk; omega
    · rw [h] at hk; simp at hk; omega
  clear hat2
  go_wp2_with (at_builtin; refine wpList_append_bytes w2 rfl (.tmp 15) (.tmp 16) 36 rfl w.heap.size 5 i (.int .u8 0) Tryz.underlying36 hi hz0 hz1 hz2 rfl _ n l rfl hown2 B m d t rfl (ht.below bel2) ?c1 ?c2 ?_)
  case c1 => omega
  case c2 => exact bel2.size
  intro v3 w3 hown3 hg3 hat3
  have bel3 : Below w.heap.size w w3 := bel2.grown hg3 bel2.size hv2
  clear hat3 hv2
  rw [← List.map_append] at hown3
  go_wp2
  go_ret
  exact ⟨v3, rfl, hown3, bel3⟩

theorem w16_o (A : Option Addr) (n c : Nat) (l : List UInt8) (v0 : Int) (w : World) (hl : Sl w A n c l) (hs : n + 2 ≤ 140737488355328) :
    Calls Tryz.prog 80 #[.slice A n c, .int .i64 v0] w fun e w' => ∃ v, e = .returned v ∧ w'.ownsRow w.heap.size 5 1 v (n + 2) ((l ++ two v0).map u8v) ∧ Below w.heap.size w w' := by
  have hm := made2 v0 w
  have bel := (Below.refl w.heap.size w).alloc (Nat.le_refl _) (.cells #[.int .u8 (v0 / 256 % 256), .int .u8 (v0 % 256)] 5)
  have hl1 := hl.below bel
  go_enter Tryz.func80, Tryz.ntmps80
  go_wp2_with (go_at_call 81; refine (join_o A _ n c 2 2 l (two v0) _ hl1 hm hs).mono ?_; rintro e w1 ⟨v, rfl, hown, bel1⟩)
  go_ret
  exact ⟨v, rfl, ⟨hown.1, by rcases hown.2 with h | ⟨g, cap, cur, e, hb, h⟩; exact .inl h; exact .inr ⟨g, cap, cur, e, Nat.le_trans bel.size hb, h⟩⟩, bel.trans (bel1.mono bel.size)⟩
end Go.Proofs.YtbdaejodbcjmfaaGreat
